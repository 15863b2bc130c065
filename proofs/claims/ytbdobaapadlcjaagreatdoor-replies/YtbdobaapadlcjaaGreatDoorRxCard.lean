import Derived.Test.YtbdobaapadlcjaaGreatDoorRx23
import Derived.Test.YtbdobaapadlcjaaGreatDoorRx31
import Derived.Test.YtbdobaapadlcjaaGreatDoorRx22
import Derived.Test.YtbdobaapadlcjaaGreatDoorRx00
import Derived.Lib.LaidTab
import Derived.Deep.DeepWitnessRowRef
import Derived.LaidMore
set_option maxRecDepth 100000
set_option maxHeartbeats 8000000
set_option linter.unusedVariables false
set_option linter.unusedSimpArgs false
namespace Go.Proofs.YtbdobaapadlcjaaGreatDoor
open Go.RowKit
variable {w w':World}{col:Nat->Nat}{q B st b x:Nat}{now:Int}{T:List TypeId}
def rec9 (w w':World)(col:Nat->Nat):Nat->Nat:=fun q=>if w.heap.size<=q/\q<w'.heap.size then 9 else col q
theorem rec9_old (h:q<w.heap.size):rec9 w w' col q=col q:=if_neg (by omega)
theorem rec9_ne (hq:q<w'.heap.size)(h:rec9 w w' col q≠9):q<w.heap.size/\col q≠9:=by
 by_cases h1:q<w.heap.size
 ·rw[rec9_old h1]at h;exact⟨h1,h⟩
 ·exact absurd (if_pos ⟨by omega,hq⟩) h
theorem SG.recol {Z:Nat->Option BQ}{col':Nat->Nat}(h:SG B w st b now Z col)(ha:∀k,k<w.heap.size->col' k=col k):SG B w st b now Z col':=
 ⟨h.stb,h.tb,h.qr,fun i x hi hx k hk=>(ha k ((h.qr i x hi hx).lt k hk)).trans (h.cl i x hi hx k hk),h.lo,h.ls,by rw[ha st h.stb.lt];exact h.cs⟩
abbrev TRf:List TypeId:=[120,216,271,306,267]
theorem Bk.fr {c:Nat->Option QM}(h:Bk B w x st b now c col){T:List TypeId}(hf:Fr B T w w')(h1:∀t∈TA,t∉T)(h2:99∉T)(h3:221∉T):Bk B w' x st b now c col/\Bk B w' x st b now c (rec9 w w' col):=by
 obtain⟨⟨Z,hs,hc⟩,hw,hn,⟨o,room,hJ⟩,hfu⟩:=h;have hq:∀t∈TQ,t∉T:=fun t ht=>h1 t (ts_ta t (tq_ta ht))
 have hs2:=(hs.recol (col':=rec9 w w' col) (fun k hk=>rec9_old hk)).fr hf (h1 156 (by decide)) h3 hq;have hJ2:=(hJ.recol (col':=rec9 w w' col) (fun k hk e=>by rw[rec9_old hk]at e;exact e)).fr hf h2 (h1 143 (by decide)) (h1 110 (by decide)) (h1 116 (by decide));have hsz:=hf.size;refine⟨⟨⟨Z,hs.fr hf (h1 156 (by decide)) h3 hq,hc⟩,hw,hn,⟨o,room,hJ.fr hf h2 (h1 143 (by decide)) (h1 110 (by decide)) (h1 116 (by decide))⟩,fun k hk=>hfu k (by omega)⟩,⟨⟨Z,hs2,hc⟩,hw,hn,⟨o,room,hJ2⟩,fun k hk=>?_⟩⟩
 show (if _ then _ else _)≠9
 rw[if_neg (by omega)];exact hfu k (by omega)
theorem FqT.chg {c:Nat->Nat}(h:FqT T B c w w'):∃S,Tch S w w'/\∀k∈S,k<w.heap.size/\w'.heap[k]?≠w.heap[k]?:=by
 classical
 refine⟨(List.range w.heap.size).filter (fun k=>decide (w'.heap[k]?≠w.heap[k]?)),⟨h.os,h.tape,h.output,h.size,fun k hk hn=>?_⟩,fun k hk=>?_⟩
 ·apply Classical.byContradiction;intro hc;exact hn (List.mem_filter.2 ⟨List.mem_range.2 hk,decide_eq_true hc⟩)
 ·obtain⟨h1,h2⟩:=List.mem_filter.1 hk;exact⟨List.mem_range.1 h1,of_decide_eq_true h2⟩
theorem Bk.oth {c:Nat->Option QM}{cl:Nat->Nat}(h:Bk B w x st b now c col)(hf:FqT TA B cl w w')(hd:∀q,q<w.heap.size->col q≠9->cl q=9):Bk B w' x st b now c (rec9 w w' col):=by
 obtain⟨S,ht,hS⟩:=hf.chg;obtain⟨⟨Z,hs,hc⟩,hw,hn,⟨o,room,j,d,v,n,k,hJ⟩,hfu⟩:=h;have hcl:∀k,k<w.heap.size->col k≠9->k∉S:=fun k hk h9 hm=>(hS k hm).2 (hf.out k hk (hd k hk h9))
 have hty:∀(k:Nat) (C:Array Value) (t:TypeId),w.heap[k]?=some (.cells C t (0,0))->t∉TA->w'.heap[k]?=some (.cells C t (0,0)):=fun k C t hk ht=>hf.keep k C t hk ht
 have hsz:=hf.size;refine⟨⟨Z,⟨?_,?_,?_,?_,hs.lo,hs.ls,?_⟩,hc⟩,hw,hn,⟨o,room,j,d,v,n,k,hty _ _ _ hJ.hx (by decide),hJ.jr.tch ht (fun b hb=>hcl b (hJ.lt b hb) (hJ.cj b hb)),hJ.lo,hJ.bd,fun b hb=>?_⟩,fun k hk=>?_⟩
 ·exact(ht.block st hs.stb.lt (hcl st hs.stb.lt hs.cs)).trans hs.stb
 ·exact fun q f hq=>hty _ _ _ (hs.tb q f hq) (by decide)
 ·exact fun i x hi hx=>(hs.qr i x hi hx).tch ht (fun k hk=>hcl k ((hs.qr i x hi hx).lt k hk) (by rw[hs.cl i x hi hx k hk];omega))
 ·exact fun i x hi hx k hk=>(rec9_old ((hs.qr i x hi hx).lt k hk)).trans (hs.cl i x hi hx k hk)
 ·rw[rec9_old hs.stb.lt];exact hs.cs
 ·rw[rec9_old (hJ.lt b hb)];exact hJ.cj b hb
 ·show (if _ then _ else _)≠9
  rw[if_neg (by omega)];exact hfu k (by omega)
theorem Bk.mono {B':Nat}{c:Nat->Option QM}(h:Bk B w x st b now c col)(hB:B'<=B):Bk B' w x st b now c col:=by
 obtain⟨⟨Z,hs,hc⟩,hw,hn,⟨o,room,j,d,v,n,k,hJ⟩,hfu⟩:=h;exact⟨⟨Z,⟨hs.stb,hs.tb,hs.qr,hs.cl,fun i x hi hx k hk=>Nat.le_trans hB (hs.lo i x hi hx k hk),Nat.le_trans hB hs.ls,hs.cs⟩,hc⟩,hw,hn,⟨o,room,j,d,v,n,k,hJ.hx,hJ.jr,fun b hb=>Nat.le_trans hB (hJ.lo b hb),hJ.bd,hJ.cj⟩,hfu⟩
end Go.Proofs.YtbdobaapadlcjaaGreatDoor
namespace Go.Proofs.YtbdobaapadlcjaaGreatDoor.Ref
open Go.RowKit Go.Proofs.YtbdobaapadlcjaaGreatDoor
variable {B rb j N N' wb n:Nat}{w w' w0 w3:World}{now now':Int}{Z Z':RZ}{T:List TypeId}{ow ro pi ow' ro':Nat->Nat}{pv:Value}
theorem rdo_bad (rb:Nat)(s:ByteArray)(w:World)(hs:s.size<=maxLen)(hg:parseGood s=false):
  zT 104 #[.pointer (some ⟨rb,0,none⟩),.string s] w (.string ⟨#[1]⟩):=by
 have HP:Hid (zT 71 #[.string s] w (.tuple #[.agg #[.int .u8 0,.int .u8 0,.int .u8 0,.int .i64 0,.int .i64 0,.int .i64 0,.int .i64 0,.int .i64 0,.int .i64 0,.string ⟨#[]⟩,.string ⟨#[]⟩,.string ⟨#[]⟩,.string ⟨#[]⟩,.string ⟨#[]⟩,.slice none 0 0],.int .i64 1])):=by
  refine(parse_ref s w hs).mono ?_;rintro e w' ⟨h|h,hb⟩
  ·rw[hg]at h;exact absurd h.1 (by decide)
  ·exact⟨h.2,Tch.of_below hb⟩
 have HR:Hid (∀W,zT 140 #[.int .i64 1] W (.string ⟨#[1]⟩)):=fun W=>answer_any 1 W
 clear hs hg;go_enter Tryz.func104,Tryz.ntmps104;go_wp2_with fail;refine HP.out.mono ?_;rintro e w1 ⟨rfl,t1⟩;have T1:=zH t1;clear t1 HP;go_wp2_with fail;refine(HR.out _).mono ?_;rintro e w2 ⟨rfl,t2⟩;have T2:Hid (Tch [] w w2):=((T1.out.alloc _).trans t2 (by simp));clear t2 HR;go_wp2_with fail;go_ret;exact⟨rfl,T2.out⟩
theorem rdo_good (P:ByteArray->World->Prop)(rb:Nat)(s:ByteArray)(w:World)(hs:s.size<=maxLen)(hg:parseGood s=true)
  (HC:∀W x,Tch [] w W->Calls Tryz.prog 141 #[.pointer (some ⟨rb,0,none⟩),.agg (cellsOf (endSt s).r (Sl.v x))] W fun e w'=>∃t,e=.returned (.string t)/\P t w'):
  Calls Tryz.prog 104 #[.pointer (some ⟨rb,0,none⟩),.string s] w fun e w'=>∃t,e=.returned (.string t)/\P t w':=by
 have HP:Hid (Calls Tryz.prog 71 #[.string s] w fun e w'=>∃x:Sl,e=.returned (.tuple #[.agg (cellsOf (endSt s).r x.v),.int .i64 0])/\Tch [] w w'):=by
  refine(parse_ref s w hs).mono ?_;rintro e w' ⟨h|h,hb⟩
  ·obtain⟨_,x,he,_⟩:=h;exact⟨x,he,Tch.of_below hb⟩
  ·rw[hg]at h;exact absurd h.1 (by decide)
 have hinf:=info37;generalize (endSt s).r=r at*
 clear hs hg;go_enter Tryz.func104,Tryz.ntmps104;go_wp2_with fail;refine HP.out.mono ?_;rintro e w1 ⟨x,rfl,t1⟩;have HCW:Hid (Calls Tryz.prog 141 #[.pointer (some ⟨rb,0,none⟩),.agg (cellsOf r x.v)] (laidIn w1 (cellsOf r x.v)) fun e w'=>∃t,e=.returned (.string t)/\P t w'):=HC _ x (t1.trans (Tch.of_below (laidIn_below w1 _)) (fun _ h _=>h));clear t1 HP HC;go_wp2_with (first|(refine wpList_store_row rfl 27 _ _ rfl w1.heap.size (cellsOf r x.v) rfl rfl 27 _ (heap_alloc_new _ _) hinf rfl (cells_one _ _) ?_)|(refine wpList_load_row rfl 27 _ rfl w1.heap.size rfl 27 (cellsOf r x.v) (0,0) _ (laidIn_heap _ _) Tryz.underlying27 rfl hinf ?_));refine HCW.out.mono ?_;rintro e w2 ⟨t,rfl,hp⟩;have HPP:=zH hp;clear hp HCW;go_wp2_with fail;go_ret;exact⟨t,rfl,HPP.out⟩
theorem rdo_any (rb N:Nat)(now:Int)(Z:RZ)(s:ByteArray)(w:World)(h:RG w rb now Z)(hW:WFc (ctR Z))(hO:OpC (ctR Z))(hT:TRZ Z N)(hN:N<=4611686018427300000)(hn:0<=now/\now<=60000)(hs:s.size<=maxLen)(hnB:(opOf s).toNat≠66):
  Calls Tryz.prog 104 #[.pointer (some ⟨rb,0,none⟩),.string s] w fun e w'=>e=.returned (.string (doStr now (ctR Z) s).1)/\LQ rb Z w w' (doStr now (ctR Z) s).2.1 (doStr now (ctR Z) s).2.2 (N+40000):=by
 cases hg:parseGood s with
 | false=>
  have e:doStr now (ctR Z) s=(⟨#[1]⟩,now,ctR Z):=by unfold doStr;rw[hg];rfl
  rw[e];refine(rdo_bad rb s w hs hg).mono ?_;rintro e w' ⟨rfl,ht⟩;exact⟨rfl,Z,h.rgs ht,rfl,hT.mono (by omega)⟩
 | true=>
  have e:doStr now (ctR Z) s=doQ now (ctR Z) (endSt s).r:=by unfold doStr;rw[hg];rfl
  rw[e];have hop:=op_of s hg;obtain⟨hright,hpr⟩:=good_right s hg (by rw[hop];exact hnB);have hrq:=rq_ok (end_wf s) hright;refine(rdo_good (fun t w'=>t=(doQ now (ctR Z) (endSt s).r).1/\LQ rb Z w w' (doQ now (ctR Z) (endSt s).r).2.1 (doQ now (ctR Z) (endSt s).r).2.2 (N+40000)) rb s w hs hg (fun W x ht=>?_)).mono ?_
  ·refine(done_any rb N now Z (endSt s).r x W (h.tch ht (by simp)) hW hO hT hN hn hrq (by rw[hop];exact hnB)).mono ?_;rintro e w' ⟨t,he,h1,Z',h2,h3,h4⟩;exact⟨t,he,h1,Z',(h.rgs ht).trans h2,h3,h4⟩
  ·rintro e w' ⟨t,rfl,rfl,hl⟩;exact⟨rfl,hl⟩
structure Po where
 pb:Nat
 x:Nat
 d:Nat
 st:Nat
 b:Nat
 rb:Nat
 now:Int
 Z:RZ
 mv:Value
def poC (p:Po):Array Value:=#[.pointer (some ⟨p.x,0,none⟩),.pointer (some ⟨p.d,0,none⟩),p.mv,.slice none 0 0,.bool false,.bool false]
structure PoOk (B:Nat)(w:World)(i N:Nat)(ow ro pi:Nat->Nat)(p:Po):Prop where
 blk:w.heap[p.pb]?=some (.cells (poC p) 90 (0,0))
 pi:pi p.pb=i
 lo:B<=p.pb
 may:w.ownsRow 0 85 1 p.mv 1 [.pointer (some ⟨p.rb,0,none⟩)]
 bk:∃col,Bk B w p.x p.st p.b p.now (ctR p.Z) col/\∀q,q<w.heap.size->col q≠9->ow q=i
 rg:RG w p.rb p.now p.Z
 rl:∀k∈rgl p.rb p.Z,B<=k/\ro k=i
 oc:OpC (ctR p.Z)
 tr:TRZ p.Z N
theorem rg_fq {c:Nat->Nat}(h:RG w rb now Z)(hf:FqT TA B c w w'):RG w' rb now Z:=h.keep (fun k hk=>by
 obtain⟨C,t,ht,hC⟩:=h.ty hk;have h1:=hf.keep k C t hC (by
  simp only[List.mem_cons,List.not_mem_nil,or_false]at ht;rcases ht with rfl|rfl|rfl|rfl|rfl<;>decide)
 exact h1.trans hC.symm)
theorem rg_fr (h:RG w rb now Z)(hf:Fr B T w w')(hT:∀t∈TRf,t∉T):RG w' rb now Z:=h.keep (fun k hk=>by
 obtain⟨C,t,ht,hC⟩:=h.ty hk;exact(hf.keep k C t hC (hT t ht)).trans hC.symm)
theorem rgs_fr (h:RG w rb now Z)(hs:RGS w w' rb Z now' Z')(hB:B<=w.heap.size)(hl:∀k∈rgl rb Z,B<=k):Fr B TRf w w':=Fr.of_tch hs.tch hB hl (fun k hk C t hC=>by
 obtain⟨C',t',ht,hC'⟩:=h.ty hk;rw[ty_ne hC hC'];exact ht)
theorem PoOk.o1 {p:Po}(h:PoOk B w j N ow ro pi p){cl:Nat->Nat}(hf:FqT TA B cl w w')(hd:∀q,q<w.heap.size->ow q=j->cl q=9){ow' ro':Nat->Nat}(hw:∀q,q<w.heap.size->ow' q=ow q)(hr:∀q,q<w.heap.size->ro' q=ro q):PoOk B w' j N ow' ro' pi p:=by
 obtain⟨col,hb,hc⟩:=h.bk;refine⟨hf.keep _ _ _ h.blk (by decide),h.pi,h.lo,hf.own h.may (by decide),⟨rec9 w w' col,hb.oth hf (fun q hq h9=>hd q hq (hc q hq h9)),fun q hq h9=>?_⟩,rg_fq h.rg hf,fun k hk=>⟨(h.rl k hk).1,?_⟩,h.oc,h.tr⟩
 ·obtain⟨h1,h2⟩:=rec9_ne hq h9;rw[hw q h1];exact hc q h1 h2
 ·rw[hr k (h.rg.lt k hk)];exact(h.rl k hk).2
theorem PoOk.o3 {p:Po}(h:PoOk B w j N ow ro pi p){T:List TypeId}(hf:Fr B T w w')(hk:w'.heap[p.pb]?=w.heap[p.pb]?)(hT:∀t∈85::99::221::(TA++TRf),t∉T){ow' ro':Nat->Nat}(hw:∀q,q<w.heap.size->ow' q=ow q)(hr:∀q,q<w.heap.size->ro' q=ro q):PoOk B w' j N ow' ro' pi p:=by
 obtain⟨col,hb,hc⟩:=h.bk;have h85:=hT 85 (by decide);have h99:=hT 99 (by decide);have h221:=hT 221 (by decide);have hTA:∀t∈TA,t∉T:=fun t ht=>hT t (by simp only[List.mem_cons,List.mem_append];exact .inr (.inr (.inr (.inl (by simpa using ht)))))
 have hTR:∀t∈TRf,t∉T:=fun t ht=>hT t (by simp only[List.mem_cons,List.mem_append];exact .inr (.inr (.inr (.inr (by simpa using ht)))))
 refine⟨hk.trans h.blk,h.pi,h.lo,hf.own h.may h85,⟨rec9 w w' col,(hb.fr hf hTA h99 h221).2,fun q hq h9=>?_⟩,rg_fr h.rg hf hTR,fun k hk=>⟨(h.rl k hk).1,?_⟩,h.oc,h.tr⟩
 ·obtain⟨h1,h2⟩:=rec9_ne hq h9;rw[hw q h1];exact hc q h1 h2
 ·rw[hr k (h.rg.lt k hk)];exact(h.rl k hk).2
theorem PoOk.o2 {p:Po}(h:PoOk B w j N ow ro pi p){rb:Nat}{now now':Int}{Z Z':RZ}(hg:RG w rb now Z)(hs:RGS w w' rb Z now' Z')(hB:B<=w.heap.size)(hl:∀k∈rgl rb Z,B<=k/\ro k≠j):PoOk B w' j N ow ro pi p:=by
 have hf:=rgs_fr hg hs hB (fun k hk=>(hl k hk).1);obtain⟨col,hb,hc⟩:=h.bk;refine⟨hf.keep _ _ _ h.blk (by decide),h.pi,h.lo,hf.own h.may (by decide),⟨rec9 w w' col,(hb.fr hf (by decide) (by decide) (by decide)).2,fun q hq h9=>?_⟩,h.rg.tch hs.tch (fun k hk hm=>(hl k hm).2 (h.rl k hk).2),h.rl,h.oc,h.tr⟩
 obtain⟨h1,h2⟩:=rec9_ne hq h9;exact hc q h1 h2
theorem PoOk.mono {p:Po}(h:PoOk B w j N ow ro pi p)(hN:N<=N'):PoOk B w j N' ow ro pi p:=⟨h.blk,h.pi,h.lo,h.may,h.bk,h.rg,h.rl,h.oc,h.tr.mono hN⟩
structure PW (B:Nat)(w0 w:World)(wb:Nat)(pv:Value)(ps:List Po)(N:Nat):Prop where
 blk:w.heap[wb]?=some (.cells #[pv,.slice none 0 0] 64 (0,0))
 lo:B<=wb
 row:w.ownsRow 0 87 1 pv ps.length (ps.map (fun p=>Value.pointer (some ⟨p.pb,0,none⟩)))
 pl:∀k,pv.ownBlock=some k->B<=k
 own:∃ow ro pi,∀i (hi:i<ps.length),PoOk B w i N ow ro pi ps[i]
 env:Env B w
 bel:Below B w0 w
theorem PW.did {w1 w2:World}{ps:List Po}(h:PW B w0 w wb pv ps N){i:Nat}(hi:i<ps.length){ow ro pi:Nat->Nat}(hO:∀i (hi:i<ps.length),PoOk B w i N ow ro pi ps[i]){col:Nat->Nat}(hb:Bk B w ps[i].x ps[i].st ps[i].b ps[i].now (ctR ps[i].Z) col)(hc:∀q,q<w.heap.size->col q≠9->ow q=i){n1:Int}{c1:Nat->Option QM}(hd:Did B ps[i].x ps[i].st ps[i].b w col n1 c1 w1)
  {Z':RZ}(hs:RGS w1 w2 ps[i].rb ps[i].Z n1 Z')(hz:ctR Z'=c1)(hop:OpC c1){N':Nat}(hN:N<=N')(hT:TRZ Z' N'){mv':Value}(ht:Tch [ps[i].pb] w2 w3)(hbl:w3.heap[ps[i].pb]?=some (.cells (poC {ps[i] with mv:=mv'}) 90 (0,0)))(hm:w3.ownsRow 0 85 1 mv' 1 [.pointer (some ⟨ps[i].rb,0,none⟩)]):
  PW B w0 w3 wb pv (ps.set i {ps[i] with now:=n1,Z:=Z',mv:=mv'}) N':=by
 obtain⟨col',hb1,ha,hf1⟩:=hd;have hB:=h.env.size;have hz1:=hf1.size;have hz2:=hs.tch.size;have hPi:=hO i hi;have hg1:=rg_fq hPi.rg hf1;have hf2:Fr B TRf w1 w2:=rgs_fr hg1 hs (by omega) (fun k hk=>(hPi.rl k hk).1);have b1:w1.heap[ps[i].pb]?=some (.cells (poC ps[i]) 90 (0,0)):=hf1.keep _ _ _ hPi.blk (by decide);have b2:w2.heap[ps[i].pb]?=some (.cells (poC ps[i]) 90 (0,0)):=hf2.keep _ _ _ b1 (by decide);have hf3:Fr B [90] w2 w3:=Fr.one ht (by omega) hPi.lo b2 (by simp);have hpt:(ps.set i {ps[i] with now:=n1,Z:=Z',mv:=mv'}).map (fun p=>Value.pointer (some ⟨p.pb,0,none⟩))=ps.map (fun p=>Value.pointer (some ⟨p.pb,0,none⟩)):=by
  rw[List.map_set];apply List.ext_getElem?;intro n;rw[List.getElem?_set]
  split
  ·rename_i e
   subst e
   split
   ·rw[List.getElem?_map,List.getElem?_eq_getElem hi];rfl
   ·rename_i hn
    rw[List.length_map]at hn;omega
  ·rfl
 refine⟨?_,h.lo,?_,h.pl,⟨fun q=>if q<w.heap.size then ow q else i,fun q=>if q<w.heap.size then ro q else i,pi,fun j hj=>?_⟩,((h.env.fq hf1).fr hf2).fr hf3,((h.bel.trans hf1.below).trans hf2.below).trans hf3.below⟩
 ·exact hf3.keep _ _ _ (hf2.keep _ _ _ (hf1.keep _ _ _ h.blk (by decide)) (by decide)) (by decide)
 ·rw[List.length_set,hpt];exact hf3.own (hf2.own (hf1.own h.row (by decide)) (by decide)) (by decide)
 ·have hj':j<ps.length:=by rw[List.length_set]at hj;exact hj
  by_cases e:i=j
  ·subst e;rw[List.getElem_set_self];refine⟨hbl,hPi.pi,hPi.lo,hm,⟨col',?_,fun q hq h9=>?_⟩,?_,fun k hk=>?_,by rw[hz];exact hop,hT⟩
   ·show Bk B w3 ps[i].x ps[i].st ps[i].b n1 (ctR Z') col'
    rw[hz];exact((hb1.fr hf2 (by decide) (by decide) (by decide)).1.fr hf3 (by decide) (by decide) (by decide)).1
   ·show (if q<w.heap.size then ow q else i)=i
    by_cases hq2:q<w.heap.size
    ·rw[if_pos hq2];rw[ha.1 q hq2]at h9;exact hc q hq2 h9
    ·rw[if_neg hq2]
   ·exact rg_fr hs.rg hf3 (by decide)
   ·show B<=k/\(if k<w.heap.size then ro k else i)=i
    rcases hs.new k hk with h1|h1
    ·obtain⟨h2,h3⟩:=hPi.rl k h1;refine⟨h2,?_⟩;rw[if_pos (hPi.rg.lt k h1)];exact h3
    ·refine⟨by omega,?_⟩;rw[if_neg (by omega)]
  ·rw[List.getElem_set_ne e];have hPj:=hO j hj';have p1:=hPj.o1 (ow':=fun q=>if q<w.heap.size then ow q else i) (ro':=fun q=>if q<w.heap.size then ro q else i) hf1 (fun q hq h9=>by
    apply Classical.byContradiction;intro hne;exact e ((hc q hq hne).symm.trans h9)) (fun q hq=>if_pos hq) (fun q hq=>if_pos hq)
   have p2:=p1.o2 hg1 hs (by omega) (fun k hk=>by
    obtain⟨h2,h3⟩:=hPi.rl k hk;refine⟨h2,?_⟩
    show (if k<w.heap.size then ro k else i)≠j
    rw[if_pos (hPi.rg.lt k hk),h3];exact e)
   have hne:ps[j].pb≠ps[i].pb:=fun e2=>e (by rw[<-hPi.pi,<-hPj.pi,e2])
   exact(p2.o3 hf3 (ht.block _ (lt_of_block p2.blk) (by simpa using hne)) (by decide) (fun q _=>rfl) (fun q _=>rfl)).mono hN
theorem wpick_any (c:Int)(n:Nat)(hc:-9223372036854775808<=c/\c<=9223372036854775807)(hn:0<n)(hn2:n<=4611686018427387904):
  ∃i:Nat,i<n/\∀w,zE 47 #[.int .i64 c,.int .i64 (n:Nat)] w (.int .i64 (i:Nat)):=by
 have key:∀z:Int,0<=z->∃i:Nat,i<n/\Int.tmod z (n:Int)=(i:Int):=fun z hz=>by
  obtain⟨m,rfl⟩:=Int.eq_ofNat_of_zero_le hz;refine⟨m % n,Nat.mod_lt _ hn,?_⟩;rw[Int.tmod_eq_emod_of_nonneg hz];rfl
 by_cases hneg:c<0
 ·have hw1:wrap64 (c+1)=c+1:=by simp[wrap64];omega
  have hw2:wrap64 (-(c+1))=-(c+1):=by simp[wrap64];omega
  obtain⟨i,hi,he⟩:=key (-(c+1)) (by omega);refine⟨i,hi,fun w=>?_⟩
  go_enter Tryz.func47,Tryz.ntmps47;go_wp2_with fail;go_ret;exact⟨rfl,rfl⟩
 ·obtain⟨i,hi,he⟩:=key c (by omega);refine⟨i,hi,fun w=>?_⟩
  go_enter Tryz.func47,Tryz.ntmps47;go_wp2_with fail;go_ret;exact⟨rfl,rfl⟩
theorem looks_nil (wb:Nat)(w:World)(hc:w.cell? ⟨wb,1,none⟩=some (.slice none 0 0)):
  zE 29 #[.pointer (some ⟨wb,0,none⟩)] w (.bool true):=by
 go_enter Tryz.func29,Tryz.ntmps29;go_wp2_with fail;refine wp_loop_rounds 1 ?_;rw[rounds_succ];go_wp2_with fail;go_ret;exact⟨rfl,rfl⟩
theorem info85:(Tryz.prog.info? 85).map (fun i=>(i.zero,i.size,i.bytes))=some (some (.pointer none),1,8):=by kernel_rfl
abbrev poV (xp dp mv:Value):Array Value:=#[xp,dp,mv,.slice none 0 0,.bool false,.bool false]
theorem heard_any (I:World->Prop)(pb rb:Nat)(xp dp mv:Value)(s a:ByteArray)(w:World)(hb:w.heap[pb]?=some (.cells (poV xp dp mv) 90 (0,0)))(hm:w.ownsRow 0 85 1 mv 1 [.pointer (some ⟨rb,0,none⟩)])
  (HC:Calls Tryz.prog 104 #[.pointer (some ⟨rb,0,none⟩),.string s] w fun e w'=>e=.returned (.string a)/\I w'/\w'.heap[pb]?=some (.cells (poV xp dp mv) 90 (0,0))/\w'.ownsRow 0 85 1 mv 1 [.pointer (some ⟨rb,0,none⟩)]):
  Calls Tryz.prog 77 #[.pointer (some ⟨pb,0,none⟩),.string s,.string a] w fun e w'=>e=.returned (.bool true)/\∃w2 mv',I w2/\Tch [pb] w2 w'/\w'.heap[pb]?=some (.cells (poV xp dp mv') 90 (0,0))/\w'.ownsRow 0 85 1 mv' 1 [.pointer (some ⟨rb,0,none⟩)]:=by
 have HCW:=zH HC;obtain⟨gm,cm,rfl⟩:=own_some hm;have HAT:Hid (∀W:World,W.ownsRow 0 85 1 (.slice (some ⟨gm,0,none⟩) 1 cm) 1 [.pointer (some ⟨rb,0,none⟩)]->W.cell? ⟨gm,0,none⟩=some (Value.pointer (some ⟨rb,0,none⟩))/\gm<W.heap.size):=fun W ho=>by
  obtain⟨g,c,e,lg,hcs⟩:=own_at (fun v:Value=>[v]) 1 (fun _=>rfl) (l:=[.pointer (some ⟨rb,0,none⟩)]) (v:=.slice (some ⟨gm,0,none⟩) 1 cm) (t:=85) (w:=W) (by simpa using ho) 0 (by simp);simp only[Value.slice.injEq,Option.some.injEq,Addr.mk.injEq,and_true]at e;obtain⟨rfl,_⟩:=e;have:=hcs 0 _ rfl;simp only[Nat.zero_mul,Nat.add_zero]at this;exact⟨this,lg⟩
 obtain⟨c0,l0⟩:=HAT.out w hm;have p2:w.cell? ⟨pb,2,none⟩=some (.slice (some ⟨gm,0,none⟩) 1 cm):=cell_qC hb 2 _ rfl;have lp:=lt_of_block hb;clear hb hm HC;go_enter Tryz.func77,Tryz.ntmps77;go_wp2_with fail;refine wp_loop_rounds 2 ?_;rw[rounds_succ];go_wp2_with fail;refine HCW.out.mono ?_;rintro e w1 ⟨rfl,hI,hb1,hm1⟩;have HI:=zH hI;have HB1:=zH hb1;clear c0 l0 p2 lp HCW;obtain⟨c0,l0⟩:=HAT.out w1 hm1;have p2:w1.cell? ⟨pb,2,none⟩=some (.slice (some ⟨gm,0,none⟩) 1 cm):=cell_qC hb1 2 _ rfl;have lp:=lt_of_block hb1;clear hI hb1 hm1;have HNEW:Hid ((w1.alloc (.cells #[.pointer (some ⟨rb,0,none⟩)] 85)).heap[w1.heap.size]?=some (.cells #[.pointer (some ⟨rb,0,none⟩)] 85 (0,0))):=heap_alloc_new _ _;have HT1:Hid (Tch [] w1 (w1.alloc (.cells #[.pointer (some ⟨rb,0,none⟩)] 85))):=(Tch.refl [] _).alloc _;go_wp2_with (at_builtin;refine wpList_vals _ rfl _ _ 88 85 rfl Tryz.underlying88 (.pointer none) 1 8 info85 rfl (by decide) (by decide) (.slice none 0 0) 0 [] ?hvs ?hvo w1.heap.size [.pointer (some ⟨rb,0,none⟩)] 1 ?hvx rfl (by decide) ?hvg ?hv1 (by omega) ?hk)
 (try case hvs=>simp[Act.eval,Act.put])
 case hvo=>exact World.ownsRow_nil _ _ _ _
 (try case hvx=>simp[Act.eval,Act.put])
 case hvg=>first|exact HNEW.out|(have h:=HNEW.out;rw[Array.getElem?_eq_getElem (by simp)]at h;exact Option.some.inj h)
 case hv1=>first|exact rfl|(intro u hu;simp at hu;subst hu;rfl)
 intro v2 w2 ho2 hg2 hb2;obtain⟨g2,c2,rfl⟩:=own_some ho2;have T2:Hid (Tch [] w1 w2):=by
  have h1:=grown_tch hg2;exact HT1.out.trans (h1.sub (fun k hk _=>by simp[bl,Value.ownBlock]at hk)) (fun _ h _=>h)
 have HO2:=zH ho2;have HB2:=zH ((T2.out.block pb lp (by simp)).trans HB1.out);clear ho2 hg2 hb2 c0 l0 p2 lp;have p2:w2.cell? ⟨pb,2,none⟩=some (.slice (some ⟨gm,0,none⟩) 1 cm):=cell_qC HB2.out 2 _ rfl;have z2:w2.frozen? ⟨pb,2,none⟩=false:=frozen_of_row w2 _ _ _ 90 HB2.out;have lp:=lt_of_block HB2.out;have HB3:Hid ((w2.setCell ⟨pb,2,none⟩ (.slice (some ⟨g2,0,none⟩) 1 c2)).heap[pb]?=some (.cells (poV xp dp (.slice (some ⟨g2,0,none⟩) 1 c2)) 90 (0,0))):=blk_set HB2.out _ rfl;have HO3:Hid ((w2.setCell ⟨pb,2,none⟩ (.slice (some ⟨g2,0,none⟩) 1 c2)).ownsRow 0 85 1 (.slice (some ⟨g2,0,none⟩) 1 c2) 1 [.pointer (some ⟨rb,0,none⟩)]):=own_tch HO2.out ((Tch.refl [pb] _).setCell (fun _=>by simp) _) (fun k hk hm=>by
  simp at hm;subst hm;exact own_ne HO2.out HB2.out (by decide) hk)
 have HT3:Hid (Tch [pb] w1 (w2.setCell ⟨pb,2,none⟩ (.slice (some ⟨g2,0,none⟩) 1 c2))):=(T2.out.sub (by simp)).setCell (fun _=>by simp) _;go_wp2_with fail;rw[rounds_succ];go_wp2_with fail;go_ret;exact⟨rfl,w1,_,HI.out,HT3.out,HB3.out,HO3.out⟩
theorem doQ_ne (now:Int)(c:Nat->Option QM)(r:Wp.Rq):(doQ now c r).1.size≠0:=by
 have h1:∀b:UInt8,(⟨#[b]⟩:ByteArray).size≠0:=fun b=>by
  show (#[b]).size≠0
  simp
 have hok:∀l:List UInt8,(okL l).size≠0:=fun l=>by
  show (0::l).toArray.size≠0
  simp
 have hA:∀(f:Nat->QM->Nat->(Nat->Option QM)),(doA now c r f).1.size≠0:=fun f=>by
  unfold doA
  split
  ·exact h1 _
  ·split
   ·exact h1 _
   ·split
    ·exact hok _
    ·exact h1 _
 unfold doQ
 split
 ·split
  ·exact h1 _
  ·exact hok _
 ·split
  ·exact hA _
  ·split
   ·exact hA _
   ·split
    ·split
     ·exact hok _
     ·exact h1 _
    ·split
     ·exact h1 _
     ·split
      ·exact hok _
      ·split
       ·exact hok _
       ·split
        ·exact hok _
        ·split
         ·unfold doR
          split
          ·split<;>exact hok _
          ·exact hok _
         ·unfold doS
          split
          ·exact h1 _
          ·split
           ·exact hok _
           ·split
            ·exact h1 _
            ·split
             ·exact h1 _
             ·exact hok _
theorem doStr_ne (now:Int)(c:Nat->Option QM)(s:ByteArray):(doStr now c s).1.size≠0:=by
 unfold doStr
 split
 ·exact doQ_ne now c _
 ·show (#[1]:Array UInt8).size≠0
  simp
theorem doStr_op {c:Nat->Option QM}(h:OpC c)(s:ByteArray):OpC (doStr now c s).2.2:=by
 unfold doStr
 split
 ·exact h.doQ now _
 ·exact h
theorem did_any {ps:List Po}(h:PW B w0 w wb pv ps N)(i:Nat)(hi:i<ps.length)(hN:N<=4611686018427300000)(s:ByteArray)(hs:s.size<=maxLen)(hnB:(opOf s).toNat≠66):
  Calls Tryz.prog 48 #[.pointer (some ⟨ps[i].pb,0,none⟩),.string s] w fun e w'=>e=.returned (.bool true)/\∃p',PW B w0 w' wb pv (ps.set i p') (N+40000):=by
 obtain⟨ow,ro,pi,hO⟩:=h.own;have hP:=hO i hi;obtain⟨col,hb,hc⟩:=hP.bk;have HD:=zH (do_any B s ps[i].x ps[i].st ps[i].b ps[i].now (ctR ps[i].Z) col w h.env hb hs hnB);have HH:Hid (∀w1,Did B ps[i].x ps[i].st ps[i].b w col (doStr ps[i].now (ctR ps[i].Z) s).2.1 (doStr ps[i].now (ctR ps[i].Z) s).2.2 w1->Calls Tryz.prog 77 #[.pointer (some ⟨ps[i].pb,0,none⟩),.string s,.string (doStr ps[i].now (ctR ps[i].Z) s).1] w1 fun e w'=>e=.returned (.bool true)/\∃p',PW B w0 w' wb pv (ps.set i p') (N+40000)):=fun w1 hd=>by
  obtain⟨col',hb1,ha,hf1⟩:=id hd;have hg1:=rg_fq hP.rg hf1;have hbl1:w1.heap[ps[i].pb]?=some (.cells (poC ps[i]) 90 (0,0)):=hf1.keep _ _ _ hP.blk (by decide);have hmy1:=hf1.own hP.may (by decide);have hBz:B<=w1.heap.size:=Nat.le_trans h.env.size hf1.size;refine(heard_any (fun w2=>LQ ps[i].rb ps[i].Z w1 w2 (doStr ps[i].now (ctR ps[i].Z) s).2.1 (doStr ps[i].now (ctR ps[i].Z) s).2.2 (N+40000)) ps[i].pb ps[i].rb _ _ ps[i].mv s (doStr ps[i].now (ctR ps[i].Z) s).1 w1 hbl1 hmy1 ?_).mono ?_
  ·refine(rdo_any ps[i].rb N ps[i].now ps[i].Z s w1 hg1 hb.wf hP.oc hP.tr hN hb.nw hs hnB).mono ?_;rintro e w2 ⟨he,hl⟩;obtain⟨Z',h1,h2,h3⟩:=id hl;have hf2:=rgs_fr hg1 h1 hBz (fun k hk=>(hP.rl k hk).1);exact⟨he,hl,hf2.keep _ _ _ hbl1 (by decide),hf2.own hmy1 (by decide)⟩
  ·rintro e w3 ⟨he,w2,mv',⟨Z',h1,h2,h3⟩,h4,h5,h6⟩;exact⟨he,_,h.did (mv':=mv') hi hO hb hc hd h1 h2 (doStr_op hP.oc s) (by omega) h3 h4 h5 h6⟩
 have p0:w.cell? ⟨ps[i].pb,0,none⟩=some (.pointer (some ⟨ps[i].x,0,none⟩)):=cell_qC hP.blk 0 _ rfl;have HBL:Hid (∀w1,Did B ps[i].x ps[i].st ps[i].b w col (doStr ps[i].now (ctR ps[i].Z) s).2.1 (doStr ps[i].now (ctR ps[i].Z) s).2.2 w1->w1.cell? ⟨ps[i].pb,4,none⟩=some (.bool false)/\ps[i].pb<w1.heap.size):=fun w1 hd=>by
  obtain⟨col',hb1,ha,hf1⟩:=hd;have hbl1:w1.heap[ps[i].pb]?=some (.cells (poC ps[i]) 90 (0,0)):=hf1.keep _ _ _ hP.blk (by decide);exact⟨cell_qC hbl1 4 _ rfl,lt_of_block hbl1⟩
 have hne:=ne_nil _ (doStr_ne ps[i].now (ctR ps[i].Z) s);clear h hO hP hb hc hs hnB hN;generalize (doStr ps[i].now (ctR ps[i].Z) s).1=a at*
 generalize (doStr ps[i].now (ctR ps[i].Z) s).2.1=n1 at*
 generalize (doStr ps[i].now (ctR ps[i].Z) s).2.2=c1 at*
 generalize hpb:ps[i].pb=pb at*
 clear hpb;go_enter Tryz.func48,Tryz.ntmps48;go_wp2_with fail;refine HD.out.mono ?_;rintro e w1 ⟨rfl,hd⟩;obtain⟨p4,lp4⟩:=HBL.out w1 hd;have HH1:=zH (HH.out w1 hd);clear hd HD HH HBL p0;go_wp2_with fail;refine HH1.out.mono ?_;rintro e w2 ⟨rfl,hq⟩;have HQ:=zH hq;clear hq HH1;go_wp2_with fail;go_ret;exact⟨rfl,HQ.out⟩
theorem PoOk.rpi {pi':Nat->Nat}{p:Po}(h:PoOk B w j N ow ro pi p)(hp:pi' p.pb=pi p.pb):PoOk B w j N ow ro pi' p:=⟨h.blk,hp.trans h.pi,h.lo,h.may,h.bk,h.rg,h.rl,h.oc,h.tr⟩
theorem PW.opened {ps:List Po}(h:PW B w0 w wb pv ps N){x st b j d:Nat}(t3:Tch [] w w3)(ho:Opn w.heap.size w3 x st b j d (.slice none 0 0))(hd:w.heap.size<=d){pb rb:Nat}{mv pv':Value}(hf:Fr B [64,87] w3 w')(hbl:w'.heap[pb]?=some (.cells (poV (.pointer (some ⟨x,0,none⟩)) (.pointer (some ⟨d,0,none⟩)) mv) 90 (0,0)))(hpb:w.heap.size<=pb)(hrg:RG w' rb 0 (fun _=>none))(hrb:w.heap.size<=rb)(hm:w'.ownsRow 0 85 1 mv 1 [.pointer (some ⟨rb,0,none⟩)])(hw:w'.heap[wb]?=some (.cells #[pv',.slice none 0 0] 64 (0,0)))
  (hrow:w'.ownsRow 0 87 1 pv' (ps.length+1) (ps.map (fun p=>Value.pointer (some ⟨p.pb,0,none⟩))++[.pointer (some ⟨pb,0,none⟩)]))(hpl:∀k,pv'.ownBlock=some k->pv.ownBlock=some k\/w.heap.size<=k):PW B w0 w' wb pv' (ps++[⟨pb,x,d,st,b,rb,0,fun _=>none,mv⟩]) N:=by
 obtain⟨ow,ro,pi,hO⟩:=h.own;have hB:=h.env.size;have hz3:=t3.size;have hf3:Fr B [64,87] w w3:=Fr.of_nil _ t3 hB;have hff:=hf3.trans hf;refine⟨hw,h.lo,by simpa using hrow,fun k hk=>?_,⟨fun q=>if q<w.heap.size then ow q else ps.length,fun q=>if q<w.heap.size then ro q else ps.length,fun q=>if q=pb then ps.length else pi q,fun i hi=>?_⟩,h.env.fr hff,h.bel.trans hff.below⟩
 ·rcases hpl k hk with e|e
  ·exact h.pl k e
  ·omega
 ·by_cases e:i<ps.length
  ·rw[List.getElem_append_left e];have hPi:=hO i e;have hl:=lt_of_block hPi.blk;refine PoOk.rpi (pi:=pi) (hPi.o3 hff ((hff.keep _ _ _ hPi.blk (by decide)).trans hPi.blk.symm) (by decide) (fun q hq=>if_pos hq) (fun q hq=>if_pos hq)) (if_neg (by omega))
  ·have hie:i=ps.length:=by
    rw[List.length_append]at hi;simp at hi;omega
   subst hie;rw[List.getElem_append_right (Nat.le_refl _)];simp only[Nat.sub_self,List.getElem_cons_zero];have hb2:Bk w.heap.size w3 x st b 0 (fun _=>none) (fun q=>if q<w.heap.size then 9 else 0):=ho.bk hd _ (fun k hk=>by
    show (if k<w.heap.size then 9 else 0)≠9
    rw[if_neg (by omega)];decide) hz3
   have hct:ctR (fun _=>none)=(fun _=>none:Nat->Option QM):=rfl;refine⟨hbl,if_pos rfl,by show B<=pb;omega,hm,⟨fun q=>if q<w.heap.size then 9 else 0,?_,fun q hq h9=>?_⟩,hrg,fun k hk=>?_,fun i Q hQ=>?_,fun i y hi hy=>?_⟩
   ·show Bk B w' x st b 0 (ctR (fun _=>none)) _
    rw[hct];exact((hb2.mono hB).fr hf (by decide) (by decide) (by decide)).1
   ·show (if q<w.heap.size then ow q else ps.length)=ps.length
    by_cases hq2:q<w.heap.size
    ·exact absurd (if_pos hq2) h9
    ·rw[if_neg hq2]
   ·rcases mem_rgl.1 hk with e1|⟨i,y,hi,hy,_⟩
    ·have e2:=e1;subst e2;refine⟨by omega,?_⟩
     show (if k<w.heap.size then ro k else ps.length)=ps.length
     rw[if_neg (by omega)]
    ·cases hy
   ·cases hQ
   ·cases hy
theorem wpList_valsL (w:World){ops:Array Oper}{rest:List Oper}{o:Oper}{a:Act}{Q:Exit->Act->World->Prop}(hgd:o.guard=none)(s x:Operand)(t te:TypeId)
  (ho:o.op=.call {callee:=.builtin .append,args:=#[s,x],argTypes:=#[t,t]})(ht:Tryz.prog.underlying t=some (.slice te))(z:Value)(size bytes:Nat)
  (hinfo:(Tryz.prog.info? te).map (fun i=>(i.zero,i.size,i.bytes))=some (some z,size,bytes))(hzs:z.cells.size=size)(hsz:0<size)(hby:bytes<=8)
  (v:Value)(n:Nat)(xs:List Value)(hs:a.eval s=v)(hown:w.ownsRow 0 te size v n xs)(g:Nat)(news:List Value)(m:Nat)(hx:a.eval x=.slice (some ⟨g,0,none⟩) m m)(hm:news.length=m*size)(hm0:0<m)(hg:w.heap[g]?=some (.cells news.toArray te (0,0)))(hone:∀u∈news,u.oneCell'=true)(hn:n+m<=10000000000000)
  (h:∀v' w',w'.ownsRow 0 te size v' (n+m) (xs++news)->w.grownBy w' v.ownBlock->(v'.ownBlock=v.ownBlock\/v'.ownBlock=some w.heap.size)->wpList Tryz.prog ops Q rest (a.put o.dst v') w'):wpList Tryz.prog ops Q (o::rest) a w:=by
 obtain⟨i0,hi,hz0,hz1,hz2⟩:=info_parts hinfo;refine wpList_app w hgd s x t ho 0 te i0 _ size bytes ht hi hz0 hz1 hz2 hzs hsz v n xs hs hown ⟨g,0,none⟩ m m news hx hm ?_ hone (by unfold maxLen;omega) ?_ (Nat.zero_le _) hm0 h
 ·intro j u hj;have e:(⟨g,0,none⟩:Addr).add j=⟨g,j,none⟩:=by unfold Addr.add;split<;>simp_all
  rw[e,cell_of_row w g j _ te (0,0) hg,<-hj];simp
 ·have h1:(n+m)*bytes<=10000000000000*8:=Nat.mul_le_mul hn hby
  omega
theorem info87:(Tryz.prog.info? 87).map (fun i=>(i.zero,i.size,i.bytes))=some (some (.pointer none),1,8):=by kernel_rfl
theorem opened_any {ps:List Po}(h:PW B w0 w wb pv ps N)(hl:ps.length<=9000000000000):
  Calls Tryz.prog 27 #[.pointer (some ⟨wb,0,none⟩),.int .i64 (-1)] w fun e w'=>e=.returned (.bool true)/\∃pv' p,PW B w0 w' wb pv' (ps++[p]) N:=by
 have hd0:Dk.DBlk (w.alloc (.cells (Dk.dcells (.slice none 0 0) (-1) false) 110)) w.heap.size 110 (.slice none 0 0) (-1) false:=heap_alloc_new _ _;have HN:=zH (Dk.new_d w);have HS:Hid (Calls Tryz.prog 41 #[.pointer (some ⟨w.heap.size,0,none⟩),.int .i64 (-1)] (w.alloc (.cells (Dk.dcells (.slice none 0 0) (-1) false) 110)) fun e w'=>e=.returned (.tuple #[])/\Dk.DBlk w' w.heap.size 110 (.slice none 0 0) (-1) false/\Tch [] w w'):=(Dk.stop_d w.heap.size (.slice none 0 0) (-1) false (-1) _ hd0).mono (by
  rintro e w' ⟨he,h1,h2,h3⟩;refine⟨he,h1,(((Tch.refl [] w).alloc (.cells (Dk.dcells (.slice none 0 0) (-1) false) 110)).sub (S':=[w.heap.size]) (by simp)).trans h2 (fun k hk _=>hk) |>.sub (fun k hk hlt=>?_)⟩;simp at hk;omega)
 have HP:Hid (∀w2,Dk.DBlk w2 w.heap.size 110 (.slice none 0 0) (-1) false->zE 42 #[.pointer (some ⟨w.heap.size,0,none⟩)] w2 (.bool false)):=fun w2 h2=>Dk.stopped_d w.heap.size (.slice none 0 0) (-1) false w2 h2
 have HO:Hid (∀w2,Dk.DBlk w2 w.heap.size 110 (.slice none 0 0) (-1) false->Tch [] w w2->Calls Tryz.prog 40 #[.pointer (some ⟨w.heap.size,0,none⟩)] w2 fun e w'=>∃x st b j,e=.returned (.tuple #[.pointer (some ⟨x,0,none⟩),.int .i64 0])/\Tch [] w w'/\Opn w.heap.size w' x st b j w.heap.size (.slice none 0 0)):=fun w2 h2 t2=>(open_any w.heap.size (.slice none 0 0) w2 ⟨h2,⟨rfl,.inl ⟨rfl,rfl⟩⟩,by simp[Value.ownBlock]⟩).mono (by
  rintro e w' ⟨x,st,b,j,he,hb,ho⟩;have hz:=t2.size;refine⟨x,st,b,j,he,t2.trans (Tch.of_below hb) (fun _ h _=>h),ho.hx,ho.jr,ho.brk,?_⟩;obtain⟨l1,l2,l3,l4⟩:=ho.lo;exact⟨by omega,by omega,by omega,by omega⟩)
 have HW:=zH h;obtain⟨sa,sc,hpv⟩:=own_shape h.row;have HPV:=zH hpv;have HNW:Hid (∀W,Tch [] w W->Calls Tryz.prog 45 #[] W fun e w'=>∃rb,e=.returned (.pointer (some ⟨rb,0,none⟩))/\w.heap.size<=rb/\RG w' rb 0 (fun _=>none)/\Tch [] W w'):=fun W ht=>(Ref.new_any W).mono (by
  rintro e w' ⟨rb,he,h1,h2,h3⟩;exact⟨rb,he,Nat.le_trans ht.size h1,h2,h3⟩)
 clear h hd0 hpv;go_enter Tryz.func27,Tryz.ntmps27;go_wp2_with fail;refine HN.out.mono ?_;rintro e w1 ⟨rfl,h'⟩;subst h';clear HN;go_wp2_with fail;refine HS.out.mono ?_;rintro e w2 ⟨rfl,hd2,t2⟩;have HP2:=zH (HP.out w2 hd2);have HO2:=zH (HO.out w2 hd2 t2);clear hd2 t2 HS HP HO;go_wp2_with fail;refine HP2.out.mono ?_;rintro e w2' ⟨rfl,h'⟩;have h'':=h'.symm;subst h'';clear HP2;go_wp2_with fail;refine HO2.out.mono ?_;rintro e w3 ⟨x,st,b,j,rfl,t3,hop⟩;have T3:=zH t3;have HOP:=zH hop;clear HO2 t3 hop;go_wp2_with (go_at_call 43;go_in);refine(HNW.out w3 T3.out).mono ?_;rintro e w4 ⟨rb,rfl,hrb,hrg,t4⟩;have T34:=zH t4;have T4:Hid (Tch [] w w4):=T3.out.trans t4 (fun _ h _=>h);have HRG:=zH hrg;have HB4:Hid (w4.heap[wb]?=some (.cells #[pv,.slice none 0 0] 64 (0,0))):=(T4.out.block wb (lt_of_block HW.out.blk) (by simp)).trans HW.out.blk;have HR4:Hid (w4.ownsRow 0 87 1 (.slice sa ps.length sc) ps.length (ps.map (fun p=>Value.pointer (some ⟨p.pb,0,none⟩)))):=by
  rw[<-HPV.out];exact own_tch HW.out.row T4.out (fun _ _=>by simp)
 have b0:w4.cell? ⟨wb,0,none⟩=some (.slice sa ps.length sc):=by rw[<-HPV.out];exact cell_qC HB4.out 0 _ rfl
 have lb:=lt_of_block HB4.out;clear t4 hrg HNW;have HNEW:Hid ((((w4.alloc (.cells #[.pointer (some ⟨rb,0,none⟩)] 85)).alloc (.cells #[.pointer (some ⟨x,0,none⟩),.pointer (some ⟨w.heap.size,0,none⟩),.slice (some ⟨w4.heap.size,0,none⟩) 1 1,.slice none 0 0,.bool false,.bool false] 90)).alloc (.cells #[.pointer (some ⟨w4.heap.size+1,0,none⟩)] 87)).heap[w4.heap.size+2]?=some (.cells #[.pointer (some ⟨w4.heap.size+1,0,none⟩)] 87 (0,0))):=by
  have h1:=heap_alloc_new ((w4.alloc (.cells #[.pointer (some ⟨rb,0,none⟩)] 85)).alloc (.cells #[.pointer (some ⟨x,0,none⟩),.pointer (some ⟨w.heap.size,0,none⟩),.slice (some ⟨w4.heap.size,0,none⟩) 1 1,.slice none 0 0,.bool false,.bool false] 90)) (.cells #[.pointer (some ⟨w4.heap.size+1,0,none⟩)] 87);have e1:((w4.alloc (.cells #[.pointer (some ⟨rb,0,none⟩)] 85)).alloc (.cells #[.pointer (some ⟨x,0,none⟩),.pointer (some ⟨w.heap.size,0,none⟩),.slice (some ⟨w4.heap.size,0,none⟩) 1 1,.slice none 0 0,.bool false,.bool false] 90)).heap.size=w4.heap.size+2:=by simp
  rw[e1]at h1;exact h1
 have HPB:Hid ((((w4.alloc (.cells #[.pointer (some ⟨rb,0,none⟩)] 85)).alloc (.cells #[.pointer (some ⟨x,0,none⟩),.pointer (some ⟨w.heap.size,0,none⟩),.slice (some ⟨w4.heap.size,0,none⟩) 1 1,.slice none 0 0,.bool false,.bool false] 90)).alloc (.cells #[.pointer (some ⟨w4.heap.size+1,0,none⟩)] 87)).heap[w4.heap.size+1]?=some (.cells (poV (.pointer (some ⟨x,0,none⟩)) (.pointer (some ⟨w.heap.size,0,none⟩)) (.slice (some ⟨w4.heap.size,0,none⟩) 1 1)) 90 (0,0))):=by
  have h1:=heap_alloc_new (w4.alloc (.cells #[.pointer (some ⟨rb,0,none⟩)] 85)) (.cells #[.pointer (some ⟨x,0,none⟩),.pointer (some ⟨w.heap.size,0,none⟩),.slice (some ⟨w4.heap.size,0,none⟩) 1 1,.slice none 0 0,.bool false,.bool false] 90);have e1:(w4.alloc (.cells #[.pointer (some ⟨rb,0,none⟩)] 85)).heap.size=w4.heap.size+1:=by simp
  rw[e1]at h1;exact(((Tch.refl [] _).alloc (.cells #[.pointer (some ⟨w4.heap.size+1,0,none⟩)] 87)).block (w4.heap.size+1) (by simp) (by simp)).trans h1
 have HMB:Hid ((((w4.alloc (.cells #[.pointer (some ⟨rb,0,none⟩)] 85)).alloc (.cells #[.pointer (some ⟨x,0,none⟩),.pointer (some ⟨w.heap.size,0,none⟩),.slice (some ⟨w4.heap.size,0,none⟩) 1 1,.slice none 0 0,.bool false,.bool false] 90)).alloc (.cells #[.pointer (some ⟨w4.heap.size+1,0,none⟩)] 87)).heap[w4.heap.size]?=some (.cells #[.pointer (some ⟨rb,0,none⟩)] 85 (0,0))):=((((Tch.refl [] _).alloc (.cells #[.pointer (some ⟨x,0,none⟩),.pointer (some ⟨w.heap.size,0,none⟩),.slice (some ⟨w4.heap.size,0,none⟩) 1 1,.slice none 0 0,.bool false,.bool false] 90)).alloc (.cells #[.pointer (some ⟨w4.heap.size+1,0,none⟩)] 87)).block w4.heap.size (by simp) (by simp)).trans (heap_alloc_new w4 (.cells #[.pointer (some ⟨rb,0,none⟩)] 85));have HTA:Hid (Tch [] w4 (((w4.alloc (.cells #[.pointer (some ⟨rb,0,none⟩)] 85)).alloc (.cells #[.pointer (some ⟨x,0,none⟩),.pointer (some ⟨w.heap.size,0,none⟩),.slice (some ⟨w4.heap.size,0,none⟩) 1 1,.slice none 0 0,.bool false,.bool false] 90)).alloc (.cells #[.pointer (some ⟨w4.heap.size+1,0,none⟩)] 87))):=(((Tch.refl [] _).alloc _).alloc _).alloc _;have HZA:Hid ((((w4.alloc (.cells #[.pointer (some ⟨rb,0,none⟩)] 85)).alloc (.cells #[.pointer (some ⟨x,0,none⟩),.pointer (some ⟨w.heap.size,0,none⟩),.slice (some ⟨w4.heap.size,0,none⟩) 1 1,.slice none 0 0,.bool false,.bool false] 90)).alloc (.cells #[.pointer (some ⟨w4.heap.size+1,0,none⟩)] 87)).heap.size=w4.heap.size+3):=by
  show _=_
  simp
 go_wp2_with (at_builtin;refine wpList_valsL _ rfl _ _ 61 87 rfl Tryz.underlying61 (.pointer none) 1 8 info87 rfl (by decide) (by decide) (.slice sa ps.length sc) ps.length (ps.map (fun p=>Value.pointer (some ⟨p.pb,0,none⟩))) ?hvs ?hvo (w4.heap.size+2) [.pointer (some ⟨w4.heap.size+1,0,none⟩)] 1 ?hvx rfl (by decide) ?hvg ?hv1 (by omega) ?hk)
 (try case hvs=>simp[Act.eval,Act.put])
 case hvo=>exact own_tch HR4.out HTA.out (fun _ _=>by simp)
 (try case hvx=>simp[Act.eval,Act.put])
 case hvg=>first|exact HNEW.out|(have h:=HNEW.out;rw[Array.getElem?_eq_getElem (by simp)]at h;exact Option.some.inj h)
 case hv1=>first|exact rfl|(intro u hu;simp at hu;subst hu;rfl)
 intro v2 w5 ho5 hg5 hb5;obtain⟨g5,c5,rfl⟩:=own_some ho5;have T45:Hid (Tch (bl pv) w4 w5):=by
  have h1:=grown_tch hg5;rw[<-HPV.out]at h1;exact(HTA.out.sub (by simp)).trans h1 (fun _ h _=>h)
 have TA5:Hid (Tch (bl pv) (((w4.alloc (.cells #[.pointer (some ⟨rb,0,none⟩)] 85)).alloc (.cells #[.pointer (some ⟨x,0,none⟩),.pointer (some ⟨w.heap.size,0,none⟩),.slice (some ⟨w4.heap.size,0,none⟩) 1 1,.slice none 0 0,.bool false,.bool false] 90)).alloc (.cells #[.pointer (some ⟨w4.heap.size+1,0,none⟩)] 87)) w5):=by
  have h1:=grown_tch hg5;rw[<-HPV.out]at h1;exact h1
 have HPN:Hid (∀k∈bl pv,k<w.heap.size/\∃C,w4.heap[k]?=some (.cells C 87 (0,0))):=fun k hk=>by
  have e1:=mem_bl.1 hk;have h1:=own_lt HW.out.row e1;rw[HPV.out]at e1;exact⟨h1,own_ty HR4.out e1⟩
 have HO5:=zH ho5;have HB5:Hid (w5.heap[wb]?=some (.cells #[pv,.slice none 0 0] 64 (0,0))):=(T45.out.block wb lb (fun hm=>by
  obtain⟨_,C,hC⟩:=HPN.out wb hm;exact absurd (ty_ne hC HB4.out) (by decide))).trans HB4.out
 have HNB:Hid (∀k,(Value.slice (some ⟨g5,0,none⟩) (ps.length+1) c5).ownBlock=some k->pv.ownBlock=some k\/w.heap.size<=k):=fun k hk=>by
  rcases hb5 with e|e
  ·rw[<-HPV.out]at e;exact .inl (e▸hk)
  ·rw[hk]at e;injection e with e;have:=T4.out.size;exact .inr (by omega)
 clear ho5 hg5 hb5 b0 lb;have b0:w5.cell? ⟨wb,0,none⟩=some (.slice sa ps.length sc):=by rw[<-HPV.out];exact cell_qC HB5.out 0 _ rfl
 have z0:w5.frozen? ⟨wb,0,none⟩=false:=frozen_of_row w5 _ _ _ 64 HB5.out;have lb:=lt_of_block HB5.out;have HFIN:Hid (∃pv' p,PW B w0 (w5.setCell ⟨wb,0,none⟩ (.slice (some ⟨g5,0,none⟩) (ps.length+1) c5)) wb pv' (ps++[p]) N):=by
  have hzw:=T4.out.size;have hB:=HW.out.env.size;have t56:Tch [wb] w5 (w5.setCell ⟨wb,0,none⟩ (.slice (some ⟨g5,0,none⟩) (ps.length+1) c5)):=(Tch.refl [wb] _).setCell (fun _=>by simp) _;have f45:Fr B [64,87] w4 w5:=Fr.of_tch T45.out (by omega) (fun k hk=>by
   have:=HW.out.pl k (mem_bl.1 hk);omega) (fun k hk C t hC=>by
   obtain⟨_,C',hC'⟩:=HPN.out k hk;rw[ty_ne hC hC'];decide)
  have z5:=T45.out.size;have f56:Fr B [64,87] w5 (w5.setCell ⟨wb,0,none⟩ (.slice (some ⟨g5,0,none⟩) (ps.length+1) c5)):=Fr.one t56 (by omega) HW.out.lo HB5.out (by decide);have f34:Fr B [64,87] w3 w4:=Fr.of_nil _ T34.out (by have:=T3.out.size;omega);have ff:=(f34.trans f45).trans f56;have nw:∀k,w4.heap.size<=k->k∉bl pv:=fun k hk hm=>by
   have:=(HPN.out k hm).1;omega
  have pb5:w5.heap[w4.heap.size+1]?=_:=(TA5.out.block (w4.heap.size+1) (by have:=HZA.out;omega) (nw _ (by omega))).trans HPB.out;have mb5:w5.heap[w4.heap.size]?=_:=(TA5.out.block w4.heap.size (by have:=HZA.out;omega) (nw _ (by omega))).trans HMB.out;have pb6:=f56.keep _ _ _ pb5 (by decide);have mb6:=f56.keep _ _ _ mb5 (by decide);refine⟨_,_,HW.out.opened T3.out HOP.out (Nat.le_refl _) ff pb6 (by omega) (rg_fr HRG.out (f45.trans f56) (by decide)) hrb (⟨rfl,.inr ⟨_,_,_,rfl,Nat.zero_le _,mb6,by decide,by decide,by simp,by simp⟩⟩) (blk_set HB5.out _ rfl) (own_tch HO5.out t56 (fun k hk hm=>?_)) HNB.out⟩;simp at hm;subst hm;exact own_ne HO5.out HB5.out (by decide) hk
 clear HW HPV HR4 HTA HNEW HPB HMB HRG HOP T45 TA5 HPN HO5 HNB;go_wp2_with fail;go_ret;exact⟨rfl,HFIN.out⟩
theorem PW.tch {ps:List Po}(h:PW B w0 w wb pv ps N)(ht:Tch [] w w'):PW B w0 w' wb pv ps N:=by
 obtain⟨ow,ro,pi,hO⟩:=h.own;have hf:Fr B [] w w':=Fr.of_nil _ ht h.env.size;refine⟨hf.keep _ _ _ h.blk (by decide),h.lo,hf.own h.row (by decide),h.pl,⟨ow,ro,pi,fun i hi=>(hO i hi).o3 hf (ht.block _ (lt_of_block (hO i hi).blk) (by simp)) (by decide) (fun _ _=>rfl) (fun _ _=>rfl)⟩,h.env.fr hf,h.bel.trans hf.below⟩
theorem PW.mono {ps:List Po}(h:PW B w0 w wb pv ps N)(hN:N<=N'):PW B w0 w wb pv ps N':=by
 obtain⟨ow,ro,pi,hO⟩:=h.own;exact⟨h.blk,h.lo,h.row,h.pl,⟨ow,ro,pi,fun i hi=>(hO i hi).mono hN⟩,h.env,h.bel⟩
def opC (kd on a:Int)(s:ByteArray)(la:Option Addr)(ll lc:Nat)(r:Wp.Rq)(x:Sl):Array Value:=#[.int .i64 kd,.int .i64 on,.int .i64 a,.string s,.slice la ll lc,.int .u8 (r.op.toNat:Int),.int .u8 (r.q.toNat:Int),.int .u8 (r.d.toNat:Int),.int .i64 r.vis,.int .i64 r.win,.int .i64 r.rcv,.int .i64 r.quo,.int .i64 r.mx,.int .i64 r.tic,.string r.grp,.string r.ded,.string r.bod,.string r.att,.string r.han,x.v]
def SPo (B:Nat)(w0:World)(wb N n:Nat)(w':World):Prop:=∃pv ps,PW B w0 w' wb pv ps N/\0<ps.length/\ps.length<=n
theorem step_open (h:SPo B w0 wb N n w)(hn:n<=9000000000000)(on:Int)(s:ByteArray)(la:Option Addr)(ll lc:Nat)(r:Wp.Rq)(x:Sl):
  Calls Tryz.prog 28 #[.pointer (some ⟨wb,0,none⟩),.agg (opC 1 on (-1) s la ll lc r x)] w fun e w'=>e=.returned (.bool true)/\SPo B w0 wb (N+40000) (n+1) w':=by
 have HO:Hid (∀W,Tch [] w W->Calls Tryz.prog 27 #[.pointer (some ⟨wb,0,none⟩),.int .i64 (-1)] W fun e w'=>e=.returned (.bool true)/\SPo B w0 wb (N+40000) (n+1) w'):=fun W ht=>by
  obtain⟨pv,ps,hP,h0,h1⟩:=h;refine(opened_any (hP.tch ht) (by omega)).mono ?_;rintro e w' ⟨he,pv',p,hP'⟩;exact⟨he,pv',_,hP'.mono (by omega),by simp,by simp;omega⟩
 have c0:(w.alloc (.cells (opC 1 on (-1) s la ll lc r x) 67)).cell? ⟨w.heap.size,0,none⟩=some (.int .i64 1):=cell_qC (heap_alloc_new _ _) 0 _ rfl;have c2:(w.alloc (.cells (opC 1 on (-1) s la ll lc r x) 67)).cell? ⟨w.heap.size,2,none⟩=some (.int .i64 (-1)):=cell_qC (heap_alloc_new _ _) 2 _ rfl;have HT:Hid (Tch [] w (w.alloc (.cells (opC 1 on (-1) s la ll lc r x) 67))):=(Tch.refl [] _).alloc _;clear h;unfold opC at*
 go_enter Tryz.func28,Tryz.ntmps28;go_wp2_with fail;refine(HO.out _ HT.out).mono ?_;rintro e w1 ⟨rfl,hp⟩;have HP:=zH hp;clear hp HO HT;go_wp2_with fail;go_ret;exact⟨rfl,HP.out⟩
theorem step_do (h:SPo B w0 wb N n w)(hn:n<=9000000000000)(hN:N<=4611686018427300000)(kd on:Int)(hon:-9223372036854775808<=on/\on<=9223372036854775807)(hkd:kd<=2)(hk1:kd≠1)(s:ByteArray)(hs:s.size<=maxLen)(hnB:kd=2->(opOf s).toNat≠66)(la:Option Addr)(ll lc:Nat)(r:Wp.Rq)(x:Sl):
  Calls Tryz.prog 28 #[.pointer (some ⟨wb,0,none⟩),.agg (opC kd on (-1) s la ll lc r x)] w fun e w'=>e=.returned (.bool true)/\SPo B w0 wb (N+40000) (n+1) w':=by
 obtain⟨pv,ps,hP,h0,h1⟩:=h;obtain⟨sa,sc,hpv⟩:=own_shape hP.row;have HPV:=zH hpv;obtain⟨gp,rfl⟩:∃gp,sa=some ⟨gp,0,none⟩:=by
  have ho:=hP.row;rw[hpv]at ho;rcases ho.2 with ⟨e,h2⟩|⟨g,cap,cur,e,_⟩
  ·omega
  ·simp only[Value.slice.injEq,true_and]at e;exact⟨g,e.1⟩
 have HC:Hid (∀W,Tch [] w W->W.cell? ⟨wb,0,none⟩=some (.slice (some ⟨gp,0,none⟩) ps.length sc)/\wb<W.heap.size/\gp<W.heap.size/\∀i (hi:i<ps.length),W.cell? ⟨gp,i,none⟩=some (.pointer (some ⟨ps[i].pb,0,none⟩))/\W.cell? ⟨ps[i].pb,5,none⟩=some (.bool false)/\ps[i].pb<W.heap.size):=fun W ht=>by
  have hW:=hP.tch ht;obtain⟨ow,ro,pi,hO⟩:=hW.own;have hrow:=hW.row;rw[<-flat_one]at hrow;refine⟨by rw[<-HPV.out];exact cell_qC hW.blk 0 _ rfl,lt_of_block hW.blk,own_lt hW.row (by rw[HPV.out];rfl),fun i hi=>⟨?_,cell_qC (hO i hi).blk 5 _ rfl,lt_of_block (hO i hi).blk⟩⟩
  obtain⟨g,c,e,lg,hcs⟩:=own_at (fun p:Po=>[Value.pointer (some ⟨p.pb,0,none⟩)]) 1 (fun _=>rfl) hrow i hi;rw[HPV.out]at e;simp only[Value.slice.injEq,Option.some.injEq,Addr.mk.injEq,and_true,true_and]at e;obtain⟨rfl,_⟩:=e;have:=hcs 0 _ rfl;simp only[Nat.mul_one,Nat.add_zero]at this;exact this
 obtain⟨i,hi,hpk⟩:=wpick_any on ps.length hon h0 (by omega);have HPK:Hid (∀W,zE 47 #[.int .i64 on,.int .i64 (ps.length:Int)] W (.int .i64 (i:Nat))):=hpk;have HD:Hid (∀W i (hi:i<ps.length),kd=2->Tch [] w W->Calls Tryz.prog 48 #[.pointer (some ⟨ps[i].pb,0,none⟩),.string s] W fun e w'=>e=.returned (.bool true)/\SPo B w0 wb (N+40000) (n+1) w'):=fun W i hi hk ht=>by
  refine(did_any (hP.tch ht) i hi hN s hs (hnB hk)).mono ?_;rintro e w' ⟨he,p',hP'⟩;exact⟨he,pv,_,hP',by rw[List.length_set];exact h0,by rw[List.length_set];omega⟩
 have HSM:Hid (∀W,Tch [] w W->SPo B w0 wb (N+40000) (n+1) W):=fun W ht=>⟨pv,ps,(hP.tch ht).mono (by omega),h0,by omega⟩
 have HB:Hid (∀W,Tch [] (w.alloc (.cells (opC kd on (-1) s la ll lc r x) 67)) W->W.cell? ⟨w.heap.size,0,none⟩=some (.int .i64 kd)/\W.cell? ⟨w.heap.size,1,none⟩=some (.int .i64 on)/\W.cell? ⟨w.heap.size,3,none⟩=some (.string s)/\w.heap.size<W.heap.size/\Tch [] w W):=fun W ht=>by
  have hb:W.heap[w.heap.size]?=some (.cells (opC kd on (-1) s la ll lc r x) 67 (0,0)):=(ht.block _ (by simp) (by simp)).trans (heap_alloc_new _ _);exact⟨cell_qC hb 0 _ rfl,cell_qC hb 1 _ rfl,cell_qC hb 3 _ rfl,lt_of_block hb,((Tch.refl [] w).alloc _).trans ht (fun _ h _=>h)⟩
 have hnz:¬(ps.length:Int)=0:=by omega
 have hk7:¬kd=7:=by omega
 have hk3:¬kd=3:=by omega
 have hk4:¬kd=4:=by omega
 have hk5:¬kd=5:=by omega
 have hk6:¬kd=6:=by omega
 generalize hWB:w.alloc (.cells (opC kd on (-1) s la ll lc r x) 67)=wx at*
 have hal:w.alloc (.cells #[.int .i64 kd,.int .i64 on,.int .i64 (-1),.string s,.slice la ll lc,.int .u8 (r.op.toNat:Int),.int .u8 (r.q.toNat:Int),.int .u8 (r.d.toNat:Int),.int .i64 r.vis,.int .i64 r.win,.int .i64 r.rcv,.int .i64 r.quo,.int .i64 r.mx,.int .i64 r.tic,.string r.grp,.string r.ded,.string r.bod,.string r.att,.string r.han,x.v] 67)=wx:=hWB;obtain⟨c0,c1,c3,lb,tx⟩:=HB.out wx (Tch.refl _ _);obtain⟨d0,lw,lg,hrow⟩:=HC.out wx tx;obtain⟨f0,f5,fl⟩:=hrow i hi;have hiI:(i:Int)<(ps.length:Int):=by omega
 have hi0:(0:Int)<=(i:Int):=by omega
 have HD2:Hid (∀W,kd=2->Tch [] w W->Calls Tryz.prog 48 #[.pointer (some ⟨ps[i].pb,0,none⟩),.string s] W fun e w'=>e=.returned (.bool true)/\SPo B w0 wb (N+40000) (n+1) w'):=fun W=>HD.out W i hi
 have HC2:Hid (∀W,Tch [] w W->W.cell? ⟨wb,0,none⟩=some (.slice (some ⟨gp,0,none⟩) ps.length sc)/\wb<W.heap.size/\gp<W.heap.size/\W.cell? ⟨gp,i,none⟩=some (.pointer (some ⟨ps[i].pb,0,none⟩))/\W.cell? ⟨ps[i].pb,5,none⟩=some (.bool false)/\ps[i].pb<W.heap.size):=fun W ht=>by
  obtain⟨a1,a2,a3,a4⟩:=HC.out W ht;obtain⟨a5,a6,a7⟩:=a4 i hi;exact⟨a1,a2,a3,a5,a6,a7⟩
 clear hP hpv hWB tx hon hrow hpk HC HD;generalize ps[i].pb=pb at*
 unfold opC;go_enter Tryz.func28,Tryz.ntmps28;go_wp2_with fail
 go_region_held3 (fun w'=>w'.cell? ⟨wb,0,none⟩=some (.slice (some ⟨gp,0,none⟩) ps.length sc)/\w'.cell? ⟨w.heap.size,1,none⟩=some (.int .i64 on)/\w'.cell? ⟨gp,i,none⟩=some (.pointer (some ⟨pb,0,none⟩))) (go_keep) (first|(go_at_call 47;refine(HPK.out _).mono ?_;rintro e wh ⟨rfl,hh⟩;have TH:Hid (Tch [] wx wh):=(by rw[hh];first|exact Tch.refl _ _|exact(Tch.refl [] _).drew|exact(Tch.refl [] _).drewN _);obtain⟨k0,k1,k3,klb,ktx⟩:=HB.out wh TH.out;obtain⟨e0,elw,elg,e1,e5,el⟩:=HC2.out wh ktx;clear hh))
 all_goals
  have KTX:=zH ktx;clear ktx c0 c1 c3 lb d0 lw lg f0 f5 fl HB HC2 HPK
  by_cases hk2:kd=2
  ·have HDW:=zH (HD2.out wh hk2 KTX.out);clear HD2 HSM;go_wp2_with fail;refine HDW.out.mono ?_;rintro e w1 ⟨rfl,hp⟩;have HP:=zH hp;clear hp HDW;go_wp2_with fail;go_ret;exact⟨rfl,HP.out⟩
  ·have HP:=zH (HSM.out wh KTX.out);clear HD2 HSM;go_wp2_with fail;go_ret;exact⟨rfl,HP.out⟩
structure OpS where
 kd:Int
 on:Int
 a:Int
 s:ByteArray
 la:Option Addr
 ll:Nat
 lc:Nat
 r:Wp.Rq
 x:Sl
def OpS.row (o:OpS):List Value:=(opC o.kd o.on o.a o.s o.la o.ll o.lc o.r o.x).toList
structure OpS.Ok (o:OpS):Prop where
 on:-9223372036854775808<=o.on/\o.on<=9223372036854775807
 s:o.s.size<=maxLen
def ScrO (B:Nat)(w:World)(ga:Option Addr)(sc:List OpS):Prop:=0<sc.length->∃g o,ga=some ⟨g,o,none⟩/\g<B/\∀j (hj:j<sc.length) i u,(sc[j].row)[i]?=some u->w.cell? ⟨g,o+j*20+i,none⟩=some u
theorem SPo.tch (h:SPo B w0 wb N n w)(ht:Tch [] w w'):SPo B w0 wb N n w':=by
 obtain⟨pv,ps,hP,h0,h1⟩:=h;exact⟨pv,ps,hP.tch ht,h0,h1⟩
theorem SPo.mono {n':Nat}(h:SPo B w0 wb N n w)(hN:N<=N')(hn:n<=n'):SPo B w0 wb N' n' w:=by
 obtain⟨pv,ps,hP,h0,h1⟩:=h;exact⟨pv,ps,hP.mono hN,h0,by omega⟩
theorem SPo.bel (h:SPo B w0 wb N n w):Below B w0 w:=by
 obtain⟨pv,ps,hP,h0,h1⟩:=h;exact hP.bel
theorem SPo.c1 (h:SPo B w0 wb N n w):w.cell? ⟨wb,1,none⟩=some (.slice none 0 0):=by
 obtain⟨pv,ps,hP,h0,h1⟩:=h;exact cell_qC hP.blk 1 _ rfl
theorem opOf_get (s:ByteArray)(h:0<s.size):opOf s=s[0]:=by
 have h1:=byte_taken s h;rw[tk_list s 1 h]at h1;have h2:s.data.toList.take 1=[s[0]]:=by
  have h3:0<s.data.toList.length:=by simpa using h
  cases hl:s.data.toList with
  | nil=>rw[hl]at h3;simp at h3
  | cons a t=>
   have h4:s[0]=s.data.toList[0]:=rfl;rw[h4];simp[hl]
 rw[h2]at h1;exact List.singleton_inj.1 h1
theorem opOf_nil (s:ByteArray)(h:s.size=0):(opOf s).toNat≠66:=by
 rw[toList_nil s h];decide
theorem op_no_B (s:ByteArray)(h:∀h0:0<s.size,s[0].toNat≠66):(opOf s).toNat≠66:=by
 by_cases h0:0<s.size
 ·rw[opOf_get s h0];exact h h0
 ·exact opOf_nil s (by omega)
theorem info67:(Tryz.prog.info? 67).map (fun i=>i.size)=some 20:=by kernel_rfl
theorem opC_one (kd on a:Int)(s:ByteArray)(la:Option Addr)(ll lc:Nat)(r:Wp.Rq)(x:Sl):(opC kd on a s la ll lc r x).all (·.oneCell')=true:=by
 unfold opC;simp[Value.oneCell',Sl.v]
abbrev sC (c:OpS)(a:Int):Array Value:=opC c.kd c.on a c.s c.la c.ll c.lc c.r c.x
theorem plays_any (ga:Option Addr)(gc:Nat)(sc:List OpS)(w:World)(hE:Env w.heap.size w)(hok:∀o∈sc,o.Ok)(hln:sc.length<=2000000000000)(hga:ScrO w.heap.size w ga sc):
  zB 11 #[.slice ga sc.length gc,.int .i64 2,.bool false] w (.bool true):=by
 have HW1:Hid (PW w.heap.size w (w.alloc (.cells #[.slice none 0 0,.slice none 0 0] 64)) w.heap.size (.slice none 0 0) [] 0):=by
  have ht:Tch [] w (w.alloc (.cells #[.slice none 0 0,.slice none 0 0] 64)):=(Tch.refl _ _).alloc _;exact⟨heap_alloc_new _ _,Nat.le_refl _,World.ownsRow_nil _ _ _ _,fun k hk=>by simp[Value.ownBlock]at hk,⟨fun _=>0,fun _=>0,fun _=>0,fun i hi=>by simp at hi⟩,hE.tch ht (by simp),(Fr.of_nil [] ht (Nat.le_refl _)).below⟩
 have HOP:Hid (Calls Tryz.prog 27 #[.pointer (some ⟨w.heap.size,0,none⟩),.int .i64 (-1)] (w.alloc (.cells #[.slice none 0 0,.slice none 0 0] 64)) fun e w'=>e=.returned (.bool true)/\SPo w.heap.size w w.heap.size 0 1 w'):=(opened_any HW1.out (by simp)).mono (by
  rintro e w' ⟨he,pv',p,hP'⟩;exact⟨he,pv',_,hP',by simp,by simp⟩)
 have HSC:Hid (∀W,Below w.heap.size w W->ScrO w.heap.size W ga sc):=fun W hb hp=>by
  obtain⟨g,o,h1,h2,h3⟩:=hga hp;exact⟨g,o,h1,h2,fun j hj i u hu=>(hb.cell (p:=⟨g,o+j*20+i,none⟩) h2).trans (h3 j hj i u hu)⟩
 have HOK:=zH hok;clear hE hok hga HW1;go_enter Tryz.func11,Tryz.ntmps11;go_wp2_with fail;refine HOP.out.mono ?_;rintro e w1 ⟨rfl,hp1⟩;have HP1:=zH hp1;clear hp1 HOP;go_wp2_with fail
 go_loopw [9] (fun v wr=>∃j:Nat,j<=sc.length/\v=.int .i64 (j:Int)/\SPo w.heap.size w w.heap.size (40000*j) (j+1) wr) (fun v _=>sc.length-(intOf v).toNat)
 case atStart=>exact⟨0,Nat.zero_le _,rfl,HP1.out⟩
 case round=>
  obtain⟨j,hj,rfl,hsp⟩:=hrel;have HSP:=zH hsp
  by_cases hlt:j<sc.length
  ·obtain⟨g,o,rfl,hgB,hcs'⟩:=HSC.out wr hsp.bel (by omega);have HRG:Hid (wr.rangeAt g (o+j*20) (sc[j].row)):=fun i u hu=>hcs' j hlt i u hu
   have hjI:(j:Int)<(sc.length:Int):=by omega
   have hko:=HOK.out sc[j] (List.getElem_mem hlt);have HKO:=zH hko;clear hcs' hsp HSC hko;generalize sc[j]=c at*
   go_upto_region 8 with fail
   go_cut [10] (fun s10 wx=>s10=.pointer (some ⟨wr.heap.size,0,none⟩)/\Tch [] wr wx/\wx.heap[wr.heap.size]?=some (.cells (sC c c.a) 67 (0,0)))
   case first=>
    go_wp2_with (first|(refine wpList_load_mid rfl 67 _ rfl g (o+j*20) rfl c.row _ HRG.out Tryz.underlying67 rfl info67 ?_)|(refine wpList_store_row rfl 67 _ _ rfl wr.heap.size (sC c c.a) rfl rfl 67 _ (heap_alloc_new _ _) info67 rfl (opC_one _ _ _ _ _ _ _ _ _) ?_));go_meet;refine⟨rfl,((Tch.refl [] _).alloc _).setRow (fun h=>absurd h (Nat.lt_irrefl _)) _,setRow_heap _ _ _ _ 67 (0,0) (heap_alloc_new _ _)⟩
   case rest=>
    obtain⟨rfl,ht1,hb1⟩:=hcut;generalize wc=wx at*
    have c2:wx.cell? ⟨wr.heap.size,2,none⟩=some (.int .i64 c.a):=cell_qC hb1 2 _ rfl;have z2:wx.frozen? ⟨wr.heap.size,2,none⟩=false:=frozen_of_row wx _ _ _ 67 hb1;have HB2:Hid ((wx.setCell ⟨wr.heap.size,2,none⟩ (.int .i64 (-1))).heap[wr.heap.size]?=some (.cells (sC c (-1)) 67 (0,0))/\Tch [] wr (wx.setCell ⟨wr.heap.size,2,none⟩ (.int .i64 (-1)))):=⟨blk_set hb1 _ rfl,ht1.setCell (fun h=>absurd h (Nat.lt_irrefl _)) _⟩;clear ht1 hb1
    go_upto_if 28 with fail
    go_cut [] (fun wy=>Tch [] wr wy/\wy.heap[wr.heap.size]?=some (.cells (sC c (-1)) 67 (0,0)))
    case first=>
     go_wp2_with fail;go_meet;exact⟨HB2.out.2,HB2.out.1⟩
    case rest=>
     obtain⟨ht2,hb2⟩:=hcut;generalize wc=wy at*
     clear HB2 c2 z2;have c0:wy.cell? ⟨wr.heap.size,0,none⟩=some (.int .i64 c.kd):=cell_qC hb2 0 _ rfl;have c3:wy.cell? ⟨wr.heap.size,3,none⟩=some (.string c.s):=cell_qC hb2 3 _ rfl;have HB:=zH hb2;have HSY:=zH (HSP.out.tch ht2);have HNX:Hid (SPo w.heap.size w w.heap.size (40000*(j+1)) (j+1+1) wy):=HSY.out.mono (by omega) (by omega);have HST:Hid (c.kd<=2->(c.kd=2->(opOf c.s).toNat≠66)->Calls Tryz.prog 28 #[.pointer (some ⟨w.heap.size,0,none⟩),.agg (sC c (-1))] wy fun e w'=>e=.returned (.bool true)/\SPo w.heap.size w w.heap.size (40000*(j+1)) (j+1+1) w'):=fun h1 h2=>by
      have e1:40000*(j+1)=40000*j+40000:=by omega
      rw[e1]
      by_cases hk:c.kd=1
      ·have e2:sC c (-1)=opC 1 c.on (-1) c.s c.la c.ll c.lc c.r c.x:=by unfold sC;rw[hk]
       rw[e2];exact step_open HSY.out (by omega) c.on c.s c.la c.ll c.lc c.r c.x
      ·exact step_do HSY.out (by omega) (by omega) c.kd c.on HKO.out.on h1 hk c.s HKO.out.s h2 c.la c.ll c.lc c.r c.x
     clear hb2 ht2 HSP HSY HRG hgB
     by_cases hk2:c.kd<=2
     ·have hkg:¬2<c.kd:=by omega
      by_cases hke:c.kd=2
      ·by_cases hs0:0<c.s.size
       ·have hsI:(0:Int)<(c.s.size:Int):=by omega
        by_cases hb66:c.s[0].toNat=66
        ·clear HST;go_wp2_with fail;go_roundw
         case rel=>exact⟨j+1,by omega,by go_num,HNX.out⟩
         case measure=>simp[intOf];omega
        ·have HCALL:=zH (HST.out hk2 (fun _=>op_no_B c.s (fun _=>hb66)));clear HST HNX;go_wp2_with (refine wpList_load_row rfl 67 _ rfl wr.heap.size rfl 67 (sC c (-1)) (0,0) _ HB.out Tryz.underlying67 rfl info67 ?_);refine HCALL.out.mono ?_;rintro e w5 ⟨rfl,hp⟩;have HP:=zH hp;have HL:=zH (looks_nil w.heap.size w5 hp.c1);clear hp HCALL;go_wp2_with fail;refine HL.out.mono ?_;rintro e w6 ⟨rfl,h'⟩;have h'':=h'.symm;subst h'';clear HL;go_wp2_with fail;go_roundw
         case rel=>exact⟨j+1,by omega,by go_num,HP.out⟩
         case measure=>simp[intOf];omega
       ·have hsI:¬(0:Int)<(c.s.size:Int):=by omega
        have HCALL:Hid (Calls Tryz.prog 28 #[.pointer (some ⟨w.heap.size,0,none⟩),.agg (sC c (-1))] wy fun e w'=>e=.returned (.bool true)/\SPo w.heap.size w w.heap.size (40000*(j+1)) (j+1+1) w'):=HST.out hk2 (fun _=>op_no_B c.s (fun h=>absurd h hs0));clear HST HNX;go_wp2_with (refine wpList_load_row rfl 67 _ rfl wr.heap.size rfl 67 (sC c (-1)) (0,0) _ HB.out Tryz.underlying67 rfl info67 ?_);refine HCALL.out.mono ?_;rintro e w5 ⟨rfl,hp⟩;have HP:=zH hp;have HL:=zH (looks_nil w.heap.size w5 hp.c1);clear hp HCALL;go_wp2_with fail;refine HL.out.mono ?_;rintro e w6 ⟨rfl,h'⟩;have h'':=h'.symm;subst h'';clear HL;go_wp2_with fail;go_roundw
        case rel=>exact⟨j+1,by omega,by go_num,HP.out⟩
        case measure=>simp[intOf];omega
      ·have HCALL:Hid (Calls Tryz.prog 28 #[.pointer (some ⟨w.heap.size,0,none⟩),.agg (sC c (-1))] wy fun e w'=>e=.returned (.bool true)/\SPo w.heap.size w w.heap.size (40000*(j+1)) (j+1+1) w'):=HST.out hk2 (fun h=>absurd h hke);clear HST HNX;go_wp2_with (refine wpList_load_row rfl 67 _ rfl wr.heap.size rfl 67 (sC c (-1)) (0,0) _ HB.out Tryz.underlying67 rfl info67 ?_);refine HCALL.out.mono ?_;rintro e w5 ⟨rfl,hp⟩;have HP:=zH hp;have HL:=zH (looks_nil w.heap.size w5 hp.c1);clear hp HCALL;go_wp2_with fail;refine HL.out.mono ?_;rintro e w6 ⟨rfl,h'⟩;have h'':=h'.symm;subst h'';clear HL;go_wp2_with fail;go_roundw
       case rel=>exact⟨j+1,by omega,by go_num,HP.out⟩
       case measure=>simp[intOf];omega
     ·have hkg:2<c.kd:=by omega
      clear HST;go_wp2_with fail;go_roundw
      case rel=>exact⟨j+1,by omega,by go_num,HNX.out⟩
      case measure=>simp[intOf];omega
  ·have hjn:¬(j:Int)<(sc.length:Int):=by omega
   have HBL:=zH hsp.bel;clear hsp HSP;go_wp2_with fail;go_ret;exact⟨rfl,HBL.out⟩
theorem replies_walk (ga:Option Addr)(gc:Nat)(sc:List OpS)(w:World)(hE:Env w.heap.size w)(hok:∀o∈sc,o.Ok)(hln:sc.length<=2000000000000)(hga:ScrO w.heap.size w ga sc):
  zB 3 #[.slice ga sc.length gc] w (.bool true):=by
 have HP:=zH (plays_any ga gc sc w hE hok hln hga);clear hE hok hln hga;go_enter Tryz.func3,Tryz.ntmps3;go_wp2_with fail;refine HP.out.mono ?_;rintro e w1 ⟨rfl,hb⟩;have HB:=zH hb;clear hb HP;go_wp2_with fail;go_ret;exact⟨rfl,HB.out⟩
end Go.Proofs.YtbdobaapadlcjaaGreatDoor.Ref
namespace Go.Proofs.YtbdobaapadlcjaaGreatDoor.Keep
open Go.ChangeShapes Go.WideShapes Go.ChangeAt Go.RowKit Go.Deep
open Go.Proofs.YtbdobaapadlcjaaGreatDoor.Ref
variable {W:World}{n:Nat}
theorem cells67:Tryz.prog.cellsOf 67=20:=by kernel_rfl
theorem bytes67:Tryz.prog.bytesOf 67=224:=by kernel_rfl
theorem list20 {α:Type}{cs:List α}(h:cs.length=20):∃c0 c1 c2 c3 c4 c5 c6 c7 c8 c9 c10 c11 c12 c13 c14 c15 c16 c17 c18 c19,cs=[c0,c1,c2,c3,c4,c5,c6,c7,c8,c9,c10,c11,c12,c13,c14,c15,c16,c17,c18,c19]:=by
 match cs,h with
 | [c0,c1,c2,c3,c4,c5,c6,c7,c8,c9,c10,c11,c12,c13,c14,c15,c16,c17,c18,c19],_=>exact⟨c0,c1,c2,c3,c4,c5,c6,c7,c8,c9,c10,c11,c12,c13,c14,c15,c16,c17,c18,c19,rfl⟩
theorem slice_in {H:Type}{enc:TypeId×Value->H}{c:Value}{y:DataW H×List MemPlace}(h:DataW.trod enc Tryz.prog W 0 (fun _=>true) true n 25 [c]=some y):∃x:Sl,c=x.v:=by
 rcases open_strings Tryz.underlying25 Tryz.underlying9 cells9 h with ⟨hcs,_⟩|⟨a,len,cap,ss,hcs,_⟩
 ·exact⟨⟨none,0,0⟩,List.singleton_inj.1 hcs⟩
 ·exact⟨⟨some a,len,cap⟩,List.singleton_inj.1 hcs⟩
theorem open_op {H:Type}{enc:TypeId×Value->H}{cs:List Value}{y:DataW H×List MemPlace}(hl:cs.length=20)(h:DataW.trod enc Tryz.prog W 0 (fun _=>true) true n 67 cs=some y):∃s:OpS,cs=s.row/\s.Ok:=by
 obtain⟨c0,c1,c2,c3,c4,c5,c6,c7,c8,c9,c10,c11,c12,c13,c14,c15,c16,c17,c18,c19,rfl⟩:=list20 hl;obtain⟨xs,n,_,_,_,hlen,hfd⟩:=DataW.trod_struct Tryz.underlying67 h;have hlen':xs.length=6:=hlen;have h0:=trod_fld (off:=0) 0 (by omega) cells3 [c0] rfl (hfd 0 _ rfl);have h1:=trod_fld (off:=1) 1 (by omega) cells3 [c1] rfl (hfd 1 _ rfl);have h2:=trod_fld (off:=2) 2 (by omega) cells3 [c2] rfl (hfd 2 _ rfl);have h3:=trod_fld (off:=3) 3 (by omega) cells9 [c3] rfl (hfd 3 _ rfl);have h4:=trod_fld (off:=4) 4 (by omega) cells28 [c4] rfl (hfd 4 _ rfl);have h5:=trod_fld (off:=5) 5 (by omega) cells37 [c5,c6,c7,c8,c9,c10,c11,c12,c13,c14,c15,c16,c17,c18,c19] rfl (hfd 5 _ rfl);obtain⟨z0,e0,_,w0⟩:=DataW.trod_int Tryz.underlying3 h0;obtain⟨z1,e1,_,w1⟩:=DataW.trod_int Tryz.underlying3 h1;obtain⟨z2,e2,_,w2⟩:=DataW.trod_int Tryz.underlying3 h2;obtain⟨s3,e3,_,w3⟩:=DataW.trod_string Tryz.underlying9 h3;obtain⟨x4,f4⟩:=slice_in h4;obtain⟨r,xa,xc,bs,e5,_⟩:=open_cells rfl h5;have f0:=List.singleton_inj.1 e0;have f1:=List.singleton_inj.1 e1;have f2:=List.singleton_inj.1 e2;have f3:=List.singleton_inj.1 e3;subst f0 f1 f2 f3 f4;refine⟨⟨z0,z1,z2,s3,x4.a,x4.n,x4.c,r,⟨xa,bs.length,xc⟩⟩,?_,bounds_i64 w1,w3⟩;have e6:([.int .i64 z0,.int .i64 z1,.int .i64 z2,.string s3,x4.v]:List Value)++[c5,c6,c7,c8,c9,c10,c11,c12,c13,c14,c15,c16,c17,c18,c19]=[.int .i64 z0,.int .i64 z1,.int .i64 z2,.string s3,x4.v]++(cellsOf r (.slice xa bs.length xc)).toList:=congrArg _ e5;exact e6
theorem open_so {H:Type}{enc:TypeId×Value->H}{base:Nat}{v:Value}{d:DataW H}{p:List MemPlace}(hv:Value.okWide Tryz.prog W .any base 22 v)(h:DataW.Trod enc Tryz.prog W 0 (fun _=>true) true 22 v d p):
  ∃(ga:Option Addr) (gc:Nat) (sc:List OpS),v=.slice ga sc.length gc/\(∀s∈sc,s.Ok)/\ScrO W.heap.size W ga sc/\(sc.length=0\/∃el sp,d=.slice el sp/\el.length=sc.length):=by
 obtain⟨a0,l0,c0,rfl⟩:=okWide_slice Tryz.underlying22 hv;obtain⟨fuel,hf⟩:=h;have hf':=hf;rcases open_slice Tryz.underlying22 hf' with ⟨hcs,_⟩|⟨a,len,cap,m,n,D,Pl,hcs,_,hl,hm,hmm,hx,hel⟩
 ·rw[List.singleton_inj.1 hcs];exact⟨none,0,[],rfl,fun s hs=>by simp at hs,fun h=>absurd h (by simp),.inl rfl⟩
 ·rw[List.singleton_inj.1 hcs];have hlm:len<=m:=by rw[hmm];split<;>omega
  rw[cells67]at hel;have each:∀i,i<len->∃s:OpS,s.Ok/\∀(k:Nat) (u:Value),s.row[k]?=some u->W.cell? ((a.add (i*20)).add k)=some u:=fun i hi=>by
   obtain⟨cs',h1,h2⟩:=hel i (by omega);obtain⟨_,hlen,hcell⟩:=World.cells?_some h1;obtain⟨s,rfl,hs⟩:=open_op hlen h2;refine⟨s,hs,fun k u hu=>?_⟩
   have hk:k<20:=by
    have:=(List.getElem?_eq_some_iff.1 hu).1;simpa [OpS.row,opC]using this
   rw[hcell k hk];exact hu
  obtain⟨q,hq⟩:=@choose_lt OpS ⟨⟨0,0,0,⟨#[]⟩,none,0,0,opR 0,⟨none,0,0⟩⟩⟩ _ _ each;have hlt:((List.range len).map q).length=len:=by simp
  refine⟨some a,cap,(List.range len).map q,by rw[hlt],fun s hs=>?_,fun hp=>?_,.inr ⟨_,_,(Prod.mk.inj hx).1,by simp⟩⟩
  ·obtain⟨i,hi,rfl⟩:=List.mem_map.1 hs;exact(hq i (List.mem_range.1 hi)).1
  ·rw[hlt]at hp;have h0:=(hq 0 hp).2 0 _ rfl;have e0:(a.add (0*20)).add 0=a:=by unfold Addr.add;simp
   rw[e0]at h0;have hs:=addr_spot h0;have hb:=World.block_lt_of_cell? _ _ h0;obtain⟨g,o,sp⟩:=a;simp only at hs;subst hs;refine⟨g,o,rfl,hb,fun j hj i u hu=>?_⟩
   rw[hlt]at hj;rw[List.getElem_map,List.getElem_range]at hu;have h2:=(hq j hj).2 i u hu;rw[addr_at,addr_at]at h2;exact h2
theorem so_len {H:Type}{ts:List TypeId}{ds:List (DataW H)}{j:Nat}{d:DataW H}{k:Nat}(h:(DataW.weightsEach Tryz.prog ts ds).all (·<=reachBytes)=true)(ht:ts[j]?=some 22)(hd:ds[j]?=some d)(hor:k=0\/∃el sp,d=.slice el sp/\el.length=k):k<=2000000000000:=by
 rcases hor with rfl|⟨el,sp,rfl,rfl⟩
 ·omega
 ·have h1:=sized_slice h ht hd Tryz.underlying22;rw[bytes67]at h1;have h2:=reachBytes_lt;omega
end Go.Proofs.YtbdobaapadlcjaaGreatDoor.Keep
namespace Go.Proofs.YtbdobaapadlcjaaGreatDoor.rp
open Go.ChangeShapes Go.WideShapes Go.ChangeAt Go.RowKit
open Go.Proofs.YtbdobaapadlcjaaGreatDoor.Keep Go.Proofs.YtbdobaapadlcjaaGreatDoor.Ref
variable {W:World}
theorem own:ownKnob Tryz.prog.godebug=none:=by kernel_rfl
theorem laidOut:laidOutB Tryz.prog=true:=by kernel_rfl
theorem read25:Tryz.prog.readableRec 22=true:=by kernel_rfl
theorem row25:22<Tryz.prog.types.size:=of_decide_eq_true (by kernel_rfl)
theorem gTab : Tryz.prog.globalNamed "wharf/wire.quads" = some 2 := by kernel_rfl
theorem gTabType:(Tryz.prog.globals[2]?).map (·.type)=some 186:=by kernel_rfl
theorem cells172:Tryz.prog.cellsOf 186=16:=by kernel_rfl
theorem cells113:Tryz.prog.cellsOf 121=1:=by kernel_rfl
theorem table (h : laidMetH Tryz.prog Rows.repliesRow.laid W) : Lib.TabIs Tryz.prog W "wharf/wire.quads" .u32 [0, 498536548, 997073096, 651767980, 1994146192, 1802195444, 1303535960, 1342533948, 3988292384, 4027552580, 3604390888, 3412177804, 2607071920, 2262029012, 2685067896, 3183342108] :=
 Lib.tabIs_of_head (rest := [("wharf/wire.layouts", Rows.laid_wharf_wire_layouts), ("wharf/wire.rows", Rows.laid_wharf_wire_rows)]) gTab gTabType Tryz.underlying186 Tryz.underlying121 cells113 cells172 h
theorem tab_of (h : Lib.TabIs Tryz.prog W "wharf/wire.quads" .u32 [0, 498536548, 997073096, 651767980, 1994146192, 1802195444, 1303535960, 1342533948, 3988292384, 4027552580, 3604390888, 3412177804, 2607071920, 2262029012, 2685067896, 3183342108]) : Tab W := by
 intro i hi;have h1:=h.cell gTab i hi;rw[h1];have h2:∀j:Fin 16,([0,498536548,997073096,651767980,1994146192,1802195444,1303535960,1342533948,3988292384,4027552580,3604390888,3412177804,2607071920,2262029012,2685067896,3183342108]:List Int).getD j.val 0=((Crc.tab.getD j.val 0:Nat):Int):=by decide
 exact congrArg (fun z=>some (Value.int .u32 z)) (h2 ⟨i,hi⟩)
theorem env_of (h:laidMetH Tryz.prog Rows.repliesRow.laid W):Env W.heap.size W:=by
 have hT:=tab_of (table h);have h2:2<W.heap.size:=World.block_lt_of_cell? _ _ (hT 0 (by decide));rw[MakeChecks.laidMetH_plain _ _ _ (by kernel_rfl)]at h;have h3 := laidMet.filter (fun x => x.1 != "wharf/wire.quads") h
 exact⟨lays_of (rest:=[]) h2 h3,hT,Nat.le_refl _,h2⟩
theorem contract (H:Type)(enc:TypeId×Value->H)(W:World)(base:Nat)(args:Array Value)(ds gs:List (DataW H))(before:List MemPlace)
  (hval:∀(j:Nat) t v,Tryz.f3.params[j]?=some t->args[j]?=some v->Value.okWide Tryz.prog W .any base t v)
  (hW:DataW.Whole enc Tryz.prog Tryz.f3.params.toList Rows.repliesSpec.vars false W args.toList ds gs before)(hL:laidMetH Tryz.prog Rows.repliesRow.laid W)(hZ:(DataW.weightsEach Tryz.prog (Tryz.f3.params.toList++(OpenSpec.ofChange Rows.repliesSpec).bare.plain.varTypes Tryz.prog) (ds++gs)).all (·<=reachBytes)=true):
  Calls Tryz.prog 3 args W fun e W'=>∃v,e=.returned v/\Rows.repliesSpec.post enc Tryz.prog Tryz.f3 false true false false W args v W':=by
 have hW':=hW;have hlt:=hW.lt;obtain⟨p,q,hA0,hV,rfl,hfz,hnd⟩:=hW;have hA:=hA0;rw[Tryz.params3]at hA hval;obtain⟨v1,vs1,d1,ds1,p1,q1,hargs,rfl,rfl,h1,r1⟩:=trodAll_cons hA;obtain⟨rfl,rfl,rfl⟩:=trodAll_nil r1;obtain rfl:args=#[v1]:=Array.toList_inj.1 hargs;obtain⟨rfl,rfl⟩:=trodVars_none hV;have hp1:∀a∈p1,a.block<W.heap.size:=fun a ha=>hlt a (by simp[ha])
 obtain⟨ga,gc,sc,rfl,hok,hga,hor⟩:=open_so (hval 0 22 v1 rfl rfl) h1;rw[Tryz.params3]at hZ;have hln:sc.length<=2000000000000:=so_len (j:=0) hZ rfl rfl hor;clear hA0;have walk:=replies_walk ga gc sc W (env_of hL) hok hln hga;refine walk.mono fun e W' ⟨he,hg⟩=>?_
 subst he;refine⟨_,rfl,_,_,_,[],p1++[],[],hW',?_,?_,?_,hg.frame _,fun h=>by cases h⟩
 ·exact trodAll_cons_mk (shut_bool Tryz.underlying4 _) trodAll_mk0
 ·exact trodAll_cons_mk (Below.trod laidOut read25 row25 h1 hg hp1) trodAll_mk0
 ·rfl
theorem laid_met (os:Os)(args:Array Value):laidMet Tryz.prog Rows.repliesRow.laid ((World.doorLaid Tryz.prog 49 os).forCall (fun _ _=>0) ⟨#[],args,[]⟩).memory:=
 laidMet_of_run' 8 (by kernel_rfl) (by kernel_rfl)
theorem reads (os:Os){H:Type}(enc:TypeId×Value->H):∃places,DataW.whole enc Tryz.prog ((World.doorLaid Tryz.prog 49 os).forCall (fun _ _=>0) ⟨#[],#[.slice none 0 0],[]⟩).memory Tryz.f3.params.toList Rows.repliesSpec.vars false #[Value.slice none 0 0].toList 8=
  some ([.nil],[],places):=
 ⟨[],by kernel_rfl⟩
theorem lifted (os:Os)(started:os.Started)(H:Type)(enc:TypeId×Value->H)(F:Stop.Interp):
  ReturnsInHanded {} Tryz.checked os 3 .any ((OpenSpec.ofChange Rows.repliesSpec).preRow enc Tryz.prog Tryz.f3 Rows.repliesRow.domain false Rows.repliesRow.laid) (((OpenSpec.ofChange Rows.repliesSpec).at F).post enc Tryz.prog Tryz.f3 false true false false):=by
 obtain⟨places,hx⟩:=reads os enc;refine returnsInHanded_of_row (C:=Tryz.checked) (s:=OpenSpec.ofChange Rows.repliesSpec) own started (by kernel_rfl) Tryz.func3
  (witness_row_atRef (enc:=enc) (C:=Tryz.checked) false (World.doorLaid Tryz.prog 49 os) #[.slice none 0 0] rfl (by kernel_rfl) (by kernel_rfl) (by kernel_rfl)
   (OpenSpec.preRow_of_cond 8 hx (by kernel_rfl) (fun k hk=>by cases hk) (by kernel_rfl) (laid_met os _))) ?_
 intro W base args ds gs before hval hW _ _ hZ hL _ _;exact contract H enc W base args ds gs before hval hW hL hZ
theorem said:Rows.RepliesSaid:=
 OpenClaim.holds_of_cond 3 Tryz.f3 rfl rfl rfl rfl rfl rfl rfl ⟨rfl,rfl,rfl,rfl,rfl⟩ rfl rfl rfl rfl rfl (by kernel_rfl) Tryz.func3 closed
  (of_decide_eq_true (by kernel_rfl)) (by unfold Func.isWrapper;first|(rw[if_pos (by decide +kernel)];kernel_rfl)|(rw[if_neg (by decide +kernel)];exact⟨rfl,rfl⟩))
  (fun os started H enc _ F=>by rw[OpenClaim.pre_eq_preRow];exact lifted os started H enc F)
theorem plain (f : FuncId) (fn : Func) (hf : Tryz.pinned.checked.prog.funcNamed "wharf/wharflaw.Replies" = some f) (hfn : Tryz.pinned.checked.prog.funcs[f]? = some fn) :
  false=Tryz.pinned.checked.prog.looks []/\∀(j:Nat) t,fn.params[j]?=some t->Tryz.pinned.checked.prog.wantsStandIn t=false:=by
 obtain rfl : f = 3 := Option.some.inj ((show Tryz.prog.funcNamed "wharf/wharflaw.Replies" = some 3 by kernel_rfl).symm.trans hf) |>.symm
 obtain rfl:fn=Tryz.f3:=(Option.some.inj (Tryz.func3.symm.trans hfn)).symm;refine⟨by kernel_rfl,fun j t ht=>?_⟩
 rw[Tryz.params3]at ht;have hm:=Array.mem_of_getElem? ht;have ht':t=22:=by simpa using hm
 subst ht';exact(show Tryz.prog.wantsStandIn 22=false by kernel_rfl)
end Go.Proofs.YtbdobaapadlcjaaGreatDoor.rp
namespace Go.Proofs.YtbdobaapadlcjaaGreatDoor.rp
theorem holds_tied_goes (Lk:Looks){p:Pinned}{s:OpenSpec}{c:OpenClaim}(kinds:List LaidKind)(tests:Bool)(har:Bool×String)(lk:Bool)
  (hc:c.holds p s)(hw:c.wfByText s=true)(htie:c.laidByTextAt Lk p kinds tests)
  (hst:c.start=.entering)(hnb:c.noBlocks=false/\c.again=false)(hm:p.checked.prog.mainIs=some (har.1,har.2.toList))(hn:(!har.1&&har.2.isEmpty&&!lk)=false)
  (hl:∀f fn,p.checked.prog.funcNamed c.func=some f->p.checked.prog.funcs[f]?=some fn->lk=p.checked.prog.looks []/\∀(j:Nat) t,fn.params[j]?=some t->p.checked.prog.wantsStandIn t=false)
  (hg:true=c.goesBy p.checked.prog):
  Claim7.holds p (.plain s) {stood:={row:=c,standIns:=[],harness:=har,looks:=lk},kinds:=[],alts:=[],goes:=true,laidByText:=true,laidKinds:=kinds,laidTests:=tests,laidLooks:=Lk}:=by
 have h6:Claim7.isSixth {stood:={row:=c,standIns:=[],harness:=har,looks:=lk},kinds:=[]}=false:=by simpa [Claim7.isSixth]using hn
 exact⟨Claim7.tied_new_at Lk kinds tests (Claim7.new_of_sixth hc har lk hst hnb hm h6 hl) hw,fun D hD=>(by cases hD),htie,(fun h=>by cases h),hg⟩
theorem card:Rows.RepliesCardSaid:=
 holds_tied_goes .later _ _ _ _ said (by kernel_rfl) replies_row_tie rfl ⟨rfl,rfl⟩ (by kernel_rfl) rfl plain (by kernel_rfl)
end Go.Proofs.YtbdobaapadlcjaaGreatDoor.rp
namespace Go.Proofs.YtbdobaapadlcjaaGreatDoor
theorem replies_card:Rows.RepliesCardSaid:=rp.card
end Go.Proofs.YtbdobaapadlcjaaGreatDoor
