import Derived.Test.YtbdobaapadlcjaaGreatDoorBy08
import Derived.Lib.ConvBytes
import Derived.Shelf.Slices.Cells
set_option maxRecDepth 8000
set_option maxHeartbeats 4000000
set_option linter.unusedVariables false
set_option linter.unusedSimpArgs false
namespace Go.Proofs.YtbdobaapadlcjaaGreatDoor
open Go.RowKit
variable {w w':World}{base B qb cnt gc ga:Nat}{T:List TypeId}{V:QV}{Q:QM}{CC:Array Value}{til:Int}{av:Value}
theorem a6A (s:ByteArray)(W:World):(convert 9 74 (.string s)).run Tryz.prog W=.ok (.slice (some ⟨W.heap.size,0,none⟩) s.size (grownCap W s.size 0 5)) (Lib.bytesWorld W 5 s):=
 Lib.run_convert_string_bytes W 9 74 5 s Tryz.underlying9 Tryz.underlying74 Tryz.underlying5
def Rdb (w:World)(v:Value)(l:List UInt8):Prop:=∃g cap,v=.slice (some ⟨g,0,none⟩) l.length cap/\∀j u,(kO l)[j]?=some u->w.cell? ((⟨g,0,none⟩:Addr).add j)=some u
theorem Rdb.of_own {v:Value}{l:List UInt8}(h:OwnB w base v l)(hl:0<l.length):Rdb w v l:=by
 have hc:=fun g (hg:v.ownBlock=some g)=>World.ownsRow.cells h hg
 rcases h.2 with ⟨_,h0⟩|⟨g,cap,cur,rfl,_⟩
 ·omega
 ·exact⟨g,cap,rfl,hc g rfl⟩
theorem a3z (Q:QM)(V:QV)(r:Wp.Rq)(y:Sl)(qb i:Nat)(now:Int)(w:World)(h:QR w qb V Q)(hna:Q.ats.length<=1000)(hid:jj (isA r.att) Q.ats=(i:Int))(a:At)(ha:Q.ats[i]?=some a)(has:0<a.ans.size):
  Cp 163 #[zp qb,.int .i64 now,.agg (ja r y.v)] w fun e w'=>∃av,e=.returned (.tuple #[av,.nilFunc,.int .i64 0])/\Rdb w' av a.ans.data.toList/\Tch [] w w':=by
 have hcv:=a6A a.ans;have hil:i<Q.ats.length:=(List.getElem?_eq_some_iff.1 ha).1;have HQ:=zH h;obtain⟨ga,ca,hva⟩:∃g c,V.a=.slice (some ⟨g,0,none⟩) Q.ats.length c:=by
  rcases h.a.2 with ⟨h0,h1⟩|⟨g,cap,cur,h0,_⟩
  ·omega
  ·exact⟨_,_,h0⟩
 rw[zM r y];generalize hCC:((zR r y):Array Value)=CC;have HA:Hid (zB 209 #[zp qb,.string r.att] (a1K w qb CC) (.int .i64 (i:Int))):=by
  have h1:=h.tch (a1m w qb CC) (by simp);have h2:=zN r.att qb V.a Q.ats (a1K w qb CC) (jb h1.blk 10 _ rfl) h1.a (by omega);rw[hid]at h2;exact h2
 have HW0:=zH (b2o w qb CC);have HW1:=zH (b2p w qb CC);have HWT:=zH (a1m w qb CC);have ca12:CC[12]?=some (.string r.att):=by rw[<-hCC];rfl
 clear hCC;have zz:=a4c w qb CC;generalize hwb:a1K w qb CC=wb at*
 clear h;go_enter Tryz.func163,Tryz.ntmps163;go_wp2_with fail;rw[show (w.alloc (.cells #[zp qb] 152)).alloc (.cells CC 27)=wb from hwb]
 refine HA.out.mono ?_;rintro e w1 ⟨rfl,hb1⟩;have t1:=HWT.out.trans (Tch.of_below hb1) (by simp);have hq1:=HQ.out.tch t1 (by simp);have B0:=(hb1.block _ (by omega)).trans HW0.out;have a0:w1.cell? ⟨w.heap.size,0,none⟩=some (zp qb):=jb B0 0 _ rfl;have a10:w1.cell? ⟨qb,10,none⟩=some (.slice (some ⟨ga,0,none⟩) Q.ats.length ca):=by rw[<-hva];exact jb hq1.blk 10 _ rfl
 have a2:w1.cell? ⟨ga,i*3+2,none⟩=some (.string a.ans):=by
  have h0:=hq1.a;rw[hva]at h0;have inh:Inhabited At:=⟨⟨⟨#[]⟩,0,⟨#[]⟩⟩⟩;have h1:=jF At.row 3 (fun _=>rfl) h0 i hil 2 (.string a.ans) (by
   rw[List.getElem!_eq_getElem?_getD,ha];rfl)
  simpa using h1
 have HT1:=zH t1;clear hb1 hwb t1 hq1 B0 HA HW0 HW1 HWT zz;go_wp2_with fail;go_ret3;have tb:Tch [] w1 (Lib.bytesWorld w1 5 a.ans):=⟨rfl,rfl,rfl,by rw[Lib.bytesWorld_size];omega,fun k hk _=>Lib.bytesWorld_at_old w1 5 a.ans k hk⟩
 refine⟨_,rfl,⟨w1.heap.size,_,rfl,fun j u hj=>?_⟩,HT1.out.trans tb (by simp)⟩
 have hjl:j<a.ans.size:=by
  have:=(List.getElem?_eq_some_iff.1 hj).1;simpa [kO]using this
 have e2:(⟨w1.heap.size,0,none⟩:Addr).add j=⟨w1.heap.size,j,none⟩:=by unfold Addr.add;split<;>simp_all
 rw[e2,Lib.bytesWorld_cell w1 5 a.ans j hjl];have hj':=hj;simp only[kO,List.getElem?_map]at hj';have hjl':=hjl;rw[List.getElem?_eq_getElem hjl']at hj';simp only[Option.map_some,Option.some.injEq]at hj';rw[<-hj'];simp[List.getD,hjl]
theorem b3q (W:World)(g cap:Nat)(h:W.cell? ⟨g,0,none⟩=some (.int .u8 0)):(convert 74 9 (.slice (some ⟨g,0,none⟩) 1 cap)).run Tryz.prog W=.ok (.string ⟨#[0]⟩) W:=by
 refine run_convert_bytes_back (P:=Tryz.prog) W 74 9 5 ⟨g,0,none⟩ cap [0] Tryz.underlying74 Tryz.underlying5 Tryz.underlying9 ?_;intro j hj;have hj0:j=0:=by simpa using hj
 subst hj0;exact h
theorem a9o (fn:Fn)(f c:Array Value)(W:World):(binOp .eql 1 (.func fn f c) .nilFunc).run Tryz.prog W=.ok (.bool false) W:=by kernel_rfl
theorem b1R (W:World):(binOp .eql 1 .nilFunc .nilFunc).run Tryz.prog W=.ok (.bool true) W:=by kernel_rfl
theorem b1Q (W:World):(binOp .neq 1 .nilFunc .nilFunc).run Tryz.prog W=.ok (.bool false) W:=by kernel_rfl
def ke (w:World)(C:Array Value):World:=(w.alloc (.cells (ja (opR 0) (Sl.v ⟨none,0,0⟩)) 27)).setRow w.heap.size C
theorem jT (w:World)(C:Array Value):(ke w C).heap[w.heap.size]?=some (.cells C 27 (0,0)):=setRow_heap _ _ _ _ 27 (0,0) (heap_alloc_new _ _)
theorem vJ (w:World)(C:Array Value):Tch [] w (ke w C):=((Tch.refl _ _).alloc _).setRow (fun h=>absurd h (Nat.lt_irrefl _)) _
theorem a1C (w:World)(C:Array Value):(w.alloc (.cells #[.int .u8 0,.int .u8 0,.int .u8 0,.int .i64 0,.int .i64 0,.int .i64 0,.int .i64 0,.int .i64 0,.int .i64 0,.string ⟨#[]⟩,.string ⟨#[]⟩,.string ⟨#[]⟩,.string ⟨#[]⟩,.string ⟨#[]⟩,.slice none 0 0] 27)).setRow w.heap.size C=ke w C:=rfl
abbrev nil0:Sl:=⟨none,0,0⟩
abbrev TB:List TypeId:=[143,110,116,156,191,226,230,9]
theorem Lays.fr (h:Lays B w)(hf:Fr B T w w'):Lays B w':=h.below hf.below
theorem Tab.fr (h:Tab w)(hf:Fr B T w w')(h3:3<=B):Tab w':=h.below (B:=3) (hf.below.mono h3) (by decide)
theorem Fr.one {st:Nat}{C:Array Value}{t:TypeId}(ht:Tch [st] w w')(hB:B<=w.heap.size)(hlo:B<=st)(hst:w.heap[st]?=some (.cells C t (0,0)))(hT:t∈T):Fr B T w w':=
 Fr.of_tch ht hB (by simpa using hlo) (fun k hk C' t' h=>by
  simp at hk;subst hk;rw[hst]at h;simp at h;rw[<-h.2];exact hT)
theorem a2L {α:Type}(row:α->List Value)(k:Nat)(hk:∀x,(row x).length=k)(l:List α)(i j:Nat)(v:Value)(x':α)(hi:i<l.length)(hj:j<k)(hx:row x'=(row l[i]).set j v):(l.flatMap row).set (i*k+j) v=(l.set i x').flatMap row:=by
 induction l generalizing i with
 | nil=>simp at hi
 | cons x l ih=>
  cases i with
  | zero=>
   rw[List.set_cons_zero,List.flatMap_cons,List.flatMap_cons,Nat.zero_mul,Nat.zero_add,List.set_append_left _ _ (by rw[hk];exact hj),hx];rfl
  | succ i=>
   have e:(i+1)*k+j=(row x).length+(i*k+j):=by rw[hk,Nat.add_mul,Nat.one_mul];omega
   rw[List.set_cons_succ,List.flatMap_cons,List.flatMap_cons,e,List.set_append_right _ _ (by omega),Nat.add_sub_cancel_left,ih i (by simpa using hi) hx]
def a0c (til:Int)(m:Ms):Ms:={m with rcv:=(oft m.rcv.toNat:Nat),til:=til}
def zO (til:Int)(ms:List Ms)(z:Int):List Ms:=match ms[z.toNat]? with
 | some m=>ms.set z.toNat (a0c til m)
 | none=>ms
def jP (til:Int)(ms:List Ms)(zs:List Int):List Ms:=zs.foldl (zO til) ms
theorem a9m (til:Int)(ms:List Ms)(z:Int):(zO til ms z).length=ms.length:=by
 unfold zO;split<;>simp
theorem a2M (til:Int)(ms:List Ms)(zs:List Int):(jP til ms zs).length=ms.length:=by
 unfold jP
 induction zs generalizing ms with
 | nil=>rfl
 | cons z zs ih=>rw[List.foldl_cons,ih,a9m]
theorem b3T (til:Int)(m:Ms)(h:a0W m):a0W (a0c til m):=⟨h.num,⟨by show (0:Int)<=((oft m.rcv.toNat:Nat):Int);omega,by show ((oft m.rcv.toNat:Nat):Int)<=65535;have:=a4S m.rcv.toNat;omega⟩,h.grp,h.bod⟩
theorem b1b (til:Int)(ms:List Ms)(z:Int)(h:∀m∈ms,a0W m):∀m∈zO til ms z,a0W m:=by
 unfold zO
 split
 ·rename_i m hm
  intro x hx;rcases List.mem_or_eq_of_mem_set hx with hx|hx
  ·exact h x hx
  ·rw[hx];exact b3T til m (h m (List.mem_of_getElem? hm))
 ·exact h
theorem a9k (til:Int)(ms:List Ms)(zs:List Int)(h:∀m∈ms,a0W m):∀m∈jP til ms zs,a0W m:=by
 unfold jP
 induction zs generalizing ms with
 | nil=>exact h
 | cons z zs ih=>rw[List.foldl_cons];exact ih _ (b1b til ms z h)
structure Cap (wr:World)(qb:Nat)(CC:Array Value)(cnt g0 gc ga base:Nat)(til:Int)(hds:List Int)(av:Value)(ans:List UInt8):Prop where
 hgq:wr.heap[g0]?=some (.cells #[zp qb] 152 (0,0))
 hgr:wr.heap[g0+1]?=some (.cells CC 27 (0,0))
 hgc:wr.heap[gc]?=some (.cells #[.int .i64 (cnt:Int)] 3 (0,0))
 hga:wr.heap[ga]?=some (.cells #[av] 74 (0,0))
 hgu:wr.heap[ga+1]?=some (.cells #[.int .i64 til] 3 (0,0))
 hhb:wr.heap[ga+1+1]?=some (.cells (qz hds cnt) 3 (0,0))
 hgh:wr.heap[ga+1+1+1]?=some (.cells #[.slice (some ⟨ga+1+1,0,none⟩) cnt cnt] 258 (0,0))
 own:OwnB wr base av ans
theorem RcI.cap {wr:World}{kh ka:Nat}(h:RcI w wr qb V Q CC cnt gc ga base til kh ka av):Cap wr qb CC cnt w.heap.size gc ga base til (kc Q kh) av (jQ Q cnt ka):=
 ⟨h.hgq,h.hgr,h.hgc,h.hga,h.hgu,h.hhb,h.hgh,h.own⟩
theorem Cap.keep {g0:Nat}{hds:List Int}{ans:List UInt8}(h:Cap w qb CC cnt g0 gc ga base til hds av ans)(hf:Fr B T w w')(hT:∀t∈[152,27,3,74,258,5],t∉T):Cap w' qb CC cnt g0 gc ga base til hds av ans:=
 ⟨hf.keep _ _ _ h.hgq (hT _ (by decide)),hf.keep _ _ _ h.hgr (hT _ (by decide)),hf.keep _ _ _ h.hgc (hT _ (by decide)),hf.keep _ _ _ h.hga (hT _ (by decide)),hf.keep _ _ _ h.hgu (hT _ (by decide)),hf.keep _ _ _ h.hhb (hT _ (by decide)),hf.keep _ _ _ h.hgh (hT _ (by decide)),hf.own h.own (hT _ (by decide))⟩
theorem QR.setM (h:QR w qb V Q){gm cm:Nat}(hvm:V.m=.slice (some ⟨gm,0,none⟩) Q.ms.length cm)(i j:Nat)(v:Value)(x':Ms)(hi:i<Q.ms.length)(hj:j<5)(hx:x'.row=(Q.ms[i]).row.set j v):
  QR (w.setCell ⟨gm,i*5+j,none⟩ v) qb V {Q with ms:=Q.ms.set i x'}/\Tch [gm] w (w.setCell ⟨gm,i*5+j,none⟩ v)/\Fr 0 [226] w (w.setCell ⟨gm,i*5+j,none⟩ v):=by
 have t1:Tch [gm] w (w.setCell ⟨gm,i*5+j,none⟩ v):=(Tch.refl _ _).setCell (fun _=>by simp) _;have hm:=h.m;rw[hvm]at hm;obtain⟨C,hC⟩:∃C,w.heap[gm]?=some (.cells C 226 (0,0)):=by
  rcases hm.2 with ⟨e,_⟩|⟨g',cap',cur,e,_,hr,_⟩
  ·simp at e
  ·simp at e;obtain⟨e1,_⟩:=e;subst e1;exact⟨_,hr⟩
 have hf:Fr 0 [226] w (w.setCell ⟨gm,i*5+j,none⟩ v):=Fr.one t1 (Nat.zero_le _) (Nat.zero_le _) hC (by decide);refine⟨⟨hf.keep _ _ _ h.blk (by decide),?_,hf.own h.r (by decide),hf.own h.d (by decide),hf.own h.a (by decide)⟩,t1,hf⟩;have h2:=(World.ownsRow.stored hm (i*5+j) v).1
 show World.ownsRow _ 0 226 5 V.m (Q.ms.set i x').length ((Q.ms.set i x').flatMap Ms.row)
 rw[hvm,List.length_set,<-a2L Ms.row 5 (fun _=>rfl) Q.ms i j v x' hi hj hx];exact h2
end Go.Proofs.YtbdobaapadlcjaaGreatDoor
namespace Go.Proofs.YtbdobaapadlcjaaGreatDoor
open Go.Shelf Go.RowKit Go.Lib
variable {base e size n g k j:Nat}{w:World}{xs:List Value}
def b1z:Go.Shelf.Ren:=⟨fun|24=>214|n=>n,fun|24=>25|9=>9|3=>3|0=>0|4=>4|n=>n,fun|n=>n⟩
theorem b9w:Go.Proofs.Lays2.n24 Tryz.prog b1z:={
 mixed:=by kernel_rfl
 f24:=Tryz.func214.trans (congrArg some (by kernel_rfl))
 t0:=Tryz.underlying0
 a0:=Tryz.isAgg0
 z0:=Tryz.sizeOf0
 v0:=Tryz.zeroValue0
 t3:=Tryz.underlying3
 a3:=Tryz.isAgg3
 z3:=Tryz.sizeOf3
 v3:=Tryz.zeroValue3
 t4:=Tryz.underlying4
 a4:=Tryz.isAgg4
 z4:=Tryz.sizeOf4
 v4:=Tryz.zeroValue4
 t9:=Tryz.underlying9
 a9:=Tryz.isAgg9
 z9:=Tryz.sizeOf9
 v9:=Tryz.zeroValue9
 t24:=Tryz.underlying25
 a24:=Tryz.isAgg25
 z24:=Tryz.sizeOf25
 v24:=Tryz.zeroValue25
 i9:=by kernel_rfl}
def ve:List Value->Nat->List Value->List Value
 | xs,_,[]=>xs
 | xs,o,v::r=>ve (xs.set o v) (o+1) r
theorem kG {cap:Nat}:∀(vs:List Value) (o:Nat) (w:World) (xs:List Value),w.ownsRow base e size (.slice (some ⟨g,0,none⟩) n cap) n xs->(w.setCells g o vs).ownsRow base e size (.slice (some ⟨g,0,none⟩) n cap) n (ve xs o vs)
 | [],_,_,_,h=>h
 | v::r,o,w,xs,h=>kG r (o+1) _ _ (World.ownsRow.stored h o v).1
theorem a5Y (pre xs vs:List Value)(h:xs.length=vs.length):ve (pre++xs) pre.length vs=pre++vs:=by
 induction vs generalizing pre xs with
 | nil=>
  have:xs=[]:=List.length_eq_zero_iff.1 h;simp[ve,this]
 | cons v r ih=>
  cases xs with
  | nil=>simp at h
  | cons x xs=>
   simp only[ve];rw[List.set_append_right _ _ (Nat.le_refl _),Nat.sub_self,List.set_cons_zero];have e1:pre++v::xs=(pre++[v])++xs:=by simp
   have e2:pre.length+1=(pre++[v]).length:=by simp
   rw[e1,e2,ih (pre++[v]) xs (by simpa using h)];simp
theorem qg (g:Nat):∀(vs:List Value) (o:Nat) (w:World),Tch [g] w (w.setCells g o vs)
 | [],_,w=>Tch.refl _ _
 | v::r,o,w=>((Tch.refl [g] w).setCell (fun _=>by simp) v).trans (qg g r (o+1) _) (fun _ h _=>h)
theorem a0w {n' cap:Nat}(h:w.ownsRow base e size (.slice (some ⟨g,0,none⟩) n cap) n xs)(hn:n'<=n):w.ownsRow base e size (.slice (some ⟨g,0,none⟩) n' cap) n' (xs.take (n'*size)):=by
 have hle:n'*size<=n*size:=Nat.mul_le_mul_right _ hn;refine⟨by rw[List.length_take,h.1];omega,?_⟩;rcases h.2 with ⟨h',_⟩|⟨g',cap',cur,h',hb,hg,hnc,hcm,hcs,htake⟩
 ·simp at h'
 ·simp only[Value.slice.injEq,Option.some.injEq,Addr.mk.injEq,and_true,true_and]at h';obtain⟨rfl,rfl⟩:=h';refine .inr ⟨g,cap,cur,rfl,hb,hg,by omega,hcm,hcs,?_⟩;rw[<-htake,List.take_take,Nat.min_eq_left hle]
theorem a4x (rs:List ByteArray)(g c cnt:Nat)(w:World)(ho:w.ownsRow 0 9 1 (.slice (some ⟨g,0,none⟩) rs.length c) rs.length (rs.map Value.string))(hc:cnt<=rs.length):
  Cp 214 #[.slice (some ⟨g,0,none⟩) rs.length c,.int .i64 0,.int .i64 (cnt:Int)] w fun e w'=>e=.returned (.slice (some ⟨g,0,none⟩) (rs.length-cnt) c)/\w'.ownsRow 0 9 1 (.slice (some ⟨g,0,none⟩) (rs.length-cnt) c) (rs.length-cnt) ((rs.drop cnt).map Value.string)/\Tch [g] w w':=by
 obtain⟨hnc,hcm,hrow⟩:rs.length<=c/\c<=maxLen/\∃cur,w.heap[g]?=some (.cells cur 9 (0,0)):=by
  rcases ho.2 with ⟨h',_⟩|⟨g',cap',cur,h',hb,hg,hnc,hcm,hcs,htake⟩
  ·simp at h'
  ·simp only[Value.slice.injEq,Option.some.injEq,Addr.mk.injEq,and_true,true_and]at h';obtain⟨rfl,rfl⟩:=h';exact⟨hnc,hcm,cur,hg⟩
 obtain⟨cur,hrow⟩:=hrow;have hcell:∀i,i<rs.length->w.cell? ⟨g,0+i,none⟩=some (.string (rs.getD i ⟨#[]⟩)):=fun i hi=>by
  have h1:=World.ownsRow.cells ho (g:=g) rfl i (.string (rs.getD i ⟨#[]⟩)) (by simp[hi]);have e2:(⟨g,0,none⟩:Addr).add i=⟨g,0+i,none⟩:=by unfold Addr.add;split<;>simp_all
  rw[e2]at h1;exact h1
 refine(Any.slices_Delete_string_cells b9w g 0 rs.length c 0 cnt (fun i=>rs.getD i ⟨#[]⟩) w hnc (by unfold maxLen at hcm;omega) (Nat.zero_le _) hc hcell (fun j hj=>frozen_of_row w g _ cur 9 hrow)).mono ?_;rintro e w' ⟨rfl,q,rfl⟩;have hst:Lib.strsOf (fun i=>rs.getD i ⟨#[]⟩) rs.length=rs.map (fun s=>s.data.toList):=by
  apply List.ext_getElem
  ·simp[Lib.strsOf]
  ·intro i h1 h2;simp[Lib.strsOf]at h1 ⊢;simp[h1]
 have hw:=ho;have t1:Tch [] w (w.drewN q):=(Tch.refl [] w).drewN q;refine⟨rfl,?_,(t1.sub (by simp)).trans (qg g _ 0 _) (fun _ h _=>h)⟩;have h2:=kG ((((Lib.strsOf (fun i=>rs.getD i ⟨#[]⟩) rs.length).take 0++(Lib.strsOf (fun i=>rs.getD i ⟨#[]⟩) rs.length).drop cnt++List.replicate (cnt-0) []).map encStr)) 0 (w.drewN q) _ hw;have e1:ve (rs.map Value.string) 0 ((((Lib.strsOf (fun i=>rs.getD i ⟨#[]⟩) rs.length).take 0++(Lib.strsOf (fun i=>rs.getD i ⟨#[]⟩) rs.length).drop cnt++List.replicate (cnt-0) []).map encStr))=(((Lib.strsOf (fun i=>rs.getD i ⟨#[]⟩) rs.length).take 0++(Lib.strsOf (fun i=>rs.getD i ⟨#[]⟩) rs.length).drop cnt++List.replicate (cnt-0) []).map encStr):=by
  have h3:=a5Y [] (rs.map Value.string) (((Lib.strsOf (fun i=>rs.getD i ⟨#[]⟩) rs.length).take 0++(Lib.strsOf (fun i=>rs.getD i ⟨#[]⟩) rs.length).drop cnt++List.replicate (cnt-0) []).map encStr) (by simp[Lib.strsOf_length];omega);simpa using h3
 rw[e1]at h2;have h4:=a0w h2 (n':=rs.length-cnt) (by omega);have e2:((((Lib.strsOf (fun i=>rs.getD i ⟨#[]⟩) rs.length).take 0++(Lib.strsOf (fun i=>rs.getD i ⟨#[]⟩) rs.length).drop cnt++List.replicate (cnt-0) []).map encStr)).take ((rs.length-cnt)*1)=(rs.drop cnt).map Value.string:=by
  rw[hst];simp only[List.take_zero,List.nil_append,Nat.mul_one,List.map_append];rw[List.take_append_of_le_length (by simp),List.take_of_length_le (by simp)];have e3:(rs.map (fun s=>s.data.toList)).map encStr=rs.map Value.string:=by
   rw[List.map_map];apply List.map_congr_left;intro s _
   cases s
   simp[encStr]
  rw[List.map_drop,e3,List.map_drop]
 rw[e2]at h4;exact h4
theorem b8q:∀args w,(callFunc 294 args).run Tryz.prog w=.ok (.enter 294 args) w:=enters_of Tryz.func294 (by kernel_rfl) rfl
theorem a5y (now:Int)(B:Nat)(w:World)(hB:B<w.heap.size)(hcell:w.cell? ⟨B,0,none⟩=some (.int .i64 now)):
  PredBelow Tryz.prog 294 #[zp B] (fun x:Dd=>.agg x.row.toArray) (fun x=>decide (x.til<=now)) w:=fun W x hb=>by
 have hc:=(hb.cell (p:=⟨B,0,none⟩) hB).trans hcell;have hBW:B<W.heap.size:=Nat.lt_of_lt_of_le hB hb.size
 show Cp 294 #[.agg #[.string x.id,.int .i64 x.num,.int .i64 x.til],zp B] W _
 go_enter Tryz.func294,Tryz.ntmps294
 go_wp2
 all_goals (go_ret;exact⟨by simp_all,hb.alloc hb.size _⟩)
theorem vy (vs:List Value):∀(xs:List Value) (o m:Nat),m<=o->(ve xs o vs).take m=xs.take m:=by
 induction vs with
 | nil=>intro xs o m _;rfl
 | cons v r ih=>
  intro xs o m h;simp only[ve];rw[ih (xs.set o v) (o+1) m (by omega),List.take_set_of_le h]
theorem a5Z (vs:List Value):∀(pre ys post:List Value),ys.length=vs.length->ve (pre++(ys++post)) pre.length vs=pre++(vs++post):=by
 induction vs with
 | nil=>
  intro pre ys post h;have e:ys=[]:=List.length_eq_zero_iff.1 h;simp[ve,e]
 | cons v r ih=>
  intro pre ys post h
  cases ys with
  | nil=>simp at h
  | cons y ys=>
   simp only[ve,List.cons_append];rw[List.set_append_right _ _ (Nat.le_refl _),Nat.sub_self,List.set_cons_zero];have e1:pre++v::(ys++post)=(pre++[v])++(ys++post):=by simp
   have e2:pre.length+1=(pre++[v]).length:=by simp
   rw[e1,e2,ih (pre++[v]) ys post (by simpa using h)];simp
theorem a2K {α:Type}(row:α->List Value)(k:Nat)(hk:∀x,(row x).length=k)(L:List α)(i:Nat)(x:α)(hi:i<L.length):ve (L.flatMap row) (i*k) (row x)=(L.set i x).flatMap row:=by
 have e1:L.flatMap row=(L.take i).flatMap row++(row L[i]++(L.drop (i+1)).flatMap row):=by
  rw[<-List.flatMap_cons,<-List.flatMap_append,List.getElem_cons_drop,List.take_append_drop]
 have e2:((L.take i).flatMap row).length=i*k:=by rw[qH row k hk,List.length_take,Nat.min_eq_left (by omega)]
 rw[e1,<-e2,a5Z _ _ _ _ (by rw[hk,hk]),List.set_eq_take_append_cons_drop,if_pos hi,List.flatMap_append,List.flatMap_cons]
theorem ze {α:Type}(row:α->List Value)(k:Nat)(hk:∀x,(row x).length=k)(L:List α)(i:Nat)(hi:i<=L.length):(L.flatMap row).take (i*k)=(L.take i).flatMap row:=by
 have e1:L.flatMap row=(L.take i).flatMap row++(L.drop i).flatMap row:=by rw[<-List.flatMap_append,List.take_append_drop]
 have e2:((L.take i).flatMap row).length=i*k:=by rw[qH row k hk,List.length_take,Nat.min_eq_left (by omega)]
 rw[e1,<-e2,List.take_left'];rfl
structure Dl {α:Type}(p:α->Bool)(l L:List α)(k j:Nat):Prop where
 kj:k<j
 jn:j<=l.length
 len:L.length=l.length
 tk:L.take k=(l.take j).filter (fun x=>!p x)
 dr:L.drop j=l.drop j
theorem Dl.get {α:Type}{p:α->Bool}{l L:List α}(h:Dl p l L k j)(hj:j<l.length):L[j]?=l[j]?:=by
 have h1:=congrArg (fun z=>z[0]?) h.dr;simpa using h1
theorem Dl.keep {α:Type}{p:α->Bool}{l L:List α}(h:Dl p l L k j)(x:α)(hx:l[j]?=some x)(hp:p x=false):Dl p l (L.set k x) (k+1) (j+1):=by
 have hj:j<l.length:=(List.getElem?_eq_some_iff.1 hx).1;have hxe:l[j]=x:=(List.getElem?_eq_some_iff.1 hx).2;have hk:=h.kj;have hl:=h.len;refine⟨by omega,by omega,by rw[List.length_set];exact h.len,?_,?_⟩
 ·have e1:(L.set k x).take (k+1)=L.take k++[x]:=by
   rw[List.take_succ_eq_append_getElem (by simp;omega),List.take_set_of_le (Nat.le_refl _)];simp
  rw[e1,h.tk,List.take_succ_eq_append_getElem hj,List.filter_append,hxe];simp[hp]
 ·rw[List.drop_set_of_lt (show k<j+1 by omega)];have h1:=congrArg (List.drop 1) h.dr;simpa using h1
theorem Dl.skip {α:Type}{p:α->Bool}{l L:List α}(h:Dl p l L k j)(x:α)(hx:l[j]?=some x)(hp:p x=true):Dl p l L k (j+1):=by
 have hj:j<l.length:=(List.getElem?_eq_some_iff.1 hx).1;have hxe:l[j]=x:=(List.getElem?_eq_some_iff.1 hx).2;have hk:=h.kj;refine⟨by omega,by omega,h.len,?_,?_⟩
 ·rw[h.tk,List.take_succ_eq_append_getElem hj,List.filter_append,hxe];simp[hp]
 ·have h1:=congrArg (List.drop 1) h.dr;simpa using h1
theorem zC {α:Type}(p:α->Bool):∀(l:List α) (i:Nat),jj p l=(i:Int)->Dl p l l i (i+1)
 | [],i,h=>by simp[jj]at h
 | x::l,i,h=>by
  simp only[jj]at h
  by_cases hx:p x=true
  ·rw[if_pos hx]at h;have hi:i=0:=by omega
   subst hi;exact⟨by omega,by simp,rfl,by simp[hx],rfl⟩
  ·rw[if_neg hx]at h;have hg:=xv p l;have hx':p x=false:=by simpa using hx
   split at h
   ·omega
   ·have ih:=zC p l (i-1) (by omega);have hi:i-1+1=i:=by omega
    have hjn:=ih.jn;rw[hi]at ih hjn;refine⟨by omega,by simp;omega,rfl,?_,rfl⟩;have h1:=ih.tk;rw[List.take_succ_cons,List.filter_cons];simp only[hx',Bool.not_false,if_true];rw[<-h1]
    cases i with
    | zero=>omega
    | succ i=>simp
theorem a1B {α:Type}(p:α->Bool)(l:List α)(h:jj p l<0):l.filter (fun x=>!p x)=l:=by
 rw[List.filter_eq_self];intro x hx;rw[(qq p l).1 h x hx];rfl
theorem b1p (v:Value)(l:List Dd)(now:Int)(B:Nat)(w:World)(ho:w.ownsRow 0 230 3 v l.length (l.flatMap Dd.row))(hl:l.length<=1000000)(hB:B<w.heap.size)(hcell:w.cell? ⟨B,0,none⟩=some (.int .i64 now)):
  zB 268 #[v,.func (.func 294) #[] #[zp B]] w (.int .i64 (jj (fun x=>decide (x.til<=now)) l)):=by
 have inh:Inhabited Dd:=⟨⟨⟨#[]⟩,0,0⟩⟩;rcases ho.2 with ⟨rfl,h0⟩|⟨gd,cap,cur,rfl,_,hg,_⟩
 ·have e0:l=[]:=List.length_eq_zero_iff.1 h0;subst e0;refine(a1W none 0 _ w).mono ?_;rintro e w' ⟨rfl,rfl⟩;exact⟨rfl,Below.refl _ _⟩
 ·have h:=AnyQ.slices_IndexFunc b8I 3 Tryz.isAgg230 Tryz.sizeOf230 Dd.row (fun _=>rfl) (fun x=>decide (x.til<=now)) 294 #[zp B] b8q gd 0 l.length cap l w (a5y now B w hB hcell) (Nat.le_refl _) (by omega) (lt_of_block hg) (fun j hj i v hi=>jF Dd.row 3 (fun _=>rfl) ho j hj i v hi);rw[List.take_length,xH]at h;exact h
theorem b9q (w:World):(zeroValue 230).run Tryz.prog w=.ok (.agg #[.string ⟨#[]⟩,.int .i64 0,.int .i64 0]) w:=by kernel_rfl
theorem a7v (w:World)(ty:TypeId)(g k m cd:Nat)(hc:∀j,j<m*3->(w.cell? ⟨g,k*3+j,none⟩).isSome=true)(hf:∀j,w.frozen? ⟨g,j,none⟩=false)(hm:0<m):
  (Builtin.clear_ #[188] ty #[.slice (some ⟨g,k*3,none⟩) m cd]).run Tryz.prog w=.ok (.tuple #[]) (w.setCells g (k*3) (Builtin.zeroCells #[.string ⟨#[]⟩,.int .i64 0,.int .i64 0] m).toList):=by
 obtain⟨m',rfl⟩:∃m',m=m'+1:=⟨m-1,by omega⟩;have hst:=run_storeCells_cells (P:=Tryz.prog) g (k*3) (Builtin.zeroCells #[.string ⟨#[]⟩,.int .i64 0,.int .i64 0] (m'+1)).toList 0 w (fun j hj=>by
  rw[Nat.add_zero];exact hc j (by simpa [size_zeroCells]using hj)) (fun j hj=>hf _) (fun v hv=>by
  have hv':=Array.mem_toList_iff.1 hv;unfold Builtin.zeroCells at hv';obtain⟨i,hi,rfl⟩:=Array.mem_map.1 hv';have h3:i % 3=0\/i % 3=1\/i % 3=2:=by omega
  show Value.oneCell' (#[.string ⟨#[]⟩,.int .i64 0,.int .i64 0][i % 3]!)=true
  rcases h3 with h|h|h<;>rw[h]<;>rfl)
 have hz:(Value.agg #[.string ⟨#[]⟩,.int .i64 0,.int .i64 0]).cells=#[.string ⟨#[]⟩,.int .i64 0,.int .i64 0]:=rfl;simp only[Nat.add_zero]at hst;simp[Builtin.clear_,run_underlying Tryz.underlying188,b9q,hz,hst]
theorem b0I (v:Value)(l:List Dd)(now:Int)(B:Nat)(w:World)(ho:w.ownsRow 0 230 3 v l.length (l.flatMap Dd.row))(hl:l.length<=1000000)(hB:w.heap[B]?=some (.cells #[.int .i64 now] 3 (0,0))):
  Cp 293 #[v,.func (.func 294) #[] #[zp B]] w fun e w'=>∃v',e=.returned v'/\v'.ownBlock=v.ownBlock/\w'.ownsRow 0 230 3 v' (l.filter (fun x=>!decide (x.til<=now))).length ((l.filter (fun x=>!decide (x.til<=now))).flatMap Dd.row)/\Tch (bl v) w w':=by
 have inh:Inhabited Dd:=⟨⟨⟨#[]⟩,0,0⟩⟩;have hBl:=lt_of_block hB;have HB:=zH hB;have HI:Hid (Cp 268 _ w _):=b1p v l now B w ho hl hBl (cell_of_one hB)
 by_cases hneg:jj (fun x:Dd=>decide (x.til<=now)) l<0
 ·have hm1:jj (fun x:Dd=>decide (x.til<=now)) l=-1:=by have:=xv (fun x:Dd=>decide (x.til<=now)) l;omega
  rw[hm1]at HI;rw[a1B _ _ hneg];have HO:=zH ho;clear hB ho hm1 hneg;go_enter Tryz.func293,Tryz.ntmps293;go_wp2_with (go_at_call 268;refine HI.out.mono ?_;rintro e w' ⟨rfl,hb⟩);go_ret;exact⟨v,rfl,rfl,jf HO.out (Tch.of_below (by assumption)) (fun _ _=>by simp),(Tch.of_below (by assumption)).sub (by simp)⟩
 ·obtain⟨i0,hi0⟩:∃i:Nat,jj (fun x:Dd=>decide (x.til<=now)) l=(i:Int):=⟨_,(Int.toNat_of_nonneg (by omega)).symm⟩;have hdl:=zC _ l i0 hi0;rw[hi0]at HI;obtain⟨gd,cd,rfl⟩:∃g c,v=.slice (some ⟨g,0,none⟩) l.length c:=by
   rcases ho.2 with ⟨_,h0⟩|⟨g,cap,cur,h0,_⟩
   ·have:=hdl.jn;omega
   ·exact⟨g,cap,h0⟩
  have hcap:l.length<=cd:=by
   rcases ho.2 with ⟨h',_⟩|⟨g',cap',cur,h',_,_,hnc,_⟩
   ·simp at h'
   ·simp at h';omega
  have hBg:B≠gd:=fun e=>by
   rw[e]at hB;exact jA ho hB (by decide) rfl
  have HO:=zH ho;have HD:Hid (Dl (fun x=>decide (x.til<=now)) l l i0 (i0+1)):=hdl;have hi1:i0<l.length:=by have:=hdl.jn;omega
  have hne1:((i0:Int) == -1)=false:=beq_eq_false_iff_ne.2 (by omega);clear hB ho hi0 hneg hdl;go_enter Tryz.func293,Tryz.ntmps293;go_wp2_with (go_at_call 268;refine HI.out.mono ?_;rintro e w' ⟨rfl,hb⟩;have T0:Hid (Tch [gd] w w'):=(Tch.of_below hb).sub (by simp);have O0:Hid (w'.ownsRow 0 230 3 (.slice (some ⟨gd,0,none⟩) l.length cd) l.length (l.flatMap Dd.row)):=jf HO.out (Tch.of_below hb) (fun _ _=>by simp);clear hb HI)
  go_loopw [5,6] (fun iv jv wr=>∃(k j:Nat) (L:List Dd),iv=.int .i64 (k:Int)/\jv=.int .i64 (j:Int)/\Dl (fun x=>decide (x.til<=now)) l L k j/\wr.ownsRow 0 230 3 (.slice (some ⟨gd,0,none⟩) l.length cd) L.length (L.flatMap Dd.row)/\Tch [gd] w wr) (fun _ jv _=>l.length-(intOf jv).toNat)
  case atStart=>exact⟨i0,i0+1,l,rfl,by go_num,HD.out,O0.out,T0.out⟩
  case round=>
   obtain⟨k,j,L,rfl,rfl,hd,hor,htr⟩:=hrel;have hkj:=hd.kj;have hjn:=hd.jn;have hll:=hd.len;have HOR:Hid (wr.ownsRow 0 230 3 (.slice (some ⟨gd,0,none⟩) l.length cd) L.length (L.flatMap Dd.row)):=hor;have HTR:Hid (Tch [gd] w wr):=htr;have HDL:Hid (Dl (fun x=>decide (x.til<=now)) l L k j):=hd
   by_cases hlt:j<l.length
   ·obtain⟨x,hx⟩:∃x,l[j]?=some x:=⟨_,List.getElem?_eq_getElem hlt⟩;have hLx:L[j]?=some x:=(hd.get hlt).trans hx;have hjL:j<L.length:=by omega
    have fm:∀i v,x.row[i]?=some v->wr.cell? ⟨gd,j*3+i,none⟩=some v:=fun i v hi=>by
     have h1:=jF Dd.row 3 (fun _=>rfl) hor j hjL i v (by rw[List.getElem!_eq_getElem?_getD,hLx];exact hi);simpa using h1
    have g0:wr.cell? ⟨gd,j*3,none⟩=some (.string x.id):=fm 0 _ rfl;have g1:wr.cell? ⟨gd,j*3+1,none⟩=some (.int .i64 x.num):=fm 1 _ rfl;have g2:wr.cell? ⟨gd,j*3+2,none⟩=some (.int .i64 x.til):=fm 2 _ rfl;have HP:Hid (∀W,Tch [] wr W->zB 294 #[.agg #[(.string x.id),(.int .i64 x.num),(.int .i64 x.til)],zp B] W (.bool (decide (x.til<=now)))):=fun W hW=>by
     have hBW:W.heap[B]?=some (.cells #[.int .i64 now] 3 (0,0)):=(hW.block _ (Nat.lt_of_lt_of_le hBl HTR.out.size) (by simp)).trans ((HTR.out.block _ hBl (by simpa using hBg)).trans HB.out);exact a5y now B W (lt_of_block hBW) (cell_of_one hBW) W x (Below.refl _ _)
    clear hd hor htr fm hLx;have HP1:Hid (Cp 294 #[.agg #[(.string x.id),(.int .i64 x.num),(.int .i64 x.til)],zp B] (wr.alloc (.cells #[(.string x.id),(.int .i64 x.num),(.int .i64 x.til)] 230)) fun e w'=>e=.returned (.bool (decide (x.til<=now)))/\Tch [] wr w'/\w'.heap[wr.heap.size]?=some (.cells #[(.string x.id),(.int .i64 x.num),(.int .i64 x.til)] 230 (0,0))):=(HP.out _ ((Tch.refl _ _).alloc _)).mono (by
     rintro e w' ⟨he,hb⟩;exact⟨he,((Tch.refl [] wr).alloc _).trans (Tch.of_below hb) (by simp),(hb.block _ (by simp)).trans (heap_alloc_new _ _)⟩)
    clear HP
    by_cases hp:x.til<=now
    ·have hdec:decide (x.til<=now)=true:=by simpa using hp
     rw[hdec]at HP1;have HPX:Hid (decide (x.til<=now)=true):=hdec;clear hp hdec;go_wp2_with fail;refine HP1.out.mono ?_;rintro e w1 ⟨rfl,ht1,hc1⟩;have HR:Hid (w1.ownsRow 0 230 3 (.slice (some ⟨gd,0,none⟩) l.length cd) L.length (L.flatMap Dd.row)/\Tch [gd] w w1):=⟨jf HOR.out ht1 (fun _ _=>by simp),HTR.out.trans ht1 (by simp)⟩;clear ht1 hc1 g0 g1 g2 HP1;go_wp2_with fail;go_roundw
     case rel=>exact⟨k,j+1,L,rfl,by go_num,HDL.out.skip x hx HPX.out,HR.out.1,HR.out.2⟩
     case measure=>simp[intOf];omega
    ·have hdec:decide (x.til<=now)=false:=by simpa using hp
     rw[hdec]at HP1;have HPX:Hid (decide (x.til<=now)=false):=hdec;clear hp hdec;go_wp2_with fail;refine HP1.out.mono ?_;rintro e w1 ⟨rfl,ht1,hc1⟩;have ho1:=jf HOR.out ht1 (fun _ _=>by simp);have hkL:k<L.length:=by omega
     obtain⟨y,hy⟩:∃y,L[k]?=some y:=⟨_,List.getElem?_eq_getElem hkL⟩;have fk:∀i v,y.row[i]?=some v->w1.cell? ⟨gd,k*3+i,none⟩=some v:=fun i v hi=>by
      have h1:=jF Dd.row 3 (fun _=>rfl) ho1 k hkL i v (by rw[List.getElem!_eq_getElem?_getD,hy];exact hi);simpa using h1
     have k0:w1.cell? ⟨gd,k*3,none⟩=some (.string y.id):=fk 0 _ rfl;have k1:w1.cell? ⟨gd,k*3+1,none⟩=some (.int .i64 y.num):=fk 1 _ rfl;have k2:w1.cell? ⟨gd,k*3+2,none⟩=some (.int .i64 y.til):=fk 2 _ rfl;have m0:w1.cell? ⟨wr.heap.size,0,none⟩=some (.string x.id):=jb hc1 0 _ rfl;have m1:w1.cell? ⟨wr.heap.size,1,none⟩=some (.int .i64 x.num):=jb hc1 1 _ rfl;have m2:w1.cell? ⟨wr.heap.size,2,none⟩=some (.int .i64 x.til):=jb hc1 2 _ rfl;rw[hll]at ho1;have z0:∀i,w1.frozen? ⟨gd,i,none⟩=false:=fun i=>World.ownsRow.frozenAt ho1 i
     have HR:Hid ((((w1.setCell ⟨gd,k*3,none⟩ (.string x.id)).setCell ⟨gd,k*3+1,none⟩ (.int .i64 x.num)).setCell ⟨gd,k*3+2,none⟩ (.int .i64 x.til)).ownsRow 0 230 3 (.slice (some ⟨gd,0,none⟩) l.length cd) (L.set k x).length ((L.set k x).flatMap Dd.row)/\Tch [gd] w (((w1.setCell ⟨gd,k*3,none⟩ (.string x.id)).setCell ⟨gd,k*3+1,none⟩ (.int .i64 x.num)).setCell ⟨gd,k*3+2,none⟩ (.int .i64 x.til))):=by
      refine⟨?_,(((HTR.out.trans ht1 (by simp)).setCell (fun _=>by simp) _).setCell (fun _=>by simp) _).setCell (fun _=>by simp) _⟩;rw[List.length_set,hll,<-a2K Dd.row 3 (fun _=>rfl) L k x hkL];exact kG x.row (k*3) w1 _ ho1
     clear g0 g1 g2 HP1 ht1 hc1 ho1 fk hy;go_wp2_with fail;go_roundw
     case rel=>exact⟨k+1,j+1,L.set k x,by go_num,by go_num,HDL.out.keep x hx HPX.out,HR.out.1,HR.out.2⟩
     case measure=>simp[intOf];omega
   ·have hje:l.length=j:=by omega
    have hkk:(l.filter (fun x=>!decide (x.til<=now))).length=k/\L.take k=l.filter (fun x=>!decide (x.til<=now)):=by
     have h1:=hd.tk;have e9:l.take j=l:=List.take_of_length_le (by omega);rw[e9]at h1;refine⟨?_,h1⟩;rw[<-h1,List.length_take];omega
    rw[hll]at hor;have hclr:=a7v wr 0 gd k (j-k) (cd-k) (fun i hi=>by
     have h1:k*3+i<(L.flatMap Dd.row).length:=by rw[qH Dd.row 3 (fun _=>rfl)];omega
     have h2:=World.ownsRow.cells hor (g:=gd) rfl (k*3+i) _ (List.getElem?_eq_getElem h1);have e:(⟨gd,0,none⟩:Addr).add (k*3+i)=⟨gd,k*3+i,none⟩:=by unfold Addr.add;split<;>simp_all
     rw[e]at h2;rw[h2];rfl) (fun i=>World.ownsRow.frozenAt hor i) (by omega)
    have HF:Hid ((wr.setCells gd (k*3) (Builtin.zeroCells #[.string ⟨#[]⟩,.int .i64 0,.int .i64 0] (j-k)).toList).ownsRow 0 230 3 (.slice (some ⟨gd,0,none⟩) k cd) (l.filter (fun x=>!decide (x.til<=now))).length ((l.filter (fun x=>!decide (x.til<=now))).flatMap Dd.row)/\Tch [gd] w (wr.setCells gd (k*3) (Builtin.zeroCells #[.string ⟨#[]⟩,.int .i64 0,.int .i64 0] (j-k)).toList)):=by
     refine⟨?_,htr.trans (qg gd _ _ _) (fun _ h _=>h)⟩;have h1:=a0w (kG (Builtin.zeroCells #[.string ⟨#[]⟩,.int .i64 0,.int .i64 0] (j-k)).toList (k*3) wr _ hor) (n':=k) (by omega);rw[vy _ _ _ _ (Nat.le_refl _),ze Dd.row 3 (fun _=>rfl) L k (by omega),hkk.2]at h1;rw[hkk.1];exact h1
    generalize wr.setCells gd (k*3) (Builtin.zeroCells #[.string ⟨#[]⟩,.int .i64 0,.int .i64 0] (j-k)).toList=w2 at*
    clear hd hor htr hkk;go_wp2_with fail;go_ret;exact⟨.slice (some ⟨gd,0,none⟩) k cd,rfl,rfl,HF.out.1,HF.out.2⟩
theorem b8u:∀args w,(callFunc 296 args).run Tryz.prog w=.ok (.enter 296 args) w:=enters_of Tryz.func296 (by kernel_rfl) rfl
theorem a3K (now:Int)(B:Nat)(w:World)(hB:B<w.heap.size)(hcell:w.cell? ⟨B,0,none⟩=some (.int .i64 now)):
  PredBelow Tryz.prog 296 #[zp B] (fun x:At=>.agg x.row.toArray) (fun x=>decide (x.til<=now)) w:=fun W x hb=>by
 have hc:=(hb.cell (p:=⟨B,0,none⟩) hB).trans hcell;have hBW:B<W.heap.size:=Nat.lt_of_lt_of_le hB hb.size
 show Cp 296 #[.agg #[.string x.id,.int .i64 x.til,.string x.ans],zp B] W _
 go_enter Tryz.func296,Tryz.ntmps296
 go_wp2
 all_goals (go_ret;exact⟨by simp_all,hb.alloc hb.size _⟩)
theorem b1o (v:Value)(l:List At)(now:Int)(B:Nat)(w:World)(ho:w.ownsRow 0 234 3 v l.length (l.flatMap At.row))(hl:l.length<=1000000)(hB:B<w.heap.size)(hcell:w.cell? ⟨B,0,none⟩=some (.int .i64 now)):
  zB 262 #[v,.func (.func 296) #[] #[zp B]] w (.int .i64 (jj (fun x=>decide (x.til<=now)) l)):=by
 have inh:Inhabited At:=⟨⟨⟨#[]⟩,0,⟨#[]⟩⟩⟩;rcases ho.2 with ⟨rfl,h0⟩|⟨gd,cap,cur,rfl,_,hg,_⟩
 ·have e0:l=[]:=List.length_eq_zero_iff.1 h0;subst e0;refine(a2R none 0 _ w).mono ?_;rintro e w' ⟨rfl,rfl⟩;exact⟨rfl,Below.refl _ _⟩
 ·have h:=AnyQ.slices_IndexFunc b8J 3 Tryz.isAgg234 Tryz.sizeOf234 At.row (fun _=>rfl) (fun x=>decide (x.til<=now)) 296 #[zp B] b8u gd 0 l.length cap l w (a3K now B w hB hcell) (Nat.le_refl _) (by omega) (lt_of_block hg) (fun j hj i v hi=>jF At.row 3 (fun _=>rfl) ho j hj i v hi);rw[List.take_length,xH]at h;exact h
theorem b9p (w:World):(zeroValue 234).run Tryz.prog w=.ok (.agg #[.string ⟨#[]⟩,.int .i64 0,.string ⟨#[]⟩]) w:=by kernel_rfl
theorem a3p (w:World)(ty:TypeId)(g k m cd:Nat)(hc:∀j,j<m*3->(w.cell? ⟨g,k*3+j,none⟩).isSome=true)(hf:∀j,w.frozen? ⟨g,j,none⟩=false)(hm:0<m):
  (Builtin.clear_ #[189] ty #[.slice (some ⟨g,k*3,none⟩) m cd]).run Tryz.prog w=.ok (.tuple #[]) (w.setCells g (k*3) (Builtin.zeroCells #[.string ⟨#[]⟩,.int .i64 0,.string ⟨#[]⟩] m).toList):=by
 obtain⟨m',rfl⟩:∃m',m=m'+1:=⟨m-1,by omega⟩;have hst:=run_storeCells_cells (P:=Tryz.prog) g (k*3) (Builtin.zeroCells #[.string ⟨#[]⟩,.int .i64 0,.string ⟨#[]⟩] (m'+1)).toList 0 w (fun j hj=>by
  rw[Nat.add_zero];exact hc j (by simpa [size_zeroCells]using hj)) (fun j hj=>hf _) (fun v hv=>by
  have hv':=Array.mem_toList_iff.1 hv;unfold Builtin.zeroCells at hv';obtain⟨i,hi,rfl⟩:=Array.mem_map.1 hv';have h3:i % 3=0\/i % 3=1\/i % 3=2:=by omega
  show Value.oneCell' (#[.string ⟨#[]⟩,.int .i64 0,.string ⟨#[]⟩][i % 3]!)=true
  rcases h3 with h|h|h<;>rw[h]<;>rfl)
 have hz:(Value.agg #[.string ⟨#[]⟩,.int .i64 0,.string ⟨#[]⟩]).cells=#[.string ⟨#[]⟩,.int .i64 0,.string ⟨#[]⟩]:=rfl;simp only[Nat.add_zero]at hst;simp[Builtin.clear_,run_underlying Tryz.underlying189,b9p,hz,hst]
theorem b0H (v:Value)(l:List At)(now:Int)(B:Nat)(w:World)(ho:w.ownsRow 0 234 3 v l.length (l.flatMap At.row))(hl:l.length<=1000000)(hB:w.heap[B]?=some (.cells #[.int .i64 now] 3 (0,0))):
  Cp 295 #[v,.func (.func 296) #[] #[zp B]] w fun e w'=>∃v',e=.returned v'/\v'.ownBlock=v.ownBlock/\w'.ownsRow 0 234 3 v' (l.filter (fun x=>!decide (x.til<=now))).length ((l.filter (fun x=>!decide (x.til<=now))).flatMap At.row)/\Tch (bl v) w w':=by
 have inh:Inhabited At:=⟨⟨⟨#[]⟩,0,⟨#[]⟩⟩⟩;have hBl:=lt_of_block hB;have HB:=zH hB;have HI:Hid (Cp 262 _ w _):=b1o v l now B w ho hl hBl (cell_of_one hB)
 by_cases hneg:jj (fun x:At=>decide (x.til<=now)) l<0
 ·have hm1:jj (fun x:At=>decide (x.til<=now)) l=-1:=by have:=xv (fun x:At=>decide (x.til<=now)) l;omega
  rw[hm1]at HI;rw[a1B _ _ hneg];have HO:=zH ho;clear hB ho hm1 hneg;go_enter Tryz.func295,Tryz.ntmps295;go_wp2_with (go_at_call 262;refine HI.out.mono ?_;rintro e w' ⟨rfl,hb⟩);go_ret;exact⟨v,rfl,rfl,jf HO.out (Tch.of_below (by assumption)) (fun _ _=>by simp),(Tch.of_below (by assumption)).sub (by simp)⟩
 ·obtain⟨i0,hi0⟩:∃i:Nat,jj (fun x:At=>decide (x.til<=now)) l=(i:Int):=⟨_,(Int.toNat_of_nonneg (by omega)).symm⟩;have hdl:=zC _ l i0 hi0;rw[hi0]at HI;obtain⟨gd,cd,rfl⟩:∃g c,v=.slice (some ⟨g,0,none⟩) l.length c:=by
   rcases ho.2 with ⟨_,h0⟩|⟨g,cap,cur,h0,_⟩
   ·have:=hdl.jn;omega
   ·exact⟨g,cap,h0⟩
  have hcap:l.length<=cd:=by
   rcases ho.2 with ⟨h',_⟩|⟨g',cap',cur,h',_,_,hnc,_⟩
   ·simp at h'
   ·simp at h';omega
  have hBg:B≠gd:=fun e=>by
   rw[e]at hB;exact jA ho hB (by decide) rfl
  have HO:=zH ho;have HD:Hid (Dl (fun x=>decide (x.til<=now)) l l i0 (i0+1)):=hdl;have hi1:i0<l.length:=by have:=hdl.jn;omega
  have hne1:((i0:Int) == -1)=false:=beq_eq_false_iff_ne.2 (by omega);clear hB ho hi0 hneg hdl;go_enter Tryz.func295,Tryz.ntmps295;go_wp2_with (go_at_call 262;refine HI.out.mono ?_;rintro e w' ⟨rfl,hb⟩;have T0:Hid (Tch [gd] w w'):=(Tch.of_below hb).sub (by simp);have O0:Hid (w'.ownsRow 0 234 3 (.slice (some ⟨gd,0,none⟩) l.length cd) l.length (l.flatMap At.row)):=jf HO.out (Tch.of_below hb) (fun _ _=>by simp);clear hb HI)
  go_loopw [5,6] (fun iv jv wr=>∃(k j:Nat) (L:List At),iv=.int .i64 (k:Int)/\jv=.int .i64 (j:Int)/\Dl (fun x=>decide (x.til<=now)) l L k j/\wr.ownsRow 0 234 3 (.slice (some ⟨gd,0,none⟩) l.length cd) L.length (L.flatMap At.row)/\Tch [gd] w wr) (fun _ jv _=>l.length-(intOf jv).toNat)
  case atStart=>exact⟨i0,i0+1,l,rfl,by go_num,HD.out,O0.out,T0.out⟩
  case round=>
   obtain⟨k,j,L,rfl,rfl,hd,hor,htr⟩:=hrel;have hkj:=hd.kj;have hjn:=hd.jn;have hll:=hd.len;have HOR:Hid (wr.ownsRow 0 234 3 (.slice (some ⟨gd,0,none⟩) l.length cd) L.length (L.flatMap At.row)):=hor;have HTR:Hid (Tch [gd] w wr):=htr;have HDL:Hid (Dl (fun x=>decide (x.til<=now)) l L k j):=hd
   by_cases hlt:j<l.length
   ·obtain⟨x,hx⟩:∃x,l[j]?=some x:=⟨_,List.getElem?_eq_getElem hlt⟩;have hLx:L[j]?=some x:=(hd.get hlt).trans hx;have hjL:j<L.length:=by omega
    have fm:∀i v,x.row[i]?=some v->wr.cell? ⟨gd,j*3+i,none⟩=some v:=fun i v hi=>by
     have h1:=jF At.row 3 (fun _=>rfl) hor j hjL i v (by rw[List.getElem!_eq_getElem?_getD,hLx];exact hi);simpa using h1
    have g0:wr.cell? ⟨gd,j*3,none⟩=some (.string x.id):=fm 0 _ rfl;have g1:wr.cell? ⟨gd,j*3+1,none⟩=some (.int .i64 x.til):=fm 1 _ rfl;have g2:wr.cell? ⟨gd,j*3+2,none⟩=some (.string x.ans):=fm 2 _ rfl;have HP:Hid (∀W,Tch [] wr W->zB 296 #[.agg #[(.string x.id),(.int .i64 x.til),(.string x.ans)],zp B] W (.bool (decide (x.til<=now)))):=fun W hW=>by
     have hBW:W.heap[B]?=some (.cells #[.int .i64 now] 3 (0,0)):=(hW.block _ (Nat.lt_of_lt_of_le hBl HTR.out.size) (by simp)).trans ((HTR.out.block _ hBl (by simpa using hBg)).trans HB.out);exact a3K now B W (lt_of_block hBW) (cell_of_one hBW) W x (Below.refl _ _)
    clear hd hor htr fm hLx;have HP1:Hid (Cp 296 #[.agg #[(.string x.id),(.int .i64 x.til),(.string x.ans)],zp B] (wr.alloc (.cells #[(.string x.id),(.int .i64 x.til),(.string x.ans)] 234)) fun e w'=>e=.returned (.bool (decide (x.til<=now)))/\Tch [] wr w'/\w'.heap[wr.heap.size]?=some (.cells #[(.string x.id),(.int .i64 x.til),(.string x.ans)] 234 (0,0))):=(HP.out _ ((Tch.refl _ _).alloc _)).mono (by
     rintro e w' ⟨he,hb⟩;exact⟨he,((Tch.refl [] wr).alloc _).trans (Tch.of_below hb) (by simp),(hb.block _ (by simp)).trans (heap_alloc_new _ _)⟩)
    clear HP
    by_cases hp:x.til<=now
    ·have hdec:decide (x.til<=now)=true:=by simpa using hp
     rw[hdec]at HP1;have HPX:Hid (decide (x.til<=now)=true):=hdec;clear hp hdec;go_wp2_with fail;refine HP1.out.mono ?_;rintro e w1 ⟨rfl,ht1,hc1⟩;have HR:Hid (w1.ownsRow 0 234 3 (.slice (some ⟨gd,0,none⟩) l.length cd) L.length (L.flatMap At.row)/\Tch [gd] w w1):=⟨jf HOR.out ht1 (fun _ _=>by simp),HTR.out.trans ht1 (by simp)⟩;clear ht1 hc1 g0 g1 g2 HP1;go_wp2_with fail;go_roundw
     case rel=>exact⟨k,j+1,L,rfl,by go_num,HDL.out.skip x hx HPX.out,HR.out.1,HR.out.2⟩
     case measure=>simp[intOf];omega
    ·have hdec:decide (x.til<=now)=false:=by simpa using hp
     rw[hdec]at HP1;have HPX:Hid (decide (x.til<=now)=false):=hdec;clear hp hdec;go_wp2_with fail;refine HP1.out.mono ?_;rintro e w1 ⟨rfl,ht1,hc1⟩;have ho1:=jf HOR.out ht1 (fun _ _=>by simp);have hkL:k<L.length:=by omega
     obtain⟨y,hy⟩:∃y,L[k]?=some y:=⟨_,List.getElem?_eq_getElem hkL⟩;have fk:∀i v,y.row[i]?=some v->w1.cell? ⟨gd,k*3+i,none⟩=some v:=fun i v hi=>by
      have h1:=jF At.row 3 (fun _=>rfl) ho1 k hkL i v (by rw[List.getElem!_eq_getElem?_getD,hy];exact hi);simpa using h1
     have k0:w1.cell? ⟨gd,k*3,none⟩=some (.string y.id):=fk 0 _ rfl;have k1:w1.cell? ⟨gd,k*3+1,none⟩=some (.int .i64 y.til):=fk 1 _ rfl;have k2:w1.cell? ⟨gd,k*3+2,none⟩=some (.string y.ans):=fk 2 _ rfl;have m0:w1.cell? ⟨wr.heap.size,0,none⟩=some (.string x.id):=jb hc1 0 _ rfl;have m1:w1.cell? ⟨wr.heap.size,1,none⟩=some (.int .i64 x.til):=jb hc1 1 _ rfl;have m2:w1.cell? ⟨wr.heap.size,2,none⟩=some (.string x.ans):=jb hc1 2 _ rfl;rw[hll]at ho1;have z0:∀i,w1.frozen? ⟨gd,i,none⟩=false:=fun i=>World.ownsRow.frozenAt ho1 i
     have HR:Hid ((((w1.setCell ⟨gd,k*3,none⟩ (.string x.id)).setCell ⟨gd,k*3+1,none⟩ (.int .i64 x.til)).setCell ⟨gd,k*3+2,none⟩ (.string x.ans)).ownsRow 0 234 3 (.slice (some ⟨gd,0,none⟩) l.length cd) (L.set k x).length ((L.set k x).flatMap At.row)/\Tch [gd] w (((w1.setCell ⟨gd,k*3,none⟩ (.string x.id)).setCell ⟨gd,k*3+1,none⟩ (.int .i64 x.til)).setCell ⟨gd,k*3+2,none⟩ (.string x.ans))):=by
      refine⟨?_,(((HTR.out.trans ht1 (by simp)).setCell (fun _=>by simp) _).setCell (fun _=>by simp) _).setCell (fun _=>by simp) _⟩;rw[List.length_set,hll,<-a2K At.row 3 (fun _=>rfl) L k x hkL];exact kG x.row (k*3) w1 _ ho1
     clear g0 g1 g2 HP1 ht1 hc1 ho1 fk hy;go_wp2_with fail;go_roundw
     case rel=>exact⟨k+1,j+1,L.set k x,by go_num,by go_num,HDL.out.keep x hx HPX.out,HR.out.1,HR.out.2⟩
     case measure=>simp[intOf];omega
   ·have hje:l.length=j:=by omega
    have hkk:(l.filter (fun x=>!decide (x.til<=now))).length=k/\L.take k=l.filter (fun x=>!decide (x.til<=now)):=by
     have h1:=hd.tk;have e9:l.take j=l:=List.take_of_length_le (by omega);rw[e9]at h1;refine⟨?_,h1⟩;rw[<-h1,List.length_take];omega
    rw[hll]at hor;have hclr:=a3p wr 0 gd k (j-k) (cd-k) (fun i hi=>by
     have h1:k*3+i<(L.flatMap At.row).length:=by rw[qH At.row 3 (fun _=>rfl)];omega
     have h2:=World.ownsRow.cells hor (g:=gd) rfl (k*3+i) _ (List.getElem?_eq_getElem h1);have e:(⟨gd,0,none⟩:Addr).add (k*3+i)=⟨gd,k*3+i,none⟩:=by unfold Addr.add;split<;>simp_all
     rw[e]at h2;rw[h2];rfl) (fun i=>World.ownsRow.frozenAt hor i) (by omega)
    have HF:Hid ((wr.setCells gd (k*3) (Builtin.zeroCells #[.string ⟨#[]⟩,.int .i64 0,.string ⟨#[]⟩] (j-k)).toList).ownsRow 0 234 3 (.slice (some ⟨gd,0,none⟩) k cd) (l.filter (fun x=>!decide (x.til<=now))).length ((l.filter (fun x=>!decide (x.til<=now))).flatMap At.row)/\Tch [gd] w (wr.setCells gd (k*3) (Builtin.zeroCells #[.string ⟨#[]⟩,.int .i64 0,.string ⟨#[]⟩] (j-k)).toList)):=by
     refine⟨?_,htr.trans (qg gd _ _ _) (fun _ h _=>h)⟩;have h1:=a0w (kG (Builtin.zeroCells #[.string ⟨#[]⟩,.int .i64 0,.string ⟨#[]⟩] (j-k)).toList (k*3) wr _ hor) (n':=k) (by omega);rw[vy _ _ _ _ (Nat.le_refl _),ze At.row 3 (fun _=>rfl) L k (by omega),hkk.2]at h1;rw[hkk.1];exact h1
    generalize wr.setCells gd (k*3) (Builtin.zeroCells #[.string ⟨#[]⟩,.int .i64 0,.string ⟨#[]⟩] (j-k)).toList=w2 at*
    clear hd hor htr hkk;go_wp2_with fail;go_ret;exact⟨.slice (some ⟨gd,0,none⟩) k cd,rfl,rfl,HF.out.1,HF.out.2⟩
def a1V (now:Int)(Q:QM):QM:={Q with ds:=Q.ds.filter (fun x=>!decide (x.til<=now)),ats:=Q.ats.filter (fun x=>!decide (x.til<=now))}
theorem jl {v:Value}(h:w.ownsRow base e size v n xs):∃a c,v=.slice a n c:=by
 rcases h.2 with ⟨rfl,rfl⟩|⟨g,cap,cur,rfl,_⟩
 ·exact⟨_,_,rfl⟩
 ·exact⟨_,_,rfl⟩
theorem a6L (Q:QM)(V:QV)(qb:Nat)(now:Int)(w:World)(h:QR w qb V Q)(hnd:Q.ds.length<=1000000)(hna:Q.ats.length<=1000000):
  Cp 270 #[zp qb,.int .i64 now] w fun e w'=>e=.returned (.tuple #[])/\QL w w' qb V (a1V now Q):=by
 have hlt:=h.blk.lt;have ta:Tch [] w (w.alloc (.cells #[.int .i64 now] 3)):=(Tch.refl _ _).alloc _;have ha:=h.tch ta (fun _ _=>by simp);have hbox:(w.alloc (.cells #[.int .i64 now] 3)).heap[w.heap.size]?=some (.cells #[.int .i64 now] 3 (0,0)):=heap_alloc_new _ _;have q9:w.cell? ⟨qb,9,none⟩=some V.d:=jb h.blk 9 _ rfl;have HD:Hid (Cp 293 _ _ _):=b0I V.d Q.ds now w.heap.size _ ha.d hnd hbox;have HA:Hid (QR (w.alloc (.cells #[.int .i64 now] 3)) qb V Q/\(w.alloc (.cells #[.int .i64 now] 3)).heap[w.heap.size]?=some (.cells #[.int .i64 now] 3 (0,0))/\Tch [] w (w.alloc (.cells #[.int .i64 now] 3))):=⟨ha,hbox,ta⟩;clear h ha hbox ta;go_enter Tryz.func270,Tryz.ntmps270;go_wp2_with fail;refine HD.out.mono ?_;rintro e w1 ⟨vd,rfl,hbd,hod,ht1⟩;obtain⟨ad,cd,rfl⟩:=jl hod;have f1:Fr 0 [230] (w.alloc (.cells #[.int .i64 now] 3)) w1:=Fr.of_tch ht1 (Nat.zero_le _) (fun _ _=>Nat.zero_le _) (fun b hb C t hC=>by
  by_cases e:230=t
  ·rw[<-e];decide
  ·exact absurd (jq.1 hb) (jA HA.out.1.d hC e))
 have hq1:Qb w1 qb Q.c (Q.next:Int) V.m V.r V.d V.a:=f1.keep _ _ _ HA.out.1.blk (by decide);have d9:w1.cell? ⟨qb,9,none⟩=some V.d:=jb hq1 9 _ rfl;have z9:=hq1.fz 9;have hq2:=hq1.set9 (.slice ad (Q.ds.filter (fun x=>!decide (x.til<=now))).length cd);have t2:Tch [qb] w1 (w1.setCell ⟨qb,9,none⟩ (.slice ad (Q.ds.filter (fun x=>!decide (x.til<=now))).length cd)):=(Tch.refl _ _).setCell (fun _=>by simp) _;have f2:Fr 0 [191] w1 (w1.setCell ⟨qb,9,none⟩ (.slice ad (Q.ds.filter (fun x=>!decide (x.til<=now))).length cd)):=Fr.one t2 (Nat.zero_le _) (Nat.zero_le _) hq1 (by decide);have HX:Hid (QR (w1.setCell ⟨qb,9,none⟩ (.slice ad (Q.ds.filter (fun x=>!decide (x.til<=now))).length cd)) qb ⟨V.m,V.r,.slice ad (Q.ds.filter (fun x=>!decide (x.til<=now))).length cd,V.a⟩ {Q with ds:=Q.ds.filter (fun x=>!decide (x.til<=now))}/\Tch (qbl qb V) w (w1.setCell ⟨qb,9,none⟩ (.slice ad (Q.ds.filter (fun x=>!decide (x.til<=now))).length cd))/\(w1.setCell ⟨qb,9,none⟩ (.slice ad (Q.ds.filter (fun x=>!decide (x.til<=now))).length cd)).heap[w.heap.size]?=some (.cells #[.int .i64 now] 3 (0,0))/\Value.ownBlock (.slice ad (Q.ds.filter (fun x=>!decide (x.til<=now))).length cd)=V.d.ownBlock):=by
  refine⟨⟨hq2,f2.own (f1.own HA.out.1.m (by decide)) (by decide),f2.own (f1.own HA.out.1.r (by decide)) (by decide),f2.own hod (by decide),f2.own (f1.own HA.out.1.a (by decide)) (by decide)⟩,?_,f2.keep _ _ _ (f1.keep _ _ _ HA.out.2.1 (by decide)) (by decide),hbd⟩;exact(((HA.out.2.2.sub (S':=qbl qb V) (by simp)).trans ht1 (fun x hx _=>ji.2 (.inr (.inr (.inr (.inl (jq.1 hx))))))).trans t2 (fun x hx _=>ji.2 (.inl (by simpa using hx))))
 clear hod ht1 hbd f1 hq1 t2 f2 HD q9 HA;generalize hdn:(Q.ds.filter (fun x=>!decide (x.til<=now)))=DS at*
 have d10:(w1.setCell ⟨qb,9,none⟩ (.slice ad DS.length cd)).cell? ⟨qb,10,none⟩=some V.a:=jb hq2 10 _ rfl;have HD2:Hid (Cp 295 _ _ _):=b0H V.a Q.ats now w.heap.size _ HX.out.1.a hna HX.out.2.2.1;clear hq2;go_wp2_with fail;refine HD2.out.mono ?_;rintro e w3 ⟨va,rfl,hba,hoa,ht3⟩;obtain⟨aa,ca,rfl⟩:=jl hoa;obtain⟨h1,h2,h3,h4⟩:=HX.out;have f3:Fr 0 [234] (w1.setCell ⟨qb,9,none⟩ (.slice ad DS.length cd)) w3:=Fr.of_tch ht3 (Nat.zero_le _) (fun _ _=>Nat.zero_le _) (fun b hb C t hC=>by
  by_cases e:234=t
  ·rw[<-e];decide
  ·exact absurd (jq.1 hb) (jA h1.a hC e))
 have hq3:Qb w3 qb Q.c (Q.next:Int) V.m V.r (.slice ad DS.length cd) V.a:=f3.keep _ _ _ h1.blk (by decide);have e10:w3.cell? ⟨qb,10,none⟩=some V.a:=jb hq3 10 _ rfl;have z10:=hq3.fz 10;have hq4:=hq3.set10 (.slice aa (Q.ats.filter (fun x=>!decide (x.til<=now))).length ca);have t4:Tch [qb] w3 (w3.setCell ⟨qb,10,none⟩ (.slice aa (Q.ats.filter (fun x=>!decide (x.til<=now))).length ca)):=(Tch.refl _ _).setCell (fun _=>by simp) _;have f4:Fr 0 [191] w3 (w3.setCell ⟨qb,10,none⟩ (.slice aa (Q.ats.filter (fun x=>!decide (x.til<=now))).length ca)):=Fr.one t4 (Nat.zero_le _) (Nat.zero_le _) hq3 (by decide);have HF:Hid (QL w (w3.setCell ⟨qb,10,none⟩ (.slice aa (Q.ats.filter (fun x=>!decide (x.til<=now))).length ca)) qb V (a1V now Q)):=by
  refine⟨⟨V.m,V.r,.slice ad DS.length cd,.slice aa (Q.ats.filter (fun x:At=>!decide (x.til<=now))).length ca⟩,⟨hq4,f4.own (f3.own h1.m (by decide)) (by decide),f4.own (f3.own h1.r (by decide)) (by decide),?_,f4.own hoa (by decide)⟩,?_,fun b hb=>?_⟩
  ·have h5:=f4.own (f3.own h1.d (by decide)) (by decide);unfold a1V;rw[hdn];exact h5
  ·exact((h2.trans ht3 (fun x hx _=>ji.2 (.inr (.inr (.inr (.inr (jq.1 hx))))))).trans t4 (fun x hx _=>ji.2 (.inl (by simpa using hx))))
  ·left;rcases ji.1 hb with e|e|e|e|e
   ·exact ji.2 (.inl e)
   ·exact ji.2 (.inr (.inl e))
   ·exact ji.2 (.inr (.inr (.inl e)))
   ·exact ji.2 (.inr (.inr (.inr (.inl (h4.symm.trans e)))))
   ·exact ji.2 (.inr (.inr (.inr (.inr (hba.symm.trans e)))))
 clear hoa ht3 hba f3 hq3 hq4 t4 f4 h1 h2 h3 h4 HD2 d10;go_wp2_with fail;go_end0;exact⟨rfl,HF.out⟩
end Go.Proofs.YtbdobaapadlcjaaGreatDoor
