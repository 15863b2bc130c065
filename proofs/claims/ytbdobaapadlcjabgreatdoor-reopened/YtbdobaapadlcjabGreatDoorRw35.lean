import Derived.Test.YtbdobaapadlcjabGreatDoorRw34
set_option maxRecDepth 8000
set_option maxHeartbeats 8000000
set_option linter.unusedVariables false
set_option linter.unusedSimpArgs false
namespace Go.Proofs.YtbdobaapadlcjabGreatDoor
open Go.RowKit
variable {B i j x d y:Nat}{w0 w w':World}{v:Value}{n nx ny:Int}{c cx cy:Nat->Option QM}{ls:List ByteArray}
abbrev Pty:=World->(Nat->Nat)->Prop
def Stb9 (B:Nat)(p:Pty):Prop:=∀w w' col cl,p w col->B<=w.heap.size->0<w.heap.size->FqT TA B cl w w'->(∀q,B<=q->q<w.heap.size->col q≠9->cl q=9)->p w' (rec9 w w' col)
structure Alc (B:Nat)(w0:World)(ps:Nat->Pty)(ow:Nat->Nat)(cs:Nat->Nat->Nat)(w:World):Prop where
 env:Env B w
 bel:Below B w0 w
 stb:∀i,Stb9 B (ps i)
 all:∀i,ps i w (cs i)/\∀q,B<=q->q<w.heap.size->cs i q≠9->ow q=i
def Al (B:Nat)(w0:World)(ps:Nat->Pty)(w:World):Prop:=∃ow cs,Alc B w0 ps ow cs w
theorem Al.env {ps:Nat->Pty}(h:Al B w0 ps w):Env B w:=by
 obtain⟨ow,cs,h⟩:=h;exact h.env
theorem Al.bel {ps:Nat->Pty}(h:Al B w0 ps w):Below B w0 w:=by
 obtain⟨ow,cs,h⟩:=h;exact h.bel
def up (ps:Nat->Pty)(i:Nat)(p:Pty):Nat->Pty:=fun j=>if j=i then p else ps j
theorem up_same (ps:Nat->Pty)(i:Nat)(p:Pty):up ps i p i=p:=if_pos rfl
theorem up_ne (ps:Nat->Pty){i j:Nat}(p:Pty)(h:j≠i):up ps i p j=ps j:=if_neg h
def noP:Pty:=fun _ _=>True
theorem noP_stb (B:Nat):Stb9 B noP:=fun _ _ _ _ _ _ _ _ _=>trivial
theorem Alc.act {ps:Nat->Pty}{ow:Nat->Nat}{cs:Nat->Nat->Nat}(h:Alc B w0 ps ow cs w)(i:Nat)(p':Pty)(hp':Stb9 B p'){col':Nat->Nat}(h1:p' w' col')(h2:∀k,k<w.heap.size->col' k≠9->B<=k->cs i k≠9)(h3:FqT TA B (cs i) w w'):Al B w0 (up ps i p') w':=by
 have ha:=h.all;refine⟨fun q=>if q<w.heap.size then ow q else i,fun j=>if j=i then col' else rec9 w w' (cs j),h.env.bel h3.bel,h.bel.trans h3.bel,fun j=>?_,fun j=>?_⟩
 ·by_cases hj:j=i
  ·rw[hj,up_same];exact hp'
  ·rw[up_ne ps p' hj];exact h.stb j
 ·by_cases hj:j=i
  ·subst hj;rw[up_same,if_pos rfl];refine⟨h1,fun q hB hq h9=>?_⟩
   by_cases hlt:q<w.heap.size
   ·simp only[hlt,if_true];exact(ha j).2 q hB hlt (h2 q hlt h9 hB)
   ·simp only[hlt,if_false]
  ·rw[up_ne ps p' hj,if_neg hj];refine⟨h.stb j w w' (cs j) (cs i) (ha j).1 h.env.size h.env.pos h3 (fun q hB hq h9=>?_),fun q hB hq h9=>?_⟩
   ·apply Classical.byContradiction;intro h9';exact hj (((ha j).2 q hB hq h9).symm.trans ((ha i).2 q hB hq h9'))
   ·by_cases hlt:q<w.heap.size
    ·simp only[hlt,if_true];rw[rec9_old hlt]at h9;exact(ha j).2 q hB hlt h9
    ·exact absurd (if_pos ⟨by omega,hq⟩) h9
theorem Al.add {ps:Nat->Pty}(h:Al B w0 ps w)(i:Nat)(p:Pty)(hp:Stb9 B p)(ht:Tch [] w w')(hd:∃col,p w' col/\∀k,B<=k->k<w.heap.size->col k=9):Al B w0 (up ps i p) w':=by
 obtain⟨ow,cs,h⟩:=h;obtain⟨col',h1,h2⟩:=hd;exact h.act i p hp h1 (fun k hk h9 hB=>absurd (h2 k hB hk) h9) (FqT.of_nil _ ht h.env.size)
theorem Al.tch {ps:Nat->Pty}(h:Al B w0 ps w)(ht:Tch [] w w'):Al B w0 ps w':=by
 obtain⟨ow,cs,h⟩:=h;have ha:=h.all;have hf:∀c,FqT TA B c w w':=fun c=>FqT.of_nil c ht h.env.size
 refine⟨ow,fun j=>rec9 w w' (cs j),h.env.tch ht (by simp),h.bel.trans (hf (fun _=>0)).bel,h.stb,fun j=>⟨h.stb j w w' (cs j) (fun _=>9) (ha j).1 h.env.size h.env.pos (hf _) (fun _ _ _ _=>rfl),fun q hB hq h9=>?_⟩⟩
 by_cases hlt:q<w.heap.size
 ·rw[rec9_old hlt]at h9;exact(ha j).2 q hB hlt h9
 ·exact absurd (if_pos ⟨by omega,hq⟩) h9
theorem Al.get {ps:Nat->Pty}(h:Al B w0 ps w)(i:Nat):∃col,ps i w col:=by
 obtain⟨ow,cs,h⟩:=h;exact⟨_,(h.all i).1⟩
def bkP (B x d:Nat)(n:Int)(c:Nat->Option QM):Pty:=fun w col=>∃st b,Bk B w x st b n c col/\col 0=d+10
theorem bkP_stb (B x d:Nat)(n:Int)(c:Nat->Option QM):Stb9 B (bkP B x d n c):=fun w w' col cl ⟨st,b,h1,h2⟩ hB h0 hf hd=>⟨st,b,h1.oth hf hd,(rec9_old h0).trans h2⟩
def stP (B:Nat)(v:Value)(l:List ByteArray):Pty:=fun w col=>Dk.OwnS w v l/\∀g,v.ownBlock=some g->B<=g/\col g≠9
theorem stP_stb (B:Nat)(v:Value)(l:List ByteArray):Stb9 B (stP B v l):=fun w w' col cl ⟨h1,h2⟩ hB h0 hf hd=>by
 obtain⟨S,ht,hS⟩:=hf.chg;refine⟨h1.tch ht (fun g hg hm=>(hS g hm).2 (hf.out g (own_lt h1 hg) (hd g (h2 g hg).1 (own_lt h1 hg) (h2 g hg).2))),fun g hg=>⟨(h2 g hg).1,?_⟩⟩
 rw[rec9_old (own_lt h1 hg)];exact(h2 g hg).2
def dkP (B d:Nat)(o:Option ByteArray):Pty:=fun w col=>∃v,Dd0 w d v (fileO o)/\(B<=d/\col d≠9)/\∀k,v.ownBlock=some k->B<=k/\col k≠9
theorem dkP_stb (B d:Nat)(o:Option ByteArray):Stb9 B (dkP B d o):=fun w w' col cl ⟨v,h1,h2,h3⟩ hB h0 hf hd=>by
 obtain⟨S,ht,hS⟩:=hf.chg;have hl:=lt_of_block h1.blk;have hv:∀k,v.ownBlock=some k->k<w.heap.size:=fun k hk=>own_lt h1.own hk
 refine⟨v,h1.tch ht (fun k hk hm=>?_),⟨h2.1,by rw[rec9_old hl];exact h2.2⟩,fun k hk=>⟨(h3 k hk).1,by rw[rec9_old (hv k hk)];exact(h3 k hk).2⟩⟩
 rcases List.mem_cons.1 hk with e|e
 ·subst e;exact(hS k hm).2 (hf.out k hl (hd k h2.1 hl h2.2))
 ·have e':v.ownBlock=some k:=by simpa [Option.mem_toList]using e
  exact(hS k hm).2 (hf.out k (hv k e') (hd k (h3 k e').1 (hv k e') (h3 k e').2))
theorem Al.str {ps:Nat->Pty}(h:Al B w0 ps w)(i:Nat)(ht:Tch [] w w'){v:Value}{l:List ByteArray}(ho:Dk.OwnS w' v l)(hn:∀g,v.ownBlock=some g->w.heap.size<=g):Al B w0 (up ps i (stP B v l)) w':=
 h.add i _ (stP_stb B v l) ht ⟨fun k=>if k<w.heap.size then 9 else 0,⟨ho,fun g hg=>⟨Nat.le_trans h.env.size (hn g hg),by
  have:=hn g hg;simp only[if_neg (show ¬g<w.heap.size by omega)];decide⟩⟩,fun k _ hk=>if_pos hk⟩
theorem Al.ask {ps:Nat->Pty}(h:Al B w0 ps w){i x d:Nat}{n:Int}{c:Nat->Option QM}(hi:ps i=bkP B x d n c)(s:ByteArray)(hs:s.size<=maxLen):
  Calls Tryz.prog 11 #[.pointer (some ⟨x,0,none⟩),.string s] w fun e w'=>e=.returned (.string (doStr n c s).1)/\Al B w0 (up ps i (bkP B x d (doStr n c s).2.1 (doStr n c s).2.2)) w':=by
 obtain⟨ow,cs,h⟩:=h;have hb:=(h.all i).1;rw[hi]at hb;obtain⟨st,b,h1,h2⟩:=hb;refine(do_any B s x st b n c (cs i) w h.env h1 hs).mono ?_;rintro e w' ⟨rfl,col',hb',hag,hf⟩;exact⟨rfl,h.act i _ (bkP_stb B x d _ _) ⟨st,b,hb',(hag.1 0 h.env.pos).trans h2⟩ (fun k hk h9 _=>by rw[<-hag.1 k hk];exact h9) hf⟩
theorem Al.shw {ps:Nat->Pty}(h:Al B w0 ps w){i j x d:Nat}{n:Int}{c:Nat->Option QM}(hi:ps i=bkP B x d n c)(hij:j≠i):
  Calls Tryz.prog 12 #[.pointer (some ⟨x,0,none⟩)] w fun e w'=>∃v,e=.returned v/\Al B w0 (up (up ps i (bkP B x d n c)) j (stP B v (shw n c))) w':=by
 obtain⟨ow,cs,h⟩:=h;have hb:=(h.all i).1;rw[hi]at hb;obtain⟨st,b,h1,h2⟩:=hb;refine(shown_any B x st b n c (cs i) w h.env h1).mono ?_;rintro e w' ⟨v,col',rfl,hs⟩;refine⟨v,rfl,?_⟩;have hz:=hs.fq.size;have hBw:=h.env.size;have ha:=h.all;refine⟨fun q=>if q<w.heap.size then ow q else if v.ownBlock=some q then j else i,fun m=>if m=j then (fun q=>if v.ownBlock=some q then 0 else 9) else if m=i then col' else rec9 w w' (cs m),h.env.bel hs.fq.bel,h.bel.trans hs.fq.bel,fun m=>?_,fun m=>?_⟩
 ·by_cases hm:m=j
  ·rw[hm,up_same];exact stP_stb B v _
  ·rw[up_ne _ _ hm]
   by_cases hm2:m=i
   ·rw[hm2,up_same];exact bkP_stb B x d n c
   ·rw[up_ne _ _ hm2];exact h.stb m
 ·by_cases hm:m=j
  ·subst hm;rw[up_same,if_pos rfl];refine⟨⟨hs.own,fun g hg=>⟨Nat.le_trans hBw (hs.new g hg),by simp[hg]⟩⟩,fun q hB hq h9=>?_⟩
   have hq':v.ownBlock=some q:=by
    apply Classical.byContradiction;intro hn;simp only[hn,if_false]at h9;exact h9 rfl
   have:=hs.new q hq';simp only[show ¬q<w.heap.size by omega,if_false,hq',if_true]
  ·rw[up_ne _ _ hm,if_neg hm]
   by_cases hm2:m=i
   ·subst hm2;rw[up_same,if_pos rfl];refine⟨⟨st,b,hs.bk,(hs.old 0 h.env.pos).trans h2⟩,fun q hB hq h9=>?_⟩
    by_cases hlt:q<w.heap.size
    ·simp only[hlt,if_true];rw[hs.old q hlt]at h9;exact(ha m).2 q hB hlt h9
    ·have hq':¬v.ownBlock=some q:=fun e=>h9 (hs.c9 q e)
     simp only[hlt,if_false,hq']
   ·rw[up_ne _ _ hm2,if_neg hm2];refine⟨h.stb m w w' (cs m) (cs i) (ha m).1 hBw h.env.pos hs.fq (fun q hB hq h9=>?_),fun q hB hq h9=>?_⟩
    ·apply Classical.byContradiction;intro h9';exact hm2 (((ha m).2 q hB hq h9).symm.trans ((ha i).2 q hB hq h9'))
    ·by_cases hlt:q<w.heap.size
     ·simp only[hlt,if_true];rw[rec9_old hlt]at h9;exact(ha m).2 q hB hlt h9
     ·exact absurd (if_pos ⟨by omega,hq⟩) h9
theorem PI.al (h:PI B w0 d x y nx cx ny cy w):∃d2,Al B w0 (up (up (fun _=>noP) 0 (bkP B x d nx cx)) 1 (bkP B y d2 ny cy)) w:=by
 obtain⟨sx,bx,sy,b2,colx,coly,g1,g2,g3⟩:=h;obtain⟨o,room,⟨j,d2,v,n,k,hJ⟩,_⟩:=g1.g.jg;refine⟨d2,fun q=>if colx q=9 then 1 else 0,fun i=>if i=1 then coly else if i=0 then colx else fun _=>9,g1.env,g3,fun i=>?_,fun i=>?_⟩
 ·by_cases h1:i=1
  ·rw[h1,up_same];exact bkP_stb _ _ _ _ _
  ·rw[up_ne _ _ h1]
   by_cases h0:i=0
   ·rw[h0,up_same];exact bkP_stb _ _ _ _ _
   ·rw[up_ne _ _ h0];exact noP_stb B
 ·by_cases h1:i=1
  ·subst h1;rw[up_same,if_pos rfl];refine⟨⟨sy,b2,g1.g,hJ.dc⟩,fun q hB hq h9=>?_⟩
   simp only[(g1.ap q hB hq).resolve_right h9,if_true]
  ·rw[up_ne _ _ h1,if_neg h1]
   by_cases h0:i=0
   ·subst h0;rw[up_same,if_pos rfl];exact⟨⟨sx,bx,g1.f,g2⟩,fun q hB hq h9=>if_neg h9⟩
   ·rw[up_ne _ _ h0,if_neg h0];exact⟨trivial,fun q _ _ h9=>absurd rfl h9⟩
theorem crF_all (keep:Int)(f:Dk.DF)(h:f.safe=f.data.size):Dk.crF keep f=f:=by
 have h1:Dk.crN keep f=0:=by
  unfold Dk.crN
  split<;>omega
 obtain⟨n,s,k⟩:=f;simp only at h;subst h;unfold Dk.crF;rw[h1];simp
theorem crF_fileO (keep:Int)(o:Option ByteArray):(fileO o).map (Dk.crF keep)=fileO o:=by
 cases o with
 | none=>rfl
 | some s=>
  show [Dk.crF keep ⟨jn,s,s.size⟩]=_
  rw[crF_all keep _ rfl];rfl
def dkQ (B d:Nat)(n:Int)(c:Nat->Option QM):Pty:=fun w col=>∃o room,dkP B d o w col/\Rep o room n c/\(datO o).size<=310000
theorem dkQ_stb (B d:Nat)(n:Int)(c:Nat->Option QM):Stb9 B (dkQ B d n c):=fun w w' col cl ⟨o,room,h1,h2⟩ hB h0 hf hd=>⟨o,room,dkP_stb B d o w w' col cl h1 hB h0 hf hd,h2⟩
theorem bkP_dk {col:Nat->Nat}(h:bkP B x d n c w col):dkQ B d n c w col:=by
 obtain⟨st,b,h1,h2⟩:=h;obtain⟨o,room,⟨j,d',v,nn,kk,hJ⟩,hR⟩:=h1.jg;have hd:d'=d:=by
  have:=hJ.dc;omega
 subst hd;exact⟨o,room,⟨v,hJ.jr.dsk,⟨hJ.lo d' (by simp[jbl,Dk.bl]),hJ.cj d' (by simp[jbl,Dk.bl])⟩,fun k hk=>⟨hJ.lo k (by simp[jbl,Dk.bl,hk]),hJ.cj k (by simp[jbl,Dk.bl,hk])⟩⟩,hR,hJ.bd.2.1⟩
theorem Al.shut {ps:Nat->Pty}(h:Al B w0 ps w){i x d:Nat}{n:Int}{c:Nat->Option QM}(hi:ps i=bkP B x d n c):Al B w0 (up ps i (dkQ B d n c)) w:=by
 obtain⟨ow,cs,h⟩:=h;have hb:=(h.all i).1;rw[hi]at hb;exact h.act i _ (dkQ_stb B d n c) (bkP_dk hb) (fun k _ h9 _=>h9) (FqT.of_nil _ (Tch.refl _ _) h.env.size)
theorem fileO_len (o:Option ByteArray):(fileO o).length<=1:=by cases o<;>simp[fileO]
theorem fileO_safe (o:Option ByteArray)(h:(datO o).size<=310000):∀f∈fileO o,f.safe<=f.data.size/\f.data.size<=310000:=by
 cases o with
 | none=>simp[fileO]
 | some s=>
  intro f hf;rw[List.mem_singleton.1 hf];exact⟨Nat.le_refl _,h⟩
theorem fileO_good (o:Option ByteArray)(h:(datO o).size<=310000):Gd0 (fileO o) 1 310000:=⟨by simp only;omega,fileO_len o,fileO_safe o h⟩
theorem Al.crash {ps:Nat->Pty}(h:Al B w0 ps w){i j d:Nat}{n:Int}{c:Nat->Option QM}(hi:∀col,ps i w col->dkQ B d n c w col)(keep:Int)(hk1:-9223372036854775808<=keep)(hk2:keep<=9223372036854775807):
  Calls Tryz.prog 15 #[.pointer (some ⟨d,0,none⟩),.int .i64 keep] w fun e w'=>∃d',e=.returned (.pointer (some ⟨d',0,none⟩))/\Al B w0 (up ps j (dkQ B d' n c)) w':=by
 obtain⟨col,hc⟩:=h.get i;obtain⟨o,room,⟨v,h1,h2,h3⟩,hR,hz⟩:=hi col hc;refine(Dk.crash_d d v (-1) false (fileO o) keep w h1.blk h1.own (by have:=fileO_len o;omega) (fun f hf=>by have:=fileO_safe o hz f hf;omega) hk1 hk2).mono ?_;rintro e w' ⟨rfl,v',hD,ht,hn⟩;rw[crF_fileO]at hD;have hB:=h.env.size;refine⟨_,rfl,h.add j _ (dkQ_stb B _ n c) ht ⟨fun k=>if k<w.heap.size then 9 else 0,⟨o,room,⟨v',hD,⟨hB,by simp⟩,fun k hk=>⟨Nat.le_trans hB (hn k hk),?_⟩⟩,hR,hz⟩,fun k _ hk=>if_pos hk⟩⟩
 have:=hn k hk;simp only[if_neg (show ¬k<w.heap.size by omega)];decide
theorem opn_bk9 {S:Nat}{st b:Nat}(h:Opn S w x st b j d v)(hBd:B<=d)(hBv:∀k,v.ownBlock=some k->B<=k)(hB:B<=S)(h3:3<=B)(hS:S<=w.heap.size):Bk B w x st b 0 (fun _=>none) (colD d j v (fun k=>if k<S then 9 else 0)):=by
 have hj:=h.lo.2.2.1;refine⟨⟨fun _=>none,⟨h.brk.hst,h.brk.tb,fun i x _ hx=>by simp at hx,fun i x _ hx=>by simp at hx,fun i x _ hx=>by simp at hx,Nat.le_trans hB h.lo.2.1,colD_ne ?_⟩,rfl⟩,fun i Q _ hQ=>by simp at hQ,⟨by omega,by omega⟩,⟨none,0,⟨j,d,v,0,0,h.hx,h.jr,fun k hk=>?_,?_,fun k hk=>?_,if_pos rfl⟩,.inl ⟨rfl,Int.le_refl _,rfl,rfl⟩⟩,fun k hk=>colD_ne ?_⟩
 ·have:=h.lo.2.1;simp only[if_neg (show ¬st<S by omega)];decide
 ·rcases List.mem_cons.1 hk with e|e
  ·omega
  ·rcases List.mem_cons.1 e with e|e
   ·omega
   ·exact hBv k (by simpa [Option.mem_toList]using e)
 ·show (0<0->((0:Nat):Int)+0<=217000)/\(0:Nat)<=310000/\_
  omega
 ·have hk':k=d\/v.ownBlock=some k\/k=j:=by
   rcases List.mem_cons.1 hk with e|e
   ·exact .inr (.inr e)
   ·rcases List.mem_cons.1 e with e|e
    ·exact .inl e
    ·exact .inr (.inl (by simpa [Option.mem_toList]using e))
  unfold colD
  by_cases hk0:k=0
  ·rw[if_pos hk0];omega
  ·rw[if_neg hk0,if_pos hk'];decide
 ·simp only[if_neg (show ¬k<S by omega)];decide
theorem Al.open {ps:Nat->Pty}(h:Al B w0 ps w){i d:Nat}{n:Int}{c:Nat->Option QM}(hi:ps i=dkQ B d n c):
  Calls Tryz.prog 14 #[.pointer (some ⟨d,0,none⟩)] w fun e w'=>∃x,e=.returned (.tuple #[.pointer (some ⟨x,0,none⟩),.int .i64 0])/\Al B w0 (up ps i (bkP B x d n c)) w':=by
 obtain⟨ow,cs,h⟩:=h;have hb:=(h.all i).1;rw[hi]at hb;obtain⟨o,room,⟨v,h1,h2,h3⟩,hR,hz⟩:=hb;have hdl:=lt_of_block h1.blk;have hold:∀(j k:Nat) (cl:Nat->Nat),(∀q,q<w.heap.size->cl q=9)->w.heap.size<=j->k<w.heap.size->colD d j v cl k≠9->B<=k->cs i k≠9:=fun j k cl hcl hj hk h9 hB=>by
  have h3B:=h.env.three;unfold colD at h9;rw[if_neg (by omega)]at h9
  by_cases e1:k=d
  ·rw[e1];exact h2.2
  ·by_cases e2:v.ownBlock=some k
   ·exact(h3 k e2).2
   ·rw[if_neg (fun hh=>by
     rcases hh with hh|hh|hh
     ·exact e1 hh
     ·exact e2 hh
     ·omega)]at h9
    exact absurd (hcl k hk) h9
 rcases hR with ⟨rfl,_,rfl,rfl⟩|⟨n0,c0,ss,rfl,hW,hn,hs,hrun⟩
 ·refine(open_any d v w h1).mono ?_;rintro e w' ⟨x,st,b,j,rfl,hbl,hO⟩;have hbk:=opn_bk9 hO h2.1 (fun k hk=>(h3 k hk).1) h.env.size h.env.three hbl.size;exact⟨x,rfl,h.act i _ (bkP_stb B x d _ _) ⟨st,b,hbk,if_pos rfl⟩ (fun k hk h9 hB=>hold j k _ (fun q hq=>if_pos hq) hO.lo.2.2.1 hk h9 hB) (FqT.of_nil _ (Tch.of_below hbl) h.env.size)⟩
 ·have e:(⟨(recB ⟨(wholeC n0 c0).toArray⟩++ss.flatMap recB).toArray⟩:ByteArray)=filB n0 c0 ss:=by
   unfold filB;rw[List.flatMap_cons];rfl
  rw[e]at h1 hz;refine(open_file B d 1 310000 v n0 c0 ss w h.env h1 (fileO_good _ hz) h2.1 (fun k hk=>(h3 k hk).1) hz hW hn hs).mono ?_;rintro e w' ⟨x,st,b,j,col,rfl,hbk,hcl,hj,ht⟩;rw[hrun]at hbk;exact⟨x,rfl,h.act i _ (bkP_stb B x d _ _) ⟨st,b,hbk,if_pos rfl⟩ (fun k hk h9 hB=>hold j k _ hcl hj hk h9 hB) (FqT.of_nil _ ht h.env.size)⟩
theorem Al.halt {ps:Nat->Pty}(h:Al B w0 ps w){i d:Nat}{n:Int}{c:Nat->Option QM}(hi:∀col,ps i w col->dkQ B d n c w col):
  Calls Tryz.prog 16 #[.pointer (some ⟨d,0,none⟩),.int .i64 0] w fun e w'=>e=.returned (.tuple #[])/\(∃v,Dk.DBlk w' d 77 v 0 false)/\Below B w0 w':=by
 obtain⟨col,hc⟩:=h.get i;obtain⟨o,room,⟨v,h1,h2,h3⟩,hR,hz⟩:=hi col hc;refine(Dk.stop_d d v (-1) false 0 w h1.blk).mono ?_;rintro e w' ⟨rfl,hD,ht,_⟩;exact⟨rfl,⟨v,hD⟩,h.bel.trans (ht.below (fun k hk=>by simp at hk;omega) h.env.size)⟩
theorem open_down (d:Nat)(v:Value)(w:World)(h:Dk.DBlk w d 77 v 0 false):zE 14 #[.pointer (some ⟨d,0,none⟩)] w (.tuple #[.pointer none,.int .i64 10]):=by
 have HST:=zH (Dk.stopped_d d v 0 false w h);clear h;go_enter Tryz.func14,Tryz.ntmps14;go_wp2_with fail;refine HST.out.mono ?_;rintro e w0 ⟨rfl,h0⟩;subst h0;go_wp2_with fail;go_ret2;exact⟨rfl,rfl⟩
def Gp (B:Nat)(w0:World)(l:List Pty)(w:World):Prop:=∃ps,Al B w0 ps w/\∀i p,l[i]?=some p->ps i=p
theorem up_list {l:List Pty}{ps:Nat->Pty}(h:∀i p,l[i]?=some p->ps i=p)(j:Nat)(q:Pty):∀i p,(l.set j q)[i]?=some p->up ps j q i=p:=fun i p hi=>by
 by_cases e:i=j
 ·subst e;rw[up_same]
  by_cases hl:i<l.length
  ·rw[List.getElem?_set_self hl]at hi;exact Option.some.inj hi
  ·rw[List.getElem?_eq_none (by rw[List.length_set];omega)]at hi
   cases hi
 ·rw[up_ne _ _ e];rw[List.getElem?_set_ne (fun h=>e h.symm)]at hi;exact h i p hi
theorem Gp.env {l:List Pty}(h:Gp B w0 l w):Env B w:=by
 obtain⟨ps,h,_⟩:=h;exact h.env
theorem Gp.bel {l:List Pty}(h:Gp B w0 l w):Below B w0 w:=by
 obtain⟨ps,h,_⟩:=h;exact h.bel
theorem Gp.get {l:List Pty}(h:Gp B w0 l w)(i:Nat){p:Pty}(hi:l[i]?=some p):∃col,p w col:=by
 obtain⟨ps,h,hl⟩:=h;obtain⟨col,hc⟩:=h.get i;rw[hl i p hi]at hc;exact⟨col,hc⟩
theorem Gp.tch {l:List Pty}(h:Gp B w0 l w)(ht:Tch [] w w'):Gp B w0 l w':=by
 obtain⟨ps,h,hl⟩:=h;exact⟨ps,h.tch ht,hl⟩
theorem Gp.str {l:List Pty}(h:Gp B w0 l w)(i:Nat)(ht:Tch [] w w'){v:Value}{ls:List ByteArray}(ho:Dk.OwnS w' v ls)(hn:∀g,v.ownBlock=some g->w.heap.size<=g):Gp B w0 (l.set i (stP B v ls)) w':=by
 obtain⟨ps,h,hl⟩:=h;exact⟨_,h.str i ht ho hn,up_list hl i _⟩
theorem Gp.ask {l:List Pty}(h:Gp B w0 l w)(i:Nat){x d:Nat}{n:Int}{c:Nat->Option QM}(hi:l[i]?=some (bkP B x d n c))(s:ByteArray)(hs:s.size<=maxLen):
  Calls Tryz.prog 11 #[.pointer (some ⟨x,0,none⟩),.string s] w fun e w'=>e=.returned (.string (doStr n c s).1)/\Gp B w0 (l.set i (bkP B x d (doStr n c s).2.1 (doStr n c s).2.2)) w':=by
 obtain⟨ps,h,hl⟩:=h;refine(h.ask (hl i _ hi) s hs).mono ?_;rintro e w' ⟨rfl,h'⟩;exact⟨rfl,_,h',up_list hl i _⟩
theorem Gp.shw {l:List Pty}(h:Gp B w0 l w)(i j:Nat){x d:Nat}{n:Int}{c:Nat->Option QM}(hi:l[i]?=some (bkP B x d n c))(hij:j≠i):
  Calls Tryz.prog 12 #[.pointer (some ⟨x,0,none⟩)] w fun e w'=>∃v,e=.returned v/\Gp B w0 (l.set j (stP B v (shw n c))) w':=by
 obtain⟨ps,h,hl⟩:=h;refine(h.shw (hl i _ hi) hij).mono ?_;rintro e w' ⟨v,rfl,h'⟩;have e2:up ps i (bkP B x d n c)=ps:=by
  funext k
  by_cases hk:k=i
  ·rw[hk,up_same,hl i _ hi]
  ·rw[up_ne _ _ hk]
 rw[e2]at h';exact⟨v,rfl,_,h',up_list hl j _⟩
theorem Gp.shut {l:List Pty}(h:Gp B w0 l w)(i:Nat){x d:Nat}{n:Int}{c:Nat->Option QM}(hi:l[i]?=some (bkP B x d n c)):Gp B w0 (l.set i (dkQ B d n c)) w:=by
 obtain⟨ps,h,hl⟩:=h;exact⟨_,h.shut (hl i _ hi),up_list hl i _⟩
theorem Gp.crash {l:List Pty}(h:Gp B w0 l w)(i j:Nat){x d:Nat}{n:Int}{c:Nat->Option QM}(hi:l[i]?=some (bkP B x d n c))(keep:Int)(hk1:-9223372036854775808<=keep)(hk2:keep<=9223372036854775807):
  Calls Tryz.prog 15 #[.pointer (some ⟨d,0,none⟩),.int .i64 keep] w fun e w'=>∃d',e=.returned (.pointer (some ⟨d',0,none⟩))/\Gp B w0 (l.set j (dkQ B d' n c)) w':=by
 obtain⟨ps,h,hl⟩:=h;refine(h.crash (i:=i) (j:=j) (d:=d) (n:=n) (c:=c) (fun col hc=>?_) keep hk1 hk2).mono ?_
 ·rw[hl i _ hi]at hc;exact bkP_dk hc
 ·rintro e w' ⟨d',rfl,h'⟩;exact⟨d',rfl,_,h',up_list hl j _⟩
theorem Gp.open {l:List Pty}(h:Gp B w0 l w)(i:Nat){d:Nat}{n:Int}{c:Nat->Option QM}(hi:l[i]?=some (dkQ B d n c)):
  Calls Tryz.prog 14 #[.pointer (some ⟨d,0,none⟩)] w fun e w'=>∃x,e=.returned (.tuple #[.pointer (some ⟨x,0,none⟩),.int .i64 0])/\Gp B w0 (l.set i (bkP B x d n c)) w':=by
 obtain⟨ps,h,hl⟩:=h;refine(h.open (hl i _ hi)).mono ?_;rintro e w' ⟨x,rfl,h'⟩;exact⟨x,rfl,_,h',up_list hl i _⟩
theorem Gp.again {l:List Pty}(h:Gp B w0 l w)(i:Nat){x d:Nat}{n:Int}{c:Nat->Option QM}(hi:l[i]?=some (bkP B x d n c)):
  Calls Tryz.prog 14 #[.pointer (some ⟨d,0,none⟩)] w fun e w'=>∃z,e=.returned (.tuple #[.pointer (some ⟨z,0,none⟩),.int .i64 0])/\Gp B w0 (l.set i (bkP B z d n c)) w':=by
 have hl:i<l.length:=by
  apply Classical.byContradiction;intro hn;rw[List.getElem?_eq_none (by omega)]at hi
  cases hi
 have h2:=(h.shut i hi).open i (d:=d) (n:=n) (c:=c) (List.getElem?_set_self hl);refine h2.mono ?_;rintro e w' ⟨z,rfl,h3⟩;rw[List.set_set]at h3;exact⟨z,rfl,h3⟩
theorem Gp.halt {l:List Pty}(h:Gp B w0 l w)(i:Nat){x d:Nat}{n:Int}{c:Nat->Option QM}(hi:l[i]?=some (bkP B x d n c)):
  Calls Tryz.prog 16 #[.pointer (some ⟨d,0,none⟩),.int .i64 0] w fun e w'=>e=.returned (.tuple #[])/\(∃v,Dk.DBlk w' d 77 v 0 false)/\Below B w0 w':=by
 obtain⟨ps,h,hl⟩:=h;refine h.halt (i:=i) (d:=d) (n:=n) (c:=c) (fun col hc=>?_);rw[hl i _ hi]at hc;exact bkP_dk hc
theorem Gp.alike {l:List Pty}(h:Gp B w0 l w)(i j:Nat){u v:Value}{ls:List ByteArray}(hi:l[i]?=some (stP B u ls))(hj:l[j]?=some (stP B v ls))(hn:0<ls.length)(hm:ls.length<=1000000):
  Calls Tryz.prog 13 #[u,v] w fun e w'=>e=.returned (.bool true)/\Gp B w0 l w':=by
 obtain⟨c1,h1,_⟩:=h.get i hi;obtain⟨c2,h2,_⟩:=h.get j hj;obtain⟨a,ca,rfl,ha⟩:=h1.at
 obtain⟨b,cb,rfl,hb⟩:=h2.at
 obtain⟨g1,rfl,_⟩:=ha 0 hn;obtain⟨g2,rfl,_⟩:=hb 0 hn;refine(alike_same g1 ca g2 cb ls w hm (fun k hk=>?_) (fun k hk=>?_)).mono ?_
 ·obtain⟨g,e,hc,_⟩:=ha k hk;injection e with e;injection e with e;subst e;exact hc
 ·obtain⟨g,e,hc,_⟩:=hb k hk;injection e with e;injection e with e;subst e;exact hc
 ·rintro e w' ⟨rfl,ht⟩;exact⟨rfl,h.tch ht⟩
theorem shw_len (n:Int)(c:Nat->Option QM):(shw n c).length=8:=by
 unfold shw;simp
theorem Gp.at {l:List Pty}(h:Gp B w0 l w)(i:Nat){v:Value}{ls:List ByteArray}(hi:l[i]?=some (stP B v ls)):∃a cap,v=.slice a ls.length cap/\∀k (hk:k<ls.length),∃g,a=some ⟨g,0,none⟩/\w.cell? ⟨g,k,none⟩=some (.string ls[k]):=by
 obtain⟨c1,h1,_⟩:=h.get i hi;obtain⟨a,ca,e,ha⟩:=h1.at
 exact⟨a,ca,e,fun k hk=>by
  obtain⟨g,e1,e2,_⟩:=ha k hk;exact⟨g,e1,e2⟩⟩
theorem PI.gp (h:PI B w0 d x y nx cx ny cy w):∃d2,Gp B w0 [bkP B x d nx cx,bkP B y d2 ny cy,noP,noP,noP,noP,noP,noP] w:=by
 obtain⟨d2,h⟩:=h.al;refine⟨d2,_,h,fun i p hi=>?_⟩
 have e:i=0\/i=1\/i=2\/i=3\/i=4\/i=5\/i=6\/i=7\/8<=i:=by omega
 rcases e with rfl|rfl|rfl|rfl|rfl|rfl|rfl|rfl|e
 all_goals first|exact Option.some.inj hi|(rw[List.getElem?_eq_none (by simpa using e)]at hi;cases hi)
theorem doQ_ne (now:Int)(c:Nat->Option QM)(r:Wp.Rq):(doQ now c r).1.size≠0:=by
 have h1:∀b:UInt8,(⟨#[b]⟩:ByteArray).size≠0:=fun b=>by
  show (#[b]).size≠0
  simp
 have hok:∀l:List UInt8,(okL l).size≠0:=fun l=>by
  show (0::l).toArray.size≠0
  simp
 have hA:∀(f:Nat->QM->Nat->(Nat->Option QM)),(doA now c r f).1.size≠0:=fun f=>by
  unfold doA
  split
  ·exact h1 _
  ·split
   ·exact h1 _
   ·split
    ·exact hok _
    ·exact h1 _
 unfold doQ
 split
 ·split
  ·exact h1 _
  ·exact hok _
 ·split
  ·exact hA _
  ·split
   ·exact hA _
   ·split
    ·split
     ·exact hok _
     ·exact h1 _
    ·split
     ·exact h1 _
     ·split
      ·exact hok _
      ·split
       ·exact hok _
       ·split
        ·exact hok _
        ·split
         ·unfold doR
          split
          ·split<;>exact hok _
          ·exact hok _
         ·unfold doS
          split
          ·exact h1 _
          ·split
           ·exact hok _
           ·split
            ·exact h1 _
            ·split
             ·exact h1 _
             ·exact hok _
theorem doStr_ne (now:Int)(c:Nat->Option QM)(s:ByteArray):(doStr now c s).1.size≠0:=by
 unfold doStr
 split
 ·split
  ·show (0::_:List UInt8).toArray.size≠0
   simp
  ·exact doQ_ne now c _
 ·show (#[1]:Array UInt8).size≠0
  simp
theorem reopened_walk (r:Wp.Rq)(x:Sl)(ga:Option Addr)(gc:Nat)(sc:List RqS)(ha:Option Addr)(hc:Nat)(sm:List RqS)(w:World)(hw:Wf r)(hz:Keep.Szs r)(hE:Env w.heap.size w)(hok:∀s∈sc,s.Ok w)(hln:sc.length<=2000000000000)(hga:ScR w.heap.size w ga sc)(hom:∀s∈sm,s.Ok w)(hlm:sm.length<=2000000000000)(hha:ScR w.heap.size w ha sm):
  zB 4 #[.agg (cellsOf r x.v),.slice ga sc.length gc,.slice ha sm.length hc] w (.bool true):=by
 have HPR:Hid (∀W,Tch [] w W->Calls Tryz.prog 7 #[.agg (cellsOf r x.v)] W fun e w'=>∃xb yb d c d2,e=.returned (.tuple #[.pointer (some ⟨xb,0,none⟩),.pointer (some ⟨yb,0,none⟩),.pointer (some ⟨d,0,none⟩)])/\Gp w.heap.size w [bkP w.heap.size xb d 0 c,bkP w.heap.size yb d2 0 c,noP,noP,noP,noP,noP,noP] w'):=fun W ht=>by
  refine(prepared_any w.heap.size r x W hw hz (hE.tch ht (by simp))).mono ?_;rintro e w' ⟨xb,yb,d,c,he,sx,bx,sy,b2,colx,coly,g1,g2,g3⟩;obtain⟨d2,hg⟩:=PI.gp ⟨sx,bx,sy,b2,colx,coly,g1,g2,(ht.below (by simp) hE.size).trans g3⟩;exact⟨xb,yb,d,c,d2,he,hg⟩
 have HBY:Hid (∀(W:World) (ga:Option Addr) (gc:Nat) (sc:List RqS),(∀s∈sc,s.Ok w)->sc.length<=2000000000000->ScR w.heap.size w ga sc->Below w.heap.size w W->Env w.heap.size W->Calls Tryz.prog 8 #[.slice ga sc.length gc] W fun e w'=>∃v ls,e=.returned v/\Dk.OwnS w' v ls/\ls.length=sc.length/\(∀s∈ls,parseGood s=true)/\(∀b,v.ownBlock=some b->W.heap.size<=b)/\Tch [] W w'):=fun W ga gc sc hok hln hga hb hE'=>by
  refine bytesOf_any w.heap.size ga gc sc W hE' (fun s hs=>(hok s hs).below hb) hln ?_;intro hp;obtain⟨g,o,h1,h2,h3⟩:=hga.below hb hp;exact⟨g,o,h1,Nat.lt_of_lt_of_le h2 hb.size,h3⟩
 have HB1:=zH (fun W=>HBY.out W ga gc sc hok hln hga);have HB2:=zH (fun W=>HBY.out W ha hc sm hom hlm hha);have HTA:Hid (∀o,Tch [] w (w.alloc o)):=fun o=>(Tch.refl [] w).alloc o
 clear hw hz hE hok hga hom hha HBY;obtain⟨B,HBB⟩:∃B,Hid (w.heap.size=B):=⟨_,rfl⟩;rw[HBB.out]at HPR HB1 HB2;rw[zM]at HPR ⊢;go_enter Tryz.func4,Tryz.ntmps4;go_wp2_with fail;refine(HPR.out _ (HTA.out _)).mono ?_;rintro e w1 ⟨xb,yb,d,c,d2,rfl,hp1⟩;have HP1:=zH hp1;clear hp1 HPR HTA;generalize (Value.agg #[.int .u8 (r.op.toNat:Int),.int .u8 (r.q.toNat:Int),.int .u8 (r.d.toNat:Int),.int .i64 r.vis,.int .i64 r.win,.int .i64 r.rcv,.int .i64 r.quo,.int .i64 r.mx,.int .i64 r.tic,.string r.grp,.string r.ded,.string r.bod,.string r.att,.string r.han,.slice x.a x.n x.c])=A0;go_wp2_with fail;refine(HB1.out w1 HP1.out.bel HP1.out.env).mono ?_;rintro e w2 ⟨lv,ls,rfl,ho2,hl2,hg2,hn2,ht2⟩;have HP2:Hid (Gp B w [bkP B xb d 0 c,bkP B yb d2 0 c,stP B lv ls,noP,noP,noP,noP,noP] w2):=HP1.out.str 2 ht2 ho2 hn2;obtain⟨la,lc,rfl,_⟩:=ho2.at
 have HG2:=zH hg2;clear HB1 HP1 ho2 hn2 ht2 hg2;go_wp2_with fail;refine(HB2.out w2 HP2.out.bel HP2.out.env).mono ?_;rintro e w3 ⟨mv,ms,rfl,ho3,hl3,hg3,hn3,ht3⟩;have HP3:Hid (Gp B w [bkP B xb d 0 c,bkP B yb d2 0 c,stP B (.slice la ls.length lc) ls,stP B mv ms,noP,noP,noP,noP] w3):=HP2.out.str 3 ht3 ho3 hn3;obtain⟨ma,mc,rfl,_⟩:=ho3.at
 have HG3:=zH hg3;have hI2:((ls.length:Nat):Int)=((sc.length:Nat):Int):=by rw[hl2]
 have hI3:((ms.length:Nat):Int)=((sm.length:Nat):Int):=by rw[hl3]
 clear HB2 HP2 ho3 hn3 ht3 hg3;have HAX:Hid (∀W (n:Int) (cc:Nat->Option QM) (k:Nat) (hk:k<ls.length),Gp B w [bkP B xb d n cc,bkP B yb d2 n cc,stP B (.slice la ls.length lc) ls,stP B (.slice ma ms.length mc) ms,noP,noP,noP,noP] W->Calls Tryz.prog 11 #[.pointer (some ⟨xb,0,none⟩),.string ls[k]] W fun e w'=>∃t n' c',e=.returned (.string t)/\t.toList.isEmpty=false/\Gp B w [bkP B xb d n' c',bkP B yb d2 n cc,stP B (.slice la ls.length lc) ls,stP B (.slice ma ms.length mc) ms,noP,noP,noP,noP] w'/\∀W',Gp B w [bkP B xb d n' c',bkP B yb d2 n cc,stP B (.slice la ls.length lc) ls,stP B (.slice ma ms.length mc) ms,noP,noP,noP,noP] W'->Calls Tryz.prog 11 #[.pointer (some ⟨yb,0,none⟩),.string ls[k]] W' fun e w'=>e=.returned (.string t)/\Gp B w [bkP B xb d n' c',bkP B yb d2 n' c',stP B (.slice la ls.length lc) ls,stP B (.slice ma ms.length mc) ms,noP,noP,noP,noP] w'):=fun W n cc k hk h=>by
  have hsz:ls[k].size<=maxLen:=by
   have:=good_size _ (HG2.out _ (List.getElem_mem hk));unfold maxLen;omega
  refine(h.ask 0 rfl ls[k] hsz).mono ?_;rintro e w' ⟨rfl,h'⟩;exact⟨_,_,_,rfl,ne_nil _ (doStr_ne n cc _),h',fun W' hW=>hW.ask 1 rfl ls[k] hsz⟩
 clear HG2;go_wp2_with fail
 go_loopw [12] (fun iv wr=>∃(k:Nat) (n:Int) (cc:Nat->Option QM),k<=ls.length/\iv=.int .i64 (k:Int)/\Gp B w [bkP B xb d n cc,bkP B yb d2 n cc,stP B (.slice la ls.length lc) ls,stP B (.slice ma ms.length mc) ms,noP,noP,noP,noP] wr) (fun iv _=>ls.length-(intOf iv).toNat)
 case atStart=>exact⟨0,0,c,Nat.zero_le _,rfl,HP3.out⟩
 case round=>
  obtain⟨k,n,cc,hk,rfl,hgp⟩:=hrel;have HGP:=zH hgp;clear HP3
  by_cases hlt:k<ls.length
  ·have hlI:(k:Int)<(ls.length:Int):=by omega
   obtain⟨a',c',hv',hat⟩:=hgp.at 2 rfl;injection hv' with e1 e2 e3;subst e1 e3;obtain⟨g,rfl,hc⟩:=hat k hlt;have HD:=zH (HAX.out wr n cc k hlt hgp);have HCL:Hid (∀W' P0 P1,Gp B w [P0,P1,stP B (.slice (some ⟨g,0,none⟩) ls.length lc) ls,stP B (.slice ma ms.length mc) ms,noP,noP,noP,noP] W'->W'.cell? ⟨g,k,none⟩=some (.string ls[k])):=fun W' P0 P1 h'=>by
    obtain⟨a',c',hv',hat⟩:=h'.at 2 rfl;injection hv' with e1 e2 e3;subst e1 e3;obtain⟨g',e,hc⟩:=hat k hlt;injection e with e;injection e with e;subst e;exact hc
   generalize ls[k]=s at*
   clear hat hgp e2 HAX;go_wp2_with fail;refine HD.out.mono ?_;rintro e w4 ⟨t,n',c'',rfl,hte,hg4,hy4⟩;have HG4:=zH hg4;have HY4:=zH (hy4 w4 hg4);have hc4:=HCL.out w4 _ _ hg4;clear hg4 hy4 HD hc HGP HCL;go_wp2_with fail;refine HY4.out.mono ?_;rintro e w5 ⟨rfl,hg5⟩;have HG5:=zH hg5;have htt:(t.toList == t.toList)=true:=by simp
   clear hg5 HY4 HG4 hc4;go_wp2_with fail;go_roundw
   case rel=>exact⟨k+1,n',c'',by omega,by go_num,HG5.out⟩
   case measure=>simp[intOf];omega
  ·have hlI:¬((k:Int)<(ls.length:Int)):=by omega
   clear hgp HAX;have HCR:=zH (HGP.out.crash 0 4 rfl 1099511627776 (by decide) (by decide));go_wp2_with fail;refine HCR.out.mono ?_;rintro e w4 ⟨d',rfl,hg4⟩;have HOP:Hid (Calls Tryz.prog 14 #[.pointer (some ⟨d',0,none⟩)] w4 fun e w'=>∃x,e=.returned (.tuple #[.pointer (some ⟨x,0,none⟩),.int .i64 0])/\Gp B w [bkP B xb d n cc,bkP B yb d2 n cc,stP B (.slice la ls.length lc) ls,stP B (.slice ma ms.length mc) ms,bkP B x d' n cc,noP,noP,noP] w'):=Gp.open hg4 4 rfl;clear hg4 HCR HGP;go_wp2_with fail;refine HOP.out.mono ?_;rintro e w5 ⟨vb,rfl,hg5⟩;have HSH:Hid (Calls Tryz.prog 12 #[.pointer (some ⟨vb,0,none⟩)] w5 fun e w'=>∃v,e=.returned v/\Gp B w [bkP B xb d n cc,bkP B yb d2 n cc,stP B (.slice la ls.length lc) ls,stP B (.slice ma ms.length mc) ms,bkP B vb d' n cc,stP B v (shw n cc),noP,noP] w'):=Gp.shw hg5 4 5 rfl (by decide);clear hg5 HOP;go_wp2_with fail;refine HSH.out.mono ?_;rintro e w6 ⟨uv,rfl,hg6⟩;have HDO:Hid (Calls Tryz.prog 11 #[.pointer (some ⟨vb,0,none⟩),.string ⟨#[84,1,0]⟩] w6 fun e w'=>∃t n1 c1,e=.returned (.string t)/\Gp B w [bkP B xb d n cc,bkP B yb d2 n cc,stP B (.slice la ls.length lc) ls,stP B (.slice ma ms.length mc) ms,bkP B vb d' n1 c1,stP B uv (shw n cc),noP,noP] w'):=by
    refine(Gp.ask hg6 4 rfl ⟨#[84,1,0]⟩ (by decide)).mono ?_;rintro e w' ⟨rfl,h'⟩;exact⟨_,_,_,rfl,h'⟩
   clear hg6 HSH;go_wp2_with fail;refine HDO.out.mono ?_;rintro e w7 ⟨t7,n1,c1,rfl,hg7⟩;have HDX:Hid (Calls Tryz.prog 11 #[.pointer (some ⟨vb,0,none⟩),.string ⟨#[88,97]⟩] w7 fun e w'=>∃t n1 c1,e=.returned (.string t)/\Gp B w [bkP B xb d n cc,bkP B yb d2 n cc,stP B (.slice la ls.length lc) ls,stP B (.slice ma ms.length mc) ms,bkP B vb d' n1 c1,stP B uv (shw n cc),noP,noP] w'):=by
    refine(Gp.ask hg7 4 rfl ⟨#[88,97]⟩ (by decide)).mono ?_;rintro e w' ⟨rfl,h'⟩;exact⟨_,_,_,rfl,h'⟩
   clear hg7 HDO;go_wp2_with fail;refine HDX.out.mono ?_;rintro e w8 ⟨t8,n2,c2,rfl,hg8⟩;have HAG:Hid (Calls Tryz.prog 14 #[.pointer (some ⟨d,0,none⟩)] w8 fun e w'=>∃z,e=.returned (.tuple #[.pointer (some ⟨z,0,none⟩),.int .i64 0])/\Gp B w [bkP B z d n cc,bkP B yb d2 n cc,stP B (.slice la ls.length lc) ls,stP B (.slice ma ms.length mc) ms,bkP B vb d' n2 c2,stP B uv (shw n cc),noP,noP] w'):=Gp.again hg8 0 rfl;clear hg8 HDX;go_wp2_with fail;refine HAG.out.mono ?_;rintro e w9 ⟨zb,rfl,hg9⟩;have HSZ:Hid (Calls Tryz.prog 12 #[.pointer (some ⟨zb,0,none⟩)] w9 fun e w'=>∃v,e=.returned v/\Gp B w [bkP B zb d n cc,bkP B yb d2 n cc,stP B (.slice la ls.length lc) ls,stP B (.slice ma ms.length mc) ms,bkP B vb d' n2 c2,stP B uv (shw n cc),stP B v (shw n cc),noP] w'):=Gp.shw hg9 0 6 rfl (by decide);clear hg9 HAG;go_wp2_with fail;refine HSZ.out.mono ?_;rintro e w10 ⟨sv,rfl,hg10⟩;have HSY:Hid (Calls Tryz.prog 12 #[.pointer (some ⟨yb,0,none⟩)] w10 fun e w'=>∃v,e=.returned v/\Gp B w [bkP B zb d n cc,bkP B yb d2 n cc,stP B (.slice la ls.length lc) ls,stP B (.slice ma ms.length mc) ms,bkP B vb d' n2 c2,stP B uv (shw n cc),stP B sv (shw n cc),stP B v (shw n cc)] w'):=Gp.shw hg10 1 7 rfl (by decide);clear hg10 HSZ;go_wp2_with fail;refine HSY.out.mono ?_;rintro e w11 ⟨tv,rfl,hg11⟩;have hsl:=shw_len n cc;have HA1:=zH (Gp.alike hg11 6 7 rfl rfl (by omega) (by omega));clear hg11 HSY;go_wp2_with fail;refine HA1.out.mono ?_;rintro e w12 ⟨rfl,hg12⟩;have HA2:=zH (Gp.alike hg12 5 7 rfl rfl (by omega) (by omega));clear hg12 HA1;go_wp2_with fail;refine HA2.out.mono ?_;rintro e w13 ⟨rfl,hg13⟩;have HG13:=zH hg13;clear hg13 HA2 hsl;have HAZ:Hid (∀W (n:Int) (cc:Nat->Option QM) (Q1 Q2 Q3 Q4 Q5:Pty) (k:Nat) (hk:k<ms.length),Gp B w [bkP B zb d n cc,bkP B yb d2 n cc,Q1,stP B (.slice ma ms.length mc) ms,Q2,Q3,Q4,Q5] W->Calls Tryz.prog 11 #[.pointer (some ⟨zb,0,none⟩),.string ms[k]] W fun e w'=>∃t n' c',e=.returned (.string t)/\Gp B w [bkP B zb d n' c',bkP B yb d2 n cc,Q1,stP B (.slice ma ms.length mc) ms,Q2,Q3,Q4,Q5] w'/\∀W',Gp B w [bkP B zb d n' c',bkP B yb d2 n cc,Q1,stP B (.slice ma ms.length mc) ms,Q2,Q3,Q4,Q5] W'->Calls Tryz.prog 11 #[.pointer (some ⟨yb,0,none⟩),.string ms[k]] W' fun e w'=>e=.returned (.string t)/\Gp B w [bkP B zb d n' c',bkP B yb d2 n' c',Q1,stP B (.slice ma ms.length mc) ms,Q2,Q3,Q4,Q5] w'):=fun W n cc Q1 Q2 Q3 Q4 Q5 k hk h=>by
    have hsz:ms[k].size<=maxLen:=by
     have:=good_size _ (HG3.out _ (List.getElem_mem hk));unfold maxLen;omega
    refine(h.ask 0 rfl ms[k] hsz).mono ?_;rintro e w' ⟨rfl,h'⟩;exact⟨_,_,_,rfl,h',fun W' hW=>hW.ask 1 rfl ms[k] hsz⟩
   obtain⟨Q1,Q2,Q3,Q4,Q5,HG14⟩:∃Q1 Q2 Q3 Q4 Q5:Pty,Hid (Gp B w [bkP B zb d n cc,bkP B yb d2 n cc,Q1,stP B (.slice ma ms.length mc) ms,Q2,Q3,Q4,Q5] w13):=⟨_,_,_,_,_,HG13.out⟩;clear HG13 HG3;go_wp2_with fail
   go_loopw [24] (fun iv wr=>∃(k:Nat) (n:Int) (cc:Nat->Option QM),k<=ms.length/\iv=.int .i64 (k:Int)/\Gp B w [bkP B zb d n cc,bkP B yb d2 n cc,Q1,stP B (.slice ma ms.length mc) ms,Q2,Q3,Q4,Q5] wr) (fun iv _=>ms.length-(intOf iv).toNat)
   case atStart=>exact⟨0,n,cc,Nat.zero_le _,rfl,HG14.out⟩
   case round=>
    obtain⟨k2,n3,c3,hk2,rfl,hgp⟩:=hrel;have HGP:=zH hgp;clear HG14
    by_cases hlt2:k2<ms.length
    ·have hlI2:(k2:Int)<(ms.length:Int):=by omega
     obtain⟨a',c',hv',hat⟩:=hgp.at 3 rfl;injection hv' with e1 e2 e3;subst e1 e3;obtain⟨g,rfl,hc⟩:=hat k2 hlt2;have HD:=zH (HAZ.out _ n3 c3 _ _ _ _ _ k2 hlt2 hgp);have HCL:Hid (∀W' P0 P1,Gp B w [P0,P1,Q1,stP B (.slice (some ⟨g,0,none⟩) ms.length mc) ms,Q2,Q3,Q4,Q5] W'->W'.cell? ⟨g,k2,none⟩=some (.string ms[k2])):=fun W' P0 P1 h'=>by
      obtain⟨a',c',hv',hat⟩:=h'.at 3 rfl;injection hv' with e1 e2 e3;subst e1 e3;obtain⟨g',e,hc⟩:=hat k2 hlt2;injection e with e;injection e with e;subst e;exact hc
     generalize ms[k2]=s at*
     clear hat hgp e2 HAZ;go_wp2_with fail;refine HD.out.mono ?_;rintro e w14 ⟨t,n',c'',rfl,hg4,hy4⟩;have HG4:=zH hg4;have HY4:=zH (hy4 w14 hg4);have hc4:=HCL.out w14 _ _ hg4;clear hg4 hy4 HD hc HGP HCL;go_wp2_with fail;refine HY4.out.mono ?_;rintro e w15 ⟨rfl,hg5⟩;have HG5:=zH hg5;have htt:(t.toList == t.toList)=true:=by simp
     clear hg5 HY4 HG4 hc4;go_wp2_with fail;go_roundw
     case rel=>exact⟨k2+1,n',c'',by omega,by go_num,HG5.out⟩
     case measure=>simp[intOf];omega
    ·have hlI2:¬((k2:Int)<(ms.length:Int)):=by omega
     have HHA:=zH (HGP.out.halt 0 rfl);clear hgp HAZ;go_wp2_with fail;refine HHA.out.mono ?_;rintro e w14 ⟨rfl,⟨dv,hdb⟩,hbe⟩;have HBE:=zH hbe;have HOD:=zH (open_down d dv w14 hdb);clear hdb hbe HHA;go_wp2_with fail;refine HOD.out.mono ?_;rintro e w15 ⟨rfl,h15⟩;subst h15;go_wp2_with fail;go_ret;exact⟨rfl,by rw[HBB.out];exact HBE.out⟩
end Go.Proofs.YtbdobaapadlcjabGreatDoor
