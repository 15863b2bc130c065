import Derived.Test.YtbdobaapadlcjaaGreatDoorBy19
set_option maxRecDepth 100000
set_option maxHeartbeats 2000000
set_option linter.unusedVariables false
set_option linter.unusedSimpArgs false
namespace Go.Proofs.YtbdobaapadlcjaaGreatDoor.Ref
open Go.RowKit
theorem xo (O:Wp.Rq)(V:Bool)(r:Wp.Rq)(x:Sl)(bs:List ByteArray)(w:World)(ho:ROk r O x ⟨none,0,0⟩)(hno:jo r x (Wp.short bs)=true->O=r/\x.n=0)(hres:O=r->x.n=0->jo r x (Wp.short bs)=V)
  (hri:RSk r O x ⟨none,0,0⟩ w->zB 102 #[.agg (ja r x.v)] w (.bool V)):
  zB 102 #[.agg (ja r x.v)] w (.bool (jo r x (Wp.short bs))):=by
 by_cases hx:x.n=0
 ·have hY:∀(W:World) (a:Option Addr),Strs W a []:=fun W a j hj=>absurd hj (by simp)
  have hS:∀W,zB 72 #[.agg (ja O (Sl.v ⟨none,0,0⟩)),.agg (ja r x.v)] W (.bool (qV O r)):=fun W=>by
   have h:=a5h O r none x.a 0 x.c [] W (by decide) (hY W _) (hY W _);have e:x.v=.slice x.a 0 x.c:=by show Value.slice x.a x.n x.c=_;rw[hx]
   rw[e];exact h
  by_cases he:O=r
  ·rw[hres he hx];refine hri (fun W _=>?_);have h:=hS W;rw[(xu _ _).2 he]at h;exact h
  ·have hf:jo r x (Wp.short bs)=false:=by
    rw[Bool.eq_false_iff];exact fun h=>he (hno h).1
   rw[hf];refine xK r _ x _ w ho (fun W _=>?_);have h:=hS W;rw[show qV O r=false from Bool.eq_false_iff.2 (fun h=>he ((xu _ _).1 h))]at h
   exact h
 ·have hf:jo r x (Wp.short bs)=false:=by
   rw[Bool.eq_false_iff];exact fun h=>hx (hno h).2
  rw[hf];exact xK r _ x _ w ho (fun W _=>a6l _ _ _ _ W (fun e=>hx e.symm))
theorem b7w (r:Wp.Rq)(x:Sl)(b:Bool)(hw:Wf r)(hop:r.op.toNat=67)(he:(⟨r.op,r.q,r.d,r.vis,r.win,r.rcv,r.quo,0,0,⟨#[]⟩,⟨#[]⟩,⟨#[]⟩,⟨#[]⟩,⟨#[]⟩⟩:Wp.Rq)=r)(hx:x.n=0):jo r x b=((ltq r&&vO r)):=by
 rw[Bool.eq_iff_iff,ku r x b hw 2 (by decide) hop];have n2:r.fits x.n b 2=true↔1<=r.vis/\r.vis<=1000:=qd r x.n b 2 (by decide) (by decide) (by decide);have n3:r.fits x.n b 3=true↔0<=r.win/\r.win<=1000:=qd r x.n b 3 (by decide) (by decide) (by decide);have n4:r.fits x.n b 4=true↔0<=r.rcv/\r.rcv<=9:=qd r x.n b 4 (by decide) (by decide) (by decide);have n5:r.fits x.n b 5=true↔1<=r.quo/\r.quo<=50:=qd r x.n b 5 (by decide) (by decide) (by decide);have h1:(jX {r with op:=0} (Wp.lay 2)=opR 0)=True:=eq_true ((b5z r).2 he);have h2:((kD x (Wp.lay 2)).n=0)=True:=eq_true (by rw[b8a];exact hx);have hl:Wp.lay 2=[0,2,3,4,1,5]:=rfl;rw[h1,h2,hl];simp only[List.forall_mem_cons,List.not_mem_nil,false_implies,implies_true,and_true,n2,n3,n4,n5,a0v,b6E]
 all_goals clear h1 h2 he
 all_goals skip
 all_goals (simp only[ltq,vO,Bool.and_eq_true,Bool.or_eq_true,decide_eq_true_eq,beq_iff_eq,bne_iff_ne,ne_eq]<;>omega)
theorem b8R (r:Wp.Rq)(x:Sl)(b:Bool)(hw:Wf r)(hop:r.op.toNat=67)(h:jo r x b=true):(⟨r.op,r.q,r.d,r.vis,r.win,r.rcv,r.quo,0,0,⟨#[]⟩,⟨#[]⟩,⟨#[]⟩,⟨#[]⟩,⟨#[]⟩⟩:Wp.Rq)=r/\x.n=0:=by
 rw[ku r x b hw 2 (by decide) hop]at h;exact⟨(b5z r).1 h.2.1,h.2.2⟩
theorem b5U (r:Wp.Rq)(x:Sl)(bs:List ByteArray)(w:World)(hw:Wf r)(hop:r.op.toNat=67)(hxn:x.n=bs.length):
  zB 102 #[.agg (ja r x.v)] w (.bool (jo r x (Wp.short bs))):=xo _ _ r x bs w (fun W=>a8m r x W hop) (fun h=>b8R r x _ hw hop h) (fun he hx=>b7w r x _ hw hop he hx) (fun hs=>b2E r _ x _ w hop (fun W=>a8m r x W hop) hs)
theorem b7D (r:Wp.Rq)(x:Sl)(b:Bool)(hw:Wf r)(hop:r.op.toNat=88)(he:(⟨r.op,r.q,0,0,0,0,0,0,0,⟨#[]⟩,⟨#[]⟩,⟨#[]⟩,⟨#[]⟩,⟨#[]⟩⟩:Wp.Rq)=r)(hx:x.n=0):jo r x b=(ltq r):=by
 rw[Bool.eq_iff_iff,ku r x b hw 23 (by decide) hop];have h1:(jX {r with op:=0} (Wp.lay 23)=opR 0)=True:=eq_true ((b5G r).2 he);have h2:((kD x (Wp.lay 23)).n=0)=True:=eq_true (by rw[b8h];exact hx);have hl:Wp.lay 23=[0]:=rfl;rw[h1,h2,hl];simp only[List.forall_mem_cons,List.not_mem_nil,false_implies,implies_true,and_true,a0v]
 all_goals clear h1 h2 he
 all_goals skip
 all_goals (simp only[ltq,vO,Bool.and_eq_true,Bool.or_eq_true,decide_eq_true_eq,beq_iff_eq,bne_iff_ne,ne_eq]<;>omega)
theorem b8Y (r:Wp.Rq)(x:Sl)(b:Bool)(hw:Wf r)(hop:r.op.toNat=88)(h:jo r x b=true):(⟨r.op,r.q,0,0,0,0,0,0,0,⟨#[]⟩,⟨#[]⟩,⟨#[]⟩,⟨#[]⟩,⟨#[]⟩⟩:Wp.Rq)=r/\x.n=0:=by
 rw[ku r x b hw 23 (by decide) hop]at h;exact⟨(b5G r).1 h.2.1,h.2.2⟩
theorem b6b (r:Wp.Rq)(x:Sl)(bs:List ByteArray)(w:World)(hw:Wf r)(hop:r.op.toNat=88)(hxn:x.n=bs.length):
  zB 102 #[.agg (ja r x.v)] w (.bool (jo r x (Wp.short bs))):=xo _ _ r x bs w (fun W=>a8t r x W hop) (fun h=>b8Y r x _ hw hop h) (fun he hx=>b7D r x _ hw hop he hx) (fun hs=>b2L r _ x _ w hop (fun W=>a8t r x W hop) hs)
theorem b7y (r:Wp.Rq)(x:Sl)(b:Bool)(hw:Wf r)(hop:r.op.toNat=80)(he:(⟨r.op,r.q,0,0,0,0,0,0,0,⟨#[]⟩,⟨#[]⟩,⟨#[]⟩,⟨#[]⟩,⟨#[]⟩⟩:Wp.Rq)=r)(hx:x.n=0):jo r x b=(ltq r):=by
 rw[Bool.eq_iff_iff,ku r x b hw 15 (by decide) hop];have h1:(jX {r with op:=0} (Wp.lay 15)=opR 0)=True:=eq_true ((b5B r).2 he);have h2:((kD x (Wp.lay 15)).n=0)=True:=eq_true (by rw[b8c];exact hx);have hl:Wp.lay 15=[0]:=rfl;rw[h1,h2,hl];simp only[List.forall_mem_cons,List.not_mem_nil,false_implies,implies_true,and_true,a0v]
 all_goals clear h1 h2 he
 all_goals skip
 all_goals (simp only[ltq,vO,Bool.and_eq_true,Bool.or_eq_true,decide_eq_true_eq,beq_iff_eq,bne_iff_ne,ne_eq]<;>omega)
theorem b8T (r:Wp.Rq)(x:Sl)(b:Bool)(hw:Wf r)(hop:r.op.toNat=80)(h:jo r x b=true):(⟨r.op,r.q,0,0,0,0,0,0,0,⟨#[]⟩,⟨#[]⟩,⟨#[]⟩,⟨#[]⟩,⟨#[]⟩⟩:Wp.Rq)=r/\x.n=0:=by
 rw[ku r x b hw 15 (by decide) hop]at h;exact⟨(b5B r).1 h.2.1,h.2.2⟩
theorem b5W (r:Wp.Rq)(x:Sl)(bs:List ByteArray)(w:World)(hw:Wf r)(hop:r.op.toNat=80)(hxn:x.n=bs.length):
  zB 102 #[.agg (ja r x.v)] w (.bool (jo r x (Wp.short bs))):=xo _ _ r x bs w (fun W=>a8o r x W hop) (fun h=>b8T r x _ hw hop h) (fun he hx=>b7y r x _ hw hop he hx) (fun hs=>b2G r _ x _ w hop (fun W=>a8o r x W hop) hs)
theorem b7C (r:Wp.Rq)(x:Sl)(b:Bool)(hw:Wf r)(hop:r.op.toNat=86)(he:(⟨r.op,r.q,0,0,0,0,0,0,0,⟨#[]⟩,⟨#[]⟩,⟨#[]⟩,⟨#[]⟩,⟨#[]⟩⟩:Wp.Rq)=r)(hx:x.n=0):jo r x b=(ltq r):=by
 rw[Bool.eq_iff_iff,ku r x b hw 21 (by decide) hop];have h1:(jX {r with op:=0} (Wp.lay 21)=opR 0)=True:=eq_true ((b5F r).2 he);have h2:((kD x (Wp.lay 21)).n=0)=True:=eq_true (by rw[b8g];exact hx);have hl:Wp.lay 21=[0]:=rfl;rw[h1,h2,hl];simp only[List.forall_mem_cons,List.not_mem_nil,false_implies,implies_true,and_true,a0v]
 all_goals clear h1 h2 he
 all_goals skip
 all_goals (simp only[ltq,vO,Bool.and_eq_true,Bool.or_eq_true,decide_eq_true_eq,beq_iff_eq,bne_iff_ne,ne_eq]<;>omega)
theorem b8X (r:Wp.Rq)(x:Sl)(b:Bool)(hw:Wf r)(hop:r.op.toNat=86)(h:jo r x b=true):(⟨r.op,r.q,0,0,0,0,0,0,0,⟨#[]⟩,⟨#[]⟩,⟨#[]⟩,⟨#[]⟩,⟨#[]⟩⟩:Wp.Rq)=r/\x.n=0:=by
 rw[ku r x b hw 21 (by decide) hop]at h;exact⟨(b5F r).1 h.2.1,h.2.2⟩
theorem b6a (r:Wp.Rq)(x:Sl)(bs:List ByteArray)(w:World)(hw:Wf r)(hop:r.op.toNat=86)(hxn:x.n=bs.length):
  zB 102 #[.agg (ja r x.v)] w (.bool (jo r x (Wp.short bs))):=xo _ _ r x bs w (fun W=>a8s r x W hop) (fun h=>b8X r x _ hw hop h) (fun he hx=>b7C r x _ hw hop he hx) (fun hs=>b2K r _ x _ w hop (fun W=>a8s r x W hop) hs)
theorem b7A (r:Wp.Rq)(x:Sl)(b:Bool)(hw:Wf r)(hop:r.op.toNat=83)(he:(⟨r.op,r.q,0,0,0,0,0,0,0,r.grp,r.ded,r.bod,⟨#[]⟩,⟨#[]⟩⟩:Wp.Rq)=r)(hx:x.n=0):jo r x b=(ltq r&&(decide (1<=(r.grp.size:Int))&&decide ((r.grp.size:Int)<=8))&&(decide (r.ded.size<=8)&&Wp.dedOk r.ded)&&decide ((r.bod.size:Int)<=255)):=by
 rw[Bool.eq_iff_iff,ku r x b hw 18 (by decide) hop];have n9:r.fits x.n b 9=true↔1<=(r.grp.size:Int)/\(r.grp.size:Int)<=8:=qd r x.n b 9 (by decide) (by decide) (by decide);have n11:r.fits x.n b 11=true↔0<=(r.bod.size:Int)/\(r.bod.size:Int)<=255:=qd r x.n b 11 (by decide) (by decide) (by decide);have h1:(jX {r with op:=0} (Wp.lay 18)=opR 0)=True:=eq_true ((b5D r).2 he);have h2:((kD x (Wp.lay 18)).n=0)=True:=eq_true (by rw[b8e];exact hx);have hl:Wp.lay 18=[0,9,10,11]:=rfl;rw[h1,h2,hl];simp only[List.forall_mem_cons,List.not_mem_nil,false_implies,implies_true,and_true,n9,n11,a0v,a5F]
 all_goals clear h1 h2 he
 generalize Wp.dedOk r.ded=dk
 cases dk<;>(simp[ltq];try omega)
theorem b8V (r:Wp.Rq)(x:Sl)(b:Bool)(hw:Wf r)(hop:r.op.toNat=83)(h:jo r x b=true):(⟨r.op,r.q,0,0,0,0,0,0,0,r.grp,r.ded,r.bod,⟨#[]⟩,⟨#[]⟩⟩:Wp.Rq)=r/\x.n=0:=by
 rw[ku r x b hw 18 (by decide) hop]at h;exact⟨(b5D r).1 h.2.1,h.2.2⟩
theorem b5Y (r:Wp.Rq)(x:Sl)(bs:List ByteArray)(w:World)(hw:Wf r)(hop:r.op.toNat=83)(hxn:x.n=bs.length):
  zB 102 #[.agg (ja r x.v)] w (.bool (jo r x (Wp.short bs))):=xo _ _ r x bs w (fun W=>a8q r x W hop) (fun h=>b8V r x _ hw hop h) (fun he hx=>b7A r x _ hw hop he hx) (fun hs=>b2I r _ x _ w hop (fun W=>a8q r x W hop) hs)
theorem b7z (r:Wp.Rq)(x:Sl)(b:Bool)(hw:Wf r)(hop:r.op.toNat=82)(he:(⟨r.op,r.q,0,0,0,0,0,r.mx,0,⟨#[]⟩,⟨#[]⟩,⟨#[]⟩,r.att,⟨#[]⟩⟩:Wp.Rq)=r)(hx:x.n=0):jo r x b=((ltq r&&(decide (1<=r.mx)&&decide (r.mx<=10))&&decide ((r.att.size:Int)<=8))):=by
 rw[Bool.eq_iff_iff,ku r x b hw 17 (by decide) hop];have n12:r.fits x.n b 12=true↔0<=(r.att.size:Int)/\(r.att.size:Int)<=8:=qd r x.n b 12 (by decide) (by decide) (by decide);have n6:r.fits x.n b 6=true↔1<=r.mx/\r.mx<=10:=qd r x.n b 6 (by decide) (by decide) (by decide);have h1:(jX {r with op:=0} (Wp.lay 17)=opR 0)=True:=eq_true ((b5C r).2 he);have h2:((kD x (Wp.lay 17)).n=0)=True:=eq_true (by rw[b8d];exact hx);have hl:Wp.lay 17=[0,12,6]:=rfl;rw[h1,h2,hl];simp only[List.forall_mem_cons,List.not_mem_nil,false_implies,implies_true,and_true,n12,n6,a0v]
 all_goals clear h1 h2 he
 all_goals skip
 all_goals (simp only[ltq,vO,Bool.and_eq_true,Bool.or_eq_true,decide_eq_true_eq,beq_iff_eq,bne_iff_ne,ne_eq]<;>omega)
theorem b8U (r:Wp.Rq)(x:Sl)(b:Bool)(hw:Wf r)(hop:r.op.toNat=82)(h:jo r x b=true):(⟨r.op,r.q,0,0,0,0,0,r.mx,0,⟨#[]⟩,⟨#[]⟩,⟨#[]⟩,r.att,⟨#[]⟩⟩:Wp.Rq)=r/\x.n=0:=by
 rw[ku r x b hw 17 (by decide) hop]at h;exact⟨(b5C r).1 h.2.1,h.2.2⟩
theorem b5X (r:Wp.Rq)(x:Sl)(bs:List ByteArray)(w:World)(hw:Wf r)(hop:r.op.toNat=82)(hxn:x.n=bs.length):
  zB 102 #[.agg (ja r x.v)] w (.bool (jo r x (Wp.short bs))):=xo _ _ r x bs w (fun W=>a8p r x W hop) (fun h=>b8U r x _ hw hop h) (fun he hx=>b7z r x _ hw hop he hx) (fun hs=>b2H r _ x _ w hop (fun W=>a8p r x W hop) hs)
theorem b7v (r:Wp.Rq)(x:Sl)(b:Bool)(hw:Wf r)(hop:r.op.toNat=65)(he:(⟨r.op,0,0,0,0,0,0,0,0,⟨#[]⟩,⟨#[]⟩,⟨#[]⟩,⟨#[]⟩,r.han⟩:Wp.Rq)=r)(hx:x.n=0):jo r x b=(decide ((r.han.size:Int)<=255)):=by
 rw[Bool.eq_iff_iff,ku r x b hw 0 (by decide) hop];have n13:r.fits x.n b 13=true↔0<=(r.han.size:Int)/\(r.han.size:Int)<=255:=qd r x.n b 13 (by decide) (by decide) (by decide);have h1:(jX {r with op:=0} (Wp.lay 0)=opR 0)=True:=eq_true ((b5x r).2 he);have h2:((kD x (Wp.lay 0)).n=0)=True:=eq_true (by rw[b7Y];exact hx);have hl:Wp.lay 0=[13]:=rfl;rw[h1,h2,hl];simp only[List.forall_mem_cons,List.not_mem_nil,false_implies,implies_true,and_true,n13]
 all_goals clear h1 h2 he
 all_goals skip
 all_goals (simp only[ltq,vO,Bool.and_eq_true,Bool.or_eq_true,decide_eq_true_eq,beq_iff_eq,bne_iff_ne,ne_eq]<;>omega)
theorem b8Q (r:Wp.Rq)(x:Sl)(b:Bool)(hw:Wf r)(hop:r.op.toNat=65)(h:jo r x b=true):(⟨r.op,0,0,0,0,0,0,0,0,⟨#[]⟩,⟨#[]⟩,⟨#[]⟩,⟨#[]⟩,r.han⟩:Wp.Rq)=r/\x.n=0:=by
 rw[ku r x b hw 0 (by decide) hop]at h;exact⟨(b5x r).1 h.2.1,h.2.2⟩
theorem b5S (r:Wp.Rq)(x:Sl)(bs:List ByteArray)(w:World)(hw:Wf r)(hop:r.op.toNat=65)(hxn:x.n=bs.length):
  zB 102 #[.agg (ja r x.v)] w (.bool (jo r x (Wp.short bs))):=xo _ _ r x bs w (fun W=>a8k r x W hop) (fun h=>b8Q r x _ hw hop h) (fun he hx=>b7v r x _ hw hop he hx) (fun hs=>b2C r _ x _ w hop (fun W=>a8k r x W hop) hs)
theorem b7x (r:Wp.Rq)(x:Sl)(b:Bool)(hw:Wf r)(hop:r.op.toNat=69)(he:(⟨r.op,0,0,0,0,0,0,0,r.tic,⟨#[]⟩,⟨#[]⟩,⟨#[]⟩,⟨#[]⟩,r.han⟩:Wp.Rq)=r)(hx:x.n=0):jo r x b=(((decide (0<=r.tic)&&decide (r.tic<=1000))&&decide ((r.han.size:Int)<=255))):=by
 rw[Bool.eq_iff_iff,ku r x b hw 4 (by decide) hop];have n13:r.fits x.n b 13=true↔0<=(r.han.size:Int)/\(r.han.size:Int)<=255:=qd r x.n b 13 (by decide) (by decide) (by decide);have n7:r.fits x.n b 7=true↔0<=r.tic/\r.tic<=1000:=qd r x.n b 7 (by decide) (by decide) (by decide);have h1:(jX {r with op:=0} (Wp.lay 4)=opR 0)=True:=eq_true ((b5A r).2 he);have h2:((kD x (Wp.lay 4)).n=0)=True:=eq_true (by rw[b8b];exact hx);have hl:Wp.lay 4=[13,7]:=rfl;rw[h1,h2,hl];simp only[List.forall_mem_cons,List.not_mem_nil,false_implies,implies_true,and_true,n13,n7]
 all_goals clear h1 h2 he
 all_goals skip
 all_goals (simp only[ltq,vO,Bool.and_eq_true,Bool.or_eq_true,decide_eq_true_eq,beq_iff_eq,bne_iff_ne,ne_eq]<;>omega)
theorem b8S (r:Wp.Rq)(x:Sl)(b:Bool)(hw:Wf r)(hop:r.op.toNat=69)(h:jo r x b=true):(⟨r.op,0,0,0,0,0,0,0,r.tic,⟨#[]⟩,⟨#[]⟩,⟨#[]⟩,⟨#[]⟩,r.han⟩:Wp.Rq)=r/\x.n=0:=by
 rw[ku r x b hw 4 (by decide) hop]at h;exact⟨(b5A r).1 h.2.1,h.2.2⟩
theorem b5V (r:Wp.Rq)(x:Sl)(bs:List ByteArray)(w:World)(hw:Wf r)(hop:r.op.toNat=69)(hxn:x.n=bs.length):
  zB 102 #[.agg (ja r x.v)] w (.bool (jo r x (Wp.short bs))):=xo _ _ r x bs w (fun W=>a8n r x W hop) (fun h=>b8S r x _ hw hop h) (fun he hx=>b7x r x _ hw hop he hx) (fun hs=>b2F r _ x _ w hop (fun W=>a8n r x W hop) hs)
theorem b7B (r:Wp.Rq)(x:Sl)(b:Bool)(hw:Wf r)(hop:r.op.toNat=84)(he:(⟨r.op,0,0,0,0,0,0,0,r.tic,⟨#[]⟩,⟨#[]⟩,⟨#[]⟩,⟨#[]⟩,⟨#[]⟩⟩:Wp.Rq)=r)(hx:x.n=0):jo r x b=((decide (1<=r.tic)&&decide (r.tic<=1000))):=by
 rw[Bool.eq_iff_iff,ku r x b hw 19 (by decide) hop];have n8:r.fits x.n b 8=true↔1<=r.tic/\r.tic<=1000:=qd r x.n b 8 (by decide) (by decide) (by decide);have h1:(jX {r with op:=0} (Wp.lay 19)=opR 0)=True:=eq_true ((b5E r).2 he);have h2:((kD x (Wp.lay 19)).n=0)=True:=eq_true (by rw[b8f];exact hx);have hl:Wp.lay 19=[8]:=rfl;rw[h1,h2,hl];simp only[List.forall_mem_cons,List.not_mem_nil,false_implies,implies_true,and_true,n8]
 all_goals clear h1 h2 he
 all_goals skip
 all_goals (simp only[ltq,vO,Bool.and_eq_true,Bool.or_eq_true,decide_eq_true_eq,beq_iff_eq,bne_iff_ne,ne_eq]<;>omega)
theorem b8W (r:Wp.Rq)(x:Sl)(b:Bool)(hw:Wf r)(hop:r.op.toNat=84)(h:jo r x b=true):(⟨r.op,0,0,0,0,0,0,0,r.tic,⟨#[]⟩,⟨#[]⟩,⟨#[]⟩,⟨#[]⟩,⟨#[]⟩⟩:Wp.Rq)=r/\x.n=0:=by
 rw[ku r x b hw 19 (by decide) hop]at h;exact⟨(b5E r).1 h.2.1,h.2.2⟩
theorem b5Z (r:Wp.Rq)(x:Sl)(bs:List ByteArray)(w:World)(hw:Wf r)(hop:r.op.toNat=84)(hxn:x.n=bs.length):
  zB 102 #[.agg (ja r x.v)] w (.bool (jo r x (Wp.short bs))):=xo _ _ r x bs w (fun W=>a8r r x W hop) (fun h=>b8W r x _ hw hop h) (fun he hx=>b7B r x _ hw hop he hx) (fun hs=>b2J r _ x _ w hop (fun W=>a8r r x W hop) hs)
theorem b5T (r:Wp.Rq)(x:Sl)(bs:List ByteArray)(w:World)(hw:Wf r)(hop:r.op.toNat=66)(hxn:x.n=bs.length)(hb:bs.length<=8796093022208)(hbs:∀s∈bs,s.size<=maxLen)(hS:Strs w x.a bs):
  zB 102 #[.agg (ja r x.v)] w (.bool (jo r x (Wp.short bs))):=by
 have hSm:∀W,Below w.heap.size w W->zB 72 #[.agg (ja ⟨r.op,0,0,0,0,0,0,0,0,⟨#[]⟩,⟨#[]⟩,⟨#[]⟩,⟨#[]⟩,⟨#[]⟩⟩ x.v),.agg (ja r x.v)] W (.bool (qV ⟨r.op,0,0,0,0,0,0,0,0,⟨#[]⟩,⟨#[]⟩,⟨#[]⟩,⟨#[]⟩,⟨#[]⟩⟩ r)):=fun W hW=>by
  have h:=a5h ⟨r.op,0,0,0,0,0,0,0,0,⟨#[]⟩,⟨#[]⟩,⟨#[]⟩,⟨#[]⟩,⟨#[]⟩⟩ r x.a x.a x.c x.c bs W hb (hS.below hW) (hS.below hW);have e:x.v=.slice x.a bs.length x.c:=by show Value.slice x.a x.n x.c=_;rw[hxn]
  rw[e];exact h
 by_cases he:(⟨r.op,0,0,0,0,0,0,0,0,⟨#[]⟩,⟨#[]⟩,⟨#[]⟩,⟨#[]⟩,⟨#[]⟩⟩:Wp.Rq)=r
 ·have hr:jo r x (Wp.short bs)=(Wp.short bs&&(decide (1<=bs.length)&&decide (bs.length<=10))):=by
   rw[Bool.eq_iff_iff,ku r x _ hw 1 (by decide) hop];have h1:(jX {r with op:=0} (Wp.lay 1)=opR 0)=True:=eq_true ((b5y r).2 he);have h2:((kD x (Wp.lay 1)).n=0)=True:=eq_true (b7Z x);have hl:Wp.lay 1=[14]:=rfl;rw[h1,h2,hl];simp only[List.forall_mem_cons,List.not_mem_nil,false_implies,implies_true,and_true,a5E,hxn,Bool.and_eq_true,decide_eq_true_eq];exact and_comm
  rw[hr];refine b2D r _ x _ w bs hop hxn hb hbs hS (fun W=>a8l r x W hop) (fun W hW=>?_);have h:=hSm W hW;rw[(xu _ _).2 he]at h;exact h
 ·have hf:jo r x (Wp.short bs)=false:=by
   rw[Bool.eq_false_iff];intro h;rw[ku r x _ hw 1 (by decide) hop]at h;exact he ((b5y r).1 h.2.1)
  rw[hf];refine xK r _ x _ w (fun W=>a8l r x W hop) (fun W hW=>?_);have h:=hSm W hW;rw[show qV ⟨r.op,0,0,0,0,0,0,0,0,⟨#[]⟩,⟨#[]⟩,⟨#[]⟩,⟨#[]⟩,⟨#[]⟩⟩ r=false from Bool.eq_false_iff.2 (fun h=>he ((xu _ _).1 h))]at h
  exact h
theorem b0l (r:Wp.Rq)(x:Sl)(bs:List ByteArray)(w:World)(hw:Wf r)(hxn:x.n=bs.length)(h:r.op.toNat≠67/\r.op.toNat≠88/\r.op.toNat≠80/\r.op.toNat≠86/\r.op.toNat≠83/\r.op.toNat≠82/\r.op.toNat≠65/\r.op.toNat≠69/\r.op.toNat≠84/\r.op.toNat≠66):
  zB 102 #[.agg (ja r x.v)] w (.bool (jo r x (Wp.short bs))):=by
 have hf:jo r x (Wp.short bs)=false:=by
  rw[Bool.eq_false_iff];intro hr;obtain⟨i,hi,he,_⟩:=(vj r x _ hw).1 hr;simp only[qT,List.mem_cons,List.not_mem_nil,or_false]at hi;omega
 rw[hf];have ho:=fun W=>a9E r x W r.op.toNat rfl h
 by_cases hx:x.n=0
 ·have hY:∀(W:World) (a:Option Addr),Strs W a []:=fun W a j hj=>absurd hj (by simp)
  have hS:∀W,zB 72 #[.agg (ja ⟨r.op,0,0,0,0,0,0,0,0,⟨#[]⟩,⟨#[]⟩,⟨#[]⟩,⟨#[]⟩,⟨#[]⟩⟩ (Sl.v ⟨none,0,0⟩)),.agg (ja r x.v)] W (.bool (qV ⟨r.op,0,0,0,0,0,0,0,0,⟨#[]⟩,⟨#[]⟩,⟨#[]⟩,⟨#[]⟩,⟨#[]⟩⟩ r)):=fun W=>by
   have h:=a5h ⟨r.op,0,0,0,0,0,0,0,0,⟨#[]⟩,⟨#[]⟩,⟨#[]⟩,⟨#[]⟩,⟨#[]⟩⟩ r none x.a 0 x.c [] W (by decide) (hY W _) (hY W _);have e:x.v=.slice x.a 0 x.c:=by show Value.slice x.a x.n x.c=_;rw[hx]
   rw[e];exact h
  cases hq:qV ⟨r.op,0,0,0,0,0,0,0,0,⟨#[]⟩,⟨#[]⟩,⟨#[]⟩,⟨#[]⟩,⟨#[]⟩⟩ r with
  | true=>
   rw[hq]at hS;exact a7q r _ x _ w r.op.toNat rfl h ho (fun W _=>hS W)
  | false=>
   rw[hq]at hS;exact xK r _ x _ w ho (fun W _=>hS W)
 ·exact xK r _ x _ w ho (fun W _=>a6l _ _ _ _ W (fun e=>hx e.symm))
theorem a1M (r:Wp.Rq)(x:Sl)(bs:List ByteArray)(w:World)(hw:Wf r)(hxn:x.n=bs.length)(hb:bs.length<=8796093022208)(hbs:∀s∈bs,s.size<=maxLen)(hS:Strs w x.a bs):
  zB 102 #[.agg (ja r x.v)] w (.bool (jo r x (Wp.short bs))):=by
 by_cases h67:r.op.toNat=67
 ·exact b5U r x bs w hw h67 hxn
 by_cases h88:r.op.toNat=88
 ·exact b6b r x bs w hw h88 hxn
 by_cases h80:r.op.toNat=80
 ·exact b5W r x bs w hw h80 hxn
 by_cases h86:r.op.toNat=86
 ·exact b6a r x bs w hw h86 hxn
 by_cases h83:r.op.toNat=83
 ·exact b5Y r x bs w hw h83 hxn
 by_cases h82:r.op.toNat=82
 ·exact b5X r x bs w hw h82 hxn
 by_cases h65:r.op.toNat=65
 ·exact b5S r x bs w hw h65 hxn
 by_cases h69:r.op.toNat=69
 ·exact b5V r x bs w hw h69 hxn
 by_cases h84:r.op.toNat=84
 ·exact b5Z r x bs w hw h84 hxn
 by_cases h66:r.op.toNat=66
 ·exact b5T r x bs w hw h66 hxn hb hbs hS
 exact b0l r x bs w hw hxn ⟨h67,h88,h80,h86,h83,h82,h65,h69,h84,h66⟩
theorem nums (r:Wp.Rq)(n:Nat)(b:Bool)(f:Nat)(h:r.fits n b f=true)(h1:f≠1)(h10:f≠10)(h14:f≠14):Wp.least f<=r.measure n f/\r.measure n f<=Wp.most f:=(qd r n b f h1 h10 h14).1 h
theorem a6u (r:Wp.Rq)(x:Sl)(bs:List ByteArray)(w:World)(hw:Wf r)(hxn:x.n=bs.length)(hS:Strs w x.a bs)(hr:jo r x (Wp.short bs)=true):
  zB 103 #[.agg (ja r x.v)] w (.string (qc r x bs)):=by
 obtain⟨i,hi,hop,hall,_,_⟩:=(vj r x _ hw).1 hr;have hp:qc r x bs=⟨(r.op::kW r bs (Wp.lay i)).toArray⟩:=by
  rw[qc,if_pos hr,hop,Nat.add_sub_cancel_left]
 rw[hp];have hf:=List.all_eq_true.1 hall;simp only[qT,List.mem_cons,List.not_mem_nil,or_false]at hi;rcases hi with rfl|rfl|rfl|rfl|rfl|rfl|rfl|rfl|rfl|rfl
 ·have h13:(0:Int)<=(r.han.size:Int)/\(r.han.size:Int)<=255:=nums r _ _ 13 (hf 13 (by decide)) (by decide) (by decide) (by decide);exact a7F r x bs w hop (by omega)
 ·have h14:=(a5E r _ _).1 (hf 14 (by decide));have h:=a7G r x.a x.c bs w hop (by omega) (fun s hs=>by simpa using List.all_eq_true.1 h14.2 s hs) hS;have e:x.v=.slice x.a bs.length x.c:=by show Value.slice x.a x.n x.c=_;rw[hxn]
  rw[e];exact h
 ·have h2:(1:Int)<=r.vis/\r.vis<=1000:=nums r _ _ 2 (hf 2 (by decide)) (by decide) (by decide) (by decide);have h3:(0:Int)<=r.win/\r.win<=1000:=nums r _ _ 3 (hf 3 (by decide)) (by decide) (by decide) (by decide);have h4:(0:Int)<=r.rcv/\r.rcv<=9:=nums r _ _ 4 (hf 4 (by decide)) (by decide) (by decide) (by decide);have h5:(1:Int)<=r.quo/\r.quo<=50:=nums r _ _ 5 (hf 5 (by decide)) (by decide) (by decide) (by decide);exact a3u r x bs w hop (by omega) (by omega) (by omega) (by omega)
 ·have h13:(0:Int)<=(r.han.size:Int)/\(r.han.size:Int)<=255:=nums r _ _ 13 (hf 13 (by decide)) (by decide) (by decide) (by decide);have h7:(0:Int)<=r.tic/\r.tic<=1000:=nums r _ _ 7 (hf 7 (by decide)) (by decide) (by decide) (by decide);exact a7H r x bs w hop (by omega) (by omega)
 ·exact a7I r x bs w hop
 ·have h12:(0:Int)<=(r.att.size:Int)/\(r.att.size:Int)<=8:=nums r _ _ 12 (hf 12 (by decide)) (by decide) (by decide) (by decide);have h6:(1:Int)<=r.mx/\r.mx<=10:=nums r _ _ 6 (hf 6 (by decide)) (by decide) (by decide) (by decide);exact a7J r x bs w hop (by omega) (by omega)
 ·have h9:(1:Int)<=(r.grp.size:Int)/\(r.grp.size:Int)<=8:=nums r _ _ 9 (hf 9 (by decide)) (by decide) (by decide) (by decide);have h10:=(a5F r _ _).1 (hf 10 (by decide));have h11:(0:Int)<=(r.bod.size:Int)/\(r.bod.size:Int)<=255:=nums r _ _ 11 (hf 11 (by decide)) (by decide) (by decide) (by decide);exact a7K r x bs w hop (by omega) (by omega) (by omega)
 ·have h8:(1:Int)<=r.tic/\r.tic<=1000:=nums r _ _ 8 (hf 8 (by decide)) (by decide) (by decide) (by decide);exact a7L r x bs w hop (by omega)
 ·exact a7M r x bs w hop
 ·exact a7N r x bs w hop
theorem a9I (r:Wp.Rq)(x:Sl)(bs:List ByteArray)(w:World)(hw:Wf r)(hxn:x.n=bs.length)(hb:bs.length<=8796093022208)(hbs:∀s∈bs,s.size<=maxLen)(hS:Strs w x.a bs):
  zB 74 #[.agg (ja r x.v)] w (.tuple #[.string (qc r x bs),.int .i64 (xY r x bs)]):=by
 have hinf:=jS;have HR:Hid (∀W,Below w.heap.size w W->zB 102 #[.agg (ja r x.v)] W (.bool (jo r x (Wp.short bs)))):=fun W hW=>a1M r x bs W hw hxn hb hbs (hS.below hW)
 have HWR:Hid (∀W,Below w.heap.size w W->jo r x (Wp.short bs)=true->zB 103 #[.agg (ja r x.v)] W (.string (qc r x bs))):=fun W hW h=>a6u r x bs W hw hxn (hS.below hW) h
 clear hw hxn hb hbs hS
 cases hq:jo r x (Wp.short bs) with
 | false=>
  have HP:=zH (a3i r x bs hq);rw[hq]at HR;clear hq;go_enter Tryz.func74,Tryz.ntmps74;go_wp2_with (refine wpList_load_row rfl 27 _ rfl w.heap.size rfl 27 (ja r x.v) (0,0) _ (heap_alloc_new _ _) Tryz.underlying27 rfl hinf ?_);refine(HR.out _ ((Below.refl _ _).alloc (Nat.le_refl _) _)).mono ?_;rintro e w1 ⟨rfl,hb1⟩;have HB1:Hid (Below w.heap.size w w1):=((Below.refl _ _).alloc (Nat.le_refl _) _).trans (hb1.mono (by simp));clear hb1;go_wp2_with fail;go_ret2;exact⟨a4g HP.out.1.symm HP.out.2.symm,HB1.out⟩
 | true=>
  have HP:=zH ((xT r x bs hq).2);have HWR2:Hid (∀W,Below w.heap.size w W->zB 103 #[.agg (ja r x.v)] W (.string (qc r x bs))):=fun W hW=>HWR.out W hW hq
  rw[hq]at HR;clear hq HWR;generalize qc r x bs=PS at HWR2;go_enter Tryz.func74,Tryz.ntmps74;go_wp2_with (refine wpList_load_row rfl 27 _ rfl w.heap.size rfl 27 (ja r x.v) (0,0) _ (heap_alloc_new _ _) Tryz.underlying27 rfl hinf ?_);refine(HR.out _ ((Below.refl _ _).alloc (Nat.le_refl _) _)).mono ?_;rintro e w1 ⟨rfl,hb1⟩;have HB1:Hid (Below w.heap.size w w1):=((Below.refl _ _).alloc (Nat.le_refl _) _).trans (hb1.mono (by simp));have HK1:Hid (w1.heap[w.heap.size]?=some (.cells (ja r x.v) 27 (0,0))):=by
   show _=_
   rw[hb1.block _ (by simp)];exact heap_alloc_new _ _
  clear hb1;go_wp2_with (refine wpList_load_row rfl 27 _ rfl w.heap.size rfl 27 (ja r x.v) (0,0) _ HK1.out Tryz.underlying27 rfl hinf ?_);refine(HWR2.out _ HB1.out).mono ?_;rintro e w2 ⟨rfl,hb2⟩;have HB2:=zH (HB1.out.trans (hb2.mono HB1.out.size));clear hb2;go_wp2_with fail;go_ret2;exact⟨a4g rfl HP.out.symm,HB2.out⟩
theorem a6N (s:ByteArray)(r:Wp.Rq)(x:Sl)(bs:List ByteArray)(hw:Wf r)(hxn:x.n=bs.length)(hgd:jk s=true->r=(jh s).r/\bs=(jh s).bs):
  (jk s=true/\r=(jh s).r/\bs=(jh s).bs/\qc r x bs=s/\xY r x bs=0)\/(jk s=false/\(xY r x bs=1\/xY r x bs=0/\((qc r x bs).toList != s.toList)=true)):=by
 cases hg:jk s with
 | true=>
  obtain⟨h1,h2⟩:=hgd hg;subst h1 h2;have h3:=a0I s x hg hxn;exact Or.inl ⟨rfl,rfl,rfl,h3.1,h3.2⟩
 | false=>
  refine Or.inr ⟨rfl,?_⟩
  cases hr:jo r x (Wp.short bs) with
  | false=>exact Or.inl (a3i r x bs hr).2
  | true=>
   refine Or.inr ⟨(xT r x bs hr).2,?_⟩;rw[bne_iff_ne];intro e;have he:qc r x bs=s:=b3c.1 (by rw[e];simp);have:=(a7j r x bs hw hxn hr).1;rw[he,hg]at this
   cases this
theorem a1H (s:ByteArray)(w:World)(hs:s.size<=maxLen):
  Cp 71 #[.string s] w fun e w'=>zS s e w w'/\Below w.heap.size w w':=by
 have hinf:=jS;have HG:Hid (∀W,Cp 101 #[.string s] W fun e w'=>b0i s W e w'/\Below W.heap.size W w'):=fun W=>a5L s W hs
 clear hs;go_enter Tryz.func71,Tryz.ntmps71;go_wp2_with fail;refine(HG.out _).mono ?_;rintro e w1 ⟨⟨r,x,bs,rfl,hw,hxn,hbl,hbs,hfs,hgd⟩,hb1⟩;have hrs:Blk w1 w.heap.size (opR 0) ⟨none,0,0⟩:=by
  unfold Blk;rw[hb1.block w.heap.size (by simp),heap_alloc_new];rfl
 have hsz1:w.heap.size<w1.heap.size:=(Array.getElem?_eq_some_iff.1 hrs).1;have HB1:Hid (Below w.heap.size w w1):=((Below.refl _ _).alloc (Nat.le_refl _) _).trans (hb1.mono (by simp));have HRS:Hid ((ke w1 (ja r x.v)).heap[w.heap.size]?=some (.cells (ja (opR 0) (Sl.v ⟨none,0,0⟩)) 27 (0,0))):=((jz w1 _).block _ hsz1).trans hrs;have HFS:Hid (FStrs (w.heap.size+1) w1 x.a bs):=by
  show FStrs _ _ _ _
  have h:=hfs;rw[World.size_alloc]at h;exact h
 have HPR:Hid (∀W,Below (w1.heap.size+1) (ke w1 (ja r x.v)) W->zB 74 #[.agg (ja r x.v)] W (.tuple #[.string (qc r x bs),.int .i64 (xY r x bs)])):=fun W hW=>
  a9I r x bs W hw hxn (by omega) (fun t ht=>by have:=hbs t ht;unfold maxLen;omega) ((HFS.out.strs.below (jz w1 (ja r x.v))).below (by rw[qI];exact hW))
 have HCASE:=zH (a6N s r x bs hw hxn hgd);have HXN:=zH hxn;have HSZ:=zH hsz1;clear hw hxn hbl hbs hfs hgd hb1 hrs hsz1;go_wp2_with (first|(refine wpList_store_row rfl 27 _ _ rfl w1.heap.size (ja r x.v) rfl rfl 27 _ (heap_alloc_new _ _) hinf rfl (jC _ _) ?_)|(refine wpList_load_row rfl 27 _ rfl w1.heap.size rfl 27 (ja r x.v) (0,0) _ (jT _ _) Tryz.underlying27 rfl hinf ?_));refine(HPR.out (ke w1 (ja r x.v)) (Below.refl _ _)).mono ?_;rintro e w2 ⟨rfl,hb2⟩;rw[qI]at hb2;have HB2:Hid (Below w.heap.size w w2):=(HB1.out.trans ((jz w1 (ja r x.v)).mono HB1.out.size)).trans (hb2.mono (by have:=HB1.out.size;omega));have HRS2:Hid (Blk w2 w.heap.size (opR 0) ⟨none,0,0⟩):=(hb2.block _ (by have:=HSZ.out;omega)).trans HRS.out;have HX2:Hid (w2.heap[w1.heap.size]?=some (.cells (ja r x.v) 27 (0,0))):=(hb2.block _ (by omega)).trans (jT _ _);have HF2:Hid (∀C,FStrs w.heap.size (w2.setRow w.heap.size C) x.a bs):=fun C j hj=>by
  obtain⟨b,o,ha,hbb,hc⟩:=HFS.out j hj;have hbl:b<w1.heap.size:=World.block_lt_of_cell? _ _ hc;have e1:(w2.setRow w.heap.size C).heap[b]?=w1.heap[b]?:=(setRow_other _ _ b _ (by omega)).trans ((hb2.block b (by omega)).trans ((jz w1 _).block b hbl));exact⟨b,o,ha,by omega,(World.cell?_of_block (a:=⟨b,o+j,none⟩) e1).trans hc⟩
 clear hb2;rcases HCASE.out with ⟨hg,h1,h2,h3,h4⟩|⟨hg,h3|⟨h3,h4⟩⟩
 ·rw[h3,h4];have HO:Hid (jk s=true/\r=(jh s).r/\bs=(jh s).bs):=⟨hg,h1,h2⟩;clear HCASE h1 h2 h3 h4 hg;go_wp2_with (first|(refine wpList_load_row rfl 27 _ rfl w1.heap.size rfl 27 (ja r x.v) (0,0) _ HX2.out Tryz.underlying27 rfl hinf ?_)|(refine wpList_store_row rfl 27 _ _ rfl w.heap.size _ rfl rfl 27 _ HRS2.out hinf rfl (jC _ _) ?_));refine bodyPost_ret (kP (p:=2) (q:=3) rfl _ _ w.heap.size 27 _ (0,0) _ rfl (HRS2.out.row r x) Tryz.underlying27 rfl hinf) rfl ⟨Or.inl ⟨HO.out.1,x,?_,?_,?_⟩,jD HB2.out (Nat.le_refl _) _⟩
  ·rw[<-HO.out.2.1];rfl
  ·rw[<-HO.out.2.2];exact HXN.out
  ·rw[<-HO.out.2.2];exact HF2.out _
 ·rw[h3];have HO:Hid (jk s=false):=hg;generalize qc r x bs=T;clear HCASE h3 hg;go_wp2_with (refine wpList_store_row rfl 27 _ _ rfl w.heap.size (ja (opR 0) (Sl.v ⟨none,0,0⟩)) rfl rfl 27 _ HRS2.out hinf rfl (jC _ _) ?_);exact bodyPost_ret (kP (p:=2) (q:=3) rfl _ _ w.heap.size 27 _ (0,0) _ rfl (HRS2.out.row (opR 0) ⟨none,0,0⟩) Tryz.underlying27 rfl hinf) rfl ⟨Or.inr ⟨HO.out,rfl⟩,jD HB2.out (Nat.le_refl _) _⟩
 ·rw[h3];have HO:Hid (jk s=false):=hg;obtain⟨T,HT⟩:∃T,Hid (qc r x bs=T):=⟨_,rfl⟩;rw[HT.out]at h4 ⊢;have h5:¬T.toList=s.toList:=bne_iff_ne.1 h4;have h6:(T.toList == s.toList)=false:=beq_eq_false_iff_ne.2 h5;clear HCASE h3 hg HPR;go_wp2_with (refine wpList_store_row rfl 27 _ _ rfl w.heap.size (ja (opR 0) (Sl.v ⟨none,0,0⟩)) rfl rfl 27 _ HRS2.out hinf rfl (jC _ _) ?_);exact bodyPost_ret (kP (p:=2) (q:=3) rfl _ _ w.heap.size 27 _ (0,0) _ rfl (HRS2.out.row (opR 0) ⟨none,0,0⟩) Tryz.underlying27 rfl hinf) rfl ⟨Or.inr ⟨HO.out,rfl⟩,jD HB2.out (Nat.le_refl _) _⟩
end Go.Proofs.YtbdobaapadlcjaaGreatDoor.Ref
