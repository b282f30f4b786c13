/- An evaluator of code, its soundness, and what functions of the program do. Condition: none; a lemma text. -/
import Derived.Test.YtkclhciahokifaaCaG

namespace Go.Proofs.Ytkclhciahokifaa
open _root_.Go.Proofs.Try
open Go.Abs
set_option maxRecDepth 100000
noncomputable section
def zuF(f:M)(x:C)(g:Oc->Option (Int)):Prop:=cmC x=true/\∀(f' m:M) (a0:Oc) (r:Int) (Q:V->M->Prop),Sub f f'->Pre f' m->g a0=some r->(∀m',Ext m m'->Q (.c (.int .i64 r)) m')->zmw prog tbl [.agg 6 [(.int .i64 a0.need),(.int .i64 a0.calls.p0),(.int .i64 a0.calls.p1),(.int .i64 a0.calls.p2),(.int .i64 a0.calls.p3),(.int .i64 a0.calls.p4)]] x m Q
theorem zuF.sub{f m:M}{x:C}{g:Oc->Option (Int)}(h:zuF f x g)(s:Sub f m):zuF m x g:=⟨h.1,fun f' m' a0 r Q hs=>h.2 f' m' a0 r Q (s.trans hs)⟩
def zuG(f:M)(x:C)(g:Mb->Option (Bool)):Prop:=∀(f' m:M) (a0:Mb) (r:Bool) (Q:V->M->Prop),Sub f f'->Pre f' m->g a0=some r->(∀m',Ext m m'->Q (.c (.bool r)) m')->zmw prog tbl [.agg 3 [(.int .i64 a0.Sum),(.int .i64 a0.Class),(.int .i64 a0.Most)]] x m Q
theorem zuG.sub{f m:M}{x:C}{g:Mb->Option (Bool)}(h:zuG f x g)(s:Sub f m):zuG m x g:=fun f' m' a0 r Q hs=>h f' m' a0 r Q (s.trans hs)
def zuH(f:M)(x:C)(g:Rg->Option (Bool)):Prop:=∀(f' m:M) (a0:Rg) (r:Bool) (Q:V->M->Prop),Sub f f'->Pre f' m->g a0=some r->(∀m',Ext m m'->Q (.c (.bool r)) m')->zmw prog tbl [.agg 2 [(.int .i64 a0.Lo),(.int .i64 a0.Hi)]] x m Q
theorem zuH.sub{f m:M}{x:C}{g:Rg->Option (Bool)}(h:zuH f x g)(s:Sub f m):zuH m x g:=fun f' m' a0 r Q hs=>h f' m' a0 r Q (s.trans hs)
def zuI(f:M)(x:C)(g:Int->Option (Bool)):Prop:=∀(f' m:M) (a0:Int) (r:Bool) (Q:V->M->Prop),Sub f f'->Pre f' m->g a0=some r->(∀m',Ext m m'->Q (.c (.bool r)) m')->zmw prog tbl [.c (.int .i64 a0)] x m Q
theorem zuI.sub{f m:M}{x:C}{g:Int->Option (Bool)}(h:zuI f x g)(s:Sub f m):zuI m x g:=fun f' m' a0 r Q hs=>h f' m' a0 r Q (s.trans hs)
def zuJ(f:M)(x:C)(g:Mb->Option (Int)):Prop:=∀(f' m:M) (a0:Mb) (r:Int) (Q:V->M->Prop),Sub f f'->Pre f' m->g a0=some r->(∀m',Ext m m'->Q (.c (.int .i64 r)) m')->zmw prog tbl [.agg 3 [(.int .i64 a0.Sum),(.int .i64 a0.Class),(.int .i64 a0.Most)]] x m Q
theorem zuJ.sub{f m:M}{x:C}{g:Mb->Option (Int)}(h:zuJ f x g)(s:Sub f m):zuJ m x g:=fun f' m' a0 r Q hs=>h f' m' a0 r Q (s.trans hs)
theorem zuK:KL prog 152 Sh:=zqO (n:=2) (ks:=[.int .i64,.int .i64]) (by kernel_rfl) (by kernel_rfl) (cs:=fun k=>[.int .i64 k.pence,.int .i64 k.remainder]) (fun _=>rfl) fun a b fa fb=>⟨_,_,(zqN (zqK fa.1 fb.1) (zqN (zqK fa.2.1 fb.2.1) zqM)),⟨fun h=>by obtain⟨apence,aremainder⟩:=a; obtain⟨bpence,bremainder⟩:=b; simp_all,fun h=>by subst h; exact⟨rfl,rfl,trivial⟩⟩⟩
theorem zuL:∀a b:Sh,MK.enc a=MK.enc b->a=b:=fun a b h=>by
 obtain⟨apence,aremainder⟩:=a; obtain⟨bpence,bremainder⟩:=b
 injection h with h1 h2
 simp only[List.cons.injEq,C.int.injEq,true_and,and_true] at h2
 simp_all
theorem zuM:TA prog 28 1:=⟨3,by kernel_rfl,by kernel_rfl,by kernel_rfl⟩
theorem zuN:TA prog 37 2:=⟨38,by kernel_rfl,by kernel_rfl,by kernel_rfl⟩
theorem zuO{n:Int}{low:Int}{high:Int}{m f:M}{Q:V->M->Prop}{rz:Bool}(hS:Pre f m)(hp:zr1 n low high=some rz)(hq:∀m',Ext m m'->Q (.c (.bool rz)) m'):Wc prog tbl 33 [.c (Il n),.c (Il low),.c (Il high)] m Q:=by
 have d:=hS.st;obtain⟨e,_⟩:=zrU;refine w33 ?_;unfold zr1 at hp;refine ifd hp (fun a hp=>?_) fun a hp=>?_
 ·obtain rfl:=oi hp;exact hq _ d.ext'
 obtain rfl:=oi hp;exact hq _ d.ext'
theorem zuP{r:Rg}{m f:M}{Q:V->M->Prop}{rz:Bool}(hS:Pre f m)(hp:zr2 r=some rz)(hq:∀m',Ext m m'->Q (.c (.bool rz)) m'):Wc prog tbl 86 [.agg 2 [Il r.Lo,Il r.Hi]] m Q:=by
 have l:=hS.st;obtain⟨n,_⟩:=zrU;refine w86 ?_;unfold zr2 at hp;intro q e;obtain⟨o,d,p,a⟩:=l.blk e n 1;refine⟨trivial,_,a.bk.rc rfl,?_⟩;refine ifd hp (fun g hp=>?_) fun g hp=>?_; rotate_left
 ·obtain rfl:=oi hp;exact hq _ d.ext'
 refine⟨trivial,_,a.bk.rc rfl,trivial,_,a.bk.rc rfl,?_⟩;refine ifd hp (fun h hp=>?_) fun h hp=>?_; rotate_left
 ·obtain rfl:=oi hp;exact hq _ d.ext'
 refine⟨trivial,_,a.bk.rc rfl,?_⟩;refine ifd hp (fun i hp=>?_) fun i hp=>?_; rotate_left
 ·obtain rfl:=oi hp;exact hq _ d.ext'
 refine⟨trivial,_,a.bk.rc rfl,trivial,_,a.bk.rc rfl,?_⟩;refine gdi hp fun j hp=>?_;obtain rfl:=oi hp;exact hq _ d.ext'
theorem zuQ{s:Soc}{ca100 ca101:C}{m f:M}{Q:V->M->Prop}{rz:Int}(hS:Pre f m)(ha100:Sl f ca100 s.Members)(ha101:Sl f ca101 s.Losses)(hp:zr4 s=some rz)(hq:∀m',Ext m m'->Q (.c (Il rz)) m'):Wc prog tbl 64 [.agg 5 [ca100,ca101,Il s.Treaty.Lo,Il s.Treaty.Hi,Il s.Reserve]] m Q:=by
 have S0:=hS.st;obtain⟨τ0,_⟩:=zrU;refine w64 ?_;unfold zr4 at hp;intro m0 ja;obtain⟨y,e,pb,g⟩:=S0.blk ja τ0 1;refine⟨trivial,_,g.bk.rc rfl,ha100.isSl,?_⟩
 try rw[ha100.slLen]
 refine ifd hp (fun ka hp=>?_) fun ka hp=>?_
 ·obtain rfl:=oi hp;exact hq _ e.ext'
 refine⟨trivial,_,g.bk.rc rfl,ha101.isSl,?_⟩
 try rw[ha101.slLen]
 refine ifd hp (fun la hp=>?_) fun la hp=>?_
 ·obtain rfl:=oi hp;exact hq _ e.ext'
 refine⟨trivial,_,g.bk.rc rfl,ha100.isSl,?_⟩
 try rw[ha100.slLen]
 refine ifd hp (fun ma hp=>?_) fun ma hp=>?_
 ·obtain rfl:=oi hp;exact hq _ e.ext'
 refine⟨trivial,_,_,g.bk.rp (k:=2) (j:=2) rfl (by omega),?_⟩;obtain⟨qb,na,hp⟩:=zqp hp;refine zuP (r:=s.Treaty) e.pre  na fun m7 oa=>?_;obtain⟨z,pa⟩:=e.call oa y;have P:=g.k pa;refine⟨_,rfl,?_⟩;refine zq0 hp (fun qa hp=>?_) fun qa hp=>?_
 ·obtain rfl:=oi hp;exact hq _ z.ext'
 refine⟨trivial,_,P.bk.rc rfl,?_⟩;obtain⟨rb,sa,hp⟩:=zqp hp;refine zuO (n:=s.Reserve) (low:=(0:Int)) (high:=(100000:Int)) z.pre  sa fun wb ta=>?_;obtain⟨S,ua⟩:=z.call ta y;have a:=P.k ua;refine⟨_,rfl,?_⟩;refine zq0 hp (fun va hp=>?_) fun va hp=>?_
 ·obtain rfl:=oi hp;exact hq _ S.ext'
 intro hb wa
 have hgo:∀(o:Nat) (G:Int) (I:Int) (u:M) (h:Nat->Nat),St (Fm.of m) f f u->Lb (Fm.of m) f h u 1 m.nxt 5 [ca100,ca101,Il s.Treaty.Lo,Il s.Treaty.Hi,Il s.Reserve]->zr3 s o G I=some rz->hb [.c (Il G),.c (Il I)] u:=by
  intro o
  induction o with
  | zero=>intro G I u h p a hp; cases hp
  | succ o fa=>
   intro G I u h p a hp;refine wa _ _ _ ?_;rw[zr3] at hp;refine⟨trivial,_,a.bk.rc rfl,ha100.isSl,?_⟩
   try rw[ha100.slLen]
   refine ifd hp (fun xa hp=>?_) fun xa hp=>?_; rotate_left
   ·intro ib ya
    have hgo:∀(q:Nat) (T:Int) (J:Int) (w:M) (i:Nat->Nat),St (Fm.of m) f f w->Lb (Fm.of m) f i w 1 m.nxt 5 [ca100,ca101,Il s.Treaty.Lo,Il s.Treaty.Hi,Il s.Reserve]->prFault_L1 s q J=some rz->ib [.c (Il T),.c (Il J)] w:=by
     intro q
     induction q with
     | zero=>intro T J w i l a hp; cases hp
     | succ q ga=>
      intro T J w i l a hp;refine ya _ _ _ ?_;rw[prFault_L1] at hp;refine⟨trivial,_,a.bk.rc rfl,ha101.isSl,?_⟩
      try rw[ha101.slLen]
      refine ifd hp (fun za hp=>?_) fun za hp=>?_; rotate_left
      ·obtain rfl:=oi hp;exact hq _ l.ext'
      refine⟨trivial,_,a.bk.rc rfl,?_⟩;obtain⟨Aa,A,hp⟩:=zqp hp;obtain⟨jb,ha,N,A⟩:=zqj A;obtain⟨_,Ba⟩:=zrV ha101 A;refine⟨jb,ha,(by first|exact N|(rw[ha101.slLen];exact N)),_,_,(Ba _ l.sub).1,?_⟩;obtain⟨sb,Ca,hp⟩:=zqp hp;refine zuP (r:=Aa) l.pre  Ca fun xb Da=>?_;obtain⟨Y,Ea⟩:=l.call Da i;have Fa:=a.k Ea;refine⟨_,rfl,?_⟩;refine zq0 hp (fun Ga hp=>?_) fun Ga hp=>?_
      ·obtain rfl:=oi hp;exact hq _ Y.ext'
      refine gdi hp fun Ha hp=>?_;exact ga _ _ _ i Y Fa hp
    exact hgo _ _ _ _ h p a hp
   refine⟨trivial,_,a.bk.rc rfl,?_⟩;obtain⟨d,B,hp⟩:=zqp hp;obtain⟨kb,ia,O,B⟩:=zqj B;obtain⟨_,Ia⟩:=zrW ha100 B;refine⟨kb,ia,(by first|exact O|(rw[ha100.slLen];exact O)),_,_,_,(Ia _ p.sub).1,?_⟩;intro yb Ja;obtain⟨t,Ka,La,Ma⟩:=p.blk Ja h 2;have Na:=a.k La;obtain⟨Oa,Pa,Z,Qa,aa⟩:=Ma.sto Ka [Il d.Sum,Il d.Class,Il d.Most];have Ra:=Na.k Qa;refine⟨Oa,Pa,?_⟩;refine⟨trivial,_,aa.bk.rc rfl,?_⟩;obtain⟨tb,Sa,hp⟩:=zqp hp;refine zuO (n:=d.Sum) (low:=(1:Int)) (high:=(1000:Int)) Z.pre  Sa fun zb Ta=>?_;obtain⟨D,ba⟩:=Z.call Ta t;have Ua:=Ra.k ba;have ca:=aa.k ba;refine⟨_,rfl,?_⟩;refine zq0 hp (fun Va hp=>?_) fun Va hp=>?_
   ·obtain rfl:=oi hp;exact hq _ D.ext'
   refine⟨trivial,_,ca.bk.rc rfl,?_⟩;obtain⟨ub,Wa,hp⟩:=zqp hp;refine zuO (n:=d.Class) (low:=(1:Int)) (high:=(10:Int)) D.pre  Wa fun Ab Xa=>?_;obtain⟨F,da⟩:=D.call Xa t;have Ya:=Ua.k da;have Za:=ca.k da;refine⟨_,rfl,?_⟩;refine zq0 hp (fun ab hp=>?_) fun ab hp=>?_
   ·obtain rfl:=oi hp;exact hq _ F.ext'
   refine⟨trivial,_,Za.bk.rc rfl,?_⟩;obtain⟨vb,bb,hp⟩:=zqp hp;refine zuO (n:=d.Most) (low:=(0:Int)) (high:=(100000:Int)) F.pre  bb fun Bb cb=>?_;obtain⟨ea,db⟩:=F.call cb t;have eb:=Ya.k db;refine⟨_,rfl,?_⟩;refine zq0 hp (fun fb hp=>?_) fun fb hp=>?_
   ·obtain rfl:=oi hp;exact hq _ ea.ext'
   refine gdi hp fun gb hp=>?_;exact fa _ _ _ t ea eb hp
 exact hgo _ _ _ _ y S a hp
theorem zuR{a:List Int}{b:List Int}{ca100 ca200:C}{m f:M}{Q:V->M->Prop}{rz:Bool}(hS:Pre f m)(ha100:Sl f ca100 a)(ha200:Sl f ca200 b)(hp:zsk a b=some rz)(hq:∀m',Ext m m'->Q (.c (.bool rz)) m'):Wc prog tbl 73 [.c ca100,.c ca200] m Q:=by
 have T:=hS.st;obtain⟨Y,_⟩:=zrU;refine w73 ?_;unfold zsk at hp;intro Z I
 have hgo:∀(e:Nat) (F:Bool) (w:Int) (y:M) (g:Nat->Nat),St (Fm.of m) f f y->zsj a b e w=some rz->Z [.c (.bool F),.c (Il w)] y:=by
  intro e
  induction e with
  | zero=>intro F w y g d hp; cases hp
  | succ e G=>
   intro F w y g d hp;refine I _ _ _ ?_;rw[zsj] at hp;refine⟨ha100.isSl,?_⟩
   try rw[ha100.slLen]
   refine ifd hp (fun z hp=>?_) fun z hp=>?_; rotate_left
   ·refine⟨ha100.isSl,ha200.isSl,?_⟩
    try rw[ha100.slLen]
    try rw[ha200.slLen]
    obtain rfl:=oi hp;exact hq _ d.ext'
   refine⟨ha200.isSl,?_⟩
   try rw[ha200.slLen]
   refine ifd hp (fun A hp=>?_) fun A hp=>?_; rotate_left
   ·refine⟨ha100.isSl,ha200.isSl,?_⟩
    try rw[ha100.slLen]
    try rw[ha200.slLen]
    obtain rfl:=oi hp;exact hq _ d.ext'
   obtain⟨N,h,hp⟩:=zqp hp;obtain⟨n4,r,n,h⟩:=zqj h;refine⟨n4,r,(by first|exact n|(rw[ha100.slLen];exact n)),_,(ha100.rdI h d.sub),?_⟩;obtain⟨O,i,hp⟩:=zqp hp;obtain⟨n6,s,o,i⟩:=zqj i;refine⟨n6,s,(by first|exact o|(rw[ha200.slLen];exact o)),_,(ha200.rdI i d.sub),?_⟩;refine zqY hp (fun B hp=>?_) fun B hp=>?_; rotate_left
   ·refine gdi hp fun D hp=>?_;exact G _ _ _ g d hp
   obtain⟨P,j,hp⟩:=zqp hp;obtain⟨n8,t,p,j⟩:=zqj j;refine⟨n8,t,(by first|exact p|(rw[ha100.slLen];exact p)),_,(ha100.rdI j d.sub),?_⟩;obtain⟨S,l,hp⟩:=zqp hp;obtain⟨J,u,q,l⟩:=zqj l;refine⟨J,u,(by first|exact q|(rw[ha200.slLen];exact q)),_,(ha200.rdI l d.sub),?_⟩;obtain rfl:=oi hp;exact hq _ d.ext'
 exact hgo _ _ _ _ Y T hp
theorem zuS{a:List Int}{b:List Int}{ca100 ca200:C}{m f:M}{Q:V->M->Prop}{rz:Bool}(hS:Pre f m)(ha100:Sl f ca100 a)(ha200:Sl f ca200 b)(hp:zsm a b=some rz)(hq:∀m',Ext m m'->Q (.c (.bool rz)) m'):Wc prog tbl 36 [.c ca100,.c ca200] m Q:=by
 have o:=hS.st;obtain⟨p,_⟩:=zrU;refine w36 ?_;unfold zsm at hp;refine⟨ha100.isSl,ha200.isSl,?_⟩
 try rw[ha100.slLen]
 try rw[ha200.slLen]
 refine ifd hp (fun e hp=>?_) fun e hp=>?_; rotate_left
 ·obtain rfl:=oi hp;exact hq _ o.ext'
 obtain⟨q,g,hp⟩:=zqp hp;refine zuR (a:=a) (b:=b) o.pre ha100 ha200 g fun u h=>?_;obtain⟨d,r⟩:=o.call h p;refine⟨_,rfl,?_⟩;refine zq0 hp (fun i hp=>?_) fun i hp=>?_; rotate_left
 ·obtain rfl:=oi hp;exact hq _ d.ext'
 obtain⟨s,j,hp⟩:=zqp hp;refine zuR (a:=b) (b:=a) d.pre ha200 ha100 j fun w l=>?_;obtain⟨n,t⟩:=d.call l p;refine⟨_,rfl,?_⟩;obtain rfl:=oi hp;exact hq _ n.ext'
theorem zuT{r:Rg}{n:Int}{m f:M}{Q:V->M->Prop}{rz:Bool}(hS:Pre f m)(hp:zsn r n=some rz)(hq:∀m',Ext m m'->Q (.c (.bool rz)) m'):Wc prog tbl 67 [.agg 2 [Il r.Lo,Il r.Hi],.c (Il n)] m Q:=by
 have j:=hS.st;obtain⟨l,_⟩:=zrU;refine w67 ?_;unfold zsn at hp;intro o e;obtain⟨h,a,i,d⟩:=j.blk e l 1;refine⟨trivial,_,d.bk.rc rfl,?_⟩;refine ifd hp (fun g hp=>?_) fun g hp=>?_; rotate_left
 ·obtain rfl:=oi hp;exact hq _ a.ext'
 refine⟨trivial,_,d.bk.rc rfl,?_⟩;obtain rfl:=oi hp;exact hq _ a.ext'
theorem zuU{n:Int}{m f:M}{Q:V->M->Prop}{rz:Bool}(hS:Pre f m)(hp:zso n=some rz)(hq:∀m',Ext m m'->Q (.c (.bool rz)) m'):Wc prog tbl 91 [.c (Il n)] m Q:=by
 have g:=hS.st;obtain⟨j,_⟩:=zrU;refine w91 ?_;unfold zso at hp;obtain⟨h,a,hp⟩:=zqp hp;refine zuT (r:=({ Lo:=(0:Int),Hi:=(100000:Int) }:Rg)) (n:=n) g.pre  a fun l d=>?_;obtain⟨e,i⟩:=g.call d j;refine⟨_,rfl,?_⟩;obtain rfl:=oi hp;exact hq _ e.ext'
theorem zuV{r:Rg}{m f:M}{Q:V->M->Prop}{rz:Bool}(hS:Pre f m)(hp:zsp r=some rz)(hq:∀m',Ext m m'->Q (.c (.bool rz)) m'):Wc prog tbl 90 [.agg 2 [Il r.Lo,Il r.Hi]] m Q:=by
 have G:=hS.st;obtain⟨I,_⟩:=zrU;refine w90 ?_;unfold zsp at hp;intro J l;obtain⟨g,h,B,i⟩:=G.blk l I 1;refine⟨trivial,_,i.bk.rc rfl,?_⟩;obtain⟨D,o,hp⟩:=zqp hp;refine zuU (n:=r.Lo) h.pre  o fun N p=>?_;obtain⟨d,q⟩:=h.call p g;have j:=i.k q;refine⟨_,rfl,?_⟩;refine zqZ hp (fun s hp=>?_) fun s hp=>?_; rotate_left
 ·obtain rfl:=oi hp;exact hq _ d.ext'
 refine⟨trivial,_,j.bk.rc rfl,?_⟩;obtain⟨F,t,hp⟩:=zqp hp;refine zuU (n:=r.Hi) d.pre  t fun O u=>?_;obtain⟨e,w⟩:=d.call u g;have a:=j.k w;refine⟨_,rfl,?_⟩;refine zqZ hp (fun y hp=>?_) fun y hp=>?_; rotate_left
 ·obtain rfl:=oi hp;exact hq _ e.ext'
 refine⟨trivial,_,a.bk.rc rfl,trivial,_,a.bk.rc rfl,?_⟩;refine ifd hp (fun z hp=>?_) fun z hp=>?_; rotate_left
 ·obtain rfl:=oi hp;exact hq _ e.ext'
 refine⟨trivial,_,a.bk.rc rfl,trivial,_,a.bk.rc rfl,?_⟩;refine gdi hp fun A hp=>?_;obtain rfl:=oi hp;exact hq _ e.ext'
theorem zuW{l:Lm}{m_:Mb}{m f:M}{Q:V->M->Prop}{rz:Bool}(hS:Pre f m)(hp:zsq l m_=some rz)(hq:∀m',Ext m m'->Q (.c (.bool rz)) m'):Wc prog tbl 88 [.agg 6 [Il l.su.Lo,Il l.su.Hi,Il l.cl.Lo,Il l.cl.Hi,Il l.mo.Lo,Il l.mo.Hi],.agg 3 [Il m_.Sum,Il m_.Class,Il m_.Most]] m Q:=by
 have S0:=hS.st;obtain⟨τ0,_⟩:=zrU;refine w88 ?_;unfold zsq at hp;intro m0 t;obtain⟨u,w,Y,y⟩:=S0.blk t τ0 1;intro m1 z;obtain⟨a,g,A,h⟩:=w.blk z u 2;have i:=y.k A;refine⟨trivial,_,_,i.bk.rp (k:=0) (j:=2) rfl (by omega),trivial,_,h.bk.rc rfl,?_⟩;obtain⟨Z,B,hp⟩:=zqp hp;refine zuT (r:=l.su) (n:=m_.Sum) g.pre  B fun m6 D=>?_;obtain⟨d,o⟩:=g.call D a;have p:=i.k o;have q:=h.k o;refine⟨_,rfl,?_⟩;refine zqZ hp (fun F hp=>?_) fun F hp=>?_; rotate_left
 ·obtain rfl:=oi hp;exact hq _ d.ext'
 refine⟨trivial,_,_,p.bk.rp (k:=2) (j:=2) rfl (by omega),trivial,_,q.bk.rc rfl,?_⟩;obtain⟨aa,G,hp⟩:=zqp hp;refine zuT (r:=l.cl) (n:=m_.Class) d.pre  G fun fa I=>?_;obtain⟨e,s⟩:=d.call I a;have J:=p.k s;have N:=q.k s;refine⟨_,rfl,?_⟩;refine zqZ hp (fun O hp=>?_) fun O hp=>?_; rotate_left
 ·obtain rfl:=oi hp;exact hq _ e.ext'
 refine⟨trivial,_,_,J.bk.rp (k:=4) (j:=2) rfl (by omega),trivial,_,N.bk.rc rfl,?_⟩;obtain⟨ba,P,hp⟩:=zqp hp;refine zuT (r:=l.mo) (n:=m_.Most) e.pre  P fun ga S=>?_;obtain⟨T,ca⟩:=e.call S a;refine⟨_,rfl,?_⟩;obtain rfl:=oi hp;exact hq _ T.ext'
theorem zuX{x:Mb}{passes:Mb->Option (Bool)}{b0:Nat}{cb000:C}{m f:M}{Q:V->M->Prop}{rz:Bool}(hS:Pre f m)(hb0:Bk f b0 1 [cb000])(hb000:zuG f cb000 passes)(hp:zsr x passes=some rz)(hq:∀m',Ext m m'->Q (.c (.bool rz)) m'):Wc prog tbl 108 [.agg 3 [Il x.Sum,Il x.Class,Il x.Most],.c (.ptr b0 0)] m Q:=by
 have p:=hS.st;obtain⟨q,_⟩:=zrU;refine ztW ?_;unfold zsr at hp;intro r d;obtain⟨e,a,l,g⟩:=p.blk d q 1;refine⟨_,(hb0.sub a.sub).rc rfl,_,_,_,g.bk.ra,?_⟩;obtain⟨n,h,hp⟩:=zqp hp;refine hb000 _ _ _ _ _ (Sub.refl _) a.pre  h fun s i=>?_;obtain⟨j,o⟩:=a.call i e;refine⟨_,rfl,?_⟩;obtain rfl:=oi hp;exact hq _ j.ext'
theorem zuY{l:List Mb}{p:Mb->Option (Bool)}{ca100 ca200:C}{m f:M}{Q:V->M->Prop}{rz:Int}(hS:Pre f m)(ha100:Sl f ca100 l)(ha200:zuG f ca200 p)(hp:zst l p=some rz)(hq:∀m',Ext m m'->Q (.c (Il rz)) m'):Wc prog tbl 121 [.c ca100,.c ca200] m Q:=by
 have G:=hS.st;obtain⟨I,_⟩:=zrU;refine zuh ?_;unfold zst at hp;refine⟨ha100.isSl,?_⟩;intro J A
 have hgo:∀(d:Nat) (y:Int) (n:Int) (o:M) (e:Nat->Nat),St (Fm.of m) f f o->zss l p d n=some rz->J [.c (Il y),.c (Il n)] o:=by
  intro d
  induction d with
  | zero=>intro y n o e a hp; cases hp
  | succ d z=>
   intro y n o e a hp;refine A _ _ _ ?_;rw[zss] at hp
   try rw[ha100.slLen]
   refine ifd hp (fun q hp=>?_) fun q hp=>?_; rotate_left
   ·obtain rfl:=oi hp;exact hq _ a.ext'
   obtain⟨B,g,hp⟩:=zqp hp;obtain⟨N,j,h,g⟩:=zqj g;obtain⟨_,r⟩:=zrW ha100 g;refine⟨N,j,(by first|exact h|(rw[ha100.slLen];exact h)),_,_,_,(r _ a.sub).1,?_⟩;obtain⟨D,s,hp⟩:=zqp hp;refine ha200 _ _ _ _ _ (Sub.refl _) a.pre  s fun O t=>?_;obtain⟨i,F⟩:=a.call t e;refine⟨_,rfl,?_⟩;refine zqZ hp (fun u hp=>?_) fun u hp=>?_
   ·obtain rfl:=oi hp;exact hq _ i.ext'
   refine gdi hp fun w hp=>?_;exact z _ _ _ e i hp
 exact hgo _ _ _ _ I G hp
theorem zuZ{l:List Mb}{p:Mb->Option (Bool)}{ca100 ca200:C}{m f:M}{Q:V->M->Prop}{rz:Bool}(hS:Pre f m)(ha100:Sl f ca100 l)(ha200:zuG f ca200 p)(hp:zsu l p=some rz)(hq:∀m',Ext m m'->Q (.c (.bool rz)) m'):Wc prog tbl 107 [.c ca100,.c ca200] m Q:=by
 have g:=hS.st;obtain⟨j,_⟩:=zrU;refine zub ?_;unfold zsu at hp;obtain⟨h,a,hp⟩:=zqp hp;refine zuY (l:=l) (p:=p) g.pre ha100 ha200 a fun n d=>?_;obtain⟨e,i⟩:=g.call d j;refine⟨_,rfl,?_⟩;obtain rfl:=oi hp;exact hq _ e.ext'
theorem zu0{l:List Mb}{passes:Mb->Option (Bool)}{ca100 ca200:C}{m f:M}{Q:V->M->Prop}{rz:Bool}(hS:Pre f m)(ha100:Sl f ca100 l)(ha200:zuG f ca200 passes)(hp:zsv l passes=some rz)(hq:∀m',Ext m m'->Q (.c (.bool rz)) m'):Wc prog tbl 87 [.c ca100,.c ca200] m Q:=by
 have A:=hS.st;obtain⟨B,_⟩:=zrU;refine w87 ?_;unfold zsv at hp;intro D i;obtain⟨j,n,w,o⟩:=A.blk i B 1;obtain⟨q,d,e,g⟩:=o.freeze n
 have h:zuG q ((C.fn (Fn.func 108) [] [(W.c (C0.ptr m.nxt 0))])) (fun a=>zsr a passes):=by
  intro f' m' a r Q hs hpre  hg hq;exact zuX hpre (g.sub hs) ((ha200.sub e.fs).sub hs) hg hq
 obtain⟨y,s,hp⟩:=zqp hp;refine zuZ (l:=l) (p:=(fun a=>zsr a passes)) d.pre (ha100.sub e.fs) h s fun F t=>?_;obtain⟨u,z⟩:=d.call t j;refine⟨_,rfl,?_⟩;obtain rfl:=oi hp;exact hq _ u.ext'
theorem zu1{x:Rg}{passes:Rg->Option (Bool)}{b0:Nat}{cb000:C}{m f:M}{Q:V->M->Prop}{rz:Bool}(hS:Pre f m)(hb0:Bk f b0 1 [cb000])(hb000:zuH f cb000 passes)(hp:zsw x passes=some rz)(hq:∀m',Ext m m'->Q (.c (.bool rz)) m'):Wc prog tbl 110 [.agg 2 [Il x.Lo,Il x.Hi],.c (.ptr b0 0)] m Q:=by
 have p:=hS.st;obtain⟨q,_⟩:=zrU;refine ztX ?_;unfold zsw at hp;intro r d;obtain⟨e,a,l,g⟩:=p.blk d q 1;refine⟨_,(hb0.sub a.sub).rc rfl,_,_,g.bk.ra,?_⟩;obtain⟨n,h,hp⟩:=zqp hp;refine hb000 _ _ _ _ _ (Sub.refl _) a.pre  h fun s i=>?_;obtain⟨j,o⟩:=a.call i e;refine⟨_,rfl,?_⟩;obtain rfl:=oi hp;exact hq _ j.ext'
theorem zu2{l:List Rg}{p:Rg->Option (Bool)}{ca100 ca200:C}{m f:M}{Q:V->M->Prop}{rz:Int}(hS:Pre f m)(ha100:Sl f ca100 l)(ha200:zuH f ca200 p)(hp:zsy l p=some rz)(hq:∀m',Ext m m'->Q (.c (Il rz)) m'):Wc prog tbl 122 [.c ca100,.c ca200] m Q:=by
 have G:=hS.st;obtain⟨I,_⟩:=zrU;refine zt4 ?_;unfold zsy at hp;refine⟨ha100.isSl,?_⟩;intro J A
 have hgo:∀(d:Nat) (y:Int) (n:Int) (o:M) (e:Nat->Nat),St (Fm.of m) f f o->zsx l p d n=some rz->J [.c (Il y),.c (Il n)] o:=by
  intro d
  induction d with
  | zero=>intro y n o e a hp; cases hp
  | succ d z=>
   intro y n o e a hp;refine A _ _ _ ?_;rw[zsx] at hp
   try rw[ha100.slLen]
   refine ifd hp (fun q hp=>?_) fun q hp=>?_; rotate_left
   ·obtain rfl:=oi hp;exact hq _ a.ext'
   obtain⟨B,g,hp⟩:=zqp hp;obtain⟨N,j,h,g⟩:=zqj g;obtain⟨_,r⟩:=zrV ha100 g;refine⟨N,j,(by first|exact h|(rw[ha100.slLen];exact h)),_,_,(r _ a.sub).1,?_⟩;obtain⟨D,s,hp⟩:=zqp hp;refine ha200 _ _ _ _ _ (Sub.refl _) a.pre  s fun O t=>?_;obtain⟨i,F⟩:=a.call t e;refine⟨_,rfl,?_⟩;refine zqZ hp (fun u hp=>?_) fun u hp=>?_
   ·obtain rfl:=oi hp;exact hq _ i.ext'
   refine gdi hp fun w hp=>?_;exact z _ _ _ e i hp
 exact hgo _ _ _ _ I G hp
theorem zu3{l:List Rg}{p:Rg->Option (Bool)}{ca100 ca200:C}{m f:M}{Q:V->M->Prop}{rz:Bool}(hS:Pre f m)(ha100:Sl f ca100 l)(ha200:zuH f ca200 p)(hp:zsz l p=some rz)(hq:∀m',Ext m m'->Q (.c (.bool rz)) m'):Wc prog tbl 109 [.c ca100,.c ca200] m Q:=by
 have g:=hS.st;obtain⟨j,_⟩:=zrU;refine zuf ?_;unfold zsz at hp;obtain⟨h,a,hp⟩:=zqp hp;refine zu2 (l:=l) (p:=p) g.pre ha100 ha200 a fun n d=>?_;obtain⟨e,i⟩:=g.call d j;refine⟨_,rfl,?_⟩;obtain rfl:=oi hp;exact hq _ e.ext'
theorem zu4{l:List Rg}{passes:Rg->Option (Bool)}{ca100 ca200:C}{m f:M}{Q:V->M->Prop}{rz:Bool}(hS:Pre f m)(ha100:Sl f ca100 l)(ha200:zuH f ca200 passes)(hp:zsA l passes=some rz)(hq:∀m',Ext m m'->Q (.c (.bool rz)) m'):Wc prog tbl 89 [.c ca100,.c ca200] m Q:=by
 have A:=hS.st;obtain⟨B,_⟩:=zrU;refine w89 ?_;unfold zsA at hp;intro D i;obtain⟨j,n,w,o⟩:=A.blk i B 1;obtain⟨q,d,e,g⟩:=o.freeze n
 have h:zuH q ((C.fn (Fn.func 110) [] [(W.c (C0.ptr m.nxt 0))])) (fun a=>zsw a passes):=by
  intro f' m' a r Q hs hpre  hg hq;exact zu1 hpre (g.sub hs) ((ha200.sub e.fs).sub hs) hg hq
 obtain⟨y,s,hp⟩:=zqp hp;refine zu3 (l:=l) (p:=(fun a=>zsw a passes)) d.pre (ha100.sub e.fs) h s fun F t=>?_;obtain⟨u,z⟩:=d.call t j;refine⟨_,rfl,?_⟩;obtain rfl:=oi hp;exact hq _ u.ext'
theorem zu5{x:Int}{passes:Int->Option (Bool)}{b0:Nat}{cb000:C}{m f:M}{Q:V->M->Prop}{rz:Bool}(hS:Pre f m)(hb0:Bk f b0 1 [cb000])(hb000:zuI f cb000 passes)(hp:zsB x passes=some rz)(hq:∀m',Ext m m'->Q (.c (.bool rz)) m'):Wc prog tbl 119 [.c (Il x),.c (.ptr b0 0)] m Q:=by
 have g:=hS.st;obtain⟨j,_⟩:=zrU;refine ztY ?_;unfold zsB at hp;refine⟨_,(hb0.sub g.sub).rc rfl,?_⟩;obtain⟨h,a,hp⟩:=zqp hp;refine hb000 _ _ _ _ _ (Sub.refl _) g.pre  a fun l d=>?_;obtain⟨e,i⟩:=g.call d j;refine⟨_,rfl,?_⟩;obtain rfl:=oi hp;exact hq _ e.ext'
theorem zu6{l:List Int}{p:Int->Option (Bool)}{ca100 ca200:C}{m f:M}{Q:V->M->Prop}{rz:Int}(hS:Pre f m)(ha100:Sl f ca100 l)(ha200:zuI f ca200 p)(hp:zsD l p=some rz)(hq:∀m',Ext m m'->Q (.c (Il rz)) m'):Wc prog tbl 123 [.c ca100,.c ca200] m Q:=by
 have F:=hS.st;obtain⟨G,_⟩:=zrU;refine zt9 ?_;unfold zsD at hp;refine⟨ha100.isSl,?_⟩;intro I z
 have hgo:∀(d:Nat) (w:Int) (n:Int) (o:M) (e:Nat->Nat),St (Fm.of m) f f o->zsC l p d n=some rz->I [.c (Il w),.c (Il n)] o:=by
  intro d
  induction d with
  | zero=>intro w n o e a hp; cases hp
  | succ d y=>
   intro w n o e a hp;refine z _ _ _ ?_;rw[zsC] at hp
   try rw[ha100.slLen]
   refine ifd hp (fun q hp=>?_) fun q hp=>?_; rotate_left
   ·obtain rfl:=oi hp;exact hq _ a.ext'
   obtain⟨A,g,hp⟩:=zqp hp;obtain⟨J,j,h,g⟩:=zqj g;refine⟨J,j,(by first|exact h|(rw[ha100.slLen];exact h)),_,(ha100.rdI g a.sub),?_⟩;obtain⟨B,r,hp⟩:=zqp hp;refine ha200 _ _ _ _ _ (Sub.refl _) a.pre  r fun N s=>?_;obtain⟨i,D⟩:=a.call s e;refine⟨_,rfl,?_⟩;refine zqZ hp (fun t hp=>?_) fun t hp=>?_
   ·obtain rfl:=oi hp;exact hq _ i.ext'
   refine gdi hp fun u hp=>?_;exact y _ _ _ e i hp
 exact hgo _ _ _ _ G F hp
theorem zu7{l:List Int}{p:Int->Option (Bool)}{ca100 ca200:C}{m f:M}{Q:V->M->Prop}{rz:Bool}(hS:Pre f m)(ha100:Sl f ca100 l)(ha200:zuI f ca200 p)(hp:zsE l p=some rz)(hq:∀m',Ext m m'->Q (.c (.bool rz)) m'):Wc prog tbl 118 [.c ca100,.c ca200] m Q:=by
 have g:=hS.st;obtain⟨j,_⟩:=zrU;refine zt8 ?_;unfold zsE at hp;obtain⟨h,a,hp⟩:=zqp hp;refine zu6 (l:=l) (p:=p) g.pre ha100 ha200 a fun n d=>?_;obtain⟨e,i⟩:=g.call d j;refine⟨_,rfl,?_⟩;obtain rfl:=oi hp;exact hq _ e.ext'
theorem zu8{l:List Int}{passes:Int->Option (Bool)}{ca100 ca200:C}{m f:M}{Q:V->M->Prop}{rz:Bool}(hS:Pre f m)(ha100:Sl f ca100 l)(ha200:zuI f ca200 passes)(hp:zsF l passes=some rz)(hq:∀m',Ext m m'->Q (.c (.bool rz)) m'):Wc prog tbl 103 [.c ca100,.c ca200] m Q:=by
 have A:=hS.st;obtain⟨B,_⟩:=zrU;refine zue ?_;unfold zsF at hp;intro D i;obtain⟨j,n,w,o⟩:=A.blk i B 1;obtain⟨q,d,e,g⟩:=o.freeze n
 have h:zuI q ((C.fn (Fn.func 119) [] [(W.c (C0.ptr m.nxt 0))])) (fun a=>zsB a passes):=by
  intro f' m' a r Q hs hpre  hg hq;exact zu5 hpre (g.sub hs) ((ha200.sub e.fs).sub hs) hg hq
 obtain⟨y,s,hp⟩:=zqp hp;refine zu7 (l:=l) (p:=(fun a=>zsB a passes)) d.pre (ha100.sub e.fs) h s fun F t=>?_;obtain⟨u,z⟩:=d.call t j;refine⟨_,rfl,?_⟩;obtain rfl:=oi hp;exact hq _ u.ext'
theorem zu9{l:List Int}{ca100:C}{m f:M}{Q:V->M->Prop}{rz:Bool}(hS:Pre f m)(ha100:Sl f ca100 l)(hp:zsH l=some rz)(hq:∀m',Ext m m'->Q (.c (.bool rz)) m'):Wc prog tbl 102 [.c ca100] m Q:=by
 have D:=hS.st;obtain⟨F,_⟩:=zrU;refine zua ?_;unfold zsH at hp;intro G z
 have hgo:∀(d:Nat) (w:Bool) (p:Int) (q:M) (e:Nat->Nat),St (Fm.of m) f f q->zsG l d p=some rz->G [.c (.bool w),.c (Il p)] q:=by
  intro d
  induction d with
  | zero=>intro w p q e a hp; cases hp
  | succ d y=>
   intro w p q e a hp;refine z _ _ _ ?_;rw[zsG] at hp;refine⟨ha100.isSl,?_⟩
   try rw[ha100.slLen]
   refine ifd hp (fun r hp=>?_) fun r hp=>?_; rotate_left
   ·obtain rfl:=oi hp;exact hq _ a.ext'
   obtain⟨A,g,hp⟩:=zqp hp;obtain⟨I,n,i,g⟩:=zqj g;refine⟨I,n,(by first|exact i|(rw[ha100.slLen];exact i)),_,(ha100.rdI g a.sub),?_⟩;refine gdi hp fun s hp=>?_;obtain⟨B,h,hp⟩:=zqp hp;obtain⟨J,o,j,h⟩:=zqj h;refine⟨J,o,(by first|exact j|(rw[ha100.slLen];exact j)),_,(ha100.rdI h a.sub),?_⟩;refine ifd hp (fun t hp=>?_) fun t hp=>?_
   ·obtain rfl:=oi hp;exact hq _ a.ext'
   refine gdi hp fun u hp=>?_;exact y _ _ _ e a hp
 exact hgo _ _ _ _ F D hp
theorem zva{s:Soc}{ca100 ca101:C}{m f:M}{Q:V->M->Prop}{rz:Bool}(hS:Pre f m)(ha100:Sl f ca100 s.Members)(ha101:Sl f ca101 s.Losses)(hp:zsI s=some rz)(hq:∀m',Ext m m'->Q (.c (.bool rz)) m'):Wc prog tbl 65 [.agg 5 [ca100,ca101,Il s.Treaty.Lo,Il s.Treaty.Hi,Il s.Reserve]] m Q:=by
 have j:=hS.st;obtain⟨l,_⟩:=zrU;refine w65 ?_;unfold zsI at hp;intro n e;obtain⟨h,a,i,d⟩:=j.blk e l 1;refine⟨trivial,_,d.bk.rc rfl,ha100.isSl,?_⟩
 try rw[ha100.slLen]
 refine ifd hp (fun g hp=>?_) fun g hp=>?_
 ·obtain rfl:=oi hp;exact hq _ a.ext'
 refine⟨trivial,_,d.bk.rc rfl,ha101.isSl,?_⟩
 try rw[ha101.slLen]
 obtain rfl:=oi hp;exact hq _ a.ext'
theorem zvb{s:Soc}{ca100 ca101:C}{m f:M}{Q:V->M->Prop}{rz:Bool}(hS:Pre f m)(ha100:Sl f ca100 s.Members)(ha101:Sl f ca101 s.Losses)(hp:zsJ s=some rz)(hq:∀m',Ext m m'->Q (.c (.bool rz)) m'):Wc prog tbl 66 [.agg 5 [ca100,ca101,Il s.Treaty.Lo,Il s.Treaty.Hi,Il s.Reserve]] m Q:=by
 have S0:=hS.st;obtain⟨τ0,_⟩:=zrU;refine w66 ?_;unfold zsJ at hp;intro m0 y;obtain⟨z,A,oa,B⟩:=S0.blk y τ0 1;intro m1 D;obtain⟨a,F,G,I⟩:=A.blk D z 2;have J:=B.k G;obtain⟨N,O,g,P,S⟩:=I.sto F [(Il (1:Int)),(Il (1000:Int)),(Il (1:Int)),(Il (10:Int)),Il 0,(Il (100000:Int))];have h:=J.k P;refine⟨N,O,?_⟩;refine⟨trivial,_,h.bk.rc rfl,ha100.isSl,?_⟩
 try rw[ha100.slLen]
 refine ifd hp (fun T hp=>?_) fun T hp=>?_; rotate_left
 ·obtain rfl:=oi hp;exact hq _ g.ext'
 refine⟨trivial,_,h.bk.rc rfl,_,_,_,_,_,_,S.bk.ra,?_⟩
 have u:zuG f ((C.fn (Fn.func 88) [(W.agg 6 [(C0.int IntKind.i64 (1:Int)),(C0.int IntKind.i64 (1000:Int)),(C0.int IntKind.i64 (1:Int)),(C0.int IntKind.i64 (10:Int)),(C0.int IntKind.i64 (0:Int)),(C0.int IntKind.i64 (100000:Int))])] [])) (fun d=>zsq ({ su:=({ Lo:=(1:Int),Hi:=(1000:Int) }:Rg),cl:=({ Lo:=(1:Int),Hi:=(10:Int) }:Rg),mo:=({ Lo:=(0:Int),Hi:=(100000:Int) }:Rg) }:Lm) d):=by
  intro f' m' d r Q hs hpre  hg hq;exact zuW hpre  hg hq
 obtain⟨pa,Y,hp⟩:=zqp hp;refine zu0 (l:=s.Members) (passes:=(fun d=>zsq ({ su:=({ Lo:=(1:Int),Hi:=(1000:Int) }:Rg),cl:=({ Lo:=(1:Int),Hi:=(10:Int) }:Rg),mo:=({ Lo:=(0:Int),Hi:=(100000:Int) }:Rg) }:Lm) d)) g.pre ha100 u Y fun xa Z=>?_;obtain⟨i,aa⟩:=g.call Z a;have q:=h.k aa;refine⟨_,rfl,?_⟩;refine zqZ hp (fun ba hp=>?_) fun ba hp=>?_; rotate_left
 ·obtain rfl:=oi hp;exact hq _ i.ext'
 refine⟨trivial,_,q.bk.rc rfl,?_⟩
 have w:zuH f ((C.fn (Fn.func 90) [] [])) (fun e=>zsp e):=by
  intro f' m' e r Q hs hpre  hg hq;exact zuV hpre  hg hq
 obtain⟨qa,ca,hp⟩:=zqp hp;refine zu4 (l:=s.Losses) (passes:=(fun e=>zsp e)) i.pre ha101 w ca fun ya da=>?_;obtain⟨o,ea⟩:=i.call da a;have t:=q.k ea;refine⟨_,rfl,?_⟩;refine zqZ hp (fun fa hp=>?_) fun fa hp=>?_; rotate_left
 ·obtain rfl:=oi hp;exact hq _ o.ext'
 refine⟨trivial,_,_,t.bk.rp (k:=2) (j:=2) rfl (by omega),?_⟩;obtain⟨sa,ga,hp⟩:=zqp hp;refine zuV (r:=s.Treaty) o.pre  ga fun za ha=>?_;obtain⟨p,ia⟩:=o.call ha a;have ja:=t.k ia;refine⟨_,rfl,?_⟩;refine zqZ hp (fun ka hp=>?_) fun ka hp=>?_; rotate_left
 ·obtain rfl:=oi hp;exact hq _ p.ext'
 refine⟨trivial,_,ja.bk.rc rfl,?_⟩;obtain⟨ta,la,hp⟩:=zqp hp;refine zuU (n:=s.Reserve) p.pre  la fun Aa ma=>?_;obtain⟨na,ua⟩:=p.call ma a;refine⟨_,rfl,?_⟩;obtain rfl:=oi hp;exact hq _ na.ext'
theorem zvc{s:Soc}{ca100 ca101:C}{m f:M}{Q:V->M->Prop}{rz:Int}(hS:Pre f m)(ha100:Sl f ca100 s.Members)(ha101:Sl f ca101 s.Losses)(hp:zsK s=some rz)(hq:∀m',Ext m m'->Q (.c (Il rz)) m'):Wc prog tbl 25 [.agg 5 [ca100,ca101,Il s.Treaty.Lo,Il s.Treaty.Hi,Il s.Reserve]] m Q:=by
 have A:=hS.st;obtain⟨B,_⟩:=zrU;refine w25 ?_;unfold zsK at hp;intro F i;obtain⟨d,e,u,g⟩:=A.blk i B 1;refine⟨_,_,_,_,_,g.bk.ra,?_⟩;obtain⟨w,j,hp⟩:=zqp hp;refine zva (s:=s) e.pre ha100 ha101 j fun G l=>?_;obtain⟨a,n⟩:=e.call l d;have o:=g.k n;refine⟨_,rfl,?_⟩;refine zqZ hp (fun p hp=>?_) fun p hp=>?_
 ·obtain rfl:=oi hp;exact hq _ a.ext'
 refine⟨_,_,_,_,_,o.bk.ra,?_⟩;obtain⟨y,q,hp⟩:=zqp hp;refine zvb (s:=s) a.pre ha100 ha101 q fun D r=>?_;obtain⟨h,z⟩:=a.call r d;refine⟨_,rfl,?_⟩;refine zq0 hp (fun t hp=>?_) fun t hp=>?_
 ·obtain rfl:=oi hp;exact hq _ h.ext'
 obtain rfl:=oi hp;exact hq _ h.ext'
theorem zvd{s:Soc}{t:Tr}{ca100 ca101 ca200:C}{m f:M}{Q:V->M->Prop}{rz:Bool}(hS:Pre f m)(_ha100:Sl f ca100 s.Members)(ha101:Sl f ca101 s.Losses)(ha200:Sl f ca200 t.Losses)(hp:zsM s t=some rz)(hq:∀m',Ext m m'->Q (.c (.bool rz)) m'):Wc prog tbl 59 [.agg 5 [ca100,ca101,Il s.Treaty.Lo,Il s.Treaty.Hi,Il s.Reserve],.agg 2 [ca200,Il t.Treaty]] m Q:=by
 have S0:=hS.st;obtain⟨τ0,_⟩:=zrU;refine w59 ?_;unfold zsM at hp;intro m0 N;obtain⟨O,P,Ca,S⟩:=S0.blk N τ0 1;intro m1 T;obtain⟨Y,w,Z,d⟩:=P.blk T O 2;have a:=S.k Z;refine⟨trivial,_,d.bk.rc rfl,ha200.isSl,trivial,_,a.bk.rc rfl,ha101.isSl,?_⟩
 try rw[ha200.slLen]
 try rw[ha101.slLen]
 refine zqY hp (fun aa hp=>?_) fun aa hp=>?_
 ·obtain rfl:=oi hp;exact hq _ w.ext'
 refine⟨trivial,_,a.bk.rc rfl,ha101.isSl,?_⟩;intro R5 Aa
 have hgo:∀(h:Nat) (b6:Bool) (x7:Int) (G:M) (e:Nat->Nat),St (Fm.of m) f f G->Lb (Fm.of m) f e G 1 m.nxt 5 [ca100,ca101,Il s.Treaty.Lo,Il s.Treaty.Hi,Il s.Reserve]->Lb (Fm.of m) f e G 2 m0.nxt 2 [ca200,Il t.Treaty]->zsL s t h x7=some rz->R5 [.c (.bool b6),.c (Il x7)] G:=by
  intro h
  induction h with
  | zero=>intro b6 x7 G e g a d hp; cases hp
  | succ h za=>
   intro b6 x7 G e g a d hp;refine Aa _ _ _ ?_;rw[zsL] at hp
   try rw[ha101.slLen]
   refine ifd hp (fun ca hp=>?_) fun ca hp=>?_; rotate_left
   ·refine⟨trivial,_,_,a.bk.rp (k:=2) (j:=2) rfl (by omega),trivial,_,d.bk.rc rfl,?_⟩;obtain⟨Da,da,hp⟩:=zqp hp;refine zuT (r:=s.Treaty) (n:=t.Treaty) g.pre  da fun La ea=>?_;obtain⟨fa,Ea⟩:=g.call ea e;refine⟨_,rfl,?_⟩;obtain rfl:=oi hp;exact hq _ fa.ext'
   obtain⟨i,l,hp⟩:=zqp hp;obtain⟨n9,I,q,l⟩:=zqj l;obtain⟨_,ga⟩:=zrV ha101 l;refine⟨n9,I,(by first|exact q|(rw[ha101.slLen];exact q)),_,_,(ga _ g.sub).1,?_⟩;intro Ma ha;obtain⟨y,ia,z,ja⟩:=g.blk ha e 3;have ka:=a.k z;have la:=d.k z;obtain⟨ma,na,o,A,oa⟩:=ja.sto ia [Il i.Lo,Il i.Hi];have pa:=ka.k A;have B:=la.k A;refine⟨ma,na,?_⟩;refine⟨_,_,oa.bk.ra,trivial,_,B.bk.rc rfl,?_⟩;obtain⟨qa,p,hp⟩:=zqp hp;obtain⟨Ba,J,u,p⟩:=zqj p;refine⟨Ba,J,(by first|exact u|(rw[ha200.slLen];exact u)),_,(ha200.rdI p o.sub),?_⟩;obtain⟨Fa,sa,hp⟩:=zqp hp;refine zuT (r:=i) (n:=qa) o.pre  sa fun Na ta=>?_;obtain⟨D,F⟩:=o.call ta y;have ua:=pa.k F;have va:=B.k F;refine⟨_,rfl,?_⟩;refine zq0 hp (fun wa hp=>?_) fun wa hp=>?_
   ·obtain rfl:=oi hp;exact hq _ D.ext'
   refine gdi hp fun xa hp=>?_;exact za _ _ _ y D ua va hp
 exact hgo _ _ _ _ Y w a d hp
theorem zve{s:Soc}{n:Int}{ca100 ca101:C}{m f:M}{Q:V->M->Prop}{rz:Bool}(hS:Pre f m)(ha100:Sl f ca100 s.Members)(_ha101:Sl f ca101 s.Losses)(hp:zsN s n=some rz)(hq:∀m',Ext m m'->Q (.c (.bool rz)) m'):Wc prog tbl 104 [.agg 5 [ca100,ca101,Il s.Treaty.Lo,Il s.Treaty.Hi,Il s.Reserve],.c (Il n)] m Q:=by
 have t:=hS.st;obtain⟨u,_⟩:=zrU;refine zt1 ?_;unfold zsN at hp;intro w e;obtain⟨g,a,o,h⟩:=t.blk e u 1;refine⟨trivial,_,h.bk.rc rfl,ha100.isSl,?_⟩;obtain⟨d,hp⟩:=zqq hp;refine⟨(by first|exact d|(rw[ha100.slLen];exact d)),?_⟩
 try rw[ha100.slLen]
 obtain⟨p,i,hp⟩:=zqp hp;refine zuT (r:=({ Lo:=(0:Int),Hi:=((s.Members.length:Int) - (1:Int)) }:Rg)) (n:=n) a.pre  i fun y j=>?_;obtain⟨l,q⟩:=a.call j g;refine⟨_,rfl,?_⟩;obtain rfl:=oi hp;exact hq _ l.ext'
theorem zvf{s:Soc}{l:List Int}{ca100 ca101 ca200:C}{m f:M}{Q:V->M->Prop}{rz:Bool}(hS:Pre f m)(ha100:Sl f ca100 s.Members)(ha101:Sl f ca101 s.Losses)(ha200:Sl f ca200 l)(hp:zsO s l=some rz)(hq:∀m',Ext m m'->Q (.c (.bool rz)) m'):Wc prog tbl 81 [.agg 5 [ca100,ca101,Il s.Treaty.Lo,Il s.Treaty.Hi,Il s.Reserve],.c ca200] m Q:=by
 have J:=hS.st;obtain⟨N,_⟩:=zrU;refine w81 ?_;unfold zsO at hp;intro P i;obtain⟨e,g,D,j⟩:=J.blk i N 1;obtain⟨F,n,hp⟩:=zqp hp;refine zu9 (l:=l) g.pre ha200 n fun S o=>?_;obtain⟨d,p⟩:=g.call o e;have q:=j.k p;refine⟨_,rfl,?_⟩;refine zqZ hp (fun t hp=>?_) fun t hp=>?_; rotate_left
 ·obtain rfl:=oi hp;exact hq _ d.ext'
 refine⟨_,_,_,_,_,q.bk.ra,?_⟩;obtain⟨z,A,B⟩:∃ws,zaE vW [.agg 5 [ca100,ca101,Il s.Treaty.Lo,Il s.Treaty.Hi,Il s.Reserve]]=some ws/\zbZ wV ws=[.agg 5 [ca100,ca101,Il s.Treaty.Lo,Il s.Treaty.Hi,Il s.Reserve]]:=(zqz (zqx (zqt ha100.noFn (zqt ha101.noFn (zqt rfl (zqt rfl (zqt rfl zqu)))))) zqy);rw[A,zd6]
 have h:zuI f ((C.fn (Fn.func 104) z [])) (fun a=>zsN s a):=by
  intro f' m' a r Q hs hpre  hg hq
  show Wc prog tbl 104 (appS (zbZ wV z) _) m' Q
  rw[B];exact zve hpre (ha100.sub hs) (ha101.sub hs) hg hq
 obtain⟨G,u,hp⟩:=zqp hp;refine zu8 (l:=l) (passes:=(fun a=>zsN s a)) d.pre ha200 h u fun O w=>?_;obtain⟨y,I⟩:=d.call w e;refine⟨_,rfl,?_⟩;obtain rfl:=oi hp;exact hq _ y.ext'
theorem zvg{l:List Int}{v:Int}{ca100:C}{m f:M}{Q:V->M->Prop}{rz:Int}(hS:Pre f m)(ha100:Sl f ca100 l)(hp:zsQ l v=some rz)(hq:∀m',Ext m m'->Q (.c (Il rz)) m'):Wc prog tbl 120 [.c ca100,.c (Il v)] m Q:=by
 have w:=hS.st;obtain⟨y,_⟩:=zrU;refine zud ?_;unfold zsQ at hp;refine⟨ha100.isSl,?_⟩;intro z t
 have hgo:∀(d:Nat) (r:Int) (j:Int) (n:M) (e:Nat->Nat),St (Fm.of m) f f n->zsP l v d j=some rz->z [.c (Il r),.c (Il j)] n:=by
  intro d
  induction d with
  | zero=>intro r j n e a hp; cases hp
  | succ d s=>
   intro r j n e a hp;refine t _ _ _ ?_;rw[zsP] at hp
   try rw[ha100.slLen]
   refine ifd hp (fun o hp=>?_) fun o hp=>?_; rotate_left
   ·obtain rfl:=oi hp;exact hq _ a.ext'
   obtain⟨u,g,hp⟩:=zqp hp;obtain⟨A,i,h,g⟩:=zqj g;refine⟨A,i,(by first|exact h|(rw[ha100.slLen];exact h)),_,(ha100.rdI g a.sub),?_⟩;refine ifd hp (fun p hp=>?_) fun p hp=>?_
   ·obtain rfl:=oi hp;exact hq _ a.ext'
   refine gdi hp fun q hp=>?_;exact s _ _ _ e a hp
 exact hgo _ _ _ _ y w hp
theorem zvh{l:List Int}{v:Int}{ca100:C}{m f:M}{Q:V->M->Prop}{rz:Bool}(hS:Pre f m)(ha100:Sl f ca100 l)(hp:zsR l v=some rz)(hq:∀m',Ext m m'->Q (.c (.bool rz)) m'):Wc prog tbl 105 [.c ca100,.c (Il v)] m Q:=by
 have g:=hS.st;obtain⟨j,_⟩:=zrU;refine zt6 ?_;unfold zsR at hp;obtain⟨h,a,hp⟩:=zqp hp;refine zvg (l:=l) (v:=v) g.pre ha100 a fun n d=>?_;obtain⟨e,i⟩:=g.call d j;refine⟨_,rfl,?_⟩;obtain rfl:=oi hp;exact hq _ e.ext'
theorem zvi{s:Soc}{out:List Int}{ca100 ca101 ca200:C}{m f:M}{Q:V->M->Prop}{rz:Wk}(hS:Pre f m)(ha100:Sl f ca100 s.Members)(ha101:Sl f ca101 s.Losses)(ha200:Sl f ca200 out)(hp:zsT s out=some rz)(hq:∀m' f' c0 c1,Grw m f m' f'->Sl f' c0 rz.s.Members->Sl f' c1 rz.s.Losses->Q (.agg 10 [c0,c1,Il rz.s.Treaty.Lo,Il rz.s.Treaty.Hi,Il rz.s.Reserve,.bool rz.asked.b0,.bool rz.asked.b1,.bool rz.asked.b2,.bool rz.asked.b3,.bool rz.asked.b4]) m'):Wc prog tbl 82 [.agg 5 [ca100,ca101,Il s.Treaty.Lo,Il s.Treaty.Hi,Il s.Reserve],.c ca200] m Q:=by
 have S0:=hS.st;obtain⟨τ0,_⟩:=zrU;refine w82 ?_;unfold zsT at hp;intro m0 O;obtain⟨P,S,Ja,T⟩:=S0.blk O τ0 1;intro m1 Y;obtain⟨Z,aa,ba,ca⟩:=S.blk Y P 2;have G:=T.k ba;refine⟨_,_,_,_,_,G.bk.ra,?_⟩;intro m7 da;obtain⟨ea,fa,I,ga⟩:=aa.blk da Z 3;have ha:=G.k I;have ia:=ca.k I;obtain⟨ja,ka,la,J,r⟩:=ga.sto fa [ca100,ca101,Il s.Treaty.Lo,Il s.Treaty.Hi,Il s.Reserve,.bool false,.bool false,.bool false,.bool false,.bool false];have t:=ha.k J;have u:=ia.k J;refine⟨ja,ka,?_⟩;refine⟨trivial,_,t.bk.rc rfl,ha100.isSl,?_⟩;intro Ha Ga
 have hgo:∀(w:Nat) (q:Int) (a:Int) (d:Int) (e:Int) (g:Bool) (h:Bool) (i:Bool) (j:Bool) (n:Bool) (z:M) (o:Nat->Nat),St (Fm.of m) f f z->Lb (Fm.of m) f o z 1 m.nxt 5 [ca100,ca101,Il s.Treaty.Lo,Il s.Treaty.Hi,Il s.Reserve]->Lb (Fm.of m) f o z 2 m0.nxt 10 [.sl0,.sl0,Il 0,Il 0,Il 0,.bool false,.bool false,.bool false,.bool false,.bool false]->Lb (Fm.of m) f o z 3 m1.nxt 10 [ca100,ca101,Il a,Il d,Il e,.bool g,.bool h,.bool i,.bool j,.bool n]->zsS s out w a d e g h i j n q=some rz->Ha [.c (Il q)] z:=by
  intro w
  induction w with
  | zero=>intro q a d e g h i j n z o y t u r hp; cases hp
  | succ w ma=>
   intro q a d e g h i j n z o y t u r hp;refine Ga _ _ ?_;rw[zsS] at hp
   try rw[ha100.slLen]
   refine ifd hp (fun na hp=>?_) fun na hp=>?_; rotate_left
   ·refine⟨_,_,_,_,_,_,_,_,_,_,r.bk.ra,?_⟩;obtain⟨oa,pa,qa,Ka,sa⟩:=u.sto y [ca100,ca101,Il a,Il d,Il e,.bool g,.bool h,.bool i,.bool j,.bool n];refine⟨oa,pa,?_⟩;refine⟨_,_,_,_,_,_,_,_,_,_,sa.bk.ra,?_⟩;obtain rfl:=oi hp;exact hq _ f ca100 ca101 qa.grw ha100 ha101
   obtain⟨p,ta,hp⟩:=zqp hp;refine zvh (l:=out) (v:=q) y.pre ha200 ta fun Pa ua=>?_;obtain⟨va,A⟩:=y.call ua o;have wa:=t.k A;have xa:=u.k A;have ya:=r.k A;refine⟨_,rfl,trivial,trivial,?_⟩;obtain⟨za,hp⟩:=zqq hp;obtain⟨Ia,D,F⟩:=zqV za;refine⟨Ia,D,F,?_⟩;obtain⟨Aa,Ba,Ca,N,B⟩:=ya.sta va (pre:=[ca100,ca101,Il a,Il d,Il e]) (post:=[]) (l:=([g,h,i,j,n]:List Bool)) (enc:=C.bool) rfl rfl D F ((!p))
   replace B:Lb _ _ _ _ _ _ _ [ca100,ca101,Il a,Il d,Il e,(.bool (sti q 0 (!p) g)),(.bool (sti q 1 (!p) h)),(.bool (sti q 2 (!p) i)),(.bool (sti q 3 (!p) j)),(.bool (sti q 4 (!p) n))]:=B
   have Da:=wa.k N;have Ea:=xa.k N;refine⟨Aa,Ba,?_⟩;refine gdi hp fun Fa hp=>?_;exact ma _ _ _ _ _ _ _ _ _ _ o Ca Da Ea B hp
 exact hgo _ _ _ _ _ _ _ _ _ _ _ ea la t u r hp
theorem zvj{s:Soc}{out:List Int}{ca100 ca101 ca200:C}{m f:M}{Q:V->M->Prop}{rz:Wk × Int}(hS:Pre f m)(ha100:Sl f ca100 s.Members)(ha101:Sl f ca101 s.Losses)(ha200:Sl f ca200 out)(hp:zsU s out=some rz)(hq:∀m' f' c0 c1,Grw m f m' f'->Sl f' c0 rz.1.s.Members->Sl f' c1 rz.1.s.Losses->Q (.tup [.agg 10 [c0,c1,Il rz.1.s.Treaty.Lo,Il rz.1.s.Treaty.Hi,Il rz.1.s.Reserve,.bool rz.1.asked.b0,.bool rz.1.asked.b1,.bool rz.1.asked.b2,.bool rz.1.asked.b3,.bool rz.1.asked.b4],.c (Il rz.2)]) m'):Wc prog tbl 61 [.agg 5 [ca100,ca101,Il s.Treaty.Lo,Il s.Treaty.Hi,Il s.Reserve],.c ca200] m Q:=by
 have S0:=hS.st;obtain⟨τ0,_⟩:=zrU;refine w61 ?_;unfold zsU at hp;intro m0 u;obtain⟨w,y,qa,z⟩:=S0.blk u τ0 1;intro m1 A;obtain⟨d,h,B,D⟩:=y.blk A w 2;have i:=z.k B;refine⟨_,_,_,_,_,i.bk.ra,?_⟩;obtain⟨sa,F,hp⟩:=zqp hp;refine zvc (s:=s) h.pre ha100 ha101 F fun m8 G=>?_;obtain⟨e,j⟩:=h.call G d;have n:=i.k j;have o:=D.k j;refine⟨_,rfl,?_⟩;refine zqY hp (fun I hp=>?_) fun I hp=>?_
 ·obtain⟨J,N,O,ta,P⟩:=o.sto e [.sl0,.sl0,Il 0,Il 0,Il 0,.bool false,.bool false,.bool false,.bool false,.bool false];refine⟨J,N,?_⟩;refine⟨_,_,_,_,_,_,_,_,_,_,P.bk.ra,?_⟩;obtain rfl:=oi hp;exact hq _ f .sl0 .sl0 O.grw (Sl.nil _) (Sl.nil _)
 refine⟨_,_,_,_,_,n.bk.ra,?_⟩;obtain⟨ua,S,hp⟩:=zqp hp;refine zvf (s:=s) (l:=out) e.pre ha100 ha101 ha200 S fun za T=>?_;obtain⟨g,p⟩:=e.call T d;have Y:=n.k p;have q:=o.k p;refine⟨_,rfl,?_⟩;refine zq0 hp (fun Z hp=>?_) fun Z hp=>?_
 ·obtain⟨aa,ba,ca,va,da⟩:=q.sto g [.sl0,.sl0,Il 0,Il 0,Il 0,.bool false,.bool false,.bool false,.bool false,.bool false];refine⟨aa,ba,?_⟩;refine⟨_,_,_,_,_,_,_,_,_,_,da.bk.ra,?_⟩;obtain rfl:=oi hp;exact hq _ f .sl0 .sl0 ca.grw (Sl.nil _) (Sl.nil _)
 refine⟨_,_,_,_,_,Y.bk.ra,?_⟩;obtain⟨a,ea,hp⟩:=zqp hp;refine zvi (s:=s) (out:=out) g.pre ha100 ha101 ha200 ea fun Aa fa r t ga ha ia=>?_;obtain⟨ja,ka⟩:=g.callG ga d;have la:=q.k ka;refine⟨_,_,_,_,_,_,_,_,_,_,rfl,?_⟩;obtain⟨ma,na,oa,wa,pa⟩:=la.sto ja [r,t,Il a.s.Treaty.Lo,Il a.s.Treaty.Hi,Il a.s.Reserve,.bool a.asked.b0,.bool a.asked.b1,.bool a.asked.b2,.bool a.asked.b3,.bool a.asked.b4];refine⟨ma,na,?_⟩;refine⟨_,_,_,_,_,_,_,_,_,_,pa.bk.ra,?_⟩;obtain rfl:=oi hp;exact hq _ fa r t oa.grw ha ia
theorem zvk{s:Soc}{losses:Int}{treaty:Int}{ca100 ca101:C}{m f:M}{Q:V->M->Prop}{rz:Int}(hS:Pre f m)(_ha100:Sl f ca100 s.Members)(_ha101:Sl f ca101 s.Losses)(hp:zsV s losses treaty=some rz)(hq:∀m',Ext m m'->Q (.c (Il rz)) m'):Wc prog tbl 60 [.agg 5 [ca100,ca101,Il s.Treaty.Lo,Il s.Treaty.Hi,Il s.Reserve],.c (Il losses),.c (Il treaty)] m Q:=by
 have l:=hS.st;obtain⟨n,_⟩:=zrU;refine w60 ?_;unfold zsV at hp;intro o a;obtain⟨i,d,j,e⟩:=l.blk a n 1;refine⟨trivial,_,e.bk.rc rfl,?_⟩;refine gdi hp fun g hp=>?_;refine gdi hp fun h hp=>?_;obtain rfl:=oi hp;exact hq _ d.ext'
theorem zvl{s:Soc}{t:Tr}{ca100 ca101 ca200:C}{m f:M}{Q:V->M->Prop}{rz:Int × Int}(hS:Pre f m)(ha100:Sl f ca100 s.Members)(ha101:Sl f ca101 s.Losses)(ha200:Sl f ca200 t.Losses)(hp:zsX s t=some rz)(hq:∀m',Ext m m'->Q (.tup [.c (Il rz.1),.c (Il rz.2)]) m'):Wc prog tbl 20 [.agg 5 [ca100,ca101,Il s.Treaty.Lo,Il s.Treaty.Hi,Il s.Reserve],.agg 2 [ca200,Il t.Treaty]] m Q:=by
 have S0:=hS.st;obtain⟨τ0,_⟩:=zrU;refine w20 ?_;unfold zsX at hp;intro m0 F;obtain⟨G,I,ma,J⟩:=S0.blk F τ0 1;intro m1 N;obtain⟨j,q,O,P⟩:=I.blk N G 2;have r:=J.k O;refine⟨_,_,_,_,_,r.bk.ra,?_⟩;obtain⟨na,S,hp⟩:=zqp hp;refine zvc (s:=s) q.pre ha100 ha101 S fun m8 T=>?_;obtain⟨l,u⟩:=q.call T j;have w:=r.k u;have y:=P.k u;refine⟨_,rfl,?_⟩;refine zqY hp (fun Y hp=>?_) fun Y hp=>?_
 ·obtain rfl:=oi hp;exact hq _ l.ext'
 refine⟨_,_,_,_,_,w.bk.ra,_,_,y.bk.ra,?_⟩;obtain⟨oa,Z,hp⟩:=zqp hp;refine zvd (s:=s) (t:=t) l.pre ha100 ha101 ha200 Z fun wa aa=>?_;obtain⟨z,A⟩:=l.call aa j;have e:=w.k A;have a:=y.k A;refine⟨_,rfl,?_⟩;refine zq0 hp (fun ba hp=>?_) fun ba hp=>?_
 ·obtain rfl:=oi hp;exact hq _ z.ext'
 refine⟨trivial,_,a.bk.rc rfl,ha200.isSl,?_⟩;intro ka ja
 have hgo:∀(h:Nat) (o:Int) (B:Int) (i:M) (d:Nat->Nat),St (Fm.of m) f f i->Lb (Fm.of m) f d i 1 m.nxt 5 [ca100,ca101,Il s.Treaty.Lo,Il s.Treaty.Hi,Il s.Reserve]->Lb (Fm.of m) f d i 2 m0.nxt 2 [ca200,Il t.Treaty]->zsW s t h o B=some rz->ka [.c (Il o),.c (Il B)] i:=by
  intro h
  induction h with
  | zero=>intro o B i d g e a hp; cases hp
  | succ h ca=>
   intro o B i d g e a hp;refine ja _ _ _ ?_;rw[zsW] at hp
   try rw[ha200.slLen]
   refine ifd hp (fun da hp=>?_) fun da hp=>?_
   ·obtain⟨pa,n,hp⟩:=zqp hp;obtain⟨la,D,p,n⟩:=zqj n;refine⟨la,D,(by first|exact p|(rw[ha200.slLen];exact p)),_,(ha200.rdI n g.sub),?_⟩;refine gdi hp fun ea hp=>?_;refine gdi hp fun fa hp=>?_;exact ca _ _ _ d g e a hp
   refine⟨_,_,_,_,_,e.bk.ra,trivial,_,a.bk.rc rfl,?_⟩;obtain⟨qa,ga,hp⟩:=zqp hp;refine zvk (s:=s) (losses:=o) (treaty:=t.Treaty) g.pre ha100 ha101 ga fun xa ha=>?_;obtain⟨ia,sa⟩:=g.call ha d;refine⟨_,rfl,?_⟩;obtain rfl:=oi hp;exact hq _ ia.ext'
 exact hgo _ _ _ _ j z e a hp
theorem zvm{s:Soc}{b0:Nat}{cb000 cb001:C}{m f:M}{F:Fm}{n0 ly:Nat}{xs:List (List V)}{I:Nat->(Nat->Prop)->M->Prop}{E:(Nat->Prop)->M->Prop}{S1:Nat->Prop}{Q:V->M->Prop}{rz:List Int}{τ0:Nat->Nat}(hc:zqe prog tbl n0 ly xs I E)(S0:St F f f m)(Y0:Yg n0 (YJ xs I rz) S1 F f τ0 m)(hb0:Bk f b0 5 [cb000,cb001,(.int .i64 s.Treaty.Lo),(.int .i64 s.Treaty.Hi),(.int .i64 s.Reserve)])(hb000:Sl f cb000 s.Members)(hb001:Sl f cb001 s.Losses)(hp:zs0 s=some rz)(hq:∀v m' f' τ' S',St F f f' m'->(Yg n0 (YJ xs I ([]:List Int)) S' F f' τ' m'\/Yg n0 E S' F f' τ' m')->Q v m'):Wc prog tbl 106 [.c (.fn (.yield ly) [] []),.c (.ptr b0 0)] m Q:=by
 refine ztZ ?_;unfold zs0 at hp;intro m0 e2095;obtain⟨τ2098,S2096,k2097,L2099⟩:=S0.blk e2095 τ0 1;have Y2100:=Y0.k k2097 (by decide);refine⟨trivial,_,(hb0.sub S2096.sub).rc rfl,hb001.isSl,?_⟩;intro R2 hR2
 have hgo:∀(d2108:Nat) (x3:Int) (y2103:Int) (y2104:Int) (r2105:List Int) (s2106:Nat->Prop) (m4:M) (τ2102:Nat->Nat),St F f f m4->Lb F f τ2102 m4 1 m.nxt 2 [(.int .i64 y2103),(.int .i64 y2104)]->Yg n0 (YJ xs I r2105) s2106 F f τ2102 m4->zsZ s d2108 y2103 y2104 x3=some r2105->R2 [.c (.int .i64 x3)] m4:=by
  intro d2108
  induction d2108 with
  | zero=>intro x3 y2103 y2104 r2105 s2106 m4 τ2102 S2101 L2099 Y2107 hp; cases hp
  | succ d2108 ihR2=>
   intro x3 y2103 y2104 r2105 s2106 m4 τ2102 S2101 L2099 Y2107 hp;refine hR2 _ _ ?_;rw[zsZ] at hp
   try rw[hb001.slLen]
   refine ifd hp (fun q2109 hp=>?_) fun q2109 hp=>?_
   ·obtain⟨v2110,g2111,hp⟩:=zqp hp;obtain⟨n5,g2111i,g2111l,g2111⟩:=zqj g2111;obtain⟨_,r2112⟩:=zrV hb001 g2111;refine⟨n5,g2111i,(by first|exact g2111l|(rw[hb001.slLen];exact g2111l)),_,_,(r2112 _ S2101.sub).1,?_⟩;intro m8 e2113;obtain⟨τ2116,S2114,k2115,L2117⟩:=S2101.blk e2113 τ2102 2;have L2118:=L2099.k k2115 (by decide);have Y2119:=Y2107.k k2115 (by decide);obtain⟨m2123,e2122,S2120,k2121,L2124⟩:=L2117.sto S2114 [(.int .i64 v2110.Lo),(.int .i64 v2110.Hi)];have L2125:=L2118.k k2121 (by decide);have Y2126:=Y2119.k k2121 (by decide);refine⟨m2123,e2122,?_⟩;refine⟨trivial,_,L2125.bk.rc rfl,trivial,_,L2124.bk.rc rfl,?_⟩;obtain⟨g2127,hp⟩:=zqq hp;refine⟨g2127,trivial,?_⟩;obtain⟨m2131,e2130,S2128,k2129,L2132⟩:=L2125.sto1 S2120 0 (.int .i64 (y2103+v2110.Lo)) (by simp) rfl
    replace L2132:Lb _ _ _ _ _ _ _ [(.int .i64 (y2103+v2110.Lo)),(.int .i64 y2104)]:=L2132
    have L2133:=L2124.k k2129 (by decide);have Y2134:=Y2126.k k2129 (by decide);refine⟨m2131,e2130,?_⟩;refine⟨trivial,_,L2132.bk.rc rfl,trivial,_,L2133.bk.rc rfl,?_⟩;obtain⟨g2135,hp⟩:=zqq hp;refine⟨g2135,trivial,?_⟩;obtain⟨m2139,e2138,S2136,k2137,L2140⟩:=L2132.sto1 S2128 1 (.int .i64 (y2104+v2110.Hi)) (by simp) rfl
    replace L2140:Lb _ _ _ _ _ _ _ [(.int .i64 (y2103+v2110.Lo)),(.int .i64 (y2104+v2110.Hi))]:=L2140
    have L2141:=L2133.k k2137 (by decide);have Y2142:=Y2134.k k2137 (by decide);refine⟨m2139,e2138,?_⟩;obtain⟨g2143,hp⟩:=zqq hp;refine⟨g2143,?_⟩;exact ihR2 _ _ _ _ _ _ τ2116 S2136 L2140 Y2142 hp
   refine⟨_,_,_,_,_,(hb0.sub S2101.sub).ra,trivial,_,L2099.bk.rc rfl,trivial,trivial,_,(hb0.sub S2101.sub).rc rfl,?_⟩;obtain⟨r2144,g2145,hp⟩:=zqp hp;refine zvk (s:=s) (losses:=y2103) (treaty:=s.Treaty.Hi) S2101.pre hb000 hb001 g2145 fun m24 e2148=>?_;obtain⟨S2146,k2147⟩:=S2101.call e2148 τ2102;have L2149:=L2099.k k2147 (by decide);have Y2150:=Y2107.k k2147 (by decide);refine⟨_,rfl,_,_,_,_,_,(hb0.sub S2146.sub).ra,(by rw[show zaL cmC _=true from zoV (zqt hb000.noFn (zqt hb001.noFn (zqt rfl (zqt rfl (zqt rfl zqu)))))]; exact((hb0.sub S2101.sub).ra)),trivial,_,L2149.bk.rc rfl,(L2099.bk.rc rfl),trivial,trivial,_,(hb0.sub S2146.sub).rc rfl,((hb0.sub S2101.sub).rc rfl),?_⟩;obtain⟨r2151,g2152,hp⟩:=zqp hp;refine zvk (s:=s) (losses:=y2104) (treaty:=s.Treaty.Lo) S2146.pre hb000 hb001 g2152 fun m34 e2155=>?_;obtain⟨S2153,k2154⟩:=S2146.call e2155 τ2102;have L2156:=L2149.k k2154 (by decide);have Y2157:=Y2150.k k2154 (by decide);refine⟨_,rfl,?_⟩;intro R36 hR36
   have hgo:∀(d2163:Nat) (x37:Int) (r2160:List Int) (s2161:Nat->Prop) (m38:M) (τ2159:Nat->Nat),St F f f m38->Lb F f τ2159 m38 1 m.nxt 2 [(.int .i64 y2103),(.int .i64 y2104)]->Yg n0 (YJ xs I r2160) s2161 F f τ2159 m38->zsY r2151 d2163 x37=some r2160->R36 [.c (.int .i64 x37)] m38:=by
    intro d2163
    induction d2163 with
    | zero=>intro x37 r2160 s2161 m38 τ2159 S2158 L2156 Y2162 hp; cases hp
    | succ d2163 ihR36=>
     intro x37 r2160 s2161 m38 τ2159 S2158 L2156 Y2162 hp;refine hR36 _ _ ?_;rw[zsY] at hp;refine ifd hp (fun q2164 hp=>?_) fun q2164 hp=>?_; rotate_left
     ·obtain rfl:=oi hp;exact hq _ _ _ _ _ S2158 (.inl Y2162)
     obtain⟨r2165,hp2167,hz2166⟩:=zqp hp
     clear hp
     obtain rfl:=oi hz2166;have hp:=hp2167
     show Wy prog tbl ly (IV.encs (x37:Int)) _ _
     refine Yg.yield hc S2158 Y2162 ?_ ?_
     ·intro m40 τ2168 s2172 S2169 k2170 Y2171;have L2173:=L2156.k k2170 (by decide);refine⟨_,rfl,?_⟩;refine zq1 ?_;obtain⟨g2174,hp⟩:=zqq hp;refine⟨g2174,?_⟩;exact ihR36 _ _ _ _ τ2168 S2169 L2173 Y2171 hp
     ·intro m40 τ2175 s2179 S2176 k2177 Y2178;have L2180:=L2156.k k2177 (by decide);refine⟨_,rfl,?_⟩;refine zq2 ?_;exact hq _ _ _ _ _ S2176 (.inr Y2178)
   exact hgo _ _ _ _ _ τ2102 S2153 L2156 Y2157 hp
 exact hgo _ _ _ _ _ _ _ τ2098 S2096 L2099 Y2100 hp
theorem zvn{s:Soc}{ca100 ca101:C}{m f:M}{Q:V->M->Prop}{rz:List Int}(hS:Pre f m)(ha100:Sl f ca100 s.Members)(ha101:Sl f ca101 s.Losses)(hp:zs1 s=some rz)(hq:∀m' f' c0,Grw m f m' f'->It prog tbl f' c0 rz->Q (.c c0) m'):Wc prog tbl 83 [.agg 5 [ca100,ca101,Il s.Treaty.Lo,Il s.Treaty.Hi,Il s.Reserve]] m Q:=by
 have r:=hS.st;obtain⟨t,_⟩:=zrU;refine w83 ?_;unfold zs1 at hp;intro u i;obtain⟨p,j,q,l⟩:=r.blk i t 1;obtain⟨d,a,e,g⟩:=l.freeze j;obtain⟨n,o,hp⟩:=zqp hp;have h:It prog tbl d ((C.fn (Fn.func 106) [] [(W.c (C0.ptr m.nxt 0))])) n:=zq3 a.fz a.fv fun w ly I E hc y z A B hS hY Q hq=>zvm hc hS hY g (ha100.sub e.fs) (ha101.sub e.fs) o hq;obtain rfl:=oi hp;exact hq _ d (C.fn (Fn.func 106) [] [(W.c (C0.ptr m.nxt 0))]) a.grw h
theorem zvo{p:P5}{m f:M}{Q:V->M->Prop}{rz:Int}(hS:Pre f m)(hp:zs3 p=some rz)(hq:∀m',Ext m m'->Q (.c (Il rz)) m'):Wc prog tbl 98 [.agg 5 [Il p.p0,Il p.p1,Il p.p2,Il p.p3,Il p.p4]] m Q:=by
 have G:=hS.st;obtain⟨I,_⟩:=zrU;refine w98 ?_;unfold zs3 at hp;intro N o;obtain⟨q,r,D,a⟩:=G.blk o I 1;refine⟨_,_,_,_,_,a.bk.ra,?_⟩;intro J A
 have hgo:∀(d:Nat) (s:Int) (t:Int) (i:M) (e:Nat->Nat),St (Fm.of m) f f i->Lb (Fm.of m) f e i 1 m.nxt 5 [Il p.p0,Il p.p1,Il p.p2,Il p.p3,Il p.p4]->zs2 p d s t=some rz->J [.c (Il s),.c (Il t)] i:=by
  intro d
  induction d with
  | zero=>intro s t i e g a hp; cases hp
  | succ d z=>
   intro s t i e g a hp;refine A _ _ _ ?_;rw[zs2] at hp;refine ifd hp (fun u hp=>?_) fun u hp=>?_; rotate_left
   ·obtain rfl:=oi hp;exact hq _ g.ext'
   obtain⟨F,h,hp⟩:=zqp hp;obtain⟨B,j,n,h⟩:=zqj h;refine⟨B,j,n,_,(zrE (l:=([p.p0,p.p1,p.p2,p.p3,p.p4]:List Int)) (enc:=(C.int .i64)) rfl h),?_⟩;refine gdi hp fun w hp=>?_;refine gdi hp fun y hp=>?_;exact z _ _ _ e g a hp
 exact hgo _ _ _ _ q r a hp
theorem zvp{p:P5}{more:P5}{m f:M}{Q:V->M->Prop}{rz:P5}(hS:Pre f m)(hp:zs5 p more=some rz)(hq:∀m',Ext m m'->Q (.agg 5 [Il rz.p0,Il rz.p1,Il rz.p2,Il rz.p3,Il rz.p4]) m'):Wc prog tbl 114 [.agg 5 [Il p.p0,Il p.p1,Il p.p2,Il p.p3,Il p.p4],.agg 5 [Il more.p0,Il more.p1,Il more.p2,Il more.p3,Il more.p4]] m Q:=by
 have S0:=hS.st;obtain⟨τ0,_⟩:=zrU;refine zug ?_;unfold zs5 at hp;intro m0 P;obtain⟨S,T,Ba,Y⟩:=S0.blk P τ0 1;intro m1 Z;obtain⟨aa,ba,ca,da⟩:=T.blk Z S 2;have ea:=Y.k ca;intro m2 fa;obtain⟨ga,ha,F,q⟩:=ba.blk fa aa 3;have i:=ea.k F;have r:=da.k F;refine⟨_,_,_,_,_,r.bk.ra,?_⟩;intro R8 xa
 have hgo:∀(s:Nat) (u:Int) (a:Int) (d:Int) (e:Int) (g:Int) (h:Int) (t:M) (j:Nat->Nat),St (Fm.of m) f f t->Lb (Fm.of m) f j t 1 m.nxt 5 [Il a,Il d,Il e,Il g,Il h]->Lb (Fm.of m) f j t 2 m0.nxt 5 [Il more.p0,Il more.p1,Il more.p2,Il more.p3,Il more.p4]->Lb (Fm.of m) f j t 3 m1.nxt 5 [Il 0,Il 0,Il 0,Il 0,Il 0]->zs4 more s a d e g h u=some rz->R8 [.c (Il u)] t:=by
  intro s
  induction s with
  | zero=>intro u a d e g h t j w i r q hp; cases hp
  | succ s wa=>
   intro u a d e g h t j w i r q hp;refine xa _ _ ?_;rw[zs4] at hp;refine ifd hp (fun ia hp=>?_) fun ia hp=>?_; rotate_left
   ·refine⟨_,_,_,_,_,i.bk.ra,?_⟩;obtain⟨ja,ka,la,Ca,ma⟩:=q.sto w [Il a,Il d,Il e,Il g,Il h];refine⟨ja,ka,?_⟩;refine⟨_,_,_,_,_,ma.bk.ra,?_⟩;obtain rfl:=oi hp;exact hq _ la.ext'
   obtain⟨n,y,hp⟩:=zqp hp;obtain⟨ya,I,J,y⟩:=zqj y;refine⟨ya,I,J,_,(zrE (l:=([more.p0,more.p1,more.p2,more.p3,more.p4]:List Int)) (enc:=(C.int .i64)) rfl y),trivial,?_⟩;obtain⟨o,z,hp⟩:=zqp hp;obtain⟨za,N,O,z⟩:=zqj z;refine⟨za,N,O,_,(i.bk.rc (zqU (l:=([a,d,e,g,h]:List Int)) (enc:=(C.int .i64)) 0 rfl z)),?_⟩;obtain⟨na,hp⟩:=zqq hp;refine⟨na,trivial,?_⟩;obtain⟨oa,hp⟩:=zqq hp;obtain⟨Aa,B,D⟩:=zqV oa;refine⟨Aa,B,D,?_⟩;obtain⟨pa,qa,sa,G,A⟩:=i.sta w (pre:=[]) (post:=[]) (l:=([a,d,e,g,h]:List Int)) (enc:=(C.int .i64)) rfl rfl B D ((o+n))
   replace A:Lb _ _ _ _ _ _ _ [(Il (sti u 0 (o+n) a)),(Il (sti u 1 (o+n) d)),(Il (sti u 2 (o+n) e)),(Il (sti u 3 (o+n) g)),(Il (sti u 4 (o+n) h))]:=A
   have ta:=r.k G;have ua:=q.k G;refine⟨pa,qa,?_⟩;refine gdi hp fun va hp=>?_;exact wa _ _ _ _ _ _ _ j sa A ta ua hp
 exact hgo _ _ _ _ _ _ _ _ ga ha i r q hp
theorem zvq{f_:F5}{others:F5}{m f:M}{Q:V->M->Prop}{rz:F5}(hS:Pre f m)(hp:zs7 f_ others=some rz)(hq:∀m',Ext m m'->Q (.agg 5 [.bool rz.b0,.bool rz.b1,.bool rz.b2,.bool rz.b3,.bool rz.b4]) m'):Wc prog tbl 97 [.agg 5 [.bool f_.b0,.bool f_.b1,.bool f_.b2,.bool f_.b3,.bool f_.b4],.agg 5 [.bool others.b0,.bool others.b1,.bool others.b2,.bool others.b3,.bool others.b4]] m Q:=by
 have S0:=hS.st;obtain⟨τ0,_⟩:=zrU;refine w97 ?_;unfold zs7 at hp;intro m0 Y;obtain⟨Z,aa,La,ba⟩:=S0.blk Y τ0 1;intro m1 ca;obtain⟨da,ea,fa,ga⟩:=aa.blk ca Z 2;have ha:=ba.k fa;intro m2 ia;obtain⟨ja,ka,G,n⟩:=ea.blk ia da 3;have i:=ha.k G;have o:=ga.k G;refine⟨_,_,_,_,_,o.bk.ra,?_⟩;intro R8 Ga
 have hgo:∀(r:Nat) (q:Int) (a:Bool) (d:Bool) (e:Bool) (g:Bool) (h:Bool) (t:M) (j:Nat->Nat),St (Fm.of m) f f t->Lb (Fm.of m) f j t 1 m.nxt 5 [.bool a,.bool d,.bool e,.bool g,.bool h]->Lb (Fm.of m) f j t 2 m0.nxt 5 [.bool others.b0,.bool others.b1,.bool others.b2,.bool others.b3,.bool others.b4]->Lb (Fm.of m) f j t 3 m1.nxt 5 [.bool false,.bool false,.bool false,.bool false,.bool false]->zs6 others r a d e g h q=some rz->R8 [.c (Il q)] t:=by
  intro r
  induction r with
  | zero=>intro q a d e g h t j s i o n hp; cases hp
  | succ r N=>
   intro q a d e g h t j s i o n hp;refine Ga _ _ ?_;rw[zs6] at hp;refine ifd hp (fun la hp=>?_) fun la hp=>?_; rotate_left
   ·refine⟨_,_,_,_,_,i.bk.ra,?_⟩;obtain⟨ma,na,oa,Ma,pa⟩:=n.sto s [.bool a,.bool d,.bool e,.bool g,.bool h];refine⟨ma,na,?_⟩;refine⟨_,_,_,_,_,pa.bk.ra,?_⟩;obtain rfl:=oi hp;exact hq _ oa.ext'
   obtain⟨p,u,hp⟩:=zqp hp;obtain⟨Ha,O,P,u⟩:=zqj u;refine⟨Ha,O,P,_,(zrE (l:=([others.b0,others.b1,others.b2,others.b3,others.b4]:List Bool)) (enc:=C.bool) rfl u),trivial,?_⟩;obtain⟨Na,w,hp⟩:=zqp hp;obtain⟨Ia,S,T,w⟩:=zqj w;refine⟨Ia,S,T,_,(i.bk.rc (zqU (l:=([a,d,e,g,h]:List Bool)) (enc:=C.bool) 0 rfl w)),?_⟩;refine zqZ hp (fun qa hp=>?_) fun qa hp=>?_
   ·refine⟨trivial,?_⟩;obtain⟨sa,hp⟩:=zqq hp;obtain⟨Ja,A,B⟩:=zqV sa;refine⟨Ja,A,B,?_⟩;obtain⟨ta,ua,va,I,y⟩:=i.sta s (pre:=[]) (post:=[]) (l:=([a,d,e,g,h]:List Bool)) (enc:=C.bool) rfl rfl A B ((!p))
    replace y:Lb _ _ _ _ _ _ _ [(.bool (sti q 0 (!p) a)),(.bool (sti q 1 (!p) d)),(.bool (sti q 2 (!p) e)),(.bool (sti q 3 (!p) g)),(.bool (sti q 4 (!p) h))]:=y
    have wa:=o.k I;have xa:=n.k I;refine⟨ta,ua,?_⟩;refine gdi hp fun ya hp=>?_;exact N _ _ _ _ _ _ _ j va y wa xa hp
   refine⟨trivial,?_⟩;obtain⟨za,hp⟩:=zqq hp;obtain⟨Ka,D,F⟩:=zqV za;refine⟨Ka,D,F,?_⟩;obtain⟨Aa,Ba,Ca,J,z⟩:=i.sta s (pre:=[]) (post:=[]) (l:=([a,d,e,g,h]:List Bool)) (enc:=C.bool) rfl rfl D F false
   replace z:Lb _ _ _ _ _ _ _ [(.bool (sti q 0 false a)),(.bool (sti q 1 false d)),(.bool (sti q 2 false e)),(.bool (sti q 3 false g)),(.bool (sti q 4 false h))]:=z
   have Da:=o.k J;have Ea:=n.k J;refine⟨Aa,Ba,?_⟩;refine gdi hp fun Fa hp=>?_;exact N _ _ _ _ _ _ _ j Ca z Da Ea hp
 exact hgo _ _ _ _ _ _ _ _ ja ka i o n hp
theorem zvr{d:Dv}{member:Int}{ca110:C}{m f:M}{Q:V->M->Prop}{rz:Int}(hS:Pre f m)(ha110:Mi f ca110 d.having)(hp:zs9 d member=some rz)(hq:∀m',Ext m m'->Q (.c (Il rz)) m'):Wc prog tbl 111 [.agg 11 [Il d.s0.pence,Il d.s0.remainder,Il d.s1.pence,Il d.s1.remainder,Il d.s2.pence,Il d.s2.remainder,Il d.s3.pence,Il d.s3.remainder,Il d.s4.pence,Il d.s4.remainder,ca110],.c (Il member)] m Q:=by
 have S0:=hS.st;obtain⟨τ0,_⟩:=zrU;refine zt2 ?_;unfold zs9 at hp;intro m0 Ma;obtain⟨Na,Oa,Yb,aa⟩:=S0.blk Ma τ0 1;refine⟨trivial,trivial,?_⟩;obtain⟨a,B,hp⟩:=zqp hp;obtain⟨n1,ya,za,B⟩:=zqj B;refine⟨n1,ya,za,_,_,(Bk.rsM (pre:=[]) (post:=[ca110]) (l:=([d.s0,d.s1,d.s2,d.s3,d.s4]:List Sh)) aa.bk rfl rfl zrZ B (by decide)),?_⟩;intro m4 Pa;obtain⟨Qa,Ra,Sa,Ta⟩:=Oa.blk Pa Na 2;have Ua:=aa.k Sa;obtain⟨D,Va,Wa,Xa,Ya⟩:=Ta.sto Ra [Il a.pence,Il a.remainder];have ba:=Ua.k Xa;refine⟨D,Va,?_⟩;refine⟨trivial,_,ba.bk.rc rfl,?_⟩;obtain⟨Sb,Za,Aa,Ba,Ca⟩:=Mi.rng zuL Wa ha110 Qa 3;have hp:=zrl hp Aa;refine⟨Za,Ba,?_⟩;intro m8 ab;obtain⟨bb,cb,ca,db⟩:=Ca m8 ab;have g:=ba.k ca;have h:=Ya.k ca;intro R9 Tb
 have hgo:∀(r:Nat) (da:Int) (n:List Sh) (z:M) (e:Nat->Nat),St (Fm.of m) f f z->Lb (Fm.of m) f e z 1 m.nxt 11 [Il d.s0.pence,Il d.s0.remainder,Il d.s1.pence,Il d.s1.remainder,Il d.s2.pence,Il d.s2.remainder,Il d.s3.pence,Il d.s3.remainder,Il d.s4.pence,Il d.s4.remainder,ca110]->Lb (Fm.of m) f e z 2 m0.nxt 2 [Il a.pence,Il a.remainder]->Ir (Fm.of m) f e z 3 D.nxt ca110 d.having n->pbefore_L0 d member a r da n=some rz->R9 [.c (Il da)] z:=by
  intro r
  induction r with
  | zero=>intro da n z e s g h F hp; cases hp
  | succ r Da=>
   intro da n z e s g h F hp;refine Tb _ _ ?_;rw[pbefore_L0] at hp;obtain⟨Ub,Ea,Fa,Ga⟩:=F.next s;refine⟨Ub,Ea,fun eb=>?_,fun gc hc ic fb=>?_⟩
   ·have hp:=zro (Fa eb) hp;refine⟨trivial,?_⟩;obtain⟨t,ea,fa,Ha⟩:=g.freeze s;have u:=h.k fa;have gb:=F.k fa s.sub ea (by decide);obtain⟨Zb,hp⟩:=zqq hp;obtain⟨hb,ib,w⟩:=Bk.arS (α:=Sh) (o:=0) (l:=([d.s0,d.s1,d.s2,d.s3,d.s4]:List Sh)) (i:=Int.toNat (0:Int)) (j:=Int.toNat member) Ha rfl (Nat.le_of_ble_eq_true rfl) (show Cat (α:=Sh) t [Il d.s0.pence,Il d.s0.remainder,Il d.s1.pence,Il d.s1.remainder,Il d.s2.pence,Il d.s2.remainder,Il d.s3.pence,Il d.s3.remainder,Il d.s4.pence,Il d.s4.remainder] ([d.s0,d.s1,d.s2,d.s3,d.s4]:List Sh) from ⟨[Il d.s0.pence,Il d.s0.remainder],_,rfl,rfl,⟨[Il d.s1.pence,Il d.s1.remainder],_,rfl,rfl,⟨[Il d.s2.pence,Il d.s2.remainder],_,rfl,rfl,⟨[Il d.s3.pence,Il d.s3.remainder],_,rfl,rfl,⟨[Il d.s4.pence,Il d.s4.remainder],_,rfl,rfl,rfl⟩⟩⟩⟩⟩) (by omega) (by show Int.toNat member<=5; omega);refine⟨Int.toNat (0:Int),Int.toNat member,rfl,(show member=((Int.toNat member:Nat):Int) by omega),hb,ib,w.isSl,?_⟩;intro Vb Qb
    have hgo:∀(y:Nat) (ga:Int) (ha:Int) (A:M) (p:Nat->Nat),St (Fm.of m) f t A->Lb (Fm.of m) t p A 2 m0.nxt 2 [Il a.pence,Il a.remainder]->Ir (Fm.of m) t p A 3 D.nxt ca110 d.having n->zs8 d member a y ga ha=some rz->Vb [.c (Il ga),.c (Il ha)] A:=by
     intro y
     induction y with
     | zero=>intro ga ha A p q u ia hp; cases hp
     | succ y ja=>
      intro ga ha A p q u ia hp;refine Qb _ _ _ ?_;rw[zs8] at hp
      try rw[w.slLen]
      refine ifd hp (fun jb hp=>?_) fun jb hp=>?_; rotate_left
      ·obtain rfl:=oi hp;exact hq _ q.ext'
      obtain⟨ka,G,hp⟩:=zqp hp;obtain⟨Wb,Ia,Z,G⟩:=zqj G;obtain⟨_,kb⟩:=zr0 w G;refine⟨Wb,Ia,(by first|exact Z|(rw[w.slLen];exact Z)),_,_,(kb _ q.sub).1,?_⟩;intro jc mb;obtain⟨la,I,ma,ob⟩:=q.blk mb p 4;have pb:=u.k ma;have qb:=ia.k ma q.sub I (by decide);obtain⟨rb,sb,J,na,tb⟩:=ob.sto I [Il ka.pence,Il ka.remainder];have N:=pb.k na;have oa:=qb.k na I.sub J (by decide);refine⟨rb,sb,?_⟩;refine⟨trivial,_,tb.bk.rc rfl,trivial,_,N.bk.rc rfl,?_⟩;refine ifd hp (fun ub hp=>?_) fun ub hp=>?_; rotate_left
      ·refine gdi hp fun vb hp=>?_;exact ja _ _ _ la J N oa hp
      refine gdi hp fun wb hp=>?_;refine gdi hp fun xb hp=>?_;exact ja _ _ _ la J N oa hp
    exact hgo _ _ _ _ e ea u gb hp
   obtain⟨yb,pa,zb,Ab,Ja,Xb,Ka,xa,qa,sa,ta⟩:=Ga _ _ _ fb;have hp:=zrp Ja hp;obtain⟨Bb,La,hp⟩:=zqp hp;obtain rfl:Bb=Ab:=oi (La.symm.trans Ka);generalize yb++zb=ac at hp ta;have Cb:=g.k sa;have Db:=h.k sa;refine⟨_,_,_,xa,?_⟩;intro kc Eb;obtain⟨ua,O,P,Fb⟩:=qa.blk Eb e 5;have Gb:=Cb.k P;have Hb:=Db.k P;have Ib:=ta.k P qa.sub O (by decide);obtain⟨Jb,Kb,S,T,Nb⟩:=Fb.sto O [Il pa.pence,Il pa.remainder];have va:=Gb.k T;have Y:=Hb.k T;have wa:=Ib.k T O.sub S (by decide);refine⟨Jb,Kb,?_⟩;refine⟨trivial,_,Nb.bk.rc rfl,trivial,_,Y.bk.rc rfl,?_⟩;refine ifd hp (fun Ob hp=>?_) fun Ob hp=>?_; rotate_left
   ·exact Da _ _ _ ua S va Y wa hp
   refine gdi hp fun Pb hp=>?_;exact Da _ _ _ ua S va Y wa hp
 exact hgo _ _ _ _ bb cb g h db hp
theorem zvs{need:Int}{units:P5}{m f:M}{Q:V->M->Prop}{rz:P5}(hS:Pre f m)(hp:ztc need units=some rz)(hq:∀m',Ext m m'->Q (.agg 5 [Il rz.p0,Il rz.p1,Il rz.p2,Il rz.p3,Il rz.p4]) m'):Wc prog tbl 92 [.c (Il need),.agg 5 [Il units.p0,Il units.p1,Il units.p2,Il units.p3,Il units.p4]] m Q:=by
 have S0:=hS.st;obtain⟨τ0,_⟩:=zrU;refine w92 ?_;unfold ztc at hp;intro m0 xb;obtain⟨yb,zb,Oe,Ab⟩:=S0.blk xb τ0 1;intro m1 Bb;obtain⟨Cb,Db,Eb,Fb⟩:=zb.blk Bb yb 2;have Gb:=Ab.k Eb;intro m2 Hb;obtain⟨Ib,Jb,Ya,Kb⟩:=Db.blk Hb Cb 3;have Nb:=Gb.k Ya;have Ob:=Fb.k Ya;intro m3 Pb;obtain⟨Qb,Rb,Ga,Sb⟩:=Mo.new (K:=Sh) (V':=Int) Jb Pb Ib 4;have Tb:=Nb.k Ga;have Ub:=Ob.k Ga;have Vb:=Kb.k Ga;intro m4 Wb;obtain⟨Za,Xb,wa,Yb⟩:=Rb.blk Wb Qb 5;have Zb:=Tb.k wa;have ac:=Ub.k wa;have bc:=Vb.k wa;have cc:=Sb.k wa;obtain⟨dc,ec,ab,xa,fc⟩:=Yb.sto Xb [Il 0,Il 0,Il 0,Il 0,Il 0,Il 0,Il 0,Il 0,Il 0,Il 0,(.map m2.nxt)];have bb:=Zb.k xa;have gc:=ac.k xa;have hc:=bc.k xa;have ic:=cc.k xa;refine⟨dc,ec,?_⟩;refine⟨_,_,_,_,_,bb.bk.ra,?_⟩;obtain⟨a,jc,hp⟩:=zqp hp;refine zvo (p:=units) ab.pre  jc fun df kc=>?_;obtain⟨nc,ca⟩:=ab.call kc Za;have Y:=bb.k ca;have da:=gc.k ca;have Z:=hc.k ca;have ea:=fc.k ca;have fa:=ic.k ca;refine⟨_,rfl,_,_,_,_,_,Y.bk.ra,?_⟩;intro Fe Ae
 have hgo:∀(ya:Nat) (g:Int) (B:Int) (D:Int) (F:Int) (G:Int) (I:Int) (i:Int) (j:Int) (n:Int) (o:Int) (q:Int) (r:Int) (s:Int) (t:Int) (w:Int) (y:Int) (J:Option (Sh->Option (Int))) (ga:M) (z:Nat->Nat),St (Fm.of m) f f ga->Lb (Fm.of m) f z ga 1 m.nxt 5 [Il units.p0,Il units.p1,Il units.p2,Il units.p3,Il units.p4]->Lb (Fm.of m) f z ga 2 m0.nxt 5 [Il 0,Il 0,Il 0,Il 0,Il 0]->Lb (Fm.of m) f z ga 3 m1.nxt 5 [Il B,Il D,Il F,Il G,Il I]->Lb (Fm.of m) f z ga 5 m3.nxt 11 [Il i,Il j,Il n,Il o,Il q,Il r,Il s,Il t,Il w,Il y,(.map m2.nxt)]->Mo (Fm.of m) f z ga 4 (.map m2.nxt) J->ztb need units a ya B D F G I i j n o q r s t w y J g=some rz->Fe [.c (Il g)] ga:=by
  intro ya
  induction ya with
  | zero=>intro g B D F G I i j n o q r s t w y J ga z za Y da Z ea fa hp; cases hp
  | succ ya cb=>
   intro g B D F G I i j n o q r s t w y J ga z za Y da Z ea fa hp;refine Ae _ _ ?_;rw[ztb] at hp;refine ifd hp (fun oc hp=>?_) fun oc hp=>?_; rotate_left
   ·refine⟨_,_,_,_,_,Z.bk.ra,?_⟩;obtain⟨pc,qc,hp⟩:=zqp hp;refine zvo (p:=({ p0:=B,p1:=D,p2:=F,p3:=G,p4:=I }:P5)) za.pre  qc fun ef sc=>?_;obtain⟨tc,ha⟩:=za.call sc z;have Aa:=Y.k ha;have ia:=da.k ha;have ja:=Z.k ha;have ka:=ea.k ha;have la:=fa.k ha;refine⟨_,rfl,?_⟩;refine gdi hp fun uc hp=>?_;intro Ge Be
    have hgo:∀(Ba:Nat) (ba:Int) (N:Int) (O:Int) (P:Int) (S:Int) (T:Int) (ma:M) (A:Nat->Nat),St (Fm.of m) f f ma->Lb (Fm.of m) f A ma 1 m.nxt 5 [Il units.p0,Il units.p1,Il units.p2,Il units.p3,Il units.p4]->Lb (Fm.of m) f A ma 2 m0.nxt 5 [Il 0,Il 0,Il 0,Il 0,Il 0]->Lb (Fm.of m) f A ma 3 m1.nxt 5 [Il N,Il O,Il P,Il S,Il T]->Lb (Fm.of m) f A ma 5 m3.nxt 11 [Il i,Il j,Il n,Il o,Il q,Il r,Il s,Il t,Il w,Il y,(.map m2.nxt)]->Mo (Fm.of m) f A ma 4 (.map m2.nxt) J->zta need i j n o q r s t w y J pc Ba N O P S T ba=some rz->Ge [.c (Il ba)] ma:=by
     intro Ba
     induction Ba with
     | zero=>intro ba N O P S T ma A Ca Aa ia ja ka la hp; cases hp
     | succ Ba db=>
      intro ba N O P S T ma A Ca Aa ia ja ka la hp;refine Be _ _ ?_;rw[zta] at hp;refine ifd hp (fun vc hp=>?_) fun vc hp=>?_; rotate_left
      ·refine⟨_,_,_,_,_,ja.bk.ra,?_⟩;obtain⟨wc,xc,yc,Pe,zc⟩:=ia.sto Ca [Il N,Il O,Il P,Il S,Il T];refine⟨wc,xc,?_⟩;refine⟨_,_,_,_,_,zc.bk.ra,?_⟩;obtain rfl:=oi hp;exact hq _ yc.ext'
      refine⟨_,_,_,_,_,_,_,_,_,_,_,ka.bk.ra,?_⟩;obtain⟨Qe,Ac,Re,sb⟩:=la.freeze Ca;obtain⟨Se,Bc,hp⟩:=zqp hp;refine zvr (d:=({ s0:=({ pence:=i,remainder:=j }:Sh),s1:=({ pence:=n,remainder:=o }:Sh),s2:=({ pence:=q,remainder:=r }:Sh),s3:=({ pence:=s,remainder:=t }:Sh),s4:=({ pence:=w,remainder:=y }:Sh),having:=J }:Dv)) (member:=ba) Ac.pre sb Bc fun gf Cc=>?_;obtain⟨eb,na⟩:=Ca.call Cc A;have fb:=Aa.k na;have gb:=ia.k na;have Ha:=ja.k na;have hb:=ka.k na;have ib:=la.k na;refine⟨_,rfl,?_⟩;refine ifd hp (fun Dc hp=>?_) fun Dc hp=>?_; rotate_left
      ·refine gdi hp fun Ec hp=>?_;exact db _ _ _ _ _ _ _ A eb fb gb Ha hb ib hp
      refine⟨trivial,?_⟩;obtain⟨aa,Ia,hp⟩:=zqp hp;obtain⟨He,tb,ub,Ia⟩:=zqj Ia;refine⟨He,tb,ub,_,(Ha.bk.rc (zqU (l:=([N,O,P,S,T]:List Int)) (enc:=(C.int .i64)) 0 rfl Ia)),?_⟩;obtain⟨Fc,hp⟩:=zqq hp;refine⟨Fc,trivial,?_⟩;obtain⟨Gc,hp⟩:=zqq hp;obtain⟨Ie,Pa,Qa⟩:=zqV Gc;refine⟨Ie,Pa,Qa,?_⟩;obtain⟨Hc,Ic,Jc,Da,Ja⟩:=Ha.sta eb (pre:=[]) (post:=[]) (l:=([N,O,P,S,T]:List Int)) (enc:=(C.int .i64)) rfl rfl Pa Qa ((aa+1))
      replace Ja:Lb _ _ _ _ _ _ _ [(Il (sti ba 0 (aa+1) N)),(Il (sti ba 1 (aa+1) O)),(Il (sti ba 2 (aa+1) P)),(Il (sti ba 3 (aa+1) S)),(Il (sti ba 4 (aa+1) T))]:=Ja
      have Kc:=fb.k Da;have Nc:=gb.k Da;have Pc:=hb.k Da;have Qc:=ib.k Da;refine⟨Hc,Ic,?_⟩;refine gdi hp fun Rc hp=>?_;exact db _ _ _ _ _ _ _ A Jc Kc Nc Ja Pc Qc hp
    exact hgo _ _ _ _ _ _ _ _ z tc Aa ia ja ka la hp
   obtain⟨e,Ka,hp⟩:=zqp hp;obtain⟨Je,vb,wb,Ka⟩:=zqj Ka;refine⟨Je,vb,wb,_,(zrE (l:=([units.p0,units.p1,units.p2,units.p3,units.p4]:List Int)) (enc:=(C.int .i64)) rfl Ka),?_⟩;refine gdi hp fun Tc hp=>?_;refine gdi hp fun Uc hp=>?_;refine gdi hp fun Vc hp=>?_;refine gdi hp fun Xc hp=>?_;refine gdi hp fun Yc hp=>?_;refine gdi hp fun Zc hp=>?_;refine gdi hp fun ad hp=>?_;refine gdi hp fun bd hp=>?_;refine gdi hp fun cd hp=>?_;refine gdi hp fun dd hp=>?_;refine gdi hp fun ed hp=>?_;refine gdi hp fun fd hp=>?_;intro hf hd;obtain⟨jb,id,oa,jd⟩:=za.blk hd z 6;have kd:=Y.k oa;have ld:=da.k oa;have md:=Z.k oa;have nd:=ea.k oa;have od:=fa.k oa;obtain⟨pd,qd,sd,pa,kb⟩:=jd.sto id [(Il ((need * e) / a)),(Il ((need * e) % a))];have td:=kd.k pa;have ud:=ld.k pa;have vd:=md.k pa;have wd:=nd.k pa;have xd:=od.k pa;refine⟨pd,qd,?_⟩;refine⟨_,_,kb.bk.ra,trivial,trivial,?_⟩;obtain⟨yd,hp⟩:=zqq hp;obtain⟨Ke,Ra,Sa⟩:=zqV yd;refine⟨Ke,Ra,Sa,?_⟩;obtain⟨zd,Ad,mb,qa,sa⟩:=wd.staS sd (pre:=[]) (post:=[(.map m2.nxt)]) (l:=([({ pence:=i,remainder:=j }:Sh),({ pence:=n,remainder:=o }:Sh),({ pence:=q,remainder:=r }:Sh),({ pence:=s,remainder:=t }:Sh),({ pence:=w,remainder:=y }:Sh)]:List Sh)) rfl zrZ rfl Ra Sa ({ pence:=((need * e) / a),remainder:=((need * e) % a) }:Sh) rfl
   replace sa:Lb _ _ _ _ _ _ _ [(Il (sti g 0 ({ pence:=((need * e) / a),remainder:=((need * e) % a) }:Sh) ({ pence:=i,remainder:=j }:Sh)).pence),(Il (sti g 0 ({ pence:=((need * e) / a),remainder:=((need * e) % a) }:Sh) ({ pence:=i,remainder:=j }:Sh)).remainder),(Il (sti g 1 ({ pence:=((need * e) / a),remainder:=((need * e) % a) }:Sh) ({ pence:=n,remainder:=o }:Sh)).pence),(Il (sti g 1 ({ pence:=((need * e) / a),remainder:=((need * e) % a) }:Sh) ({ pence:=n,remainder:=o }:Sh)).remainder),(Il (sti g 2 ({ pence:=((need * e) / a),remainder:=((need * e) % a) }:Sh) ({ pence:=q,remainder:=r }:Sh)).pence),(Il (sti g 2 ({ pence:=((need * e) / a),remainder:=((need * e) % a) }:Sh) ({ pence:=q,remainder:=r }:Sh)).remainder),(Il (sti g 3 ({ pence:=((need * e) / a),remainder:=((need * e) % a) }:Sh) ({ pence:=s,remainder:=t }:Sh)).pence),(Il (sti g 3 ({ pence:=((need * e) / a),remainder:=((need * e) % a) }:Sh) ({ pence:=s,remainder:=t }:Sh)).remainder),(Il (sti g 4 ({ pence:=((need * e) / a),remainder:=((need * e) % a) }:Sh) ({ pence:=w,remainder:=y }:Sh)).pence),(Il (sti g 4 ({ pence:=((need * e) / a),remainder:=((need * e) % a) }:Sh) ({ pence:=w,remainder:=y }:Sh)).remainder),(.map m2.nxt)]:=sa
   have ob:=td.k qa;have pb:=ud.k qa;have qb:=vd.k qa;have La:=kb.k qa;have Ma:=xd.k qa;refine⟨zd,Ad,?_⟩;refine⟨trivial,_,sa.bk.rc rfl,_,_,La.bk.ra,?_⟩;obtain⟨Cd,hp⟩:=zqq hp;refine⟨_,Ma.mi.lk zuK (k:=({ pence:=((need * e) / a),remainder:=((need * e) % a) }:Sh)) Cd rfl,?_⟩
   cases ta:(zqI J ({ pence:=((need * e) / a),remainder:=((need * e) % a) }:Sh)) with
   | none=>
    rw[zqQ ta] at hp;refine⟨fun _=>?_,fun u hu=>(by cases hu)⟩;refine gdi hp fun Dd hp=>?_;obtain⟨Ed,hp⟩:=zqq hp;obtain⟨Te,Fd,hp⟩:=zqp hp;obtain⟨Ue,Ve,We,Gd,Hd,Id,Jd,Ld,ua,Md⟩:=Mo.opa zuK mb Ma (k:=({ pence:=((need * e) / a),remainder:=((need * e) % a) }:Sh)) Ed (v:=(1:Int)) Fd (.c (Il 0)) (kv:=.agg 2 [(Il ((need * e) / a)),(Il ((need * e) % a))]) (yv:=.c (Il (1:Int))) rfl rfl;have Nd:=ob.k ua;have Od:=pb.k ua;have Pd:=qb.k ua;have Qd:=sa.k ua;have Rd:=La.k ua;refine⟨_,_,_,Hd,⟨_,Id,by rw[ta]; exact⟨rfl,rfl⟩⟩,_,Gd,rfl,Jd,?_⟩;refine⟨trivial,_,Rd.bk.rc rfl,trivial,?_⟩;obtain⟨Sd,hp⟩:=zqq hp;obtain⟨Me,Ta,Ua⟩:=zqV Sd;refine⟨Me,Ta,Ua,?_⟩;obtain⟨Td,Ud,Vd,Ea,Na⟩:=Pd.sta Ld (pre:=[]) (post:=[]) (l:=([B,D,F,G,I]:List Int)) (enc:=(C.int .i64)) rfl rfl Ta Ua (((need * e) / a))
    replace Na:Lb _ _ _ _ _ _ _ [(Il (sti g 0 ((need * e) / a) B)),(Il (sti g 1 ((need * e) / a) D)),(Il (sti g 2 ((need * e) / a) F)),(Il (sti g 3 ((need * e) / a) G)),(Il (sti g 4 ((need * e) / a) I))]:=Na
    have Wd:=Nd.k Ea;have Xd:=Od.k Ea;have Yd:=Qd.k Ea;have Zd:=Md.k Ea;refine⟨Td,Ud,?_⟩;refine gdi hp fun ae hp=>?_;exact cb _ _ _ _ _ _ _ _ _ _ _ _ _ _ _ _ _ _ jb Vd Wd Xd Na Yd Zd hp
   | some rb=>
    rw[zqR ta] at hp;refine⟨fun h=>(by cases h),fun u hu=>?_⟩;obtain rfl:=oi hu;refine⟨_,rfl,?_⟩;refine gdi hp fun be hp=>?_;obtain⟨ce,hp⟩:=zqq hp;obtain⟨Xe,de,hp⟩:=zqp hp;obtain⟨Ye,Ze,af,ee,fe,ge,he,ie,va,je⟩:=Mo.opa zuK mb Ma (k:=({ pence:=((need * e) / a),remainder:=((need * e) % a) }:Sh)) ce (v:=(rb+1)) de (.c (Il 0)) (kv:=.agg 2 [(Il ((need * e) / a)),(Il ((need * e) % a))]) (yv:=.c (Il (rb+1))) rfl rfl;have ke:=ob.k va;have me:=pb.k va;have oe:=qb.k va;have pe:=sa.k va;have qe:=La.k va;refine⟨_,_,_,fe,⟨_,ge,by rw[ta]; exact⟨rfl,rfl⟩⟩,_,ee,rfl,he,?_⟩;refine⟨trivial,_,qe.bk.rc rfl,trivial,?_⟩;obtain⟨re,hp⟩:=zqq hp;obtain⟨Ne,Va,Wa⟩:=zqV re;refine⟨Ne,Va,Wa,?_⟩;obtain⟨se,te,ue,Fa,Oa⟩:=oe.sta ie (pre:=[]) (post:=[]) (l:=([B,D,F,G,I]:List Int)) (enc:=(C.int .i64)) rfl rfl Va Wa (((need * e) / a))
    replace Oa:Lb _ _ _ _ _ _ _ [(Il (sti g 0 ((need * e) / a) B)),(Il (sti g 1 ((need * e) / a) D)),(Il (sti g 2 ((need * e) / a) F)),(Il (sti g 3 ((need * e) / a) G)),(Il (sti g 4 ((need * e) / a) I))]:=Oa
    have ve:=ke.k Fa;have we:=me.k Fa;have xe:=pe.k Fa;have ye:=je.k Fa;refine⟨se,te,?_⟩;refine gdi hp fun ze hp=>?_;exact cb _ _ _ _ _ _ _ _ _ _ _ _ _ _ _ _ _ _ jb ue ve we Oa xe ye hp
 exact hgo _ _ _ _ _ _ _ _ _ _ _ _ _ _ _ _ _ _ _ Za nc Y da Z ea fa hp
theorem zvt{o:Oc}{m f:M}{Q:V->M->Prop}{rz:Int}(hS:Pre f m)(hp:ztd o=some rz)(hq:∀m',Ext m m'->Q (.c (Il rz)) m'):Wc prog tbl 63 [.agg 6 [Il o.need,Il o.calls.p0,Il o.calls.p1,Il o.calls.p2,Il o.calls.p3,Il o.calls.p4]] m Q:=by
 have i:=hS.st;obtain⟨j,_⟩:=zrU;refine w63 ?_;unfold ztd at hp;intro l a;obtain⟨g,d,h,e⟩:=i.blk a j 1;refine⟨trivial,_,e.bk.rc rfl,?_⟩;obtain rfl:=oi hp;exact hq _ d.ext'
theorem zvu{o:Oc}{m f:M}{Q:V->M->Prop}{rz:Int}(hS:Pre f m)(hp:zte o=some rz)(hq:∀m',Ext m m'->Q (.c (Il rz)) m'):Wc prog tbl 70 [.agg 6 [Il o.need,Il o.calls.p0,Il o.calls.p1,Il o.calls.p2,Il o.calls.p3,Il o.calls.p4]] m Q:=by
 have u:=hS.st;obtain⟨w,_⟩:=zrU;refine w70 ?_;unfold zte at hp;intro y e;obtain⟨g,d,s,a⟩:=u.blk e w 1;refine⟨trivial,_,a.bk.rc rfl,trivial,_,_,_,_,_,a.bk.rp (k:=1) (j:=5) rfl (by omega),?_⟩;obtain⟨t,h,hp⟩:=zqp hp;refine zvo (p:=o.calls) d.pre  h fun z i=>?_;obtain⟨l,n⟩:=d.call i g;have q:=a.k n;refine⟨_,rfl,(q.bk.rc rfl),?_⟩;refine gdi hp fun r hp=>?_;obtain rfl:=oi hp;exact hq _ l.ext'
theorem zvv{o:Oc}{more:P5}{m f:M}{Q:V->M->Prop}{rz:Oc}(hS:Pre f m)(hp:ztf o more=some rz)(hq:∀m',Ext m m'->Q (.agg 6 [Il rz.need,Il rz.calls.p0,Il rz.calls.p1,Il rz.calls.p2,Il rz.calls.p3,Il rz.calls.p4]) m'):Wc prog tbl 95 [.agg 6 [Il o.need,Il o.calls.p0,Il o.calls.p1,Il o.calls.p2,Il o.calls.p3,Il o.calls.p4],.agg 5 [Il more.p0,Il more.p1,Il more.p2,Il more.p3,Il more.p4]] m Q:=by
 have S0:=hS.st;obtain⟨τ0,_⟩:=zrU;refine w95 ?_;unfold ztf at hp;intro m0 i;obtain⟨l,n,da,q⟩:=S0.blk i τ0 1;intro m1 r;obtain⟨s,t,u,w⟩:=n.blk r l 2;have y:=q.k u;intro m2 z;obtain⟨A,d,e,B⟩:=t.blk z s 3;have g:=y.k e;have D:=w.k e;refine⟨trivial,_,_,_,_,_,g.bk.rp (k:=1) (j:=5) rfl (by omega),_,_,_,_,_,D.bk.ra,?_⟩;obtain⟨a,F,hp⟩:=zqp hp;refine zvp (p:=o.calls) (more:=more) d.pre  F fun ha G=>?_;obtain⟨I,h⟩:=d.call G A;have J:=g.k h;have N:=B.k h;refine⟨_,_,_,_,_,rfl,trivial,?_⟩;obtain⟨O,P,S,T,c⟩:=J.stoP I 1 [Il a.p0,Il a.p1,Il a.p2,Il a.p3,Il a.p4] (Nat.le_of_ble_eq_true rfl) rfl
 replace c:Lb _ _ _ _ _ _ _ [Il o.need,Il a.p0,Il a.p1,Il a.p2,Il a.p3,Il a.p4]:=c
 have Y:=N.k T;refine⟨O,P,?_⟩;refine⟨_,_,_,_,_,_,c.bk.ra,?_⟩;obtain⟨Z,aa,ba,ea,ca⟩:=Y.sto S [Il o.need,Il a.p0,Il a.p1,Il a.p2,Il a.p3,Il a.p4];refine⟨Z,aa,?_⟩;refine⟨_,_,_,_,_,_,ca.bk.ra,?_⟩;obtain rfl:=oi hp;exact hq _ ba.ext'
theorem zvw{m_:Mb}{m f:M}{Q:V->M->Prop}{rz:Int}(hS:Pre f m)(hp:ztg m_=some rz)(hq:∀m',Ext m m'->Q (.c (Il rz)) m'):Wc prog tbl 113 [.agg 3 [Il m_.Sum,Il m_.Class,Il m_.Most]] m Q:=by
 have n:=hS.st;obtain⟨o,_⟩:=zrU;refine zuc ?_;unfold ztg at hp;intro p d;obtain⟨j,e,l,a⟩:=n.blk d o 1;refine⟨trivial,_,a.bk.rc rfl,trivial,_,a.bk.rc rfl,?_⟩;refine gdi hp fun g hp=>?_;refine gdi hp fun h hp=>?_;refine gdi hp fun i hp=>?_;obtain rfl:=oi hp;exact hq _ e.ext'
theorem zvx{m_:Mb}{m f:M}{Q:V->M->Prop}{rz:Int}(hS:Pre f m)(hp:zth m_=some rz)(hq:∀m',Ext m m'->Q (.c (Il rz)) m'):Wc prog tbl 115 [.agg 3 [Il m_.Sum,Il m_.Class,Il m_.Most]] m Q:=by
 have i:=hS.st;obtain⟨j,_⟩:=zrU;refine zt3 ?_;unfold zth at hp;intro l a;obtain⟨g,d,h,e⟩:=i.blk a j 1;refine⟨trivial,_,e.bk.rc rfl,?_⟩;obtain rfl:=oi hp;exact hq _ d.ext'
theorem zvy{w:Wk}{of_:F5}{number:Mb->Option (Int)}{ca100 ca101 ca300:C}{m f:M}{Q:V->M->Prop}{rz:P5}(hS:Pre f m)(ha100:Sl f ca100 w.s.Members)(_ha101:Sl f ca101 w.s.Losses)(ha300:zuJ f ca300 number)(hp:ztj w of_ number=some rz)(hq:∀m',Ext m m'->Q (.agg 5 [Il rz.p0,Il rz.p1,Il rz.p2,Il rz.p3,Il rz.p4]) m'):Wc prog tbl 112 [.agg 10 [ca100,ca101,Il w.s.Treaty.Lo,Il w.s.Treaty.Hi,Il w.s.Reserve,.bool w.asked.b0,.bool w.asked.b1,.bool w.asked.b2,.bool w.asked.b3,.bool w.asked.b4],.agg 5 [.bool of_.b0,.bool of_.b1,.bool of_.b2,.bool of_.b3,.bool of_.b4],.c ca300] m Q:=by
 have S0:=hS.st;obtain⟨τ0,_⟩:=zrU;refine zt7 ?_;unfold ztj at hp;intro m0 ia;obtain⟨ja,ka,ob,la⟩:=S0.blk ia τ0 1;intro m1 ma;obtain⟨na,oa,pa,qa⟩:=ka.blk ma ja 2;have sa:=la.k pa;intro m2 ta;obtain⟨ua,va,aa,wa⟩:=oa.blk ta na 3;have xa:=sa.k aa;have ya:=qa.k aa;intro m3 za;obtain⟨Aa,Ba,A,n⟩:=va.blk za ua 4;have o:=xa.k A;have q:=ya.k A;have p:=wa.k A;refine⟨trivial,trivial,_,o.bk.rc rfl,ha100.isSl,?_⟩;intro R5 jb
 have hgo:∀(r:Nat) (B:Int) (a:Int) (d:Int) (e:Int) (g:Int) (h:Int) (S:M) (i:Nat->Nat),St (Fm.of m) f f S->Lb (Fm.of m) f i S 1 m.nxt 10 [ca100,ca101,Il w.s.Treaty.Lo,Il w.s.Treaty.Hi,Il w.s.Reserve,.bool w.asked.b0,.bool w.asked.b1,.bool w.asked.b2,.bool w.asked.b3,.bool w.asked.b4]->Lb (Fm.of m) f i S 2 m0.nxt 5 [.bool of_.b0,.bool of_.b1,.bool of_.b2,.bool of_.b3,.bool of_.b4]->Lb (Fm.of m) f i S 3 m1.nxt 5 [Il 0,Il 0,Il 0,Il 0,Il 0]->Lb (Fm.of m) f i S 4 m2.nxt 5 [Il a,Il d,Il e,Il g,Il h]->zti w of_ number r a d e g h B=some rz->R5 [.c (Il B)] S:=by
  intro r
  induction r with
  | zero=>intro B a d e g h S i t o q p n hp; cases hp
  | succ r ea=>
   intro B a d e g h S i t o q p n hp;refine jb _ _ ?_;rw[zti] at hp
   try rw[ha100.slLen]
   refine ifd hp (fun Ca hp=>?_) fun Ca hp=>?_; rotate_left
   ·refine⟨_,_,_,_,_,n.bk.ra,?_⟩;obtain⟨Da,Ea,Fa,pb,Ga⟩:=p.sto t [Il a,Il d,Il e,Il g,Il h];refine⟨Da,Ea,?_⟩;refine⟨_,_,_,_,_,Ga.bk.ra,?_⟩;obtain rfl:=oi hp;exact hq _ Fa.ext'
   obtain⟨D,F,hp⟩:=zqp hp;obtain⟨n8,fa,T,F⟩:=zqj F;obtain⟨_,Ha⟩:=zrW ha100 F;refine⟨n8,fa,(by first|exact T|(rw[ha100.slLen];exact T)),_,_,_,(Ha _ t.sub).1,?_⟩;intro yb Ia;obtain⟨G,Ja,u,Ka⟩:=t.blk Ia i 5;have La:=o.k u;have Ma:=q.k u;have Na:=p.k u;have Oa:=n.k u;obtain⟨Pa,Qa,I,y,Ra⟩:=Ka.sto Ja [Il D.Sum,Il D.Class,Il D.Most];have ba:=La.k y;have J:=Ma.k y;have ca:=Na.k y;have da:=Oa.k y;refine⟨Pa,Qa,?_⟩;refine⟨trivial,?_⟩;obtain⟨qb,N,hp⟩:=zqp hp;obtain⟨kb,ga,ha,N⟩:=zqj N;refine⟨kb,ga,ha,_,(J.bk.rc (zqU (l:=([of_.b0,of_.b1,of_.b2,of_.b3,of_.b4]:List Bool)) (enc:=C.bool) 0 rfl N)),?_⟩;refine zqZ hp (fun Sa hp=>?_) fun Sa hp=>?_; rotate_left
   ·refine gdi hp fun Ta hp=>?_;exact ea _ _ _ _ _ _ _ G I ba J ca da hp
   refine⟨_,_,_,Ra.bk.ra,?_⟩;obtain⟨j,Ua,hp⟩:=zqp hp;refine ha300 _ _ _ _ _ (Sub.refl _) I.pre  Ua fun zb Va=>?_;obtain⟨Wa,z⟩:=I.call Va G;have Xa:=ba.k z;have Ya:=J.k z;have Za:=ca.k z;have ab:=da.k z;refine⟨_,rfl,trivial,?_⟩;obtain⟨bb,hp⟩:=zqq hp;obtain⟨mb,Y,Z⟩:=zqV bb;refine⟨mb,Y,Z,?_⟩;obtain⟨cb,db,eb,O,P⟩:=ab.sta Wa (pre:=[]) (post:=[]) (l:=([a,d,e,g,h]:List Int)) (enc:=(C.int .i64)) rfl rfl Y Z j
   replace P:Lb _ _ _ _ _ _ _ [(Il (sti B 0 j a)),(Il (sti B 1 j d)),(Il (sti B 2 j e)),(Il (sti B 3 j g)),(Il (sti B 4 j h))]:=P
   have fb:=Xa.k O;have gb:=Ya.k O;have hb:=Za.k O;refine⟨cb,db,?_⟩;refine gdi hp fun ib hp=>?_;exact ea _ _ _ _ _ _ _ G eb fb gb hb P hp
 exact hgo _ _ _ _ _ _ _ _ Aa Ba o q p n hp
theorem zvz{w:Wk}{of_:F5}{ca100 ca101:C}{m f:M}{Q:V->M->Prop}{rz:P5}(hS:Pre f m)(ha100:Sl f ca100 w.s.Members)(ha101:Sl f ca101 w.s.Losses)(hp:ztk w of_=some rz)(hq:∀m',Ext m m'->Q (.agg 5 [Il rz.p0,Il rz.p1,Il rz.p2,Il rz.p3,Il rz.p4]) m'):Wc prog tbl 93 [.agg 10 [ca100,ca101,Il w.s.Treaty.Lo,Il w.s.Treaty.Hi,Il w.s.Reserve,.bool w.asked.b0,.bool w.asked.b1,.bool w.asked.b2,.bool w.asked.b3,.bool w.asked.b4],.agg 5 [.bool of_.b0,.bool of_.b1,.bool of_.b2,.bool of_.b3,.bool of_.b4]] m Q:=by
 have S0:=hS.st;obtain⟨τ0,_⟩:=zrU;refine w93 ?_;unfold ztk at hp;intro m0 h;obtain⟨i,j,Y,l⟩:=S0.blk h τ0 1;intro m1 n;obtain⟨o,p,q,t⟩:=j.blk n i 2;have u:=l.k q;intro m2 y;obtain⟨z,d,e,A⟩:=p.blk y o 3;have B:=u.k e;have D:=t.k e;refine⟨_,_,_,_,_,_,_,_,_,_,B.bk.ra,_,_,_,_,_,D.bk.ra,?_⟩
 have g:zuJ f ((C.fn (Fn.func 113) [] [])) (fun c=>ztg c):=by
  intro f' m' c r Q hs hpre  hg hq;exact zvw hpre  hg hq
 obtain⟨a,F,hp⟩:=zqp hp;refine zvy (w:=w) (of_:=of_) (number:=(fun c=>ztg c)) d.pre ha100 ha101 g F fun ca G=>?_;obtain⟨I,J⟩:=d.call G z;have N:=A.k J;refine⟨_,_,_,_,_,rfl,?_⟩;obtain⟨O,P,S,Z,T⟩:=N.sto I [Il a.p0,Il a.p1,Il a.p2,Il a.p3,Il a.p4];refine⟨O,P,?_⟩;refine⟨_,_,_,_,_,T.bk.ra,?_⟩;obtain rfl:=oi hp;exact hq _ S.ext'
theorem zvA{w:Wk}{of_:F5}{ca100 ca101:C}{m f:M}{Q:V->M->Prop}{rz:P5}(hS:Pre f m)(ha100:Sl f ca100 w.s.Members)(ha101:Sl f ca101 w.s.Losses)(hp:ztl w of_=some rz)(hq:∀m',Ext m m'->Q (.agg 5 [Il rz.p0,Il rz.p1,Il rz.p2,Il rz.p3,Il rz.p4]) m'):Wc prog tbl 96 [.agg 10 [ca100,ca101,Il w.s.Treaty.Lo,Il w.s.Treaty.Hi,Il w.s.Reserve,.bool w.asked.b0,.bool w.asked.b1,.bool w.asked.b2,.bool w.asked.b3,.bool w.asked.b4],.agg 5 [.bool of_.b0,.bool of_.b1,.bool of_.b2,.bool of_.b3,.bool of_.b4]] m Q:=by
 have S0:=hS.st;obtain⟨τ0,_⟩:=zrU;refine w96 ?_;unfold ztl at hp;intro m0 h;obtain⟨i,j,Y,l⟩:=S0.blk h τ0 1;intro m1 n;obtain⟨o,p,q,t⟩:=j.blk n i 2;have u:=l.k q;intro m2 y;obtain⟨z,d,e,A⟩:=p.blk y o 3;have B:=u.k e;have D:=t.k e;refine⟨_,_,_,_,_,_,_,_,_,_,B.bk.ra,_,_,_,_,_,D.bk.ra,?_⟩
 have g:zuJ f ((C.fn (Fn.func 115) [] [])) (fun c=>zth c):=by
  intro f' m' c r Q hs hpre  hg hq;exact zvx hpre  hg hq
 obtain⟨a,F,hp⟩:=zqp hp;refine zvy (w:=w) (of_:=of_) (number:=(fun c=>zth c)) d.pre ha100 ha101 g F fun ca G=>?_;obtain⟨I,J⟩:=d.call G z;have N:=A.k J;refine⟨_,_,_,_,_,rfl,?_⟩;obtain⟨O,P,S,Z,T⟩:=N.sto I [Il a.p0,Il a.p1,Il a.p2,Il a.p3,Il a.p4];refine⟨O,P,?_⟩;refine⟨_,_,_,_,_,T.bk.ra,?_⟩;obtain rfl:=oi hp;exact hq _ S.ext'
theorem zvB{w:Wk}{sharing:F5}{shares:P5}{ca100 ca101:C}{m f:M}{Q:V->M->Prop}{rz:F5}(hS:Pre f m)(ha100:Sl f ca100 w.s.Members)(_ha101:Sl f ca101 w.s.Losses)(hp:ztn w sharing shares=some rz)(hq:∀m',Ext m m'->Q (.agg 5 [.bool rz.b0,.bool rz.b1,.bool rz.b2,.bool rz.b3,.bool rz.b4]) m'):Wc prog tbl 94 [.agg 10 [ca100,ca101,Il w.s.Treaty.Lo,Il w.s.Treaty.Hi,Il w.s.Reserve,.bool w.asked.b0,.bool w.asked.b1,.bool w.asked.b2,.bool w.asked.b3,.bool w.asked.b4],.agg 5 [.bool sharing.b0,.bool sharing.b1,.bool sharing.b2,.bool sharing.b3,.bool sharing.b4],.agg 5 [Il shares.p0,Il shares.p1,Il shares.p2,Il shares.p3,Il shares.p4]] m Q:=by
 have S0:=hS.st;obtain⟨τ0,_⟩:=zrU;refine w94 ?_;unfold ztn at hp;intro m0 oa;obtain⟨pa,qa,wb,sa⟩:=S0.blk oa τ0 1;intro m1 ta;obtain⟨ua,va,wa,xa⟩:=qa.blk ta pa 2;have ya:=sa.k wa;intro m2 za;obtain⟨Aa,Ba,da,Ca⟩:=va.blk za ua 3;have Da:=ya.k da;have Ea:=xa.k da;intro m3 Fa;obtain⟨Ga,Ha,B,o⟩:=Ba.blk Fa Aa 4;have p:=Da.k B;have q:=Ea.k B;have t:=Ca.k B;refine⟨trivial,trivial,_,p.bk.rc rfl,ha100.isSl,?_⟩;intro R5 rb
 have hgo:∀(u:Nat) (r:Int) (a:Bool) (d:Bool) (e:Bool) (g:Bool) (h:Bool) (T:M) (j:Nat->Nat),St (Fm.of m) f f T->Lb (Fm.of m) f j T 1 m.nxt 10 [ca100,ca101,Il w.s.Treaty.Lo,Il w.s.Treaty.Hi,Il w.s.Reserve,.bool w.asked.b0,.bool w.asked.b1,.bool w.asked.b2,.bool w.asked.b3,.bool w.asked.b4]->Lb (Fm.of m) f j T 2 m0.nxt 5 [.bool a,.bool d,.bool e,.bool g,.bool h]->Lb (Fm.of m) f j T 3 m1.nxt 5 [Il shares.p0,Il shares.p1,Il shares.p2,Il shares.p3,Il shares.p4]->Lb (Fm.of m) f j T 4 m2.nxt 5 [.bool false,.bool false,.bool false,.bool false,.bool false]->ztm w shares u a d e g h r=some rz->R5 [.c (Il r)] T:=by
  intro u
  induction u with
  | zero=>intro r a d e g h T j y p q t o hp; cases hp
  | succ u ia=>
   intro r a d e g h T j y p q t o hp;refine rb _ _ ?_;rw[ztm] at hp
   try rw[ha100.slLen]
   refine ifd hp (fun Ia hp=>?_) fun Ia hp=>?_; rotate_left
   ·refine⟨_,_,_,_,_,q.bk.ra,?_⟩;obtain⟨Ja,Ka,La,xb,Ma⟩:=o.sto y [.bool a,.bool d,.bool e,.bool g,.bool h];refine⟨Ja,Ka,?_⟩;refine⟨_,_,_,_,_,Ma.bk.ra,?_⟩;obtain rfl:=oi hp;exact hq _ La.ext'
   obtain⟨i,D,hp⟩:=zqp hp;obtain⟨n8,ja,Y,D⟩:=zqj D;obtain⟨_,Na⟩:=zrW ha100 D;refine⟨n8,ja,(by first|exact Y|(rw[ha100.slLen];exact Y)),_,_,_,(Na _ y.sub).1,?_⟩;intro Gb Oa;obtain⟨ea,Pa,z,Qa⟩:=y.blk Oa j 5;have Ra:=p.k z;have Sa:=q.k z;have Ta:=t.k z;have Ua:=o.k z;obtain⟨Va,Wa,fa,A,Xa⟩:=Qa.sto Pa [Il i.Sum,Il i.Class,Il i.Most];have ga:=Ra.k A;have F:=Sa.k A;have G:=Ta.k A;have ha:=Ua.k A;refine⟨Va,Wa,?_⟩;refine⟨trivial,?_⟩;obtain⟨yb,I,hp⟩:=zqp hp;obtain⟨sb,ka,la,I⟩:=zqj I;refine⟨sb,ka,la,_,(F.bk.rc (zqU (l:=([a,d,e,g,h]:List Bool)) (enc:=C.bool) 0 rfl I)),?_⟩;refine zqZ hp (fun Ya hp=>?_) fun Ya hp=>?_; rotate_left
   ·refine⟨trivial,?_⟩;obtain⟨Za,hp⟩:=zqq hp;obtain⟨tb,Z,aa⟩:=zqV Za;refine⟨tb,Z,aa,?_⟩;obtain⟨ab,bb,cb,J,N⟩:=F.sta fa (pre:=[]) (post:=[]) (l:=([a,d,e,g,h]:List Bool)) (enc:=C.bool) rfl rfl Z aa false
    replace N:Lb _ _ _ _ _ _ _ [(.bool (sti r 0 false a)),(.bool (sti r 1 false d)),(.bool (sti r 2 false e)),(.bool (sti r 3 false g)),(.bool (sti r 4 false h))]:=N
    have db:=ga.k J;have eb:=G.k J;have fb:=ha.k J;refine⟨ab,bb,?_⟩;refine gdi hp fun gb hp=>?_;exact ia _ _ _ _ _ _ _ ea cb db N eb fb hp
   refine⟨trivial,?_⟩;obtain⟨n,O,hp⟩:=zqp hp;obtain⟨ub,ma,na,O⟩:=zqj O;refine⟨ub,ma,na,_,(G.bk.rc (zqU (l:=([shares.p0,shares.p1,shares.p2,shares.p3,shares.p4]:List Int)) (enc:=(C.int .i64)) 0 rfl O)),trivial,_,Xa.bk.rc rfl,trivial,?_⟩;obtain⟨hb,hp⟩:=zqq hp;obtain⟨vb,ba,ca⟩:=zqV hb;refine⟨vb,ba,ca,?_⟩;obtain⟨ib,jb,kb,P,S⟩:=F.sta fa (pre:=[]) (post:=[]) (l:=([a,d,e,g,h]:List Bool)) (enc:=C.bool) rfl rfl ba ca ((decide (n<=i.Most)))
   replace S:Lb _ _ _ _ _ _ _ [(.bool (sti r 0 (decide (n<=i.Most)) a)),(.bool (sti r 1 (decide (n<=i.Most)) d)),(.bool (sti r 2 (decide (n<=i.Most)) e)),(.bool (sti r 3 (decide (n<=i.Most)) g)),(.bool (sti r 4 (decide (n<=i.Most)) h))]:=S
   have mb:=ga.k P;have ob:=G.k P;have pb:=ha.k P;refine⟨ib,jb,?_⟩;refine gdi hp fun qb hp=>?_;exact ia _ _ _ _ _ _ _ ea kb mb S ob pb hp
 exact hgo _ _ _ _ _ _ _ _ Ga Ha p q t o hp
theorem zvC{w:Wk}{need:Int}{ca100 ca101:C}{m f:M}{Q:V->M->Prop}{rz:Oc}(hS:Pre f m)(ha100:Sl f ca100 w.s.Members)(ha101:Sl f ca101 w.s.Losses)(hp:ztp w need=some rz)(hq:∀m',Ext m m'->Q (.agg 6 [Il rz.need,Il rz.calls.p0,Il rz.calls.p1,Il rz.calls.p2,Il rz.calls.p3,Il rz.calls.p4]) m'):Wc prog tbl 68 [.agg 10 [ca100,ca101,Il w.s.Treaty.Lo,Il w.s.Treaty.Hi,Il w.s.Reserve,.bool w.asked.b0,.bool w.asked.b1,.bool w.asked.b2,.bool w.asked.b3,.bool w.asked.b4],.c (Il need)] m Q:=by
 have S0:=hS.st;obtain⟨τ0,_⟩:=zrU;refine w68 ?_;unfold ztp at hp;intro m0 Ta;obtain⟨Ua,Va,Vd,Wa⟩:=S0.blk Ta τ0 1;intro m1 Xa;obtain⟨Ya,Za,ab,bb⟩:=Va.blk Xa Ua 2;have cb:=Wa.k ab;intro m2 db;obtain⟨eb,fb,qa,gb⟩:=Za.blk db Ya 3;have hb:=cb.k qa;have ib:=bb.k qa;obtain⟨sa,jb,kb,ta,mb⟩:=gb.sto fb [Il need,Il 0,Il 0,Il 0,Il 0,Il 0];have ua:=hb.k ta;have ob:=ib.k ta;refine⟨sa,jb,?_⟩;refine⟨trivial,_,_,_,_,_,ua.bk.rp (k:=5) (j:=5) rfl (by omega),?_⟩;intro m9 pb;obtain⟨qb,rb,ka,sb⟩:=kb.blk pb eb 4;have tb:=ua.k ka;have ub:=ob.k ka;have vb:=mb.k ka;obtain⟨wb,xb,yb,la,B⟩:=sb.sto rb [.bool w.asked.b0,.bool w.asked.b1,.bool w.asked.b2,.bool w.asked.b3,.bool w.asked.b4];have ca:=tb.k la;have D:=ub.k la;have F:=vb.k la;refine⟨wb,xb,?_⟩;intro Ud Td
 have hgo:∀(da:Nat) (e:Int) (g:Int) (h:Int) (i:Int) (l:Int) (n:Int) (p:Bool) (q:Bool) (r:Bool) (t:Bool) (u:Bool) (ba:M) (y:Nat->Nat),St (Fm.of m) f f ba->Lb (Fm.of m) f y ba 1 m.nxt 10 [ca100,ca101,Il w.s.Treaty.Lo,Il w.s.Treaty.Hi,Il w.s.Reserve,.bool w.asked.b0,.bool w.asked.b1,.bool w.asked.b2,.bool w.asked.b3,.bool w.asked.b4]->Lb (Fm.of m) f y ba 2 m0.nxt 6 [Il 0,Il 0,Il 0,Il 0,Il 0,Il 0]->Lb (Fm.of m) f y ba 3 m1.nxt 6 [Il e,Il g,Il h,Il i,Il l,Il n]->Lb (Fm.of m) f y ba 4 sa.nxt 5 [.bool p,.bool q,.bool r,.bool t,.bool u]->zto w need da e g h i l n p q r t u=some rz->Ud [] ba:=by
  intro da
  induction da with
  | zero=>intro e g h i l n p q r t u ba y ma ca D F B hp; cases hp
  | succ da zb=>
   intro e g h i l n p q r t u ba y ma ca D F B hp;refine Td  _ ?_;rw[zto] at hp;refine⟨_,_,_,_,_,B.bk.ra,?_⟩;refine zq0 hp (fun Ab hp=>?_) fun Ab hp=>?_; rotate_left
   ·refine⟨_,_,_,_,_,_,F.bk.ra,?_⟩;obtain⟨Bb,Cb,Db,Wd,Eb⟩:=D.sto ma [Il e,Il g,Il h,Il i,Il l,Il n];refine⟨Bb,Cb,?_⟩;refine⟨_,_,_,_,_,_,Eb.bk.ra,?_⟩;obtain rfl:=oi hp;exact hq _ Db.ext'
   intro ge Fb;obtain⟨G,va,ea,Sa⟩:=ma.growK Fb y 5;have wa:=ca.k ea;have Gb:=D.k ea;have xa:=F.k ea;have ya:=B.k ea;have Hb:=Sa 0 (by decide);refine⟨_,_,_,_,_,_,xa.bk.ra,?_⟩;obtain⟨Ib,Jb,hp⟩:=zqp hp;refine zvu (o:=({ need:=e,calls:=({ p0:=g,p1:=h,p2:=i,p3:=l,p4:=n }:P5) }:Oc)) va.pre  Jb fun he Kb=>?_;obtain⟨za,I⟩:=va.call Kb G;have Aa:=wa.k I;have Nb:=Gb.k I;have Ob:=xa.k I;have Ba:=ya.k I;have Pb:=Hb.k I;refine⟨_,rfl,_,_,_,_,_,_,_,_,_,_,Aa.bk.ra,(by rw[show zaL cmC _=true from zoV (zqt ha100.noFn (zqt ha101.noFn (zqt rfl (zqt rfl (zqt rfl (zqt rfl (zqt rfl (zqt rfl (zqt rfl (zqt rfl zqu))))))))))]; exact(wa.bk.ra)),_,_,_,_,_,Ba.bk.ra,(ya.bk.ra),?_⟩;obtain⟨Qb,Rb,hp⟩:=zqp hp;refine zvz (w:=w) (of_:=({ b0:=p,b1:=q,b2:=r,b3:=t,b4:=u }:F5)) za.pre ha100 ha101 Rb fun ie Sb=>?_;obtain⟨Ca,J⟩:=za.call Sb G;have Tb:=Aa.k J;have Ub:=Nb.k J;have Vb:=Ob.k J;have Wb:=Ba.k J;have Xb:=Pb.k J;refine⟨_,_,_,_,_,rfl,?_⟩;obtain⟨z,Yb,hp⟩:=zqp hp;refine zvs (need:=Ib) (units:=Qb) Ca.pre  Yb fun je Zb=>?_;obtain⟨ac,N⟩:=Ca.call Zb G;have bc:=Tb.k N;have cc:=Ub.k N;have dc:=Vb.k N;have ec:=Wb.k N;have fc:=Xb.k N;refine⟨_,_,_,_,_,rfl,?_⟩;intro ke gc;obtain⟨hc,fa,ic⟩:=fc.set ac gc;have Da:=bc.k fa;have jc:=cc.k fa;have Ea:=dc.k fa;have Fa:=ec.k fa;refine⟨(Fa.bk.ra),(by rw[show zaL cmC _=true from zoV (zqt ha100.noFn (zqt ha101.noFn (zqt rfl (zqt rfl (zqt rfl (zqt rfl (zqt rfl (zqt rfl (zqt rfl (zqt rfl zqu))))))))))]; exact(Da.bk.ra)),(Ea.bk.ra),?_⟩
   obtain⟨kc,nc,Ga,ga,Ha⟩:=ic.sto hc [Il z.p0,Il z.p1,Il z.p2,Il z.p3,Il z.p4];have Ia:=Da.k ga;have oc:=jc.k ga;have pc:=Ea.k ga;have Ja:=Fa.k ga;refine⟨kc,nc,?_⟩;refine⟨_,_,_,_,_,_,_,_,_,_,Ia.bk.ra,_,_,_,_,_,Ja.bk.ra,_,_,_,_,_,Ha.bk.ra,?_⟩;obtain⟨d,qc,hp⟩:=zqp hp;refine zvB (w:=w) (sharing:=({ b0:=p,b1:=q,b2:=r,b3:=t,b4:=u }:F5)) (shares:=z) Ga.pre ha100 ha101 qc fun me sc=>?_;obtain⟨tc,O⟩:=Ga.call sc G;have uc:=Ia.k O;have vc:=oc.k O;have wc:=pc.k O;have xc:=Ja.k O;have yc:=Ha.k O;refine⟨_,_,_,_,_,rfl,?_⟩;intro oe zc;obtain⟨P,Ac,S,Bc⟩:=tc.blk zc G 6;have Cc:=uc.k S;have Dc:=vc.k S;have Ec:=wc.k S;have Fc:=xc.k S;have Gc:=yc.k S;obtain⟨Hc,Ic,ha,T,na⟩:=Bc.sto Ac [.bool d.b0,.bool d.b1,.bool d.b2,.bool d.b3,.bool d.b4];have Ka:=Cc.k T;have La:=Dc.k T;have ia:=Ec.k T;have oa:=Fc.k T;have Jc:=Gc.k T;refine⟨Hc,Ic,?_⟩;refine⟨_,_,_,_,_,na.bk.ra,_,_,_,_,_,oa.bk.ra,?_⟩;refine zqZ hp (fun Kc hp=>?_) fun Kc hp=>?_
   ·refine⟨_,_,_,_,_,_,ia.bk.ra,_,_,_,_,_,Jc.bk.ra,?_⟩;obtain⟨a,Nc,hp⟩:=zqp hp;refine zvv (o:=({ need:=e,calls:=({ p0:=g,p1:=h,p2:=i,p3:=l,p4:=n }:P5) }:Oc)) (more:=z) ha.pre  Nc fun ce Pc=>?_;obtain⟨Qc,Ma⟩:=ha.call Pc P;have Rc:=La.k Ma;have Tc:=ia.k Ma;refine⟨_,_,_,_,_,_,rfl,?_⟩;obtain⟨Uc,Vc,Xc,Yc,Zc⟩:=Tc.sto Qc [Il a.need,Il a.calls.p0,Il a.calls.p1,Il a.calls.p2,Il a.calls.p3,Il a.calls.p4];have ad:=Rc.k Yc;refine⟨Uc,Vc,?_⟩;refine⟨_,_,_,_,_,_,Zc.bk.ra,?_⟩;obtain⟨bd,cd,dd,Xd,ed⟩:=ad.sto Xc [Il a.need,Il a.calls.p0,Il a.calls.p1,Il a.calls.p2,Il a.calls.p3,Il a.calls.p4];refine⟨bd,cd,?_⟩;refine⟨_,_,_,_,_,_,ed.bk.ra,?_⟩;obtain rfl:=oi hp;exact hq _ dd.ext'
   refine⟨_,_,_,_,_,_,ia.bk.ra,_,_,_,_,_,_,_,_,_,_,Ka.bk.ra,_,_,_,_,_,oa.bk.ra,_,_,_,_,_,na.bk.ra,?_⟩;obtain⟨fd,hd,hp⟩:=zqp hp;refine zvq (f_:=({ b0:=p,b1:=q,b2:=r,b3:=t,b4:=u }:F5)) (others:=d) ha.pre  hd fun de id=>?_;obtain⟨Na,Y⟩:=ha.call id P;have Oa:=Ka.k Y;have jd:=La.k Y;have Pa:=ia.k Y;have kd:=oa.k Y;have ld:=na.k Y;refine⟨_,_,_,_,_,rfl,(by rw[show zaL cmC _=true from zoV (zqt ha100.noFn (zqt ha101.noFn (zqt rfl (zqt rfl (zqt rfl (zqt rfl (zqt rfl (zqt rfl (zqt rfl (zqt rfl zqu))))))))))]; exact(Oa.bk.ra)),(Pa.bk.ra),?_⟩;obtain⟨md,nd,hp⟩:=zqp hp;refine zvA (w:=w) (of_:=fd) Na.pre ha100 ha101 nd fun ee od=>?_;obtain⟨Qa,Z⟩:=Na.call od P;have pd:=Oa.k Z;have qd:=jd.k Z;have Ra:=Pa.k Z;have sd:=kd.k Z;have td:=ld.k Z;refine⟨_,_,_,_,_,rfl,(Ra.bk.ra),?_⟩;obtain⟨A,ud,hp⟩:=zqp hp;refine zvv (o:=({ need:=e,calls:=({ p0:=g,p1:=h,p2:=i,p3:=l,p4:=n }:P5) }:Oc)) (more:=md) Qa.pre  ud fun fe vd=>?_;obtain⟨wd,aa⟩:=Qa.call vd P;have xd:=pd.k aa;have yd:=qd.k aa;have zd:=Ra.k aa;have Ad:=sd.k aa;have Cd:=td.k aa;refine⟨_,_,_,_,_,_,rfl,?_⟩;obtain⟨Dd,Ed,Fd,ja,Gd⟩:=zd.sto wd [Il A.need,Il A.calls.p0,Il A.calls.p1,Il A.calls.p2,Il A.calls.p3,Il A.calls.p4];have Hd:=xd.k ja;have Id:=yd.k ja;have Jd:=Ad.k ja;have Ld:=Cd.k ja;refine⟨Dd,Ed,?_⟩;refine⟨_,_,_,_,_,Ld.bk.ra,?_⟩;obtain⟨Md,Nd,Od,pa,Pd⟩:=Jd.sto Fd [.bool d.b0,.bool d.b1,.bool d.b2,.bool d.b3,.bool d.b4];have Qd:=Hd.k pa;have Rd:=Id.k pa;have Sd:=Gd.k pa
   refine⟨Md,Nd,?_⟩;exact zb _ _ _ _ _ _ _ _ _ _ _ _ P Od Qd Rd Sd Pd hp
 exact hgo _ _ _ _ _ _ _ _ _ _ _ _ _ qb yb ca D F B hp
theorem zvD{o:Oc}{member:Int}{b0:Nat}{m f:M}{Q:V->M->Prop}{rz:Int}(hS:Pre f m)(hb0:Bk f b0 1 [Il member])(hp:ztq o member=some rz)(hq:∀m',Ext m m'->Q (.c (Il rz)) m'):Wc prog tbl 99 [.agg 6 [Il o.need,Il o.calls.p0,Il o.calls.p1,Il o.calls.p2,Il o.calls.p3,Il o.calls.p4],.c (.ptr b0 0)] m Q:=by
 have q:=hS.st;obtain⟨r,_⟩:=zrU;refine c99 ?_;unfold ztq at hp;intro t h;obtain⟨j,d,n,i⟩:=q.blk h r 1;refine⟨_,(hb0.sub d.sub).rc rfl,trivial,trivial,?_⟩;obtain⟨p,a,hp⟩:=zqp hp;obtain⟨s,e,g,a⟩:=zqj a;refine⟨s,e,g,_,(i.bk.rc (zqU (l:=([o.calls.p0,o.calls.p1,o.calls.p2,o.calls.p3,o.calls.p4]:List Int)) (enc:=(C.int .i64)) 1 rfl a)),?_⟩;obtain rfl:=oi hp;exact hq _ d.ext'
theorem zvE{member:Int}{m f:M}{Q:V->M->Prop}{rz:Oc->Option (Int)}(hS:Pre f m)(hp:ztr member=some rz)(hq:∀m' f' c0,Grw m f m' f'->zuF f' c0 rz->Q (.c c0) m'):Wc prog tbl 74 [.c (Il member)] m Q:=by
 have q:=hS.st;obtain⟨s,_⟩:=zrU;refine w74 ?_;unfold ztr at hp;intro t h;obtain⟨n,i,o,j⟩:=q.blk h s 1;obtain⟨a,l,p,e⟩:=j.freeze i
 have g:zuF a ((C.fn (Fn.func 99) [] [(W.c (C0.ptr m.nxt 0))])) (fun d=>ztq d member):=by
  refine⟨rfl,?_⟩;intro f' m' d r Q hs hpre  hg hq;exact zvD hpre (e.sub hs) hg hq
 obtain rfl:=oi hp;exact hq _ a (C.fn (Fn.func 99) [] [(W.c (C0.ptr m.nxt 0))]) l.grw g
theorem zvF{l:List Int}{ca100:C}{m f:M}{Q:V->M->Prop}{rz:Int}(hS:Pre f m)(ha100:Sl f ca100 l)(hp:ztt l=some rz)(hq:∀m',Ext m m'->Q (.c (Il rz)) m'):Wc prog tbl 84 [.c ca100] m Q:=by
 have A:=hS.st;obtain⟨G,_⟩:=zrU;refine w84 ?_;unfold ztt at hp;refine⟨ha100.isSl,?_⟩
 try rw[ha100.slLen]
 refine ifd hp (fun q hp=>?_) fun q hp=>?_
 ·obtain rfl:=oi hp;exact hq _ A.ext'
 obtain⟨D,g,hp⟩:=zqp hp;obtain⟨I,n,i,g⟩:=zqj g;refine⟨I,n,(by first|exact i|(rw[ha100.slLen];exact i)),_,(ha100.rdI g A.sub),ha100.isSl,?_⟩;intro J B
 have hgo:∀(d:Nat) (r:Int) (s:Int) (t:M) (e:Nat->Nat),St (Fm.of m) f f t->zts l d r s=some rz->J [.c (Il r),.c (Il s)] t:=by
  intro d
  induction d with
  | zero=>intro r s t e a hp; cases hp
  | succ d o=>
   intro r s t e a hp;refine B _ _ _ ?_;rw[zts] at hp
   try rw[ha100.slLen]
   refine ifd hp (fun u hp=>?_) fun u hp=>?_; rotate_left
   ·obtain rfl:=oi hp;exact hq _ a.ext'
   obtain⟨F,h,hp⟩:=zqp hp;obtain⟨N,p,j,h⟩:=zqj h;refine⟨N,p,(by first|exact j|(rw[ha100.slLen];exact j)),_,(ha100.rdI h a.sub),?_⟩;refine ifd hp (fun w hp=>?_) fun w hp=>?_
   ·refine gdi hp fun y hp=>?_;exact o _ _ _ e a hp
   refine gdi hp fun z hp=>?_;exact o _ _ _ e a hp
 exact hgo _ _ _ _ G A hp
theorem zvG{l:List Int}{ca100:C}{m f:M}{Q:V->M->Prop}{rz:Int}(hS:Pre f m)(ha100:Sl f ca100 l)(hp:ztv l=some rz)(hq:∀m',Ext m m'->Q (.c (Il rz)) m'):Wc prog tbl 85 [.c ca100] m Q:=by
 have y:=hS.st;obtain⟨D,_⟩:=zrU;refine w85 ?_;unfold ztv at hp;refine⟨ha100.isSl,?_⟩
 try rw[ha100.slLen]
 refine ifd hp (fun p hp=>?_) fun p hp=>?_
 ·cases hp
 obtain⟨A,e,hp⟩:=zqp hp;obtain⟨F,n,i,e⟩:=zqj e;refine⟨F,n,(by first|exact i|(rw[ha100.slLen];exact i)),_,(ha100.rdI e y.sub),?_⟩;intro G z
 have hgo:∀(a:Nat) (q:Int) (r:Int) (s:M) (g:Nat->Nat),St (Fm.of m) f f s->ztu l a q r=some rz->G [.c (Il q),.c (Il r)] s:=by
  intro a
  induction a with
  | zero=>intro q r s g d hp; cases hp
  | succ a w=>
   intro q r s g d hp;refine z _ _ _ ?_;rw[ztu] at hp;refine⟨ha100.isSl,?_⟩
   try rw[ha100.slLen]
   refine ifd hp (fun t hp=>?_) fun t hp=>?_; rotate_left
   ·obtain rfl:=oi hp;exact hq _ d.ext'
   obtain⟨B,h,hp⟩:=zqp hp;obtain⟨I,o,j,h⟩:=zqj h;refine⟨I,o,(by first|exact j|(rw[ha100.slLen];exact j)),_,(ha100.rdI h d.sub),?_⟩;refine gdi hp fun u hp=>?_;exact w _ _ _ g d hp
 exact hgo _ _ _ _ D y hp
theorem zvH{w:Wk}{q:Qu}{ca100 ca101 ca200:C}{m f:M}{Q:V->M->Prop}{rz:Rg}(hS:Pre f m)(ha100:Sl f ca100 w.s.Members)(ha101:Sl f ca101 w.s.Losses)(ha200:zuF f ca200 q.ask)(hp:ztx w q=some rz)(hq:∀m',Ext m m'->Q (.agg 2 [Il rz.Lo,Il rz.Hi]) m'):Wc prog tbl 62 [.agg 10 [ca100,ca101,Il w.s.Treaty.Lo,Il w.s.Treaty.Hi,Il w.s.Reserve,.bool w.asked.b0,.bool w.asked.b1,.bool w.asked.b2,.bool w.asked.b3,.bool w.asked.b4],.agg 1 [ca200]] m Q:=by
 have S0:=hS.st;obtain⟨τ0,_⟩:=zrU;refine w62 ?_;unfold ztx at hp;intro m0 Fa;obtain⟨Ga,Ha,hc,Ia⟩:=S0.blk Fa τ0 1;intro m1 Ja;obtain⟨Ka,La,Ma,Na⟩:=Ha.blk Ja Ga 2;have Oa:=Ia.k Ma;intro m2 Pa;obtain⟨Qa,Ra,Z,Sa⟩:=La.blk Pa Ka 3;have Ta:=Oa.k Z;have Ua:=Na.k Z;intro m3 Va;obtain⟨aa,ba,G,Wa⟩:=Ra.blk Va Qa 4;have ca:=Ta.k G;have Xa:=Ua.k G;have Ya:=Sa.k G;refine⟨trivial,_,_,_,_,_,ca.bk.rp (k:=0) (j:=5) rfl (by omega),?_⟩;obtain⟨ic,Za,hp⟩:=zqp hp;refine zvn (s:=w.s) ba.pre ha100 ha101 Za fun xc jc kc ab cb=>?_;obtain⟨db,g⟩:=ba.callG ab aa;have da:=ca.k g;have ea:=Xa.k g;have fa:=Ya.k g;have ga:=Wa.k g;refine⟨_,rfl,?_⟩;refine zqT (α:=Int) db cb (σ:=(List Int) × C) 5 (fun st bb=>(False\/(False\/(False\/(False\/(zqS st.2 bb)))))) (fun st gG gF gT gM=>(Lb gG gF gT gM 1 m.nxt 10 [ca100,ca101,Il w.s.Treaty.Lo,Il w.s.Treaty.Hi,Il w.s.Reserve,.bool w.asked.b0,.bool w.asked.b1,.bool w.asked.b2,.bool w.asked.b3,.bool w.asked.b4])/\(Lb gG gF gT gM 2 m0.nxt 1 [ca200])/\(Lb gG gF gT gM 3 m1.nxt 2 [Il 0,Il 0])/\(Lb gG gF gT gM 4 m2.nxt 1 [st.2])/\(Ow gG gF gT gM 6 st.2 st.1)) (fun rr_ st=>ztw w q rr_ st.1=some rz) (fun ex st=>False) (fun st=>(Gud.and (Gud.lb da.bk.lt (by decide)) (Gud.and (Gud.lb ea.bk.lt (by decide)) (Gud.and (Gud.lb fa.bk.lt (by decide)) (Gud.and (Gud.lb ga.bk.lt (by decide)) (Gud.ow (by decide))))))) (st0:=([],.sl0)) (τ:=aa) ⟨da,ea,fa,ga,(Ow.nil _ _ _ _ _)⟩ hp ?_ ?_ ?_ ?_
 ·intro ha eb st o h T y nc ec fc gc fb I hA wa hp xa ya;obtain⟨d,z⟩:=st;obtain⟨p,r,i,e,c⟩:=hA
  replace p:Lb y o h T 1 m.nxt 10 [ca100,ca101,Il w.s.Treaty.Lo,Il w.s.Treaty.Hi,Il w.s.Reserve,.bool w.asked.b0,.bool w.asked.b1,.bool w.asked.b2,.bool w.asked.b3,.bool w.asked.b4]:=p
  replace r:Lb y o h T 2 m0.nxt 1 [ca200]:=r
  replace i:Lb y o h T 3 m1.nxt 2 [Il 0,Il 0]:=i
  replace e:Lb y o h T 4 m2.nxt 1 [z]:=e
  replace c:Ow y o h T 6 z d:=c
  replace hp:ztw w q (ha::eb) d=some rz:=hp
  rw[ztw] at hp;refine⟨_,rfl,?_⟩;refine xa _ _ _ _ fb wa fun yc oc ia A za Aa=>?_;have ja:=p.k A;have ka:=r.k A;have gb:=i.k A;have la:=e.k A;have c:=c.k A;refine⟨_,la.bk.rc rfl,trivial,_,ka.bk.rc rfl,_,_,_,_,_,_,_,_,_,_,ja.bk.ra,?_⟩;obtain⟨pc,hb,hp⟩:=zqp hp;refine zvC (w:=w) (need:=ha) ia.pre (ha100.sub (Sub.trans g.fs I)) (ha101.sub (Sub.trans g.fs I)) hb fun zc ib=>?_;obtain⟨ma,t⟩:=ia.call ib h;have jb:=ja.k t;have na:=ka.k t;have kb:=gb.k t;have oa:=la.k t;have c:=c.k t;have Ba:=za.k t;refine⟨_,_,_,_,_,_,rfl,(by rw[show cmC _=true from ha200.1]; exact(na.bk.rc rfl)),(by rw[show cmC _=true from zoU (c.noFn)]; exact(oa.bk.rc rfl)),?_⟩;obtain⟨J,mb,hp⟩:=zqp hp;refine(ha200.sub (Sub.trans g.fs I)).2 _ _ _ _ _ (Sub.refl _) ma.pre  mb fun Ac ob=>?_;obtain⟨pb,u⟩:=ma.call ob h;have qb:=jb.k u;have rb:=na.k u;have sb:=kb.k u;have N:=oa.k u;have c:=c.k u;have Ca:=Ba.k u;refine⟨_,rfl,(by rw[show cmC _=true from zoU (c.noFn)]; exact(N.bk.rc rfl)),?_⟩;obtain⟨tb,hp⟩:=zqq hp;intro Bc pa;refine⟨(by rw[show cmC _=true from zoU (c.noFn)]; exact(N.bk.ext (Bk.new pa).2).rc rfl),?_⟩;obtain⟨O,ub,qc,vb,wb,B,P⟩:=c.app' zuM pb (a:=J) (show Rp.rep (α:=Int) o _ J from rfl) tb pa;have xb:=qb.k B;have yb:=rb.k B;have zb:=sb.k B;have Ab:=N.k B;have Da:=Ca.k B;refine⟨O,ub,vb,?_⟩;obtain⟨Bb,Cb,Db,D,Eb⟩:=Ab.sto wb [O];have Fb:=xb.k D;have Gb:=yb.k D;have Hb:=zb.k D;have P:=P.k D;have Ea:=Da.k D;refine⟨Bb,Cb,?_⟩;exact ya .nrm ((d++[J]),O) _ _ _ _ Db ⟨Fb,Gb,Hb,Eb,P⟩ Ea Aa hp
 ·intro st F n Y Ib sc hA hp;obtain⟨d,z⟩:=st
  replace hp:ztw w q [] d=some rz:=hp
  obtain⟨p,r,i,e,c⟩:=hA
  replace p:Lb (Fm.of m) F n Y 1 m.nxt 10 [ca100,ca101,Il w.s.Treaty.Lo,Il w.s.Treaty.Hi,Il w.s.Reserve,.bool w.asked.b0,.bool w.asked.b1,.bool w.asked.b2,.bool w.asked.b3,.bool w.asked.b4]:=p
  replace r:Lb (Fm.of m) F n Y 2 m0.nxt 1 [ca200]:=r
  replace i:Lb (Fm.of m) F n Y 3 m1.nxt 2 [Il 0,Il 0]:=i
  replace e:Lb (Fm.of m) F n Y 4 m2.nxt 1 [z]:=e
  replace c:Ow (Fm.of m) F n Y 6 z d:=c
  rw[ztw] at hp;refine⟨_,e.bk.rc rfl,?_⟩;obtain⟨tc,qa,sa,S⟩:=c.freeze Ib;have Jb:=i.k sa;have ta:=e.k sa;obtain⟨Kb,Nb,hp⟩:=zqp hp;refine zvF (l:=d) qa.pre S Nb fun Cc Ob=>?_;obtain⟨ua,va⟩:=qa.call Ob n;have Pb:=Jb.k va;have Qb:=ta.k va;refine⟨_,rfl,_,Qb.bk.rc rfl,(by rw[show cmC _=true from zoU (S.noFn)]; exact(ta.bk.rc rfl)),?_⟩;obtain⟨Rb,Sb,hp⟩:=zqp hp;refine zvG (l:=d) ua.pre S Sb fun Dc Tb=>?_;obtain⟨Ub,Vb⟩:=ua.call Tb n;have Wb:=Pb.k Vb;refine⟨_,rfl,?_⟩;obtain⟨Xb,Yb,Zb,uc,ac⟩:=Wb.sto Ub [Il Kb,Il Rb];refine⟨Xb,Yb,?_⟩;refine⟨_,_,ac.bk.ra,?_⟩;obtain rfl:=oi hp;exact hq _ Zb.ext'
 ·intro id st _ _ _ _ _ _ hn; first | exact hn.elim | (cases hn)
 ·intro st _ _ _ _ _ _ hn; first | exact hn.elim | (cases hn)
theorem zvI{w:Wk}{ca100 ca101:C}{m f:M}{Q:V->M->Prop}{rz:Int}(hS:Pre f m)(ha100:Sl f ca100 w.s.Members)(ha101:Sl f ca101 w.s.Losses)(hp:zty w=some rz)(hq:∀m',Ext m m'->Q (.c (Il rz)) m'):Wc prog tbl 77 [.agg 10 [ca100,ca101,Il w.s.Treaty.Lo,Il w.s.Treaty.Hi,Il w.s.Reserve,.bool w.asked.b0,.bool w.asked.b1,.bool w.asked.b2,.bool w.asked.b3,.bool w.asked.b4]] m Q:=by
 have u:=hS.st;obtain⟨y,_⟩:=zrU;refine w77 ?_;unfold zty at hp;intro A g;obtain⟨h,d,o,i⟩:=u.blk g y 1;refine⟨_,_,_,_,_,_,_,_,_,_,i.bk.ra,?_⟩
 have e:zuF f ((C.fn (Fn.func 63) [] [])) (fun a=>ztd a):=by
  refine⟨rfl,?_⟩;intro f' m' a r Q hs hpre  hg hq;exact zvt hpre  hg hq
 obtain⟨p,j,hp⟩:=zqp hp;refine zvH (w:=w) (q:=({ ask:=(fun a=>ztd a) }:Qu)) d.pre ha100 ha101 e j fun z l=>?_;obtain⟨n,t⟩:=d.call l h;refine⟨_,_,rfl,?_⟩;obtain rfl:=oi hp;exact hq _ n.ext'
theorem zvJ{w:Wk}{rate:Int}{ca100 ca101:C}{m f:M}{Q:V->M->Prop}{rz:Int}(hS:Pre f m)(ha100:Sl f ca100 w.s.Members)(_ha101:Sl f ca101 w.s.Losses)(hp:ztA w rate=some rz)(hq:∀m',Ext m m'->Q (.c (Il rz)) m'):Wc prog tbl 100 [.agg 10 [ca100,ca101,Il w.s.Treaty.Lo,Il w.s.Treaty.Hi,Il w.s.Reserve,.bool w.asked.b0,.bool w.asked.b1,.bool w.asked.b2,.bool w.asked.b3,.bool w.asked.b4],.c (Il rate)] m Q:=by
 have S0:=hS.st;obtain⟨τ0,_⟩:=zrU;refine zt0 ?_;unfold ztA at hp;intro m0 t;obtain⟨u,y,na,a⟩:=S0.blk t τ0 1;refine⟨trivial,trivial,_,a.bk.rc rfl,ha100.isSl,?_⟩;intro R2 ma
 have hgo:∀(d:Nat) (z:Int) (A:Int) (q:M) (e:Nat->Nat),St (Fm.of m) f f q->Lb (Fm.of m) f e q 1 m.nxt 10 [ca100,ca101,Il w.s.Treaty.Lo,Il w.s.Treaty.Hi,Il w.s.Reserve,.bool w.asked.b0,.bool w.asked.b1,.bool w.asked.b2,.bool w.asked.b3,.bool w.asked.b4]->ztz w rate d z A=some rz->R2 [.c (Il z),.c (Il A)] q:=by
  intro d
  induction d with
  | zero=>intro z A q e g a hp; cases hp
  | succ d la=>
   intro z A q e g a hp;refine ma _ _ _ ?_;rw[ztz] at hp
   try rw[ha100.slLen]
   refine ifd hp (fun B hp=>?_) fun B hp=>?_; rotate_left
   ·obtain rfl:=oi hp;exact hq _ g.ext'
   obtain⟨h,i,hp⟩:=zqp hp;obtain⟨n6,r,l,i⟩:=zqj i;obtain⟨_,D⟩:=zrW ha100 i;refine⟨n6,r,(by first|exact l|(rw[ha100.slLen];exact l)),_,_,_,(D _ g.sub).1,?_⟩;intro ua F;obtain⟨n,G,I,J⟩:=g.blk F e 2;have N:=a.k I;obtain⟨O,P,o,S,j⟩:=J.sto G [Il h.Sum,Il h.Class,Il h.Most];have T:=N.k S;refine⟨O,P,?_⟩;refine⟨_,_,_,j.bk.ra,?_⟩;obtain⟨oa,Y,hp⟩:=zqp hp;refine zvw (m_:=h) o.pre  Y fun va Z=>?_;obtain⟨aa,p⟩:=o.call Z n;have ba:=T.k p;have ca:=j.k p;refine⟨_,rfl,?_⟩;refine gdi hp fun da hp=>?_;refine gdi hp fun ea hp=>?_;refine gdi hp fun fa hp=>?_;refine gdi hp fun ga hp=>?_;refine gdi hp fun ha hp=>?_;obtain⟨ia,hp⟩:=zqq hp;refine⟨ia,trivial,_,ca.bk.rc rfl,(j.bk.rc rfl),?_⟩;refine gdi hp fun ja hp=>?_;refine gdi hp fun ka hp=>?_;exact la _ _ _ n aa ba hp
 exact hgo _ _ _ _ u y a hp
theorem zvK{w:Wk}{rate:Int}{ca100 ca101:C}{m f:M}{Q:V->M->Prop}{rz:Bool}(hS:Pre f m)(ha100:Sl f ca100 w.s.Members)(ha101:Sl f ca101 w.s.Losses)(hp:ztB w rate=some rz)(hq:∀m',Ext m m'->Q (.c (.bool rz)) m'):Wc prog tbl 76 [.agg 10 [ca100,ca101,Il w.s.Treaty.Lo,Il w.s.Treaty.Hi,Il w.s.Reserve,.bool w.asked.b0,.bool w.asked.b1,.bool w.asked.b2,.bool w.asked.b3,.bool w.asked.b4],.c (Il rate)] m Q:=by
 have z:=hS.st;obtain⟨A,_⟩:=zrU;refine w76 ?_;unfold ztB at hp;intro F h;obtain⟨d,e,r,a⟩:=z.blk h A 1;refine⟨_,_,_,_,_,_,_,_,_,_,a.bk.ra,?_⟩;obtain⟨t,i,hp⟩:=zqp hp;refine zvJ (w:=w) (rate:=rate) e.pre ha100 ha101 i fun B j=>?_;obtain⟨g,l⟩:=e.call j d;have n:=a.k l;refine⟨_,rfl,_,_,_,_,_,_,_,_,_,_,n.bk.ra,(by rw[show zaL cmC _=true from zoV (zqt ha100.noFn (zqt ha101.noFn (zqt rfl (zqt rfl (zqt rfl (zqt rfl (zqt rfl (zqt rfl (zqt rfl (zqt rfl zqu))))))))))]; exact(a.bk.ra)),?_⟩;obtain⟨u,o,hp⟩:=zqp hp;refine zvI (w:=w) g.pre ha100 ha101 o fun D p=>?_;obtain⟨q,y⟩:=g.call p d;refine⟨_,rfl,?_⟩;obtain rfl:=oi hp;exact hq _ q.ext'
theorem zvL{s:Soc}{l:List Int}{ca100 ca101 ca200:C}{m f:M}{Q:V->M->Prop}{rz:Bool}(hS:Pre f m)(ha100:Sl f ca100 s.Members)(ha101:Sl f ca101 s.Losses)(ha200:Sl f ca200 l)(hp:ztC s l=some rz)(hq:∀m',Ext m m'->Q (.c (.bool rz)) m'):Wc prog tbl 79 [.agg 5 [ca100,ca101,Il s.Treaty.Lo,Il s.Treaty.Hi,Il s.Reserve],.c ca200] m Q:=by
 have O:=hS.st;obtain⟨P,_⟩:=zrU;refine w79 ?_;unfold ztC at hp;intro T i;obtain⟨d,e,D,j⟩:=O.blk i P 1;refine⟨_,_,_,_,_,j.bk.ra,?_⟩;obtain⟨n,o,hp⟩:=zqp hp;refine zvi (s:=s) (out:=l) e.pre ha100 ha101 ha200 o fun Y p F G t u y=>?_;obtain⟨g,I⟩:=e.callG t d;refine⟨_,_,_,_,_,_,_,_,_,_,rfl,?_⟩
 have h:zuF p ((C.fn (Fn.func 70) [] [])) (fun a=>zte a):=by
  refine⟨rfl,?_⟩;intro f' m' a r Q hs hpre  hg hq;exact zvu hpre  hg hq
 obtain⟨J,z,hp⟩:=zqp hp;refine zvH (w:=n) (q:=({ ask:=(fun a=>zte a) }:Qu)) g.pre u y h z fun S A=>?_;obtain⟨B,N⟩:=g.call A d;refine⟨_,_,rfl,?_⟩;obtain rfl:=oi hp;exact hq _ B.ext'
theorem zvM{n:Int}{p:Int->Option (Bool)}{ca200:C}{m f:M}{Q:V->M->Prop}{rz:Int}(hS:Pre f m)(ha200:zuI f ca200 p)(hp:ztE n p=some rz)(hq:∀m',Ext m m'->Q (.c (Il rz)) m'):Wc prog tbl 75 [.c (Il n),.c ca200] m Q:=by
 have G:=hS.st;obtain⟨I,_⟩:=zrU;refine w75 ?_;unfold ztE at hp;intro J B
 have hgo:∀(d:Nat) (i:Int) (j:Int) (l:M) (a:Nat->Nat),St (Fm.of m) f f l->ztD p d i j=some rz->J [.c (Il i),.c (Il j)] l:=by
  intro d
  induction d with
  | zero=>intro i j l a e hp; cases hp
  | succ d h=>
   intro i j l a e hp;refine B _ _ _ ?_;rw[ztD] at hp;refine ifd hp (fun o hp=>?_) fun o hp=>?_; rotate_left
   ·obtain rfl:=oi hp;exact hq _ e.ext'
   refine gdi hp fun q hp=>?_;refine gdi hp fun r hp=>?_;refine gdi hp fun s hp=>?_;refine gdi hp fun t hp=>?_;refine gdi hp fun u hp=>?_;obtain⟨D,w,hp⟩:=zqp hp;refine ha200 _ _ _ _ _ (Sub.refl _) e.pre  w fun N y=>?_;obtain⟨g,F⟩:=e.call y a;refine⟨_,rfl,?_⟩;refine zq0 hp (fun z hp=>?_) fun z hp=>?_; rotate_left
   ·exact h _ _ _ a g hp
   refine gdi hp fun A hp=>?_;exact h _ _ _ a g hp
 exact hgo _ _ _ _ I G hp
theorem zvN{s:Soc}{ca100 ca101:C}{m f:M}{Q:V->M->Prop}{rz:Rg × Int}(hS:Pre f m)(ha100:Sl f ca100 s.Members)(ha101:Sl f ca101 s.Losses)(hp:ztF s=some rz)(hq:∀m',Ext m m'->Q (.tup [.agg 2 [Il rz.1.Lo,Il rz.1.Hi],.c (Il rz.2)]) m'):Wc prog tbl 23 [.agg 5 [ca100,ca101,Il s.Treaty.Lo,Il s.Treaty.Hi,Il s.Reserve]] m Q:=by
 have S0:=hS.st;obtain⟨τ0,_⟩:=zrU;refine w23 ?_;unfold ztF at hp;intro m0 n;obtain⟨o,p,wa,t⟩:=S0.blk n τ0 1;intro m1 u;obtain⟨g,h,y,z⟩:=p.blk u o 2;have A:=t.k y;refine⟨_,_,_,_,_,A.bk.ra,?_⟩;obtain⟨a,B,hp⟩:=zqp hp;refine zvj (s:=s) (out:=[]) h.pre ha100 ha101 (Sl.nil _) B fun m8 D F G I J N=>?_;obtain⟨O,P⟩:=h.callG I g;have S:=z.k P;refine⟨_,_,_,_,_,_,_,_,_,_,_,rfl,?_⟩;intro Ba T;obtain⟨Y,Z,aa,ba⟩:=O.blk T g 3;have ca:=S.k aa;obtain⟨da,ea,e,fa,ga⟩:=ba.sto Z [F,G,Il a.1.s.Treaty.Lo,Il a.1.s.Treaty.Hi,Il a.1.s.Reserve,.bool a.1.asked.b0,.bool a.1.asked.b1,.bool a.1.asked.b2,.bool a.1.asked.b3,.bool a.1.asked.b4];have i:=ca.k fa;refine⟨da,ea,?_⟩;refine zqY hp (fun ha hp=>?_) fun ha hp=>?_
 ·obtain⟨ia,ja,ka,xa,la⟩:=i.sto e [Il 0,Il 0];refine⟨ia,ja,?_⟩;refine⟨_,_,la.bk.ra,?_⟩;obtain rfl:=oi hp;exact hq _ ka.ext'
 refine⟨_,_,_,_,_,_,_,_,_,_,ga.bk.ra,?_⟩
 have l:zuF D ((C.fn (Fn.func 63) [] [])) (fun d=>ztd d):=by
  refine⟨rfl,?_⟩;intro f' m' d r Q hs hpre  hg hq;exact zvt hpre  hg hq
 obtain⟨j,ma,hp⟩:=zqp hp;refine zvH (w:=a.1) (q:=({ ask:=(fun d=>ztd d) }:Qu)) e.pre J N l ma fun Ca na=>?_;obtain⟨oa,pa⟩:=e.call na Y;have qa:=i.k pa;refine⟨_,_,rfl,?_⟩;obtain⟨sa,ta,ua,ya,va⟩:=qa.sto oa [Il j.Lo,Il j.Hi];refine⟨sa,ta,?_⟩;refine⟨_,_,va.bk.ra,?_⟩;obtain rfl:=oi hp;exact hq _ ua.ext'
theorem zvO{l:List Int}{ca100:C}{m f:M}{Q:V->M->Prop}{rz:List Int}(hS:Pre f m)(ha100:Sl f ca100 l)(hp:ztG l=some rz)(hq:∀m' f' c0,Grw m f m' f'->On m f' m' c0 rz->Q (.c c0) m'):Wc prog tbl 69 [.c ca100] m Q:=by
 have q:=hS.st;obtain⟨r,_⟩:=zrU;refine w69 ?_;unfold ztG at hp;refine⟨(zry ha100),(zry ha100),trivial,(Bool.or_true _),?_⟩
 cases d:zl9 ca100 with
 | true=>
  refine zq2 ?_;obtain rfl:=zrx ha100 d;obtain⟨_,hp⟩:=zqq hp;obtain rfl:=oi hp;exact hq _ _ .sl0 q.grw (Ow.nil _ _ r _ 0).on
 | false=>
  refine zq1 ?_;intro y e;obtain⟨s,g,t,h⟩:=Ow.lit0 (α:=Int) q r 1 e;obtain⟨i,hp⟩:=zqq hp;obtain⟨a,j,u,n,o,w,p⟩:=h.appL zuM g ha100 i;refine⟨a,j,n,?_⟩;obtain rfl:=oi hp;exact hq _ f a o.grw p.on
theorem zvP{s:Soc}{need:Int}{ca100 ca101:C}{m f:M}{Q:V->M->Prop}{rz:List Int × Int × Int}(hS:Pre f m)(ha100:Sl f ca100 s.Members)(ha101:Sl f ca101 s.Losses)(hp:ztH s need=some rz)(hq:∀m' f' c0,Grw m f m' f'->Sl f' c0 rz.1->Q (.tup [.c c0,.c (Il rz.2.1),.c (Il rz.2.2)]) m'):Wc prog tbl 30 [.agg 5 [ca100,ca101,Il s.Treaty.Lo,Il s.Treaty.Hi,Il s.Reserve],.c (Il need)] m Q:=by
 have S0:=hS.st;obtain⟨τ0,_⟩:=zrU;refine w30 ?_;unfold ztH at hp;intro m0 F;obtain⟨y,z,Xa,A⟩:=S0.blk F τ0 1;refine⟨_,_,_,_,_,A.bk.ra,?_⟩;obtain⟨d,G,hp⟩:=zqp hp;refine zvj (s:=s) (out:=[]) z.pre ha100 ha101 (Sl.nil _) G fun m7 B I J N O P=>?_;obtain⟨S,T⟩:=z.callG N y;have Y:=A.k T;refine⟨_,_,_,_,_,_,_,_,_,_,_,rfl,?_⟩;intro ib Z;obtain⟨g,aa,ba,ca⟩:=S.blk Z y 2;have da:=Y.k ba;obtain⟨ea,fa,h,ga,ha⟩:=ca.sto aa [I,J,Il d.1.s.Treaty.Lo,Il d.1.s.Treaty.Hi,Il d.1.s.Reserve,.bool d.1.asked.b0,.bool d.1.asked.b1,.bool d.1.asked.b2,.bool d.1.asked.b3,.bool d.1.asked.b4];have ia:=da.k ga;refine⟨ea,fa,?_⟩;refine zqY hp (fun ja hp=>?_) fun ja hp=>?_
 ·obtain rfl:=oi hp;exact hq _ B .sl0 h.grw (Sl.nil _)
 obtain⟨Ya,ka,hp⟩:=zqp hp;refine zuT (r:=({ Lo:=(0:Int),Hi:=(300000:Int) }:Rg)) (n:=need) h.pre  ka fun jb la=>?_;obtain⟨p,D⟩:=h.call la g;have ma:=ia.k D;have na:=ha.k D;refine⟨_,rfl,?_⟩;refine zq0 hp (fun oa hp=>?_) fun oa hp=>?_
 ·obtain rfl:=oi hp;exact hq _ B .sl0 p.grw (Sl.nil _)
 refine⟨_,_,_,_,_,_,_,_,_,_,na.bk.ra,?_⟩;obtain⟨a,pa,hp⟩:=zqp hp;refine zvC (w:=d.1) (need:=need) p.pre O P pa fun kb qa=>?_;obtain⟨sa,ta⟩:=p.call qa g;have ua:=ma.k ta;refine⟨_,_,_,_,_,_,rfl,?_⟩;intro mb va;obtain⟨wa,xa,ya,za⟩:=sa.blk va g 3;have Aa:=ua.k ya;obtain⟨Ba,Ca,Da,Ea,Fa⟩:=za.sto xa [Il a.need,Il a.calls.p0,Il a.calls.p1,Il a.calls.p2,Il a.calls.p3,Il a.calls.p4];have Ga:=Aa.k Ea;refine⟨Ba,Ca,?_⟩;refine⟨trivial,trivial,_,Ga.bk.rc rfl,ha100.isSl,?_⟩
 try rw[ha100.slLen]
 obtain⟨Za,q,ab,e⟩:=Fa.freeze Da;obtain⟨bb,hp⟩:=zqq hp;obtain⟨Ha,Ia,Ja⟩:=Bk.arS (α:=Int) (o:=1) (l:=([a.calls.p0,a.calls.p1,a.calls.p2,a.calls.p3,a.calls.p4]:List Int)) (i:=Int.toNat (0:Int)) (j:=Int.toNat (s.Members.length:Int)) e rfl (Nat.le_of_ble_eq_true rfl) (Go.Abs.zrf _ ([a.calls.p0,a.calls.p1,a.calls.p2,a.calls.p3,a.calls.p4]:List Int)) (by omega) (by show Int.toNat (s.Members.length:Int)<=5; omega);refine⟨Int.toNat (0:Int),Int.toNat (s.Members.length:Int),rfl,(show(s.Members.length:Int)=((Int.toNat (s.Members.length:Int):Nat):Int) by omega),Ha,Ia,?_⟩;obtain⟨cb,Ka,hp⟩:=zqp hp;refine zvO (l:=((([a.calls.p0,a.calls.p1,a.calls.p2,a.calls.p3,a.calls.p4]:List Int).take (Int.toNat (s.Members.length:Int))).drop (Int.toNat (0:Int)))) q.pre Ja Ka fun ob db La Ma Na=>?_;obtain⟨Oa,t,Pa,u⟩:=q.callO Ma Na wa 4;refine⟨_,rfl,_,_,_,_,_,_,(e.sub (Sub.trans Pa.fs t.sub)).ra,((e.sub q.sub).ra),?_⟩;obtain⟨eb,Qa,hp⟩:=zqp hp;refine zvu (o:=a) t.pre  Qa fun pb Ra=>?_;obtain⟨Sa,Ta⟩:=t.call Ra Oa;have u:=u.k Ta;refine⟨_,rfl,?_⟩;obtain⟨Ua,Va,fb,Wa⟩:=u.freeze Sa;obtain rfl:=oi hp;exact hq _ Ua La Va.grw Wa
theorem zvQ{s:Soc}{out:List Int}{ca100 ca101 ca200:C}{m f:M}{Q:V->M->Prop}{rz:List Rg × Int}(hS:Pre f m)(ha100:Sl f ca100 s.Members)(ha101:Sl f ca101 s.Losses)(ha200:Sl f ca200 out)(hp:ztJ s out=some rz)(hq:∀m' f' c0,Grw m f m' f'->Sl f' c0 rz.1->Q (.tup [.c c0,.c (Il rz.2)]) m'):Wc prog tbl 39 [.agg 5 [ca100,ca101,Il s.Treaty.Lo,Il s.Treaty.Hi,Il s.Reserve],.c ca200] m Q:=by
 have S0:=hS.st;obtain⟨τ0,_⟩:=zrU;refine w39 ?_;unfold ztJ at hp;intro m0 aa;obtain⟨B,D,Ta,F⟩:=S0.blk aa τ0 1;refine⟨_,_,_,_,_,F.bk.ra,?_⟩;obtain⟨d,ba,hp⟩:=zqp hp;refine zvj (s:=s) (out:=out) D.pre ha100 ha101 ha200 ba fun m7 u G I ca J N=>?_;obtain⟨da,ea⟩:=D.callG ca B;have fa:=F.k ea;refine⟨_,_,_,_,_,_,_,_,_,_,_,rfl,?_⟩;intro Za ga;obtain⟨ha,ia,ja,ka⟩:=da.blk ga B 2;have la:=fa.k ja;obtain⟨ma,na,O,oa,j⟩:=ka.sto ia [G,I,Il d.1.s.Treaty.Lo,Il d.1.s.Treaty.Hi,Il d.1.s.Reserve,.bool d.1.asked.b0,.bool d.1.asked.b1,.bool d.1.asked.b2,.bool d.1.asked.b3,.bool d.1.asked.b4];have l:=la.k oa;refine⟨ma,na,?_⟩;refine zqY hp (fun pa hp=>?_) fun pa hp=>?_
 ·obtain rfl:=oi hp;exact hq _ u .sl0 O.grw (Sl.nil _)
 refine⟨trivial,_,l.bk.rc rfl,ha100.isSl,?_⟩;intro Sa Ra
 have hgo:∀(o:Nat) (z:C) (A:Int) (p:List Rg) (t:M) (e:M) (g:Nat->Nat),St (Fm.of m) f e t->Sub u e->Lb (Fm.of m) e g t 1 m.nxt 5 [ca100,ca101,Il s.Treaty.Lo,Il s.Treaty.Hi,Il s.Reserve]->Lb (Fm.of m) e g t 2 m7.nxt 10 [G,I,Il d.1.s.Treaty.Lo,Il d.1.s.Treaty.Hi,Il d.1.s.Reserve,.bool d.1.asked.b0,.bool d.1.asked.b1,.bool d.1.asked.b2,.bool d.1.asked.b3,.bool d.1.asked.b4]->Ow (Fm.of m) e g t 3 z p->ztI s d o p A=some rz->Sa [.c z,.c (Il A)] t:=by
  intro o
  induction o with
  | zero=>intro z A p t e g r n l j h hp; cases hp
  | succ o qa=>
   intro z A p t e g r n l j h hp;refine Ra _ _ _ ?_;rw[ztI] at hp
   try rw[ha100.slLen]
   refine ifd hp (fun sa hp=>?_) fun sa hp=>?_; rotate_left
   ·obtain⟨ta,ua,Ua,va⟩:=h.freeze r;obtain rfl:=oi hp;exact hq _ ta z ua.grw va
   refine⟨_,_,_,_,_,_,_,_,_,_,j.bk.ra,?_⟩;obtain⟨wa,xa,hp⟩:=zqp hp;refine zvE (member:=A) r.pre  xa fun ab P Va ya za=>?_;obtain⟨S,i⟩:=r.callG ya g;have Aa:=l.k i;have T:=j.k i;have h:=h.k i;refine⟨_,rfl,(by rw[show zaL cmC _=true from zoV (zqt J.noFn (zqt N.noFn (zqt rfl (zqt rfl (zqt rfl (zqt rfl (zqt rfl (zqt rfl (zqt rfl (zqt rfl zqu))))))))))]; exact(T.bk.ra)),?_⟩;obtain⟨Y,Ba,hp⟩:=zqp hp;refine zvH (w:=d.1) (q:=({ ask:=wa }:Qu)) S.pre (J.sub (Sub.trans n i.fs)) (N.sub (Sub.trans n i.fs)) za Ba fun bb Ca=>?_;obtain⟨Da,y⟩:=S.call Ca g;have Ea:=Aa.k y;have Fa:=T.k y;have h:=h.k y;refine⟨_,_,rfl,?_⟩;obtain⟨Ga,hp⟩:=zqq hp;intro cb Ha;obtain⟨Ia,Ja,Ka,La,Ma,Z,Na⟩:=h.app' zuN Da (a:=Y) (show Rp.rep (α:=Rg) P _ Y from rfl) Ga Ha;have Oa:=Ea.k Z;have Pa:=Fa.k Z;refine⟨Ia,Ja,La,?_⟩;refine gdi hp fun Qa hp=>?_;exact qa _ _ _ _ P Ka Ma (Sub.trans n i.fs) Oa Pa Na hp
 exact hgo _ _ _ _ _ u ha O (Sub.refl _) l j (Ow.nil _ _ _ _ _) hp
theorem zvR{s:Soc}{ca100 ca101:C}{m f:M}{Q:V->M->Prop}{rz:List Rg × Int}(hS:Pre f m)(ha100:Sl f ca100 s.Members)(ha101:Sl f ca101 s.Losses)(hp:ztK s=some rz)(hq:∀m' f' c0,Grw m f m' f'->Sl f' c0 rz.1->Q (.tup [.c c0,.c (Il rz.2)]) m'):Wc prog tbl 37 [.agg 5 [ca100,ca101,Il s.Treaty.Lo,Il s.Treaty.Hi,Il s.Reserve]] m Q:=by
 have t:=hS.st;obtain⟨u,_⟩:=zrU;refine w37 ?_;unfold ztK at hp;intro w d;obtain⟨e,a,p,g⟩:=t.blk d u 1;refine⟨_,_,_,_,_,g.bk.ra,?_⟩;obtain⟨q,h,hp⟩:=zqp hp;refine zvQ (s:=s) (out:=[]) a.pre ha100 ha101 (Sl.nil _) h fun y i j l n=>?_;obtain⟨o,r⟩:=a.callG l e;refine⟨_,_,rfl,?_⟩;obtain rfl:=oi hp;exact hq _ i j o.grw n
theorem zvS{s:Soc}{ca100 ca101:C}{m f:M}{Q:V->M->Prop}{rz:Rg × Int}(hS:Pre f m)(ha100:Sl f ca100 s.Members)(ha101:Sl f ca101 s.Losses)(hp:ztL s=some rz)(hq:∀m',Ext m m'->Q (.tup [.agg 2 [Il rz.1.Lo,Il rz.1.Hi],.c (Il rz.2)]) m'):Wc prog tbl 38 [.agg 5 [ca100,ca101,Il s.Treaty.Lo,Il s.Treaty.Hi,Il s.Reserve]] m Q:=by
 have S0:=hS.st;obtain⟨τ0,_⟩:=zrU;refine w38 ?_;unfold ztL at hp;intro m0 n;obtain⟨o,p,wa,t⟩:=S0.blk n τ0 1;intro m1 u;obtain⟨g,h,y,z⟩:=p.blk u o 2;have A:=t.k y;refine⟨_,_,_,_,_,A.bk.ra,?_⟩;obtain⟨a,B,hp⟩:=zqp hp;refine zvj (s:=s) (out:=[]) h.pre ha100 ha101 (Sl.nil _) B fun m8 D F G I J N=>?_;obtain⟨O,P⟩:=h.callG I g;have S:=z.k P;refine⟨_,_,_,_,_,_,_,_,_,_,_,rfl,?_⟩;intro Ba T;obtain⟨Y,Z,aa,ba⟩:=O.blk T g 3;have ca:=S.k aa;obtain⟨da,ea,e,fa,ga⟩:=ba.sto Z [F,G,Il a.1.s.Treaty.Lo,Il a.1.s.Treaty.Hi,Il a.1.s.Reserve,.bool a.1.asked.b0,.bool a.1.asked.b1,.bool a.1.asked.b2,.bool a.1.asked.b3,.bool a.1.asked.b4];have i:=ca.k fa;refine⟨da,ea,?_⟩;refine zqY hp (fun ha hp=>?_) fun ha hp=>?_
 ·obtain⟨ia,ja,ka,xa,la⟩:=i.sto e [Il 0,Il 0];refine⟨ia,ja,?_⟩;refine⟨_,_,la.bk.ra,?_⟩;obtain rfl:=oi hp;exact hq _ ka.ext'
 refine⟨_,_,_,_,_,_,_,_,_,_,ga.bk.ra,?_⟩
 have l:zuF D ((C.fn (Fn.func 70) [] [])) (fun d=>zte d):=by
  refine⟨rfl,?_⟩;intro f' m' d r Q hs hpre  hg hq;exact zvu hpre  hg hq
 obtain⟨j,ma,hp⟩:=zqp hp;refine zvH (w:=a.1) (q:=({ ask:=(fun d=>zte d) }:Qu)) e.pre J N l ma fun Ca na=>?_;obtain⟨oa,pa⟩:=e.call na Y;have qa:=i.k pa;refine⟨_,_,rfl,?_⟩;obtain⟨sa,ta,ua,ya,va⟩:=qa.sto oa [Il j.Lo,Il j.Hi];refine⟨sa,ta,?_⟩;refine⟨_,_,va.bk.ra,?_⟩;obtain rfl:=oi hp;exact hq _ ua.ext'
theorem zvT{s:Soc}{ca100 ca101:C}{m f:M}{Q:V->M->Prop}{rz:Int × Int}(hS:Pre f m)(ha100:Sl f ca100 s.Members)(ha101:Sl f ca101 s.Losses)(hp:ztM s=some rz)(hq:∀m',Ext m m'->Q (.tup [.c (Il rz.1),.c (Il rz.2)]) m'):Wc prog tbl 44 [.agg 5 [ca100,ca101,Il s.Treaty.Lo,Il s.Treaty.Hi,Il s.Reserve]] m Q:=by
 have S0:=hS.st;obtain⟨τ0,_⟩:=zrU;refine w44 ?_;unfold ztM at hp;intro m0 u;obtain⟨i,j,ca,w⟩:=S0.blk u τ0 1;refine⟨_,_,_,_,_,w.bk.ra,?_⟩;obtain⟨a,y,hp⟩:=zqp hp;refine zvj (s:=s) (out:=[]) j.pre ha100 ha101 (Sl.nil _) y fun m7 z e g A l o=>?_;obtain⟨B,da⟩:=j.callG A i;refine⟨_,_,_,_,_,_,_,_,_,_,_,rfl,?_⟩;intro ka D;obtain⟨F,G,ea,I⟩:=B.blk D i 2;obtain⟨J,N,h,fa,O⟩:=I.sto G [e,g,Il a.1.s.Treaty.Lo,Il a.1.s.Treaty.Hi,Il a.1.s.Reserve,.bool a.1.asked.b0,.bool a.1.asked.b1,.bool a.1.asked.b2,.bool a.1.asked.b3,.bool a.1.asked.b4];refine⟨J,N,?_⟩;refine zqY hp (fun P hp=>?_) fun P hp=>?_
 ·obtain rfl:=oi hp;exact hq _ h.ext'
 refine⟨_,_,_,_,_,_,_,_,_,_,O.bk.ra,?_⟩;obtain⟨Z,aa,ba⟩:∃ws,zaE vW [.agg 10 [e,g,Il a.1.s.Treaty.Lo,Il a.1.s.Treaty.Hi,Il a.1.s.Reserve,.bool a.1.asked.b0,.bool a.1.asked.b1,.bool a.1.asked.b2,.bool a.1.asked.b3,.bool a.1.asked.b4]]=some ws/\zbZ wV ws=[.agg 10 [e,g,Il a.1.s.Treaty.Lo,Il a.1.s.Treaty.Hi,Il a.1.s.Reserve,.bool a.1.asked.b0,.bool a.1.asked.b1,.bool a.1.asked.b2,.bool a.1.asked.b3,.bool a.1.asked.b4]]:=(zqz (zqx (zqt l.noFn (zqt o.noFn (zqt rfl (zqt rfl (zqt rfl (zqt rfl (zqt rfl (zqt rfl (zqt rfl (zqt rfl zqu))))))))))) zqy);rw[aa,zd6]
 have t:zuI z ((C.fn (Fn.func 76) Z [])) (fun d=>ztB a.1 d):=by
  intro f' m' d r Q hs hpre  hg hq
  show Wc prog tbl 76 (appS (zbZ wV Z) _) m' Q
  rw[ba];exact zvK hpre (l.sub hs) (o.sub hs) hg hq
 obtain⟨ga,S,hp⟩:=zqp hp;refine zvM (n:=(10001:Int)) (p:=(fun d=>ztB a.1 d)) h.pre t S fun la T=>?_;obtain⟨q,ha⟩:=h.call T F;refine⟨_,rfl,?_⟩;refine ifd hp (fun Y hp=>?_) fun Y hp=>?_
 ·obtain rfl:=oi hp;exact hq _ q.ext'
 obtain rfl:=oi hp;exact hq _ q.ext'
theorem zvU{s:Soc}{ca100 ca101:C}{m f:M}{Q:V->M->Prop}{rz:List Int × Int}(hS:Pre f m)(ha100:Sl f ca100 s.Members)(ha101:Sl f ca101 s.Losses)(hp:ztN s=some rz)(hq:∀m' f' c0,Grw m f m' f'->Sl f' c0 rz.1->Q (.tup [.c c0,.c (Il rz.2)]) m'):Wc prog tbl 45 [.agg 5 [ca100,ca101,Il s.Treaty.Lo,Il s.Treaty.Hi,Il s.Reserve]] m Q:=by
 have S0:=hS.st;obtain⟨τ0,_⟩:=zrU;refine w45 ?_;unfold ztN at hp;intro m0 u;obtain⟨j,l,sa,o⟩:=S0.blk u τ0 1;refine⟨_,_,_,_,_,o.bk.ra,?_⟩;obtain⟨a,y,hp⟩:=zqp hp;refine zvj (s:=s) (out:=[]) l.pre ha100 ha101 (Sl.nil _) y fun m7 e z A B D F=>?_;obtain⟨G,g⟩:=l.callG B j;have I:=o.k g;refine⟨_,_,_,_,_,_,_,_,_,_,_,rfl,?_⟩;intro za J;obtain⟨p,N,O,P⟩:=G.blk J j 2;have S:=I.k O;obtain⟨T,Y,h,Z,aa⟩:=P.sto N [z,A,Il a.1.s.Treaty.Lo,Il a.1.s.Treaty.Hi,Il a.1.s.Reserve,.bool a.1.asked.b0,.bool a.1.asked.b1,.bool a.1.asked.b2,.bool a.1.asked.b3,.bool a.1.asked.b4];have ba:=S.k Z;refine⟨T,Y,?_⟩;refine zqY hp (fun ca hp=>?_) fun ca hp=>?_
 ·obtain rfl:=oi hp;exact hq _ e .sl0 h.grw (Sl.nil _)
 refine⟨_,_,_,_,_,_,_,_,_,_,aa.bk.ra,?_⟩;obtain⟨ta,da,hp⟩:=zqp hp;refine zvI (w:=a.1) h.pre D F da fun Aa ea=>?_;obtain⟨i,fa⟩:=h.call ea p;have q:=ba.k fa;refine⟨_,rfl,?_⟩;refine ifd hp (fun ga hp=>?_) fun ga hp=>?_
 ·obtain rfl:=oi hp;exact hq _ e .sl0 i.grw (Sl.nil _)
 refine⟨trivial,_,q.bk.rc rfl,ha100.isSl,_,_,_,_,_,q.bk.ra,?_⟩;obtain⟨oa,pa,qa⟩:∃ws,zaE vW [.agg 5 [ca100,ca101,Il s.Treaty.Lo,Il s.Treaty.Hi,Il s.Reserve]]=some ws/\zbZ wV ws=[.agg 5 [ca100,ca101,Il s.Treaty.Lo,Il s.Treaty.Hi,Il s.Reserve]]:=(zqz (zqx (zqt ha100.noFn (zqt ha101.noFn (zqt rfl (zqt rfl (zqt rfl zqu)))))) zqy);rw[pa,zd6]
 try rw[ha100.slLen]
 have t:zuy e ((C.fn (Fn.func 79) oa [])) (fun d=>ztC s d):=by
  intro f' m' d ua r Q hs hpre ha hg hq
  show Wc prog tbl 79 (appS (zbZ wV oa) _) m' Q
  rw[qa];exact zvL hpre ((ha100.sub g.fs).sub hs) ((ha101.sub g.fs).sub hs) ha hg hq
 obtain⟨va,ia,hp⟩:=zqp hp;refine zuE (n:=(s.Members.length:Int)) (passes:=(fun d=>ztC s d)) i.pre t ia fun Ba ja ka la ma=>?_;obtain⟨na,wa⟩:=i.callG la p;refine⟨_,rfl,?_⟩;obtain rfl:=oi hp;exact hq _ ja ka na.grw ma
theorem zvV{a:List Int}{b:List Int}{ca100 ca200:C}{m f:M}{Q:V->M->Prop}{rz:Bool}(hS:Pre f m)(ha100:Sl f ca100 a)(ha200:Sl f ca200 b)(hp:ztP a b=some rz)(hq:∀m',Ext m m'->Q (.c (.bool rz)) m'):Wc prog tbl 71 [.c ca100,.c ca200] m Q:=by
 have z:=hS.st;obtain⟨F,_⟩:=zrU;refine w71 ?_;unfold ztP at hp;refine⟨ha100.isSl,ha200.isSl,?_⟩
 try rw[ha100.slLen]
 try rw[ha200.slLen]
 refine zqY hp (fun p hp=>?_) fun p hp=>?_
 ·obtain rfl:=oi hp;exact hq _ z.ext'
 refine⟨ha100.isSl,?_⟩;intro G A
 have hgo:∀(e:Nat) (w:Bool) (q:Int) (r:M) (g:Nat->Nat),St (Fm.of m) f f r->ztO a b e q=some rz->G [.c (.bool w),.c (Il q)] r:=by
  intro e
  induction e with
  | zero=>intro w q r g d hp; cases hp
  | succ e y=>
   intro w q r g d hp;refine A _ _ _ ?_;rw[ztO] at hp
   try rw[ha100.slLen]
   refine ifd hp (fun s hp=>?_) fun s hp=>?_; rotate_left
   ·obtain rfl:=oi hp;exact hq _ d.ext'
   obtain⟨B,h,hp⟩:=zqp hp;obtain⟨I,n,j,h⟩:=zqj h;refine⟨I,n,(by first|exact j|(rw[ha100.slLen];exact j)),_,(ha100.rdI h d.sub),?_⟩;obtain⟨D,i,hp⟩:=zqp hp;obtain⟨J,o,l,i⟩:=zqj i;refine⟨J,o,(by first|exact l|(rw[ha200.slLen];exact l)),_,(ha200.rdI i d.sub),?_⟩;refine zqY hp (fun t hp=>?_) fun t hp=>?_
   ·obtain rfl:=oi hp;exact hq _ d.ext'
   refine gdi hp fun u hp=>?_;exact y _ _ _ g d hp
 exact hgo _ _ _ _ F z hp
theorem zvW{s:Soc}{need:Int}{calls:List Int}{ca100 ca101 ca300:C}{m f:M}{Q:V->M->Prop}{rz:Bool}(hS:Pre f m)(ha100:Sl f ca100 s.Members)(ha101:Sl f ca101 s.Losses)(ha300:Sl f ca300 calls)(hp:ztQ s need calls=some rz)(hq:∀m',Ext m m'->Q (.c (.bool rz)) m'):Wc prog tbl 31 [.agg 5 [ca100,ca101,Il s.Treaty.Lo,Il s.Treaty.Hi,Il s.Reserve],.c (Il need),.c ca300] m Q:=by
 have D:=hS.st;obtain⟨F,_⟩:=zrU;refine w31 ?_;unfold ztQ at hp;intro I h;obtain⟨e,g,w,i⟩:=D.blk h F 1;refine⟨_,_,_,_,_,i.bk.ra,?_⟩;obtain⟨j,l,hp⟩:=zqp hp;refine zvP (s:=s) (need:=need) g.pre ha100 ha101 l fun J y z n o=>?_;obtain⟨d,p⟩:=g.callG n e;refine⟨_,_,_,rfl,?_⟩;refine ifd hp (fun q hp=>?_) fun q hp=>?_; rotate_left
 ·obtain rfl:=oi hp;exact hq _ d.ext'
 obtain⟨A,r,hp⟩:=zqp hp;refine zvV (a:=calls) (b:=j.1) d.pre (ha300.sub p.fs) o r fun G t=>?_;obtain⟨u,B⟩:=d.call t e;refine⟨_,rfl,?_⟩;obtain rfl:=oi hp;exact hq _ u.ext'
theorem zvX{low:Int}{high:Int}{m f:M}{Q:V->M->Prop}{rz:Rg}(hS:Pre f m)(hp:ztR low high=some rz)(hq:∀m',Ext m m'->Q (.agg 2 [Il rz.Lo,Il rz.Hi]) m'):Wc prog tbl 49 [.c (Il low),.c (Il high)] m Q:=by
 have l:=hS.st;obtain⟨n,_⟩:=zrU;refine w49 ?_;unfold ztR at hp;intro r a;obtain⟨o,d,p,e⟩:=l.blk a n 1;obtain⟨g,h,i,q,j⟩:=e.sto d [Il low,Il high];refine⟨g,h,?_⟩;refine⟨_,_,j.bk.ra,?_⟩;obtain rfl:=oi hp;exact hq _ i.ext'
theorem zvY{most:Int}{m f:M}{Q:V->M->Prop}{rz:Soc}(hS:Pre f m)(hp:ztS most=some rz)(hq:∀m' f' c0 c1,Grw m f m' f'->Sl f' c0 rz.Members->Sl f' c1 rz.Losses->Q (.agg 5 [c0,c1,Il rz.Treaty.Lo,Il rz.Treaty.Hi,Il rz.Reserve]) m'):Wc prog tbl 48 [.c (Il most)] m Q:=by
 have S0:=hS.st;obtain⟨τ0,_⟩:=zrU;refine w48 ?_;unfold ztS at hp;intro y z;obtain⟨A,B,Ea,D⟩:=S0.blk z τ0 1;intro m1 F;obtain⟨e,i,G,I⟩:=B.blk F A 2;have J:=D.k G;obtain⟨a,N,hp⟩:=zqp hp;refine zvX (low:=(200:Int)) (high:=(210:Int)) i.pre  N fun m3 O=>?_;obtain⟨j,n⟩:=i.call O e;have P:=J.k n;have S:=I.k n;refine⟨_,_,rfl,?_⟩;obtain⟨d,T,hp⟩:=zqp hp;refine zvX (low:=(90:Int)) (high:=(90:Int)) j.pre  T fun Y Z=>?_;obtain⟨aa,o⟩:=j.call Z e;have ba:=P.k o;have ca:=S.k o;refine⟨_,_,rfl,?_⟩;intro Fa da;obtain⟨ea,p,q,fa⟩:=aa.blk da e 3;have ga:=ba.k q;have ha:=ca.k q;obtain⟨r,ia,hp⟩:=zqp hp;refine zvX (low:=(20:Int)) (high:=(25:Int)) p.pre  ia fun Ga ja=>?_;obtain⟨ka,g⟩:=p.call ja ea;have la:=ga.k g;have ma:=ha.k g;have na:=fa.k g;refine⟨_,_,rfl,?_⟩;obtain⟨oa,pa,qa,s,sa⟩:=la.sto ka [(C.sl y.nxt 0 3 0 (Option.some 3)),(C.sl Y.nxt 0 2 0 (Option.some 2)),Il r.Lo,Il r.Hi,(Il (30:Int))];have ta:=ma.k s;have ua:=na.k s;refine⟨oa,pa,?_⟩;refine⟨_,_,_,_,_,sa.bk.ra,?_⟩;obtain⟨t,va,wa,u⟩:=ta.freeze qa;have xa:=ua.k wa;have ya:Sl t (C.sl y.nxt 0 3 0 (Option.some 3)) ([({ Sum:=(100:Int),Class:=(2:Int),Most:=most }:Mb),({ Sum:=(100:Int),Class:=(1:Int),Most:=(60:Int) }:Mb),({ Sum:=(50:Int),Class:=(2:Int),Most:=most }:Mb)]:List Mb):=Bk.sl (α:=Mb) (l:=([({ Sum:=(100:Int),Class:=(2:Int),Most:=most }:Mb),({ Sum:=(100:Int),Class:=(1:Int),Most:=(60:Int) }:Mb),({ Sum:=(50:Int),Class:=(2:Int),Most:=most }:Mb)]:List Mb)) u (show Cat (α:=Mb) t [(Il (100:Int)),(Il (2:Int)),Il most,(Il (100:Int)),(Il (1:Int)),(Il (60:Int)),(Il (50:Int)),(Il (2:Int)),Il most] ([({ Sum:=(100:Int),Class:=(2:Int),Most:=most }:Mb),({ Sum:=(100:Int),Class:=(1:Int),Most:=(60:Int) }:Mb),({ Sum:=(50:Int),Class:=(2:Int),Most:=most }:Mb)]:List Mb) from ⟨[(Il (100:Int)),(Il (2:Int)),Il most],_,rfl,rfl,⟨[(Il (100:Int)),(Il (1:Int)),(Il (60:Int))],_,rfl,rfl,⟨[(Il (50:Int)),(Il (2:Int)),Il most],_,rfl,rfl,rfl⟩⟩⟩) rfl rfl _
 obtain⟨h,za,Aa,w⟩:=xa.freeze va;have Ba:Sl h (C.sl Y.nxt 0 2 0 (Option.some 2)) ([a,d]:List Rg):=Bk.sl (α:=Rg) (l:=([a,d]:List Rg)) w (show Cat (α:=Rg) h [Il a.Lo,Il a.Hi,Il d.Lo,Il d.Hi] ([a,d]:List Rg) from ⟨[Il a.Lo,Il a.Hi],_,rfl,rfl,⟨[Il d.Lo,Il d.Hi],_,rfl,rfl,rfl⟩⟩) rfl rfl _;obtain rfl:=oi hp;exact hq _ h (C.sl y.nxt 0 3 0 (Option.some 3)) (C.sl Y.nxt 0 2 0 (Option.some 2)) za.grw (ya.sub Aa.fs) Ba
theorem zvZ{m f:M}{Q:V->M->Prop}{rz:Bool}(hS:Pre f m)(hp:ztT=some rz)(hq:∀m',Ext m m'->Q (.c (.bool rz)) m'):Wc prog tbl 19 [] m Q:=by
 have S0:=hS.st;obtain⟨τ0,_⟩:=zrU;refine w19 ?_;unfold ztT at hp;obtain⟨Aa,Ba,hp⟩:=zqp hp;refine zvY (most:=(500:Int)) S0.pre  Ba fun m1 ud vd wd Ca Da Ea=>?_;obtain⟨J,xd⟩:=S0.callG Ca τ0;refine⟨_,_,_,_,_,rfl,?_⟩;obtain⟨N,Fa,hp⟩:=zqp hp;refine zvN (s:=Aa) J.pre Da Ea Fa fun m8 Ga=>?_;obtain⟨Ha,yd⟩:=J.call Ga τ0;refine⟨_,_,_,rfl,?_⟩;intro Ae Ia;obtain⟨d,Ja,zd,Ka⟩:=Ha.blk Ia τ0 1;obtain⟨La,Ma,O,Ad,Na⟩:=Ka.sto Ja [Il N.1.Lo,Il N.1.Hi];refine⟨La,Ma,?_⟩;obtain⟨Oa,Pa,hp⟩:=zqp hp;refine zvY (most:=(500:Int)) O.pre  Pa fun Be Cd Dd Ed Qa Ra Sa=>?_;obtain⟨P,Ta⟩:=O.callG Qa d;have Ua:=Na.k Ta;refine⟨_,_,_,_,_,rfl,?_⟩;obtain⟨Va,Wa,hp⟩:=zqp hp;refine zvP (s:=Oa) (need:=(250:Int)) P.pre Ra Sa Wa fun Ce Fd Gd Xa Ya=>?_;obtain⟨S,Za⟩:=P.callG Xa d;have ab:=Ua.k Za;refine⟨_,_,_,rfl,?_⟩;obtain⟨bb,cb,hp⟩:=zqp hp;refine zvY (most:=(500:Int)) S.pre  cb fun De Hd Id Jd db eb fb=>?_;obtain⟨T,Y⟩:=S.callG db d;have gb:=ab.k Y;refine⟨_,_,_,_,_,rfl,?_⟩;obtain⟨Ld,hb,hp⟩:=zqp hp;refine zvR (s:=bb) T.pre eb fb hb fun Ee Md Nd ib i=>?_;obtain⟨Z,aa⟩:=T.callG ib d;have jb:=gb.k aa;refine⟨_,_,rfl,?_⟩;obtain⟨kb,mb,hp⟩:=zqp hp;refine zvY (most:=(500:Int)) Z.pre  mb fun Fe Od Pd Qd ob pb qb=>?_;obtain⟨ba,j⟩:=Z.callG ob d;have rb:=jb.k j;refine⟨_,_,_,_,_,rfl,?_⟩;obtain⟨Rd,sb,hp⟩:=zqp hp;refine zvT (s:=kb) ba.pre pb qb sb fun Ge tb=>?_;obtain⟨ca,ub⟩:=ba.call tb d;have vb:=rb.k ub;refine⟨_,_,rfl,?_⟩;obtain⟨wb,xb,hp⟩:=zqp hp;refine zvY (most:=(500:Int)) ca.pre  xb fun He Sd Td Ud yb zb Ab=>?_
 obtain⟨da,n⟩:=ca.callG yb d;have Bb:=vb.k n;refine⟨_,_,_,_,_,rfl,?_⟩;obtain⟨Cb,Db,hp⟩:=zqp hp;refine zvU (s:=wb) da.pre zb Ab Db fun Ie Vd Wd Eb Fb=>?_;obtain⟨ea,o⟩:=da.callG Eb d;have Gb:=Bb.k o;refine⟨_,_,rfl,?_⟩;obtain⟨Hb,Ib,hp⟩:=zqp hp;refine zvY (most:=(150:Int)) ea.pre  Ib fun Je Xd Yd Zd Jb Kb Nb=>?_;obtain⟨fa,e⟩:=ea.callG Jb d;have Ob:=Gb.k e;refine⟨_,_,_,_,_,rfl,?_⟩;obtain⟨Pb,Qb,hp⟩:=zqp hp;refine zvU (s:=Hb) fa.pre Kb Nb Qb fun Ke ae be Rb Sb=>?_;obtain⟨y,g⟩:=fa.callG Rb d;have ga:=Ob.k g;refine⟨_,_,rfl,?_⟩;refine ifd hp (fun Tb hp=>?_) fun Tb hp=>?_; rotate_left
 ·obtain rfl:=oi hp;exact hq _ y.ext'
 refine⟨_,_,ga.bk.ra,?_⟩;obtain⟨ce,Ub,hp⟩:=zqp hp;refine zvX (low:=(235:Int)) (high:=(250:Int)) y.pre  Ub fun od Vb=>?_;obtain⟨w,Wb⟩:=y.call Vb d;have Xb:=ga.k Wb;refine⟨_,_,rfl,(Xb.bk.ra),?_⟩;refine gdi hp fun Yb hp=>?_;refine gdi hp fun Zb hp=>?_;refine gdi hp fun ac hp=>?_;refine gdi hp fun bc hp=>?_;refine zqZ hp (fun cc hp=>?_) fun cc hp=>?_; rotate_left
 ·obtain rfl:=oi hp;exact hq _ w.ext'
 refine ifd hp (fun dc hp=>?_) fun dc hp=>?_; rotate_left
 ·obtain rfl:=oi hp;exact hq _ w.ext'
 refine ifd hp (fun ec hp=>?_) fun ec hp=>?_; rotate_left
 ·obtain rfl:=oi hp;exact hq _ w.ext'
 intro Me fc;obtain⟨r,gc,de,hc⟩:=w.blk fc d 2;obtain⟨ha,ia,h,ta⟩:=hc.freeze gc;have ic:Sl ha (C.sl od.nxt 0 3 0 (Option.some 3)) ([(127:Int),(60:Int),(63:Int)]:List Int):=Bk.sl (α:=Int) (l:=([(127:Int),(60:Int),(63:Int)]:List Int)) ta (show Cat (α:=Int) ha [(Il (127:Int)),(Il (60:Int)),(Il (63:Int))] ([(127:Int),(60:Int),(63:Int)]:List Int) from ⟨[(Il (127:Int))],_,rfl,rfl,⟨[(Il (60:Int))],_,rfl,rfl,⟨[(Il (63:Int))],_,rfl,rfl,rfl⟩⟩⟩) rfl rfl _;obtain⟨ee,jc,hp⟩:=zqp hp;refine zuS (a:=Va.1) (b:=([(127:Int),(60:Int),(63:Int)]:List Int)) ia.pre (Ya.sub (Sub.trans (Sub.trans (Sub.trans (Sub.trans (Sub.trans (Sub.trans (Sub.trans Y.fs aa.fs) j.fs) n.fs) o.fs) e.fs) g.fs) h.fs)) ic jc fun Ne kc=>?_;obtain⟨p,fe⟩:=ia.call kc r;refine⟨_,rfl,?_⟩;refine zqZ hp (fun nc hp=>?_) fun nc hp=>?_; rotate_left
 ·obtain rfl:=oi hp;exact hq _ p.ext'
 refine ifd hp (fun oc hp=>?_) fun oc hp=>?_; rotate_left
 ·obtain rfl:=oi hp;exact hq _ p.ext'
 refine⟨i.isSl,?_⟩
 try rw[i.slLen]
 refine ifd hp (fun pc hp=>?_) fun pc hp=>?_; rotate_left
 ·obtain rfl:=oi hp;exact hq _ p.ext'
 obtain⟨ge,z,hp⟩:=zqp hp;obtain⟨pd,ua,F,z⟩:=zqj z;obtain⟨_,ja⟩:=zrV i z;refine⟨pd,ua,(by first|exact F|(rw[i.slLen];exact F)),_,_,(ja _ (Sub.trans (Sub.trans (Sub.trans (Sub.trans (Sub.trans (Sub.trans j.fs n.fs) o.fs) e.fs) g.fs) h.fs) p.sub)).1,?_⟩;obtain⟨he,qc,hp⟩:=zqp hp;refine zvX (low:=(117:Int)) (high:=(127:Int)) p.pre  qc fun Oe sc=>?_;obtain⟨t,ie⟩:=p.call sc r;refine⟨_,_,rfl,(ja _ (Sub.trans (Sub.trans (Sub.trans (Sub.trans (Sub.trans (Sub.trans j.fs n.fs) o.fs) e.fs) g.fs) h.fs) t.sub)).1,?_⟩;refine gdi hp fun tc hp=>?_;refine gdi hp fun uc hp=>?_;refine gdi hp fun vc hp=>?_;refine gdi hp fun wc hp=>?_;refine zqZ hp (fun xc hp=>?_) fun xc hp=>?_; rotate_left
 ·obtain rfl:=oi hp;exact hq _ t.ext'
 obtain⟨je,A,hp⟩:=zqp hp;obtain⟨qd,va,G,A⟩:=zqj A;obtain⟨_,ka⟩:=zrV i A;refine⟨qd,va,(by first|exact G|(rw[i.slLen];exact G)),_,_,(ka _ (Sub.trans (Sub.trans (Sub.trans (Sub.trans (Sub.trans (Sub.trans j.fs n.fs) o.fs) e.fs) g.fs) h.fs) t.sub)).1,?_⟩;obtain⟨ke,yc,hp⟩:=zqp hp;refine zvX (low:=(59:Int)) (high:=(60:Int)) t.pre  yc fun Pe zc=>?_;obtain⟨u,me⟩:=t.call zc r;refine⟨_,_,rfl,(ka _ (Sub.trans (Sub.trans (Sub.trans (Sub.trans (Sub.trans (Sub.trans j.fs n.fs) o.fs) e.fs) g.fs) h.fs) u.sub)).1,?_⟩;refine gdi hp fun Ac hp=>?_;refine gdi hp fun Bc hp=>?_;refine gdi hp fun Cc hp=>?_;refine gdi hp fun Dc hp=>?_;refine zqZ hp (fun Ec hp=>?_) fun Ec hp=>?_; rotate_left
 ·obtain rfl:=oi hp;exact hq _ u.ext'
 obtain⟨oe,B,hp⟩:=zqp hp;obtain⟨sd,wa,I,B⟩:=zqj B;obtain⟨_,la⟩:=zrV i B;refine⟨sd,wa,(by first|exact I|(rw[i.slLen];exact I)),_,_,(la _ (Sub.trans (Sub.trans (Sub.trans (Sub.trans (Sub.trans (Sub.trans j.fs n.fs) o.fs) e.fs) g.fs) h.fs) u.sub)).1,?_⟩;obtain⟨pe,Fc,hp⟩:=zqp hp;refine zvX (low:=(59:Int)) (high:=(63:Int)) u.pre  Fc fun td Gc=>?_;obtain⟨q,qe⟩:=u.call Gc r;refine⟨_,_,rfl,(la _ (Sub.trans (Sub.trans (Sub.trans (Sub.trans (Sub.trans (Sub.trans j.fs n.fs) o.fs) e.fs) g.fs) h.fs) q.sub)).1,?_⟩;refine gdi hp fun Hc hp=>?_;refine gdi hp fun Ic hp=>?_;refine gdi hp fun Jc hp=>?_;refine gdi hp fun Kc hp=>?_;refine zqZ hp (fun Nc hp=>?_) fun Nc hp=>?_; rotate_left
 ·obtain rfl:=oi hp;exact hq _ q.ext'
 refine ifd hp (fun Pc hp=>?_) fun Pc hp=>?_; rotate_left
 ·obtain rfl:=oi hp;exact hq _ q.ext'
 refine ifd hp (fun Qc hp=>?_) fun Qc hp=>?_; rotate_left
 ·obtain rfl:=oi hp;exact hq _ q.ext'
 refine ifd hp (fun Rc hp=>?_) fun Rc hp=>?_; rotate_left
 ·obtain rfl:=oi hp;exact hq _ q.ext'
 intro re Tc;obtain⟨ma,Uc,se,Vc⟩:=q.blk Tc r 3;obtain⟨na,oa,pa,xa⟩:=Vc.freeze Uc;have Xc:Sl na (C.sl td.nxt 0 2 0 (Option.some 2)) ([(0:Int),(2:Int)]:List Int):=Bk.sl (α:=Int) (l:=([(0:Int),(2:Int)]:List Int)) xa (show Cat (α:=Int) na [Il 0,(Il (2:Int))] ([(0:Int),(2:Int)]:List Int) from ⟨[Il 0],_,rfl,rfl,⟨[(Il (2:Int))],_,rfl,rfl,rfl⟩⟩) rfl rfl _;obtain⟨te,Yc,hp⟩:=zqp hp;refine zuS (a:=Cb.1) (b:=([(0:Int),(2:Int)]:List Int)) oa.pre (Fb.sub (Sub.trans (Sub.trans (Sub.trans e.fs g.fs) h.fs) pa.fs)) Xc Yc fun Zc ad=>?_;obtain⟨D,ue⟩:=oa.call ad ma;refine⟨_,rfl,?_⟩;refine zqZ hp (fun bd hp=>?_) fun bd hp=>?_; rotate_left
 ·obtain rfl:=oi hp;exact hq _ D.ext'
 refine ifd hp (fun cd hp=>?_) fun cd hp=>?_; rotate_left
 ·obtain rfl:=oi hp;exact hq _ D.ext'
 intro ve dd;obtain⟨ed,fd,we,hd⟩:=D.blk dd ma 4;obtain⟨qa,sa,id,ya⟩:=hd.freeze fd;have jd:Sl qa (C.sl Zc.nxt 0 1 0 (Option.some 1)) ([(0:Int)]:List Int):=Bk.sl (α:=Int) (l:=([(0:Int)]:List Int)) ya (show Cat (α:=Int) qa [Il 0] ([(0:Int)]:List Int) from ⟨[Il 0],_,rfl,rfl,rfl⟩) rfl rfl _;obtain⟨xe,kd,hp⟩:=zqp hp;refine zuS (a:=Pb.1) (b:=([(0:Int)]:List Int)) sa.pre (Sb.sub (Sub.trans (Sub.trans h.fs pa.fs) id.fs)) jd kd fun ye ld=>?_;obtain⟨md,ze⟩:=sa.call ld ed;refine⟨_,rfl,?_⟩;obtain rfl:=oi hp;exact hq _ md.ext'
theorem zv0{most:Int}{m f:M}{Q:V->M->Prop}{rz:zrX}(hS:Pre f m)(hp:ztU most=some rz)(hq:∀m' f' c0 c1,Grw m f m' f'->On m f' m' c0 rz.Members->Sl f' c1 rz.Losses->Q (.agg 5 [c0,c1,Il rz.Treaty.Lo,Il rz.Treaty.Hi,Il rz.Reserve]) m'):Wc prog tbl 48 [.c (Il most)] m Q:=by
 have S0:=hS.st;obtain⟨τ0,_⟩:=zrU;refine w48 ?_;unfold ztU at hp;intro y z;obtain⟨A,B,Aa,D⟩:=S0.blk z τ0 1;intro m1 F;obtain⟨g,i,G,I⟩:=B.blk F A 2;have J:=D.k G;obtain⟨a,N,hp⟩:=zqp hp;refine zvX (low:=(200:Int)) (high:=(210:Int)) i.pre  N fun m3 O=>?_;obtain⟨j,n⟩:=i.call O g;have P:=J.k n;have S:=I.k n;refine⟨_,_,rfl,?_⟩;obtain⟨d,T,hp⟩:=zqp hp;refine zvX (low:=(90:Int)) (high:=(90:Int)) j.pre  T fun Y Z=>?_;obtain⟨aa,o⟩:=j.call Z g;have ba:=P.k o;have ca:=S.k o;refine⟨_,_,rfl,?_⟩;intro Ba da;obtain⟨p,q,r,ea⟩:=aa.blk da g 3;have fa:=ba.k r;have ga:=ca.k r;obtain⟨s,ha,hp⟩:=zqp hp;refine zvX (low:=(20:Int)) (high:=(25:Int)) q.pre  ha fun Ca ia=>?_;obtain⟨ja,h⟩:=q.call ia p;have ka:=fa.k h;have la:=ga.k h;have ma:=ea.k h;refine⟨_,_,rfl,?_⟩;obtain⟨t,na,oa,u,pa⟩:=ka.sto ja [(C.sl y.nxt 0 3 0 (Option.some 3)),(C.sl Y.nxt 0 2 0 (Option.some 2)),Il s.Lo,Il s.Hi,(Il (30:Int))];have qa:=la.k u;have sa:=ma.k u;refine⟨t,na,?_⟩;refine⟨_,_,_,_,_,pa.bk.ra,?_⟩;obtain⟨e,ta,ua,w⟩:=sa.freeze oa;have va:=qa.k ua;have wa:Sl e (C.sl Y.nxt 0 2 0 (Option.some 2)) ([a,d]:List Rg):=Bk.sl (α:=Rg) (l:=([a,d]:List Rg)) w (show Cat (α:=Rg) e [Il a.Lo,Il a.Hi,Il d.Lo,Il d.Hi] ([a,d]:List Rg) from ⟨[Il a.Lo,Il a.Hi],_,rfl,rfl,⟨[Il d.Lo,Il d.Hi],_,rfl,rfl,rfl⟩⟩) rfl rfl _;have xa:Ow (Fm.of m) e p t 2 (C.sl y.nxt 0 3 0 (Option.some 3)) ([({ Sum:=(100:Int),Class:=(2:Int),Most:=most }:Mb),({ Sum:=(100:Int),Class:=(1:Int),Most:=(60:Int) }:Mb),({ Sum:=(50:Int),Class:=(2:Int),Most:=most }:Mb)]:List Mb):=va.owL (α:=Mb) (l:=([({ Sum:=(100:Int),Class:=(2:Int),Most:=most }:Mb),({ Sum:=(100:Int),Class:=(1:Int),Most:=(60:Int) }:Mb),({ Sum:=(50:Int),Class:=(2:Int),Most:=most }:Mb)]:List Mb)) (show Cat (α:=Mb) e [(Il (100:Int)),(Il (2:Int)),Il most,(Il (100:Int)),(Il (1:Int)),(Il (60:Int)),(Il (50:Int)),(Il (2:Int)),Il most] ([({ Sum:=(100:Int),Class:=(2:Int),Most:=most }:Mb),({ Sum:=(100:Int),Class:=(1:Int),Most:=(60:Int) }:Mb),({ Sum:=(50:Int),Class:=(2:Int),Most:=most }:Mb)]:List Mb) from ⟨[(Il (100:Int)),(Il (2:Int)),Il most],_,rfl,rfl,⟨[(Il (100:Int)),(Il (1:Int)),(Il (60:Int))],_,rfl,rfl,⟨[(Il (50:Int)),(Il (2:Int)),Il most],_,rfl,rfl,rfl⟩⟩⟩) rfl rfl rfl
 obtain rfl:=oi hp;exact hq _ e (C.sl y.nxt 0 3 0 (Option.some 3)) (C.sl Y.nxt 0 2 0 (Option.some 2)) ta.grw xa.on wa
set_option maxHeartbeats 4000000 in
theorem zv1{m f:M}{Q:V->M->Prop}{rz:Bool}(hS:Pre f m)(hp:ztV=some rz)(hq:∀m',Ext m m'->Q (.c (.bool rz)) m'):Wc prog tbl 7 [] m Q:=by
 have S0:=hS.st;obtain⟨τ0,_⟩:=zrU;refine w7 ?_;unfold ztV at hp;obtain⟨Db,Bn,hp⟩:=zqp hp;refine zv0 (most:=(500:Int)) S0.pre  Bn fun m1 cu du eu Cn Dn En=>?_;obtain⟨ae,Fn,fu,Gn⟩:=S0.callO Cn Dn τ0 1;refine⟨_,_,_,_,_,rfl,?_⟩;obtain⟨gu,be,Hn,In⟩:=Gn.freeze Fn;obtain⟨Jn,Kn,hp⟩:=zqp hp;refine zvP (s:=({ Members:=Db.Members,Losses:=Db.Losses,Treaty:=Db.Treaty,Reserve:=Db.Reserve }:Soc)) (need:=(200:Int)) be.pre In (En.sub Hn.fs) Kn fun m8 hu iu Ln Nn=>?_;obtain⟨ce,ju⟩:=be.callG Ln ae;refine⟨_,_,_,rfl,?_⟩;obtain⟨Eb,Pn,hp⟩:=zqp hp;refine zv0 (most:=(500:Int)) ce.pre  Pn fun tw ku lu mu Qn Rn Sn=>?_;obtain⟨de,Tn,Un,Vn⟩:=ce.callO Qn Rn ae 2;refine⟨_,_,_,_,_,rfl,?_⟩;obtain⟨nu,ee,fe,Xn⟩:=Vn.freeze Tn;obtain⟨Ac,Yn,hp⟩:=zqp hp;refine zvP (s:=({ Members:=Eb.Members,Losses:=Eb.Losses,Treaty:=Eb.Treaty,Reserve:=Eb.Reserve }:Soc)) (need:=(201:Int)) ee.pre Xn (Sn.sub fe.fs) Yn fun uw ou pu Zn Bc=>?_;obtain⟨ge,ao⟩:=ee.callG Zn de;refine⟨_,_,_,rfl,?_⟩;obtain⟨Fb,bo,hp⟩:=zqp hp;refine zv0 (most:=(500:Int)) ge.pre  bo fun vw qu ru su eo fo go=>?_;obtain⟨he,ho,Gb,io⟩:=ge.callO eo fo de 3;refine⟨_,_,_,_,_,rfl,?_⟩;obtain⟨tu,ie,ub,jo⟩:=io.freeze ho;obtain⟨ko,lo,hp⟩:=zqp hp;refine zvP (s:=({ Members:=Fb.Members,Losses:=Fb.Losses,Treaty:=Fb.Treaty,Reserve:=Fb.Reserve }:Soc)) (need:=(1100:Int)) ie.pre jo (go.sub ub.fs) lo fun ww uu vu oo po=>?_;obtain⟨je,Hb⟩:=ie.callG oo he;refine⟨_,_,_,rfl,?_⟩;obtain⟨Ib,qo,hp⟩:=zqp hp;refine zv0 (most:=(500:Int)) je.pre  qo fun ys xu yu zu ro so uo=>?_
 obtain⟨xo,yo,vb,Cc⟩:=je.callO ro so he 4;refine⟨_,_,_,_,_,rfl,?_⟩;intro xw zo;obtain⟨ke,Ao,Bo,Co⟩:=yo.blk zo xo 5;have Cc:=Cc.k Bo;obtain⟨Au,Do,Ta,Eo⟩:=Cc.freeze Ao;have Fo:=Co.k Ta;obtain⟨me,oe,Ua,Ze⟩:=Fo.freeze Do;have Go:Sl me (C.sl ys.nxt 0 1 0 (Option.some 1)) ([(1:Int)]:List Int):=Bk.sl (α:=Int) (l:=([(1:Int)]:List Int)) Ze (show Cat (α:=Int) me [(Il (1:Int))] ([(1:Int)]:List Int) from ⟨[(Il (1:Int))],_,rfl,rfl,rfl⟩) rfl rfl _;obtain⟨Bu,Ho,hp⟩:=zqp hp;refine zvQ (s:=({ Members:=Ib.Members,Losses:=Ib.Losses,Treaty:=Ib.Treaty,Reserve:=Ib.Reserve }:Soc)) (out:=([(1:Int)]:List Int)) oe.pre (Eo.sub Ua.fs) (uo.sub (Sub.trans Ta.fs Ua.fs)) Go Ho fun yw Cu Du Io Qa=>?_;obtain⟨pe,wb⟩:=oe.callG Io ke;refine⟨_,_,rfl,?_⟩;obtain⟨Jb,Jo,hp⟩:=zqp hp;refine zv0 (most:=(500:Int)) pe.pre  Jo fun zs Eu Fu Gu Ko No Oo=>?_;obtain⟨Po,Qo,Da,Dc⟩:=pe.callO Ko No ke 6;refine⟨_,_,_,_,_,rfl,?_⟩;intro zw Ro;obtain⟨qe,So,To,Uo⟩:=Qo.blk Ro Po 7;have Dc:=Dc.k To;obtain⟨Hu,Vo,oa,Xo⟩:=Dc.freeze So;have Yo:=Uo.k oa;obtain⟨re,se,pa,af⟩:=Yo.freeze Vo;have Zo:Sl re (C.sl zs.nxt 0 2 0 (Option.some 2)) ([(205:Int),(90:Int)]:List Int):=Bk.sl (α:=Int) (l:=([(205:Int),(90:Int)]:List Int)) af (show Cat (α:=Int) re [(Il (205:Int)),(Il (90:Int))] ([(205:Int),(90:Int)]:List Int) from ⟨[(Il (205:Int))],_,rfl,rfl,⟨[(Il (90:Int))],_,rfl,rfl,rfl⟩⟩) rfl rfl _;obtain⟨Iu,ap,hp⟩:=zqp hp;refine zvl (s:=({ Members:=Jb.Members,Losses:=Jb.Losses,Treaty:=Jb.Treaty,Reserve:=Jb.Reserve }:Soc)) (t:=({ Losses:=([(205:Int),(90:Int)]:List Int),Treaty:=(21:Int) }:Tr)) se.pre (Xo.sub pa.fs) (Oo.sub (Sub.trans oa.fs pa.fs)) Zo ap fun Aw bp=>?_
 obtain⟨te,Ju⟩:=se.call bp qe;refine⟨_,_,rfl,?_⟩;obtain⟨Kb,cp,hp⟩:=zqp hp;refine zv0 (most:=(80:Int)) te.pre  cp fun Bw Ku Lu Mu dp ep fp=>?_;obtain⟨ue,gp,Ea,ip⟩:=te.callO dp ep qe 8;refine⟨_,_,_,_,_,rfl,?_⟩;obtain⟨Nu,ve,ua,jp⟩:=ip.freeze gp;obtain⟨we,kp,hp⟩:=zqp hp;refine zvS (s:=({ Members:=Kb.Members,Losses:=Kb.Losses,Treaty:=Kb.Treaty,Reserve:=Kb.Reserve }:Soc)) ve.pre jp (fp.sub ua.fs) kp fun Cw lp=>?_;obtain⟨np,Ou⟩:=ve.call lp ue;refine⟨_,_,_,rfl,?_⟩;intro Dw op;obtain⟨pp,qp,Pu,sp⟩:=np.blk op ue 9;obtain⟨xe,tp,Ec,Ru,vp⟩:=sp.sto qp [Il we.1.Lo,Il we.1.Hi];refine⟨xe,tp,?_⟩;refine zqY hp (fun wp hp=>?_) fun wp hp=>?_
 ·obtain rfl:=oi hp;exact hq _ Ec.ext'
 refine zqY hp (fun xp hp=>?_) fun xp hp=>?_
 ·obtain rfl:=oi hp;exact hq _ Ec.ext'
 intro Ew yp;obtain⟨ye,zp,Ap,Bp⟩:=Ec.blk yp pp 10;have Cp:=vp.k Ap;obtain⟨ze,Ae,va,bf⟩:=Bp.freeze zp;have Dp:=Cp.k va;have Ep:Sl ze (C.sl xe.nxt 0 3 0 (Option.some 3)) ([(100:Int),(50:Int),(50:Int)]:List Int):=Bk.sl (α:=Int) (l:=([(100:Int),(50:Int),(50:Int)]:List Int)) bf (show Cat (α:=Int) ze [(Il (100:Int)),(Il (50:Int)),(Il (50:Int))] ([(100:Int),(50:Int),(50:Int)]:List Int) from ⟨[(Il (100:Int))],_,rfl,rfl,⟨[(Il (50:Int))],_,rfl,rfl,⟨[(Il (50:Int))],_,rfl,rfl,rfl⟩⟩⟩) rfl rfl _;obtain⟨Su,Fp,hp⟩:=zqp hp;refine zuS (a:=Jn.1) (b:=([(100:Int),(50:Int),(50:Int)]:List Int)) Ae.pre (Nn.sub (Sub.trans (Sub.trans (Sub.trans (Sub.trans (Sub.trans (Sub.trans (Sub.trans (Sub.trans (Sub.trans (Sub.trans (Sub.trans (Sub.trans (Sub.trans (Sub.trans (Sub.trans Un.fs fe.fs) ao.fs) Gb.fs) ub.fs) Hb.fs) vb.fs) Ta.fs) Ua.fs) wb.fs) Da.fs) oa.fs) pa.fs) Ea.fs) ua.fs) va.fs)) Ep Fp fun As Gp=>?_;obtain⟨Nb,Hp⟩:=Ae.call Gp ye;have Ip:=Dp.k Hp;refine⟨_,rfl,?_⟩;refine zq0 hp (fun Jp hp=>?_) fun Jp hp=>?_
 ·obtain rfl:=oi hp;exact hq _ Nb.ext'
 refine zqY hp (fun Lp hp=>?_) fun Lp hp=>?_
 ·obtain rfl:=oi hp;exact hq _ Nb.ext'
 refine zqY hp (fun Np hp=>?_) fun Np hp=>?_
 ·obtain rfl:=oi hp;exact hq _ Nb.ext'
 intro Fw Op;obtain⟨Be,Pp,Qp,Rp⟩:=Nb.blk Op ye 11;have Tp:=Ip.k Qp;obtain⟨Ce,De,Fa,cf⟩:=Rp.freeze Pp;have Up:=Tp.k Fa;have Vp:Sl Ce (C.sl As.nxt 0 3 0 (Option.some 3)) ([(101:Int),(50:Int),(50:Int)]:List Int):=Bk.sl (α:=Int) (l:=([(101:Int),(50:Int),(50:Int)]:List Int)) cf (show Cat (α:=Int) Ce [(Il (101:Int)),(Il (50:Int)),(Il (50:Int))] ([(101:Int),(50:Int),(50:Int)]:List Int) from ⟨[(Il (101:Int))],_,rfl,rfl,⟨[(Il (50:Int))],_,rfl,rfl,⟨[(Il (50:Int))],_,rfl,rfl,rfl⟩⟩⟩) rfl rfl _;obtain⟨Tu,Wp,hp⟩:=zqp hp;refine zuS (a:=Ac.1) (b:=([(101:Int),(50:Int),(50:Int)]:List Int)) De.pre (Bc.sub (Sub.trans (Sub.trans (Sub.trans (Sub.trans (Sub.trans (Sub.trans (Sub.trans (Sub.trans (Sub.trans (Sub.trans (Sub.trans (Sub.trans (Sub.trans Gb.fs ub.fs) Hb.fs) vb.fs) Ta.fs) Ua.fs) wb.fs) Da.fs) oa.fs) pa.fs) Ea.fs) ua.fs) va.fs) Fa.fs)) Vp Wp fun Bs Xp=>?_;obtain⟨Ob,Yp⟩:=De.call Xp Be;have Zp:=Up.k Yp;refine⟨_,rfl,?_⟩;refine zq0 hp (fun aq hp=>?_) fun aq hp=>?_
 ·obtain rfl:=oi hp;exact hq _ Ob.ext'
 refine zqY hp (fun bq hp=>?_) fun bq hp=>?_
 ·obtain rfl:=oi hp;exact hq _ Ob.ext'
 refine zqY hp (fun cq hp=>?_) fun cq hp=>?_
 ·obtain rfl:=oi hp;exact hq _ Ob.ext'
 intro Gw dq;obtain⟨hb,eq,fq,gq⟩:=Ob.blk dq Be 12;have iq:=Zp.k fq;obtain⟨Ee,Fe,Ka,df⟩:=gq.freeze eq;have jq:=iq.k Ka;have kq:Sl Ee (C.sl Bs.nxt 0 3 0 (Option.some 3)) ([(500:Int),(60:Int),(500:Int)]:List Int):=Bk.sl (α:=Int) (l:=([(500:Int),(60:Int),(500:Int)]:List Int)) df (show Cat (α:=Int) Ee [(Il (500:Int)),(Il (60:Int)),(Il (500:Int))] ([(500:Int),(60:Int),(500:Int)]:List Int) from ⟨[(Il (500:Int))],_,rfl,rfl,⟨[(Il (60:Int))],_,rfl,rfl,⟨[(Il (500:Int))],_,rfl,rfl,rfl⟩⟩⟩) rfl rfl _;obtain⟨Uu,lq,hp⟩:=zqp hp;refine zuS (a:=ko.1) (b:=([(500:Int),(60:Int),(500:Int)]:List Int)) Fe.pre (po.sub (Sub.trans (Sub.trans (Sub.trans (Sub.trans (Sub.trans (Sub.trans (Sub.trans (Sub.trans (Sub.trans (Sub.trans (Sub.trans vb.fs Ta.fs) Ua.fs) wb.fs) Da.fs) oa.fs) pa.fs) Ea.fs) ua.fs) va.fs) Fa.fs) Ka.fs)) kq lq fun Hw mq=>?_;obtain⟨ib,nq⟩:=Fe.call mq hb;have oq:=jq.k nq;refine⟨_,rfl,?_⟩;refine zq0 hp (fun pq hp=>?_) fun pq hp=>?_
 ·obtain rfl:=oi hp;exact hq _ ib.ext'
 refine zqY hp (fun qq hp=>?_) fun qq hp=>?_
 ·obtain rfl:=oi hp;exact hq _ ib.ext'
 refine⟨Qa.isSl,?_⟩
 try rw[Qa.slLen]
 refine zqY hp (fun rq hp=>?_) fun rq hp=>?_
 ·obtain rfl:=oi hp;exact hq _ ib.ext'
 obtain⟨Vu,Fc,hp⟩:=zqp hp;obtain⟨Cs,ef,Uc,Fc⟩:=zqj Fc;obtain⟨_,Ge⟩:=zrV Qa Fc;refine⟨Cs,ef,(by first|exact Uc|(rw[Qa.slLen];exact Uc)),_,_,(Ge _ (Sub.trans (Sub.trans (Sub.trans (Sub.trans (Sub.trans (Sub.trans (Sub.trans (Sub.trans Da.fs oa.fs) pa.fs) Ea.fs) ua.fs) va.fs) Fa.fs) Ka.fs) ib.sub)).1,?_⟩;obtain⟨Wu,sq,hp⟩:=zqp hp;refine zvX (low:=(157:Int)) (high:=(167:Int)) ib.pre  sq fun Iw tq=>?_;obtain⟨xb,uq⟩:=ib.call tq hb;have vq:=oq.k uq;refine⟨_,_,rfl,(Ge _ (Sub.trans (Sub.trans (Sub.trans (Sub.trans (Sub.trans (Sub.trans (Sub.trans (Sub.trans Da.fs oa.fs) pa.fs) Ea.fs) ua.fs) va.fs) Fa.fs) Ka.fs) xb.sub)).1,?_⟩;refine gdi hp fun wq hp=>?_;refine gdi hp fun xq hp=>?_;refine gdi hp fun yq hp=>?_;refine gdi hp fun zq hp=>?_;refine zq0 hp (fun Aq hp=>?_) fun Aq hp=>?_
 ·obtain rfl:=oi hp;exact hq _ xb.ext'
 obtain⟨Xu,Gc,hp⟩:=zqp hp;obtain⟨Ds,gf,Vc,Gc⟩:=zqj Gc;obtain⟨_,He⟩:=zrV Qa Gc;refine⟨Ds,gf,(by first|exact Vc|(rw[Qa.slLen];exact Vc)),_,_,(He _ (Sub.trans (Sub.trans (Sub.trans (Sub.trans (Sub.trans (Sub.trans (Sub.trans (Sub.trans Da.fs oa.fs) pa.fs) Ea.fs) ua.fs) va.fs) Fa.fs) Ka.fs) xb.sub)).1,?_⟩;obtain⟨Yu,Bq,hp⟩:=zqp hp;refine zvX (low:=(0:Int)) (high:=(0:Int)) xb.pre  Bq fun Jw Cq=>?_;obtain⟨yb,Dq⟩:=xb.call Cq hb;have Eq:=vq.k Dq;refine⟨_,_,rfl,(He _ (Sub.trans (Sub.trans (Sub.trans (Sub.trans (Sub.trans (Sub.trans (Sub.trans (Sub.trans Da.fs oa.fs) pa.fs) Ea.fs) ua.fs) va.fs) Fa.fs) Ka.fs) yb.sub)).1,?_⟩;refine gdi hp fun Fq hp=>?_;refine gdi hp fun Gq hp=>?_;refine gdi hp fun Hq hp=>?_;refine gdi hp fun Iq hp=>?_;refine zq0 hp (fun Jq hp=>?_) fun Jq hp=>?_
 ·obtain rfl:=oi hp;exact hq _ yb.ext'
 obtain⟨Zu,Hc,hp⟩:=zqp hp;obtain⟨Kq,hf,Xc,Hc⟩:=zqj Hc;obtain⟨_,Ie⟩:=zrV Qa Hc;refine⟨Kq,hf,(by first|exact Xc|(rw[Qa.slLen];exact Xc)),_,_,(Ie _ (Sub.trans (Sub.trans (Sub.trans (Sub.trans (Sub.trans (Sub.trans (Sub.trans (Sub.trans Da.fs oa.fs) pa.fs) Ea.fs) ua.fs) va.fs) Fa.fs) Ka.fs) yb.sub)).1,?_⟩;obtain⟨av,Lq,hp⟩:=zqp hp;refine zvX (low:=(78:Int)) (high:=(83:Int)) yb.pre  Lq fun bv Mq=>?_;obtain⟨Va,Nq⟩:=yb.call Mq hb;have Je:=Eq.k Nq;refine⟨_,_,rfl,(Ie _ (Sub.trans (Sub.trans (Sub.trans (Sub.trans (Sub.trans (Sub.trans (Sub.trans (Sub.trans Da.fs oa.fs) pa.fs) Ea.fs) ua.fs) va.fs) Fa.fs) Ka.fs) Va.sub)).1,?_⟩;refine gdi hp fun Pq hp=>?_;refine gdi hp fun Qq hp=>?_;refine gdi hp fun Rq hp=>?_;refine gdi hp fun Sq hp=>?_;refine zq0 hp (fun Tq hp=>?_) fun Tq hp=>?_
 ·obtain rfl:=oi hp;exact hq _ Va.ext'
 refine zqY hp (fun Uq hp=>?_) fun Uq hp=>?_
 ·obtain rfl:=oi hp;exact hq _ Va.ext'
 refine zqY hp (fun Vq hp=>?_) fun Vq hp=>?_
 ·obtain rfl:=oi hp;exact hq _ Va.ext'
 refine zqY hp (fun Wq hp=>?_) fun Wq hp=>?_
 ·obtain rfl:=oi hp;exact hq _ Va.ext'
 refine⟨_,_,Je.bk.ra,?_⟩;obtain⟨cv,Xq,hp⟩:=zqp hp;refine zvX (low:=(15:Int)) (high:=(30:Int)) Va.pre  Xq fun fv Yq=>?_;obtain⟨Ic,Zq⟩:=Va.call Yq hb;have ar:=Je.k Zq;refine⟨_,_,rfl,(ar.bk.ra),?_⟩;refine gdi hp fun br hp=>?_;refine gdi hp fun cr hp=>?_;refine gdi hp fun dr hp=>?_;refine gdi hp fun er hp=>?_;refine zq0 hp (fun fr hp=>?_) fun fr hp=>?_
 ·obtain rfl:=oi hp;exact hq _ Ic.ext'
 obtain⟨Pb,gr,hp⟩:=zqp hp;refine zv0 (most:=(500:Int)) Ic.pre  gr fun gv hv iv jv hr ir jr=>?_;obtain⟨Ke,kr,Me,lr⟩:=Ic.callO hr ir hb 13;refine⟨_,_,_,_,_,rfl,?_⟩;obtain⟨kv,Ne,Jc,mr⟩:=lr.freeze kr;obtain⟨lv,nr,hp⟩:=zqp hp;refine zvW (s:=({ Members:=Pb.Members,Losses:=Pb.Losses,Treaty:=Pb.Treaty,Reserve:=Pb.Reserve }:Soc)) (need:=(201:Int)) (calls:=Ac.1) Ne.pre mr (jr.sub Jc.fs) (Bc.sub (Sub.trans (Sub.trans (Sub.trans (Sub.trans (Sub.trans (Sub.trans (Sub.trans (Sub.trans (Sub.trans (Sub.trans (Sub.trans (Sub.trans (Sub.trans (Sub.trans (Sub.trans (Sub.trans Gb.fs ub.fs) Hb.fs) vb.fs) Ta.fs) Ua.fs) wb.fs) Da.fs) oa.fs) pa.fs) Ea.fs) ua.fs) va.fs) Fa.fs) Ka.fs) Me.fs) Jc.fs)) nr fun nv pr=>?_;obtain⟨Kc,ov⟩:=Ne.call pr Ke;refine⟨_,rfl,?_⟩;refine zq0 hp (fun qr hp=>?_) fun qr hp=>?_
 ·obtain rfl:=oi hp;exact hq _ Kc.ext'
 obtain⟨Qb,rr,hp⟩:=zqp hp;refine zv0 (most:=(500:Int)) Kc.pre  rr fun pv qv rv sv sr tr ur=>?_;obtain⟨Oe,vr,xr,yr⟩:=Kc.callO sr tr Ke 14;refine⟨_,_,_,_,_,rfl,?_⟩;obtain⟨tv,Pe,Qe,zr⟩:=yr.freeze vr;obtain⟨uv,Ar,hp⟩:=zqp hp;refine zvW (s:=({ Members:=Qb.Members,Losses:=Qb.Losses,Treaty:=Qb.Treaty,Reserve:=Qb.Reserve }:Soc)) (need:=(200:Int)) (calls:=Ac.1) Pe.pre zr (ur.sub Qe.fs) (Bc.sub (Sub.trans (Sub.trans (Sub.trans (Sub.trans (Sub.trans (Sub.trans (Sub.trans (Sub.trans (Sub.trans (Sub.trans (Sub.trans (Sub.trans (Sub.trans (Sub.trans (Sub.trans (Sub.trans (Sub.trans (Sub.trans Gb.fs ub.fs) Hb.fs) vb.fs) Ta.fs) Ua.fs) wb.fs) Da.fs) oa.fs) pa.fs) Ea.fs) ua.fs) va.fs) Fa.fs) Ka.fs) Me.fs) Jc.fs) xr.fs) Qe.fs)) Ar fun vv Br=>?_;obtain⟨Nc,wv⟩:=Pe.call Br Oe;refine⟨_,rfl,?_⟩;refine zqZ hp (fun Cr hp=>?_) fun Cr hp=>?_
 ·obtain rfl:=oi hp;exact hq _ Nc.ext'
 obtain⟨Ra,Dr,hp⟩:=zqp hp;refine zv0 (most:=(500:Int)) Nc.pre  Dr fun xv yv Re Se Er Gr Hr=>?_;obtain⟨Jr,Kr,zv,q⟩:=Nc.callO Er Gr Oe 15;refine⟨_,_,_,_,_,rfl,?_⟩;intro Av Lr;obtain⟨Mr,Nr,Or,Pr⟩:=Kr.blk Lr Jr 16;have q:=q.k Or;obtain⟨Qr,Rr,Sr,Ur,Vr⟩:=Pr.sto Nr [Re,Se,Il Ra.Treaty.Lo,Il Ra.Treaty.Hi,Il Ra.Reserve];have q:=q.k Ur;refine⟨Qr,Rr,?_⟩;refine⟨trivial,?_⟩;obtain⟨Xr,Yr,Te,Zr,Pc⟩:=Vr.sto1 Sr 4 (Il (300:Int)) (by simp) rfl
 replace Pc:Lb _ _ _ _ _ _ _ [Re,Se,Il Ra.Treaty.Lo,Il Ra.Treaty.Hi,(Il (300:Int))]:=Pc
 have q:=q.k Zr;refine⟨Xr,Yr,?_⟩;obtain⟨Rb,bs,hp⟩:=zqp hp;refine zv0 (most:=(500:Int)) Te.pre  bs fun cs Bv Cv Fv ds es gs=>?_;obtain⟨hs,js,Qc,Rc⟩:=Te.callO ds es Mr 17;have ks:=Pc.k Qc;have q:=q.k Qc;refine⟨_,_,_,_,_,rfl,?_⟩;intro Gv ms;obtain⟨Ue,ns,Tc,os⟩:=js.blk ms hs 18;have ps:=ks.k Tc;have q:=q.k Tc;have Rc:=Rc.k Tc;obtain⟨Hv,qs,zb,ss⟩:=Rc.freeze ns;have ts:=ps.k zb;have us:=os.k zb;have q:=q.k zb;obtain⟨Yc,Zc,Xa,Ve⟩:=us.freeze qs;have jf:=ts.k Xa;have q:=q.k Xa;have kf:Sl Yc (C.sl cs.nxt 0 1 0 (Option.some 1)) ([(205:Int)]:List Int):=Bk.sl (α:=Int) (l:=([(205:Int)]:List Int)) Ve (show Cat (α:=Int) Yc [(Il (205:Int))] ([(205:Int)]:List Int) from ⟨[(Il (205:Int))],_,rfl,rfl,rfl⟩) rfl rfl _;obtain⟨Ks,lf,hp⟩:=zqp hp;refine zvl (s:=({ Members:=Rb.Members,Losses:=Rb.Losses,Treaty:=Rb.Treaty,Reserve:=Rb.Reserve }:Soc)) (t:=({ Losses:=([(205:Int)]:List Int),Treaty:=(21:Int) }:Tr)) Zc.pre (ss.sub Xa.fs) (gs.sub (Sub.trans zb.fs Xa.fs)) kf lf fun Jv mf=>?_;obtain⟨ad,bd⟩:=Zc.call mf Ue;have nf:=jf.k bd;have q:=q.k bd;refine⟨_,_,rfl,?_⟩;obtain⟨jb,pf,hp⟩:=zqp hp;refine zv0 (most:=(500:Int)) ad.pre  pf fun vs Ms Ns Os qf rf sf=>?_;obtain⟨tf,uf,Sb,Tb⟩:=ad.callO qf rf Ue 19;have vf:=nf.k Sb;have q:=q.k Sb;refine⟨_,_,_,_,_,rfl,?_⟩;intro Kv wf;obtain⟨cd,xf,Ub,yf⟩:=uf.blk wf tf 20;have zf:=vf.k Ub;have q:=q.k Ub;have Tb:=Tb.k Ub;obtain⟨Ps,Af,Ya,Bf⟩:=Tb.freeze xf;have Cf:=zf.k Ya;have Df:=yf.k Ya;have q:=q.k Ya;obtain⟨dd,ed,Za,We⟩:=Df.freeze Af;have Ef:=Cf.k Za;have q:=q.k Za
 have Ff:Sl dd (C.sl vs.nxt 0 2 0 (Option.some 2)) ([(211:Int),(90:Int)]:List Int):=Bk.sl (α:=Int) (l:=([(211:Int),(90:Int)]:List Int)) We (show Cat (α:=Int) dd [(Il (211:Int)),(Il (90:Int))] ([(211:Int),(90:Int)]:List Int) from ⟨[(Il (211:Int))],_,rfl,rfl,⟨[(Il (90:Int))],_,rfl,rfl,rfl⟩⟩) rfl rfl _;obtain⟨Qs,Gf,hp⟩:=zqp hp;refine zvl (s:=({ Members:=jb.Members,Losses:=jb.Losses,Treaty:=jb.Treaty,Reserve:=jb.Reserve }:Soc)) (t:=({ Losses:=([(211:Int),(90:Int)]:List Int),Treaty:=(21:Int) }:Tr)) ed.pre (Bf.sub Za.fs) (sf.sub (Sub.trans Ya.fs Za.fs)) Ff Gf fun Lv Hf=>?_;obtain⟨fd,hd⟩:=ed.call Hf cd;have If:=Ef.k hd;have q:=q.k hd;refine⟨_,_,rfl,?_⟩;obtain⟨kb,Jf,hp⟩:=zqp hp;refine zv0 (most:=(500:Int)) fd.pre  Jf fun Mv Ss Ts Us Kf Lf Mf=>?_;obtain⟨id,Nf,Vb,Of⟩:=fd.callO Kf Lf cd 21;have Pf:=If.k Vb;have q:=q.k Vb;refine⟨_,_,_,_,_,rfl,?_⟩;obtain⟨Vs,jd,mb,Qf⟩:=Of.freeze Nf;have Rf:=Pf.k mb;have q:=q.k mb;obtain⟨Ws,Sf,hp⟩:=zqp hp;refine zvP (s:=({ Members:=kb.Members,Losses:=kb.Losses,Treaty:=kb.Treaty,Reserve:=kb.Reserve }:Soc)) (need:=(300001:Int)) jd.pre Qf (Mf.sub mb.fs) Sf fun Nv Xs Ys Tf Zs=>?_;obtain⟨kd,Wb⟩:=jd.callG Tf id;have Uf:=Rf.k Wb;have q:=q.k Wb;refine⟨_,_,_,rfl,?_⟩;obtain⟨ob,Vf,hp⟩:=zqp hp;refine zv0 (most:=(500:Int)) kd.pre  Vf fun ws bt ct dt Wf Xf Yf=>?_;obtain⟨Zf,ag,Xb,Yb⟩:=kd.callO Wf Xf id 22;have bg:=Uf.k Xb;have q:=q.k Xb;refine⟨_,_,_,_,_,rfl,?_⟩;intro Ov cg;obtain⟨ld,dg,Zb,eg⟩:=ag.blk cg Zf 23;have fg:=bg.k Zb;have q:=q.k Zb;have Yb:=Yb.k Zb
 obtain⟨et,gg,ab,hg⟩:=Yb.freeze dg;have ig:=fg.k ab;have jg:=eg.k ab;have q:=q.k ab;obtain⟨md,nd,bb,Xe⟩:=jg.freeze gg;have kg:=ig.k bb;have q:=q.k bb;have lg:Sl md (C.sl ws.nxt 0 2 0 (Option.some 2)) ([(1:Int),(1:Int)]:List Int):=Bk.sl (α:=Int) (l:=([(1:Int),(1:Int)]:List Int)) Xe (show Cat (α:=Int) md [(Il (1:Int)),(Il (1:Int))] ([(1:Int),(1:Int)]:List Int) from ⟨[(Il (1:Int))],_,rfl,rfl,⟨[(Il (1:Int))],_,rfl,rfl,rfl⟩⟩) rfl rfl _;obtain⟨ft,mg,hp⟩:=zqp hp;refine zvQ (s:=({ Members:=ob.Members,Losses:=ob.Losses,Treaty:=ob.Treaty,Reserve:=ob.Reserve }:Soc)) (out:=([(1:Int),(1:Int)]:List Int)) nd.pre (hg.sub bb.fs) (Yf.sub (Sub.trans ab.fs bb.fs)) lg mg fun Pv gt ht ng it=>?_;obtain⟨od,ac⟩:=nd.callG ng ld;have og:=kg.k ac;have q:=q.k ac;refine⟨_,_,rfl,?_⟩;obtain⟨pb,pg,hp⟩:=zqp hp;refine zv0 (most:=(80:Int)) od.pre  pg fun Qv jt kt mt qg rg sg=>?_;obtain⟨bc,tg,cc,ug⟩:=od.callO qg rg ld 24;have vg:=og.k cc;have q:=q.k cc;refine⟨_,_,_,_,_,rfl,?_⟩;obtain⟨nt,pd,qb,xg⟩:=ug.freeze tg;have zg:=vg.k qb;have q:=q.k qb;obtain⟨ot,Ag,hp⟩:=zqp hp;refine zvT (s:=({ Members:=pb.Members,Losses:=pb.Losses,Treaty:=pb.Treaty,Reserve:=pb.Reserve }:Soc)) pd.pre xg (sg.sub qb.fs) Ag fun Rv Bg=>?_;obtain⟨Cg,qd⟩:=pd.call Bg bc;have Dg:=zg.k qd;have q:=q.k qd;refine⟨_,_,rfl,_,_,_,_,_,Dg.bk.ra,?_⟩;obtain⟨pt,sd,Eg,Fg⟩:=q.freeze Cg;obtain⟨qt,Gg,hp⟩:=zqp hp;refine zvU (s:=({ Members:=Ra.Members,Losses:=Ra.Losses,Treaty:=Ra.Treaty,Reserve:=(300:Int) }:Soc)) sd.pre Fg (Hr.sub (Sub.trans (Sub.trans (Sub.trans (Sub.trans (Sub.trans (Sub.trans (Sub.trans (Sub.trans (Sub.trans (Sub.trans (Sub.trans (Sub.trans (Sub.trans (Sub.trans (Sub.trans Qc.fs zb.fs) Xa.fs) Sb.fs) Ya.fs) Za.fs) Vb.fs) mb.fs) Wb.fs) Xb.fs) ab.fs) bb.fs) ac.fs) cc.fs) qb.fs) Eg.fs)) Gg fun Sv rt ut Hg vt=>?_
 obtain⟨td,wt⟩:=sd.callG Hg bc;refine⟨_,_,rfl,?_⟩;obtain⟨wa,Ig,hp⟩:=zqp hp;refine zv0 (most:=(500:Int)) td.pre  Ig fun Tv yt Jg Kg Lg Mg Ng=>?_;obtain⟨Og,ud,zt,j⟩:=td.callO Lg Mg bc 25;refine⟨_,_,_,_,_,rfl,?_⟩;obtain⟨xa,Pg,hp⟩:=zqp hp;refine zv0 (most:=(500:Int)) ud.pre  Pg fun Uv At Qg Sg Tg Ug Vg=>?_;obtain⟨Xg,vd,wd,o⟩:=ud.callO Tg Ug Og 26;have j:=j.k wd;refine⟨_,_,_,_,_,rfl,?_⟩;obtain⟨ya,Zg,hp⟩:=zqp hp;refine zv0 (most:=(500:Int)) vd.pre  Zg fun Vv Bt ah bh ch dh eh=>?_;obtain⟨fh,xd,rb,p⟩:=vd.callO ch dh Xg 27;have j:=j.k rb;have o:=o.k rb;refine⟨_,_,_,_,_,rfl,?_⟩;obtain⟨La,gh,hp⟩:=zqp hp;refine zv0 (most:=(500:Int)) xd.pre  gh fun Wv Ct yd zd hh ih jh=>?_;obtain⟨kh,Ad,Sa,i⟩:=xd.callO hh ih fh 28;have j:=j.k Sa;have o:=o.k Sa;have p:=p.k Sa;refine⟨_,_,_,_,_,rfl,?_⟩;obtain⟨Ga,lh,hp⟩:=zqp hp;refine zv0 (most:=(500:Int)) Ad.pre  lh fun Xv Dt Cd Dd mh nh oh=>?_;obtain⟨ph,Ed,Ha,g⟩:=Ad.callO mh nh kh 29;have j:=j.k Ha;have o:=o.k Ha;have p:=p.k Ha;have i:=i.k Ha;refine⟨_,_,_,_,_,rfl,?_⟩;obtain⟨za,qh,hp⟩:=zqp hp;refine zv0 (most:=(500:Int)) Ed.pre  qh fun Yv Et Fd rh th uh Ft=>?_;obtain⟨vh,Gd,qa,e⟩:=Ed.callO th uh ph 30;have j:=j.k qa;have o:=o.k qa;have p:=p.k qa;have i:=i.k qa;have g:=g.k qa;refine⟨_,_,_,_,_,rfl,?_⟩;obtain⟨Aa,wh,hp⟩:=zqp hp;refine zv0 (most:=(500:Int)) Gd.pre  wh fun Zv Gt xh Hd yh zh Ah=>?_;obtain⟨Bh,Ch,la,d⟩:=Gd.callO yh zh vh 31;have j:=j.k la;have o:=o.k la;have p:=p.k la;have i:=i.k la;have g:=g.k la;have e:=e.k la
 refine⟨_,_,_,_,_,rfl,?_⟩;intro aw Dh;obtain⟨Eh,Fh,Ma,Gh⟩:=Ch.blk Dh Bh 32;have j:=j.k Ma;have o:=o.k Ma;have p:=p.k Ma;have i:=i.k Ma;have g:=g.k Ma;have e:=e.k Ma;have d:=d.k Ma;intro bw Hh;obtain⟨Ih,Jh,Ia,Kh⟩:=Fh.blk Hh Eh 33;have Lh:=Gh.k Ia;have j:=j.k Ia;have o:=o.k Ia;have p:=p.k Ia;have i:=i.k Ia;have g:=g.k Ia;have e:=e.k Ia;have d:=d.k Ia;intro cw Mh;obtain⟨Nh,Oh,Ba,Ph⟩:=Jh.blk Mh Ih 34;have Qh:=Lh.k Ba;have Rh:=Kh.k Ba;have j:=j.k Ba;have o:=o.k Ba;have p:=p.k Ba;have i:=i.k Ba;have g:=g.k Ba;have e:=e.k Ba;have d:=d.k Ba;intro dw Th;obtain⟨Uh,Vh,sa,Wh⟩:=Oh.blk Th Nh 35;have Xh:=Qh.k sa;have Yh:=Rh.k sa;have Zh:=Ph.k sa;have j:=j.k sa;have o:=o.k sa;have p:=p.k sa;have i:=i.k sa;have g:=g.k sa;have e:=e.k sa;have d:=d.k sa;intro ew ai;obtain⟨bi,ci,ma,ei⟩:=Vh.blk ai Uh 36;have fi:=Xh.k ma;have gi:=Yh.k ma;have hi:=Zh.k ma;have ii:=Wh.k ma;have j:=j.k ma;have o:=o.k ma;have p:=p.k ma;have i:=i.k ma;have g:=g.k ma;have e:=e.k ma;have d:=d.k ma;intro fw ji;obtain⟨ki,ni,ka,pi⟩:=ci.blk ji bi 37;have qi:=fi.k ka;have ri:=gi.k ka;have si:=hi.k ka;have ti:=ii.k ka;have ui:=ei.k ka;have j:=j.k ka;have o:=o.k ka;have p:=p.k ka;have i:=i.k ka;have g:=g.k ka;have e:=e.k ka;have d:=d.k ka;intro gw vi;obtain⟨Id,wi,J,xi⟩:=ni.blk vi ki 38;have yi:=qi.k J;have zi:=ri.k J;have Ai:=si.k J;have Bi:=ti.k J;have Ci:=ui.k J;have Di:=pi.k J;have j:=j.k J;have o:=o.k J;have p:=p.k J;have i:=i.k J;have g:=g.k J;have e:=e.k J;have d:=d.k J;obtain⟨Ei,Fi,Gi,N,Ii⟩:=yi.sto wi [Jg,Kg,Il wa.Treaty.Lo,Il wa.Treaty.Hi,Il wa.Reserve]
 have Ji:=zi.k N;have Ki:=Ai.k N;have Ni:=Bi.k N;have Oi:=Ci.k N;have Pi:=Di.k N;have Qi:=xi.k N;have j:=j.k N;have o:=o.k N;have p:=p.k N;have i:=i.k N;have g:=g.k N;have e:=e.k N;have d:=d.k N;refine⟨Ei,Fi,?_⟩;obtain⟨Ri,Si,Ti,O,Ui⟩:=Ji.sto Gi [Qg,Sg,Il xa.Treaty.Lo,Il xa.Treaty.Hi,Il xa.Reserve];have Vi:=Ii.k O;have Wi:=Ki.k O;have Xi:=Ni.k O;have Yi:=Oi.k O;have Zi:=Pi.k O;have aj:=Qi.k O;have j:=j.k O;have o:=o.k O;have p:=p.k O;have i:=i.k O;have g:=g.k O;have e:=e.k O;have d:=d.k O;refine⟨Ri,Si,?_⟩;obtain⟨bj,cj,dj,P,ej⟩:=Wi.sto Ti [ah,bh,Il ya.Treaty.Lo,Il ya.Treaty.Hi,Il ya.Reserve];have fj:=Vi.k P;have gj:=Ui.k P;have hj:=Xi.k P;have ij:=Yi.k P;have jj:=Zi.k P;have kj:=aj.k P;have j:=j.k P;have o:=o.k P;have p:=p.k P;have i:=i.k P;have g:=g.k P;have e:=e.k P;have d:=d.k P;refine⟨bj,cj,?_⟩;obtain⟨lj,mj,nj,S,oj⟩:=hj.sto dj [yd,zd,Il La.Treaty.Lo,Il La.Treaty.Hi,Il La.Reserve];have pj:=fj.k S;have qj:=gj.k S;have rj:=ej.k S;have sj:=ij.k S;have tj:=jj.k S;have uj:=kj.k S;have j:=j.k S;have o:=o.k S;have p:=p.k S;have i:=i.k S;have g:=g.k S;have e:=e.k S;have d:=d.k S;refine⟨lj,mj,?_⟩;obtain⟨vj,wj,xj,T,yj⟩:=sj.sto nj [Cd,Dd,Il Ga.Treaty.Lo,Il Ga.Treaty.Hi,Il Ga.Reserve];have zj:=pj.k T;have Aj:=qj.k T;have Bj:=rj.k T;have Cj:=oj.k T;have Dj:=tj.k T;have Ej:=uj.k T;have j:=j.k T;have o:=o.k T;have p:=p.k T;have i:=i.k T;have g:=g.k T;have e:=e.k T;have d:=d.k T;refine⟨vj,wj,?_⟩;obtain⟨Fj,Gj,Hj,Y,Ij⟩:=Dj.sto xj [Fd,rh,Il za.Treaty.Lo,Il za.Treaty.Hi,Il za.Reserve]
 have Jj:=zj.k Y;have Kj:=Aj.k Y;have Lj:=Bj.k Y;have Mj:=Cj.k Y;have Nj:=yj.k Y;have Oj:=Ej.k Y;have j:=j.k Y;have o:=o.k Y;have p:=p.k Y;have i:=i.k Y;have g:=g.k Y;have e:=e.k Y;have d:=d.k Y;refine⟨Fj,Gj,?_⟩;obtain⟨Pj,Qj,Rj,Z,Sj⟩:=Oj.sto Hj [xh,Hd,Il Aa.Treaty.Lo,Il Aa.Treaty.Hi,Il Aa.Reserve];have Jd:=Jj.k Z;have Tj:=Kj.k Z;have Uj:=Lj.k Z;have Vj:=Mj.k Z;have Wj:=Nj.k Z;have Xj:=Ij.k Z;have j:=j.k Z;have o:=o.k Z;have p:=p.k Z;have i:=i.k Z;have g:=g.k Z;have e:=e.k Z;have d:=d.k Z;refine⟨Pj,Qj,?_⟩;refine⟨trivial,_,Jd.bk.rc rfl,?_⟩;obtain⟨aa,cb,hp⟩:=zqp hp;obtain⟨dc,Ab,pc,cb⟩:=zqj cb;refine⟨dc,Ab,(by first|exact pc|(rw[j.slLen];exact pc)),(j.isPt cb _),?_⟩;obtain⟨Yj,Zj,ak,ba,A⟩:=j.setP Rj (a':=({ Sum:=aa.Sum,Class:=(11:Int),Most:=aa.Most }:Mb)) cb [Il aa.Sum,Il aa.Class,Il aa.Most] (fun _ h=>h) 1 [(Il (11:Int))] (Nat.le_of_ble_eq_true rfl) rfl
 have qc:Int.toNat (0:Int)=dc:=by rw[Ab]; rfl
 rw[<- qc] at A;have Es:=Ab;have ck:(wa.Members.set (Int.toNat (0:Int)) ({ Sum:=aa.Sum,Class:=(11:Int),Most:=aa.Most }:Mb))[dc]? = some ({ Sum:=aa.Sum,Class:=(11:Int),Most:=aa.Most }:Mb):=(congrArg (fun z=>(wa.Members.set z ({ Sum:=aa.Sum,Class:=(11:Int),Most:=aa.Most }:Mb))[dc]?) qc).trans (List.getElem?_set_self (List.getElem?_eq_some_iff.1 cb).1);have Fs:=(List.getElem?_eq_some_iff.1 ck).1;have dk:=Jd.k ba;have Ld:=Tj.k ba;have ek:=Uj.k ba;have fk:=Vj.k ba;have gk:=Wj.k ba;have hk:=Xj.k ba;have ik:=Sj.k ba;have o:=o.k ba;have p:=p.k ba;have i:=i.k ba;have g:=g.k ba;have e:=e.k ba;have d:=d.k ba;refine⟨Yj,Zj,?_⟩;refine⟨trivial,_,Ld.bk.rc rfl,?_⟩;obtain⟨ca,db,hp⟩:=zqp hp;obtain⟨ec,Bb,sc,db⟩:=zqj db;refine⟨ec,Bb,(by first|exact sc|(rw[o.slLen];exact sc)),(o.isPt db _),?_⟩;obtain⟨jk,kk,mk,da,w⟩:=o.setP ak (a':=({ Sum:=(0:Int),Class:=ca.Class,Most:=ca.Most }:Mb)) db [Il ca.Sum,Il ca.Class,Il ca.Most] (fun _ h=>h) 0 [Il 0] (Nat.le_of_ble_eq_true rfl) rfl
 have tc:Int.toNat (0:Int)=ec:=by rw[Bb]; rfl
 rw[<- tc] at w;have Gs:=Bb;have nk:(xa.Members.set (Int.toNat (0:Int)) ({ Sum:=(0:Int),Class:=ca.Class,Most:=ca.Most }:Mb))[ec]? = some ({ Sum:=(0:Int),Class:=ca.Class,Most:=ca.Most }:Mb):=(congrArg (fun z=>(xa.Members.set z ({ Sum:=(0:Int),Class:=ca.Class,Most:=ca.Most }:Mb))[ec]?) tc).trans (List.getElem?_set_self (List.getElem?_eq_some_iff.1 db).1);have Hs:=(List.getElem?_eq_some_iff.1 nk).1;have ok:=dk.k da;have pk:=Ld.k da;have Md:=ek.k da;have qk:=fk.k da;have sk:=gk.k da;have uk:=hk.k da;have vk:=ik.k da;have p:=p.k da;have i:=i.k da;have g:=g.k da;have e:=e.k da;have d:=d.k da;have A:=A.k da;refine⟨jk,kk,?_⟩;refine⟨trivial,_,Md.bk.rc rfl,?_⟩;obtain⟨ea,eb,hp⟩:=zqp hp;obtain⟨fc,Cb,uc,eb⟩:=zqj eb;refine⟨fc,Cb,(by first|exact uc|(rw[p.slLen];exact uc)),(p.isPt eb _),?_⟩;obtain⟨wk,xk,Nd,fa,u⟩:=p.setP mk (a':=({ Sum:=ea.Sum,Class:=ea.Class,Most:=(100001:Int) }:Mb)) eb [Il ea.Sum,Il ea.Class,Il ea.Most] (fun _ h=>h) 2 [(Il (100001:Int))] (Nat.le_of_ble_eq_true rfl) rfl
 have vc:Int.toNat (0:Int)=fc:=by rw[Cb]; rfl
 rw[<- vc] at u;have Is:=Cb;have yk:(ya.Members.set (Int.toNat (0:Int)) ({ Sum:=ea.Sum,Class:=ea.Class,Most:=(100001:Int) }:Mb))[fc]? = some ({ Sum:=ea.Sum,Class:=ea.Class,Most:=(100001:Int) }:Mb):=(congrArg (fun z=>(ya.Members.set z ({ Sum:=ea.Sum,Class:=ea.Class,Most:=(100001:Int) }:Mb))[fc]?) vc).trans (List.getElem?_set_self (List.getElem?_eq_some_iff.1 eb).1);have Js:=(List.getElem?_eq_some_iff.1 yk).1;have zk:=ok.k fa;have Ak:=pk.k fa;have Ck:=Md.k fa;have Dk:=qk.k fa;have Ek:=sk.k fa;have Fk:=uk.k fa;have Gk:=vk.k fa;have i:=i.k fa;have g:=g.k fa;have e:=e.k fa;have d:=d.k fa;have A:=A.k fa;have w:=w.k fa;refine⟨wk,xk,?_⟩;obtain⟨fb,Hk,hp⟩:=zqp hp;refine zvX (low:=(0:Int)) (high:=(31:Int)) Nd.pre  Hk fun hw Ik=>?_;obtain⟨Jk,D⟩:=Nd.call Ik Id;have Kk:=zk.k D;have Lk:=Ak.k D;have Mk:=Ck.k D;have Nk:=Dk.k D;have Ok:=Ek.k D;have Qk:=Fk.k D;have Sk:=Gk.k D;have i:=i.k D;have g:=g.k D;have e:=e.k D;have d:=d.k D;have A:=A.k D;have w:=w.k D;have u:=u.k D;refine⟨_,_,rfl,trivial,?_⟩;obtain⟨Tk,Uk,Vk,ga,gc⟩:=Nk.stoP Jk 2 [Il fb.Lo,Il fb.Hi] (Nat.le_of_ble_eq_true rfl) rfl
 replace gc:Lb _ _ _ _ _ _ _ [yd,zd,Il fb.Lo,Il fb.Hi,Il La.Reserve]:=gc
 have Xk:=Kk.k ga;have Yk:=Lk.k ga;have Zk:=Mk.k ga;have al:=Ok.k ga;have bl:=Qk.k ga;have cl:=Sk.k ga;have i:=i.k ga;have g:=g.k ga;have e:=e.k ga;have d:=d.k ga;have A:=A.k ga;have w:=w.k ga;have u:=u.k ga;refine⟨Tk,Uk,?_⟩;refine⟨trivial,?_⟩;obtain⟨hc,dl,el,ha,ic⟩:=al.sto1 Vk 4 (Il (-1:Int)) (by simp) rfl
 replace ic:Lb _ _ _ _ _ _ _ [Cd,Dd,Il Ga.Treaty.Lo,Il Ga.Treaty.Hi,(Il (-1:Int))]:=ic
 have fl:=Xk.k ha;have gl:=Yk.k ha;have hl:=Zk.k ha;have il:=gc.k ha;have jl:=bl.k ha;have kl:=cl.k ha;have i:=i.k ha;have g:=g.k ha;have e:=e.k ha;have d:=d.k ha;have A:=A.k ha;have w:=w.k ha;have u:=u.k ha;refine⟨hc,dl,?_⟩;obtain⟨Ht,hp⟩:=zqq hp;obtain⟨Wa,wc⟩:∃n:Nat,(4:Int)=(n:Int):=⟨Int.toNat (4:Int),by omega⟩
 have Ye:Int.toNat (4:Int)=Wa:=by omega
 refine⟨Wa,Wa,wc,wc,Nat.le_refl _,(by omega),?_⟩;intro iw ll;obtain⟨Ja,ml,F,nl⟩:=el.blk ll Id 39;have r:=Lb.mkS (β:=Rg) (a:=({ Lo:=(0:Int),Hi:=(0:Int) }:Rg)) nl rfl Ye;have ol:=fl.k F;have pl:=gl.k F;have ql:=hl.k F;have rl:=il.k F;have tl:=ic.k F;have ul:=jl.k F;have vl:=kl.k F;have i:=i.k F;have g:=g.k F;have e:=e.k F;have d:=d.k F;have A:=A.k F;have w:=w.k F;have u:=u.k F;refine⟨trivial,?_⟩;obtain⟨wl,xl,yl,G,jc⟩:=ul.sto1 ml 1 (.sl hc.nxt 0 Wa 0 (some Wa)) (by simp) rfl
 replace jc:Lb _ _ _ _ _ _ _ [Fd,(.sl hc.nxt 0 Wa 0 (some Wa)),Il za.Treaty.Lo,Il za.Treaty.Hi,Il za.Reserve]:=jc
 have zl:=ol.k G;have Al:=pl.k G;have Bl:=ql.k G;have Cl:=rl.k G;have Dl:=tl.k G;have El:=vl.k G;have i:=i.k G;have g:=g.k G;have e:=e.k G;have d:=d.k G;have A:=A.k G;have w:=w.k G;have u:=u.k G;have r:=r.k G;refine⟨wl,xl,?_⟩;refine⟨trivial,?_⟩;obtain⟨Fl,Gl,Na,I,kc⟩:=El.sto1 yl 0 .sl0 (by simp) rfl
 replace kc:Lb _ _ _ _ _ _ _ [.sl0,Hd,Il Aa.Treaty.Lo,Il Aa.Treaty.Hi,Il Aa.Reserve]:=kc
 have Hl:=zl.k I;have Jl:=Al.k I;have Kl:=Bl.k I;have Ll:=Cl.k I;have Ml:=Dl.k I;have Nl:=jc.k I;have i:=i.k I;have g:=g.k I;have e:=e.k I;have d:=d.k I;have A:=A.k I;have w:=w.k I;have u:=u.k I;have r:=r.k I;refine⟨Fl,Gl,?_⟩;refine ifd hp (fun Ol hp=>?_) fun Ol hp=>?_; rotate_left
 ·obtain rfl:=oi hp;exact hq _ Na.ext'
 refine ifd hp (fun Pl hp=>?_) fun Pl hp=>?_; rotate_left
 ·obtain rfl:=oi hp;exact hq _ Na.ext'
 refine ifd hp (fun Ql hp=>?_) fun Ql hp=>?_; rotate_left
 ·obtain rfl:=oi hp;exact hq _ Na.ext'
 refine ifd hp (fun Rl hp=>?_) fun Rl hp=>?_; rotate_left
 ·obtain rfl:=oi hp;exact hq _ Na.ext'
 refine ifd hp (fun Tl hp=>?_) fun Tl hp=>?_; rotate_left
 ·obtain rfl:=oi hp;exact hq _ Na.ext'
 refine ifd hp (fun Ul hp=>?_) fun Ul hp=>?_; rotate_left
 ·obtain rfl:=oi hp;exact hq _ Na.ext'
 refine⟨_,_,_,_,_,Hl.bk.ra,?_⟩;obtain⟨Jt,Od,y,Vl⟩:=A.freeze Na;have Xl:=Jl.k y;have Yl:=Kl.k y;have Zl:=Ll.k y;have am:=Ml.k y;have bm:=Nl.k y;have cm:=kc.k y;have i:=i.k y;have g:=g.k y;have e:=e.k y;have d:=d.k y;have w:=w.k y;have u:=u.k y;have r:=r.k y;obtain⟨Kt,dm,hp⟩:=zqp hp;have xc:=@zvc ({ Members:=(wa.Members.set (Int.toNat (0:Int)) ({ Sum:=aa.Sum,Class:=(11:Int),Most:=aa.Most }:Mb)),Losses:=wa.Losses,Treaty:=wa.Treaty,Reserve:=wa.Reserve }:Soc)
 dsimp only at xc
 refine xc Od.pre Vl (Ng.sub (Sub.trans (Sub.trans (Sub.trans (Sub.trans (Sub.trans (Sub.trans wd.fs rb.fs) Sa.fs) Ha.fs) qa.fs) la.fs) y.fs)) dm fun jw em=>?_;obtain⟨Pd,ia⟩:=Od.call em Ja;have fm:=Xl.k ia;have gm:=Yl.k ia;have hm:=Zl.k ia;have im:=am.k ia;have jm:=bm.k ia;have km:=cm.k ia;have i:=i.k ia;have g:=g.k ia;have e:=e.k ia;have d:=d.k ia;have w:=w.k ia;have u:=u.k ia;have r:=r.k ia;refine⟨_,rfl,?_⟩;refine ifd hp (fun lm hp=>?_) fun lm hp=>?_; rotate_left
 ·obtain rfl:=oi hp;exact hq _ Pd.ext'
 refine⟨_,_,_,_,_,fm.bk.ra,?_⟩;obtain⟨Lt,Qd,B,mm⟩:=w.freeze Pd;have nm:=gm.k B;have om:=hm.k B;have pm:=im.k B;have qm:=jm.k B;have rm:=km.k B;have i:=i.k B;have g:=g.k B;have e:=e.k B;have d:=d.k B;have u:=u.k B;have r:=r.k B;obtain⟨Mt,sm,hp⟩:=zqp hp;have yc:=@zvc ({ Members:=(xa.Members.set (Int.toNat (0:Int)) ({ Sum:=(0:Int),Class:=ca.Class,Most:=ca.Most }:Mb)),Losses:=xa.Losses,Treaty:=xa.Treaty,Reserve:=xa.Reserve }:Soc)
 dsimp only at yc
 refine yc Qd.pre mm (Vg.sub (Sub.trans (Sub.trans (Sub.trans (Sub.trans (Sub.trans (Sub.trans rb.fs Sa.fs) Ha.fs) qa.fs) la.fs) y.fs) B.fs)) sm fun kw tm=>?_;obtain⟨Rd,na⟩:=Qd.call tm Ja;have um:=nm.k na;have vm:=om.k na;have wm:=pm.k na;have xm:=qm.k na;have ym:=rm.k na;have i:=i.k na;have g:=g.k na;have e:=e.k na;have d:=d.k na;have u:=u.k na;have r:=r.k na;refine⟨_,rfl,?_⟩;refine ifd hp (fun zm hp=>?_) fun zm hp=>?_; rotate_left
 ·obtain rfl:=oi hp;exact hq _ Rd.ext'
 refine⟨_,_,_,_,_,um.bk.ra,?_⟩;obtain⟨Nt,Sd,ja,Am⟩:=u.freeze Rd;have Bm:=vm.k ja;have Cm:=wm.k ja;have Dm:=xm.k ja;have Em:=ym.k ja;have i:=i.k ja;have g:=g.k ja;have e:=e.k ja;have d:=d.k ja;have r:=r.k ja;obtain⟨Ot,Gm,hp⟩:=zqp hp;have zc:=@zvc ({ Members:=(ya.Members.set (Int.toNat (0:Int)) ({ Sum:=ea.Sum,Class:=ea.Class,Most:=(100001:Int) }:Mb)),Losses:=ya.Losses,Treaty:=ya.Treaty,Reserve:=ya.Reserve }:Soc)
 dsimp only at zc
 refine zc Sd.pre Am (eh.sub (Sub.trans (Sub.trans (Sub.trans (Sub.trans (Sub.trans (Sub.trans Sa.fs Ha.fs) qa.fs) la.fs) y.fs) B.fs) ja.fs)) Gm fun lw Hm=>?_;obtain⟨Td,Ca⟩:=Sd.call Hm Ja;have Im:=Bm.k Ca;have Jm:=Cm.k Ca;have Km:=Dm.k Ca;have Mm:=Em.k Ca;have i:=i.k Ca;have g:=g.k Ca;have e:=e.k Ca;have d:=d.k Ca;have r:=r.k Ca;refine⟨_,rfl,?_⟩;refine ifd hp (fun Nm hp=>?_) fun Nm hp=>?_; rotate_left
 ·obtain rfl:=oi hp;exact hq _ Td.ext'
 refine⟨_,_,_,_,_,Im.bk.ra,?_⟩;obtain⟨Pt,Ud,ta,Om⟩:=i.freeze Td;have Pm:=Jm.k ta;have Qm:=Km.k ta;have Rm:=Mm.k ta;have g:=g.k ta;have e:=e.k ta;have d:=d.k ta;have r:=r.k ta;obtain⟨Qt,Sm,hp⟩:=zqp hp;refine zvc (s:=({ Members:=La.Members,Losses:=La.Losses,Treaty:=fb,Reserve:=La.Reserve }:Soc)) Ud.pre Om (jh.sub (Sub.trans (Sub.trans (Sub.trans (Sub.trans (Sub.trans (Sub.trans Ha.fs qa.fs) la.fs) y.fs) B.fs) ja.fs) ta.fs)) Sm fun mw Tm=>?_;obtain⟨Vd,Oa⟩:=Ud.call Tm Ja;have Um:=Pm.k Oa;have Vm:=Qm.k Oa;have Wm:=Rm.k Oa;have g:=g.k Oa;have e:=e.k Oa;have d:=d.k Oa;have r:=r.k Oa;refine⟨_,rfl,?_⟩;refine ifd hp (fun Xm hp=>?_) fun Xm hp=>?_; rotate_left
 ·obtain rfl:=oi hp;exact hq _ Vd.ext'
 refine⟨_,_,_,_,_,Um.bk.ra,?_⟩;obtain⟨Rt,Wd,Pa,Ym⟩:=g.freeze Vd;have Zm:=Vm.k Pa;have an:=Wm.k Pa;have e:=e.k Pa;have d:=d.k Pa;have r:=r.k Pa;obtain⟨Tt,bn,hp⟩:=zqp hp;refine zvc (s:=({ Members:=Ga.Members,Losses:=Ga.Losses,Treaty:=Ga.Treaty,Reserve:=(-1:Int) }:Soc)) Wd.pre Ym (oh.sub (Sub.trans (Sub.trans (Sub.trans (Sub.trans (Sub.trans (Sub.trans qa.fs la.fs) y.fs) B.fs) ja.fs) ta.fs) Pa.fs)) bn fun nw cn=>?_;obtain⟨Xd,gb⟩:=Wd.call cn Ja;have dn:=Zm.k gb;have en:=an.k gb;have e:=e.k gb;have d:=d.k gb;have r:=r.k gb;refine⟨_,rfl,?_⟩;refine ifd hp (fun fn hp=>?_) fun fn hp=>?_; rotate_left
 ·obtain rfl:=oi hp;exact hq _ Xd.ext'
 refine⟨_,_,_,_,_,dn.bk.ra,?_⟩;obtain⟨Ut,gn,sb,hn⟩:=e.freeze Xd;have jn:=en.k sb;have d:=d.k sb;have r:=r.k sb;obtain⟨Vt,Yd,tb,kn⟩:=r.freeze gn;have ln:=jn.k tb;have d:=d.k tb;obtain⟨Yt,nn,hp⟩:=zqp hp;refine zvc (s:=({ Members:=za.Members,Losses:=(List.replicate (Int.toNat (4:Int)) ({ Lo:=(0:Int),Hi:=(0:Int) }:Rg)),Treaty:=za.Treaty,Reserve:=za.Reserve }:Soc)) Yd.pre (hn.sub tb.fs) kn nn fun pw pn=>?_;obtain⟨nc,Zd⟩:=Yd.call pn Ja;have qn:=ln.k Zd;have d:=d.k Zd;refine⟨_,rfl,?_⟩;refine ifd hp (fun rn hp=>?_) fun rn hp=>?_; rotate_left
 ·obtain rfl:=oi hp;exact hq _ nc.ext'
 refine⟨_,_,_,_,_,qn.bk.ra,?_⟩;obtain⟨Zt,sn,hp⟩:=zqp hp;refine zvc (s:=({ Members:=[],Losses:=Aa.Losses,Treaty:=Aa.Treaty,Reserve:=Aa.Reserve }:Soc)) nc.pre (Sl.nil _) (Ah.sub (Sub.trans (Sub.trans (Sub.trans (Sub.trans (Sub.trans (Sub.trans y.fs B.fs) ja.fs) ta.fs) Pa.fs) sb.fs) tb.fs)) sn fun qw tn=>?_;obtain⟨oc,un⟩:=nc.call tn Ja;have d:=d.k un;refine⟨_,rfl,?_⟩;refine ifd hp (fun vn hp=>?_) fun vn hp=>?_; rotate_left
 ·obtain rfl:=oi hp;exact hq _ oc.ext'
 obtain⟨au,xn,hp⟩:=zqp hp;refine zvZ oc.pre  xn fun sw yn=>?_;obtain⟨zn,An⟩:=oc.call yn Ja;have d:=d.k An;refine⟨_,rfl,?_⟩;obtain rfl:=oi hp;exact hq _ zn.ext'
end
end Go.Proofs.Ytkclhciahokifaa

namespace Go.Proofs.Ytkclhciahokifaa
open _root_.Go.Proofs.Try
open Go.Abs
set_option maxRecDepth 100000
noncomputable section
theorem zv2{S β:Type}{n:Nat}(F:Nat->S->Int->Option β)(st:Nat->S){fin:Option β}(hstep:∀d k,k < n->F (d+1) (st k) (k:Int)=F d (st (k+1)) ((k:Int)+1))(hend:∀d,F (d+1) (st n) (n:Int)=fin) :
  ∀d k,k<=n->n - k < d->F d (st k) (k:Int)=fin
 | 0,k,_,h=>by omega
 | d+1,k,hk,h=>by
  by_cases hkn:k=n
  ·subst hkn; exact hend d
  ·rw[hstep d k (by omega),show(k:Int)+1=((k+1:Nat):Int) by omega];exact zv2 F st hstep hend d (k+1) (by omega) (by omega)
def S5(f:Nat->Int):Int:=f 0+f 1+f 2+f 3+f 4
def mk5(f:Nat->Int):P5:=⟨f 0,f 1,f 2,f 3,f 4⟩
def mkF(f:Nat->Bool):F5:=⟨f 0,f 1,f 2,f 3,f 4⟩
def l5{α:Type}(f:Nat->α):List α:=[f 0,f 1,f 2,f 3,f 4]
theorem zv3{α:Type}{f:Nat->α}{k:Nat}(hk:k < 5):(l5 f)[k]? = some (f k):=by
 match k,hk with
 | 0,_=>rfl
 | 1,_=>rfl
 | 2,_=>rfl
 | 3,_=>rfl
 | 4,_=>rfl
theorem zv4{α:Type}{f:Nat->α}{k:Nat}(hk:k < 5):idx (l5 f) (k:Int)=some (f k):=zrF (zv3 hk)
theorem zv5{α:Type}(g f:Nat->α)(k j:Nat):sti (k:Int) j (g k) (if j < k then g j else f j)=if j < k+1 then g j else f j:=by
 unfold sti
 by_cases h:j=k
 ·subst h; rw[if_pos rfl,if_pos (by omega)]
 ·rw[if_neg (by omega)]
  by_cases h2:j < k
  ·rw[if_pos h2,if_pos (by omega)]
  ·rw[if_neg h2,if_neg (by omega)]
def stF{α:Type}(g f:Nat->α)(k:Nat):Nat->α:=fun j=>if j < k then g j else f j
theorem zv6{α:Type}(g f:Nat->α):stF g f 0=f:=by funext j; exact if_neg (by omega)
theorem zv7{α:Type}(g f:Nat->α)(k:Nat):stF g f k k=f k:=if_neg (by omega)
theorem zv8{α:Type}(g f:Nat->α)(k j:Nat):sti (k:Int) j (g k) (stF g f k j)=stF g f (k+1) j:=zv5 g f k j
def part(f:Nat->Int):Nat->Int
 | 0=>0
 | k+1=>part f k+f k
theorem zv9(f:Nat->Int):part f 5=S5 f:=by show 0+f 0+f 1+f 2+f 3+f 4=_; unfold S5; omega
theorem zwa{f:Nat->Int}{B:Int}(h:∀i,i < 5->-B<=f i/\f i<=B)(hB:0<=B):∀k,k<=5->-(5 * B)<=part f k/\part f k<=5 * B
 | 0,_=>⟨by show -(5 * B)<=0; omega,by show(0:Int)<=_; omega⟩
 | 1,_=>by have:=h 0 (by omega); show -(5 * B)<=0+f 0/\0+f 0<=_; omega
 | 2,_=>by have:=h 0 (by omega); have:=h 1 (by omega); show -(5 * B)<=0+f 0+f 1/\0+f 0+f 1<=_; omega
 | 3,_=>by have:=h 0 (by omega); have:=h 1 (by omega); have:=h 2 (by omega); show -(5 * B)<=0+f 0+f 1+f 2/\0+f 0+f 1+f 2<=_; omega
 | 4,_=>by have:=h 0 (by omega); have:=h 1 (by omega); have:=h 2 (by omega); have:=h 3 (by omega); show -(5 * B)<=0+f 0+f 1+f 2+f 3/\0+f 0+f 1+f 2+f 3<=_; omega
 | 5,_=>by have:=h 0 (by omega); have:=h 1 (by omega); have:=h 2 (by omega); have:=h 3 (by omega); have:=h 4 (by omega); show -(5 * B)<=0+f 0+f 1+f 2+f 3+f 4/\0+f 0+f 1+f 2+f 3+f 4<=_; omega
 | k+6,h=>by omega
def Bd(B:Int)(f:Nat->Int):Prop:=∀i,i < 5->-B<=f i/\f i<=B
theorem zwb{f:Nat->Int}(h:Bd 1000000000000 f):zs3 (mk5 f)=some (S5 f):=by
 unfold zs3
 show zs2 (mk5 f) 6 (part f 0) 0=_
 refine zv2 (n:=5) (fun d s x=>zs2 (mk5 f) d s x) (part f) (fun d k hk=>?_) (fun d=>?_) 6 0 (by omega) (by omega)
 ·have h1:=zwa h (by omega) k (by omega);have h2:=h k hk
  show zs2 (mk5 f) (d+1) _ _=_
  rw[zs2,if_pos (by omega)]
  show(idx (l5 f) (k:Int)).bind _=_
  rw[zv4 hk,obs,zqr (fI (by omega)),zqr (fI (by omega))]; rfl
 ·show zs2 (mk5 f) (d+1) _ _=_
  rw[zs2,if_neg (by omega),zv9]
theorem zwc{f g:Nat->Int}(hf:Bd 1000000000000 f)(hg:Bd 1000000000000 g):zs5 (mk5 f) (mk5 g)=some (mk5 fun i=>f i+g i):=by
 unfold zs5;have key:=zv2 (n:=5) (fun d s x=>zs4 (mk5 g) d (s 0) (s 1) (s 2) (s 3) (s 4) x) (stF (fun i=>f i+g i) f) (fin:=some (mk5 fun i=>f i+g i)) (fun d k hk=>?_) (fun d=>?_) 6 0 (by omega) (by omega)
 ·rw[zv6] at key; exact key
 ·have h1:=hf k hk;have h2:=hg k hk
  show zs4 (mk5 g) (d+1) _ _ _ _ _ _=_
  rw[zs4,if_pos (by omega)]
  show(idx (l5 g) (k:Int)).bind _=_
  rw[zv4 hk,obs]
  show(idx (l5 (stF (fun i=>f i+g i) f k)) (k:Int)).bind _=_
  rw[zv4 hk,obs,zv7,zqr (fI (by omega)),zqr (by omega),zqr (fI (by omega))];have e:=zv8 (fun i=>f i+g i) f k
  show zs4 (mk5 g) d (sti (k:Int) 0 ((fun i=>f i+g i) k) _) (sti (k:Int) 1 ((fun i=>f i+g i) k) _) (sti (k:Int) 2 ((fun i=>f i+g i) k) _) (sti (k:Int) 3 ((fun i=>f i+g i) k) _) (sti (k:Int) 4 ((fun i=>f i+g i) k) _) _=_
  rw[e 0,e 1,e 2,e 3,e 4]
 ·show zs4 (mk5 g) (d+1) _ _ _ _ _ _=_
  rw[zs4,if_neg (by omega)]; rfl
theorem zwd{f g:Nat->Bool}:zs7 (mkF f) (mkF g)=some (mkF fun i=>f i && !g i):=by
 unfold zs7;have key:=zv2 (n:=5) (fun d s x=>zs6 (mkF g) d (s 0) (s 1) (s 2) (s 3) (s 4) x) (stF (fun i=>f i && !g i) f) (fin:=some (mkF fun i=>f i && !g i)) (fun d k hk=>?_) (fun d=>?_) 6 0 (by omega) (by omega)
 ·rw[zv6] at key; exact key
 ·show zs6 (mkF g) (d+1) _ _ _ _ _ _=_
  rw[zs6,if_pos (by omega)]
  show(idx (l5 g) (k:Int)).bind _=_
  rw[zv4 hk,obs]
  show(idx (l5 (stF (fun i=>f i && !g i) f k)) (k:Int)).bind _=_
  rw[zv4 hk,obs,zv7];have e:=zv8 (fun i=>f i && !g i) f k
  cases hfk:f k with
  | true=>
   rw[if_pos rfl,zqr (by omega),zqr (fI (by omega))]
   have e0:(!g k)=(fun i=>f i && !g i) k:=by show _=(f k && !g k); rw[hfk]; rfl
   rw[e0,e 0,e 1,e 2,e 3,e 4]
  | false=>
   rw[if_neg (by decide),zqr (by omega),zqr (fI (by omega))]
   have e0:false=(fun i=>f i && !g i) k:=by show _=(f k && !g k); rw[hfk]; rfl
   rw[e0,e 0,e 1,e 2,e 3,e 4]
 ·show zs6 (mkF g) (d+1) _ _ _ _ _ _=_
  rw[zs6,if_neg (by omega)]; rfl
def zwe(ms:List Mb)(of_:Nat->Bool)(num:Mb->Int):Nat->Int:=fun i=>match ms[i]? with
 | some a=>if of_ i=true then num a else 0
 | none=>0
theorem zwf{w:Wk}{of_:Nat->Bool}{number:Mb->Option Int}{num:Mb->Int}(hn:∀a∈w.s.Members,number a=some (num a))(hl:w.s.Members.length<=5):ztj w (mkF of_) number=some (mk5 (zwe w.s.Members of_ num)):=by
 unfold ztj;have key:=zv2 (n:=w.s.Members.length) (fun d s x=>zti w (mkF of_) number d (s 0) (s 1) (s 2) (s 3) (s 4) x) (stF (zwe w.s.Members of_ num) fun _=>0) (fin:=some (mk5 (zwe w.s.Members of_ num))) (fun d k hk=>?_) (fun d=>?_) (w.s.Members.length+1) 0 (by omega) (by omega)
 ·rw[zv6] at key; exact key
 ·show zti w (mkF of_) number (d+1) _ _ _ _ _ _=_
  have hg:=List.getElem?_eq_getElem hk;rw[zti,if_pos (by omega),zrF hg,obs]
  show(idx (l5 of_) (k:Int)).bind _=_
  rw[zv4 (by omega),obs];have e:=zv8 (zwe w.s.Members of_ num) (fun _=>0) k
  cases hfk:of_ k with
  | true=>
   rw[if_pos rfl,hn _ (List.getElem_mem hk),obs,zqr (by omega),zqr (fI (by omega))]
   have e0:num w.s.Members[k]=zwe w.s.Members of_ num k:=by unfold zwe; rw[hg]; show _=if _ then _ else _; rw[hfk,if_pos rfl]
   rw[e0,e 0,e 1,e 2,e 3,e 4]
  | false=>
   rw[if_neg (by decide),zqr (fI (by omega))]
   have e0:(0:Int)=zwe w.s.Members of_ num k:=by unfold zwe; rw[hg]; show _=if _ then _ else _; rw[hfk,if_neg (by decide)]
   have e1:∀j,stF (zwe w.s.Members of_ num) (fun _=>0) k j=stF (zwe w.s.Members of_ num) (fun _=>0) (k+1) j:=fun j=>by
    unfold stF
    by_cases h:j=k
    ·subst h; rw[if_neg (by omega),if_pos (by omega)]; exact e0
    ·by_cases h2:j < k
     ·rw[if_pos h2,if_pos (by omega)]
     ·rw[if_neg h2,if_neg (by omega)]
   rw[e1 0,e1 1,e1 2,e1 3,e1 4]
 ·show zti w (mkF of_) number (d+1) _ _ _ _ _ _=_
  rw[zti,if_neg (by omega)]
  have e1:∀j,stF (zwe w.s.Members of_ num) (fun _=>0) w.s.Members.length j=zwe w.s.Members of_ num j:=fun j=>by
   unfold stF
   by_cases h:j < w.s.Members.length
   ·rw[if_pos h]
   ·rw[if_neg h]; unfold zwe; rw[List.getElem?_eq_none (by omega)]
  rw[e1 0,e1 1,e1 2,e1 3,e1 4]; rfl
def zwg(ms:List Mb)(sh:Nat->Bool)(pays:Nat->Int):Nat->Bool:=fun i=>match ms[i]? with
 | some a=>sh i && decide (pays i<=a.Most)
 | none=>sh i
theorem zwh{w:Wk}{sh:Nat->Bool}{pays:Nat->Int}(hl:w.s.Members.length<=5):ztn w (mkF sh) (mk5 pays)=some (mkF (zwg w.s.Members sh pays)):=by
 unfold ztn;have key:=zv2 (n:=w.s.Members.length) (fun d s x=>ztm w (mk5 pays) d (s 0) (s 1) (s 2) (s 3) (s 4) x) (stF (zwg w.s.Members sh pays) sh) (fin:=some (mkF (zwg w.s.Members sh pays))) (fun d k hk=>?_) (fun d=>?_) (w.s.Members.length+1) 0 (by omega) (by omega)
 ·rw[zv6] at key; exact key
 ·show ztm w (mk5 pays) (d+1) _ _ _ _ _ _=_
  have hg:=List.getElem?_eq_getElem hk;rw[ztm,if_pos (by omega),zrF hg,obs]
  show(idx (l5 (stF (zwg w.s.Members sh pays) sh k)) (k:Int)).bind _=_
  rw[zv4 (by omega),obs,zv7];have e:=zv8 (zwg w.s.Members sh pays) sh k
  have e00:zwg w.s.Members sh pays k=(sh k && decide (pays k<=(w.s.Members[k]).Most)):=by unfold zwg; rw[hg]
  cases hfk:sh k with
  | true=>
   rw[if_pos rfl]
   show(idx (l5 pays) (k:Int)).bind _=_
   rw[zv4 (by omega),obs,zqr (by omega),zqr (fI (by omega))]
   have e0:decide (pays k<=(w.s.Members[k]).Most)=zwg w.s.Members sh pays k:=by rw[e00,hfk,Bool.true_and]
   rw[e0,e 0,e 1,e 2,e 3,e 4]
  | false=>
   rw[if_neg (by decide),zqr (by omega),zqr (fI (by omega))]
   have e0:false=zwg w.s.Members sh pays k:=by rw[e00,hfk]; rfl
   rw[e0,e 0,e 1,e 2,e 3,e 4]
 ·show ztm w (mk5 pays) (d+1) _ _ _ _ _ _=_
  rw[ztm,if_neg (by omega)]
  have e1:∀j,stF (zwg w.s.Members sh pays) sh w.s.Members.length j=zwg w.s.Members sh pays j:=fun j=>by
   unfold stF
   by_cases h:j < w.s.Members.length
   ·rw[if_pos h]
   ·rw[if_neg h]; unfold zwg; rw[List.getElem?_eq_none (by omega)]
  rw[e1 0,e1 1,e1 2,e1 3,e1 4]; rfl
end
end Go.Proofs.Ytkclhciahokifaa

