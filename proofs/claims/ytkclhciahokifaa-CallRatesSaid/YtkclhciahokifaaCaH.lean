/- An evaluator of code, its soundness, and what functions of the program do. Condition: none; a lemma text. -/
import Derived.Test.YtkclhciahokifaaCaG

namespace Go.Proofs.Ytkclhciahokifaa
open _root_.Go.Proofs.Try
open Go.Abs
set_option maxRecDepth 100000
noncomputable section
def zva(f:M)(x:C)(g:Oc->Option (Int)):Prop:=cmC x=true/\∀(f' m:M) (a0:Oc) (r:Int) (Q:V->M->Prop),Sub f f'->Pre f' m->g a0=some r->(∀m',Ext m m'->Q (.c (.int .i64 r)) m')->zmw prog tbl [.agg 6 [(.int .i64 a0.need),(.int .i64 a0.calls.p0),(.int .i64 a0.calls.p1),(.int .i64 a0.calls.p2),(.int .i64 a0.calls.p3),(.int .i64 a0.calls.p4)]] x m Q
theorem zva.sub{f m:M}{x:C}{g:Oc->Option (Int)}(h:zva f x g)(s:Sub f m):zva m x g:=⟨h.1,fun f' m' a0 r Q hs=>h.2 f' m' a0 r Q (s.trans hs)⟩
def zvb(f:M)(x:C)(g:Mb->Option (Bool)):Prop:=∀(f' m:M) (a0:Mb) (r:Bool) (Q:V->M->Prop),Sub f f'->Pre f' m->g a0=some r->(∀m',Ext m m'->Q (.c (.bool r)) m')->zmw prog tbl [.agg 3 [(.int .i64 a0.Sum),(.int .i64 a0.Class),(.int .i64 a0.Most)]] x m Q
theorem zvb.sub{f m:M}{x:C}{g:Mb->Option (Bool)}(h:zvb f x g)(s:Sub f m):zvb m x g:=fun f' m' a0 r Q hs=>h f' m' a0 r Q (s.trans hs)
def zvc(f:M)(x:C)(g:Rg->Option (Bool)):Prop:=∀(f' m:M) (a0:Rg) (r:Bool) (Q:V->M->Prop),Sub f f'->Pre f' m->g a0=some r->(∀m',Ext m m'->Q (.c (.bool r)) m')->zmw prog tbl [.agg 2 [(.int .i64 a0.Lo),(.int .i64 a0.Hi)]] x m Q
theorem zvc.sub{f m:M}{x:C}{g:Rg->Option (Bool)}(h:zvc f x g)(s:Sub f m):zvc m x g:=fun f' m' a0 r Q hs=>h f' m' a0 r Q (s.trans hs)
def zvd(f:M)(x:C)(g:Int->Option (Bool)):Prop:=∀(f' m:M) (a0:Int) (r:Bool) (Q:V->M->Prop),Sub f f'->Pre f' m->g a0=some r->(∀m',Ext m m'->Q (.c (.bool r)) m')->zmw prog tbl [.c (.int .i64 a0)] x m Q
theorem zvd.sub{f m:M}{x:C}{g:Int->Option (Bool)}(h:zvd f x g)(s:Sub f m):zvd m x g:=fun f' m' a0 r Q hs=>h f' m' a0 r Q (s.trans hs)
def zve(f:M)(x:C)(g:Mb->Option (Int)):Prop:=∀(f' m:M) (a0:Mb) (r:Int) (Q:V->M->Prop),Sub f f'->Pre f' m->g a0=some r->(∀m',Ext m m'->Q (.c (.int .i64 r)) m')->zmw prog tbl [.agg 3 [(.int .i64 a0.Sum),(.int .i64 a0.Class),(.int .i64 a0.Most)]] x m Q
theorem zve.sub{f m:M}{x:C}{g:Mb->Option (Int)}(h:zve f x g)(s:Sub f m):zve m x g:=fun f' m' a0 r Q hs=>h f' m' a0 r Q (s.trans hs)
theorem zvf:KL prog 152 Sh:=zqQ (n:=2) (ks:=[.int .i64,.int .i64]) (by kernel_rfl) (by kernel_rfl) (cs:=fun k=>[.int .i64 k.pence,.int .i64 k.remainder]) (fun _=>rfl) fun a b fa fb=>⟨_,_,(zqP (zqM fa.1 fb.1) (zqP (zqM fa.2.1 fb.2.1) zqO)),⟨fun h=>by obtain⟨apence,aremainder⟩:=a; obtain⟨bpence,bremainder⟩:=b; simp_all,fun h=>by subst h; exact⟨rfl,rfl,trivial⟩⟩⟩
theorem zvg{f m:M}{x:C}{n:Nat}{a:Rg}(h:∃cs,(ldA m (zl8 x (n * Rp.k Rg)) (Rp.k Rg)=some cs/\(∀j c,cs[j]? = some c->ldC m (zl7 (zl8 x (n * Rp.k Rg)) j)=some c)/\∀j i,0 < i->j+i<=Rp.k Rg->ldA m (zl7 (zl8 x (n * Rp.k Rg)) j) i=some ((cs.drop j).take i))/\Rp.rep f cs a):ldA m (zl8 x (n * 2)) 2=some [.int .i64 a.Lo,.int .i64 a.Hi]/\(∀j c,([.int .i64 a.Lo,.int .i64 a.Hi]:List C)[j]? = some c->ldC m (zl7 (zl8 x (n * 2)) j)=some c)/\∀j i,0 < i->j+i<=2->ldA m (zl7 (zl8 x (n * 2)) j) i=some ((([.int .i64 a.Lo,.int .i64 a.Hi]:List C).drop j).take i):=by
 obtain⟨cs,q1,q2⟩:=h;have q2:cs=_:=q2;subst q2;exact q1
theorem zvh:∀a b:Sh,MK.enc a=MK.enc b->a=b:=fun a b h=>by
 obtain⟨apence,aremainder⟩:=a; obtain⟨bpence,bremainder⟩:=b
 injection h with h1 h2
 simp only[List.cons.injEq,C.int.injEq,true_and,and_true] at h2
 simp_all
theorem zvi:TA prog 23 2:=⟨25,by kernel_rfl,by kernel_rfl,by kernel_rfl⟩
theorem zvj:TA prog 28 1:=⟨3,by kernel_rfl,by kernel_rfl,by kernel_rfl⟩
theorem zvk:TA prog 37 2:=⟨38,by kernel_rfl,by kernel_rfl,by kernel_rfl⟩
theorem zvl{n:Int}{low:Int}{high:Int}{m f:M}{Q:V->M->Prop}{rz:Bool}(hS:Pre f m)(hp:zsg n low high=some rz)(hq:∀m',Ext m m'->Q (.c (.bool rz)) m'):Wc prog tbl 33 [.c (Il n),.c (Il low),.c (Il high)] m Q:=by
 have d:=hS.st;obtain⟨e,_⟩:=zr7;refine w33 ?_;unfold zsg at hp;refine ifd hp (fun a hp=>?_) fun a hp=>?_
 ·obtain rfl:=oi hp;exact hq _ d.ext'
 obtain rfl:=oi hp;exact hq _ d.ext'
theorem zvm{r:Rg}{m f:M}{Q:V->M->Prop}{rz:Bool}(hS:Pre f m)(hp:zsh r=some rz)(hq:∀m',Ext m m'->Q (.c (.bool rz)) m'):Wc prog tbl 86 [.agg 2 [Il r.Lo,Il r.Hi]] m Q:=by
 have l:=hS.st;obtain⟨n,_⟩:=zr7;refine w86 ?_;unfold zsh at hp;intro q e;obtain⟨o,d,p,a⟩:=l.blk e n 1;refine⟨trivial,_,a.bk.rc rfl,?_⟩;refine ifd hp (fun g hp=>?_) fun g hp=>?_; rotate_left
 ·obtain rfl:=oi hp;exact hq _ d.ext'
 refine⟨trivial,_,a.bk.rc rfl,trivial,_,a.bk.rc rfl,?_⟩;refine ifd hp (fun h hp=>?_) fun h hp=>?_; rotate_left
 ·obtain rfl:=oi hp;exact hq _ d.ext'
 refine⟨trivial,_,a.bk.rc rfl,?_⟩;refine ifd hp (fun i hp=>?_) fun i hp=>?_; rotate_left
 ·obtain rfl:=oi hp;exact hq _ d.ext'
 refine⟨trivial,_,a.bk.rc rfl,trivial,_,a.bk.rc rfl,?_⟩;refine gdi hp fun j hp=>?_;obtain rfl:=oi hp;exact hq _ d.ext'
theorem zvn{s:Soc}{ca100 ca101:C}{m f:M}{Q:V->M->Prop}{rz:Int}(hS:Pre f m)(ha100:Sl f ca100 s.Members)(ha101:Sl f ca101 s.Losses)(hp:zsj s=some rz)(hq:∀m',Ext m m'->Q (.c (Il rz)) m'):Wc prog tbl 64 [.agg 5 [ca100,ca101,Il s.Treaty.Lo,Il s.Treaty.Hi,Il s.Reserve]] m Q:=by
 have S0:=hS.st;obtain⟨τ0,_⟩:=zr7;refine w64 ?_;unfold zsj at hp;intro m0 ja;obtain⟨y,e,pb,g⟩:=S0.blk ja τ0 1;refine⟨trivial,_,g.bk.rc rfl,ha100.isSl,?_⟩
 try rw[ha100.slLen]
 refine ifd hp (fun ka hp=>?_) fun ka hp=>?_
 ·obtain rfl:=oi hp;exact hq _ e.ext'
 refine⟨trivial,_,g.bk.rc rfl,ha101.isSl,?_⟩
 try rw[ha101.slLen]
 refine ifd hp (fun la hp=>?_) fun la hp=>?_
 ·obtain rfl:=oi hp;exact hq _ e.ext'
 refine⟨trivial,_,g.bk.rc rfl,ha100.isSl,?_⟩
 try rw[ha100.slLen]
 refine ifd hp (fun ma hp=>?_) fun ma hp=>?_
 ·obtain rfl:=oi hp;exact hq _ e.ext'
 refine⟨trivial,_,_,g.bk.rp (k:=2) (j:=2) rfl (by omega),?_⟩;obtain⟨qb,na,hp⟩:=zqp hp;refine zvm (r:=s.Treaty) e.pre  na fun m7 oa=>?_;obtain⟨z,pa⟩:=e.call oa y;have P:=g.k pa;refine⟨_,rfl,?_⟩;refine zq2 hp (fun qa hp=>?_) fun qa hp=>?_
 ·obtain rfl:=oi hp;exact hq _ z.ext'
 refine⟨trivial,_,P.bk.rc rfl,?_⟩;obtain⟨rb,sa,hp⟩:=zqp hp;refine zvl (n:=s.Reserve) (low:=(0:Int)) (high:=(100000:Int)) z.pre  sa fun wb ta=>?_;obtain⟨S,ua⟩:=z.call ta y;have a:=P.k ua;refine⟨_,rfl,?_⟩;refine zq2 hp (fun va hp=>?_) fun va hp=>?_
 ·obtain rfl:=oi hp;exact hq _ S.ext'
 intro hb wa
 have hgo:∀(o:Nat) (G:Int) (I:Int) (u:M) (h:Nat->Nat),St (Fm.of m) f f u->Lb (Fm.of m) f h u 1 m.nxt 5 [ca100,ca101,Il s.Treaty.Lo,Il s.Treaty.Hi,Il s.Reserve]->zsi s o G I=some rz->hb [.c (Il G),.c (Il I)] u:=by
  intro o
  induction o with
  | zero=>intro G I u h p a hp; cases hp
  | succ o fa=>
   intro G I u h p a hp;refine wa _ _ _ ?_;rw[zsi] at hp;refine⟨trivial,_,a.bk.rc rfl,ha100.isSl,?_⟩
   try rw[ha100.slLen]
   refine ifd hp (fun xa hp=>?_) fun xa hp=>?_; rotate_left
   ·intro ib ya
    have hgo:∀(q:Nat) (T:Int) (J:Int) (w:M) (i:Nat->Nat),St (Fm.of m) f f w->Lb (Fm.of m) f i w 1 m.nxt 5 [ca100,ca101,Il s.Treaty.Lo,Il s.Treaty.Hi,Il s.Reserve]->prFault_L1 s q J=some rz->ib [.c (Il T),.c (Il J)] w:=by
     intro q
     induction q with
     | zero=>intro T J w i l a hp; cases hp
     | succ q ga=>
      intro T J w i l a hp;refine ya _ _ _ ?_;rw[prFault_L1] at hp;refine⟨trivial,_,a.bk.rc rfl,ha101.isSl,?_⟩
      try rw[ha101.slLen]
      refine ifd hp (fun za hp=>?_) fun za hp=>?_; rotate_left
      ·obtain rfl:=oi hp;exact hq _ l.ext'
      refine⟨trivial,_,a.bk.rc rfl,?_⟩;obtain⟨Aa,A,hp⟩:=zqp hp;obtain⟨jb,ha,N,A⟩:=zqj A;obtain⟨_,Ba⟩:=zr9 ha101 A;refine⟨jb,ha,(by first|exact N|(rw[ha101.slLen];exact N)),_,_,(Ba _ l.sub).1,?_⟩;obtain⟨sb,Ca,hp⟩:=zqp hp;refine zvm (r:=Aa) l.pre  Ca fun xb Da=>?_;obtain⟨Y,Ea⟩:=l.call Da i;have Fa:=a.k Ea;refine⟨_,rfl,?_⟩;refine zq2 hp (fun Ga hp=>?_) fun Ga hp=>?_
      ·obtain rfl:=oi hp;exact hq _ Y.ext'
      refine gdi hp fun Ha hp=>?_;exact ga _ _ _ i Y Fa hp
    exact hgo _ _ _ _ h p a hp
   refine⟨trivial,_,a.bk.rc rfl,?_⟩;obtain⟨d,B,hp⟩:=zqp hp;obtain⟨kb,ia,O,B⟩:=zqj B;obtain⟨_,Ia⟩:=zsb ha100 B;refine⟨kb,ia,(by first|exact O|(rw[ha100.slLen];exact O)),_,_,_,(Ia _ p.sub).1,?_⟩;intro yb Ja;obtain⟨t,Ka,La,Ma⟩:=p.blk Ja h 2;have Na:=a.k La;obtain⟨Oa,Pa,Z,Qa,aa⟩:=Ma.sto Ka [Il d.Sum,Il d.Class,Il d.Most];have Ra:=Na.k Qa;refine⟨Oa,Pa,?_⟩;refine⟨trivial,_,aa.bk.rc rfl,?_⟩;obtain⟨tb,Sa,hp⟩:=zqp hp;refine zvl (n:=d.Sum) (low:=(1:Int)) (high:=(1000:Int)) Z.pre  Sa fun zb Ta=>?_;obtain⟨D,ba⟩:=Z.call Ta t;have Ua:=Ra.k ba;have ca:=aa.k ba;refine⟨_,rfl,?_⟩;refine zq2 hp (fun Va hp=>?_) fun Va hp=>?_
   ·obtain rfl:=oi hp;exact hq _ D.ext'
   refine⟨trivial,_,ca.bk.rc rfl,?_⟩;obtain⟨ub,Wa,hp⟩:=zqp hp;refine zvl (n:=d.Class) (low:=(1:Int)) (high:=(10:Int)) D.pre  Wa fun Ab Xa=>?_;obtain⟨F,da⟩:=D.call Xa t;have Ya:=Ua.k da;have Za:=ca.k da;refine⟨_,rfl,?_⟩;refine zq2 hp (fun ab hp=>?_) fun ab hp=>?_
   ·obtain rfl:=oi hp;exact hq _ F.ext'
   refine⟨trivial,_,Za.bk.rc rfl,?_⟩;obtain⟨vb,bb,hp⟩:=zqp hp;refine zvl (n:=d.Most) (low:=(0:Int)) (high:=(100000:Int)) F.pre  bb fun Bb cb=>?_;obtain⟨ea,db⟩:=F.call cb t;have eb:=Ya.k db;refine⟨_,rfl,?_⟩;refine zq2 hp (fun fb hp=>?_) fun fb hp=>?_
   ·obtain rfl:=oi hp;exact hq _ ea.ext'
   refine gdi hp fun gb hp=>?_;exact fa _ _ _ t ea eb hp
 exact hgo _ _ _ _ y S a hp
theorem zvo{s:Soc}{t:Tr}{ca100 ca101 ca200:C}{m f:M}{Q:V->M->Prop}{rz:Int}(hS:Pre f m)(_ha100:Sl f ca100 s.Members)(_ha101:Sl f ca101 s.Losses)(ha200:Sl f ca200 t.Losses)(hp:zsl s t=some rz)(hq:∀m',Ext m m'->Q (.c (Il rz)) m'):Wc prog tbl 29 [.agg 5 [ca100,ca101,Il s.Treaty.Lo,Il s.Treaty.Hi,Il s.Reserve],.agg 2 [ca200,Il t.Treaty]] m Q:=by
 have S:=hS.st;obtain⟨T,_⟩:=zr7;refine w29 ?_;unfold zsl at hp;intro Y q;obtain⟨r,u,Z,w⟩:=S.blk q T 1;intro m1 y;obtain⟨z,A,B,a⟩:=u.blk y r 2;have d:=w.k B;refine⟨trivial,_,d.bk.rc rfl,?_⟩;obtain⟨D,hp⟩:=zqq hp;refine⟨D,trivial,_,a.bk.rc rfl,?_⟩;refine gdi hp fun F hp=>?_;intro R4 O
 have hgo:∀(g:Nat) (n:Int) (o:Int) (l:M) (e:Nat->Nat),St (Fm.of m) f f l->Lb (Fm.of m) f e l 1 m.nxt 5 [ca100,ca101,Il s.Treaty.Lo,Il s.Treaty.Hi,Il s.Reserve]->Lb (Fm.of m) f e l 2 Y.nxt 2 [ca200,Il t.Treaty]->zsk t g n o=some rz->R4 [.c (Il n),.c (Il o)] l:=by
  intro g
  induction g with
  | zero=>intro n o l e h d a hp; cases hp
  | succ g G=>
   intro n o l e h d a hp;refine O _ _ _ ?_;rw[zsk] at hp;refine⟨trivial,_,a.bk.rc rfl,ha200.isSl,?_⟩
   try rw[ha200.slLen]
   refine ifd hp (fun I hp=>?_) fun I hp=>?_; rotate_left
   ·obtain rfl:=oi hp;exact hq _ h.ext'
   refine⟨trivial,_,a.bk.rc rfl,?_⟩;obtain⟨ba,i,hp⟩:=zqp hp;obtain⟨P,p,j,i⟩:=zqj i;refine⟨P,p,(by first|exact j|(rw[ha200.slLen];exact j)),_,(ha200.rdI i h.sub),?_⟩;refine gdi hp fun J hp=>?_;refine gdi hp fun N hp=>?_;exact G _ _ _ e h d a hp
 exact hgo _ _ _ _ z A d a hp
theorem zvp{s:Soc}{ca100 ca101:C}{m f:M}{Q:V->M->Prop}{rz:Rg}(hS:Pre f m)(ha100:Sl f ca100 s.Members)(ha101:Sl f ca101 s.Losses)(hp:zsn s=some rz)(hq:∀m',Ext m m'->Q (.agg 2 [Il rz.Lo,Il rz.Hi]) m'):Wc prog tbl 27 [.agg 5 [ca100,ca101,Il s.Treaty.Lo,Il s.Treaty.Hi,Il s.Reserve]] m Q:=by
 have S0:=hS.st;obtain⟨τ0,_⟩:=zr7;refine w27 ?_;unfold zsn at hp;intro m0 Ua;obtain⟨Va,Wa,vd,Xa⟩:=S0.blk Ua τ0 1;intro m1 Ya;obtain⟨Za,ab,bb,cb⟩:=Wa.blk Ya Va 2;have db:=Xa.k bb;intro m2 eb;obtain⟨fb,gb,Aa,Pa⟩:=ab.growK eb Za 3;have fa:=db.k Aa;have hb:=cb.k Aa;have ib:=Pa 0 (by decide);refine⟨trivial,trivial,_,fa.bk.rc rfl,trivial,trivial,_,fa.bk.rc rfl,?_⟩;intro m5 jb;obtain⟨kb,mb,ga,ob⟩:=gb.blk jb fb 4;have ha:=fa.k ga;have pb:=hb.k ga;have qb:=ib.k ga;refine⟨(ha.bk.rc rfl),(ha.bk.rc rfl),?_⟩;intro m6 rb;obtain⟨sb,ia,tb⟩:=qb.set mb rb;have ja:=ha.k ia;have ub:=pb.k ia;have vb:=ob.k ia;refine⟨(ja.bk.rc rfl),(ja.bk.rc rfl),?_⟩;obtain⟨wb,xb,yb,ka,zb⟩:=vb.sto sb [.sl0,Il s.Treaty.Hi];have Ba:=ja.k ka;have Ab:=ub.k ka;have Bb:=tb.k ka;refine⟨wb,xb,?_⟩;refine⟨(Ba.bk.rc rfl),?_⟩;obtain⟨Cb,Db,Eb,la,B⟩:=Bb.sto yb [.sl0,Il s.Treaty.Lo];have p:=Ba.k la;have D:=Ab.k la;have F:=zb.k la;refine⟨Cb,Db,?_⟩;intro R9 cd
 have hgo:∀(T:Nat) (xa:Int) (Y:C) (Z:C) (G:List Int) (u:Int) (I:List Int) (w:Int) (j:M) (h:M) (i:Nat->Nat),St (Fm.of m) f h j->Sub f h->Lb (Fm.of m) h i j 1 m.nxt 5 [ca100,ca101,Il s.Treaty.Lo,Il s.Treaty.Hi,Il s.Reserve]->Lb (Fm.of m) h i j 2 m0.nxt 2 [Il 0,Il 0]->Lb (Fm.of m) h i j 4 m2.nxt 2 [Y,Il u]->Lb (Fm.of m) h i j 3 (m1.nxt+0) 2 [Z,Il w]->Ow (Fm.of m) h i j 5 Y G->Ow (Fm.of m) h i j 6 Z I->zsm s T G u I w xa=some rz->R9 [.c (Il xa)] j:=by
  intro T
  induction T with
  | zero=>intro xa Y Z G u I w j h i ma g p D F B n d hp; cases hp
  | succ T Fb=>
   intro xa Y Z G u I w j h i ma g p D F B n d hp;refine cd _ _ ?_;rw[zsm] at hp;refine⟨trivial,_,p.bk.rc rfl,ha101.isSl,?_⟩
   try rw[ha101.slLen]
   refine ifd hp (fun Gb hp=>?_) fun Gb hp=>?_; rotate_left
   ·refine⟨_,_,_,_,_,p.bk.ra,_,_,F.bk.ra,?_⟩;obtain⟨zd,Ca,o,Hb⟩:=n.freeze ma;have Da:=p.k o;have Ib:=D.k o;have Ea:=B.k o;have d:=d.k o;obtain⟨Jb,Kb,hp⟩:=zqp hp;refine zvo (s:=s) (t:=({ Losses:=G,Treaty:=u }:Tr)) Ca.pre (ha100.sub (Sub.trans g o.fs)) (ha101.sub (Sub.trans g o.fs)) Hb Kb fun Ed Nb=>?_;obtain⟨Ob,aa⟩:=Ca.call Nb i;have fd:=d;have Pb:=Da.k aa;have Qb:=Ib.k aa;have Rb:=Ea.k aa;have d:=d.k aa;refine⟨_,rfl,_,_,_,_,_,Pb.bk.ra,(by rw[show zaL cmC _=true from zoV (zqt ha100.noFn (zqt ha101.noFn (zqt rfl (zqt rfl (zqt rfl zqu)))))]; exact(Da.bk.ra)),_,_,Rb.bk.ra,(by rw[show zaL cmC _=true from zoV (zqt d.noFn (zqt rfl zqu))]; exact(Ea.bk.ra)),?_⟩;obtain⟨Ad,Fa,na,Sb⟩:=d.freeze Ob;have Tb:=Qb.k na;obtain⟨Ub,Vb,hp⟩:=zqp hp;refine zvo (s:=s) (t:=({ Losses:=I,Treaty:=w }:Tr)) Fa.pre (ha100.sub (Sub.trans (Sub.trans g o.fs) na.fs)) (ha101.sub (Sub.trans (Sub.trans g o.fs) na.fs)) Sb Vb fun Fd Wb=>?_;obtain⟨Xb,Yb⟩:=Fa.call Wb i;have Zb:=Tb.k Yb;refine⟨_,rfl,?_⟩;obtain⟨ac,bc,cc,Cd,dc⟩:=Zb.sto Xb [Il Jb,Il Ub];refine⟨ac,bc,?_⟩;refine⟨_,_,dc.bk.ra,?_⟩;obtain rfl:=oi hp;exact hq _ cc.ext'
   intro Gd ec;obtain⟨fc,ba,y,Qa⟩:=ma.growK ec i 7;have hd:=n;have id:=d;have ca:=p.k y;have gc:=D.k y;have oa:=F.k y;have pa:=B.k y;have n:=n.k y;have d:=d.k y;have hc:=Qa 0 (by decide);refine⟨trivial,_,oa.bk.rc rfl,trivial,_,ca.bk.rc rfl,?_⟩;obtain⟨Ga,da,hp⟩:=zqp hp;obtain⟨dd,Ra,ya,da⟩:=zqj da;obtain⟨_,Ha⟩:=zr9 ha101 da;refine⟨dd,Ra,(by first|exact ya|(rw[ha101.slLen];exact ya)),(ha101.isPt da _),_,((Ha _ (Sub.trans g ba.sub)).2.1 0 _ rfl),?_⟩;obtain⟨ic,hp⟩:=zqq hp;intro Hd J;have jc:=(ba.new J fc 0).1;refine⟨(by rw[show cmC _=true from zoU (n.noFn)]; exact(oa.bk.ext (Bk.new J).2).rc rfl),?_⟩;obtain⟨qa,kc,Dd,nc,Ia,z,e⟩:=n.app' zvj ba (a:=Ga.Lo) (show Rp.rep (α:=Int) h _ Ga.Lo from rfl) ic J;have jd:=d;have Ja:=ca.k z;have oc:=gc.k z;have pc:=oa.k z;have Ka:=pa.k z;have qc:=hc.k z;have d:=d.k z;refine⟨qa,kc,nc,?_⟩;refine⟨trivial,_,Ka.bk.rc rfl,(by rw[show cmC _=true from zoU (d.noFn)]; exact((pa.nb J).bk.rc rfl)),(by rw[show cmC _=true from zoU (d.noFn)]; exact(pa.bk.rc rfl)),trivial,_,Ja.bk.rc rfl,(by rw[show cmC _=true from zoU (ha101.noFn)]; exact((ca.nb J).bk.rc rfl)),(by rw[show cmC _=true from zoU (ha101.noFn)]; exact(ca.bk.rc rfl)),?_⟩;obtain⟨N,ea,hp⟩:=zqp hp;obtain⟨ed,Sa,za,ea⟩:=zqj ea;obtain⟨_,sa⟩:=zr9 ha101 ea;refine⟨ed,Sa,(by first|exact za|(rw[ha101.slLen];exact za)),(ha101.isPt ea _),_,((sa _ (Sub.trans g Ia.sub)).2.1 1 _ rfl),((sa _ (Sub.trans g jc.sub)).2.1 1 _ rfl),((sa _ (Sub.trans g ba.sub)).2.1 1 _ rfl),?_⟩;intro Id sc
   obtain⟨La,A,tc⟩:=qc.set Ia sc;have kd:=d;have ld:=e;have Ma:=Ja.k A;have uc:=oc.k A;have Na:=pc.k A;have Oa:=Ka.k A;have d:=d.k A;have e:=e.k A;refine⟨(by rw[show cmC _=true from zoU (d.noFn)]; exact(Oa.bk.rc rfl)),((Ha _ (Sub.trans g La.sub)).2.1 0 _ rfl),(by rw[show cmC _=true from zoU (ha101.noFn)]; exact(Ma.bk.rc rfl)),(by rw[show cmC _=true from zoU (n.noFn)]; exact(Na.bk.rc rfl)),?_⟩;obtain⟨ta,vc,q,Ta⟩:=tc.freeze La;have wc:=Ma.k q;have xc:=uc.k q;have yc:=Na.k q;have zc:=Oa.k q;have d:=d.k q;have e:=e.k q;have Ac:Sl ta (C.sl (j.nxt+0) 0 1 0 (Option.some 1)) ([N.Hi]:List Int):=Bk.sl (α:=Int) (l:=([N.Hi]:List Int)) Ta (show Cat (α:=Int) ta [Il N.Hi] ([N.Hi]:List Int) from ⟨[Il N.Hi],_,rfl,rfl,rfl⟩) rfl rfl _;obtain⟨Bc,hp⟩:=zqq hp;obtain⟨ua,Cc,Dc,Ec,Fc,O,r⟩:=d.appL zvj vc Ac Bc;have md:=e;have Gc:=wc.k O;have Hc:=xc.k O;have Ic:=yc.k O;have Jc:=zc.k O;have e:=e.k O;refine⟨ua,Cc,Ec,?_⟩;refine⟨trivial,?_⟩;obtain⟨Kc,Nc,Pc,P,va⟩:=Ic.sto1 Fc 0 qa (by simp) rfl
   replace va:Lb _ _ _ _ _ _ _ [qa,Il u]:=va
   have nd:=e;have od:=r;have Qc:=Gc.k P;have Rc:=Hc.k P;have Tc:=Jc.k P;have e:=e.k P;have r:=r.k P;refine⟨Kc,Nc,?_⟩;refine⟨trivial,?_⟩;obtain⟨Uc,Vc,Xc,S,wa⟩:=Tc.sto1 Pc 0 ua (by simp) rfl
   replace wa:Lb _ _ _ _ _ _ _ [ua,Il w]:=wa
   have pd:=e;have qd:=r;have Yc:=Qc.k S;have Zc:=Rc.k S;have ad:=va.k S;have e:=e.k S;have r:=r.k S;refine⟨Uc,Vc,?_⟩;refine gdi hp fun bd hp=>?_;exact Fb _ _ _ _ _ _ _ _ ta Dc Xc (Sub.trans g q.fs) Yc Zc ad wa e r hp
 exact hgo _ _ _ _ _ _ _ _ _ f kb Eb (Sub.refl _) p D F B (Ow.nil _ _ _ _ _) (Ow.nil _ _ _ _ _) hp
theorem zvq{m_:Mb}{m f:M}{Q:V->M->Prop}{rz:Int}(hS:Pre f m)(hp:zso m_=some rz)(hq:∀m',Ext m m'->Q (.c (Il rz)) m'):Wc prog tbl 55 [.agg 3 [Il m_.Sum,Il m_.Class,Il m_.Most]] m Q:=by
 have j:=hS.st;obtain⟨l,_⟩:=zr7;refine w55 ?_;unfold zso at hp;intro p d;obtain⟨n,e,o,a⟩:=j.blk d l 1;refine⟨trivial,_,a.bk.rc rfl,trivial,_,a.bk.rc rfl,?_⟩;refine gdi hp fun g hp=>?_;refine gdi hp fun h hp=>?_;refine gdi hp fun i hp=>?_;obtain rfl:=oi hp;exact hq _ e.ext'
theorem zvr{s:Soc}{who:Int}{need:Int}{ca100 ca101:C}{m f:M}{Q:V->M->Prop}{rz:List Int}(hS:Pre f m)(ha100:Sl f ca100 s.Members)(_ha101:Sl f ca101 s.Losses)(hp:zst s who need=some rz)(hq:∀m' f' c0,Grw m f m' f'->Sl f' c0 rz->Q (.c c0) m'):Wc prog tbl 72 [.agg 5 [ca100,ca101,Il s.Treaty.Lo,Il s.Treaty.Hi,Il s.Reserve],.c (Il who),.c (Il need)] m Q:=by
 have S0:=hS.st;obtain⟨τ0,_⟩:=zr7;refine w72 ?_;unfold zst at hp;intro m0 Jb;obtain⟨Kb,Nb,qe,ib⟩:=S0.blk Jb τ0 1;refine⟨trivial,_,ib.bk.rc rfl,ha100.isSl,?_⟩
 try rw[ha100.slLen]
 try rw[ha100.slLen]
 obtain⟨re,hp⟩:=zqq hp;obtain⟨u,I⟩:∃n:Nat,(s.Members.length:Int)=(n:Int):=⟨Int.toNat (s.Members.length:Int),by omega⟩
 have vb:Int.toNat (s.Members.length:Int)=u:=by omega
 refine⟨u,u,(by first|exact I|(rw[ha100.slLen];exact I)),(by first|exact I|(rw[ha100.slLen];exact I)),Nat.le_refl _,(by omega),?_⟩;intro m4 Ob;obtain⟨Pb,Qb,Rb,Sb⟩:=Nb.blk Ob Kb 2;have a:=Sb.mkI' vb;have jb:=ib.k Rb;refine⟨trivial,_,jb.bk.rc rfl,ha100.isSl,?_⟩
 try rw[ha100.slLen]
 try rw[ha100.slLen]
 obtain⟨se,hp⟩:=zqq hp;obtain⟨N,J⟩:∃n:Nat,(s.Members.length:Int)=(n:Int):=⟨Int.toNat (s.Members.length:Int),by omega⟩
 have xb:Int.toNat (s.Members.length:Int)=N:=by omega
 refine⟨N,N,(by first|exact J|(rw[ha100.slLen];exact J)),(by first|exact J|(rw[ha100.slLen];exact J)),Nat.le_refl _,(by omega),?_⟩;intro m8 Tb;obtain⟨Ub,Vb,kb,Wb⟩:=Qb.blk Tb Pb 3;have d:=Wb.mkI' xb;have e:=jb.k kb;have a:=a.k kb;intro R9 Sd
 have hgo:∀(fa:Nat) (g:Int) (Ha:Int) (ga:List Int) (ha:List Int) (O:M) (j:Nat->Nat),St (Fm.of m) f f O->Lb (Fm.of m) f j O 1 m.nxt 5 [ca100,ca101,Il s.Treaty.Lo,Il s.Treaty.Hi,Il s.Reserve]->Ow (Fm.of m) f j O 2 (.sl m0.nxt 0 u 0 (some u)) ga->Ow (Fm.of m) f j O 3 (.sl m4.nxt 0 N 0 (some N)) ha->zss s who need fa g Ha ga ha=some rz->R9 [.c (Il g),.c (Il Ha)] O:=by
  intro fa
  induction fa with
  | zero=>intro g Ha ga ha O j w e a d hp; cases hp
  | succ fa mb=>
   intro g Ha ga ha O j w e a d hp;refine Sd _ _ _ ?_;rw[zss] at hp;refine⟨trivial,_,e.bk.rc rfl,ha100.isSl,?_⟩
   try rw[ha100.slLen]
   refine ifd hp (fun Xb hp=>?_) fun Xb hp=>?_
   ·refine gdi hp fun Yb hp=>?_;refine gdi hp fun Zb hp=>?_;refine gdi hp fun ac hp=>?_;refine gdi hp fun bc hp=>?_;refine gdi hp fun cc hp=>?_;refine gdi hp fun dc hp=>?_;refine gdi hp fun ec hp=>?_;refine ifd hp (fun fc hp=>?_) fun fc hp=>?_; rotate_left
    ·refine gdi hp fun gc hp=>?_;exact mb _ _ _ _ _ j w e a d hp
    refine⟨trivial,_,e.bk.rc rfl,?_⟩;obtain⟨hc,wa,hp⟩:=zqp hp;obtain⟨Td,yb,Ia,wa⟩:=zqj wa;obtain⟨_,ic⟩:=zsb ha100 wa;refine⟨Td,yb,(by first|exact Ia|(rw[ha100.slLen];exact Ia)),_,_,_,(ic _ w.sub).1,?_⟩;obtain⟨ue,jc,hp⟩:=zqp hp;refine zvq (m_:=hc) w.pre  jc fun ye kc=>?_;obtain⟨nc,xa⟩:=w.call kc j;have oc:=e.k xa;have a:=a.k xa;have d:=d.k xa;refine⟨_,rfl,?_⟩;refine gdi hp fun pc hp=>?_;refine gdi hp fun qc hp=>?_;exact mb _ _ _ _ _ j nc oc a d hp
   intro Ud sc
   have hgo:∀(ia:Nat) (Ja:Int) (p:Int) (y:List Int) (q:List Int) (P:M) (l:Nat->Nat),St (Fm.of m) f f P->Lb (Fm.of m) f l P 1 m.nxt 5 [ca100,ca101,Il s.Treaty.Lo,Il s.Treaty.Hi,Il s.Reserve]->Ow (Fm.of m) f l P 2 (.sl m0.nxt 0 u 0 (some u)) y->Ow (Fm.of m) f l P 3 (.sl m4.nxt 0 N 0 (some N)) q->zsr s who need g ia Ja p y q=some rz->Ud [.c (Il Ja),.c (Il p)] P:=by
    intro ia
    induction ia with
    | zero=>intro Ja p y q P l ya e a d hp; cases hp
    | succ ia Ka=>
     intro Ja p y q P l ya e a d hp;refine sc _ _ _ ?_;rw[zsr] at hp;refine⟨trivial,_,e.bk.rc rfl,ha100.isSl,?_⟩
     try rw[ha100.slLen]
     refine ifd hp (fun tc hp=>?_) fun tc hp=>?_; rotate_left
     ·intro Vd uc
      have hgo:∀(S:Nat) (va:Int) (ja:List Int) (ka:List Int) (T:M) (A:Nat->Nat),St (Fm.of m) f f T->Lb (Fm.of m) f A T 1 m.nxt 5 [ca100,ca101,Il s.Treaty.Lo,Il s.Treaty.Hi,Il s.Reserve]->Ow (Fm.of m) f A T 2 (.sl m0.nxt 0 u 0 (some u)) ja->Ow (Fm.of m) f A T 3 (.sl m4.nxt 0 N 0 (some N)) ka->zsq S va ja ka=some rz->Vd [.c (Il va)] T:=by
       intro S
       induction S with
       | zero=>intro va ja ka T A za e a d hp; cases hp
       | succ S zb=>
        intro va ja ka T A za e a d hp;refine uc _ _ ?_;rw[zsq] at hp;refine ifd hp (fun vc hp=>?_) fun vc hp=>?_; rotate_left
        ·obtain⟨wc,xc,yc,zc⟩:=a.freeze za;have d:=d.k yc;obtain rfl:=oi hp;exact hq _ wc (.sl m0.nxt 0 u 0 (some u)) xc.grw zc
        intro Wd Ac
        have hgo:∀(la:Nat) (G:Int) (La:Int) (B:List Int) (D:List Int) (Y:M) (r:Nat->Nat),St (Fm.of m) f f Y->Lb (Fm.of m) f r Y 1 m.nxt 5 [ca100,ca101,Il s.Treaty.Lo,Il s.Treaty.Hi,Il s.Reserve]->Ow (Fm.of m) f r Y 2 (.sl m0.nxt 0 u 0 (some u)) B->Ow (Fm.of m) f r Y 3 (.sl m4.nxt 0 N 0 (some N)) D->zsp va (zsq S) la G La B D=some rz->Wd [.c (Il G),.c (Il La)] Y:=by
         intro la
         induction la with
         | zero=>intro G La B D Y r ma e a d hp; cases hp
         | succ la Ma=>
          intro G La B D Y r ma e a d hp;refine Ac _ _ _ ?_;rw[zsp] at hp;refine⟨d.isSl,?_⟩
          try rw[d.slLen]
          refine ifd hp (fun Bc hp=>?_) fun Bc hp=>?_
          ·obtain⟨ve,Aa,hp⟩:=zqp hp;obtain⟨Xd,Ab,Na,Aa⟩:=zqj Aa;have Bb:=(d.rdI Aa);refine⟨Xd,Ab,(by first|exact Na|(rw[d.slLen];exact Na)),_,Bb,?_⟩;obtain⟨we,Ba,hp⟩:=zqp hp;obtain⟨Yd,Cb,Oa,Ba⟩:=zqj Ba;have Db:=(d.rdI Ba);refine⟨Yd,Cb,(by first|exact Oa|(rw[d.slLen];exact Oa)),_,Db,?_⟩;refine ifd hp (fun Cc hp=>?_) fun Cc hp=>?_
           ·refine gdi hp fun Dc hp=>?_;exact Ma _ _ _ _ _ r ma e a d hp
           refine gdi hp fun Ec hp=>?_;exact Ma _ _ _ _ _ r ma e a d hp
          obtain⟨Z,Ca,hp⟩:=zqp hp;obtain⟨Zd,Eb,Pa,Ca⟩:=zqj Ca;have Fb:=(a.rdI Ca);refine⟨Zd,Eb,(by first|exact Pa|(rw[a.slLen];exact Pa)),_,Fb,?_⟩;refine gdi hp fun Fc hp=>?_;obtain⟨Gc,aa,hp⟩:=zqp hp;obtain⟨Qa,na,Ra,aa⟩:=zqj aa;refine⟨Qa,na,(by first|exact Ra|(rw[a.slLen];exact Ra)),?_⟩;obtain⟨Hc,Ic,Jc,ob,oa⟩:=a.setP ma (a':=(Z+(1:Int))) aa [Il Gc] (fun _ h=>h) 0 [(Il (Z+(1:Int)))] (Nat.le_of_ble_eq_true rfl) rfl
          have Sa:Int.toNat G=Qa:=by rw[na]; rfl
          rw[<- Sa] at oa;have ce:=na;have Kc:(B.set (Int.toNat G) (Z+(1:Int)))[Qa]? = some (Z+(1:Int)):=(congrArg (fun z=>(B.set z (Z+(1:Int)))[Qa]?) Sa).trans (List.getElem?_set_self (List.getElem?_eq_some_iff.1 aa).1);have de:=(List.getElem?_eq_some_iff.1 Kc).1;have Nc:=e.k ob;have d:=d.k ob;refine⟨Hc,(by have t:=Ic; rw[a.add0 aa] at t; exact t),?_⟩;obtain⟨Pc,ba,hp⟩:=zqp hp;obtain⟨Ta,pa,Ua,ba⟩:=zqj ba;refine⟨Ta,pa,(by first|exact Ua|(rw[d.slLen];exact Ua)),?_⟩;obtain⟨Qc,Rc,Tc,pb,qb⟩:=d.setP Jc (a':=(-1:Int)) ba [Il Pc] (fun _ h=>h) 0 [(Il (-1:Int))] (Nat.le_of_ble_eq_true rfl) rfl
          have Va:Int.toNat G=Ta:=by rw[pa]; rfl
          rw[<- Va] at qb;have ee:=pa;have Uc:(D.set (Int.toNat G) (-1:Int))[Ta]? = some (-1:Int):=(congrArg (fun z=>(D.set z (-1:Int))[Ta]?) Va).trans (List.getElem?_set_self (List.getElem?_eq_some_iff.1 ba).1);have fe:=(List.getElem?_eq_some_iff.1 Uc).1;have Vc:=Nc.k pb;have oa:=oa.k pb;refine⟨Qc,(by have t:=Rc; rw[d.add0 ba] at t; exact t),?_⟩;refine gdi hp fun Xc hp=>?_;exact zb _ _ _ _ r Tc Vc oa qb hp
        exact hgo _ _ _ _ _ _ A za e a d hp
      exact hgo _ _ _ _ _ l ya e a d hp
     obtain⟨Yc,ca,hp⟩:=zqp hp;obtain⟨Wa,qa,Xa,ca⟩:=zqj ca;refine⟨Wa,qa,(by first|exact Xa|(rw[d.slLen];exact Xa)),?_⟩;obtain⟨Zc,ad,sa,rb,o⟩:=d.setP ya (a':=(-1:Int)) ca [Il Yc] (fun _ h=>h) 0 [(Il (-1:Int))] (Nat.le_of_ble_eq_true rfl) rfl
     have Ya:Int.toNat p=Wa:=by rw[qa]; rfl
     rw[<- Ya] at o;have ge:=qa;have bd:(q.set (Int.toNat p) (-1:Int))[Wa]? = some (-1:Int):=(congrArg (fun z=>(q.set z (-1:Int))[Wa]?) Ya).trans (List.getElem?_set_self (List.getElem?_eq_some_iff.1 ca).1);have he:=(List.getElem?_eq_some_iff.1 bd).1;have Da:=e.k rb;have a:=a.k rb;refine⟨Zc,(by have t:=ad; rw[d.add0 ca] at t; exact t),?_⟩;refine gdi hp fun cd hp=>?_;refine gdi hp fun dd hp=>?_;refine gdi hp fun ed hp=>?_;refine gdi hp fun fd hp=>?_;refine gdi hp fun hd hp=>?_;refine gdi hp fun id hp=>?_;refine gdi hp fun jd hp=>?_;refine ifd hp (fun kd hp=>?_) fun kd hp=>?_; rotate_left
     ·refine gdi hp fun ld hp=>?_;exact Ka _ _ _ _ _ l sa Da a o hp
     refine⟨trivial,_,Da.bk.rc rfl,?_⟩;obtain⟨md,Ea,hp⟩:=zqp hp;obtain⟨ae,Gb,Za,Ea⟩:=zqj Ea;obtain⟨_,nd⟩:=zsb ha100 Ea;refine⟨ae,Gb,(by first|exact Za|(rw[ha100.slLen];exact Za)),_,_,_,(nd _ sa.sub).1,?_⟩;obtain⟨i,od,hp⟩:=zqp hp;refine zvq (m_:=md) sa.pre  od fun ze pd=>?_;obtain⟨qd,Fa⟩:=sa.call pd l;have sd:=Da.k Fa;have a:=a.k Fa;have o:=o.k Fa;refine⟨_,rfl,?_⟩;refine gdi hp fun td hp=>?_;refine gdi hp fun ud hp=>?_;refine gdi hp fun vd hp=>?_;refine gdi hp fun wd hp=>?_;refine gdi hp fun xd hp=>?_;refine gdi hp fun yd hp=>?_;refine gdi hp fun zd hp=>?_;refine gdi hp fun Ad hp=>?_;refine gdi hp fun Cd hp=>?_;obtain⟨Dd,da,hp⟩:=zqp hp;obtain⟨ab,ta,bb,da⟩:=zqj da;refine⟨ab,ta,(by first|exact bb|(rw[a.slLen];exact bb)),?_⟩;obtain⟨Ed,Fd,Gd,sb,F⟩:=a.setP qd (a':=((need * i) / g)) da [Il Dd] (fun _ h=>h) 0 [(Il ((need * i) / g))] (Nat.le_of_ble_eq_true rfl) rfl
     have cb:Int.toNat p=ab:=by rw[ta]; rfl
     rw[<- cb] at F;have ie:=ta;have Hd:(y.set (Int.toNat p) ((need * i) / g))[ab]? = some ((need * i) / g):=(congrArg (fun z=>(y.set z ((need * i) / g))[ab]?) cb).trans (List.getElem?_set_self (List.getElem?_eq_some_iff.1 da).1);have je:=(List.getElem?_eq_some_iff.1 Hd).1;have Id:=sd.k sb;have o:=o.k sb;refine⟨Ed,(by have t:=Fd; rw[a.add0 da] at t; exact t),?_⟩;obtain⟨Jd,ea,hp⟩:=zqp hp;obtain⟨db,ua,eb,ea⟩:=zqj ea;refine⟨db,ua,(by first|exact eb|(rw[o.slLen];exact eb)),?_⟩;obtain⟨Ld,Md,Nd,tb,ub⟩:=o.setP Gd (a':=((need * i) % g)) ea [Il Jd] (fun _ h=>h) 0 [(Il ((need * i) % g))] (Nat.le_of_ble_eq_true rfl) rfl
     have fb:Int.toNat p=db:=by rw[ua]; rfl
     rw[<- fb] at ub;have ke:=ua;have Od:((q.set (Int.toNat p) (-1:Int)).set (Int.toNat p) ((need * i) % g))[db]? = some ((need * i) % g):=(congrArg (fun z=>((q.set (Int.toNat p) (-1:Int)).set z ((need * i) % g))[db]?) fb).trans (List.getElem?_set_self (List.getElem?_eq_some_iff.1 ea).1);have me:=(List.getElem?_eq_some_iff.1 Od).1;have Pd:=Id.k tb;have F:=F.k tb;refine⟨Ld,(by have t:=Md; rw[o.add0 ea] at t; exact t),?_⟩;obtain⟨xe,Ga,hp⟩:=zqp hp;obtain⟨be,Hb,gb,Ga⟩:=zqj Ga;have Ib:=(F.rdI Ga);refine⟨be,Hb,(by first|exact gb|(rw[F.slLen];exact gb)),_,Ib,?_⟩;refine gdi hp fun Qd hp=>?_;refine gdi hp fun Rd hp=>?_;exact Ka _ _ _ _ _ l Nd Pd F ub hp
   exact hgo _ _ _ _ _ _ j w e a d hp
 exact hgo _ _ _ _ _ _ Ub Vb e a d hp
theorem zvs{s:Soc}{who:Int}{need:Int}{ca100 ca101:C}{m f:M}{Q:V->M->Prop}{rz:List Int × Int}(hS:Pre f m)(ha100:Sl f ca100 s.Members)(ha101:Sl f ca101 s.Losses)(hp:zsy s who need=some rz)(hq:∀m' f' c0,Grw m f m' f'->Sl f' c0 rz.1->Q (.tup [.c c0,.c (Il rz.2)]) m'):Wc prog tbl 34 [.agg 5 [ca100,ca101,Il s.Treaty.Lo,Il s.Treaty.Hi,Il s.Reserve],.c (Il who),.c (Il need)] m Q:=by
 have S0:=hS.st;obtain⟨τ0,_⟩:=zr7;refine w34 ?_;unfold zsy at hp;intro m0 sc;obtain⟨tc,uc,hd,La⟩:=S0.blk sc τ0 1;refine⟨trivial,_,La.bk.rc rfl,ha100.isSl,?_⟩
 try rw[ha100.slLen]
 try rw[ha100.slLen]
 obtain⟨id,hp⟩:=zqq hp;obtain⟨t,I⟩:∃n:Nat,(s.Members.length:Int)=(n:Int):=⟨Int.toNat (s.Members.length:Int),by omega⟩
 have Ta:Int.toNat (s.Members.length:Int)=t:=by omega
 refine⟨t,t,(by first|exact I|(rw[ha100.slLen];exact I)),(by first|exact I|(rw[ha100.slLen];exact I)),Nat.le_refl _,(by omega),?_⟩;intro m4 vc;obtain⟨wc,xc,yc,zc⟩:=uc.blk vc tc 2;have a:=zc.mkI' Ta;have Z:=La.k yc;intro R5 Gc
 have hgo:∀(o:Nat) (c6:C) (x7:Int) (x8:Int) (x9:Int) (ia:List Int) (ca:M) (F:M) (G:Nat->Nat),St (Fm.of m) f F ca->Sub f F->Lb (Fm.of m) F G ca 1 m.nxt 5 [ca100,ca101,Il s.Treaty.Lo,Il s.Treaty.Hi,Il s.Reserve]->Ow (Fm.of m) F G ca 2 (.sl m0.nxt 0 t 0 (some t)) ia->zsx s o x8 x9 ia=some rz->R5 [.c c6,.c (Il x7),.c (Il x8),.c (Il x9)] ca:=by
  intro o
  induction o with
  | zero=>intro c6 x7 x8 x9 ia ca F G ja p Z a hp; cases hp
  | succ o Cc=>
   intro c6 x7 x8 x9 ia ca F G ja p Z a hp;refine Gc _ _ _ _ _ ?_;rw[zsx] at hp;refine ifd hp (fun Ua hp=>?_) fun Ua hp=>?_; rotate_left
   ·obtain⟨Va,Wa,Yc,Xa⟩:=a.freeze ja;obtain rfl:=oi hp;exact hq _ Va (.sl m0.nxt 0 t 0 (some t)) Wa.grw Xa
   refine⟨_,_,_,_,_,Z.bk.ra,?_⟩;obtain⟨Aa,Ya,hp⟩:=zqp hp;refine zvr (s:=s) (who:=x9) (need:=x8) ja.pre (ha100.sub p) (ha101.sub p) Ya fun kd e Zc Za J=>?_;obtain⟨ab,u⟩:=ja.callG Za G;have d:=Z.k u;have a:=a.k u;refine⟨_,rfl,?_⟩;intro Hc Dc
   have hgo:∀(N:Nat) (pa:Int) (da:Int) (j:List Int) (ea:M) (g:Nat->Nat),St (Fm.of m) f e ea->Lb (Fm.of m) e g ea 1 m.nxt 5 [ca100,ca101,Il s.Treaty.Lo,Il s.Treaty.Hi,Il s.Reserve]->Ow (Fm.of m) e g ea 2 (.sl m0.nxt 0 t 0 (some t)) j->zsw s x8 x9 Aa (zsx s o) N pa da j=some rz->Hc [.c (Il pa),.c (Il da)] ea:=by
    intro N
    induction N with
    | zero=>intro pa da j ea g i d a hp; cases hp
    | succ N ka=>
     intro pa da j ea g i d a hp;refine Dc _ _ _ ?_;rw[zsw] at hp;refine⟨trivial,_,d.bk.rc rfl,ha100.isSl,?_⟩
     try rw[ha100.slLen]
     refine ifd hp (fun bb hp=>?_) fun bb hp=>?_
     ·refine gdi hp fun cb hp=>?_;refine gdi hp fun db hp=>?_;refine gdi hp fun eb hp=>?_;refine gdi hp fun fb hp=>?_;refine gdi hp fun gb hp=>?_;refine gdi hp fun hb hp=>?_;refine gdi hp fun ib hp=>?_;refine ifd hp (fun jb hp=>?_) fun jb hp=>?_; rotate_left
      ·refine gdi hp fun kb hp=>?_;exact ka _ _ _ _ g i d a hp
      obtain⟨ad,la,hp⟩:=zqp hp;obtain⟨Ic,Ma,qa,la⟩:=zqj la;refine⟨Ic,Ma,(by first|exact qa|(rw[J.slLen];exact qa)),_,(J.rdI la i.sub),trivial,_,d.bk.rc rfl,?_⟩;obtain⟨bd,O,hp⟩:=zqp hp;obtain⟨Jc,Na,sa,O⟩:=zqj O;obtain⟨_,mb⟩:=zsb ha100 O;refine⟨Jc,Na,(by first|exact sa|(rw[ha100.slLen];exact sa)),(ha100.isPt O _),_,((mb _ (Sub.trans (Sub.trans p u.fs) i.sub)).2.1 2 _ rfl),?_⟩;refine ifd hp (fun ob hp=>?_) fun ob hp=>?_; rotate_left
      ·refine gdi hp fun pb hp=>?_;exact ka _ _ _ _ g i d a hp
      refine⟨trivial,_,d.bk.rc rfl,?_⟩;obtain⟨w,P,hp⟩:=zqp hp;obtain⟨Kc,Oa,ta,P⟩:=zqj P;obtain⟨_,qb⟩:=zsb ha100 P;refine⟨Kc,Oa,(by first|exact ta|(rw[ha100.slLen];exact ta)),(ha100.isPt P _),_,((qb _ (Sub.trans (Sub.trans p u.fs) i.sub)).2.1 2 _ rfl),?_⟩;obtain⟨rb,y,hp⟩:=zqp hp;obtain⟨Ba,aa,ua,y⟩:=zqj y;refine⟨Ba,aa,(by first|exact ua|(rw[a.slLen];exact ua)),?_⟩;obtain⟨sb,tb,ub,vb,Ca⟩:=a.setP i (a':=w.Most) y [Il rb] (fun _ h=>h) 0 [Il w.Most] (Nat.le_of_ble_eq_true rfl) rfl
      have va:Int.toNat da=Ba:=by rw[aa]; rfl
      rw[<- va] at Ca;have Nc:=aa;have wb:(j.set (Int.toNat da) w.Most)[Ba]? = some w.Most:=(congrArg (fun z=>(j.set z w.Most)[Ba]?) va).trans (List.getElem?_set_self (List.getElem?_eq_some_iff.1 y).1);have Pc:=(List.getElem?_eq_some_iff.1 wb).1;have xb:=d.k vb;refine⟨sb,(by have h9:=tb; rw[a.add0 y] at h9; exact h9),?_⟩;refine gdi hp fun yb hp=>?_;refine gdi hp fun zb hp=>?_;refine gdi hp fun Ab hp=>?_;refine gdi hp fun Bb hp=>?_;refine gdi hp fun Cb hp=>?_;refine gdi hp fun Db hp=>?_;exact ka _ _ _ _ g ub xb Ca hp
     refine ifd hp (fun Eb hp=>?_) fun Eb hp=>?_; rotate_left
     ·intro Qc Ec
      have hgo:∀(S:Nat) (Da:Int) (Ea:Int) (fa:M) (l:Nat->Nat),St (Fm.of m) f e fa->Lb (Fm.of m) e l fa 1 m.nxt 5 [ca100,ca101,Il s.Treaty.Lo,Il s.Treaty.Hi,Il s.Reserve]->Ow (Fm.of m) e l fa 2 (.sl m0.nxt 0 t 0 (some t)) j->zsv s x9 pa j (zsx s o) S Da Ea=some rz->Qc [.c (Il Da),.c (Il Ea)] fa:=by
       intro S
       induction S with
       | zero=>intro Da Ea fa l T d a hp; cases hp
       | succ S Fa=>
        intro Da Ea fa l T d a hp;refine Ec _ _ _ ?_;rw[zsv] at hp;refine⟨trivial,_,d.bk.rc rfl,ha100.isSl,?_⟩
        try rw[ha100.slLen]
        refine ifd hp (fun Fb hp=>?_) fun Fb hp=>?_; rotate_left
        ·exact Cc _ _ _ _ _ _ e l T (Sub.trans p u.fs) d a hp
        refine gdi hp fun Gb hp=>?_;refine gdi hp fun Hb hp=>?_;refine gdi hp fun Ib hp=>?_;refine gdi hp fun Jb hp=>?_;refine gdi hp fun Kb hp=>?_;refine gdi hp fun Nb hp=>?_;refine gdi hp fun Ob hp=>?_;refine gdi hp fun Pb hp=>?_;refine ifd hp (fun Qb hp=>?_) fun Qb hp=>?_; rotate_left
        ·refine gdi hp fun Rb hp=>?_;exact Fa _ _ _ l T d a hp
        obtain⟨cd,ma,hp⟩:=zqp hp;obtain⟨Rc,Qa,wa,ma⟩:=zqj ma;have Ra:=(a.rdI ma);refine⟨Rc,Qa,(by first|exact wa|(rw[a.slLen];exact wa)),_,Ra,?_⟩;refine gdi hp fun Sb hp=>?_;refine gdi hp fun Tb hp=>?_;exact Fa _ _ _ l T d a hp
      exact hgo _ _ _ _ g i d a hp
     intro Tc Fc
     have hgo:∀(Y:Nat) (ga:Int) (q:List Int) (ha:M) (r:Nat->Nat),St (Fm.of m) f e ha->Lb (Fm.of m) e r ha 1 m.nxt 5 [ca100,ca101,Il s.Treaty.Lo,Il s.Treaty.Hi,Il s.Reserve]->Ow (Fm.of m) e r ha 2 (.sl m0.nxt 0 t 0 (some t)) q->zsu s x9 Aa Y ga q=some rz->Tc [.c (Il ga)] ha:=by
      intro Y
      induction Y with
      | zero=>intro ga q ha r A d a hp; cases hp
      | succ Y Ga=>
       intro ga q ha r A d a hp;refine Fc _ _ ?_;rw[zsu] at hp;refine⟨trivial,_,d.bk.rc rfl,ha100.isSl,?_⟩
       try rw[ha100.slLen]
       refine ifd hp (fun Ub hp=>?_) fun Ub hp=>?_; rotate_left
       ·obtain⟨Vb,Wb,dd,Xb⟩:=a.freeze A;obtain rfl:=oi hp;exact hq _ Vb (.sl m0.nxt 0 t 0 (some t)) Wb.grw Xb
       refine gdi hp fun Yb hp=>?_;refine gdi hp fun Zb hp=>?_;refine gdi hp fun ac hp=>?_;refine gdi hp fun bc hp=>?_;refine gdi hp fun cc hp=>?_;refine gdi hp fun dc hp=>?_;refine gdi hp fun ec hp=>?_;refine ifd hp (fun fc hp=>?_) fun fc hp=>?_; rotate_left
       ·refine gdi hp fun gc hp=>?_;exact Ga _ _ _ r A d a hp
       obtain⟨B,na,hp⟩:=zqp hp;obtain⟨Uc,Sa,xa,na⟩:=zqj na;refine⟨Uc,Sa,(by first|exact xa|(rw[J.slLen];exact xa)),_,(J.rdI na A.sub),?_⟩;obtain⟨hc,D,hp⟩:=zqp hp;obtain⟨Ha,ba,ya,D⟩:=zqj D;refine⟨Ha,ba,(by first|exact ya|(rw[a.slLen];exact ya)),?_⟩;obtain⟨ic,jc,kc,nc,Ia⟩:=a.setP A (a':=B) D [Il hc] (fun _ h=>h) 0 [Il B] (Nat.le_of_ble_eq_true rfl) rfl
       have za:Int.toNat ga=Ha:=by rw[ba]; rfl
       rw[<- za] at Ia;have Vc:=ba;have oc:(q.set (Int.toNat ga) B)[Ha]? = some B:=(congrArg (fun z=>(q.set z B)[Ha]?) za).trans (List.getElem?_set_self (List.getElem?_eq_some_iff.1 D).1);have Xc:=(List.getElem?_eq_some_iff.1 oc).1;have pc:=d.k nc;refine⟨ic,(by have h9:=jc; rw[a.add0 D] at h9; exact h9),?_⟩;refine gdi hp fun qc hp=>?_;exact Ga _ _ _ r kc pc Ia hp
     exact hgo _ _ _ _ g i d a hp
   exact hgo _ _ _ _ _ G ab d a hp
 exact hgo _ _ _ _ _ _ _ f wc xc (Sub.refl _) Z a hp
theorem zvt{s:Soc}{ca100 ca101:C}{m f:M}{Q:V->M->Prop}{rz:Int}(hS:Pre f m)(ha100:Sl f ca100 s.Members)(_ha101:Sl f ca101 s.Losses)(hp:zsz s=some rz)(hq:∀m',Ext m m'->Q (.c (Il rz)) m'):Wc prog tbl 35 [.agg 5 [ca100,ca101,Il s.Treaty.Lo,Il s.Treaty.Hi,Il s.Reserve]] m Q:=by
 have p:=hS.st;obtain⟨q,_⟩:=zr7;refine w35 ?_;unfold zsz at hp;intro r h;obtain⟨n,i,o,j⟩:=p.blk h q 1;refine⟨trivial,_,j.bk.rc rfl,ha100.isSl,?_⟩;refine gdi hp fun l hp=>?_;obtain⟨a,hp⟩:=zqq hp;refine⟨(by first|exact a|(rw[ha100.slLen];exact a)),?_⟩;obtain⟨d,hp⟩:=zqq hp;refine⟨(by first|exact d|(rw[ha100.slLen];exact d)),?_⟩;obtain⟨e,hp⟩:=zqq hp;refine⟨(by first|exact e|(rw[ha100.slLen];exact e)),?_⟩;obtain⟨g,hp⟩:=zqq hp;refine⟨(by first|exact g|(rw[ha100.slLen];exact g)),?_⟩
 try rw[ha100.slLen]
 obtain rfl:=oi hp;exact hq _ i.ext'
theorem zvu{s:Soc}{who:Int}{ca100 ca101:C}{m f:M}{Q:V->M->Prop}{rz:List Rg × Rg}(hS:Pre f m)(ha100:Sl f ca100 s.Members)(ha101:Sl f ca101 s.Losses)(hp:zsD s who=some rz)(hq:∀m' f' c0,Grw m f m' f'->Sl f' c0 rz.1->Q (.tup [.c c0,.agg 2 [Il rz.2.Lo,Il rz.2.Hi]]) m'):Wc prog tbl 40 [.agg 5 [ca100,ca101,Il s.Treaty.Lo,Il s.Treaty.Hi,Il s.Reserve],.c (Il who)] m Q:=by
 have S0:=hS.st;obtain⟨τ0,_⟩:=zr7;refine w40 ?_;unfold zsD at hp;intro m0 Xa;obtain⟨Ya,Za,Zc,ab⟩:=S0.blk Xa τ0 1;intro m1 bb;obtain⟨Ha,Ia,cb,db⟩:=Za.blk bb Ya 2;have Ja:=ab.k cb;refine⟨_,_,_,_,_,Ja.bk.ra,?_⟩;obtain⟨g,eb,hp⟩:=zqp hp;refine zvp (s:=s) Ia.pre ha100 ha101 eb fun m8 fb=>?_;obtain⟨gb,Ka⟩:=Ia.call fb Ha;have hb:=Ja.k Ka;have ib:=db.k Ka;refine⟨_,_,rfl,?_⟩;intro ed jb;obtain⟨kb,mb,La,ob⟩:=gb.blk jb Ha 3;have pb:=hb.k La;have qb:=ib.k La;obtain⟨fa,rb,sb,Ma,tb⟩:=ob.sto mb [Il g.Lo,Il g.Hi];have ub:=pb.k Ma;have vb:=qb.k Ma;refine⟨fa,rb,?_⟩;intro fd wb;obtain⟨xb,yb,va,zb⟩:=sb.blk wb kb 4;have Ab:=ub.k va;have Bb:=vb.k va;have Cb:=tb.k va;obtain⟨Db,Eb,Fb,wa,l⟩:=zb.sto yb [(Il (1099511627776:Int)),(Il (-1:Int))];have i:=Ab.k wa;have n:=Bb.k wa;have j:=Cb.k wa;refine⟨Db,Eb,?_⟩;intro Kc Hc
 have hgo:∀(ga:Nat) (qa:C) (Na:Int) (ha:List Rg) (D:M) (e:M) (r:Nat->Nat),St (Fm.of m) f e D->Sub f e->Lb (Fm.of m) e r D 1 m.nxt 5 [ca100,ca101,Il s.Treaty.Lo,Il s.Treaty.Hi,Il s.Reserve]->Lb (Fm.of m) e r D 2 m0.nxt 2 [Il 0,Il 0]->Lb (Fm.of m) e r D 3 m8.nxt 2 [Il g.Lo,Il g.Hi]->Lb (Fm.of m) e r D 4 fa.nxt 2 [(Il (1099511627776:Int)),(Il (-1:Int))]->Ow (Fm.of m) e r D 5 qa ha->zsC s who g ga ha Na=some rz->Kc [.c qa,.c (Il Na)] D:=by
  intro ga
  induction ga with
  | zero=>intro qa Na ha D e r xa F i n j l d hp; cases hp
  | succ ga Gb=>
   intro qa Na ha D e r xa F i n j l d hp;refine Hc _ _ _ ?_;rw[zsC] at hp;refine⟨trivial,_,i.bk.rc rfl,ha100.isSl,?_⟩
   try rw[ha100.slLen]
   refine ifd hp (fun Hb hp=>?_) fun Hb hp=>?_
   ·obtain⟨Ib,hp⟩:=zqq hp;intro hd Jb;obtain⟨Kb,Nb,Ob,Pb,Qb,ia,Rb⟩:=d.app' zvi xa (a:=({ Lo:=(1099511627776:Int),Hi:=(-1:Int) }:Rg)) (show Rp.rep (α:=Rg) e _ ({ Lo:=(1099511627776:Int),Hi:=(-1:Int) }:Rg) from rfl) Ib Jb;have Sb:=i.k ia;have Tb:=n.k ia;have Ub:=j.k ia;have Vb:=l.k ia;refine⟨Kb,Nb,Pb,?_⟩;refine gdi hp fun Wb hp=>?_;exact Gb _ _ _ _ e Ob Qb F Sb Tb Ub Vb Rb hp
   refine⟨trivial,_,j.bk.rc rfl,?_⟩;intro Nc Ic
   have hgo:∀(G:Nat) (ta:Int) (t:Int) (u:Int) (ja:List Rg) (I:M) (o:M) (p:Nat->Nat),St (Fm.of m) f o I->Sub e o->Lb (Fm.of m) o p I 1 m.nxt 5 [ca100,ca101,Il s.Treaty.Lo,Il s.Treaty.Hi,Il s.Reserve]->Lb (Fm.of m) o p I 2 m0.nxt 2 [Il 0,Il 0]->Lb (Fm.of m) o p I 3 m8.nxt 2 [Il g.Lo,Il g.Hi]->Lb (Fm.of m) o p I 4 fa.nxt 2 [Il t,Il u]->Ow (Fm.of m) o p I 5 qa ja->zsB s who g G t u ta ja=some rz->Nc [.c (Il ta)] I:=by
    intro G
    induction G with
    | zero=>intro ta t u ja I o p ka J i n j l d hp; cases hp
    | succ G Xb=>
     intro ta t u ja I o p ka J i n j l d hp;refine Ic _ _ ?_;rw[zsB] at hp;refine⟨trivial,_,j.bk.rc rfl,?_⟩;refine ifd hp (fun Yb hp=>?_) fun Yb hp=>?_; rotate_left
     ·refine⟨_,_,l.bk.ra,?_⟩;obtain⟨Zb,ac,bc,cc,dc⟩:=n.sto ka [Il t,Il u];have d:=d.k cc;refine⟨Zb,ac,?_⟩;refine⟨_,_,dc.bk.ra,?_⟩;obtain⟨ec,fc,ad,gc⟩:=d.freeze bc;obtain rfl:=oi hp;exact hq _ ec qa fc.grw gc
     refine⟨_,_,_,_,_,i.bk.ra,?_⟩;obtain⟨N,hc,hp⟩:=zqp hp;refine zvs (s:=s) (who:=who) (need:=ta) ka.pre (ha100.sub (Sub.trans F J)) (ha101.sub (Sub.trans F J)) hc fun id w bd ic y=>?_;obtain⟨jc,A⟩:=ka.callG ic p;have kc:=i.k A;have nc:=n.k A;have oc:=j.k A;have ya:=l.k A;have d:=d.k A;refine⟨_,_,rfl,trivial,_,ya.bk.rc rfl,trivial,_,ya.bk.rc rfl,?_⟩;obtain⟨pc,qc,sc,la,O⟩:=ya.sto jc [(Il (min t N.2)),(Il (max u N.2))];have P:=kc.k la;have S:=nc.k la;have T:=oc.k la;have d:=d.k la;refine⟨pc,qc,?_⟩;intro Pc Jc
     have hgo:∀(ma:Nat) (ua:Int) (B:List Rg) (Y:M) (q:Nat->Nat),St (Fm.of m) f w Y->Lb (Fm.of m) w q Y 1 m.nxt 5 [ca100,ca101,Il s.Treaty.Lo,Il s.Treaty.Hi,Il s.Reserve]->Lb (Fm.of m) w q Y 2 m0.nxt 2 [Il 0,Il 0]->Lb (Fm.of m) w q Y 3 m8.nxt 2 [Il g.Lo,Il g.Hi]->Lb (Fm.of m) w q Y 4 fa.nxt 2 [(Il (min t N.2)),(Il (max u N.2))]->Ow (Fm.of m) w q Y 5 qa B->zsA t u ta N (zsB s who g G) ma ua B=some rz->Pc [.c (Il ua)] Y:=by
      intro ma
      induction ma with
      | zero=>intro ua B Y q Z P S T O d hp; cases hp
      | succ ma tc=>
       intro ua B Y q Z P S T O d hp;refine Jc _ _ ?_;rw[zsA] at hp;refine⟨y.isSl,?_⟩
       try rw[y.slLen]
       refine ifd hp (fun uc hp=>?_) fun uc hp=>?_; rotate_left
       ·refine gdi hp fun vc hp=>?_;exact Xb _ _ _ _ _ w q Z (Sub.trans J A.fs) P S T O d hp
       obtain⟨aa,na,hp⟩:=zqp hp;obtain⟨Qc,Ra,Ba,na⟩:=zqj na;have Sa:=(zvg (d.rdP na));refine⟨Qc,Ra,(by first|exact Ba|(rw[d.slLen];exact Ba)),(d.isPt na _),_,((Sa).2.1 0 _ rfl),?_⟩;obtain⟨ba,za,hp⟩:=zqp hp;obtain⟨Rc,Ta,Ca,za⟩:=zqj za;refine⟨Rc,Ta,(by first|exact Ca|(rw[y.slLen];exact Ca)),_,(y.rdI za Z.sub),?_⟩;obtain⟨ca,oa,hp⟩:=zqp hp;obtain⟨Tc,Ua,Da,oa⟩:=zqj oa;have Va:=(zvg (d.rdP oa));refine⟨Tc,Ua,(by first|exact Da|(rw[d.slLen];exact Da)),(d.isPt oa _),_,((Va).2.1 1 _ rfl),?_⟩;obtain⟨da,Aa,hp⟩:=zqp hp;obtain⟨Uc,Wa,Ea,Aa⟩:=zqj Aa;refine⟨Uc,Wa,(by first|exact Ea|(rw[y.slLen];exact Ea)),_,(y.rdI Aa Z.sub),?_⟩;obtain⟨Oa,ea,hp⟩:=zqp hp;obtain⟨Pa,sa,Fa,ea⟩:=zqj ea;refine⟨Pa,sa,(by first|exact Fa|(rw[d.slLen];exact Fa)),?_⟩;obtain⟨wc,xc,yc,pa,Qa⟩:=d.setP Z (a':=({ Lo:=(min aa.Lo ba),Hi:=(max ca.Hi da) }:Rg)) ea [Il Oa.Lo,Il Oa.Hi] (fun _ h=>h) 0 [(Il (min aa.Lo ba)),(Il (max ca.Hi da))] (Nat.le_of_ble_eq_true rfl) rfl
       have Ga:Int.toNat ua=Pa:=by rw[sa]; rfl
       rw[<- Ga] at Qa;have Vc:=sa;have zc:(B.set (Int.toNat ua) ({ Lo:=(min aa.Lo ba),Hi:=(max ca.Hi da) }:Rg))[Pa]? = some ({ Lo:=(min aa.Lo ba),Hi:=(max ca.Hi da) }:Rg):=(congrArg (fun z=>(B.set z ({ Lo:=(min aa.Lo ba),Hi:=(max ca.Hi da) }:Rg))[Pa]?) Ga).trans (List.getElem?_set_self (List.getElem?_eq_some_iff.1 ea).1);have Xc:=(List.getElem?_eq_some_iff.1 zc).1;have Ac:=P.k pa;have Bc:=S.k pa;have Cc:=T.k pa;have Dc:=O.k pa;refine⟨wc,(by have h9:=xc; rw[d.add0 ea] at h9; exact h9),?_⟩;refine gdi hp fun Ec hp=>?_;exact tc _ _ _ q yc Ac Bc Cc Dc Qa hp
     exact hgo _ _ _ _ p sc P S T O d hp
   exact hgo _ _ _ _ _ _ e r xa (Sub.refl _) i n j l d hp
 exact hgo _ _ _ _ _ f xb Fb (Sub.refl _) i n j l (Ow.nil _ _ _ _ _) hp
theorem zvv{s:Soc}{rate:Int}{ca100 ca101:C}{m f:M}{Q:V->M->Prop}{rz:Int}(hS:Pre f m)(ha100:Sl f ca100 s.Members)(_ha101:Sl f ca101 s.Losses)(hp:zsF s rate=some rz)(hq:∀m',Ext m m'->Q (.c (Il rz)) m'):Wc prog tbl 56 [.agg 5 [ca100,ca101,Il s.Treaty.Lo,Il s.Treaty.Hi,Il s.Reserve],.c (Il rate)] m Q:=by
 have S0:=hS.st;obtain⟨τ0,_⟩:=zr7;refine w56 ?_;unfold zsF at hp;intro m0 u;obtain⟨w,y,ea,a⟩:=S0.blk u τ0 1;intro R1 ca
 have hgo:∀(g:Nat) (z:Int) (A:Int) (q:M) (e:Nat->Nat),St (Fm.of m) f f q->Lb (Fm.of m) f e q 1 m.nxt 5 [ca100,ca101,Il s.Treaty.Lo,Il s.Treaty.Hi,Il s.Reserve]->zsE s rate g z A=some rz->R1 [.c (Il z),.c (Il A)] q:=by
  intro g
  induction g with
  | zero=>intro z A q e d a hp; cases hp
  | succ g ba=>
   intro z A q e d a hp;refine ca _ _ _ ?_;rw[zsE] at hp;refine⟨trivial,_,a.bk.rc rfl,ha100.isSl,?_⟩
   try rw[ha100.slLen]
   refine ifd hp (fun B hp=>?_) fun B hp=>?_; rotate_left
   ·obtain rfl:=oi hp;exact hq _ d.ext'
   refine⟨trivial,_,a.bk.rc rfl,?_⟩;obtain⟨fa,h,hp⟩:=zqp hp;obtain⟨n7,r,j,h⟩:=zqj h;obtain⟨_,n⟩:=zsb ha100 h;refine⟨n7,r,(by first|exact j|(rw[ha100.slLen];exact j)),(ha100.isPt h _),_,((n _ d.sub).2.1 2 _ rfl),trivial,_,a.bk.rc rfl,?_⟩;obtain⟨D,i,hp⟩:=zqp hp;obtain⟨da,t,l,i⟩:=zqj i;obtain⟨_,F⟩:=zsb ha100 i;refine⟨da,t,(by first|exact l|(rw[ha100.slLen];exact l)),_,_,_,(F _ d.sub).1,?_⟩;obtain⟨ga,G,hp⟩:=zqp hp;refine zvq (m_:=D) d.pre  G fun la I=>?_;obtain⟨o,J⟩:=d.call I e;have p:=a.k J;refine⟨_,rfl,((n _ o.sub).2.1 2 _ rfl),(by rw[show cmC _=true from zoU (ha100.noFn)]; exact(p.bk.rc rfl)),?_⟩;refine gdi hp fun N hp=>?_;refine gdi hp fun O hp=>?_;refine gdi hp fun P hp=>?_;refine gdi hp fun S hp=>?_;refine gdi hp fun T hp=>?_;refine gdi hp fun Y hp=>?_;refine gdi hp fun Z hp=>?_;refine gdi hp fun aa hp=>?_;exact ba _ _ _ e o p hp
 exact hgo _ _ _ _ w y a hp
theorem zvw{s:Soc}{ca100 ca101:C}{m f:M}{Q:V->M->Prop}{rz:Int}(hS:Pre f m)(ha100:Sl f ca100 s.Members)(ha101:Sl f ca101 s.Losses)(hp:zsH s=some rz)(hq:∀m',Ext m m'->Q (.c (Il rz)) m'):Wc prog tbl 46 [.agg 5 [ca100,ca101,Il s.Treaty.Lo,Il s.Treaty.Hi,Il s.Reserve]] m Q:=by
 have S:=hS.st;obtain⟨T,_⟩:=zr7;refine w46 ?_;unfold zsH at hp;intro m0 o;obtain⟨p,q,N,a⟩:=S.blk o T 1;intro Y J
 have hgo:∀(e:Nat) (G:Int) (l:Int) (n:M) (d:Nat->Nat),St (Fm.of m) f f n->Lb (Fm.of m) f d n 1 m.nxt 5 [ca100,ca101,Il s.Treaty.Lo,Il s.Treaty.Hi,Il s.Reserve]->zsG s e l=some rz->Y [.c (Il G),.c (Il l)] n:=by
  intro e
  induction e with
  | zero=>intro G l n d g a hp; cases hp
  | succ e I=>
   intro G l n d g a hp;refine J _ _ _ ?_;rw[zsG] at hp;refine ifd hp (fun r hp=>?_) fun r hp=>?_; rotate_left
   ·obtain rfl:=oi hp;exact hq _ g.ext'
   refine⟨_,_,_,_,_,a.bk.ra,?_⟩;obtain⟨O,t,hp⟩:=zqp hp;refine zvv (s:=s) (rate:=l) g.pre ha100 ha101 t fun Z u=>?_;obtain⟨h,w⟩:=g.call u d;have i:=a.k w;refine⟨_,rfl,_,_,_,_,_,i.bk.ra,(by rw[show zaL cmC _=true from zoV (zqt ha100.noFn (zqt ha101.noFn (zqt rfl (zqt rfl (zqt rfl zqu)))))]; exact(a.bk.ra)),?_⟩;obtain⟨P,y,hp⟩:=zqp hp;refine zvp (s:=s) h.pre ha100 ha101 y fun aa z=>?_;obtain⟨j,A⟩:=h.call z d;have B:=i.k A;refine⟨_,_,rfl,?_⟩;refine ifd hp (fun D hp=>?_) fun D hp=>?_
   ·obtain rfl:=oi hp;exact hq _ j.ext'
   refine gdi hp fun F hp=>?_;exact I _ _ _ d j B hp
 exact hgo _ _ _ _ p q a hp
theorem zvx{bits:Int}{m f:M}{Q:V->M->Prop}{rz:List Int}(hS:Pre f m)(hp:zsJ bits=some rz)(hq:∀m' f' c0,Grw m f m' f'->Sl f' c0 rz->Q (.c c0) m'):Wc prog tbl 53 [.c (Il bits)] m Q:=by
 have S0:=hS.st;obtain⟨τ0,_⟩:=zr7;refine w53 ?_;unfold zsJ at hp;intro R0 da
 have hgo:∀(d:Nat) (l:C) (j:Int) (e:List Int) (n:M) (g:Nat->Nat),St (Fm.of m) f f n->Ow (Fm.of m) f g n 1 l e->zsI bits d e j=some rz->R0 [.c l,.c (Il j)] n:=by
  intro d
  induction d with
  | zero=>intro l j e n g h i hp; cases hp
  | succ d o=>
   intro l j e n g h i hp;refine da _ _ _ ?_;rw[zsI] at hp;refine gdi hp fun p hp=>?_;refine gdi hp fun q hp=>?_;refine gdi hp fun r hp=>?_;refine gdi hp fun s hp=>?_;refine ifd hp (fun t hp=>?_) fun t hp=>?_; rotate_left
   ·obtain⟨u,w,ea,y⟩:=i.freeze h;obtain rfl:=oi hp;exact hq _ u l w.grw y
   refine gdi hp fun z hp=>?_;refine gdi hp fun A hp=>?_;refine gdi hp fun B hp=>?_;refine gdi hp fun D hp=>?_;refine gdi hp fun F hp=>?_;refine gdi hp fun G hp=>?_;refine gdi hp fun I hp=>?_;refine ifd hp (fun J hp=>?_) fun J hp=>?_; rotate_left
   ·refine gdi hp fun N hp=>?_;exact o _ _ _ _ g h i hp
   obtain⟨O,hp⟩:=zqq hp;intro m4 P;obtain⟨S,T,Y,Z,aa,fa,ba⟩:=i.app' zvj h (a:=j) (show Rp.rep (α:=Int) f _ j from rfl) O P;refine⟨S,T,Z,?_⟩;refine gdi hp fun ca hp=>?_;exact o _ _ _ _ Y aa ba hp
 exact hgo _ _ _ _ _ τ0 S0 (Ow.nil _ _ _ _ _) hp
theorem zvy{a:List Int}{b:List Int}{ca100 ca200:C}{m f:M}{Q:V->M->Prop}{rz:Bool}(hS:Pre f m)(ha100:Sl f ca100 a)(ha200:Sl f ca200 b)(hp:zsL a b=some rz)(hq:∀m',Ext m m'->Q (.c (.bool rz)) m'):Wc prog tbl 73 [.c ca100,.c ca200] m Q:=by
 have T:=hS.st;obtain⟨Y,_⟩:=zr7;refine w73 ?_;unfold zsL at hp;intro Z I
 have hgo:∀(e:Nat) (F:Bool) (w:Int) (y:M) (g:Nat->Nat),St (Fm.of m) f f y->zsK a b e w=some rz->Z [.c (.bool F),.c (Il w)] y:=by
  intro e
  induction e with
  | zero=>intro F w y g d hp; cases hp
  | succ e G=>
   intro F w y g d hp;refine I _ _ _ ?_;rw[zsK] at hp;refine⟨ha100.isSl,?_⟩
   try rw[ha100.slLen]
   refine ifd hp (fun z hp=>?_) fun z hp=>?_; rotate_left
   ·refine⟨ha100.isSl,ha200.isSl,?_⟩
    try rw[ha100.slLen]
    try rw[ha200.slLen]
    obtain rfl:=oi hp;exact hq _ d.ext'
   refine⟨ha200.isSl,?_⟩
   try rw[ha200.slLen]
   refine ifd hp (fun A hp=>?_) fun A hp=>?_; rotate_left
   ·refine⟨ha100.isSl,ha200.isSl,?_⟩
    try rw[ha100.slLen]
    try rw[ha200.slLen]
    obtain rfl:=oi hp;exact hq _ d.ext'
   obtain⟨N,h,hp⟩:=zqp hp;obtain⟨n4,r,n,h⟩:=zqj h;refine⟨n4,r,(by first|exact n|(rw[ha100.slLen];exact n)),_,(ha100.rdI h d.sub),?_⟩;obtain⟨O,i,hp⟩:=zqp hp;obtain⟨n6,s,o,i⟩:=zqj i;refine⟨n6,s,(by first|exact o|(rw[ha200.slLen];exact o)),_,(ha200.rdI i d.sub),?_⟩;refine zq0 hp (fun B hp=>?_) fun B hp=>?_; rotate_left
   ·refine gdi hp fun D hp=>?_;exact G _ _ _ g d hp
   obtain⟨P,j,hp⟩:=zqp hp;obtain⟨n8,t,p,j⟩:=zqj j;refine⟨n8,t,(by first|exact p|(rw[ha100.slLen];exact p)),_,(ha100.rdI j d.sub),?_⟩;obtain⟨S,l,hp⟩:=zqp hp;obtain⟨J,u,q,l⟩:=zqj l;refine⟨J,u,(by first|exact q|(rw[ha200.slLen];exact q)),_,(ha200.rdI l d.sub),?_⟩;obtain rfl:=oi hp;exact hq _ d.ext'
 exact hgo _ _ _ _ Y T hp
theorem zvz{a:List Int}{b:List Int}{ca100 ca200:C}{m f:M}{Q:V->M->Prop}{rz:Bool}(hS:Pre f m)(ha100:Sl f ca100 a)(ha200:Sl f ca200 b)(hp:zsM a b=some rz)(hq:∀m',Ext m m'->Q (.c (.bool rz)) m'):Wc prog tbl 58 [.c ca100,.c ca200] m Q:=by
 have d:=hS.st;obtain⟨o,_⟩:=zr7;refine w58 ?_;unfold zsM at hp;refine⟨ha100.isSl,ha200.isSl,?_⟩
 try rw[ha100.slLen]
 try rw[ha200.slLen]
 refine ifd hp (fun e hp=>?_) fun e hp=>?_
 ·obtain rfl:=oi hp;exact hq _ d.ext'
 refine⟨ha100.isSl,ha200.isSl,?_⟩
 try rw[ha100.slLen]
 try rw[ha200.slLen]
 refine ifd hp (fun g hp=>?_) fun g hp=>?_; rotate_left
 ·obtain rfl:=oi hp;exact hq _ d.ext'
 obtain⟨l,h,hp⟩:=zqp hp;refine zvy (a:=a) (b:=b) d.pre ha100 ha200 h fun p i=>?_;obtain⟨j,n⟩:=d.call i o;refine⟨_,rfl,?_⟩;obtain rfl:=oi hp;exact hq _ j.ext'
theorem zvA{s:Soc}{ca100 ca101:C}{m f:M}{Q:V->M->Prop}{rz:List Int × Bool}(hS:Pre f m)(ha100:Sl f ca100 s.Members)(ha101:Sl f ca101 s.Losses)(hp:zsO s=some rz)(hq:∀m' f' c0,Grw m f m' f'->Sl f' c0 rz.1->Q (.tup [.c c0,.c (.bool rz.2)]) m'):Wc prog tbl 47 [.agg 5 [ca100,ca101,Il s.Treaty.Lo,Il s.Treaty.Hi,Il s.Reserve]] m Q:=by
 have S0:=hS.st;obtain⟨τ0,_⟩:=zr7;refine w47 ?_;unfold zsO at hp;intro m0 oa;obtain⟨pa,qa,Hb,n⟩:=S0.blk oa τ0 1;intro R1 Gb
 have hgo:∀(p:Nat) (c2:C) (b3:Bool) (G:Int) (o:List Int) (m5:M) (h:M) (g:Nat->Nat),St (Fm.of m) f h m5->Sub f h->Lb (Fm.of m) h g m5 1 m.nxt 5 [ca100,ca101,Il s.Treaty.Lo,Il s.Treaty.Hi,Il s.Reserve]->Sl h c2 o->zsN s p o b3 G=some rz->R1 [.c c2,.c (.bool b3),.c (Il G)] m5:=by
  intro p
  induction p with
  | zero=>intro c2 b3 G o m5 h g u d n i hp; cases hp
  | succ p t=>
   intro c2 b3 G o m5 h g u d n i hp;refine Gb _ _ _ _ ?_;rw[zsN] at hp;refine⟨_,_,_,_,_,n.bk.ra,?_⟩;obtain⟨Ib,ta,hp⟩:=zqp hp;refine zvt (s:=s) u.pre (ha100.sub d) (ha101.sub d) ta fun Ub ua=>?_;obtain⟨w,va⟩:=u.call ua g;have wa:=n.k va;refine⟨_,rfl,?_⟩;refine ifd hp (fun xa hp=>?_) fun xa hp=>?_; rotate_left
   ·obtain rfl:=oi hp;exact hq _ h c2 w.grw i
   obtain⟨ya,za,hp⟩:=zqp hp;refine zvx (bits:=G) w.pre  za fun Vb Aa Jb Ba y=>?_;obtain⟨z,e⟩:=w.callG Ba g;have I:=wa.k e;refine⟨_,rfl,?_⟩;refine zq1 hp (fun Ca hp=>?_) fun Ca hp=>?_; rotate_left
   ·intro Wb Da;obtain⟨q,J,Ea,ma⟩:=z.growK Da g 3;have A:=I.k Ea;have Fa:=ma 0 (by decide);refine⟨_,_,_,_,_,A.bk.ra,_,_,_,_,_,A.bk.ra,?_⟩;obtain⟨Ga,Ha,hp⟩:=zqp hp;refine zvt (s:=s) J.pre (ha100.sub (Sub.trans d e.fs)) (ha101.sub (Sub.trans d e.fs)) Ha fun Xb Ia=>?_;obtain⟨N,O⟩:=J.call Ia q;have P:=A.k O;have Ja:=Fa.k O;refine⟨_,rfl,(by rw[show zaL cmC _=true from zoV (zqt ha100.noFn (zqt ha101.noFn (zqt rfl (zqt rfl (zqt rfl zqu)))))]; exact(P.bk.ra)),?_⟩;refine gdi hp fun Ka hp=>?_;obtain⟨S,La,hp⟩:=zqp hp;refine zvu (s:=s) (who:=(Ga - G)) N.pre (ha100.sub (Sub.trans d e.fs)) (ha101.sub (Sub.trans d e.fs)) La fun Yb T Kb Ma Nb=>?_;obtain⟨Na,j⟩:=N.callG Ma q;have Oa:=P.k j;have Pa:=Ja.k j;refine⟨_,_,_,rfl,?_⟩;intro Zb Qa;obtain⟨Ra,Sa,Ta⟩:=Pa.set Na Qa;have B:=Oa.k Sa;refine⟨(by rw[show zaL cmC _=true from zoV (zqt ha100.noFn (zqt ha101.noFn (zqt rfl (zqt rfl (zqt rfl zqu)))))]; exact(B.bk.ra)),(by rw[show zaL cmC _=true from zoV (zqt ha100.noFn (zqt ha101.noFn (zqt rfl (zqt rfl (zqt rfl zqu)))))]; exact(B.bk.ra)),?_⟩;obtain⟨Ua,Va,Y,Wa,Xa⟩:=Ta.sto Ra [Il S.2.Lo,Il S.2.Hi];have Z:=B.k Wa;refine⟨Ua,Va,?_⟩;refine⟨trivial,_,Xa.bk.rc rfl,?_⟩;refine ifd hp (fun Ya hp=>?_) fun Ya hp=>?_
    ·refine gdi hp fun Za hp=>?_;exact t _ _ _ _ _ T q Y (Sub.trans (Sub.trans d e.fs) j.fs) Z (y.sub j.fs) hp
    refine gdi hp fun ab hp=>?_;exact t _ _ _ _ _ T q Y (Sub.trans (Sub.trans d e.fs) j.fs) Z (i.sub (Sub.trans e.fs j.fs)) hp
   obtain⟨Ob,bb,hp⟩:=zqp hp;refine zvz (a:=ya) (b:=o) z.pre y (i.sub e.fs) bb fun ac cb=>?_;obtain⟨aa,db⟩:=z.call cb g;have ba:=I.k db;refine⟨_,rfl,?_⟩;refine zq2 hp (fun eb hp=>?_) fun eb hp=>?_
   ·refine gdi hp fun fb hp=>?_;exact t _ _ _ _ _ Aa g aa (Sub.trans d e.fs) ba (i.sub e.fs) hp
   intro bc gb;obtain⟨r,ca,hb,na⟩:=aa.growK gb g 2;have D:=ba.k hb;have ib:=na 0 (by decide);refine⟨_,_,_,_,_,D.bk.ra,_,_,_,_,_,D.bk.ra,?_⟩;obtain⟨jb,kb,hp⟩:=zqp hp;refine zvt (s:=s) ca.pre (ha100.sub (Sub.trans d e.fs)) (ha101.sub (Sub.trans d e.fs)) kb fun cc mb=>?_;obtain⟨da,ea⟩:=ca.call mb r;have fa:=D.k ea;have ob:=ib.k ea;refine⟨_,rfl,(by rw[show zaL cmC _=true from zoV (zqt ha100.noFn (zqt ha101.noFn (zqt rfl (zqt rfl (zqt rfl zqu)))))]; exact(fa.bk.ra)),?_⟩;refine gdi hp fun pb hp=>?_;obtain⟨ga,qb,hp⟩:=zqp hp;refine zvu (s:=s) (who:=(jb - G)) da.pre (ha100.sub (Sub.trans d e.fs)) (ha101.sub (Sub.trans d e.fs)) qb fun dc ha Pb rb Qb=>?_;obtain⟨sb,l⟩:=da.callG rb r;have tb:=fa.k l;have ub:=ob.k l;refine⟨_,_,_,rfl,?_⟩;intro ec vb;obtain⟨wb,xb,yb⟩:=ub.set sb vb;have F:=tb.k xb;refine⟨(by rw[show zaL cmC _=true from zoV (zqt ha100.noFn (zqt ha101.noFn (zqt rfl (zqt rfl (zqt rfl zqu)))))]; exact(F.bk.ra)),(by rw[show zaL cmC _=true from zoV (zqt ha100.noFn (zqt ha101.noFn (zqt rfl (zqt rfl (zqt rfl zqu)))))]; exact(F.bk.ra)),?_⟩;obtain⟨zb,Ab,ia,Bb,Cb⟩:=yb.sto wb [Il ga.2.Lo,Il ga.2.Hi];have ja:=F.k Bb;refine⟨zb,Ab,?_⟩;refine⟨trivial,_,Cb.bk.rc rfl,?_⟩;refine ifd hp (fun Db hp=>?_) fun Db hp=>?_
   ·refine gdi hp fun Eb hp=>?_;exact t _ _ _ _ _ ha r ia (Sub.trans (Sub.trans d e.fs) l.fs) ja (y.sub l.fs) hp
   refine gdi hp fun Fb hp=>?_;exact t _ _ _ _ _ ha r ia (Sub.trans (Sub.trans d e.fs) l.fs) ja (i.sub (Sub.trans e.fs l.fs)) hp
 exact hgo _ _ _ _ _ _ f pa qa (Sub.refl _) n (Sl.nil _) hp
theorem zvB{a:List Int}{b:List Int}{ca100 ca200:C}{m f:M}{Q:V->M->Prop}{rz:Bool}(hS:Pre f m)(ha100:Sl f ca100 a)(ha200:Sl f ca200 b)(hp:zsP a b=some rz)(hq:∀m',Ext m m'->Q (.c (.bool rz)) m'):Wc prog tbl 36 [.c ca100,.c ca200] m Q:=by
 have o:=hS.st;obtain⟨p,_⟩:=zr7;refine w36 ?_;unfold zsP at hp;refine⟨ha100.isSl,ha200.isSl,?_⟩
 try rw[ha100.slLen]
 try rw[ha200.slLen]
 refine ifd hp (fun e hp=>?_) fun e hp=>?_; rotate_left
 ·obtain rfl:=oi hp;exact hq _ o.ext'
 obtain⟨q,g,hp⟩:=zqp hp;refine zvy (a:=a) (b:=b) o.pre ha100 ha200 g fun u h=>?_;obtain⟨d,r⟩:=o.call h p;refine⟨_,rfl,?_⟩;refine zq2 hp (fun i hp=>?_) fun i hp=>?_; rotate_left
 ·obtain rfl:=oi hp;exact hq _ d.ext'
 obtain⟨s,j,hp⟩:=zqp hp;refine zvy (a:=b) (b:=a) d.pre ha200 ha100 j fun w l=>?_;obtain⟨n,t⟩:=d.call l p;refine⟨_,rfl,?_⟩;obtain rfl:=oi hp;exact hq _ n.ext'
theorem zvC{r:Rg}{n:Int}{m f:M}{Q:V->M->Prop}{rz:Bool}(hS:Pre f m)(hp:zsQ r n=some rz)(hq:∀m',Ext m m'->Q (.c (.bool rz)) m'):Wc prog tbl 67 [.agg 2 [Il r.Lo,Il r.Hi],.c (Il n)] m Q:=by
 have j:=hS.st;obtain⟨l,_⟩:=zr7;refine w67 ?_;unfold zsQ at hp;intro o e;obtain⟨h,a,i,d⟩:=j.blk e l 1;refine⟨trivial,_,d.bk.rc rfl,?_⟩;refine ifd hp (fun g hp=>?_) fun g hp=>?_; rotate_left
 ·obtain rfl:=oi hp;exact hq _ a.ext'
 refine⟨trivial,_,d.bk.rc rfl,?_⟩;obtain rfl:=oi hp;exact hq _ a.ext'
theorem zvD{n:Int}{m f:M}{Q:V->M->Prop}{rz:Bool}(hS:Pre f m)(hp:zsR n=some rz)(hq:∀m',Ext m m'->Q (.c (.bool rz)) m'):Wc prog tbl 91 [.c (Il n)] m Q:=by
 have g:=hS.st;obtain⟨j,_⟩:=zr7;refine w91 ?_;unfold zsR at hp;obtain⟨h,a,hp⟩:=zqp hp;refine zvC (r:=({ Lo:=(0:Int),Hi:=(100000:Int) }:Rg)) (n:=n) g.pre  a fun l d=>?_;obtain⟨e,i⟩:=g.call d j;refine⟨_,rfl,?_⟩;obtain rfl:=oi hp;exact hq _ e.ext'
theorem zvE{r:Rg}{m f:M}{Q:V->M->Prop}{rz:Bool}(hS:Pre f m)(hp:zsS r=some rz)(hq:∀m',Ext m m'->Q (.c (.bool rz)) m'):Wc prog tbl 90 [.agg 2 [Il r.Lo,Il r.Hi]] m Q:=by
 have G:=hS.st;obtain⟨I,_⟩:=zr7;refine w90 ?_;unfold zsS at hp;intro J l;obtain⟨g,h,B,i⟩:=G.blk l I 1;refine⟨trivial,_,i.bk.rc rfl,?_⟩;obtain⟨D,o,hp⟩:=zqp hp;refine zvD (n:=r.Lo) h.pre  o fun N p=>?_;obtain⟨d,q⟩:=h.call p g;have j:=i.k q;refine⟨_,rfl,?_⟩;refine zq1 hp (fun s hp=>?_) fun s hp=>?_; rotate_left
 ·obtain rfl:=oi hp;exact hq _ d.ext'
 refine⟨trivial,_,j.bk.rc rfl,?_⟩;obtain⟨F,t,hp⟩:=zqp hp;refine zvD (n:=r.Hi) d.pre  t fun O u=>?_;obtain⟨e,w⟩:=d.call u g;have a:=j.k w;refine⟨_,rfl,?_⟩;refine zq1 hp (fun y hp=>?_) fun y hp=>?_; rotate_left
 ·obtain rfl:=oi hp;exact hq _ e.ext'
 refine⟨trivial,_,a.bk.rc rfl,trivial,_,a.bk.rc rfl,?_⟩;refine ifd hp (fun z hp=>?_) fun z hp=>?_; rotate_left
 ·obtain rfl:=oi hp;exact hq _ e.ext'
 refine⟨trivial,_,a.bk.rc rfl,trivial,_,a.bk.rc rfl,?_⟩;refine gdi hp fun A hp=>?_;obtain rfl:=oi hp;exact hq _ e.ext'
theorem zvF{l:Lm}{m_:Mb}{m f:M}{Q:V->M->Prop}{rz:Bool}(hS:Pre f m)(hp:zsT l m_=some rz)(hq:∀m',Ext m m'->Q (.c (.bool rz)) m'):Wc prog tbl 88 [.agg 6 [Il l.su.Lo,Il l.su.Hi,Il l.cl.Lo,Il l.cl.Hi,Il l.mo.Lo,Il l.mo.Hi],.agg 3 [Il m_.Sum,Il m_.Class,Il m_.Most]] m Q:=by
 have S0:=hS.st;obtain⟨τ0,_⟩:=zr7;refine w88 ?_;unfold zsT at hp;intro m0 t;obtain⟨u,w,Y,y⟩:=S0.blk t τ0 1;intro m1 z;obtain⟨a,g,A,h⟩:=w.blk z u 2;have i:=y.k A;refine⟨trivial,_,_,i.bk.rp (k:=0) (j:=2) rfl (by omega),trivial,_,h.bk.rc rfl,?_⟩;obtain⟨Z,B,hp⟩:=zqp hp;refine zvC (r:=l.su) (n:=m_.Sum) g.pre  B fun m6 D=>?_;obtain⟨d,o⟩:=g.call D a;have p:=i.k o;have q:=h.k o;refine⟨_,rfl,?_⟩;refine zq1 hp (fun F hp=>?_) fun F hp=>?_; rotate_left
 ·obtain rfl:=oi hp;exact hq _ d.ext'
 refine⟨trivial,_,_,p.bk.rp (k:=2) (j:=2) rfl (by omega),trivial,_,q.bk.rc rfl,?_⟩;obtain⟨aa,G,hp⟩:=zqp hp;refine zvC (r:=l.cl) (n:=m_.Class) d.pre  G fun fa I=>?_;obtain⟨e,s⟩:=d.call I a;have J:=p.k s;have N:=q.k s;refine⟨_,rfl,?_⟩;refine zq1 hp (fun O hp=>?_) fun O hp=>?_; rotate_left
 ·obtain rfl:=oi hp;exact hq _ e.ext'
 refine⟨trivial,_,_,J.bk.rp (k:=4) (j:=2) rfl (by omega),trivial,_,N.bk.rc rfl,?_⟩;obtain⟨ba,P,hp⟩:=zqp hp;refine zvC (r:=l.mo) (n:=m_.Most) e.pre  P fun ga S=>?_;obtain⟨T,ca⟩:=e.call S a;refine⟨_,rfl,?_⟩;obtain rfl:=oi hp;exact hq _ T.ext'
theorem zvG{x:Mb}{passes:Mb->Option (Bool)}{b0:Nat}{cb000:C}{m f:M}{Q:V->M->Prop}{rz:Bool}(hS:Pre f m)(hb0:Bk f b0 1 [cb000])(hb000:zvb f cb000 passes)(hp:zsU x passes=some rz)(hq:∀m',Ext m m'->Q (.c (.bool rz)) m'):Wc prog tbl 108 [.agg 3 [Il x.Sum,Il x.Class,Il x.Most],.c (.ptr b0 0)] m Q:=by
 have p:=hS.st;obtain⟨q,_⟩:=zr7;refine zur ?_;unfold zsU at hp;intro r d;obtain⟨e,a,l,g⟩:=p.blk d q 1;refine⟨_,(hb0.sub a.sub).rc rfl,_,_,_,g.bk.ra,?_⟩;obtain⟨n,h,hp⟩:=zqp hp;refine hb000 _ _ _ _ _ (Sub.refl _) a.pre  h fun s i=>?_;obtain⟨j,o⟩:=a.call i e;refine⟨_,rfl,?_⟩;obtain rfl:=oi hp;exact hq _ j.ext'
theorem zvH{l:List Mb}{p:Mb->Option (Bool)}{ca100 ca200:C}{m f:M}{Q:V->M->Prop}{rz:Int}(hS:Pre f m)(ha100:Sl f ca100 l)(ha200:zvb f ca200 p)(hp:zsW l p=some rz)(hq:∀m',Ext m m'->Q (.c (Il rz)) m'):Wc prog tbl 121 [.c ca100,.c ca200] m Q:=by
 have G:=hS.st;obtain⟨I,_⟩:=zr7;refine zuM ?_;unfold zsW at hp;refine⟨ha100.isSl,?_⟩;intro J A
 have hgo:∀(d:Nat) (y:Int) (n:Int) (o:M) (e:Nat->Nat),St (Fm.of m) f f o->zsV l p d n=some rz->J [.c (Il y),.c (Il n)] o:=by
  intro d
  induction d with
  | zero=>intro y n o e a hp; cases hp
  | succ d z=>
   intro y n o e a hp;refine A _ _ _ ?_;rw[zsV] at hp
   try rw[ha100.slLen]
   refine ifd hp (fun q hp=>?_) fun q hp=>?_; rotate_left
   ·obtain rfl:=oi hp;exact hq _ a.ext'
   obtain⟨B,g,hp⟩:=zqp hp;obtain⟨N,j,h,g⟩:=zqj g;obtain⟨_,r⟩:=zsb ha100 g;refine⟨N,j,(by first|exact h|(rw[ha100.slLen];exact h)),_,_,_,(r _ a.sub).1,?_⟩;obtain⟨D,s,hp⟩:=zqp hp;refine ha200 _ _ _ _ _ (Sub.refl _) a.pre  s fun O t=>?_;obtain⟨i,F⟩:=a.call t e;refine⟨_,rfl,?_⟩;refine zq1 hp (fun u hp=>?_) fun u hp=>?_
   ·obtain rfl:=oi hp;exact hq _ i.ext'
   refine gdi hp fun w hp=>?_;exact z _ _ _ e i hp
 exact hgo _ _ _ _ I G hp
theorem zvI{l:List Mb}{p:Mb->Option (Bool)}{ca100 ca200:C}{m f:M}{Q:V->M->Prop}{rz:Bool}(hS:Pre f m)(ha100:Sl f ca100 l)(ha200:zvb f ca200 p)(hp:zsX l p=some rz)(hq:∀m',Ext m m'->Q (.c (.bool rz)) m'):Wc prog tbl 107 [.c ca100,.c ca200] m Q:=by
 have g:=hS.st;obtain⟨j,_⟩:=zr7;refine zuG ?_;unfold zsX at hp;obtain⟨h,a,hp⟩:=zqp hp;refine zvH (l:=l) (p:=p) g.pre ha100 ha200 a fun n d=>?_;obtain⟨e,i⟩:=g.call d j;refine⟨_,rfl,?_⟩;obtain rfl:=oi hp;exact hq _ e.ext'
theorem zvJ{l:List Mb}{passes:Mb->Option (Bool)}{ca100 ca200:C}{m f:M}{Q:V->M->Prop}{rz:Bool}(hS:Pre f m)(ha100:Sl f ca100 l)(ha200:zvb f ca200 passes)(hp:zsY l passes=some rz)(hq:∀m',Ext m m'->Q (.c (.bool rz)) m'):Wc prog tbl 87 [.c ca100,.c ca200] m Q:=by
 have A:=hS.st;obtain⟨B,_⟩:=zr7;refine w87 ?_;unfold zsY at hp;intro D i;obtain⟨j,n,w,o⟩:=A.blk i B 1;obtain⟨q,d,e,g⟩:=o.freeze n
 have h:zvb q ((C.fn (Fn.func 108) [] [(W.c (C0.ptr m.nxt 0))])) (fun a=>zsU a passes):=by
  intro f' m' a r Q hs hpre  hg hq;exact zvG hpre (g.sub hs) ((ha200.sub e.fs).sub hs) hg hq
 obtain⟨y,s,hp⟩:=zqp hp;refine zvI (l:=l) (p:=(fun a=>zsU a passes)) d.pre (ha100.sub e.fs) h s fun F t=>?_;obtain⟨u,z⟩:=d.call t j;refine⟨_,rfl,?_⟩;obtain rfl:=oi hp;exact hq _ u.ext'
theorem zvK{x:Rg}{passes:Rg->Option (Bool)}{b0:Nat}{cb000:C}{m f:M}{Q:V->M->Prop}{rz:Bool}(hS:Pre f m)(hb0:Bk f b0 1 [cb000])(hb000:zvc f cb000 passes)(hp:zsZ x passes=some rz)(hq:∀m',Ext m m'->Q (.c (.bool rz)) m'):Wc prog tbl 110 [.agg 2 [Il x.Lo,Il x.Hi],.c (.ptr b0 0)] m Q:=by
 have p:=hS.st;obtain⟨q,_⟩:=zr7;refine zus ?_;unfold zsZ at hp;intro r d;obtain⟨e,a,l,g⟩:=p.blk d q 1;refine⟨_,(hb0.sub a.sub).rc rfl,_,_,g.bk.ra,?_⟩;obtain⟨n,h,hp⟩:=zqp hp;refine hb000 _ _ _ _ _ (Sub.refl _) a.pre  h fun s i=>?_;obtain⟨j,o⟩:=a.call i e;refine⟨_,rfl,?_⟩;obtain rfl:=oi hp;exact hq _ j.ext'
theorem zvL{l:List Rg}{p:Rg->Option (Bool)}{ca100 ca200:C}{m f:M}{Q:V->M->Prop}{rz:Int}(hS:Pre f m)(ha100:Sl f ca100 l)(ha200:zvc f ca200 p)(hp:zs1 l p=some rz)(hq:∀m',Ext m m'->Q (.c (Il rz)) m'):Wc prog tbl 122 [.c ca100,.c ca200] m Q:=by
 have G:=hS.st;obtain⟨I,_⟩:=zr7;refine zuz ?_;unfold zs1 at hp;refine⟨ha100.isSl,?_⟩;intro J A
 have hgo:∀(d:Nat) (y:Int) (n:Int) (o:M) (e:Nat->Nat),St (Fm.of m) f f o->zs0 l p d n=some rz->J [.c (Il y),.c (Il n)] o:=by
  intro d
  induction d with
  | zero=>intro y n o e a hp; cases hp
  | succ d z=>
   intro y n o e a hp;refine A _ _ _ ?_;rw[zs0] at hp
   try rw[ha100.slLen]
   refine ifd hp (fun q hp=>?_) fun q hp=>?_; rotate_left
   ·obtain rfl:=oi hp;exact hq _ a.ext'
   obtain⟨B,g,hp⟩:=zqp hp;obtain⟨N,j,h,g⟩:=zqj g;obtain⟨_,r⟩:=zr9 ha100 g;refine⟨N,j,(by first|exact h|(rw[ha100.slLen];exact h)),_,_,(r _ a.sub).1,?_⟩;obtain⟨D,s,hp⟩:=zqp hp;refine ha200 _ _ _ _ _ (Sub.refl _) a.pre  s fun O t=>?_;obtain⟨i,F⟩:=a.call t e;refine⟨_,rfl,?_⟩;refine zq1 hp (fun u hp=>?_) fun u hp=>?_
   ·obtain rfl:=oi hp;exact hq _ i.ext'
   refine gdi hp fun w hp=>?_;exact z _ _ _ e i hp
 exact hgo _ _ _ _ I G hp
theorem zvM{l:List Rg}{p:Rg->Option (Bool)}{ca100 ca200:C}{m f:M}{Q:V->M->Prop}{rz:Bool}(hS:Pre f m)(ha100:Sl f ca100 l)(ha200:zvc f ca200 p)(hp:zs2 l p=some rz)(hq:∀m',Ext m m'->Q (.c (.bool rz)) m'):Wc prog tbl 109 [.c ca100,.c ca200] m Q:=by
 have g:=hS.st;obtain⟨j,_⟩:=zr7;refine zuK ?_;unfold zs2 at hp;obtain⟨h,a,hp⟩:=zqp hp;refine zvL (l:=l) (p:=p) g.pre ha100 ha200 a fun n d=>?_;obtain⟨e,i⟩:=g.call d j;refine⟨_,rfl,?_⟩;obtain rfl:=oi hp;exact hq _ e.ext'
theorem zvN{l:List Rg}{passes:Rg->Option (Bool)}{ca100 ca200:C}{m f:M}{Q:V->M->Prop}{rz:Bool}(hS:Pre f m)(ha100:Sl f ca100 l)(ha200:zvc f ca200 passes)(hp:zs3 l passes=some rz)(hq:∀m',Ext m m'->Q (.c (.bool rz)) m'):Wc prog tbl 89 [.c ca100,.c ca200] m Q:=by
 have A:=hS.st;obtain⟨B,_⟩:=zr7;refine w89 ?_;unfold zs3 at hp;intro D i;obtain⟨j,n,w,o⟩:=A.blk i B 1;obtain⟨q,d,e,g⟩:=o.freeze n
 have h:zvc q ((C.fn (Fn.func 110) [] [(W.c (C0.ptr m.nxt 0))])) (fun a=>zsZ a passes):=by
  intro f' m' a r Q hs hpre  hg hq;exact zvK hpre (g.sub hs) ((ha200.sub e.fs).sub hs) hg hq
 obtain⟨y,s,hp⟩:=zqp hp;refine zvM (l:=l) (p:=(fun a=>zsZ a passes)) d.pre (ha100.sub e.fs) h s fun F t=>?_;obtain⟨u,z⟩:=d.call t j;refine⟨_,rfl,?_⟩;obtain rfl:=oi hp;exact hq _ u.ext'
theorem zvO{x:Int}{passes:Int->Option (Bool)}{b0:Nat}{cb000:C}{m f:M}{Q:V->M->Prop}{rz:Bool}(hS:Pre f m)(hb0:Bk f b0 1 [cb000])(hb000:zvd f cb000 passes)(hp:zs4 x passes=some rz)(hq:∀m',Ext m m'->Q (.c (.bool rz)) m'):Wc prog tbl 119 [.c (Il x),.c (.ptr b0 0)] m Q:=by
 have g:=hS.st;obtain⟨j,_⟩:=zr7;refine zut ?_;unfold zs4 at hp;refine⟨_,(hb0.sub g.sub).rc rfl,?_⟩;obtain⟨h,a,hp⟩:=zqp hp;refine hb000 _ _ _ _ _ (Sub.refl _) g.pre  a fun l d=>?_;obtain⟨e,i⟩:=g.call d j;refine⟨_,rfl,?_⟩;obtain rfl:=oi hp;exact hq _ e.ext'
theorem zvP{l:List Int}{p:Int->Option (Bool)}{ca100 ca200:C}{m f:M}{Q:V->M->Prop}{rz:Int}(hS:Pre f m)(ha100:Sl f ca100 l)(ha200:zvd f ca200 p)(hp:zs6 l p=some rz)(hq:∀m',Ext m m'->Q (.c (Il rz)) m'):Wc prog tbl 123 [.c ca100,.c ca200] m Q:=by
 have F:=hS.st;obtain⟨G,_⟩:=zr7;refine zuE ?_;unfold zs6 at hp;refine⟨ha100.isSl,?_⟩;intro I z
 have hgo:∀(d:Nat) (w:Int) (n:Int) (o:M) (e:Nat->Nat),St (Fm.of m) f f o->zs5 l p d n=some rz->I [.c (Il w),.c (Il n)] o:=by
  intro d
  induction d with
  | zero=>intro w n o e a hp; cases hp
  | succ d y=>
   intro w n o e a hp;refine z _ _ _ ?_;rw[zs5] at hp
   try rw[ha100.slLen]
   refine ifd hp (fun q hp=>?_) fun q hp=>?_; rotate_left
   ·obtain rfl:=oi hp;exact hq _ a.ext'
   obtain⟨A,g,hp⟩:=zqp hp;obtain⟨J,j,h,g⟩:=zqj g;refine⟨J,j,(by first|exact h|(rw[ha100.slLen];exact h)),_,(ha100.rdI g a.sub),?_⟩;obtain⟨B,r,hp⟩:=zqp hp;refine ha200 _ _ _ _ _ (Sub.refl _) a.pre  r fun N s=>?_;obtain⟨i,D⟩:=a.call s e;refine⟨_,rfl,?_⟩;refine zq1 hp (fun t hp=>?_) fun t hp=>?_
   ·obtain rfl:=oi hp;exact hq _ i.ext'
   refine gdi hp fun u hp=>?_;exact y _ _ _ e i hp
 exact hgo _ _ _ _ G F hp
theorem zvQ{l:List Int}{p:Int->Option (Bool)}{ca100 ca200:C}{m f:M}{Q:V->M->Prop}{rz:Bool}(hS:Pre f m)(ha100:Sl f ca100 l)(ha200:zvd f ca200 p)(hp:zs7 l p=some rz)(hq:∀m',Ext m m'->Q (.c (.bool rz)) m'):Wc prog tbl 118 [.c ca100,.c ca200] m Q:=by
 have g:=hS.st;obtain⟨j,_⟩:=zr7;refine zuD ?_;unfold zs7 at hp;obtain⟨h,a,hp⟩:=zqp hp;refine zvP (l:=l) (p:=p) g.pre ha100 ha200 a fun n d=>?_;obtain⟨e,i⟩:=g.call d j;refine⟨_,rfl,?_⟩;obtain rfl:=oi hp;exact hq _ e.ext'
theorem zvR{l:List Int}{passes:Int->Option (Bool)}{ca100 ca200:C}{m f:M}{Q:V->M->Prop}{rz:Bool}(hS:Pre f m)(ha100:Sl f ca100 l)(ha200:zvd f ca200 passes)(hp:zs8 l passes=some rz)(hq:∀m',Ext m m'->Q (.c (.bool rz)) m'):Wc prog tbl 103 [.c ca100,.c ca200] m Q:=by
 have A:=hS.st;obtain⟨B,_⟩:=zr7;refine zuJ ?_;unfold zs8 at hp;intro D i;obtain⟨j,n,w,o⟩:=A.blk i B 1;obtain⟨q,d,e,g⟩:=o.freeze n
 have h:zvd q ((C.fn (Fn.func 119) [] [(W.c (C0.ptr m.nxt 0))])) (fun a=>zs4 a passes):=by
  intro f' m' a r Q hs hpre  hg hq;exact zvO hpre (g.sub hs) ((ha200.sub e.fs).sub hs) hg hq
 obtain⟨y,s,hp⟩:=zqp hp;refine zvQ (l:=l) (p:=(fun a=>zs4 a passes)) d.pre (ha100.sub e.fs) h s fun F t=>?_;obtain⟨u,z⟩:=d.call t j;refine⟨_,rfl,?_⟩;obtain rfl:=oi hp;exact hq _ u.ext'
theorem zvS{l:List Int}{ca100:C}{m f:M}{Q:V->M->Prop}{rz:Bool}(hS:Pre f m)(ha100:Sl f ca100 l)(hp:zta l=some rz)(hq:∀m',Ext m m'->Q (.c (.bool rz)) m'):Wc prog tbl 102 [.c ca100] m Q:=by
 have D:=hS.st;obtain⟨F,_⟩:=zr7;refine zuF ?_;unfold zta at hp;intro G z
 have hgo:∀(d:Nat) (w:Bool) (p:Int) (q:M) (e:Nat->Nat),St (Fm.of m) f f q->zs9 l d p=some rz->G [.c (.bool w),.c (Il p)] q:=by
  intro d
  induction d with
  | zero=>intro w p q e a hp; cases hp
  | succ d y=>
   intro w p q e a hp;refine z _ _ _ ?_;rw[zs9] at hp;refine⟨ha100.isSl,?_⟩
   try rw[ha100.slLen]
   refine ifd hp (fun r hp=>?_) fun r hp=>?_; rotate_left
   ·obtain rfl:=oi hp;exact hq _ a.ext'
   obtain⟨A,g,hp⟩:=zqp hp;obtain⟨I,n,i,g⟩:=zqj g;refine⟨I,n,(by first|exact i|(rw[ha100.slLen];exact i)),_,(ha100.rdI g a.sub),?_⟩;refine gdi hp fun s hp=>?_;obtain⟨B,h,hp⟩:=zqp hp;obtain⟨J,o,j,h⟩:=zqj h;refine⟨J,o,(by first|exact j|(rw[ha100.slLen];exact j)),_,(ha100.rdI h a.sub),?_⟩;refine ifd hp (fun t hp=>?_) fun t hp=>?_
   ·obtain rfl:=oi hp;exact hq _ a.ext'
   refine gdi hp fun u hp=>?_;exact y _ _ _ e a hp
 exact hgo _ _ _ _ F D hp
theorem zvT{s:Soc}{ca100 ca101:C}{m f:M}{Q:V->M->Prop}{rz:Bool}(hS:Pre f m)(ha100:Sl f ca100 s.Members)(ha101:Sl f ca101 s.Losses)(hp:ztb s=some rz)(hq:∀m',Ext m m'->Q (.c (.bool rz)) m'):Wc prog tbl 65 [.agg 5 [ca100,ca101,Il s.Treaty.Lo,Il s.Treaty.Hi,Il s.Reserve]] m Q:=by
 have j:=hS.st;obtain⟨l,_⟩:=zr7;refine w65 ?_;unfold ztb at hp;intro n e;obtain⟨h,a,i,d⟩:=j.blk e l 1;refine⟨trivial,_,d.bk.rc rfl,ha100.isSl,?_⟩
 try rw[ha100.slLen]
 refine ifd hp (fun g hp=>?_) fun g hp=>?_
 ·obtain rfl:=oi hp;exact hq _ a.ext'
 refine⟨trivial,_,d.bk.rc rfl,ha101.isSl,?_⟩
 try rw[ha101.slLen]
 obtain rfl:=oi hp;exact hq _ a.ext'
theorem zvU{s:Soc}{ca100 ca101:C}{m f:M}{Q:V->M->Prop}{rz:Bool}(hS:Pre f m)(ha100:Sl f ca100 s.Members)(ha101:Sl f ca101 s.Losses)(hp:ztc s=some rz)(hq:∀m',Ext m m'->Q (.c (.bool rz)) m'):Wc prog tbl 66 [.agg 5 [ca100,ca101,Il s.Treaty.Lo,Il s.Treaty.Hi,Il s.Reserve]] m Q:=by
 have S0:=hS.st;obtain⟨τ0,_⟩:=zr7;refine w66 ?_;unfold ztc at hp;intro m0 y;obtain⟨z,A,oa,B⟩:=S0.blk y τ0 1;intro m1 D;obtain⟨a,F,G,I⟩:=A.blk D z 2;have J:=B.k G;obtain⟨N,O,g,P,S⟩:=I.sto F [(Il (1:Int)),(Il (1000:Int)),(Il (1:Int)),(Il (10:Int)),Il 0,(Il (100000:Int))];have h:=J.k P;refine⟨N,O,?_⟩;refine⟨trivial,_,h.bk.rc rfl,ha100.isSl,?_⟩
 try rw[ha100.slLen]
 refine ifd hp (fun T hp=>?_) fun T hp=>?_; rotate_left
 ·obtain rfl:=oi hp;exact hq _ g.ext'
 refine⟨trivial,_,h.bk.rc rfl,_,_,_,_,_,_,S.bk.ra,?_⟩
 have u:zvb f ((C.fn (Fn.func 88) [(W.agg 6 [(C0.int IntKind.i64 (1:Int)),(C0.int IntKind.i64 (1000:Int)),(C0.int IntKind.i64 (1:Int)),(C0.int IntKind.i64 (10:Int)),(C0.int IntKind.i64 (0:Int)),(C0.int IntKind.i64 (100000:Int))])] [])) (fun d=>zsT ({ su:=({ Lo:=(1:Int),Hi:=(1000:Int) }:Rg),cl:=({ Lo:=(1:Int),Hi:=(10:Int) }:Rg),mo:=({ Lo:=(0:Int),Hi:=(100000:Int) }:Rg) }:Lm) d):=by
  intro f' m' d r Q hs hpre  hg hq;exact zvF hpre  hg hq
 obtain⟨pa,Y,hp⟩:=zqp hp;refine zvJ (l:=s.Members) (passes:=(fun d=>zsT ({ su:=({ Lo:=(1:Int),Hi:=(1000:Int) }:Rg),cl:=({ Lo:=(1:Int),Hi:=(10:Int) }:Rg),mo:=({ Lo:=(0:Int),Hi:=(100000:Int) }:Rg) }:Lm) d)) g.pre ha100 u Y fun xa Z=>?_;obtain⟨i,aa⟩:=g.call Z a;have q:=h.k aa;refine⟨_,rfl,?_⟩;refine zq1 hp (fun ba hp=>?_) fun ba hp=>?_; rotate_left
 ·obtain rfl:=oi hp;exact hq _ i.ext'
 refine⟨trivial,_,q.bk.rc rfl,?_⟩
 have w:zvc f ((C.fn (Fn.func 90) [] [])) (fun e=>zsS e):=by
  intro f' m' e r Q hs hpre  hg hq;exact zvE hpre  hg hq
 obtain⟨qa,ca,hp⟩:=zqp hp;refine zvN (l:=s.Losses) (passes:=(fun e=>zsS e)) i.pre ha101 w ca fun ya da=>?_;obtain⟨o,ea⟩:=i.call da a;have t:=q.k ea;refine⟨_,rfl,?_⟩;refine zq1 hp (fun fa hp=>?_) fun fa hp=>?_; rotate_left
 ·obtain rfl:=oi hp;exact hq _ o.ext'
 refine⟨trivial,_,_,t.bk.rp (k:=2) (j:=2) rfl (by omega),?_⟩;obtain⟨sa,ga,hp⟩:=zqp hp;refine zvE (r:=s.Treaty) o.pre  ga fun za ha=>?_;obtain⟨p,ia⟩:=o.call ha a;have ja:=t.k ia;refine⟨_,rfl,?_⟩;refine zq1 hp (fun ka hp=>?_) fun ka hp=>?_; rotate_left
 ·obtain rfl:=oi hp;exact hq _ p.ext'
 refine⟨trivial,_,ja.bk.rc rfl,?_⟩;obtain⟨ta,la,hp⟩:=zqp hp;refine zvD (n:=s.Reserve) p.pre  la fun Aa ma=>?_;obtain⟨na,ua⟩:=p.call ma a;refine⟨_,rfl,?_⟩;obtain rfl:=oi hp;exact hq _ na.ext'
theorem zvV{s:Soc}{ca100 ca101:C}{m f:M}{Q:V->M->Prop}{rz:Int}(hS:Pre f m)(ha100:Sl f ca100 s.Members)(ha101:Sl f ca101 s.Losses)(hp:ztd s=some rz)(hq:∀m',Ext m m'->Q (.c (Il rz)) m'):Wc prog tbl 25 [.agg 5 [ca100,ca101,Il s.Treaty.Lo,Il s.Treaty.Hi,Il s.Reserve]] m Q:=by
 have A:=hS.st;obtain⟨B,_⟩:=zr7;refine w25 ?_;unfold ztd at hp;intro F i;obtain⟨d,e,u,g⟩:=A.blk i B 1;refine⟨_,_,_,_,_,g.bk.ra,?_⟩;obtain⟨w,j,hp⟩:=zqp hp;refine zvT (s:=s) e.pre ha100 ha101 j fun G l=>?_;obtain⟨a,n⟩:=e.call l d;have o:=g.k n;refine⟨_,rfl,?_⟩;refine zq1 hp (fun p hp=>?_) fun p hp=>?_
 ·obtain rfl:=oi hp;exact hq _ a.ext'
 refine⟨_,_,_,_,_,o.bk.ra,?_⟩;obtain⟨y,q,hp⟩:=zqp hp;refine zvU (s:=s) a.pre ha100 ha101 q fun D r=>?_;obtain⟨h,z⟩:=a.call r d;refine⟨_,rfl,?_⟩;refine zq2 hp (fun t hp=>?_) fun t hp=>?_
 ·obtain rfl:=oi hp;exact hq _ h.ext'
 obtain rfl:=oi hp;exact hq _ h.ext'
theorem zvW{s:Soc}{n:Int}{ca100 ca101:C}{m f:M}{Q:V->M->Prop}{rz:Bool}(hS:Pre f m)(ha100:Sl f ca100 s.Members)(_ha101:Sl f ca101 s.Losses)(hp:ztg s n=some rz)(hq:∀m',Ext m m'->Q (.c (.bool rz)) m'):Wc prog tbl 104 [.agg 5 [ca100,ca101,Il s.Treaty.Lo,Il s.Treaty.Hi,Il s.Reserve],.c (Il n)] m Q:=by
 have t:=hS.st;obtain⟨u,_⟩:=zr7;refine zuw ?_;unfold ztg at hp;intro w e;obtain⟨g,a,o,h⟩:=t.blk e u 1;refine⟨trivial,_,h.bk.rc rfl,ha100.isSl,?_⟩;obtain⟨d,hp⟩:=zqq hp;refine⟨(by first|exact d|(rw[ha100.slLen];exact d)),?_⟩
 try rw[ha100.slLen]
 obtain⟨p,i,hp⟩:=zqp hp;refine zvC (r:=({ Lo:=(0:Int),Hi:=((s.Members.length:Int) - (1:Int)) }:Rg)) (n:=n) a.pre  i fun y j=>?_;obtain⟨l,q⟩:=a.call j g;refine⟨_,rfl,?_⟩;obtain rfl:=oi hp;exact hq _ l.ext'
theorem zvX{s:Soc}{l:List Int}{ca100 ca101 ca200:C}{m f:M}{Q:V->M->Prop}{rz:Bool}(hS:Pre f m)(ha100:Sl f ca100 s.Members)(ha101:Sl f ca101 s.Losses)(ha200:Sl f ca200 l)(hp:zth s l=some rz)(hq:∀m',Ext m m'->Q (.c (.bool rz)) m'):Wc prog tbl 81 [.agg 5 [ca100,ca101,Il s.Treaty.Lo,Il s.Treaty.Hi,Il s.Reserve],.c ca200] m Q:=by
 have J:=hS.st;obtain⟨N,_⟩:=zr7;refine w81 ?_;unfold zth at hp;intro P i;obtain⟨e,g,D,j⟩:=J.blk i N 1;obtain⟨F,n,hp⟩:=zqp hp;refine zvS (l:=l) g.pre ha200 n fun S o=>?_;obtain⟨d,p⟩:=g.call o e;have q:=j.k p;refine⟨_,rfl,?_⟩;refine zq1 hp (fun t hp=>?_) fun t hp=>?_; rotate_left
 ·obtain rfl:=oi hp;exact hq _ d.ext'
 refine⟨_,_,_,_,_,q.bk.ra,?_⟩;obtain⟨z,A,B⟩:∃ws,zaE vW [.agg 5 [ca100,ca101,Il s.Treaty.Lo,Il s.Treaty.Hi,Il s.Reserve]]=some ws/\zbZ wV ws=[.agg 5 [ca100,ca101,Il s.Treaty.Lo,Il s.Treaty.Hi,Il s.Reserve]]:=(zqz (zqx (zqt ha100.noFn (zqt ha101.noFn (zqt rfl (zqt rfl (zqt rfl zqu)))))) zqy);rw[A,zd6]
 have h:zvd f ((C.fn (Fn.func 104) z [])) (fun a=>ztg s a):=by
  intro f' m' a r Q hs hpre  hg hq
  show Wc prog tbl 104 (appS (zbZ wV z) _) m' Q
  rw[B];exact zvW hpre (ha100.sub hs) (ha101.sub hs) hg hq
 obtain⟨G,u,hp⟩:=zqp hp;refine zvR (l:=l) (passes:=(fun a=>ztg s a)) d.pre ha200 h u fun O w=>?_;obtain⟨y,I⟩:=d.call w e;refine⟨_,rfl,?_⟩;obtain rfl:=oi hp;exact hq _ y.ext'
theorem zvY{l:List Int}{v:Int}{ca100:C}{m f:M}{Q:V->M->Prop}{rz:Int}(hS:Pre f m)(ha100:Sl f ca100 l)(hp:ztj l v=some rz)(hq:∀m',Ext m m'->Q (.c (Il rz)) m'):Wc prog tbl 120 [.c ca100,.c (Il v)] m Q:=by
 have w:=hS.st;obtain⟨y,_⟩:=zr7;refine zuI ?_;unfold ztj at hp;refine⟨ha100.isSl,?_⟩;intro z t
 have hgo:∀(d:Nat) (r:Int) (j:Int) (n:M) (e:Nat->Nat),St (Fm.of m) f f n->zti l v d j=some rz->z [.c (Il r),.c (Il j)] n:=by
  intro d
  induction d with
  | zero=>intro r j n e a hp; cases hp
  | succ d s=>
   intro r j n e a hp;refine t _ _ _ ?_;rw[zti] at hp
   try rw[ha100.slLen]
   refine ifd hp (fun o hp=>?_) fun o hp=>?_; rotate_left
   ·obtain rfl:=oi hp;exact hq _ a.ext'
   obtain⟨u,g,hp⟩:=zqp hp;obtain⟨A,i,h,g⟩:=zqj g;refine⟨A,i,(by first|exact h|(rw[ha100.slLen];exact h)),_,(ha100.rdI g a.sub),?_⟩;refine ifd hp (fun p hp=>?_) fun p hp=>?_
   ·obtain rfl:=oi hp;exact hq _ a.ext'
   refine gdi hp fun q hp=>?_;exact s _ _ _ e a hp
 exact hgo _ _ _ _ y w hp
theorem zvZ{l:List Int}{v:Int}{ca100:C}{m f:M}{Q:V->M->Prop}{rz:Bool}(hS:Pre f m)(ha100:Sl f ca100 l)(hp:ztk l v=some rz)(hq:∀m',Ext m m'->Q (.c (.bool rz)) m'):Wc prog tbl 105 [.c ca100,.c (Il v)] m Q:=by
 have g:=hS.st;obtain⟨j,_⟩:=zr7;refine zuB ?_;unfold ztk at hp;obtain⟨h,a,hp⟩:=zqp hp;refine zvY (l:=l) (v:=v) g.pre ha100 a fun n d=>?_;obtain⟨e,i⟩:=g.call d j;refine⟨_,rfl,?_⟩;obtain rfl:=oi hp;exact hq _ e.ext'
theorem zv0{s:Soc}{out:List Int}{ca100 ca101 ca200:C}{m f:M}{Q:V->M->Prop}{rz:Wk}(hS:Pre f m)(ha100:Sl f ca100 s.Members)(ha101:Sl f ca101 s.Losses)(ha200:Sl f ca200 out)(hp:ztm s out=some rz)(hq:∀m' f' c0 c1,Grw m f m' f'->Sl f' c0 rz.s.Members->Sl f' c1 rz.s.Losses->Q (.agg 10 [c0,c1,Il rz.s.Treaty.Lo,Il rz.s.Treaty.Hi,Il rz.s.Reserve,.bool rz.asked.b0,.bool rz.asked.b1,.bool rz.asked.b2,.bool rz.asked.b3,.bool rz.asked.b4]) m'):Wc prog tbl 82 [.agg 5 [ca100,ca101,Il s.Treaty.Lo,Il s.Treaty.Hi,Il s.Reserve],.c ca200] m Q:=by
 have S0:=hS.st;obtain⟨τ0,_⟩:=zr7;refine w82 ?_;unfold ztm at hp;intro m0 O;obtain⟨P,S,Ja,T⟩:=S0.blk O τ0 1;intro m1 Y;obtain⟨Z,aa,ba,ca⟩:=S.blk Y P 2;have G:=T.k ba;refine⟨_,_,_,_,_,G.bk.ra,?_⟩;intro m7 da;obtain⟨ea,fa,I,ga⟩:=aa.blk da Z 3;have ha:=G.k I;have ia:=ca.k I;obtain⟨ja,ka,la,J,r⟩:=ga.sto fa [ca100,ca101,Il s.Treaty.Lo,Il s.Treaty.Hi,Il s.Reserve,.bool false,.bool false,.bool false,.bool false,.bool false];have t:=ha.k J;have u:=ia.k J;refine⟨ja,ka,?_⟩;refine⟨trivial,_,t.bk.rc rfl,ha100.isSl,?_⟩;intro Ha Ga
 have hgo:∀(w:Nat) (q:Int) (a:Int) (d:Int) (e:Int) (g:Bool) (h:Bool) (i:Bool) (j:Bool) (n:Bool) (z:M) (o:Nat->Nat),St (Fm.of m) f f z->Lb (Fm.of m) f o z 1 m.nxt 5 [ca100,ca101,Il s.Treaty.Lo,Il s.Treaty.Hi,Il s.Reserve]->Lb (Fm.of m) f o z 2 m0.nxt 10 [.sl0,.sl0,Il 0,Il 0,Il 0,.bool false,.bool false,.bool false,.bool false,.bool false]->Lb (Fm.of m) f o z 3 m1.nxt 10 [ca100,ca101,Il a,Il d,Il e,.bool g,.bool h,.bool i,.bool j,.bool n]->ztl s out w a d e g h i j n q=some rz->Ha [.c (Il q)] z:=by
  intro w
  induction w with
  | zero=>intro q a d e g h i j n z o y t u r hp; cases hp
  | succ w ma=>
   intro q a d e g h i j n z o y t u r hp;refine Ga _ _ ?_;rw[ztl] at hp
   try rw[ha100.slLen]
   refine ifd hp (fun na hp=>?_) fun na hp=>?_; rotate_left
   ·refine⟨_,_,_,_,_,_,_,_,_,_,r.bk.ra,?_⟩;obtain⟨oa,pa,qa,Ka,sa⟩:=u.sto y [ca100,ca101,Il a,Il d,Il e,.bool g,.bool h,.bool i,.bool j,.bool n];refine⟨oa,pa,?_⟩;refine⟨_,_,_,_,_,_,_,_,_,_,sa.bk.ra,?_⟩;obtain rfl:=oi hp;exact hq _ f ca100 ca101 qa.grw ha100 ha101
   obtain⟨p,ta,hp⟩:=zqp hp;refine zvZ (l:=out) (v:=q) y.pre ha200 ta fun Pa ua=>?_;obtain⟨va,A⟩:=y.call ua o;have wa:=t.k A;have xa:=u.k A;have ya:=r.k A;refine⟨_,rfl,trivial,trivial,?_⟩;obtain⟨za,hp⟩:=zqq hp;obtain⟨Ia,D,F⟩:=zqX za;refine⟨Ia,D,F,?_⟩;obtain⟨Aa,Ba,Ca,N,B⟩:=ya.sta va (pre:=[ca100,ca101,Il a,Il d,Il e]) (post:=[]) (l:=([g,h,i,j,n]:List Bool)) (enc:=C.bool) rfl rfl D F ((!p))
   replace B:Lb _ _ _ _ _ _ _ [ca100,ca101,Il a,Il d,Il e,(.bool (sti q 0 (!p) g)),(.bool (sti q 1 (!p) h)),(.bool (sti q 2 (!p) i)),(.bool (sti q 3 (!p) j)),(.bool (sti q 4 (!p) n))]:=B
   have Da:=wa.k N;have Ea:=xa.k N;refine⟨Aa,Ba,?_⟩;refine gdi hp fun Fa hp=>?_;exact ma _ _ _ _ _ _ _ _ _ _ o Ca Da Ea B hp
 exact hgo _ _ _ _ _ _ _ _ _ _ _ ea la t u r hp
theorem zv1{s:Soc}{out:List Int}{ca100 ca101 ca200:C}{m f:M}{Q:V->M->Prop}{rz:Wk × Int}(hS:Pre f m)(ha100:Sl f ca100 s.Members)(ha101:Sl f ca101 s.Losses)(ha200:Sl f ca200 out)(hp:ztn s out=some rz)(hq:∀m' f' c0 c1,Grw m f m' f'->Sl f' c0 rz.1.s.Members->Sl f' c1 rz.1.s.Losses->Q (.tup [.agg 10 [c0,c1,Il rz.1.s.Treaty.Lo,Il rz.1.s.Treaty.Hi,Il rz.1.s.Reserve,.bool rz.1.asked.b0,.bool rz.1.asked.b1,.bool rz.1.asked.b2,.bool rz.1.asked.b3,.bool rz.1.asked.b4],.c (Il rz.2)]) m'):Wc prog tbl 61 [.agg 5 [ca100,ca101,Il s.Treaty.Lo,Il s.Treaty.Hi,Il s.Reserve],.c ca200] m Q:=by
 have S0:=hS.st;obtain⟨τ0,_⟩:=zr7;refine w61 ?_;unfold ztn at hp;intro m0 u;obtain⟨w,y,qa,z⟩:=S0.blk u τ0 1;intro m1 A;obtain⟨d,h,B,D⟩:=y.blk A w 2;have i:=z.k B;refine⟨_,_,_,_,_,i.bk.ra,?_⟩;obtain⟨sa,F,hp⟩:=zqp hp;refine zvV (s:=s) h.pre ha100 ha101 F fun m8 G=>?_;obtain⟨e,j⟩:=h.call G d;have n:=i.k j;have o:=D.k j;refine⟨_,rfl,?_⟩;refine zq0 hp (fun I hp=>?_) fun I hp=>?_
 ·obtain⟨J,N,O,ta,P⟩:=o.sto e [.sl0,.sl0,Il 0,Il 0,Il 0,.bool false,.bool false,.bool false,.bool false,.bool false];refine⟨J,N,?_⟩;refine⟨_,_,_,_,_,_,_,_,_,_,P.bk.ra,?_⟩;obtain rfl:=oi hp;exact hq _ f .sl0 .sl0 O.grw (Sl.nil _) (Sl.nil _)
 refine⟨_,_,_,_,_,n.bk.ra,?_⟩;obtain⟨ua,S,hp⟩:=zqp hp;refine zvX (s:=s) (l:=out) e.pre ha100 ha101 ha200 S fun za T=>?_;obtain⟨g,p⟩:=e.call T d;have Y:=n.k p;have q:=o.k p;refine⟨_,rfl,?_⟩;refine zq2 hp (fun Z hp=>?_) fun Z hp=>?_
 ·obtain⟨aa,ba,ca,va,da⟩:=q.sto g [.sl0,.sl0,Il 0,Il 0,Il 0,.bool false,.bool false,.bool false,.bool false,.bool false];refine⟨aa,ba,?_⟩;refine⟨_,_,_,_,_,_,_,_,_,_,da.bk.ra,?_⟩;obtain rfl:=oi hp;exact hq _ f .sl0 .sl0 ca.grw (Sl.nil _) (Sl.nil _)
 refine⟨_,_,_,_,_,Y.bk.ra,?_⟩;obtain⟨a,ea,hp⟩:=zqp hp;refine zv0 (s:=s) (out:=out) g.pre ha100 ha101 ha200 ea fun Aa fa r t ga ha ia=>?_;obtain⟨ja,ka⟩:=g.callG ga d;have la:=q.k ka;refine⟨_,_,_,_,_,_,_,_,_,_,rfl,?_⟩;obtain⟨ma,na,oa,wa,pa⟩:=la.sto ja [r,t,Il a.s.Treaty.Lo,Il a.s.Treaty.Hi,Il a.s.Reserve,.bool a.asked.b0,.bool a.asked.b1,.bool a.asked.b2,.bool a.asked.b3,.bool a.asked.b4];refine⟨ma,na,?_⟩;refine⟨_,_,_,_,_,_,_,_,_,_,pa.bk.ra,?_⟩;obtain rfl:=oi hp;exact hq _ fa r t oa.grw ha ia
theorem zv2{s:Soc}{losses:Int}{treaty:Int}{ca100 ca101:C}{m f:M}{Q:V->M->Prop}{rz:Int}(hS:Pre f m)(_ha100:Sl f ca100 s.Members)(_ha101:Sl f ca101 s.Losses)(hp:zto s losses treaty=some rz)(hq:∀m',Ext m m'->Q (.c (Il rz)) m'):Wc prog tbl 60 [.agg 5 [ca100,ca101,Il s.Treaty.Lo,Il s.Treaty.Hi,Il s.Reserve],.c (Il losses),.c (Il treaty)] m Q:=by
 have l:=hS.st;obtain⟨n,_⟩:=zr7;refine w60 ?_;unfold zto at hp;intro o a;obtain⟨i,d,j,e⟩:=l.blk a n 1;refine⟨trivial,_,e.bk.rc rfl,?_⟩;refine gdi hp fun g hp=>?_;refine gdi hp fun h hp=>?_;obtain rfl:=oi hp;exact hq _ d.ext'
theorem zv3{s:Soc}{b0:Nat}{cb000 cb001:C}{m f:M}{F:Fm}{n0 ly:Nat}{xs:List (List V)}{I:Nat->(Nat->Prop)->M->Prop}{E:(Nat->Prop)->M->Prop}{S1:Nat->Prop}{Q:V->M->Prop}{rz:List Int}{τ0:Nat->Nat}(hc:zqe prog tbl n0 ly xs I E)(S0:St F f f m)(Y0:Yg n0 (YJ xs I rz) S1 F f τ0 m)(hb0:Bk f b0 5 [cb000,cb001,(.int .i64 s.Treaty.Lo),(.int .i64 s.Treaty.Hi),(.int .i64 s.Reserve)])(hb000:Sl f cb000 s.Members)(hb001:Sl f cb001 s.Losses)(hp:ztt s=some rz)(hq:∀v m' f' τ' S',St F f f' m'->(Yg n0 (YJ xs I ([]:List Int)) S' F f' τ' m'\/Yg n0 E S' F f' τ' m')->Q v m'):Wc prog tbl 106 [.c (.fn (.yield ly) [] []),.c (.ptr b0 0)] m Q:=by
 refine zuu ?_;unfold ztt at hp;intro m0 e2095;obtain⟨τ2098,S2096,k2097,L2099⟩:=S0.blk e2095 τ0 1;have Y2100:=Y0.k k2097 (by decide);refine⟨trivial,_,(hb0.sub S2096.sub).rc rfl,hb001.isSl,?_⟩;intro R2 hR2
 have hgo:∀(d2108:Nat) (x3:Int) (y2103:Int) (y2104:Int) (r2105:List Int) (s2106:Nat->Prop) (m4:M) (τ2102:Nat->Nat),St F f f m4->Lb F f τ2102 m4 1 m.nxt 2 [(.int .i64 y2103),(.int .i64 y2104)]->Yg n0 (YJ xs I r2105) s2106 F f τ2102 m4->zts s d2108 y2103 y2104 x3=some r2105->R2 [.c (.int .i64 x3)] m4:=by
  intro d2108
  induction d2108 with
  | zero=>intro x3 y2103 y2104 r2105 s2106 m4 τ2102 S2101 L2099 Y2107 hp; cases hp
  | succ d2108 ihR2=>
   intro x3 y2103 y2104 r2105 s2106 m4 τ2102 S2101 L2099 Y2107 hp;refine hR2 _ _ ?_;rw[zts] at hp
   try rw[hb001.slLen]
   refine ifd hp (fun q2109 hp=>?_) fun q2109 hp=>?_
   ·obtain⟨v2110,g2111,hp⟩:=zqp hp;obtain⟨n5,g2111i,g2111l,g2111⟩:=zqj g2111;obtain⟨_,r2112⟩:=zr9 hb001 g2111;refine⟨n5,g2111i,(by first|exact g2111l|(rw[hb001.slLen];exact g2111l)),_,_,(r2112 _ S2101.sub).1,?_⟩;intro m8 e2113;obtain⟨τ2116,S2114,k2115,L2117⟩:=S2101.blk e2113 τ2102 2;have L2118:=L2099.k k2115 (by decide);have Y2119:=Y2107.k k2115 (by decide);obtain⟨m2123,e2122,S2120,k2121,L2124⟩:=L2117.sto S2114 [(.int .i64 v2110.Lo),(.int .i64 v2110.Hi)];have L2125:=L2118.k k2121 (by decide);have Y2126:=Y2119.k k2121 (by decide);refine⟨m2123,e2122,?_⟩;refine⟨trivial,_,L2125.bk.rc rfl,trivial,_,L2124.bk.rc rfl,?_⟩;obtain⟨g2127,hp⟩:=zqq hp;refine⟨g2127,trivial,?_⟩;obtain⟨m2131,e2130,S2128,k2129,L2132⟩:=L2125.sto1 S2120 0 (.int .i64 (y2103+v2110.Lo)) (by simp) rfl
    replace L2132:Lb _ _ _ _ _ _ _ [(.int .i64 (y2103+v2110.Lo)),(.int .i64 y2104)]:=L2132
    have L2133:=L2124.k k2129 (by decide);have Y2134:=Y2126.k k2129 (by decide);refine⟨m2131,e2130,?_⟩;refine⟨trivial,_,L2132.bk.rc rfl,trivial,_,L2133.bk.rc rfl,?_⟩;obtain⟨g2135,hp⟩:=zqq hp;refine⟨g2135,trivial,?_⟩;obtain⟨m2139,e2138,S2136,k2137,L2140⟩:=L2132.sto1 S2128 1 (.int .i64 (y2104+v2110.Hi)) (by simp) rfl
    replace L2140:Lb _ _ _ _ _ _ _ [(.int .i64 (y2103+v2110.Lo)),(.int .i64 (y2104+v2110.Hi))]:=L2140
    have L2141:=L2133.k k2137 (by decide);have Y2142:=Y2134.k k2137 (by decide);refine⟨m2139,e2138,?_⟩;obtain⟨g2143,hp⟩:=zqq hp;refine⟨g2143,?_⟩;exact ihR2 _ _ _ _ _ _ τ2116 S2136 L2140 Y2142 hp
   refine⟨_,_,_,_,_,(hb0.sub S2101.sub).ra,trivial,_,L2099.bk.rc rfl,trivial,trivial,_,(hb0.sub S2101.sub).rc rfl,?_⟩;obtain⟨r2144,g2145,hp⟩:=zqp hp;refine zv2 (s:=s) (losses:=y2103) (treaty:=s.Treaty.Hi) S2101.pre hb000 hb001 g2145 fun m24 e2148=>?_;obtain⟨S2146,k2147⟩:=S2101.call e2148 τ2102;have L2149:=L2099.k k2147 (by decide);have Y2150:=Y2107.k k2147 (by decide);refine⟨_,rfl,_,_,_,_,_,(hb0.sub S2146.sub).ra,(by rw[show zaL cmC _=true from zoV (zqt hb000.noFn (zqt hb001.noFn (zqt rfl (zqt rfl (zqt rfl zqu)))))]; exact((hb0.sub S2101.sub).ra)),trivial,_,L2149.bk.rc rfl,(L2099.bk.rc rfl),trivial,trivial,_,(hb0.sub S2146.sub).rc rfl,((hb0.sub S2101.sub).rc rfl),?_⟩;obtain⟨r2151,g2152,hp⟩:=zqp hp;refine zv2 (s:=s) (losses:=y2104) (treaty:=s.Treaty.Lo) S2146.pre hb000 hb001 g2152 fun m34 e2155=>?_;obtain⟨S2153,k2154⟩:=S2146.call e2155 τ2102;have L2156:=L2149.k k2154 (by decide);have Y2157:=Y2150.k k2154 (by decide);refine⟨_,rfl,?_⟩;intro R36 hR36
   have hgo:∀(d2163:Nat) (x37:Int) (r2160:List Int) (s2161:Nat->Prop) (m38:M) (τ2159:Nat->Nat),St F f f m38->Lb F f τ2159 m38 1 m.nxt 2 [(.int .i64 y2103),(.int .i64 y2104)]->Yg n0 (YJ xs I r2160) s2161 F f τ2159 m38->ztr r2151 d2163 x37=some r2160->R36 [.c (.int .i64 x37)] m38:=by
    intro d2163
    induction d2163 with
    | zero=>intro x37 r2160 s2161 m38 τ2159 S2158 L2156 Y2162 hp; cases hp
    | succ d2163 ihR36=>
     intro x37 r2160 s2161 m38 τ2159 S2158 L2156 Y2162 hp;refine hR36 _ _ ?_;rw[ztr] at hp;refine ifd hp (fun q2164 hp=>?_) fun q2164 hp=>?_; rotate_left
     ·obtain rfl:=oi hp;exact hq _ _ _ _ _ S2158 (.inl Y2162)
     obtain⟨r2165,hp2167,hz2166⟩:=zqp hp
     clear hp
     obtain rfl:=oi hz2166;have hp:=hp2167
     show Wy prog tbl ly (IV.encs (x37:Int)) _ _
     refine Yg.yield hc S2158 Y2162 ?_ ?_
     ·intro m40 τ2168 s2172 S2169 k2170 Y2171;have L2173:=L2156.k k2170 (by decide);refine⟨_,rfl,?_⟩;refine zq3 ?_;obtain⟨g2174,hp⟩:=zqq hp;refine⟨g2174,?_⟩;exact ihR36 _ _ _ _ τ2168 S2169 L2173 Y2171 hp
     ·intro m40 τ2175 s2179 S2176 k2177 Y2178;have L2180:=L2156.k k2177 (by decide);refine⟨_,rfl,?_⟩;refine zq4 ?_;exact hq _ _ _ _ _ S2176 (.inr Y2178)
   exact hgo _ _ _ _ _ τ2102 S2153 L2156 Y2157 hp
 exact hgo _ _ _ _ _ _ _ τ2098 S2096 L2099 Y2100 hp
theorem zv4{s:Soc}{ca100 ca101:C}{m f:M}{Q:V->M->Prop}{rz:List Int}(hS:Pre f m)(ha100:Sl f ca100 s.Members)(ha101:Sl f ca101 s.Losses)(hp:ztu s=some rz)(hq:∀m' f' c0,Grw m f m' f'->It prog tbl f' c0 rz->Q (.c c0) m'):Wc prog tbl 83 [.agg 5 [ca100,ca101,Il s.Treaty.Lo,Il s.Treaty.Hi,Il s.Reserve]] m Q:=by
 have r:=hS.st;obtain⟨t,_⟩:=zr7;refine w83 ?_;unfold ztu at hp;intro u i;obtain⟨p,j,q,l⟩:=r.blk i t 1;obtain⟨d,a,e,g⟩:=l.freeze j;obtain⟨n,o,hp⟩:=zqp hp;have h:It prog tbl d ((C.fn (Fn.func 106) [] [(W.c (C0.ptr m.nxt 0))])) n:=zq5 a.fz a.fv fun w ly I E hc y z A B hS hY Q hq=>zv3 hc hS hY g (ha100.sub e.fs) (ha101.sub e.fs) o hq;obtain rfl:=oi hp;exact hq _ d (C.fn (Fn.func 106) [] [(W.c (C0.ptr m.nxt 0))]) a.grw h
theorem zv5{p:P5}{m f:M}{Q:V->M->Prop}{rz:Int}(hS:Pre f m)(hp:ztw p=some rz)(hq:∀m',Ext m m'->Q (.c (Il rz)) m'):Wc prog tbl 98 [.agg 5 [Il p.p0,Il p.p1,Il p.p2,Il p.p3,Il p.p4]] m Q:=by
 have G:=hS.st;obtain⟨I,_⟩:=zr7;refine w98 ?_;unfold ztw at hp;intro N o;obtain⟨q,r,D,a⟩:=G.blk o I 1;refine⟨_,_,_,_,_,a.bk.ra,?_⟩;intro J A
 have hgo:∀(d:Nat) (s:Int) (t:Int) (i:M) (e:Nat->Nat),St (Fm.of m) f f i->Lb (Fm.of m) f e i 1 m.nxt 5 [Il p.p0,Il p.p1,Il p.p2,Il p.p3,Il p.p4]->ztv p d s t=some rz->J [.c (Il s),.c (Il t)] i:=by
  intro d
  induction d with
  | zero=>intro s t i e g a hp; cases hp
  | succ d z=>
   intro s t i e g a hp;refine A _ _ _ ?_;rw[ztv] at hp;refine ifd hp (fun u hp=>?_) fun u hp=>?_; rotate_left
   ·obtain rfl:=oi hp;exact hq _ g.ext'
   obtain⟨F,h,hp⟩:=zqp hp;obtain⟨B,j,n,h⟩:=zqj h;refine⟨B,j,n,_,(zrH (l:=([p.p0,p.p1,p.p2,p.p3,p.p4]:List Int)) (enc:=(C.int .i64)) rfl h),?_⟩;refine gdi hp fun w hp=>?_;refine gdi hp fun y hp=>?_;exact z _ _ _ e g a hp
 exact hgo _ _ _ _ q r a hp
theorem zv6{p:P5}{more:P5}{m f:M}{Q:V->M->Prop}{rz:P5}(hS:Pre f m)(hp:zty p more=some rz)(hq:∀m',Ext m m'->Q (.agg 5 [Il rz.p0,Il rz.p1,Il rz.p2,Il rz.p3,Il rz.p4]) m'):Wc prog tbl 114 [.agg 5 [Il p.p0,Il p.p1,Il p.p2,Il p.p3,Il p.p4],.agg 5 [Il more.p0,Il more.p1,Il more.p2,Il more.p3,Il more.p4]] m Q:=by
 have S0:=hS.st;obtain⟨τ0,_⟩:=zr7;refine zuL ?_;unfold zty at hp;intro m0 P;obtain⟨S,T,Ba,Y⟩:=S0.blk P τ0 1;intro m1 Z;obtain⟨aa,ba,ca,da⟩:=T.blk Z S 2;have ea:=Y.k ca;intro m2 fa;obtain⟨ga,ha,F,q⟩:=ba.blk fa aa 3;have i:=ea.k F;have r:=da.k F;refine⟨_,_,_,_,_,r.bk.ra,?_⟩;intro R8 xa
 have hgo:∀(s:Nat) (u:Int) (a:Int) (d:Int) (e:Int) (g:Int) (h:Int) (t:M) (j:Nat->Nat),St (Fm.of m) f f t->Lb (Fm.of m) f j t 1 m.nxt 5 [Il a,Il d,Il e,Il g,Il h]->Lb (Fm.of m) f j t 2 m0.nxt 5 [Il more.p0,Il more.p1,Il more.p2,Il more.p3,Il more.p4]->Lb (Fm.of m) f j t 3 m1.nxt 5 [Il 0,Il 0,Il 0,Il 0,Il 0]->ztx more s a d e g h u=some rz->R8 [.c (Il u)] t:=by
  intro s
  induction s with
  | zero=>intro u a d e g h t j w i r q hp; cases hp
  | succ s wa=>
   intro u a d e g h t j w i r q hp;refine xa _ _ ?_;rw[ztx] at hp;refine ifd hp (fun ia hp=>?_) fun ia hp=>?_; rotate_left
   ·refine⟨_,_,_,_,_,i.bk.ra,?_⟩;obtain⟨ja,ka,la,Ca,ma⟩:=q.sto w [Il a,Il d,Il e,Il g,Il h];refine⟨ja,ka,?_⟩;refine⟨_,_,_,_,_,ma.bk.ra,?_⟩;obtain rfl:=oi hp;exact hq _ la.ext'
   obtain⟨n,y,hp⟩:=zqp hp;obtain⟨ya,I,J,y⟩:=zqj y;refine⟨ya,I,J,_,(zrH (l:=([more.p0,more.p1,more.p2,more.p3,more.p4]:List Int)) (enc:=(C.int .i64)) rfl y),trivial,?_⟩;obtain⟨o,z,hp⟩:=zqp hp;obtain⟨za,N,O,z⟩:=zqj z;refine⟨za,N,O,_,(i.bk.rc (zqW (l:=([a,d,e,g,h]:List Int)) (enc:=(C.int .i64)) 0 rfl z)),?_⟩;obtain⟨na,hp⟩:=zqq hp;refine⟨na,trivial,?_⟩;obtain⟨oa,hp⟩:=zqq hp;obtain⟨Aa,B,D⟩:=zqX oa;refine⟨Aa,B,D,?_⟩;obtain⟨pa,qa,sa,G,A⟩:=i.sta w (pre:=[]) (post:=[]) (l:=([a,d,e,g,h]:List Int)) (enc:=(C.int .i64)) rfl rfl B D ((o+n))
   replace A:Lb _ _ _ _ _ _ _ [(Il (sti u 0 (o+n) a)),(Il (sti u 1 (o+n) d)),(Il (sti u 2 (o+n) e)),(Il (sti u 3 (o+n) g)),(Il (sti u 4 (o+n) h))]:=A
   have ta:=r.k G;have ua:=q.k G;refine⟨pa,qa,?_⟩;refine gdi hp fun va hp=>?_;exact wa _ _ _ _ _ _ _ j sa A ta ua hp
 exact hgo _ _ _ _ _ _ _ _ ga ha i r q hp
theorem zv7{f_:F5}{others:F5}{m f:M}{Q:V->M->Prop}{rz:F5}(hS:Pre f m)(hp:ztA f_ others=some rz)(hq:∀m',Ext m m'->Q (.agg 5 [.bool rz.b0,.bool rz.b1,.bool rz.b2,.bool rz.b3,.bool rz.b4]) m'):Wc prog tbl 97 [.agg 5 [.bool f_.b0,.bool f_.b1,.bool f_.b2,.bool f_.b3,.bool f_.b4],.agg 5 [.bool others.b0,.bool others.b1,.bool others.b2,.bool others.b3,.bool others.b4]] m Q:=by
 have S0:=hS.st;obtain⟨τ0,_⟩:=zr7;refine w97 ?_;unfold ztA at hp;intro m0 Y;obtain⟨Z,aa,La,ba⟩:=S0.blk Y τ0 1;intro m1 ca;obtain⟨da,ea,fa,ga⟩:=aa.blk ca Z 2;have ha:=ba.k fa;intro m2 ia;obtain⟨ja,ka,G,n⟩:=ea.blk ia da 3;have i:=ha.k G;have o:=ga.k G;refine⟨_,_,_,_,_,o.bk.ra,?_⟩;intro R8 Ga
 have hgo:∀(r:Nat) (q:Int) (a:Bool) (d:Bool) (e:Bool) (g:Bool) (h:Bool) (t:M) (j:Nat->Nat),St (Fm.of m) f f t->Lb (Fm.of m) f j t 1 m.nxt 5 [.bool a,.bool d,.bool e,.bool g,.bool h]->Lb (Fm.of m) f j t 2 m0.nxt 5 [.bool others.b0,.bool others.b1,.bool others.b2,.bool others.b3,.bool others.b4]->Lb (Fm.of m) f j t 3 m1.nxt 5 [.bool false,.bool false,.bool false,.bool false,.bool false]->ztz others r a d e g h q=some rz->R8 [.c (Il q)] t:=by
  intro r
  induction r with
  | zero=>intro q a d e g h t j s i o n hp; cases hp
  | succ r N=>
   intro q a d e g h t j s i o n hp;refine Ga _ _ ?_;rw[ztz] at hp;refine ifd hp (fun la hp=>?_) fun la hp=>?_; rotate_left
   ·refine⟨_,_,_,_,_,i.bk.ra,?_⟩;obtain⟨ma,na,oa,Ma,pa⟩:=n.sto s [.bool a,.bool d,.bool e,.bool g,.bool h];refine⟨ma,na,?_⟩;refine⟨_,_,_,_,_,pa.bk.ra,?_⟩;obtain rfl:=oi hp;exact hq _ oa.ext'
   obtain⟨p,u,hp⟩:=zqp hp;obtain⟨Ha,O,P,u⟩:=zqj u;refine⟨Ha,O,P,_,(zrH (l:=([others.b0,others.b1,others.b2,others.b3,others.b4]:List Bool)) (enc:=C.bool) rfl u),trivial,?_⟩;obtain⟨Na,w,hp⟩:=zqp hp;obtain⟨Ia,S,T,w⟩:=zqj w;refine⟨Ia,S,T,_,(i.bk.rc (zqW (l:=([a,d,e,g,h]:List Bool)) (enc:=C.bool) 0 rfl w)),?_⟩;refine zq1 hp (fun qa hp=>?_) fun qa hp=>?_
   ·refine⟨trivial,?_⟩;obtain⟨sa,hp⟩:=zqq hp;obtain⟨Ja,A,B⟩:=zqX sa;refine⟨Ja,A,B,?_⟩;obtain⟨ta,ua,va,I,y⟩:=i.sta s (pre:=[]) (post:=[]) (l:=([a,d,e,g,h]:List Bool)) (enc:=C.bool) rfl rfl A B ((!p))
    replace y:Lb _ _ _ _ _ _ _ [(.bool (sti q 0 (!p) a)),(.bool (sti q 1 (!p) d)),(.bool (sti q 2 (!p) e)),(.bool (sti q 3 (!p) g)),(.bool (sti q 4 (!p) h))]:=y
    have wa:=o.k I;have xa:=n.k I;refine⟨ta,ua,?_⟩;refine gdi hp fun ya hp=>?_;exact N _ _ _ _ _ _ _ j va y wa xa hp
   refine⟨trivial,?_⟩;obtain⟨za,hp⟩:=zqq hp;obtain⟨Ka,D,F⟩:=zqX za;refine⟨Ka,D,F,?_⟩;obtain⟨Aa,Ba,Ca,J,z⟩:=i.sta s (pre:=[]) (post:=[]) (l:=([a,d,e,g,h]:List Bool)) (enc:=C.bool) rfl rfl D F false
   replace z:Lb _ _ _ _ _ _ _ [(.bool (sti q 0 false a)),(.bool (sti q 1 false d)),(.bool (sti q 2 false e)),(.bool (sti q 3 false g)),(.bool (sti q 4 false h))]:=z
   have Da:=o.k J;have Ea:=n.k J;refine⟨Aa,Ba,?_⟩;refine gdi hp fun Fa hp=>?_;exact N _ _ _ _ _ _ _ j Ca z Da Ea hp
 exact hgo _ _ _ _ _ _ _ _ ja ka i o n hp
theorem zv8{d:Dv}{member:Int}{ca110:C}{m f:M}{Q:V->M->Prop}{rz:Int}(hS:Pre f m)(ha110:Mi f ca110 d.having)(hp:ztC d member=some rz)(hq:∀m',Ext m m'->Q (.c (Il rz)) m'):Wc prog tbl 111 [.agg 11 [Il d.s0.pence,Il d.s0.remainder,Il d.s1.pence,Il d.s1.remainder,Il d.s2.pence,Il d.s2.remainder,Il d.s3.pence,Il d.s3.remainder,Il d.s4.pence,Il d.s4.remainder,ca110],.c (Il member)] m Q:=by
 have S0:=hS.st;obtain⟨τ0,_⟩:=zr7;refine zux ?_;unfold ztC at hp;intro m0 Ma;obtain⟨Na,Oa,Yb,aa⟩:=S0.blk Ma τ0 1;refine⟨trivial,trivial,?_⟩;obtain⟨a,B,hp⟩:=zqp hp;obtain⟨n1,ya,za,B⟩:=zqj B;refine⟨n1,ya,za,_,_,(Bk.rsM (pre:=[]) (post:=[ca110]) (l:=([d.s0,d.s1,d.s2,d.s3,d.s4]:List Sh)) aa.bk rfl rfl zse B (by decide)),?_⟩;intro m4 Pa;obtain⟨Qa,Ra,Sa,Ta⟩:=Oa.blk Pa Na 2;have Ua:=aa.k Sa;obtain⟨D,Va,Wa,Xa,Ya⟩:=Ta.sto Ra [Il a.pence,Il a.remainder];have ba:=Ua.k Xa;refine⟨D,Va,?_⟩;refine⟨trivial,_,ba.bk.rc rfl,?_⟩;obtain⟨Sb,Za,Aa,Ba,Ca⟩:=Mi.rng zvh Wa ha110 Qa 3;have hp:=zro hp Aa;refine⟨Za,Ba,?_⟩;intro m8 ab;obtain⟨bb,cb,ca,db⟩:=Ca m8 ab;have g:=ba.k ca;have h:=Ya.k ca;intro R9 Tb
 have hgo:∀(r:Nat) (da:Int) (n:List Sh) (z:M) (e:Nat->Nat),St (Fm.of m) f f z->Lb (Fm.of m) f e z 1 m.nxt 11 [Il d.s0.pence,Il d.s0.remainder,Il d.s1.pence,Il d.s1.remainder,Il d.s2.pence,Il d.s2.remainder,Il d.s3.pence,Il d.s3.remainder,Il d.s4.pence,Il d.s4.remainder,ca110]->Lb (Fm.of m) f e z 2 m0.nxt 2 [Il a.pence,Il a.remainder]->Ir (Fm.of m) f e z 3 D.nxt ca110 d.having n->pbefore_L0 d member a r da n=some rz->R9 [.c (Il da)] z:=by
  intro r
  induction r with
  | zero=>intro da n z e s g h F hp; cases hp
  | succ r Da=>
   intro da n z e s g h F hp;refine Tb _ _ ?_;rw[pbefore_L0] at hp;obtain⟨Ub,Ea,Fa,Ga⟩:=F.next s;refine⟨Ub,Ea,fun eb=>?_,fun gc hc ic fb=>?_⟩
   ·have hp:=zrr (Fa eb) hp;refine⟨trivial,?_⟩;obtain⟨t,ea,fa,Ha⟩:=g.freeze s;have u:=h.k fa;have gb:=F.k fa s.sub ea (by decide);obtain⟨Zb,hp⟩:=zqq hp;obtain⟨hb,ib,w⟩:=Bk.arS (α:=Sh) (o:=0) (l:=([d.s0,d.s1,d.s2,d.s3,d.s4]:List Sh)) (i:=Int.toNat (0:Int)) (j:=Int.toNat member) Ha rfl (Nat.le_of_ble_eq_true rfl) (show Cat (α:=Sh) t [Il d.s0.pence,Il d.s0.remainder,Il d.s1.pence,Il d.s1.remainder,Il d.s2.pence,Il d.s2.remainder,Il d.s3.pence,Il d.s3.remainder,Il d.s4.pence,Il d.s4.remainder] ([d.s0,d.s1,d.s2,d.s3,d.s4]:List Sh) from ⟨[Il d.s0.pence,Il d.s0.remainder],_,rfl,rfl,⟨[Il d.s1.pence,Il d.s1.remainder],_,rfl,rfl,⟨[Il d.s2.pence,Il d.s2.remainder],_,rfl,rfl,⟨[Il d.s3.pence,Il d.s3.remainder],_,rfl,rfl,⟨[Il d.s4.pence,Il d.s4.remainder],_,rfl,rfl,rfl⟩⟩⟩⟩⟩) (by omega) (by show Int.toNat member<=5; omega);refine⟨Int.toNat (0:Int),Int.toNat member,rfl,(show member=((Int.toNat member:Nat):Int) by omega),hb,ib,w.isSl,?_⟩;intro Vb Qb
    have hgo:∀(y:Nat) (ga:Int) (ha:Int) (A:M) (p:Nat->Nat),St (Fm.of m) f t A->Lb (Fm.of m) t p A 2 m0.nxt 2 [Il a.pence,Il a.remainder]->Ir (Fm.of m) t p A 3 D.nxt ca110 d.having n->ztB d member a y ga ha=some rz->Vb [.c (Il ga),.c (Il ha)] A:=by
     intro y
     induction y with
     | zero=>intro ga ha A p q u ia hp; cases hp
     | succ y ja=>
      intro ga ha A p q u ia hp;refine Qb _ _ _ ?_;rw[ztB] at hp
      try rw[w.slLen]
      refine ifd hp (fun jb hp=>?_) fun jb hp=>?_; rotate_left
      ·obtain rfl:=oi hp;exact hq _ q.ext'
      obtain⟨ka,G,hp⟩:=zqp hp;obtain⟨Wb,Ia,Z,G⟩:=zqj G;obtain⟨_,kb⟩:=zsf w G;refine⟨Wb,Ia,(by first|exact Z|(rw[w.slLen];exact Z)),_,_,(kb _ q.sub).1,?_⟩;intro jc mb;obtain⟨la,I,ma,ob⟩:=q.blk mb p 4;have pb:=u.k ma;have qb:=ia.k ma q.sub I (by decide);obtain⟨rb,sb,J,na,tb⟩:=ob.sto I [Il ka.pence,Il ka.remainder];have N:=pb.k na;have oa:=qb.k na I.sub J (by decide);refine⟨rb,sb,?_⟩;refine⟨trivial,_,tb.bk.rc rfl,trivial,_,N.bk.rc rfl,?_⟩;refine ifd hp (fun ub hp=>?_) fun ub hp=>?_; rotate_left
      ·refine gdi hp fun vb hp=>?_;exact ja _ _ _ la J N oa hp
      refine gdi hp fun wb hp=>?_;refine gdi hp fun xb hp=>?_;exact ja _ _ _ la J N oa hp
    exact hgo _ _ _ _ e ea u gb hp
   obtain⟨yb,pa,zb,Ab,Ja,Xb,Ka,xa,qa,sa,ta⟩:=Ga _ _ _ fb;have hp:=zrs Ja hp;obtain⟨Bb,La,hp⟩:=zqp hp;obtain rfl:Bb=Ab:=oi (La.symm.trans Ka);generalize yb++zb=ac at hp ta;have Cb:=g.k sa;have Db:=h.k sa;refine⟨_,_,_,xa,?_⟩;intro kc Eb;obtain⟨ua,O,P,Fb⟩:=qa.blk Eb e 5;have Gb:=Cb.k P;have Hb:=Db.k P;have Ib:=ta.k P qa.sub O (by decide);obtain⟨Jb,Kb,S,T,Nb⟩:=Fb.sto O [Il pa.pence,Il pa.remainder];have va:=Gb.k T;have Y:=Hb.k T;have wa:=Ib.k T O.sub S (by decide);refine⟨Jb,Kb,?_⟩;refine⟨trivial,_,Nb.bk.rc rfl,trivial,_,Y.bk.rc rfl,?_⟩;refine ifd hp (fun Ob hp=>?_) fun Ob hp=>?_; rotate_left
   ·exact Da _ _ _ ua S va Y wa hp
   refine gdi hp fun Pb hp=>?_;exact Da _ _ _ ua S va Y wa hp
 exact hgo _ _ _ _ bb cb g h db hp
theorem zv9{need:Int}{units:P5}{m f:M}{Q:V->M->Prop}{rz:P5}(hS:Pre f m)(hp:ztF need units=some rz)(hq:∀m',Ext m m'->Q (.agg 5 [Il rz.p0,Il rz.p1,Il rz.p2,Il rz.p3,Il rz.p4]) m'):Wc prog tbl 92 [.c (Il need),.agg 5 [Il units.p0,Il units.p1,Il units.p2,Il units.p3,Il units.p4]] m Q:=by
 have S0:=hS.st;obtain⟨τ0,_⟩:=zr7;refine w92 ?_;unfold ztF at hp;intro m0 xb;obtain⟨yb,zb,Oe,Ab⟩:=S0.blk xb τ0 1;intro m1 Bb;obtain⟨Cb,Db,Eb,Fb⟩:=zb.blk Bb yb 2;have Gb:=Ab.k Eb;intro m2 Hb;obtain⟨Ib,Jb,Ya,Kb⟩:=Db.blk Hb Cb 3;have Nb:=Gb.k Ya;have Ob:=Fb.k Ya;intro m3 Pb;obtain⟨Qb,Rb,Ga,Sb⟩:=Mo.new (K:=Sh) (V':=Int) Jb Pb Ib 4;have Tb:=Nb.k Ga;have Ub:=Ob.k Ga;have Vb:=Kb.k Ga;intro m4 Wb;obtain⟨Za,Xb,wa,Yb⟩:=Rb.blk Wb Qb 5;have Zb:=Tb.k wa;have ac:=Ub.k wa;have bc:=Vb.k wa;have cc:=Sb.k wa;obtain⟨dc,ec,ab,xa,fc⟩:=Yb.sto Xb [Il 0,Il 0,Il 0,Il 0,Il 0,Il 0,Il 0,Il 0,Il 0,Il 0,(.map m2.nxt)];have bb:=Zb.k xa;have gc:=ac.k xa;have hc:=bc.k xa;have ic:=cc.k xa;refine⟨dc,ec,?_⟩;refine⟨_,_,_,_,_,bb.bk.ra,?_⟩;obtain⟨a,jc,hp⟩:=zqp hp;refine zv5 (p:=units) ab.pre  jc fun df kc=>?_;obtain⟨nc,ca⟩:=ab.call kc Za;have Y:=bb.k ca;have da:=gc.k ca;have Z:=hc.k ca;have ea:=fc.k ca;have fa:=ic.k ca;refine⟨_,rfl,_,_,_,_,_,Y.bk.ra,?_⟩;intro Fe Ae
 have hgo:∀(ya:Nat) (g:Int) (B:Int) (D:Int) (F:Int) (G:Int) (I:Int) (i:Int) (j:Int) (n:Int) (o:Int) (q:Int) (r:Int) (s:Int) (t:Int) (w:Int) (y:Int) (J:Option (Sh->Option (Int))) (ga:M) (z:Nat->Nat),St (Fm.of m) f f ga->Lb (Fm.of m) f z ga 1 m.nxt 5 [Il units.p0,Il units.p1,Il units.p2,Il units.p3,Il units.p4]->Lb (Fm.of m) f z ga 2 m0.nxt 5 [Il 0,Il 0,Il 0,Il 0,Il 0]->Lb (Fm.of m) f z ga 3 m1.nxt 5 [Il B,Il D,Il F,Il G,Il I]->Lb (Fm.of m) f z ga 5 m3.nxt 11 [Il i,Il j,Il n,Il o,Il q,Il r,Il s,Il t,Il w,Il y,(.map m2.nxt)]->Mo (Fm.of m) f z ga 4 (.map m2.nxt) J->ztE need units a ya B D F G I i j n o q r s t w y J g=some rz->Fe [.c (Il g)] ga:=by
  intro ya
  induction ya with
  | zero=>intro g B D F G I i j n o q r s t w y J ga z za Y da Z ea fa hp; cases hp
  | succ ya cb=>
   intro g B D F G I i j n o q r s t w y J ga z za Y da Z ea fa hp;refine Ae _ _ ?_;rw[ztE] at hp;refine ifd hp (fun oc hp=>?_) fun oc hp=>?_; rotate_left
   ·refine⟨_,_,_,_,_,Z.bk.ra,?_⟩;obtain⟨pc,qc,hp⟩:=zqp hp;refine zv5 (p:=({ p0:=B,p1:=D,p2:=F,p3:=G,p4:=I }:P5)) za.pre  qc fun ef sc=>?_;obtain⟨tc,ha⟩:=za.call sc z;have Aa:=Y.k ha;have ia:=da.k ha;have ja:=Z.k ha;have ka:=ea.k ha;have la:=fa.k ha;refine⟨_,rfl,?_⟩;refine gdi hp fun uc hp=>?_;intro Ge Be
    have hgo:∀(Ba:Nat) (ba:Int) (N:Int) (O:Int) (P:Int) (S:Int) (T:Int) (ma:M) (A:Nat->Nat),St (Fm.of m) f f ma->Lb (Fm.of m) f A ma 1 m.nxt 5 [Il units.p0,Il units.p1,Il units.p2,Il units.p3,Il units.p4]->Lb (Fm.of m) f A ma 2 m0.nxt 5 [Il 0,Il 0,Il 0,Il 0,Il 0]->Lb (Fm.of m) f A ma 3 m1.nxt 5 [Il N,Il O,Il P,Il S,Il T]->Lb (Fm.of m) f A ma 5 m3.nxt 11 [Il i,Il j,Il n,Il o,Il q,Il r,Il s,Il t,Il w,Il y,(.map m2.nxt)]->Mo (Fm.of m) f A ma 4 (.map m2.nxt) J->ztD need i j n o q r s t w y J pc Ba N O P S T ba=some rz->Ge [.c (Il ba)] ma:=by
     intro Ba
     induction Ba with
     | zero=>intro ba N O P S T ma A Ca Aa ia ja ka la hp; cases hp
     | succ Ba db=>
      intro ba N O P S T ma A Ca Aa ia ja ka la hp;refine Be _ _ ?_;rw[ztD] at hp;refine ifd hp (fun vc hp=>?_) fun vc hp=>?_; rotate_left
      ·refine⟨_,_,_,_,_,ja.bk.ra,?_⟩;obtain⟨wc,xc,yc,Pe,zc⟩:=ia.sto Ca [Il N,Il O,Il P,Il S,Il T];refine⟨wc,xc,?_⟩;refine⟨_,_,_,_,_,zc.bk.ra,?_⟩;obtain rfl:=oi hp;exact hq _ yc.ext'
      refine⟨_,_,_,_,_,_,_,_,_,_,_,ka.bk.ra,?_⟩;obtain⟨Qe,Ac,Re,sb⟩:=la.freeze Ca;obtain⟨Se,Bc,hp⟩:=zqp hp;refine zv8 (d:=({ s0:=({ pence:=i,remainder:=j }:Sh),s1:=({ pence:=n,remainder:=o }:Sh),s2:=({ pence:=q,remainder:=r }:Sh),s3:=({ pence:=s,remainder:=t }:Sh),s4:=({ pence:=w,remainder:=y }:Sh),having:=J }:Dv)) (member:=ba) Ac.pre sb Bc fun gf Cc=>?_;obtain⟨eb,na⟩:=Ca.call Cc A;have fb:=Aa.k na;have gb:=ia.k na;have Ha:=ja.k na;have hb:=ka.k na;have ib:=la.k na;refine⟨_,rfl,?_⟩;refine ifd hp (fun Dc hp=>?_) fun Dc hp=>?_; rotate_left
      ·refine gdi hp fun Ec hp=>?_;exact db _ _ _ _ _ _ _ A eb fb gb Ha hb ib hp
      refine⟨trivial,?_⟩;obtain⟨aa,Ia,hp⟩:=zqp hp;obtain⟨He,tb,ub,Ia⟩:=zqj Ia;refine⟨He,tb,ub,_,(Ha.bk.rc (zqW (l:=([N,O,P,S,T]:List Int)) (enc:=(C.int .i64)) 0 rfl Ia)),?_⟩;obtain⟨Fc,hp⟩:=zqq hp;refine⟨Fc,trivial,?_⟩;obtain⟨Gc,hp⟩:=zqq hp;obtain⟨Ie,Pa,Qa⟩:=zqX Gc;refine⟨Ie,Pa,Qa,?_⟩;obtain⟨Hc,Ic,Jc,Da,Ja⟩:=Ha.sta eb (pre:=[]) (post:=[]) (l:=([N,O,P,S,T]:List Int)) (enc:=(C.int .i64)) rfl rfl Pa Qa ((aa+1))
      replace Ja:Lb _ _ _ _ _ _ _ [(Il (sti ba 0 (aa+1) N)),(Il (sti ba 1 (aa+1) O)),(Il (sti ba 2 (aa+1) P)),(Il (sti ba 3 (aa+1) S)),(Il (sti ba 4 (aa+1) T))]:=Ja
      have Kc:=fb.k Da;have Nc:=gb.k Da;have Pc:=hb.k Da;have Qc:=ib.k Da;refine⟨Hc,Ic,?_⟩;refine gdi hp fun Rc hp=>?_;exact db _ _ _ _ _ _ _ A Jc Kc Nc Ja Pc Qc hp
    exact hgo _ _ _ _ _ _ _ _ z tc Aa ia ja ka la hp
   obtain⟨e,Ka,hp⟩:=zqp hp;obtain⟨Je,vb,wb,Ka⟩:=zqj Ka;refine⟨Je,vb,wb,_,(zrH (l:=([units.p0,units.p1,units.p2,units.p3,units.p4]:List Int)) (enc:=(C.int .i64)) rfl Ka),?_⟩;refine gdi hp fun Tc hp=>?_;refine gdi hp fun Uc hp=>?_;refine gdi hp fun Vc hp=>?_;refine gdi hp fun Xc hp=>?_;refine gdi hp fun Yc hp=>?_;refine gdi hp fun Zc hp=>?_;refine gdi hp fun ad hp=>?_;refine gdi hp fun bd hp=>?_;refine gdi hp fun cd hp=>?_;refine gdi hp fun dd hp=>?_;refine gdi hp fun ed hp=>?_;refine gdi hp fun fd hp=>?_;intro hf hd;obtain⟨jb,id,oa,jd⟩:=za.blk hd z 6;have kd:=Y.k oa;have ld:=da.k oa;have md:=Z.k oa;have nd:=ea.k oa;have od:=fa.k oa;obtain⟨pd,qd,sd,pa,kb⟩:=jd.sto id [(Il ((need * e) / a)),(Il ((need * e) % a))];have td:=kd.k pa;have ud:=ld.k pa;have vd:=md.k pa;have wd:=nd.k pa;have xd:=od.k pa;refine⟨pd,qd,?_⟩;refine⟨_,_,kb.bk.ra,trivial,trivial,?_⟩;obtain⟨yd,hp⟩:=zqq hp;obtain⟨Ke,Ra,Sa⟩:=zqX yd;refine⟨Ke,Ra,Sa,?_⟩;obtain⟨zd,Ad,mb,qa,sa⟩:=wd.staS sd (pre:=[]) (post:=[(.map m2.nxt)]) (l:=([({ pence:=i,remainder:=j }:Sh),({ pence:=n,remainder:=o }:Sh),({ pence:=q,remainder:=r }:Sh),({ pence:=s,remainder:=t }:Sh),({ pence:=w,remainder:=y }:Sh)]:List Sh)) rfl zse rfl Ra Sa ({ pence:=((need * e) / a),remainder:=((need * e) % a) }:Sh) rfl
   replace sa:Lb _ _ _ _ _ _ _ [(Il (sti g 0 ({ pence:=((need * e) / a),remainder:=((need * e) % a) }:Sh) ({ pence:=i,remainder:=j }:Sh)).pence),(Il (sti g 0 ({ pence:=((need * e) / a),remainder:=((need * e) % a) }:Sh) ({ pence:=i,remainder:=j }:Sh)).remainder),(Il (sti g 1 ({ pence:=((need * e) / a),remainder:=((need * e) % a) }:Sh) ({ pence:=n,remainder:=o }:Sh)).pence),(Il (sti g 1 ({ pence:=((need * e) / a),remainder:=((need * e) % a) }:Sh) ({ pence:=n,remainder:=o }:Sh)).remainder),(Il (sti g 2 ({ pence:=((need * e) / a),remainder:=((need * e) % a) }:Sh) ({ pence:=q,remainder:=r }:Sh)).pence),(Il (sti g 2 ({ pence:=((need * e) / a),remainder:=((need * e) % a) }:Sh) ({ pence:=q,remainder:=r }:Sh)).remainder),(Il (sti g 3 ({ pence:=((need * e) / a),remainder:=((need * e) % a) }:Sh) ({ pence:=s,remainder:=t }:Sh)).pence),(Il (sti g 3 ({ pence:=((need * e) / a),remainder:=((need * e) % a) }:Sh) ({ pence:=s,remainder:=t }:Sh)).remainder),(Il (sti g 4 ({ pence:=((need * e) / a),remainder:=((need * e) % a) }:Sh) ({ pence:=w,remainder:=y }:Sh)).pence),(Il (sti g 4 ({ pence:=((need * e) / a),remainder:=((need * e) % a) }:Sh) ({ pence:=w,remainder:=y }:Sh)).remainder),(.map m2.nxt)]:=sa
   have ob:=td.k qa;have pb:=ud.k qa;have qb:=vd.k qa;have La:=kb.k qa;have Ma:=xd.k qa;refine⟨zd,Ad,?_⟩;refine⟨trivial,_,sa.bk.rc rfl,_,_,La.bk.ra,?_⟩;obtain⟨Cd,hp⟩:=zqq hp;refine⟨_,Ma.mi.lk zvf (k:=({ pence:=((need * e) / a),remainder:=((need * e) % a) }:Sh)) Cd rfl,?_⟩
   cases ta:(zqK J ({ pence:=((need * e) / a),remainder:=((need * e) % a) }:Sh)) with
   | none=>
    rw[zqS ta] at hp;refine⟨fun _=>?_,fun u hu=>(by cases hu)⟩;refine gdi hp fun Dd hp=>?_;obtain⟨Ed,hp⟩:=zqq hp;obtain⟨Te,Fd,hp⟩:=zqp hp;obtain⟨Ue,Ve,We,Gd,Hd,Id,Jd,Ld,ua,Md⟩:=Mo.opa zvf mb Ma (k:=({ pence:=((need * e) / a),remainder:=((need * e) % a) }:Sh)) Ed (v:=(1:Int)) Fd (.c (Il 0)) (kv:=.agg 2 [(Il ((need * e) / a)),(Il ((need * e) % a))]) (yv:=.c (Il (1:Int))) rfl rfl;have Nd:=ob.k ua;have Od:=pb.k ua;have Pd:=qb.k ua;have Qd:=sa.k ua;have Rd:=La.k ua;refine⟨_,_,_,Hd,⟨_,Id,by rw[ta]; exact⟨rfl,rfl⟩⟩,_,Gd,rfl,Jd,?_⟩;refine⟨trivial,_,Rd.bk.rc rfl,trivial,?_⟩;obtain⟨Sd,hp⟩:=zqq hp;obtain⟨Me,Ta,Ua⟩:=zqX Sd;refine⟨Me,Ta,Ua,?_⟩;obtain⟨Td,Ud,Vd,Ea,Na⟩:=Pd.sta Ld (pre:=[]) (post:=[]) (l:=([B,D,F,G,I]:List Int)) (enc:=(C.int .i64)) rfl rfl Ta Ua (((need * e) / a))
    replace Na:Lb _ _ _ _ _ _ _ [(Il (sti g 0 ((need * e) / a) B)),(Il (sti g 1 ((need * e) / a) D)),(Il (sti g 2 ((need * e) / a) F)),(Il (sti g 3 ((need * e) / a) G)),(Il (sti g 4 ((need * e) / a) I))]:=Na
    have Wd:=Nd.k Ea;have Xd:=Od.k Ea;have Yd:=Qd.k Ea;have Zd:=Md.k Ea;refine⟨Td,Ud,?_⟩;refine gdi hp fun ae hp=>?_;exact cb _ _ _ _ _ _ _ _ _ _ _ _ _ _ _ _ _ _ jb Vd Wd Xd Na Yd Zd hp
   | some rb=>
    rw[zqT ta] at hp;refine⟨fun h=>(by cases h),fun u hu=>?_⟩;obtain rfl:=oi hu;refine⟨_,rfl,?_⟩;refine gdi hp fun be hp=>?_;obtain⟨ce,hp⟩:=zqq hp;obtain⟨Xe,de,hp⟩:=zqp hp;obtain⟨Ye,Ze,af,ee,fe,ge,he,ie,va,je⟩:=Mo.opa zvf mb Ma (k:=({ pence:=((need * e) / a),remainder:=((need * e) % a) }:Sh)) ce (v:=(rb+1)) de (.c (Il 0)) (kv:=.agg 2 [(Il ((need * e) / a)),(Il ((need * e) % a))]) (yv:=.c (Il (rb+1))) rfl rfl;have ke:=ob.k va;have me:=pb.k va;have oe:=qb.k va;have pe:=sa.k va;have qe:=La.k va;refine⟨_,_,_,fe,⟨_,ge,by rw[ta]; exact⟨rfl,rfl⟩⟩,_,ee,rfl,he,?_⟩;refine⟨trivial,_,qe.bk.rc rfl,trivial,?_⟩;obtain⟨re,hp⟩:=zqq hp;obtain⟨Ne,Va,Wa⟩:=zqX re;refine⟨Ne,Va,Wa,?_⟩;obtain⟨se,te,ue,Fa,Oa⟩:=oe.sta ie (pre:=[]) (post:=[]) (l:=([B,D,F,G,I]:List Int)) (enc:=(C.int .i64)) rfl rfl Va Wa (((need * e) / a))
    replace Oa:Lb _ _ _ _ _ _ _ [(Il (sti g 0 ((need * e) / a) B)),(Il (sti g 1 ((need * e) / a) D)),(Il (sti g 2 ((need * e) / a) F)),(Il (sti g 3 ((need * e) / a) G)),(Il (sti g 4 ((need * e) / a) I))]:=Oa
    have ve:=ke.k Fa;have we:=me.k Fa;have xe:=pe.k Fa;have ye:=je.k Fa;refine⟨se,te,?_⟩;refine gdi hp fun ze hp=>?_;exact cb _ _ _ _ _ _ _ _ _ _ _ _ _ _ _ _ _ _ jb ue ve we Oa xe ye hp
 exact hgo _ _ _ _ _ _ _ _ _ _ _ _ _ _ _ _ _ _ _ Za nc Y da Z ea fa hp
theorem zwa{o:Oc}{m f:M}{Q:V->M->Prop}{rz:Int}(hS:Pre f m)(hp:ztG o=some rz)(hq:∀m',Ext m m'->Q (.c (Il rz)) m'):Wc prog tbl 63 [.agg 6 [Il o.need,Il o.calls.p0,Il o.calls.p1,Il o.calls.p2,Il o.calls.p3,Il o.calls.p4]] m Q:=by
 have i:=hS.st;obtain⟨j,_⟩:=zr7;refine w63 ?_;unfold ztG at hp;intro l a;obtain⟨g,d,h,e⟩:=i.blk a j 1;refine⟨trivial,_,e.bk.rc rfl,?_⟩;obtain rfl:=oi hp;exact hq _ d.ext'
theorem zwb{o:Oc}{m f:M}{Q:V->M->Prop}{rz:Int}(hS:Pre f m)(hp:ztH o=some rz)(hq:∀m',Ext m m'->Q (.c (Il rz)) m'):Wc prog tbl 70 [.agg 6 [Il o.need,Il o.calls.p0,Il o.calls.p1,Il o.calls.p2,Il o.calls.p3,Il o.calls.p4]] m Q:=by
 have u:=hS.st;obtain⟨w,_⟩:=zr7;refine w70 ?_;unfold ztH at hp;intro y e;obtain⟨g,d,s,a⟩:=u.blk e w 1;refine⟨trivial,_,a.bk.rc rfl,trivial,_,_,_,_,_,a.bk.rp (k:=1) (j:=5) rfl (by omega),?_⟩;obtain⟨t,h,hp⟩:=zqp hp;refine zv5 (p:=o.calls) d.pre  h fun z i=>?_;obtain⟨l,n⟩:=d.call i g;have q:=a.k n;refine⟨_,rfl,(q.bk.rc rfl),?_⟩;refine gdi hp fun r hp=>?_;obtain rfl:=oi hp;exact hq _ l.ext'
theorem zwc{o:Oc}{more:P5}{m f:M}{Q:V->M->Prop}{rz:Oc}(hS:Pre f m)(hp:ztI o more=some rz)(hq:∀m',Ext m m'->Q (.agg 6 [Il rz.need,Il rz.calls.p0,Il rz.calls.p1,Il rz.calls.p2,Il rz.calls.p3,Il rz.calls.p4]) m'):Wc prog tbl 95 [.agg 6 [Il o.need,Il o.calls.p0,Il o.calls.p1,Il o.calls.p2,Il o.calls.p3,Il o.calls.p4],.agg 5 [Il more.p0,Il more.p1,Il more.p2,Il more.p3,Il more.p4]] m Q:=by
 have S0:=hS.st;obtain⟨τ0,_⟩:=zr7;refine w95 ?_;unfold ztI at hp;intro m0 i;obtain⟨l,n,da,q⟩:=S0.blk i τ0 1;intro m1 r;obtain⟨s,t,u,w⟩:=n.blk r l 2;have y:=q.k u;intro m2 z;obtain⟨A,d,e,B⟩:=t.blk z s 3;have g:=y.k e;have D:=w.k e;refine⟨trivial,_,_,_,_,_,g.bk.rp (k:=1) (j:=5) rfl (by omega),_,_,_,_,_,D.bk.ra,?_⟩;obtain⟨a,F,hp⟩:=zqp hp;refine zv6 (p:=o.calls) (more:=more) d.pre  F fun ha G=>?_;obtain⟨I,h⟩:=d.call G A;have J:=g.k h;have N:=B.k h;refine⟨_,_,_,_,_,rfl,trivial,?_⟩;obtain⟨O,P,S,T,c⟩:=J.stoP I 1 [Il a.p0,Il a.p1,Il a.p2,Il a.p3,Il a.p4] (Nat.le_of_ble_eq_true rfl) rfl
 replace c:Lb _ _ _ _ _ _ _ [Il o.need,Il a.p0,Il a.p1,Il a.p2,Il a.p3,Il a.p4]:=c
 have Y:=N.k T;refine⟨O,P,?_⟩;refine⟨_,_,_,_,_,_,c.bk.ra,?_⟩;obtain⟨Z,aa,ba,ea,ca⟩:=Y.sto S [Il o.need,Il a.p0,Il a.p1,Il a.p2,Il a.p3,Il a.p4];refine⟨Z,aa,?_⟩;refine⟨_,_,_,_,_,_,ca.bk.ra,?_⟩;obtain rfl:=oi hp;exact hq _ ba.ext'
theorem zwd{m_:Mb}{m f:M}{Q:V->M->Prop}{rz:Int}(hS:Pre f m)(hp:ztJ m_=some rz)(hq:∀m',Ext m m'->Q (.c (Il rz)) m'):Wc prog tbl 113 [.agg 3 [Il m_.Sum,Il m_.Class,Il m_.Most]] m Q:=by
 have n:=hS.st;obtain⟨o,_⟩:=zr7;refine zuH ?_;unfold ztJ at hp;intro p d;obtain⟨j,e,l,a⟩:=n.blk d o 1;refine⟨trivial,_,a.bk.rc rfl,trivial,_,a.bk.rc rfl,?_⟩;refine gdi hp fun g hp=>?_;refine gdi hp fun h hp=>?_;refine gdi hp fun i hp=>?_;obtain rfl:=oi hp;exact hq _ e.ext'
theorem zwe{m_:Mb}{m f:M}{Q:V->M->Prop}{rz:Int}(hS:Pre f m)(hp:ztK m_=some rz)(hq:∀m',Ext m m'->Q (.c (Il rz)) m'):Wc prog tbl 115 [.agg 3 [Il m_.Sum,Il m_.Class,Il m_.Most]] m Q:=by
 have i:=hS.st;obtain⟨j,_⟩:=zr7;refine zuy ?_;unfold ztK at hp;intro l a;obtain⟨g,d,h,e⟩:=i.blk a j 1;refine⟨trivial,_,e.bk.rc rfl,?_⟩;obtain rfl:=oi hp;exact hq _ d.ext'
theorem zwf{w:Wk}{of_:F5}{number:Mb->Option (Int)}{ca100 ca101 ca300:C}{m f:M}{Q:V->M->Prop}{rz:P5}(hS:Pre f m)(ha100:Sl f ca100 w.s.Members)(_ha101:Sl f ca101 w.s.Losses)(ha300:zve f ca300 number)(hp:ztM w of_ number=some rz)(hq:∀m',Ext m m'->Q (.agg 5 [Il rz.p0,Il rz.p1,Il rz.p2,Il rz.p3,Il rz.p4]) m'):Wc prog tbl 112 [.agg 10 [ca100,ca101,Il w.s.Treaty.Lo,Il w.s.Treaty.Hi,Il w.s.Reserve,.bool w.asked.b0,.bool w.asked.b1,.bool w.asked.b2,.bool w.asked.b3,.bool w.asked.b4],.agg 5 [.bool of_.b0,.bool of_.b1,.bool of_.b2,.bool of_.b3,.bool of_.b4],.c ca300] m Q:=by
 have S0:=hS.st;obtain⟨τ0,_⟩:=zr7;refine zuC ?_;unfold ztM at hp;intro m0 ia;obtain⟨ja,ka,ob,la⟩:=S0.blk ia τ0 1;intro m1 ma;obtain⟨na,oa,pa,qa⟩:=ka.blk ma ja 2;have sa:=la.k pa;intro m2 ta;obtain⟨ua,va,aa,wa⟩:=oa.blk ta na 3;have xa:=sa.k aa;have ya:=qa.k aa;intro m3 za;obtain⟨Aa,Ba,A,n⟩:=va.blk za ua 4;have o:=xa.k A;have q:=ya.k A;have p:=wa.k A;refine⟨trivial,trivial,_,o.bk.rc rfl,ha100.isSl,?_⟩;intro R5 jb
 have hgo:∀(r:Nat) (B:Int) (a:Int) (d:Int) (e:Int) (g:Int) (h:Int) (S:M) (i:Nat->Nat),St (Fm.of m) f f S->Lb (Fm.of m) f i S 1 m.nxt 10 [ca100,ca101,Il w.s.Treaty.Lo,Il w.s.Treaty.Hi,Il w.s.Reserve,.bool w.asked.b0,.bool w.asked.b1,.bool w.asked.b2,.bool w.asked.b3,.bool w.asked.b4]->Lb (Fm.of m) f i S 2 m0.nxt 5 [.bool of_.b0,.bool of_.b1,.bool of_.b2,.bool of_.b3,.bool of_.b4]->Lb (Fm.of m) f i S 3 m1.nxt 5 [Il 0,Il 0,Il 0,Il 0,Il 0]->Lb (Fm.of m) f i S 4 m2.nxt 5 [Il a,Il d,Il e,Il g,Il h]->ztL w of_ number r a d e g h B=some rz->R5 [.c (Il B)] S:=by
  intro r
  induction r with
  | zero=>intro B a d e g h S i t o q p n hp; cases hp
  | succ r ea=>
   intro B a d e g h S i t o q p n hp;refine jb _ _ ?_;rw[ztL] at hp
   try rw[ha100.slLen]
   refine ifd hp (fun Ca hp=>?_) fun Ca hp=>?_; rotate_left
   ·refine⟨_,_,_,_,_,n.bk.ra,?_⟩;obtain⟨Da,Ea,Fa,pb,Ga⟩:=p.sto t [Il a,Il d,Il e,Il g,Il h];refine⟨Da,Ea,?_⟩;refine⟨_,_,_,_,_,Ga.bk.ra,?_⟩;obtain rfl:=oi hp;exact hq _ Fa.ext'
   obtain⟨D,F,hp⟩:=zqp hp;obtain⟨n8,fa,T,F⟩:=zqj F;obtain⟨_,Ha⟩:=zsb ha100 F;refine⟨n8,fa,(by first|exact T|(rw[ha100.slLen];exact T)),_,_,_,(Ha _ t.sub).1,?_⟩;intro yb Ia;obtain⟨G,Ja,u,Ka⟩:=t.blk Ia i 5;have La:=o.k u;have Ma:=q.k u;have Na:=p.k u;have Oa:=n.k u;obtain⟨Pa,Qa,I,y,Ra⟩:=Ka.sto Ja [Il D.Sum,Il D.Class,Il D.Most];have ba:=La.k y;have J:=Ma.k y;have ca:=Na.k y;have da:=Oa.k y;refine⟨Pa,Qa,?_⟩;refine⟨trivial,?_⟩;obtain⟨qb,N,hp⟩:=zqp hp;obtain⟨kb,ga,ha,N⟩:=zqj N;refine⟨kb,ga,ha,_,(J.bk.rc (zqW (l:=([of_.b0,of_.b1,of_.b2,of_.b3,of_.b4]:List Bool)) (enc:=C.bool) 0 rfl N)),?_⟩;refine zq1 hp (fun Sa hp=>?_) fun Sa hp=>?_; rotate_left
   ·refine gdi hp fun Ta hp=>?_;exact ea _ _ _ _ _ _ _ G I ba J ca da hp
   refine⟨_,_,_,Ra.bk.ra,?_⟩;obtain⟨j,Ua,hp⟩:=zqp hp;refine ha300 _ _ _ _ _ (Sub.refl _) I.pre  Ua fun zb Va=>?_;obtain⟨Wa,z⟩:=I.call Va G;have Xa:=ba.k z;have Ya:=J.k z;have Za:=ca.k z;have ab:=da.k z;refine⟨_,rfl,trivial,?_⟩;obtain⟨bb,hp⟩:=zqq hp;obtain⟨mb,Y,Z⟩:=zqX bb;refine⟨mb,Y,Z,?_⟩;obtain⟨cb,db,eb,O,P⟩:=ab.sta Wa (pre:=[]) (post:=[]) (l:=([a,d,e,g,h]:List Int)) (enc:=(C.int .i64)) rfl rfl Y Z j
   replace P:Lb _ _ _ _ _ _ _ [(Il (sti B 0 j a)),(Il (sti B 1 j d)),(Il (sti B 2 j e)),(Il (sti B 3 j g)),(Il (sti B 4 j h))]:=P
   have fb:=Xa.k O;have gb:=Ya.k O;have hb:=Za.k O;refine⟨cb,db,?_⟩;refine gdi hp fun ib hp=>?_;exact ea _ _ _ _ _ _ _ G eb fb gb hb P hp
 exact hgo _ _ _ _ _ _ _ _ Aa Ba o q p n hp
theorem zwg{w:Wk}{of_:F5}{ca100 ca101:C}{m f:M}{Q:V->M->Prop}{rz:P5}(hS:Pre f m)(ha100:Sl f ca100 w.s.Members)(ha101:Sl f ca101 w.s.Losses)(hp:ztN w of_=some rz)(hq:∀m',Ext m m'->Q (.agg 5 [Il rz.p0,Il rz.p1,Il rz.p2,Il rz.p3,Il rz.p4]) m'):Wc prog tbl 93 [.agg 10 [ca100,ca101,Il w.s.Treaty.Lo,Il w.s.Treaty.Hi,Il w.s.Reserve,.bool w.asked.b0,.bool w.asked.b1,.bool w.asked.b2,.bool w.asked.b3,.bool w.asked.b4],.agg 5 [.bool of_.b0,.bool of_.b1,.bool of_.b2,.bool of_.b3,.bool of_.b4]] m Q:=by
 have S0:=hS.st;obtain⟨τ0,_⟩:=zr7;refine w93 ?_;unfold ztN at hp;intro m0 h;obtain⟨i,j,Y,l⟩:=S0.blk h τ0 1;intro m1 n;obtain⟨o,p,q,t⟩:=j.blk n i 2;have u:=l.k q;intro m2 y;obtain⟨z,d,e,A⟩:=p.blk y o 3;have B:=u.k e;have D:=t.k e;refine⟨_,_,_,_,_,_,_,_,_,_,B.bk.ra,_,_,_,_,_,D.bk.ra,?_⟩
 have g:zve f ((C.fn (Fn.func 113) [] [])) (fun c=>ztJ c):=by
  intro f' m' c r Q hs hpre  hg hq;exact zwd hpre  hg hq
 obtain⟨a,F,hp⟩:=zqp hp;refine zwf (w:=w) (of_:=of_) (number:=(fun c=>ztJ c)) d.pre ha100 ha101 g F fun ca G=>?_;obtain⟨I,J⟩:=d.call G z;have N:=A.k J;refine⟨_,_,_,_,_,rfl,?_⟩;obtain⟨O,P,S,Z,T⟩:=N.sto I [Il a.p0,Il a.p1,Il a.p2,Il a.p3,Il a.p4];refine⟨O,P,?_⟩;refine⟨_,_,_,_,_,T.bk.ra,?_⟩;obtain rfl:=oi hp;exact hq _ S.ext'
theorem zwh{w:Wk}{of_:F5}{ca100 ca101:C}{m f:M}{Q:V->M->Prop}{rz:P5}(hS:Pre f m)(ha100:Sl f ca100 w.s.Members)(ha101:Sl f ca101 w.s.Losses)(hp:ztO w of_=some rz)(hq:∀m',Ext m m'->Q (.agg 5 [Il rz.p0,Il rz.p1,Il rz.p2,Il rz.p3,Il rz.p4]) m'):Wc prog tbl 96 [.agg 10 [ca100,ca101,Il w.s.Treaty.Lo,Il w.s.Treaty.Hi,Il w.s.Reserve,.bool w.asked.b0,.bool w.asked.b1,.bool w.asked.b2,.bool w.asked.b3,.bool w.asked.b4],.agg 5 [.bool of_.b0,.bool of_.b1,.bool of_.b2,.bool of_.b3,.bool of_.b4]] m Q:=by
 have S0:=hS.st;obtain⟨τ0,_⟩:=zr7;refine w96 ?_;unfold ztO at hp;intro m0 h;obtain⟨i,j,Y,l⟩:=S0.blk h τ0 1;intro m1 n;obtain⟨o,p,q,t⟩:=j.blk n i 2;have u:=l.k q;intro m2 y;obtain⟨z,d,e,A⟩:=p.blk y o 3;have B:=u.k e;have D:=t.k e;refine⟨_,_,_,_,_,_,_,_,_,_,B.bk.ra,_,_,_,_,_,D.bk.ra,?_⟩
 have g:zve f ((C.fn (Fn.func 115) [] [])) (fun c=>ztK c):=by
  intro f' m' c r Q hs hpre  hg hq;exact zwe hpre  hg hq
 obtain⟨a,F,hp⟩:=zqp hp;refine zwf (w:=w) (of_:=of_) (number:=(fun c=>ztK c)) d.pre ha100 ha101 g F fun ca G=>?_;obtain⟨I,J⟩:=d.call G z;have N:=A.k J;refine⟨_,_,_,_,_,rfl,?_⟩;obtain⟨O,P,S,Z,T⟩:=N.sto I [Il a.p0,Il a.p1,Il a.p2,Il a.p3,Il a.p4];refine⟨O,P,?_⟩;refine⟨_,_,_,_,_,T.bk.ra,?_⟩;obtain rfl:=oi hp;exact hq _ S.ext'
theorem zwi{w:Wk}{sharing:F5}{shares:P5}{ca100 ca101:C}{m f:M}{Q:V->M->Prop}{rz:F5}(hS:Pre f m)(ha100:Sl f ca100 w.s.Members)(_ha101:Sl f ca101 w.s.Losses)(hp:ztQ w sharing shares=some rz)(hq:∀m',Ext m m'->Q (.agg 5 [.bool rz.b0,.bool rz.b1,.bool rz.b2,.bool rz.b3,.bool rz.b4]) m'):Wc prog tbl 94 [.agg 10 [ca100,ca101,Il w.s.Treaty.Lo,Il w.s.Treaty.Hi,Il w.s.Reserve,.bool w.asked.b0,.bool w.asked.b1,.bool w.asked.b2,.bool w.asked.b3,.bool w.asked.b4],.agg 5 [.bool sharing.b0,.bool sharing.b1,.bool sharing.b2,.bool sharing.b3,.bool sharing.b4],.agg 5 [Il shares.p0,Il shares.p1,Il shares.p2,Il shares.p3,Il shares.p4]] m Q:=by
 have S0:=hS.st;obtain⟨τ0,_⟩:=zr7;refine w94 ?_;unfold ztQ at hp;intro m0 oa;obtain⟨pa,qa,wb,sa⟩:=S0.blk oa τ0 1;intro m1 ta;obtain⟨ua,va,wa,xa⟩:=qa.blk ta pa 2;have ya:=sa.k wa;intro m2 za;obtain⟨Aa,Ba,da,Ca⟩:=va.blk za ua 3;have Da:=ya.k da;have Ea:=xa.k da;intro m3 Fa;obtain⟨Ga,Ha,B,o⟩:=Ba.blk Fa Aa 4;have p:=Da.k B;have q:=Ea.k B;have t:=Ca.k B;refine⟨trivial,trivial,_,p.bk.rc rfl,ha100.isSl,?_⟩;intro R5 rb
 have hgo:∀(u:Nat) (r:Int) (a:Bool) (d:Bool) (e:Bool) (g:Bool) (h:Bool) (T:M) (j:Nat->Nat),St (Fm.of m) f f T->Lb (Fm.of m) f j T 1 m.nxt 10 [ca100,ca101,Il w.s.Treaty.Lo,Il w.s.Treaty.Hi,Il w.s.Reserve,.bool w.asked.b0,.bool w.asked.b1,.bool w.asked.b2,.bool w.asked.b3,.bool w.asked.b4]->Lb (Fm.of m) f j T 2 m0.nxt 5 [.bool a,.bool d,.bool e,.bool g,.bool h]->Lb (Fm.of m) f j T 3 m1.nxt 5 [Il shares.p0,Il shares.p1,Il shares.p2,Il shares.p3,Il shares.p4]->Lb (Fm.of m) f j T 4 m2.nxt 5 [.bool false,.bool false,.bool false,.bool false,.bool false]->ztP w shares u a d e g h r=some rz->R5 [.c (Il r)] T:=by
  intro u
  induction u with
  | zero=>intro r a d e g h T j y p q t o hp; cases hp
  | succ u ia=>
   intro r a d e g h T j y p q t o hp;refine rb _ _ ?_;rw[ztP] at hp
   try rw[ha100.slLen]
   refine ifd hp (fun Ia hp=>?_) fun Ia hp=>?_; rotate_left
   ·refine⟨_,_,_,_,_,q.bk.ra,?_⟩;obtain⟨Ja,Ka,La,xb,Ma⟩:=o.sto y [.bool a,.bool d,.bool e,.bool g,.bool h];refine⟨Ja,Ka,?_⟩;refine⟨_,_,_,_,_,Ma.bk.ra,?_⟩;obtain rfl:=oi hp;exact hq _ La.ext'
   obtain⟨i,D,hp⟩:=zqp hp;obtain⟨n8,ja,Y,D⟩:=zqj D;obtain⟨_,Na⟩:=zsb ha100 D;refine⟨n8,ja,(by first|exact Y|(rw[ha100.slLen];exact Y)),_,_,_,(Na _ y.sub).1,?_⟩;intro Gb Oa;obtain⟨ea,Pa,z,Qa⟩:=y.blk Oa j 5;have Ra:=p.k z;have Sa:=q.k z;have Ta:=t.k z;have Ua:=o.k z;obtain⟨Va,Wa,fa,A,Xa⟩:=Qa.sto Pa [Il i.Sum,Il i.Class,Il i.Most];have ga:=Ra.k A;have F:=Sa.k A;have G:=Ta.k A;have ha:=Ua.k A;refine⟨Va,Wa,?_⟩;refine⟨trivial,?_⟩;obtain⟨yb,I,hp⟩:=zqp hp;obtain⟨sb,ka,la,I⟩:=zqj I;refine⟨sb,ka,la,_,(F.bk.rc (zqW (l:=([a,d,e,g,h]:List Bool)) (enc:=C.bool) 0 rfl I)),?_⟩;refine zq1 hp (fun Ya hp=>?_) fun Ya hp=>?_; rotate_left
   ·refine⟨trivial,?_⟩;obtain⟨Za,hp⟩:=zqq hp;obtain⟨tb,Z,aa⟩:=zqX Za;refine⟨tb,Z,aa,?_⟩;obtain⟨ab,bb,cb,J,N⟩:=F.sta fa (pre:=[]) (post:=[]) (l:=([a,d,e,g,h]:List Bool)) (enc:=C.bool) rfl rfl Z aa false
    replace N:Lb _ _ _ _ _ _ _ [(.bool (sti r 0 false a)),(.bool (sti r 1 false d)),(.bool (sti r 2 false e)),(.bool (sti r 3 false g)),(.bool (sti r 4 false h))]:=N
    have db:=ga.k J;have eb:=G.k J;have fb:=ha.k J;refine⟨ab,bb,?_⟩;refine gdi hp fun gb hp=>?_;exact ia _ _ _ _ _ _ _ ea cb db N eb fb hp
   refine⟨trivial,?_⟩;obtain⟨n,O,hp⟩:=zqp hp;obtain⟨ub,ma,na,O⟩:=zqj O;refine⟨ub,ma,na,_,(G.bk.rc (zqW (l:=([shares.p0,shares.p1,shares.p2,shares.p3,shares.p4]:List Int)) (enc:=(C.int .i64)) 0 rfl O)),trivial,_,Xa.bk.rc rfl,trivial,?_⟩;obtain⟨hb,hp⟩:=zqq hp;obtain⟨vb,ba,ca⟩:=zqX hb;refine⟨vb,ba,ca,?_⟩;obtain⟨ib,jb,kb,P,S⟩:=F.sta fa (pre:=[]) (post:=[]) (l:=([a,d,e,g,h]:List Bool)) (enc:=C.bool) rfl rfl ba ca ((decide (n<=i.Most)))
   replace S:Lb _ _ _ _ _ _ _ [(.bool (sti r 0 (decide (n<=i.Most)) a)),(.bool (sti r 1 (decide (n<=i.Most)) d)),(.bool (sti r 2 (decide (n<=i.Most)) e)),(.bool (sti r 3 (decide (n<=i.Most)) g)),(.bool (sti r 4 (decide (n<=i.Most)) h))]:=S
   have mb:=ga.k P;have ob:=G.k P;have pb:=ha.k P;refine⟨ib,jb,?_⟩;refine gdi hp fun qb hp=>?_;exact ia _ _ _ _ _ _ _ ea kb mb S ob pb hp
 exact hgo _ _ _ _ _ _ _ _ Ga Ha p q t o hp
theorem zwj{w:Wk}{need:Int}{ca100 ca101:C}{m f:M}{Q:V->M->Prop}{rz:Oc}(hS:Pre f m)(ha100:Sl f ca100 w.s.Members)(ha101:Sl f ca101 w.s.Losses)(hp:ztS w need=some rz)(hq:∀m',Ext m m'->Q (.agg 6 [Il rz.need,Il rz.calls.p0,Il rz.calls.p1,Il rz.calls.p2,Il rz.calls.p3,Il rz.calls.p4]) m'):Wc prog tbl 68 [.agg 10 [ca100,ca101,Il w.s.Treaty.Lo,Il w.s.Treaty.Hi,Il w.s.Reserve,.bool w.asked.b0,.bool w.asked.b1,.bool w.asked.b2,.bool w.asked.b3,.bool w.asked.b4],.c (Il need)] m Q:=by
 have S0:=hS.st;obtain⟨τ0,_⟩:=zr7;refine w68 ?_;unfold ztS at hp;intro m0 Ta;obtain⟨Ua,Va,Vd,Wa⟩:=S0.blk Ta τ0 1;intro m1 Xa;obtain⟨Ya,Za,ab,bb⟩:=Va.blk Xa Ua 2;have cb:=Wa.k ab;intro m2 db;obtain⟨eb,fb,qa,gb⟩:=Za.blk db Ya 3;have hb:=cb.k qa;have ib:=bb.k qa;obtain⟨sa,jb,kb,ta,mb⟩:=gb.sto fb [Il need,Il 0,Il 0,Il 0,Il 0,Il 0];have ua:=hb.k ta;have ob:=ib.k ta;refine⟨sa,jb,?_⟩;refine⟨trivial,_,_,_,_,_,ua.bk.rp (k:=5) (j:=5) rfl (by omega),?_⟩;intro m9 pb;obtain⟨qb,rb,ka,sb⟩:=kb.blk pb eb 4;have tb:=ua.k ka;have ub:=ob.k ka;have vb:=mb.k ka;obtain⟨wb,xb,yb,la,B⟩:=sb.sto rb [.bool w.asked.b0,.bool w.asked.b1,.bool w.asked.b2,.bool w.asked.b3,.bool w.asked.b4];have ca:=tb.k la;have D:=ub.k la;have F:=vb.k la;refine⟨wb,xb,?_⟩;intro Ud Td
 have hgo:∀(da:Nat) (e:Int) (g:Int) (h:Int) (i:Int) (l:Int) (n:Int) (p:Bool) (q:Bool) (r:Bool) (t:Bool) (u:Bool) (ba:M) (y:Nat->Nat),St (Fm.of m) f f ba->Lb (Fm.of m) f y ba 1 m.nxt 10 [ca100,ca101,Il w.s.Treaty.Lo,Il w.s.Treaty.Hi,Il w.s.Reserve,.bool w.asked.b0,.bool w.asked.b1,.bool w.asked.b2,.bool w.asked.b3,.bool w.asked.b4]->Lb (Fm.of m) f y ba 2 m0.nxt 6 [Il 0,Il 0,Il 0,Il 0,Il 0,Il 0]->Lb (Fm.of m) f y ba 3 m1.nxt 6 [Il e,Il g,Il h,Il i,Il l,Il n]->Lb (Fm.of m) f y ba 4 sa.nxt 5 [.bool p,.bool q,.bool r,.bool t,.bool u]->ztR w need da e g h i l n p q r t u=some rz->Ud [] ba:=by
  intro da
  induction da with
  | zero=>intro e g h i l n p q r t u ba y ma ca D F B hp; cases hp
  | succ da zb=>
   intro e g h i l n p q r t u ba y ma ca D F B hp;refine Td  _ ?_;rw[ztR] at hp;refine⟨_,_,_,_,_,B.bk.ra,?_⟩;refine zq2 hp (fun Ab hp=>?_) fun Ab hp=>?_; rotate_left
   ·refine⟨_,_,_,_,_,_,F.bk.ra,?_⟩;obtain⟨Bb,Cb,Db,Wd,Eb⟩:=D.sto ma [Il e,Il g,Il h,Il i,Il l,Il n];refine⟨Bb,Cb,?_⟩;refine⟨_,_,_,_,_,_,Eb.bk.ra,?_⟩;obtain rfl:=oi hp;exact hq _ Db.ext'
   intro ge Fb;obtain⟨G,va,ea,Sa⟩:=ma.growK Fb y 5;have wa:=ca.k ea;have Gb:=D.k ea;have xa:=F.k ea;have ya:=B.k ea;have Hb:=Sa 0 (by decide);refine⟨_,_,_,_,_,_,xa.bk.ra,?_⟩;obtain⟨Ib,Jb,hp⟩:=zqp hp;refine zwb (o:=({ need:=e,calls:=({ p0:=g,p1:=h,p2:=i,p3:=l,p4:=n }:P5) }:Oc)) va.pre  Jb fun he Kb=>?_;obtain⟨za,I⟩:=va.call Kb G;have Aa:=wa.k I;have Nb:=Gb.k I;have Ob:=xa.k I;have Ba:=ya.k I;have Pb:=Hb.k I;refine⟨_,rfl,_,_,_,_,_,_,_,_,_,_,Aa.bk.ra,(by rw[show zaL cmC _=true from zoV (zqt ha100.noFn (zqt ha101.noFn (zqt rfl (zqt rfl (zqt rfl (zqt rfl (zqt rfl (zqt rfl (zqt rfl (zqt rfl zqu))))))))))]; exact(wa.bk.ra)),_,_,_,_,_,Ba.bk.ra,(ya.bk.ra),?_⟩;obtain⟨Qb,Rb,hp⟩:=zqp hp;refine zwg (w:=w) (of_:=({ b0:=p,b1:=q,b2:=r,b3:=t,b4:=u }:F5)) za.pre ha100 ha101 Rb fun ie Sb=>?_;obtain⟨Ca,J⟩:=za.call Sb G;have Tb:=Aa.k J;have Ub:=Nb.k J;have Vb:=Ob.k J;have Wb:=Ba.k J;have Xb:=Pb.k J;refine⟨_,_,_,_,_,rfl,?_⟩;obtain⟨z,Yb,hp⟩:=zqp hp;refine zv9 (need:=Ib) (units:=Qb) Ca.pre  Yb fun je Zb=>?_;obtain⟨ac,N⟩:=Ca.call Zb G;have bc:=Tb.k N;have cc:=Ub.k N;have dc:=Vb.k N;have ec:=Wb.k N;have fc:=Xb.k N;refine⟨_,_,_,_,_,rfl,?_⟩;intro ke gc;obtain⟨hc,fa,ic⟩:=fc.set ac gc;have Da:=bc.k fa;have jc:=cc.k fa;have Ea:=dc.k fa;have Fa:=ec.k fa;refine⟨(Fa.bk.ra),(by rw[show zaL cmC _=true from zoV (zqt ha100.noFn (zqt ha101.noFn (zqt rfl (zqt rfl (zqt rfl (zqt rfl (zqt rfl (zqt rfl (zqt rfl (zqt rfl zqu))))))))))]; exact(Da.bk.ra)),(Ea.bk.ra),?_⟩
   obtain⟨kc,nc,Ga,ga,Ha⟩:=ic.sto hc [Il z.p0,Il z.p1,Il z.p2,Il z.p3,Il z.p4];have Ia:=Da.k ga;have oc:=jc.k ga;have pc:=Ea.k ga;have Ja:=Fa.k ga;refine⟨kc,nc,?_⟩;refine⟨_,_,_,_,_,_,_,_,_,_,Ia.bk.ra,_,_,_,_,_,Ja.bk.ra,_,_,_,_,_,Ha.bk.ra,?_⟩;obtain⟨d,qc,hp⟩:=zqp hp;refine zwi (w:=w) (sharing:=({ b0:=p,b1:=q,b2:=r,b3:=t,b4:=u }:F5)) (shares:=z) Ga.pre ha100 ha101 qc fun me sc=>?_;obtain⟨tc,O⟩:=Ga.call sc G;have uc:=Ia.k O;have vc:=oc.k O;have wc:=pc.k O;have xc:=Ja.k O;have yc:=Ha.k O;refine⟨_,_,_,_,_,rfl,?_⟩;intro oe zc;obtain⟨P,Ac,S,Bc⟩:=tc.blk zc G 6;have Cc:=uc.k S;have Dc:=vc.k S;have Ec:=wc.k S;have Fc:=xc.k S;have Gc:=yc.k S;obtain⟨Hc,Ic,ha,T,na⟩:=Bc.sto Ac [.bool d.b0,.bool d.b1,.bool d.b2,.bool d.b3,.bool d.b4];have Ka:=Cc.k T;have La:=Dc.k T;have ia:=Ec.k T;have oa:=Fc.k T;have Jc:=Gc.k T;refine⟨Hc,Ic,?_⟩;refine⟨_,_,_,_,_,na.bk.ra,_,_,_,_,_,oa.bk.ra,?_⟩;refine zq1 hp (fun Kc hp=>?_) fun Kc hp=>?_
   ·refine⟨_,_,_,_,_,_,ia.bk.ra,_,_,_,_,_,Jc.bk.ra,?_⟩;obtain⟨a,Nc,hp⟩:=zqp hp;refine zwc (o:=({ need:=e,calls:=({ p0:=g,p1:=h,p2:=i,p3:=l,p4:=n }:P5) }:Oc)) (more:=z) ha.pre  Nc fun ce Pc=>?_;obtain⟨Qc,Ma⟩:=ha.call Pc P;have Rc:=La.k Ma;have Tc:=ia.k Ma;refine⟨_,_,_,_,_,_,rfl,?_⟩;obtain⟨Uc,Vc,Xc,Yc,Zc⟩:=Tc.sto Qc [Il a.need,Il a.calls.p0,Il a.calls.p1,Il a.calls.p2,Il a.calls.p3,Il a.calls.p4];have ad:=Rc.k Yc;refine⟨Uc,Vc,?_⟩;refine⟨_,_,_,_,_,_,Zc.bk.ra,?_⟩;obtain⟨bd,cd,dd,Xd,ed⟩:=ad.sto Xc [Il a.need,Il a.calls.p0,Il a.calls.p1,Il a.calls.p2,Il a.calls.p3,Il a.calls.p4];refine⟨bd,cd,?_⟩;refine⟨_,_,_,_,_,_,ed.bk.ra,?_⟩;obtain rfl:=oi hp;exact hq _ dd.ext'
   refine⟨_,_,_,_,_,_,ia.bk.ra,_,_,_,_,_,_,_,_,_,_,Ka.bk.ra,_,_,_,_,_,oa.bk.ra,_,_,_,_,_,na.bk.ra,?_⟩;obtain⟨fd,hd,hp⟩:=zqp hp;refine zv7 (f_:=({ b0:=p,b1:=q,b2:=r,b3:=t,b4:=u }:F5)) (others:=d) ha.pre  hd fun de id=>?_;obtain⟨Na,Y⟩:=ha.call id P;have Oa:=Ka.k Y;have jd:=La.k Y;have Pa:=ia.k Y;have kd:=oa.k Y;have ld:=na.k Y;refine⟨_,_,_,_,_,rfl,(by rw[show zaL cmC _=true from zoV (zqt ha100.noFn (zqt ha101.noFn (zqt rfl (zqt rfl (zqt rfl (zqt rfl (zqt rfl (zqt rfl (zqt rfl (zqt rfl zqu))))))))))]; exact(Oa.bk.ra)),(Pa.bk.ra),?_⟩;obtain⟨md,nd,hp⟩:=zqp hp;refine zwh (w:=w) (of_:=fd) Na.pre ha100 ha101 nd fun ee od=>?_;obtain⟨Qa,Z⟩:=Na.call od P;have pd:=Oa.k Z;have qd:=jd.k Z;have Ra:=Pa.k Z;have sd:=kd.k Z;have td:=ld.k Z;refine⟨_,_,_,_,_,rfl,(Ra.bk.ra),?_⟩;obtain⟨A,ud,hp⟩:=zqp hp;refine zwc (o:=({ need:=e,calls:=({ p0:=g,p1:=h,p2:=i,p3:=l,p4:=n }:P5) }:Oc)) (more:=md) Qa.pre  ud fun fe vd=>?_;obtain⟨wd,aa⟩:=Qa.call vd P;have xd:=pd.k aa;have yd:=qd.k aa;have zd:=Ra.k aa;have Ad:=sd.k aa;have Cd:=td.k aa;refine⟨_,_,_,_,_,_,rfl,?_⟩;obtain⟨Dd,Ed,Fd,ja,Gd⟩:=zd.sto wd [Il A.need,Il A.calls.p0,Il A.calls.p1,Il A.calls.p2,Il A.calls.p3,Il A.calls.p4];have Hd:=xd.k ja;have Id:=yd.k ja;have Jd:=Ad.k ja;have Ld:=Cd.k ja;refine⟨Dd,Ed,?_⟩;refine⟨_,_,_,_,_,Ld.bk.ra,?_⟩;obtain⟨Md,Nd,Od,pa,Pd⟩:=Jd.sto Fd [.bool d.b0,.bool d.b1,.bool d.b2,.bool d.b3,.bool d.b4];have Qd:=Hd.k pa;have Rd:=Id.k pa;have Sd:=Gd.k pa
   refine⟨Md,Nd,?_⟩;exact zb _ _ _ _ _ _ _ _ _ _ _ _ P Od Qd Rd Sd Pd hp
 exact hgo _ _ _ _ _ _ _ _ _ _ _ _ _ qb yb ca D F B hp
theorem zwk{o:Oc}{member:Int}{b0:Nat}{m f:M}{Q:V->M->Prop}{rz:Int}(hS:Pre f m)(hb0:Bk f b0 1 [Il member])(hp:ztT o member=some rz)(hq:∀m',Ext m m'->Q (.c (Il rz)) m'):Wc prog tbl 99 [.agg 6 [Il o.need,Il o.calls.p0,Il o.calls.p1,Il o.calls.p2,Il o.calls.p3,Il o.calls.p4],.c (.ptr b0 0)] m Q:=by
 have q:=hS.st;obtain⟨r,_⟩:=zr7;refine c99 ?_;unfold ztT at hp;intro t h;obtain⟨j,d,n,i⟩:=q.blk h r 1;refine⟨_,(hb0.sub d.sub).rc rfl,trivial,trivial,?_⟩;obtain⟨p,a,hp⟩:=zqp hp;obtain⟨s,e,g,a⟩:=zqj a;refine⟨s,e,g,_,(i.bk.rc (zqW (l:=([o.calls.p0,o.calls.p1,o.calls.p2,o.calls.p3,o.calls.p4]:List Int)) (enc:=(C.int .i64)) 1 rfl a)),?_⟩;obtain rfl:=oi hp;exact hq _ d.ext'
theorem zwl{member:Int}{m f:M}{Q:V->M->Prop}{rz:Oc->Option (Int)}(hS:Pre f m)(hp:ztU member=some rz)(hq:∀m' f' c0,Grw m f m' f'->zva f' c0 rz->Q (.c c0) m'):Wc prog tbl 74 [.c (Il member)] m Q:=by
 have q:=hS.st;obtain⟨s,_⟩:=zr7;refine w74 ?_;unfold ztU at hp;intro t h;obtain⟨n,i,o,j⟩:=q.blk h s 1;obtain⟨a,l,p,e⟩:=j.freeze i
 have g:zva a ((C.fn (Fn.func 99) [] [(W.c (C0.ptr m.nxt 0))])) (fun d=>ztT d member):=by
  refine⟨rfl,?_⟩;intro f' m' d r Q hs hpre  hg hq;exact zwk hpre (e.sub hs) hg hq
 obtain rfl:=oi hp;exact hq _ a (C.fn (Fn.func 99) [] [(W.c (C0.ptr m.nxt 0))]) l.grw g
theorem zwm{l:List Int}{ca100:C}{m f:M}{Q:V->M->Prop}{rz:Int}(hS:Pre f m)(ha100:Sl f ca100 l)(hp:ztW l=some rz)(hq:∀m',Ext m m'->Q (.c (Il rz)) m'):Wc prog tbl 84 [.c ca100] m Q:=by
 have A:=hS.st;obtain⟨G,_⟩:=zr7;refine w84 ?_;unfold ztW at hp;refine⟨ha100.isSl,?_⟩
 try rw[ha100.slLen]
 refine ifd hp (fun q hp=>?_) fun q hp=>?_
 ·obtain rfl:=oi hp;exact hq _ A.ext'
 obtain⟨D,g,hp⟩:=zqp hp;obtain⟨I,n,i,g⟩:=zqj g;refine⟨I,n,(by first|exact i|(rw[ha100.slLen];exact i)),_,(ha100.rdI g A.sub),ha100.isSl,?_⟩;intro J B
 have hgo:∀(d:Nat) (r:Int) (s:Int) (t:M) (e:Nat->Nat),St (Fm.of m) f f t->ztV l d r s=some rz->J [.c (Il r),.c (Il s)] t:=by
  intro d
  induction d with
  | zero=>intro r s t e a hp; cases hp
  | succ d o=>
   intro r s t e a hp;refine B _ _ _ ?_;rw[ztV] at hp
   try rw[ha100.slLen]
   refine ifd hp (fun u hp=>?_) fun u hp=>?_; rotate_left
   ·obtain rfl:=oi hp;exact hq _ a.ext'
   obtain⟨F,h,hp⟩:=zqp hp;obtain⟨N,p,j,h⟩:=zqj h;refine⟨N,p,(by first|exact j|(rw[ha100.slLen];exact j)),_,(ha100.rdI h a.sub),?_⟩;refine ifd hp (fun w hp=>?_) fun w hp=>?_
   ·refine gdi hp fun y hp=>?_;exact o _ _ _ e a hp
   refine gdi hp fun z hp=>?_;exact o _ _ _ e a hp
 exact hgo _ _ _ _ G A hp
theorem zwn{l:List Int}{ca100:C}{m f:M}{Q:V->M->Prop}{rz:Int}(hS:Pre f m)(ha100:Sl f ca100 l)(hp:ztY l=some rz)(hq:∀m',Ext m m'->Q (.c (Il rz)) m'):Wc prog tbl 85 [.c ca100] m Q:=by
 have y:=hS.st;obtain⟨D,_⟩:=zr7;refine w85 ?_;unfold ztY at hp;refine⟨ha100.isSl,?_⟩
 try rw[ha100.slLen]
 refine ifd hp (fun p hp=>?_) fun p hp=>?_
 ·cases hp
 obtain⟨A,e,hp⟩:=zqp hp;obtain⟨F,n,i,e⟩:=zqj e;refine⟨F,n,(by first|exact i|(rw[ha100.slLen];exact i)),_,(ha100.rdI e y.sub),?_⟩;intro G z
 have hgo:∀(a:Nat) (q:Int) (r:Int) (s:M) (g:Nat->Nat),St (Fm.of m) f f s->ztX l a q r=some rz->G [.c (Il q),.c (Il r)] s:=by
  intro a
  induction a with
  | zero=>intro q r s g d hp; cases hp
  | succ a w=>
   intro q r s g d hp;refine z _ _ _ ?_;rw[ztX] at hp;refine⟨ha100.isSl,?_⟩
   try rw[ha100.slLen]
   refine ifd hp (fun t hp=>?_) fun t hp=>?_; rotate_left
   ·obtain rfl:=oi hp;exact hq _ d.ext'
   obtain⟨B,h,hp⟩:=zqp hp;obtain⟨I,o,j,h⟩:=zqj h;refine⟨I,o,(by first|exact j|(rw[ha100.slLen];exact j)),_,(ha100.rdI h d.sub),?_⟩;refine gdi hp fun u hp=>?_;exact w _ _ _ g d hp
 exact hgo _ _ _ _ D y hp
theorem zwo{w:Wk}{q:Qu}{ca100 ca101 ca200:C}{m f:M}{Q:V->M->Prop}{rz:Rg}(hS:Pre f m)(ha100:Sl f ca100 w.s.Members)(ha101:Sl f ca101 w.s.Losses)(ha200:zva f ca200 q.ask)(hp:zt0 w q=some rz)(hq:∀m',Ext m m'->Q (.agg 2 [Il rz.Lo,Il rz.Hi]) m'):Wc prog tbl 62 [.agg 10 [ca100,ca101,Il w.s.Treaty.Lo,Il w.s.Treaty.Hi,Il w.s.Reserve,.bool w.asked.b0,.bool w.asked.b1,.bool w.asked.b2,.bool w.asked.b3,.bool w.asked.b4],.agg 1 [ca200]] m Q:=by
 have S0:=hS.st;obtain⟨τ0,_⟩:=zr7;refine w62 ?_;unfold zt0 at hp;intro m0 Fa;obtain⟨Ga,Ha,hc,Ia⟩:=S0.blk Fa τ0 1;intro m1 Ja;obtain⟨Ka,La,Ma,Na⟩:=Ha.blk Ja Ga 2;have Oa:=Ia.k Ma;intro m2 Pa;obtain⟨Qa,Ra,Z,Sa⟩:=La.blk Pa Ka 3;have Ta:=Oa.k Z;have Ua:=Na.k Z;intro m3 Va;obtain⟨aa,ba,G,Wa⟩:=Ra.blk Va Qa 4;have ca:=Ta.k G;have Xa:=Ua.k G;have Ya:=Sa.k G;refine⟨trivial,_,_,_,_,_,ca.bk.rp (k:=0) (j:=5) rfl (by omega),?_⟩;obtain⟨ic,Za,hp⟩:=zqp hp;refine zv4 (s:=w.s) ba.pre ha100 ha101 Za fun xc jc kc ab cb=>?_;obtain⟨db,g⟩:=ba.callG ab aa;have da:=ca.k g;have ea:=Xa.k g;have fa:=Ya.k g;have ga:=Wa.k g;refine⟨_,rfl,?_⟩;refine zqV (α:=Int) db cb (σ:=(List Int) × C) 5 (fun st bb=>(False\/(False\/(False\/(False\/(zqU st.2 bb)))))) (fun st gG gF gT gM=>(Lb gG gF gT gM 1 m.nxt 10 [ca100,ca101,Il w.s.Treaty.Lo,Il w.s.Treaty.Hi,Il w.s.Reserve,.bool w.asked.b0,.bool w.asked.b1,.bool w.asked.b2,.bool w.asked.b3,.bool w.asked.b4])/\(Lb gG gF gT gM 2 m0.nxt 1 [ca200])/\(Lb gG gF gT gM 3 m1.nxt 2 [Il 0,Il 0])/\(Lb gG gF gT gM 4 m2.nxt 1 [st.2])/\(Ow gG gF gT gM 6 st.2 st.1)) (fun rr_ st=>ztZ w q rr_ st.1=some rz) (fun ex st=>False) (fun st=>(Gud.and (Gud.lb da.bk.lt (by decide)) (Gud.and (Gud.lb ea.bk.lt (by decide)) (Gud.and (Gud.lb fa.bk.lt (by decide)) (Gud.and (Gud.lb ga.bk.lt (by decide)) (Gud.ow (by decide))))))) (st0:=([],.sl0)) (τ:=aa) ⟨da,ea,fa,ga,(Ow.nil _ _ _ _ _)⟩ hp ?_ ?_ ?_ ?_
 ·intro ha eb st o h T y nc ec fc gc fb I hA wa hp xa ya;obtain⟨d,z⟩:=st;obtain⟨p,r,i,e,c⟩:=hA
  replace p:Lb y o h T 1 m.nxt 10 [ca100,ca101,Il w.s.Treaty.Lo,Il w.s.Treaty.Hi,Il w.s.Reserve,.bool w.asked.b0,.bool w.asked.b1,.bool w.asked.b2,.bool w.asked.b3,.bool w.asked.b4]:=p
  replace r:Lb y o h T 2 m0.nxt 1 [ca200]:=r
  replace i:Lb y o h T 3 m1.nxt 2 [Il 0,Il 0]:=i
  replace e:Lb y o h T 4 m2.nxt 1 [z]:=e
  replace c:Ow y o h T 6 z d:=c
  replace hp:ztZ w q (ha::eb) d=some rz:=hp
  rw[ztZ] at hp;refine⟨_,rfl,?_⟩;refine xa _ _ _ _ fb wa fun yc oc ia A za Aa=>?_;have ja:=p.k A;have ka:=r.k A;have gb:=i.k A;have la:=e.k A;have c:=c.k A;refine⟨_,la.bk.rc rfl,trivial,_,ka.bk.rc rfl,_,_,_,_,_,_,_,_,_,_,ja.bk.ra,?_⟩;obtain⟨pc,hb,hp⟩:=zqp hp;refine zwj (w:=w) (need:=ha) ia.pre (ha100.sub (Sub.trans g.fs I)) (ha101.sub (Sub.trans g.fs I)) hb fun zc ib=>?_;obtain⟨ma,t⟩:=ia.call ib h;have jb:=ja.k t;have na:=ka.k t;have kb:=gb.k t;have oa:=la.k t;have c:=c.k t;have Ba:=za.k t;refine⟨_,_,_,_,_,_,rfl,(by rw[show cmC _=true from ha200.1]; exact(na.bk.rc rfl)),(by rw[show cmC _=true from zoU (c.noFn)]; exact(oa.bk.rc rfl)),?_⟩;obtain⟨J,mb,hp⟩:=zqp hp;refine(ha200.sub (Sub.trans g.fs I)).2 _ _ _ _ _ (Sub.refl _) ma.pre  mb fun Ac ob=>?_;obtain⟨pb,u⟩:=ma.call ob h;have qb:=jb.k u;have rb:=na.k u;have sb:=kb.k u;have N:=oa.k u;have c:=c.k u;have Ca:=Ba.k u;refine⟨_,rfl,(by rw[show cmC _=true from zoU (c.noFn)]; exact(N.bk.rc rfl)),?_⟩;obtain⟨tb,hp⟩:=zqq hp;intro Bc pa;refine⟨(by rw[show cmC _=true from zoU (c.noFn)]; exact(N.bk.ext (Bk.new pa).2).rc rfl),?_⟩;obtain⟨O,ub,qc,vb,wb,B,P⟩:=c.app' zvj pb (a:=J) (show Rp.rep (α:=Int) o _ J from rfl) tb pa;have xb:=qb.k B;have yb:=rb.k B;have zb:=sb.k B;have Ab:=N.k B;have Da:=Ca.k B;refine⟨O,ub,vb,?_⟩;obtain⟨Bb,Cb,Db,D,Eb⟩:=Ab.sto wb [O];have Fb:=xb.k D;have Gb:=yb.k D;have Hb:=zb.k D;have P:=P.k D;have Ea:=Da.k D;refine⟨Bb,Cb,?_⟩;exact ya .nrm ((d++[J]),O) _ _ _ _ Db ⟨Fb,Gb,Hb,Eb,P⟩ Ea Aa hp
 ·intro st F n Y Ib sc hA hp;obtain⟨d,z⟩:=st
  replace hp:ztZ w q [] d=some rz:=hp
  obtain⟨p,r,i,e,c⟩:=hA
  replace p:Lb (Fm.of m) F n Y 1 m.nxt 10 [ca100,ca101,Il w.s.Treaty.Lo,Il w.s.Treaty.Hi,Il w.s.Reserve,.bool w.asked.b0,.bool w.asked.b1,.bool w.asked.b2,.bool w.asked.b3,.bool w.asked.b4]:=p
  replace r:Lb (Fm.of m) F n Y 2 m0.nxt 1 [ca200]:=r
  replace i:Lb (Fm.of m) F n Y 3 m1.nxt 2 [Il 0,Il 0]:=i
  replace e:Lb (Fm.of m) F n Y 4 m2.nxt 1 [z]:=e
  replace c:Ow (Fm.of m) F n Y 6 z d:=c
  rw[ztZ] at hp;refine⟨_,e.bk.rc rfl,?_⟩;obtain⟨tc,qa,sa,S⟩:=c.freeze Ib;have Jb:=i.k sa;have ta:=e.k sa;obtain⟨Kb,Nb,hp⟩:=zqp hp;refine zwm (l:=d) qa.pre S Nb fun Cc Ob=>?_;obtain⟨ua,va⟩:=qa.call Ob n;have Pb:=Jb.k va;have Qb:=ta.k va;refine⟨_,rfl,_,Qb.bk.rc rfl,(by rw[show cmC _=true from zoU (S.noFn)]; exact(ta.bk.rc rfl)),?_⟩;obtain⟨Rb,Sb,hp⟩:=zqp hp;refine zwn (l:=d) ua.pre S Sb fun Dc Tb=>?_;obtain⟨Ub,Vb⟩:=ua.call Tb n;have Wb:=Pb.k Vb;refine⟨_,rfl,?_⟩;obtain⟨Xb,Yb,Zb,uc,ac⟩:=Wb.sto Ub [Il Kb,Il Rb];refine⟨Xb,Yb,?_⟩;refine⟨_,_,ac.bk.ra,?_⟩;obtain rfl:=oi hp;exact hq _ Zb.ext'
 ·intro id st _ _ _ _ _ _ hn; first | exact hn.elim | (cases hn)
 ·intro st _ _ _ _ _ _ hn; first | exact hn.elim | (cases hn)
theorem zwp{w:Wk}{ca100 ca101:C}{m f:M}{Q:V->M->Prop}{rz:Int}(hS:Pre f m)(ha100:Sl f ca100 w.s.Members)(ha101:Sl f ca101 w.s.Losses)(hp:zt1 w=some rz)(hq:∀m',Ext m m'->Q (.c (Il rz)) m'):Wc prog tbl 77 [.agg 10 [ca100,ca101,Il w.s.Treaty.Lo,Il w.s.Treaty.Hi,Il w.s.Reserve,.bool w.asked.b0,.bool w.asked.b1,.bool w.asked.b2,.bool w.asked.b3,.bool w.asked.b4]] m Q:=by
 have u:=hS.st;obtain⟨y,_⟩:=zr7;refine w77 ?_;unfold zt1 at hp;intro A g;obtain⟨h,d,o,i⟩:=u.blk g y 1;refine⟨_,_,_,_,_,_,_,_,_,_,i.bk.ra,?_⟩
 have e:zva f ((C.fn (Fn.func 63) [] [])) (fun a=>ztG a):=by
  refine⟨rfl,?_⟩;intro f' m' a r Q hs hpre  hg hq;exact zwa hpre  hg hq
 obtain⟨p,j,hp⟩:=zqp hp;refine zwo (w:=w) (q:=({ ask:=(fun a=>ztG a) }:Qu)) d.pre ha100 ha101 e j fun z l=>?_;obtain⟨n,t⟩:=d.call l h;refine⟨_,_,rfl,?_⟩;obtain rfl:=oi hp;exact hq _ n.ext'
theorem zwq{w:Wk}{rate:Int}{ca100 ca101:C}{m f:M}{Q:V->M->Prop}{rz:Int}(hS:Pre f m)(ha100:Sl f ca100 w.s.Members)(_ha101:Sl f ca101 w.s.Losses)(hp:zt3 w rate=some rz)(hq:∀m',Ext m m'->Q (.c (Il rz)) m'):Wc prog tbl 100 [.agg 10 [ca100,ca101,Il w.s.Treaty.Lo,Il w.s.Treaty.Hi,Il w.s.Reserve,.bool w.asked.b0,.bool w.asked.b1,.bool w.asked.b2,.bool w.asked.b3,.bool w.asked.b4],.c (Il rate)] m Q:=by
 have S0:=hS.st;obtain⟨τ0,_⟩:=zr7;refine zuv ?_;unfold zt3 at hp;intro m0 t;obtain⟨u,y,na,a⟩:=S0.blk t τ0 1;refine⟨trivial,trivial,_,a.bk.rc rfl,ha100.isSl,?_⟩;intro R2 ma
 have hgo:∀(d:Nat) (z:Int) (A:Int) (q:M) (e:Nat->Nat),St (Fm.of m) f f q->Lb (Fm.of m) f e q 1 m.nxt 10 [ca100,ca101,Il w.s.Treaty.Lo,Il w.s.Treaty.Hi,Il w.s.Reserve,.bool w.asked.b0,.bool w.asked.b1,.bool w.asked.b2,.bool w.asked.b3,.bool w.asked.b4]->zt2 w rate d z A=some rz->R2 [.c (Il z),.c (Il A)] q:=by
  intro d
  induction d with
  | zero=>intro z A q e g a hp; cases hp
  | succ d la=>
   intro z A q e g a hp;refine ma _ _ _ ?_;rw[zt2] at hp
   try rw[ha100.slLen]
   refine ifd hp (fun B hp=>?_) fun B hp=>?_; rotate_left
   ·obtain rfl:=oi hp;exact hq _ g.ext'
   obtain⟨h,i,hp⟩:=zqp hp;obtain⟨n6,r,l,i⟩:=zqj i;obtain⟨_,D⟩:=zsb ha100 i;refine⟨n6,r,(by first|exact l|(rw[ha100.slLen];exact l)),_,_,_,(D _ g.sub).1,?_⟩;intro ua F;obtain⟨n,G,I,J⟩:=g.blk F e 2;have N:=a.k I;obtain⟨O,P,o,S,j⟩:=J.sto G [Il h.Sum,Il h.Class,Il h.Most];have T:=N.k S;refine⟨O,P,?_⟩;refine⟨_,_,_,j.bk.ra,?_⟩;obtain⟨oa,Y,hp⟩:=zqp hp;refine zwd (m_:=h) o.pre  Y fun va Z=>?_;obtain⟨aa,p⟩:=o.call Z n;have ba:=T.k p;have ca:=j.k p;refine⟨_,rfl,?_⟩;refine gdi hp fun da hp=>?_;refine gdi hp fun ea hp=>?_;refine gdi hp fun fa hp=>?_;refine gdi hp fun ga hp=>?_;refine gdi hp fun ha hp=>?_;obtain⟨ia,hp⟩:=zqq hp;refine⟨ia,trivial,_,ca.bk.rc rfl,(j.bk.rc rfl),?_⟩;refine gdi hp fun ja hp=>?_;refine gdi hp fun ka hp=>?_;exact la _ _ _ n aa ba hp
 exact hgo _ _ _ _ u y a hp
theorem zwr{w:Wk}{rate:Int}{ca100 ca101:C}{m f:M}{Q:V->M->Prop}{rz:Bool}(hS:Pre f m)(ha100:Sl f ca100 w.s.Members)(ha101:Sl f ca101 w.s.Losses)(hp:zt4 w rate=some rz)(hq:∀m',Ext m m'->Q (.c (.bool rz)) m'):Wc prog tbl 76 [.agg 10 [ca100,ca101,Il w.s.Treaty.Lo,Il w.s.Treaty.Hi,Il w.s.Reserve,.bool w.asked.b0,.bool w.asked.b1,.bool w.asked.b2,.bool w.asked.b3,.bool w.asked.b4],.c (Il rate)] m Q:=by
 have z:=hS.st;obtain⟨A,_⟩:=zr7;refine w76 ?_;unfold zt4 at hp;intro F h;obtain⟨d,e,r,a⟩:=z.blk h A 1;refine⟨_,_,_,_,_,_,_,_,_,_,a.bk.ra,?_⟩;obtain⟨t,i,hp⟩:=zqp hp;refine zwq (w:=w) (rate:=rate) e.pre ha100 ha101 i fun B j=>?_;obtain⟨g,l⟩:=e.call j d;have n:=a.k l;refine⟨_,rfl,_,_,_,_,_,_,_,_,_,_,n.bk.ra,(by rw[show zaL cmC _=true from zoV (zqt ha100.noFn (zqt ha101.noFn (zqt rfl (zqt rfl (zqt rfl (zqt rfl (zqt rfl (zqt rfl (zqt rfl (zqt rfl zqu))))))))))]; exact(a.bk.ra)),?_⟩;obtain⟨u,o,hp⟩:=zqp hp;refine zwp (w:=w) g.pre ha100 ha101 o fun D p=>?_;obtain⟨q,y⟩:=g.call p d;refine⟨_,rfl,?_⟩;obtain rfl:=oi hp;exact hq _ q.ext'
theorem zws{s:Soc}{l:List Int}{ca100 ca101 ca200:C}{m f:M}{Q:V->M->Prop}{rz:Bool}(hS:Pre f m)(ha100:Sl f ca100 s.Members)(ha101:Sl f ca101 s.Losses)(ha200:Sl f ca200 l)(hp:zt5 s l=some rz)(hq:∀m',Ext m m'->Q (.c (.bool rz)) m'):Wc prog tbl 79 [.agg 5 [ca100,ca101,Il s.Treaty.Lo,Il s.Treaty.Hi,Il s.Reserve],.c ca200] m Q:=by
 have O:=hS.st;obtain⟨P,_⟩:=zr7;refine w79 ?_;unfold zt5 at hp;intro T i;obtain⟨d,e,D,j⟩:=O.blk i P 1;refine⟨_,_,_,_,_,j.bk.ra,?_⟩;obtain⟨n,o,hp⟩:=zqp hp;refine zv0 (s:=s) (out:=l) e.pre ha100 ha101 ha200 o fun Y p F G t u y=>?_;obtain⟨g,I⟩:=e.callG t d;refine⟨_,_,_,_,_,_,_,_,_,_,rfl,?_⟩
 have h:zva p ((C.fn (Fn.func 70) [] [])) (fun a=>ztH a):=by
  refine⟨rfl,?_⟩;intro f' m' a r Q hs hpre  hg hq;exact zwb hpre  hg hq
 obtain⟨J,z,hp⟩:=zqp hp;refine zwo (w:=n) (q:=({ ask:=(fun a=>ztH a) }:Qu)) g.pre u y h z fun S A=>?_;obtain⟨B,N⟩:=g.call A d;refine⟨_,_,rfl,?_⟩;obtain rfl:=oi hp;exact hq _ B.ext'
theorem zwt{n:Int}{p:Int->Option (Bool)}{ca200:C}{m f:M}{Q:V->M->Prop}{rz:Int}(hS:Pre f m)(ha200:zvd f ca200 p)(hp:zt7 n p=some rz)(hq:∀m',Ext m m'->Q (.c (Il rz)) m'):Wc prog tbl 75 [.c (Il n),.c ca200] m Q:=by
 have G:=hS.st;obtain⟨I,_⟩:=zr7;refine w75 ?_;unfold zt7 at hp;intro J B
 have hgo:∀(d:Nat) (i:Int) (j:Int) (l:M) (a:Nat->Nat),St (Fm.of m) f f l->zt6 p d i j=some rz->J [.c (Il i),.c (Il j)] l:=by
  intro d
  induction d with
  | zero=>intro i j l a e hp; cases hp
  | succ d h=>
   intro i j l a e hp;refine B _ _ _ ?_;rw[zt6] at hp;refine ifd hp (fun o hp=>?_) fun o hp=>?_; rotate_left
   ·obtain rfl:=oi hp;exact hq _ e.ext'
   refine gdi hp fun q hp=>?_;refine gdi hp fun r hp=>?_;refine gdi hp fun s hp=>?_;refine gdi hp fun t hp=>?_;refine gdi hp fun u hp=>?_;obtain⟨D,w,hp⟩:=zqp hp;refine ha200 _ _ _ _ _ (Sub.refl _) e.pre  w fun N y=>?_;obtain⟨g,F⟩:=e.call y a;refine⟨_,rfl,?_⟩;refine zq2 hp (fun z hp=>?_) fun z hp=>?_; rotate_left
   ·exact h _ _ _ a g hp
   refine gdi hp fun A hp=>?_;exact h _ _ _ a g hp
 exact hgo _ _ _ _ I G hp
theorem zwu{s:Soc}{ca100 ca101:C}{m f:M}{Q:V->M->Prop}{rz:Rg × Int}(hS:Pre f m)(ha100:Sl f ca100 s.Members)(ha101:Sl f ca101 s.Losses)(hp:zt8 s=some rz)(hq:∀m',Ext m m'->Q (.tup [.agg 2 [Il rz.1.Lo,Il rz.1.Hi],.c (Il rz.2)]) m'):Wc prog tbl 23 [.agg 5 [ca100,ca101,Il s.Treaty.Lo,Il s.Treaty.Hi,Il s.Reserve]] m Q:=by
 have S0:=hS.st;obtain⟨τ0,_⟩:=zr7;refine w23 ?_;unfold zt8 at hp;intro m0 n;obtain⟨o,p,wa,t⟩:=S0.blk n τ0 1;intro m1 u;obtain⟨g,h,y,z⟩:=p.blk u o 2;have A:=t.k y;refine⟨_,_,_,_,_,A.bk.ra,?_⟩;obtain⟨a,B,hp⟩:=zqp hp;refine zv1 (s:=s) (out:=[]) h.pre ha100 ha101 (Sl.nil _) B fun m8 D F G I J N=>?_;obtain⟨O,P⟩:=h.callG I g;have S:=z.k P;refine⟨_,_,_,_,_,_,_,_,_,_,_,rfl,?_⟩;intro Ba T;obtain⟨Y,Z,aa,ba⟩:=O.blk T g 3;have ca:=S.k aa;obtain⟨da,ea,e,fa,ga⟩:=ba.sto Z [F,G,Il a.1.s.Treaty.Lo,Il a.1.s.Treaty.Hi,Il a.1.s.Reserve,.bool a.1.asked.b0,.bool a.1.asked.b1,.bool a.1.asked.b2,.bool a.1.asked.b3,.bool a.1.asked.b4];have i:=ca.k fa;refine⟨da,ea,?_⟩;refine zq0 hp (fun ha hp=>?_) fun ha hp=>?_
 ·obtain⟨ia,ja,ka,xa,la⟩:=i.sto e [Il 0,Il 0];refine⟨ia,ja,?_⟩;refine⟨_,_,la.bk.ra,?_⟩;obtain rfl:=oi hp;exact hq _ ka.ext'
 refine⟨_,_,_,_,_,_,_,_,_,_,ga.bk.ra,?_⟩
 have l:zva D ((C.fn (Fn.func 63) [] [])) (fun d=>ztG d):=by
  refine⟨rfl,?_⟩;intro f' m' d r Q hs hpre  hg hq;exact zwa hpre  hg hq
 obtain⟨j,ma,hp⟩:=zqp hp;refine zwo (w:=a.1) (q:=({ ask:=(fun d=>ztG d) }:Qu)) e.pre J N l ma fun Ca na=>?_;obtain⟨oa,pa⟩:=e.call na Y;have qa:=i.k pa;refine⟨_,_,rfl,?_⟩;obtain⟨sa,ta,ua,ya,va⟩:=qa.sto oa [Il j.Lo,Il j.Hi];refine⟨sa,ta,?_⟩;refine⟨_,_,va.bk.ra,?_⟩;obtain rfl:=oi hp;exact hq _ ua.ext'
theorem zwv{l:List Int}{ca100:C}{m f:M}{Q:V->M->Prop}{rz:List Int}(hS:Pre f m)(ha100:Sl f ca100 l)(hp:zt9 l=some rz)(hq:∀m' f' c0,Grw m f m' f'->On m f' m' c0 rz->Q (.c c0) m'):Wc prog tbl 69 [.c ca100] m Q:=by
 have q:=hS.st;obtain⟨r,_⟩:=zr7;refine w69 ?_;unfold zt9 at hp;refine⟨(zrB ha100),(zrB ha100),trivial,(Bool.or_true _),?_⟩
 cases d:zl9 ca100 with
 | true=>
  refine zq4 ?_;obtain rfl:=zrA ha100 d;obtain⟨_,hp⟩:=zqq hp;obtain rfl:=oi hp;exact hq _ _ .sl0 q.grw (Ow.nil _ _ r _ 0).on
 | false=>
  refine zq3 ?_;intro y e;obtain⟨s,g,t,h⟩:=Ow.lit0 (α:=Int) q r 1 e;obtain⟨i,hp⟩:=zqq hp;obtain⟨a,j,u,n,o,w,p⟩:=h.appL zvj g ha100 i;refine⟨a,j,n,?_⟩;obtain rfl:=oi hp;exact hq _ f a o.grw p.on
theorem zww{s:Soc}{need:Int}{ca100 ca101:C}{m f:M}{Q:V->M->Prop}{rz:List Int × Int × Int}(hS:Pre f m)(ha100:Sl f ca100 s.Members)(ha101:Sl f ca101 s.Losses)(hp:zua s need=some rz)(hq:∀m' f' c0,Grw m f m' f'->Sl f' c0 rz.1->Q (.tup [.c c0,.c (Il rz.2.1),.c (Il rz.2.2)]) m'):Wc prog tbl 30 [.agg 5 [ca100,ca101,Il s.Treaty.Lo,Il s.Treaty.Hi,Il s.Reserve],.c (Il need)] m Q:=by
 have S0:=hS.st;obtain⟨τ0,_⟩:=zr7;refine w30 ?_;unfold zua at hp;intro m0 F;obtain⟨y,z,Xa,A⟩:=S0.blk F τ0 1;refine⟨_,_,_,_,_,A.bk.ra,?_⟩;obtain⟨d,G,hp⟩:=zqp hp;refine zv1 (s:=s) (out:=[]) z.pre ha100 ha101 (Sl.nil _) G fun m7 B I J N O P=>?_;obtain⟨S,T⟩:=z.callG N y;have Y:=A.k T;refine⟨_,_,_,_,_,_,_,_,_,_,_,rfl,?_⟩;intro ib Z;obtain⟨g,aa,ba,ca⟩:=S.blk Z y 2;have da:=Y.k ba;obtain⟨ea,fa,h,ga,ha⟩:=ca.sto aa [I,J,Il d.1.s.Treaty.Lo,Il d.1.s.Treaty.Hi,Il d.1.s.Reserve,.bool d.1.asked.b0,.bool d.1.asked.b1,.bool d.1.asked.b2,.bool d.1.asked.b3,.bool d.1.asked.b4];have ia:=da.k ga;refine⟨ea,fa,?_⟩;refine zq0 hp (fun ja hp=>?_) fun ja hp=>?_
 ·obtain rfl:=oi hp;exact hq _ B .sl0 h.grw (Sl.nil _)
 obtain⟨Ya,ka,hp⟩:=zqp hp;refine zvC (r:=({ Lo:=(0:Int),Hi:=(300000:Int) }:Rg)) (n:=need) h.pre  ka fun jb la=>?_;obtain⟨p,D⟩:=h.call la g;have ma:=ia.k D;have na:=ha.k D;refine⟨_,rfl,?_⟩;refine zq2 hp (fun oa hp=>?_) fun oa hp=>?_
 ·obtain rfl:=oi hp;exact hq _ B .sl0 p.grw (Sl.nil _)
 refine⟨_,_,_,_,_,_,_,_,_,_,na.bk.ra,?_⟩;obtain⟨a,pa,hp⟩:=zqp hp;refine zwj (w:=d.1) (need:=need) p.pre O P pa fun kb qa=>?_;obtain⟨sa,ta⟩:=p.call qa g;have ua:=ma.k ta;refine⟨_,_,_,_,_,_,rfl,?_⟩;intro mb va;obtain⟨wa,xa,ya,za⟩:=sa.blk va g 3;have Aa:=ua.k ya;obtain⟨Ba,Ca,Da,Ea,Fa⟩:=za.sto xa [Il a.need,Il a.calls.p0,Il a.calls.p1,Il a.calls.p2,Il a.calls.p3,Il a.calls.p4];have Ga:=Aa.k Ea;refine⟨Ba,Ca,?_⟩;refine⟨trivial,trivial,_,Ga.bk.rc rfl,ha100.isSl,?_⟩
 try rw[ha100.slLen]
 obtain⟨Za,q,ab,e⟩:=Fa.freeze Da;obtain⟨bb,hp⟩:=zqq hp;obtain⟨Ha,Ia,Ja⟩:=Bk.arS (α:=Int) (o:=1) (l:=([a.calls.p0,a.calls.p1,a.calls.p2,a.calls.p3,a.calls.p4]:List Int)) (i:=Int.toNat (0:Int)) (j:=Int.toNat (s.Members.length:Int)) e rfl (Nat.le_of_ble_eq_true rfl) (Go.Abs.zri _ ([a.calls.p0,a.calls.p1,a.calls.p2,a.calls.p3,a.calls.p4]:List Int)) (by omega) (by show Int.toNat (s.Members.length:Int)<=5; omega);refine⟨Int.toNat (0:Int),Int.toNat (s.Members.length:Int),rfl,(show(s.Members.length:Int)=((Int.toNat (s.Members.length:Int):Nat):Int) by omega),Ha,Ia,?_⟩;obtain⟨cb,Ka,hp⟩:=zqp hp;refine zwv (l:=((([a.calls.p0,a.calls.p1,a.calls.p2,a.calls.p3,a.calls.p4]:List Int).take (Int.toNat (s.Members.length:Int))).drop (Int.toNat (0:Int)))) q.pre Ja Ka fun ob db La Ma Na=>?_;obtain⟨Oa,t,Pa,u⟩:=q.callO Ma Na wa 4;refine⟨_,rfl,_,_,_,_,_,_,(e.sub (Sub.trans Pa.fs t.sub)).ra,((e.sub q.sub).ra),?_⟩;obtain⟨eb,Qa,hp⟩:=zqp hp;refine zwb (o:=a) t.pre  Qa fun pb Ra=>?_;obtain⟨Sa,Ta⟩:=t.call Ra Oa;have u:=u.k Ta;refine⟨_,rfl,?_⟩;obtain⟨Ua,Va,fb,Wa⟩:=u.freeze Sa;obtain rfl:=oi hp;exact hq _ Ua La Va.grw Wa
theorem zwx{s:Soc}{out:List Int}{ca100 ca101 ca200:C}{m f:M}{Q:V->M->Prop}{rz:List Rg × Int}(hS:Pre f m)(ha100:Sl f ca100 s.Members)(ha101:Sl f ca101 s.Losses)(ha200:Sl f ca200 out)(hp:zuc s out=some rz)(hq:∀m' f' c0,Grw m f m' f'->Sl f' c0 rz.1->Q (.tup [.c c0,.c (Il rz.2)]) m'):Wc prog tbl 39 [.agg 5 [ca100,ca101,Il s.Treaty.Lo,Il s.Treaty.Hi,Il s.Reserve],.c ca200] m Q:=by
 have S0:=hS.st;obtain⟨τ0,_⟩:=zr7;refine w39 ?_;unfold zuc at hp;intro m0 aa;obtain⟨B,D,Ta,F⟩:=S0.blk aa τ0 1;refine⟨_,_,_,_,_,F.bk.ra,?_⟩;obtain⟨d,ba,hp⟩:=zqp hp;refine zv1 (s:=s) (out:=out) D.pre ha100 ha101 ha200 ba fun m7 u G I ca J N=>?_;obtain⟨da,ea⟩:=D.callG ca B;have fa:=F.k ea;refine⟨_,_,_,_,_,_,_,_,_,_,_,rfl,?_⟩;intro Za ga;obtain⟨ha,ia,ja,ka⟩:=da.blk ga B 2;have la:=fa.k ja;obtain⟨ma,na,O,oa,j⟩:=ka.sto ia [G,I,Il d.1.s.Treaty.Lo,Il d.1.s.Treaty.Hi,Il d.1.s.Reserve,.bool d.1.asked.b0,.bool d.1.asked.b1,.bool d.1.asked.b2,.bool d.1.asked.b3,.bool d.1.asked.b4];have l:=la.k oa;refine⟨ma,na,?_⟩;refine zq0 hp (fun pa hp=>?_) fun pa hp=>?_
 ·obtain rfl:=oi hp;exact hq _ u .sl0 O.grw (Sl.nil _)
 refine⟨trivial,_,l.bk.rc rfl,ha100.isSl,?_⟩;intro Sa Ra
 have hgo:∀(o:Nat) (z:C) (A:Int) (p:List Rg) (t:M) (e:M) (g:Nat->Nat),St (Fm.of m) f e t->Sub u e->Lb (Fm.of m) e g t 1 m.nxt 5 [ca100,ca101,Il s.Treaty.Lo,Il s.Treaty.Hi,Il s.Reserve]->Lb (Fm.of m) e g t 2 m7.nxt 10 [G,I,Il d.1.s.Treaty.Lo,Il d.1.s.Treaty.Hi,Il d.1.s.Reserve,.bool d.1.asked.b0,.bool d.1.asked.b1,.bool d.1.asked.b2,.bool d.1.asked.b3,.bool d.1.asked.b4]->Ow (Fm.of m) e g t 3 z p->zub s d o p A=some rz->Sa [.c z,.c (Il A)] t:=by
  intro o
  induction o with
  | zero=>intro z A p t e g r n l j h hp; cases hp
  | succ o qa=>
   intro z A p t e g r n l j h hp;refine Ra _ _ _ ?_;rw[zub] at hp
   try rw[ha100.slLen]
   refine ifd hp (fun sa hp=>?_) fun sa hp=>?_; rotate_left
   ·obtain⟨ta,ua,Ua,va⟩:=h.freeze r;obtain rfl:=oi hp;exact hq _ ta z ua.grw va
   refine⟨_,_,_,_,_,_,_,_,_,_,j.bk.ra,?_⟩;obtain⟨wa,xa,hp⟩:=zqp hp;refine zwl (member:=A) r.pre  xa fun ab P Va ya za=>?_;obtain⟨S,i⟩:=r.callG ya g;have Aa:=l.k i;have T:=j.k i;have h:=h.k i;refine⟨_,rfl,(by rw[show zaL cmC _=true from zoV (zqt J.noFn (zqt N.noFn (zqt rfl (zqt rfl (zqt rfl (zqt rfl (zqt rfl (zqt rfl (zqt rfl (zqt rfl zqu))))))))))]; exact(T.bk.ra)),?_⟩;obtain⟨Y,Ba,hp⟩:=zqp hp;refine zwo (w:=d.1) (q:=({ ask:=wa }:Qu)) S.pre (J.sub (Sub.trans n i.fs)) (N.sub (Sub.trans n i.fs)) za Ba fun bb Ca=>?_;obtain⟨Da,y⟩:=S.call Ca g;have Ea:=Aa.k y;have Fa:=T.k y;have h:=h.k y;refine⟨_,_,rfl,?_⟩;obtain⟨Ga,hp⟩:=zqq hp;intro cb Ha;obtain⟨Ia,Ja,Ka,La,Ma,Z,Na⟩:=h.app' zvk Da (a:=Y) (show Rp.rep (α:=Rg) P _ Y from rfl) Ga Ha;have Oa:=Ea.k Z;have Pa:=Fa.k Z;refine⟨Ia,Ja,La,?_⟩;refine gdi hp fun Qa hp=>?_;exact qa _ _ _ _ P Ka Ma (Sub.trans n i.fs) Oa Pa Na hp
 exact hgo _ _ _ _ _ u ha O (Sub.refl _) l j (Ow.nil _ _ _ _ _) hp
theorem zwy{s:Soc}{ca100 ca101:C}{m f:M}{Q:V->M->Prop}{rz:List Rg × Int}(hS:Pre f m)(ha100:Sl f ca100 s.Members)(ha101:Sl f ca101 s.Losses)(hp:zud s=some rz)(hq:∀m' f' c0,Grw m f m' f'->Sl f' c0 rz.1->Q (.tup [.c c0,.c (Il rz.2)]) m'):Wc prog tbl 37 [.agg 5 [ca100,ca101,Il s.Treaty.Lo,Il s.Treaty.Hi,Il s.Reserve]] m Q:=by
 have t:=hS.st;obtain⟨u,_⟩:=zr7;refine w37 ?_;unfold zud at hp;intro w d;obtain⟨e,a,p,g⟩:=t.blk d u 1;refine⟨_,_,_,_,_,g.bk.ra,?_⟩;obtain⟨q,h,hp⟩:=zqp hp;refine zwx (s:=s) (out:=[]) a.pre ha100 ha101 (Sl.nil _) h fun y i j l n=>?_;obtain⟨o,r⟩:=a.callG l e;refine⟨_,_,rfl,?_⟩;obtain rfl:=oi hp;exact hq _ i j o.grw n
theorem zwz{s:Soc}{ca100 ca101:C}{m f:M}{Q:V->M->Prop}{rz:Int × Int}(hS:Pre f m)(ha100:Sl f ca100 s.Members)(ha101:Sl f ca101 s.Losses)(hp:zuf s=some rz)(hq:∀m',Ext m m'->Q (.tup [.c (Il rz.1),.c (Il rz.2)]) m'):Wc prog tbl 44 [.agg 5 [ca100,ca101,Il s.Treaty.Lo,Il s.Treaty.Hi,Il s.Reserve]] m Q:=by
 have S0:=hS.st;obtain⟨τ0,_⟩:=zr7;refine w44 ?_;unfold zuf at hp;intro m0 u;obtain⟨i,j,ca,w⟩:=S0.blk u τ0 1;refine⟨_,_,_,_,_,w.bk.ra,?_⟩;obtain⟨a,y,hp⟩:=zqp hp;refine zv1 (s:=s) (out:=[]) j.pre ha100 ha101 (Sl.nil _) y fun m7 z e g A l o=>?_;obtain⟨B,da⟩:=j.callG A i;refine⟨_,_,_,_,_,_,_,_,_,_,_,rfl,?_⟩;intro ka D;obtain⟨F,G,ea,I⟩:=B.blk D i 2;obtain⟨J,N,h,fa,O⟩:=I.sto G [e,g,Il a.1.s.Treaty.Lo,Il a.1.s.Treaty.Hi,Il a.1.s.Reserve,.bool a.1.asked.b0,.bool a.1.asked.b1,.bool a.1.asked.b2,.bool a.1.asked.b3,.bool a.1.asked.b4];refine⟨J,N,?_⟩;refine zq0 hp (fun P hp=>?_) fun P hp=>?_
 ·obtain rfl:=oi hp;exact hq _ h.ext'
 refine⟨_,_,_,_,_,_,_,_,_,_,O.bk.ra,?_⟩;obtain⟨Z,aa,ba⟩:∃ws,zaE vW [.agg 10 [e,g,Il a.1.s.Treaty.Lo,Il a.1.s.Treaty.Hi,Il a.1.s.Reserve,.bool a.1.asked.b0,.bool a.1.asked.b1,.bool a.1.asked.b2,.bool a.1.asked.b3,.bool a.1.asked.b4]]=some ws/\zbZ wV ws=[.agg 10 [e,g,Il a.1.s.Treaty.Lo,Il a.1.s.Treaty.Hi,Il a.1.s.Reserve,.bool a.1.asked.b0,.bool a.1.asked.b1,.bool a.1.asked.b2,.bool a.1.asked.b3,.bool a.1.asked.b4]]:=(zqz (zqx (zqt l.noFn (zqt o.noFn (zqt rfl (zqt rfl (zqt rfl (zqt rfl (zqt rfl (zqt rfl (zqt rfl (zqt rfl zqu))))))))))) zqy);rw[aa,zd6]
 have t:zvd z ((C.fn (Fn.func 76) Z [])) (fun d=>zt4 a.1 d):=by
  intro f' m' d r Q hs hpre  hg hq
  show Wc prog tbl 76 (appS (zbZ wV Z) _) m' Q
  rw[ba];exact zwr hpre (l.sub hs) (o.sub hs) hg hq
 obtain⟨ga,S,hp⟩:=zqp hp;refine zwt (n:=(10001:Int)) (p:=(fun d=>zt4 a.1 d)) h.pre t S fun la T=>?_;obtain⟨q,ha⟩:=h.call T F;refine⟨_,rfl,?_⟩;refine ifd hp (fun Y hp=>?_) fun Y hp=>?_
 ·obtain rfl:=oi hp;exact hq _ q.ext'
 obtain rfl:=oi hp;exact hq _ q.ext'
theorem zwA{s:Soc}{ca100 ca101:C}{m f:M}{Q:V->M->Prop}{rz:List Int × Int}(hS:Pre f m)(ha100:Sl f ca100 s.Members)(ha101:Sl f ca101 s.Losses)(hp:zug s=some rz)(hq:∀m' f' c0,Grw m f m' f'->Sl f' c0 rz.1->Q (.tup [.c c0,.c (Il rz.2)]) m'):Wc prog tbl 45 [.agg 5 [ca100,ca101,Il s.Treaty.Lo,Il s.Treaty.Hi,Il s.Reserve]] m Q:=by
 have S0:=hS.st;obtain⟨τ0,_⟩:=zr7;refine w45 ?_;unfold zug at hp;intro m0 u;obtain⟨j,l,sa,o⟩:=S0.blk u τ0 1;refine⟨_,_,_,_,_,o.bk.ra,?_⟩;obtain⟨a,y,hp⟩:=zqp hp;refine zv1 (s:=s) (out:=[]) l.pre ha100 ha101 (Sl.nil _) y fun m7 e z A B D F=>?_;obtain⟨G,g⟩:=l.callG B j;have I:=o.k g;refine⟨_,_,_,_,_,_,_,_,_,_,_,rfl,?_⟩;intro za J;obtain⟨p,N,O,P⟩:=G.blk J j 2;have S:=I.k O;obtain⟨T,Y,h,Z,aa⟩:=P.sto N [z,A,Il a.1.s.Treaty.Lo,Il a.1.s.Treaty.Hi,Il a.1.s.Reserve,.bool a.1.asked.b0,.bool a.1.asked.b1,.bool a.1.asked.b2,.bool a.1.asked.b3,.bool a.1.asked.b4];have ba:=S.k Z;refine⟨T,Y,?_⟩;refine zq0 hp (fun ca hp=>?_) fun ca hp=>?_
 ·obtain rfl:=oi hp;exact hq _ e .sl0 h.grw (Sl.nil _)
 refine⟨_,_,_,_,_,_,_,_,_,_,aa.bk.ra,?_⟩;obtain⟨ta,da,hp⟩:=zqp hp;refine zwp (w:=a.1) h.pre D F da fun Aa ea=>?_;obtain⟨i,fa⟩:=h.call ea p;have q:=ba.k fa;refine⟨_,rfl,?_⟩;refine ifd hp (fun ga hp=>?_) fun ga hp=>?_
 ·obtain rfl:=oi hp;exact hq _ e .sl0 i.grw (Sl.nil _)
 refine⟨trivial,_,q.bk.rc rfl,ha100.isSl,_,_,_,_,_,q.bk.ra,?_⟩;obtain⟨oa,pa,qa⟩:∃ws,zaE vW [.agg 5 [ca100,ca101,Il s.Treaty.Lo,Il s.Treaty.Hi,Il s.Reserve]]=some ws/\zbZ wV ws=[.agg 5 [ca100,ca101,Il s.Treaty.Lo,Il s.Treaty.Hi,Il s.Reserve]]:=(zqz (zqx (zqt ha100.noFn (zqt ha101.noFn (zqt rfl (zqt rfl (zqt rfl zqu)))))) zqy);rw[pa,zd6]
 try rw[ha100.slLen]
 have t:zu3 e ((C.fn (Fn.func 79) oa [])) (fun d=>zt5 s d):=by
  intro f' m' d ua r Q hs hpre ha hg hq
  show Wc prog tbl 79 (appS (zbZ wV oa) _) m' Q
  rw[qa];exact zws hpre ((ha100.sub g.fs).sub hs) ((ha101.sub g.fs).sub hs) ha hg hq
 obtain⟨va,ia,hp⟩:=zqp hp;refine zu9 (n:=(s.Members.length:Int)) (passes:=(fun d=>zt5 s d)) i.pre t ia fun Ba ja ka la ma=>?_;obtain⟨na,wa⟩:=i.callG la p;refine⟨_,rfl,?_⟩;obtain rfl:=oi hp;exact hq _ ja ka na.grw ma
theorem zwB:TA prog 36 3:=⟨78,by kernel_rfl,by kernel_rfl,by kernel_rfl⟩
theorem zwC{r:Rg}{m f:M}{Q:V->M->Prop}{rz:Rg}(hS:Pre f m)(hp:zuh r=some rz)(hq:∀m',Ext m m'->Q (.agg 2 [Il rz.Lo,Il rz.Hi]) m'):Wc prog tbl 26 [.agg 2 [Il r.Lo,Il r.Hi]] m Q:=by
 have s:=hS.st;obtain⟨t,_⟩:=zr7;refine w26 ?_;unfold zuh at hp;intro z c;obtain⟨d,e,u,g⟩:=s.blk c t 1;intro A h;obtain⟨w,i,j,l⟩:=e.blk h d 2;have a:=g.k j;refine⟨trivial,_,a.bk.rc rfl,trivial,_,a.bk.rc rfl,?_⟩;obtain⟨n,o,p,y,q⟩:=l.sto i [Il r.Lo,Il r.Hi];refine⟨n,o,?_⟩;refine⟨_,_,q.bk.ra,?_⟩;obtain rfl:=oi hp;exact hq _ p.ext'
theorem zwD{s:Soc}{ca100 ca101:C}{m f:M}{Q:V->M->Prop}{rz:Soc}(hS:Pre f m)(ha100:Sl f ca100 s.Members)(ha101:Sl f ca101 s.Losses)(hp:zuk s=some rz)(hq:∀m' f' c0 c1,Grw m f m' f'->Sl f' c0 rz.Members->Sl f' c1 rz.Losses->Q (.agg 5 [c0,c1,Il rz.Treaty.Lo,Il rz.Treaty.Hi,Il rz.Reserve]) m'):Wc prog tbl 21 [.agg 5 [ca100,ca101,Il s.Treaty.Lo,Il s.Treaty.Hi,Il s.Reserve]] m Q:=by
 have S0:=hS.st;obtain⟨τ0,_⟩:=zr7;refine w21 ?_;unfold zuk at hp;intro m0 Na;obtain⟨Oa,Pa,Pc,Qa⟩:=S0.blk Na τ0 1;intro m1 Ra;obtain⟨Sa,Ta,Ua,Va⟩:=Pa.blk Ra Oa 2;have Wa:=Qa.k Ua;intro m2 Xa;obtain⟨xa,ya,za,Ia⟩:=Ta.growK Xa Sa 3;have fa:=Wa.k za;have Ya:=Va.k za;have Za:=Ia 0 (by decide);refine⟨trivial,_,_,fa.bk.rp (k:=2) (j:=2) rfl (by omega),?_⟩;obtain⟨Aa,ab,hp⟩:=zqp hp;refine zwC (r:=s.Treaty) ya.pre  ab fun m6 bb=>?_;obtain⟨cb,ga⟩:=ya.call bb xa;have Ba:=fa.k ga;have db:=Ya.k ga;have eb:=Za.k ga;refine⟨_,_,rfl,trivial,_,Ba.bk.rc rfl,(fa.bk.rc rfl),?_⟩;intro Tc fb;obtain⟨gb,Ca,hb⟩:=eb.set cb fb;have ha:=Ba.k Ca;have ib:=db.k Ca;refine⟨(ha.bk.rc rfl),(ha.bk.rp (k:=2) (j:=2) rfl (by omega)),?_⟩;obtain⟨jb,kb,mb,Da,i⟩:=hb.sto gb [.sl0,.sl0,Il Aa.Lo,Il Aa.Hi,Il s.Reserve];have e:=ha.k Da;have l:=ib.k Da;refine⟨jb,kb,?_⟩;intro Gc ob
 have hgo:∀(S:Nat) (ta:Int) (n:C) (B:C) (u:List Mb) (T:List Rg) (D:Int) (F:Int) (G:Int) (q:M) (o:Nat->Nat),St (Fm.of m) f f q->Lb (Fm.of m) f o q 1 m.nxt 5 [ca100,ca101,Il s.Treaty.Lo,Il s.Treaty.Hi,Il s.Reserve]->Lb (Fm.of m) f o q 2 m0.nxt 5 [.sl0,.sl0,Il 0,Il 0,Il 0]->Lb (Fm.of m) f o q 3 (m1.nxt+0) 5 [n,B,Il D,Il F,Il G]->Ow (Fm.of m) f o q 4 n u->Ow (Fm.of m) f o q 5 B T->zuj s S u T D F G ta=some rz->Gc [.c (Il ta)] q:=by
  intro S
  induction S with
  | zero=>intro ta n B u T D F G q o Y e l i d g hp; cases hp
  | succ S Ja=>
   intro ta n B u T D F G q o Y e l i d g hp;refine ob _ _ ?_;rw[zuj] at hp;refine⟨trivial,_,e.bk.rc rfl,ha100.isSl,?_⟩
   try rw[ha100.slLen]
   refine ifd hp (fun pb hp=>?_) fun pb hp=>?_
   ·refine⟨trivial,_,e.bk.rc rfl,?_⟩;obtain⟨I,ia,hp⟩:=zqp hp;obtain⟨Hc,Ka,ua,ia⟩:=zqj ia;obtain⟨_,qb⟩:=zsb ha100 ia;refine⟨Hc,Ka,(by first|exact ua|(rw[ha100.slLen];exact ua)),_,_,_,(qb _ Y.sub).1,?_⟩;intro Uc rb;obtain⟨Qc,sb,J,tb⟩:=Y.blk rb o 6;have ub:=e.k J;have vb:=l.k J;have wb:=i.k J;have d:=d.k J;have g:=g.k J;obtain⟨xb,yb,zb,N,ja⟩:=tb.sto sb [Il I.Sum,Il I.Class,Il I.Most];have Ab:=ub.k N;have Bb:=vb.k N;have Ea:=wb.k N;have d:=d.k N;have g:=g.k N;refine⟨xb,yb,?_⟩;refine⟨trivial,_,Ea.bk.rc rfl,trivial,_,ja.bk.rc rfl,trivial,_,ja.bk.rc rfl,trivial,_,ja.bk.rc rfl,?_⟩;obtain⟨Cb,hp⟩:=zqq hp;intro Vc Db;obtain⟨ka,Eb,Fb,Gb,Hb,Z,la⟩:=d.app' zwB zb (a:=I) (show Rp.rep (α:=Mb) f _ I from rfl) Cb Db;have Ib:=Ab.k Z;have Jb:=Bb.k Z;have Kb:=Ea.k Z;have g:=g.k Z;refine⟨ka,Eb,Gb,?_⟩;refine⟨trivial,?_⟩;obtain⟨Nb,Ob,Pb,aa,ma⟩:=Kb.sto1 Hb 0 ka (by simp) rfl
    replace ma:Lb _ _ _ _ _ _ _ [ka,B,Il D,Il F,Il G]:=ma
    have Qb:=Ib.k aa;have Rb:=Jb.k aa;have g:=g.k aa;have la:=la.k aa;refine⟨Nb,Ob,?_⟩;refine gdi hp fun Sb hp=>?_;exact Ja _ _ _ _ _ _ _ _ _ Fb Pb Qb Rb ma la g hp
   intro Ic Tb
   have hgo:∀(ba:Nat) (va:Int) (w:C) (ca:List Rg) (y:Int) (z:Int) (A:Int) (t:M) (p:Nat->Nat),St (Fm.of m) f f t->Lb (Fm.of m) f p t 1 m.nxt 5 [ca100,ca101,Il s.Treaty.Lo,Il s.Treaty.Hi,Il s.Reserve]->Lb (Fm.of m) f p t 2 m0.nxt 5 [.sl0,.sl0,Il 0,Il 0,Il 0]->Lb (Fm.of m) f p t 3 (m1.nxt+0) 5 [n,w,Il y,Il z,Il A]->Ow (Fm.of m) f p t 5 w ca->Ow (Fm.of m) f p t 4 n u->zui s u ba ca y z A va=some rz->Ic [.c (Il va)] t:=by
    intro ba
    induction ba with
    | zero=>intro va w ca y z A t p O e l i h d hp; cases hp
    | succ ba La=>
     intro va w ca y z A t p O e l i h d hp;refine Tb _ _ ?_;rw[zui] at hp;refine⟨trivial,_,e.bk.rc rfl,ha101.isSl,?_⟩
     try rw[ha101.slLen]
     refine ifd hp (fun Ub hp=>?_) fun Ub hp=>?_; rotate_left
     ·refine⟨_,_,_,_,_,i.bk.ra,?_⟩;obtain⟨Vb,Wb,Xb,Fa,Yb⟩:=l.sto O [n,w,Il y,Il z,Il A];have d:=d.k Fa;have h:=h.k Fa;refine⟨Vb,Wb,?_⟩;refine⟨_,_,_,_,_,Yb.bk.ra,?_⟩;obtain⟨Rc,Zb,ac,bc⟩:=d.freeze Xb;have h:=h.k ac;obtain⟨cc,dc,ec,fc⟩:=h.freeze Zb;obtain rfl:=oi hp;exact hq _ cc n w dc.grw (bc.sub ec.fs) fc
     refine⟨trivial,_,i.bk.rc rfl,trivial,_,e.bk.rc rfl,?_⟩;obtain⟨gc,na,hp⟩:=zqp hp;obtain⟨Jc,Ma,wa,na⟩:=zqj na;obtain⟨_,hc⟩:=zr9 ha101 na;refine⟨Jc,Ma,(by first|exact wa|(rw[ha101.slLen];exact wa)),_,_,(hc _ O.sub).1,?_⟩;obtain⟨Ga,ic,hp⟩:=zqp hp;refine zwC (r:=gc) O.pre  ic fun Xc jc=>?_;obtain⟨kc,P⟩:=O.call jc p;have nc:=e.k P;have oc:=l.k P;have oa:=i.k P;have d:=d.k P;have h:=h.k P;refine⟨_,_,rfl,(by rw[show cmC _=true from zoU (h.noFn)]; exact(oa.bk.rc rfl)),?_⟩;obtain⟨pc,hp⟩:=zqq hp;intro Yc Ha;refine⟨(by rw[show cmC _=true from zoU (h.noFn)]; exact(oa.bk.ext (Bk.new Ha).2).rc rfl),?_⟩;obtain⟨pa,qc,sc,tc,uc,da,qa⟩:=h.app' zvk kc (a:=Ga) (show Rp.rep (α:=Rg) f _ Ga from rfl) pc Ha;have vc:=nc.k da;have wc:=oc.k da;have xc:=oa.k da;have d:=d.k da;refine⟨pa,qc,tc,?_⟩;refine⟨trivial,?_⟩;obtain⟨yc,zc,Ac,ea,sa⟩:=xc.sto1 uc 1 pa (by simp) rfl
     replace sa:Lb _ _ _ _ _ _ _ [n,pa,Il y,Il z,Il A]:=sa
     have Bc:=vc.k ea;have Cc:=wc.k ea;have d:=d.k ea;have qa:=qa.k ea;refine⟨yc,zc,?_⟩;refine gdi hp fun Dc hp=>?_;exact La _ _ _ _ _ _ _ sc Ac Bc Cc sa qa d hp
   exact hgo _ _ _ _ _ _ _ _ o Y e l i g d hp
 exact hgo _ _ _ _ _ _ _ _ _ _ xa mb e l i (Ow.nil _ _ _ _ _) (Ow.nil _ _ _ _ _) hp
theorem zwE{s:Soc}{ca100 ca101:C}{m f:M}{Q:V->M->Prop}{rz:Bool}(hS:Pre f m)(ha100:Sl f ca100 s.Members)(ha101:Sl f ca101 s.Losses)(hp:zul s=some rz)(hq:∀m',Ext m m'->Q (.c (.bool rz)) m'):Wc prog tbl 18 [.agg 5 [ca100,ca101,Il s.Treaty.Lo,Il s.Treaty.Hi,Il s.Reserve]] m Q:=by
 have h:=hS.st;obtain⟨i,_⟩:=zr7;refine w18 ?_;unfold zul at hp;intro n e;obtain⟨j,a,l,d⟩:=h.blk e i 1;refine⟨trivial,_,d.bk.rc rfl,ha100.isSl,?_⟩
 try rw[ha100.slLen]
 refine ifd hp (fun g hp=>?_) fun g hp=>?_; rotate_left
 ·obtain rfl:=oi hp;exact hq _ a.ext'
 refine⟨trivial,_,d.bk.rc rfl,ha101.isSl,?_⟩
 try rw[ha101.slLen]
 obtain rfl:=oi hp;exact hq _ a.ext'
theorem zwF{s:Soc}{ca100 ca101:C}{m f:M}{Q:V->M->Prop}{rz:Int}(hS:Pre f m)(ha100:Sl f ca100 s.Members)(ha101:Sl f ca101 s.Losses)(hp:zum s=some rz)(hq:∀m',Ext m m'->Q (.c (Il rz)) m'):Wc prog tbl 24 [.agg 5 [ca100,ca101,Il s.Treaty.Lo,Il s.Treaty.Hi,Il s.Reserve]] m Q:=by
 have l:=hS.st;obtain⟨n,_⟩:=zr7;refine w24 ?_;unfold zum at hp;intro r d;obtain⟨e,a,o,g⟩:=l.blk d n 1;refine⟨_,_,_,_,_,g.bk.ra,?_⟩;obtain⟨p,h,hp⟩:=zqp hp;refine zvn (s:=s) a.pre ha100 ha101 h fun t i=>?_;obtain⟨j,q⟩:=a.call i e;refine⟨_,rfl,?_⟩;obtain rfl:=oi hp;exact hq _ j.ext'
theorem zwG{low:Int}{high:Int}{m f:M}{Q:V->M->Prop}{rz:Rg}(hS:Pre f m)(hp:zun low high=some rz)(hq:∀m',Ext m m'->Q (.agg 2 [Il rz.Lo,Il rz.Hi]) m'):Wc prog tbl 49 [.c (Il low),.c (Il high)] m Q:=by
 have l:=hS.st;obtain⟨n,_⟩:=zr7;refine w49 ?_;unfold zun at hp;intro r a;obtain⟨o,d,p,e⟩:=l.blk a n 1;obtain⟨g,h,i,q,j⟩:=e.sto d [Il low,Il high];refine⟨g,h,?_⟩;refine⟨_,_,j.bk.ra,?_⟩;obtain rfl:=oi hp;exact hq _ i.ext'
theorem zwH{most:Int}{m f:M}{Q:V->M->Prop}{rz:Soc}(hS:Pre f m)(hp:zuo most=some rz)(hq:∀m' f' c0 c1,Grw m f m' f'->Sl f' c0 rz.Members->Sl f' c1 rz.Losses->Q (.agg 5 [c0,c1,Il rz.Treaty.Lo,Il rz.Treaty.Hi,Il rz.Reserve]) m'):Wc prog tbl 48 [.c (Il most)] m Q:=by
 have S0:=hS.st;obtain⟨τ0,_⟩:=zr7;refine w48 ?_;unfold zuo at hp;intro y z;obtain⟨A,B,Ea,D⟩:=S0.blk z τ0 1;intro m1 F;obtain⟨e,i,G,I⟩:=B.blk F A 2;have J:=D.k G;obtain⟨a,N,hp⟩:=zqp hp;refine zwG (low:=(200:Int)) (high:=(210:Int)) i.pre  N fun m3 O=>?_;obtain⟨j,n⟩:=i.call O e;have P:=J.k n;have S:=I.k n;refine⟨_,_,rfl,?_⟩;obtain⟨d,T,hp⟩:=zqp hp;refine zwG (low:=(90:Int)) (high:=(90:Int)) j.pre  T fun Y Z=>?_;obtain⟨aa,o⟩:=j.call Z e;have ba:=P.k o;have ca:=S.k o;refine⟨_,_,rfl,?_⟩;intro Fa da;obtain⟨ea,p,q,fa⟩:=aa.blk da e 3;have ga:=ba.k q;have ha:=ca.k q;obtain⟨r,ia,hp⟩:=zqp hp;refine zwG (low:=(20:Int)) (high:=(25:Int)) p.pre  ia fun Ga ja=>?_;obtain⟨ka,g⟩:=p.call ja ea;have la:=ga.k g;have ma:=ha.k g;have na:=fa.k g;refine⟨_,_,rfl,?_⟩;obtain⟨oa,pa,qa,s,sa⟩:=la.sto ka [(C.sl y.nxt 0 3 0 (Option.some 3)),(C.sl Y.nxt 0 2 0 (Option.some 2)),Il r.Lo,Il r.Hi,(Il (30:Int))];have ta:=ma.k s;have ua:=na.k s;refine⟨oa,pa,?_⟩;refine⟨_,_,_,_,_,sa.bk.ra,?_⟩;obtain⟨t,va,wa,u⟩:=ta.freeze qa;have xa:=ua.k wa;have ya:Sl t (C.sl y.nxt 0 3 0 (Option.some 3)) ([({ Sum:=(100:Int),Class:=(2:Int),Most:=most }:Mb),({ Sum:=(100:Int),Class:=(1:Int),Most:=(60:Int) }:Mb),({ Sum:=(50:Int),Class:=(2:Int),Most:=most }:Mb)]:List Mb):=Bk.sl (α:=Mb) (l:=([({ Sum:=(100:Int),Class:=(2:Int),Most:=most }:Mb),({ Sum:=(100:Int),Class:=(1:Int),Most:=(60:Int) }:Mb),({ Sum:=(50:Int),Class:=(2:Int),Most:=most }:Mb)]:List Mb)) u (show Cat (α:=Mb) t [(Il (100:Int)),(Il (2:Int)),Il most,(Il (100:Int)),(Il (1:Int)),(Il (60:Int)),(Il (50:Int)),(Il (2:Int)),Il most] ([({ Sum:=(100:Int),Class:=(2:Int),Most:=most }:Mb),({ Sum:=(100:Int),Class:=(1:Int),Most:=(60:Int) }:Mb),({ Sum:=(50:Int),Class:=(2:Int),Most:=most }:Mb)]:List Mb) from ⟨[(Il (100:Int)),(Il (2:Int)),Il most],_,rfl,rfl,⟨[(Il (100:Int)),(Il (1:Int)),(Il (60:Int))],_,rfl,rfl,⟨[(Il (50:Int)),(Il (2:Int)),Il most],_,rfl,rfl,rfl⟩⟩⟩) rfl rfl _
 obtain⟨h,za,Aa,w⟩:=xa.freeze va;have Ba:Sl h (C.sl Y.nxt 0 2 0 (Option.some 2)) ([a,d]:List Rg):=Bk.sl (α:=Rg) (l:=([a,d]:List Rg)) w (show Cat (α:=Rg) h [Il a.Lo,Il a.Hi,Il d.Lo,Il d.Hi] ([a,d]:List Rg) from ⟨[Il a.Lo,Il a.Hi],_,rfl,rfl,⟨[Il d.Lo,Il d.Hi],_,rfl,rfl,rfl⟩⟩) rfl rfl _;obtain rfl:=oi hp;exact hq _ h (C.sl y.nxt 0 3 0 (Option.some 3)) (C.sl Y.nxt 0 2 0 (Option.some 2)) za.grw (ya.sub Aa.fs) Ba
theorem zwI{m f:M}{Q:V->M->Prop}{rz:Bool}(hS:Pre f m)(hp:zup=some rz)(hq:∀m',Ext m m'->Q (.c (.bool rz)) m'):Wc prog tbl 19 [] m Q:=by
 have S0:=hS.st;obtain⟨τ0,_⟩:=zr7;refine w19 ?_;unfold zup at hp;obtain⟨Aa,Ba,hp⟩:=zqp hp;refine zwH (most:=(500:Int)) S0.pre  Ba fun m1 ud vd wd Ca Da Ea=>?_;obtain⟨J,xd⟩:=S0.callG Ca τ0;refine⟨_,_,_,_,_,rfl,?_⟩;obtain⟨N,Fa,hp⟩:=zqp hp;refine zwu (s:=Aa) J.pre Da Ea Fa fun m8 Ga=>?_;obtain⟨Ha,yd⟩:=J.call Ga τ0;refine⟨_,_,_,rfl,?_⟩;intro Ae Ia;obtain⟨d,Ja,zd,Ka⟩:=Ha.blk Ia τ0 1;obtain⟨La,Ma,O,Ad,Na⟩:=Ka.sto Ja [Il N.1.Lo,Il N.1.Hi];refine⟨La,Ma,?_⟩;obtain⟨Oa,Pa,hp⟩:=zqp hp;refine zwH (most:=(500:Int)) O.pre  Pa fun Be Cd Dd Ed Qa Ra Sa=>?_;obtain⟨P,Ta⟩:=O.callG Qa d;have Ua:=Na.k Ta;refine⟨_,_,_,_,_,rfl,?_⟩;obtain⟨Va,Wa,hp⟩:=zqp hp;refine zww (s:=Oa) (need:=(250:Int)) P.pre Ra Sa Wa fun Ce Fd Gd Xa Ya=>?_;obtain⟨S,Za⟩:=P.callG Xa d;have ab:=Ua.k Za;refine⟨_,_,_,rfl,?_⟩;obtain⟨bb,cb,hp⟩:=zqp hp;refine zwH (most:=(500:Int)) S.pre  cb fun De Hd Id Jd db eb fb=>?_;obtain⟨T,Y⟩:=S.callG db d;have gb:=ab.k Y;refine⟨_,_,_,_,_,rfl,?_⟩;obtain⟨Ld,hb,hp⟩:=zqp hp;refine zwy (s:=bb) T.pre eb fb hb fun Ee Md Nd ib i=>?_;obtain⟨Z,aa⟩:=T.callG ib d;have jb:=gb.k aa;refine⟨_,_,rfl,?_⟩;obtain⟨kb,mb,hp⟩:=zqp hp;refine zwH (most:=(500:Int)) Z.pre  mb fun Fe Od Pd Qd ob pb qb=>?_;obtain⟨ba,j⟩:=Z.callG ob d;have rb:=jb.k j;refine⟨_,_,_,_,_,rfl,?_⟩;obtain⟨Rd,sb,hp⟩:=zqp hp;refine zwz (s:=kb) ba.pre pb qb sb fun Ge tb=>?_;obtain⟨ca,ub⟩:=ba.call tb d;have vb:=rb.k ub;refine⟨_,_,rfl,?_⟩;obtain⟨wb,xb,hp⟩:=zqp hp;refine zwH (most:=(500:Int)) ca.pre  xb fun He Sd Td Ud yb zb Ab=>?_
 obtain⟨da,n⟩:=ca.callG yb d;have Bb:=vb.k n;refine⟨_,_,_,_,_,rfl,?_⟩;obtain⟨Cb,Db,hp⟩:=zqp hp;refine zwA (s:=wb) da.pre zb Ab Db fun Ie Vd Wd Eb Fb=>?_;obtain⟨ea,o⟩:=da.callG Eb d;have Gb:=Bb.k o;refine⟨_,_,rfl,?_⟩;obtain⟨Hb,Ib,hp⟩:=zqp hp;refine zwH (most:=(150:Int)) ea.pre  Ib fun Je Xd Yd Zd Jb Kb Nb=>?_;obtain⟨fa,e⟩:=ea.callG Jb d;have Ob:=Gb.k e;refine⟨_,_,_,_,_,rfl,?_⟩;obtain⟨Pb,Qb,hp⟩:=zqp hp;refine zwA (s:=Hb) fa.pre Kb Nb Qb fun Ke ae be Rb Sb=>?_;obtain⟨y,g⟩:=fa.callG Rb d;have ga:=Ob.k g;refine⟨_,_,rfl,?_⟩;refine ifd hp (fun Tb hp=>?_) fun Tb hp=>?_; rotate_left
 ·obtain rfl:=oi hp;exact hq _ y.ext'
 refine⟨_,_,ga.bk.ra,?_⟩;obtain⟨ce,Ub,hp⟩:=zqp hp;refine zwG (low:=(235:Int)) (high:=(250:Int)) y.pre  Ub fun od Vb=>?_;obtain⟨w,Wb⟩:=y.call Vb d;have Xb:=ga.k Wb;refine⟨_,_,rfl,(Xb.bk.ra),?_⟩;refine gdi hp fun Yb hp=>?_;refine gdi hp fun Zb hp=>?_;refine gdi hp fun ac hp=>?_;refine gdi hp fun bc hp=>?_;refine zq1 hp (fun cc hp=>?_) fun cc hp=>?_; rotate_left
 ·obtain rfl:=oi hp;exact hq _ w.ext'
 refine ifd hp (fun dc hp=>?_) fun dc hp=>?_; rotate_left
 ·obtain rfl:=oi hp;exact hq _ w.ext'
 refine ifd hp (fun ec hp=>?_) fun ec hp=>?_; rotate_left
 ·obtain rfl:=oi hp;exact hq _ w.ext'
 intro Me fc;obtain⟨r,gc,de,hc⟩:=w.blk fc d 2;obtain⟨ha,ia,h,ta⟩:=hc.freeze gc;have ic:Sl ha (C.sl od.nxt 0 3 0 (Option.some 3)) ([(127:Int),(60:Int),(63:Int)]:List Int):=Bk.sl (α:=Int) (l:=([(127:Int),(60:Int),(63:Int)]:List Int)) ta (show Cat (α:=Int) ha [(Il (127:Int)),(Il (60:Int)),(Il (63:Int))] ([(127:Int),(60:Int),(63:Int)]:List Int) from ⟨[(Il (127:Int))],_,rfl,rfl,⟨[(Il (60:Int))],_,rfl,rfl,⟨[(Il (63:Int))],_,rfl,rfl,rfl⟩⟩⟩) rfl rfl _;obtain⟨ee,jc,hp⟩:=zqp hp;refine zvB (a:=Va.1) (b:=([(127:Int),(60:Int),(63:Int)]:List Int)) ia.pre (Ya.sub (Sub.trans (Sub.trans (Sub.trans (Sub.trans (Sub.trans (Sub.trans (Sub.trans Y.fs aa.fs) j.fs) n.fs) o.fs) e.fs) g.fs) h.fs)) ic jc fun Ne kc=>?_;obtain⟨p,fe⟩:=ia.call kc r;refine⟨_,rfl,?_⟩;refine zq1 hp (fun nc hp=>?_) fun nc hp=>?_; rotate_left
 ·obtain rfl:=oi hp;exact hq _ p.ext'
 refine ifd hp (fun oc hp=>?_) fun oc hp=>?_; rotate_left
 ·obtain rfl:=oi hp;exact hq _ p.ext'
 refine⟨i.isSl,?_⟩
 try rw[i.slLen]
 refine ifd hp (fun pc hp=>?_) fun pc hp=>?_; rotate_left
 ·obtain rfl:=oi hp;exact hq _ p.ext'
 obtain⟨ge,z,hp⟩:=zqp hp;obtain⟨pd,ua,F,z⟩:=zqj z;obtain⟨_,ja⟩:=zr9 i z;refine⟨pd,ua,(by first|exact F|(rw[i.slLen];exact F)),_,_,(ja _ (Sub.trans (Sub.trans (Sub.trans (Sub.trans (Sub.trans (Sub.trans j.fs n.fs) o.fs) e.fs) g.fs) h.fs) p.sub)).1,?_⟩;obtain⟨he,qc,hp⟩:=zqp hp;refine zwG (low:=(117:Int)) (high:=(127:Int)) p.pre  qc fun Oe sc=>?_;obtain⟨t,ie⟩:=p.call sc r;refine⟨_,_,rfl,(ja _ (Sub.trans (Sub.trans (Sub.trans (Sub.trans (Sub.trans (Sub.trans j.fs n.fs) o.fs) e.fs) g.fs) h.fs) t.sub)).1,?_⟩;refine gdi hp fun tc hp=>?_;refine gdi hp fun uc hp=>?_;refine gdi hp fun vc hp=>?_;refine gdi hp fun wc hp=>?_;refine zq1 hp (fun xc hp=>?_) fun xc hp=>?_; rotate_left
 ·obtain rfl:=oi hp;exact hq _ t.ext'
 obtain⟨je,A,hp⟩:=zqp hp;obtain⟨qd,va,G,A⟩:=zqj A;obtain⟨_,ka⟩:=zr9 i A;refine⟨qd,va,(by first|exact G|(rw[i.slLen];exact G)),_,_,(ka _ (Sub.trans (Sub.trans (Sub.trans (Sub.trans (Sub.trans (Sub.trans j.fs n.fs) o.fs) e.fs) g.fs) h.fs) t.sub)).1,?_⟩;obtain⟨ke,yc,hp⟩:=zqp hp;refine zwG (low:=(59:Int)) (high:=(60:Int)) t.pre  yc fun Pe zc=>?_;obtain⟨u,me⟩:=t.call zc r;refine⟨_,_,rfl,(ka _ (Sub.trans (Sub.trans (Sub.trans (Sub.trans (Sub.trans (Sub.trans j.fs n.fs) o.fs) e.fs) g.fs) h.fs) u.sub)).1,?_⟩;refine gdi hp fun Ac hp=>?_;refine gdi hp fun Bc hp=>?_;refine gdi hp fun Cc hp=>?_;refine gdi hp fun Dc hp=>?_;refine zq1 hp (fun Ec hp=>?_) fun Ec hp=>?_; rotate_left
 ·obtain rfl:=oi hp;exact hq _ u.ext'
 obtain⟨oe,B,hp⟩:=zqp hp;obtain⟨sd,wa,I,B⟩:=zqj B;obtain⟨_,la⟩:=zr9 i B;refine⟨sd,wa,(by first|exact I|(rw[i.slLen];exact I)),_,_,(la _ (Sub.trans (Sub.trans (Sub.trans (Sub.trans (Sub.trans (Sub.trans j.fs n.fs) o.fs) e.fs) g.fs) h.fs) u.sub)).1,?_⟩;obtain⟨pe,Fc,hp⟩:=zqp hp;refine zwG (low:=(59:Int)) (high:=(63:Int)) u.pre  Fc fun td Gc=>?_;obtain⟨q,qe⟩:=u.call Gc r;refine⟨_,_,rfl,(la _ (Sub.trans (Sub.trans (Sub.trans (Sub.trans (Sub.trans (Sub.trans j.fs n.fs) o.fs) e.fs) g.fs) h.fs) q.sub)).1,?_⟩;refine gdi hp fun Hc hp=>?_;refine gdi hp fun Ic hp=>?_;refine gdi hp fun Jc hp=>?_;refine gdi hp fun Kc hp=>?_;refine zq1 hp (fun Nc hp=>?_) fun Nc hp=>?_; rotate_left
 ·obtain rfl:=oi hp;exact hq _ q.ext'
 refine ifd hp (fun Pc hp=>?_) fun Pc hp=>?_; rotate_left
 ·obtain rfl:=oi hp;exact hq _ q.ext'
 refine ifd hp (fun Qc hp=>?_) fun Qc hp=>?_; rotate_left
 ·obtain rfl:=oi hp;exact hq _ q.ext'
 refine ifd hp (fun Rc hp=>?_) fun Rc hp=>?_; rotate_left
 ·obtain rfl:=oi hp;exact hq _ q.ext'
 intro re Tc;obtain⟨ma,Uc,se,Vc⟩:=q.blk Tc r 3;obtain⟨na,oa,pa,xa⟩:=Vc.freeze Uc;have Xc:Sl na (C.sl td.nxt 0 2 0 (Option.some 2)) ([(0:Int),(2:Int)]:List Int):=Bk.sl (α:=Int) (l:=([(0:Int),(2:Int)]:List Int)) xa (show Cat (α:=Int) na [Il 0,(Il (2:Int))] ([(0:Int),(2:Int)]:List Int) from ⟨[Il 0],_,rfl,rfl,⟨[(Il (2:Int))],_,rfl,rfl,rfl⟩⟩) rfl rfl _;obtain⟨te,Yc,hp⟩:=zqp hp;refine zvB (a:=Cb.1) (b:=([(0:Int),(2:Int)]:List Int)) oa.pre (Fb.sub (Sub.trans (Sub.trans (Sub.trans e.fs g.fs) h.fs) pa.fs)) Xc Yc fun Zc ad=>?_;obtain⟨D,ue⟩:=oa.call ad ma;refine⟨_,rfl,?_⟩;refine zq1 hp (fun bd hp=>?_) fun bd hp=>?_; rotate_left
 ·obtain rfl:=oi hp;exact hq _ D.ext'
 refine ifd hp (fun cd hp=>?_) fun cd hp=>?_; rotate_left
 ·obtain rfl:=oi hp;exact hq _ D.ext'
 intro ve dd;obtain⟨ed,fd,we,hd⟩:=D.blk dd ma 4;obtain⟨qa,sa,id,ya⟩:=hd.freeze fd;have jd:Sl qa (C.sl Zc.nxt 0 1 0 (Option.some 1)) ([(0:Int)]:List Int):=Bk.sl (α:=Int) (l:=([(0:Int)]:List Int)) ya (show Cat (α:=Int) qa [Il 0] ([(0:Int)]:List Int) from ⟨[Il 0],_,rfl,rfl,rfl⟩) rfl rfl _;obtain⟨xe,kd,hp⟩:=zqp hp;refine zvB (a:=Pb.1) (b:=([(0:Int)]:List Int)) sa.pre (Sb.sub (Sub.trans (Sub.trans h.fs pa.fs) id.fs)) jd kd fun ye ld=>?_;obtain⟨md,ze⟩:=sa.call ld ed;refine⟨_,rfl,?_⟩;obtain rfl:=oi hp;exact hq _ md.ext'
theorem zwJ{s:Soc}{ca100 ca101:C}{m f:M}{Q:V->M->Prop}{rz:Bool}(hS:Pre f m)(ha100:Sl f ca100 s.Members)(ha101:Sl f ca101 s.Losses)(hp:zuq s=some rz)(hq:∀m',Ext m m'->Q (.c (.bool rz)) m'):Wc prog tbl 6 [.agg 5 [ca100,ca101,Il s.Treaty.Lo,Il s.Treaty.Hi,Il s.Reserve]] m Q:=by
 have S0:=hS.st;obtain⟨τ0,_⟩:=zr7;refine w6 ?_;unfold zuq at hp;intro m0 N;obtain⟨d,t,yb,u⟩:=S0.blk N τ0 1;refine⟨_,_,_,_,_,u.bk.ra,?_⟩;obtain⟨zb,O,hp⟩:=zqp hp;refine zwE (s:=s) t.pre ha100 ha101 O fun m7 P=>?_;obtain⟨p,S⟩:=t.call P d;have w:=u.k S;refine⟨_,rfl,?_⟩;refine zq2 hp (fun T hp=>?_) fun T hp=>?_
 ·obtain⟨Ab,Y,hp⟩:=zqp hp;refine zwI p.pre  Y fun jc Z=>?_;obtain⟨aa,Bb⟩:=p.call Z d;refine⟨_,rfl,?_⟩;obtain rfl:=oi hp;exact hq _ aa.ext'
 refine⟨_,_,_,_,_,w.bk.ra,?_⟩;obtain⟨ba,ca,hp⟩:=zqp hp;refine zwD (s:=s) p.pre ha100 ha101 ca fun kc Cb Db Eb da ea fa=>?_;obtain⟨y,e⟩:=p.callG da d;have ga:=w.k e;refine⟨_,_,_,_,_,rfl,?_⟩;obtain⟨Fb,ha,hp⟩:=zqp hp;refine zwz (s:=ba) y.pre ea fa ha fun nc ia=>?_;obtain⟨z,ja⟩:=y.call ia d;have A:=ga.k ja;refine⟨_,_,rfl,_,_,_,_,_,A.bk.ra,?_⟩;obtain⟨ka,la,hp⟩:=zqp hp;refine zwD (s:=s) z.pre (ha100.sub e.fs) (ha101.sub e.fs) la fun oc Gb Hb Ib ma na oa=>?_;obtain⟨B,g⟩:=z.callG ma d;have pa:=A.k g;refine⟨_,_,_,_,_,rfl,?_⟩;obtain⟨D,qa,hp⟩:=zqp hp;refine zwA (s:=ka) B.pre na oa qa fun pc Jb Kb sa i=>?_;obtain⟨F,h⟩:=B.callG sa d;have G:=pa.k h;refine⟨_,_,rfl,_,_,_,_,_,G.bk.ra,?_⟩;obtain⟨Nb,ta,hp⟩:=zqp hp;refine zwF (s:=s) F.pre (ha100.sub (Sub.trans (Sub.trans e.fs g.fs) h.fs)) (ha101.sub (Sub.trans (Sub.trans e.fs g.fs) h.fs)) ta fun qc ua=>?_;obtain⟨j,va⟩:=F.call ua d;have I:=G.k va;refine⟨_,rfl,?_⟩;refine zq0 hp (fun wa hp=>?_) fun wa hp=>?_
 ·refine ifd hp (fun xa hp=>?_) fun xa hp=>?_; rotate_left
  ·obtain rfl:=oi hp;exact hq _ j.ext'
  refine ifd hp (fun ya hp=>?_) fun ya hp=>?_; rotate_left
  ·obtain rfl:=oi hp;exact hq _ j.ext'
  refine ifd hp (fun za hp=>?_) fun za hp=>?_; rotate_left
  ·obtain rfl:=oi hp;exact hq _ j.ext'
  refine⟨i.isSl,?_⟩
  try rw[i.slLen]
  refine ifd hp (fun Aa hp=>?_) fun Aa hp=>?_; rotate_left
  ·obtain rfl:=oi hp;exact hq _ j.ext'
  obtain⟨Ob,Ba,hp⟩:=zqp hp;refine zwI j.pre  Ba fun sc Ca=>?_;obtain⟨Da,Pb⟩:=j.call Ca d;refine⟨_,rfl,?_⟩;obtain rfl:=oi hp;exact hq _ Da.ext'
 refine⟨_,_,_,_,_,I.bk.ra,?_⟩;obtain⟨Qb,Ea,hp⟩:=zqp hp;refine zvw (s:=s) j.pre (ha100.sub (Sub.trans (Sub.trans e.fs g.fs) h.fs)) (ha101.sub (Sub.trans (Sub.trans e.fs g.fs) h.fs)) Ea fun tc Fa=>?_;obtain⟨l,Ga⟩:=j.call Fa d;have J:=I.k Ga;refine⟨_,rfl,?_⟩;refine ifd hp (fun Ha hp=>?_) fun Ha hp=>?_
 ·refine zq0 hp (fun Ia hp=>?_) fun Ia hp=>?_
  ·obtain rfl:=oi hp;exact hq _ l.ext'
  refine zq0 hp (fun Ja hp=>?_) fun Ja hp=>?_
  ·obtain rfl:=oi hp;exact hq _ l.ext'
  refine⟨_,_,_,_,_,J.bk.ra,?_⟩;obtain⟨Ka,La,hp⟩:=zqp hp;refine zvA (s:=s) l.pre (ha100.sub (Sub.trans (Sub.trans e.fs g.fs) h.fs)) (ha101.sub (Sub.trans (Sub.trans e.fs g.fs) h.fs)) La fun uc Rb Sb Ma Na=>?_;obtain⟨n,Oa⟩:=l.callG Ma d;refine⟨_,_,rfl,?_⟩;refine zq2 hp (fun Pa hp=>?_) fun Pa hp=>?_
  ·refine ifd hp (fun Qa hp=>?_) fun Qa hp=>?_; rotate_left
   ·obtain rfl:=oi hp;exact hq _ n.ext'
   refine⟨i.isSl,?_⟩
   try rw[i.slLen]
   refine ifd hp (fun Ra hp=>?_) fun Ra hp=>?_; rotate_left
   ·obtain rfl:=oi hp;exact hq _ n.ext'
   obtain⟨Tb,Sa,hp⟩:=zqp hp;refine zwI n.pre  Sa fun vc Ta=>?_;obtain⟨Ua,Ub⟩:=n.call Ta d;refine⟨_,rfl,?_⟩;obtain rfl:=oi hp;exact hq _ Ua.ext'
  refine ifd hp (fun Va hp=>?_) fun Va hp=>?_; rotate_left
  ·obtain rfl:=oi hp;exact hq _ n.ext'
  obtain⟨Vb,Wa,hp⟩:=zqp hp;refine zvB (a:=D.1) (b:=Ka.1) n.pre (i.sub Oa.fs) Na Wa fun wc Xa=>?_;obtain⟨q,Wb⟩:=n.call Xa d;refine⟨_,rfl,?_⟩;refine zq1 hp (fun Ya hp=>?_) fun Ya hp=>?_; rotate_left
  ·obtain rfl:=oi hp;exact hq _ q.ext'
  obtain⟨Xb,Za,hp⟩:=zqp hp;refine zwI q.pre  Za fun xc ab=>?_;obtain⟨bb,Yb⟩:=q.call ab d;refine⟨_,rfl,?_⟩;obtain rfl:=oi hp;exact hq _ bb.ext'
 refine zq0 hp (fun cb hp=>?_) fun cb hp=>?_
 ·obtain rfl:=oi hp;exact hq _ l.ext'
 refine zq0 hp (fun db hp=>?_) fun db hp=>?_
 ·obtain rfl:=oi hp;exact hq _ l.ext'
 refine⟨_,_,_,_,_,J.bk.ra,?_⟩;obtain⟨eb,fb,hp⟩:=zqp hp;refine zvA (s:=s) l.pre (ha100.sub (Sub.trans (Sub.trans e.fs g.fs) h.fs)) (ha101.sub (Sub.trans (Sub.trans e.fs g.fs) h.fs)) fb fun yc Zb ac gb hb=>?_;obtain⟨o,ib⟩:=l.callG gb d;refine⟨_,_,rfl,?_⟩;refine zq2 hp (fun jb hp=>?_) fun jb hp=>?_
 ·refine ifd hp (fun kb hp=>?_) fun kb hp=>?_; rotate_left
  ·obtain rfl:=oi hp;exact hq _ o.ext'
  refine⟨i.isSl,?_⟩
  try rw[i.slLen]
  refine ifd hp (fun mb hp=>?_) fun mb hp=>?_; rotate_left
  ·obtain rfl:=oi hp;exact hq _ o.ext'
  obtain⟨bc,ob,hp⟩:=zqp hp;refine zwI o.pre  ob fun zc pb=>?_;obtain⟨qb,cc⟩:=o.call pb d;refine⟨_,rfl,?_⟩;obtain rfl:=oi hp;exact hq _ qb.ext'
 refine ifd hp (fun rb hp=>?_) fun rb hp=>?_; rotate_left
 ·obtain rfl:=oi hp;exact hq _ o.ext'
 obtain⟨dc,sb,hp⟩:=zqp hp;refine zvB (a:=D.1) (b:=eb.1) o.pre (i.sub ib.fs) hb sb fun Ac tb=>?_;obtain⟨r,ec⟩:=o.call tb d;refine⟨_,rfl,?_⟩;refine zq1 hp (fun ub hp=>?_) fun ub hp=>?_; rotate_left
 ·obtain rfl:=oi hp;exact hq _ r.ext'
 obtain⟨fc,vb,hp⟩:=zqp hp;refine zwI r.pre  vb fun Bc wb=>?_;obtain⟨xb,gc⟩:=r.call wb d;refine⟨_,rfl,?_⟩;obtain rfl:=oi hp;exact hq _ xb.ext'
end
end Go.Proofs.Ytkclhciahokifaa

