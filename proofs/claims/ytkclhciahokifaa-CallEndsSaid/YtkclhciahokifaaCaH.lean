/- An evaluator of code, its soundness, and what functions of the program do. Condition: none; a lemma text. -/
import Derived.Test.YtkclhciahokifaaCaG

namespace Go.Proofs.Ytkclhciahokifaa
open _root_.Go.Proofs.Try
open Go.Abs
set_option maxRecDepth 100000
noncomputable section
def zu5(f:M)(x:C)(g:Oc->Option (Int)):Prop:=cmC x=true/\∀(f' m:M) (a0:Oc) (r:Int) (Q:V->M->Prop),Sub f f'->Pre f' m->g a0=some r->(∀m',Ext m m'->Q (.c (.int .i64 r)) m')->zmw prog tbl [.agg 6 [(.int .i64 a0.need),(.int .i64 a0.calls.p0),(.int .i64 a0.calls.p1),(.int .i64 a0.calls.p2),(.int .i64 a0.calls.p3),(.int .i64 a0.calls.p4)]] x m Q
theorem zu5.sub{f m:M}{x:C}{g:Oc->Option (Int)}(h:zu5 f x g)(s:Sub f m):zu5 m x g:=⟨h.1,fun f' m' a0 r Q hs=>h.2 f' m' a0 r Q (s.trans hs)⟩
def zu6(f:M)(x:C)(g:Mb->Option (Bool)):Prop:=∀(f' m:M) (a0:Mb) (r:Bool) (Q:V->M->Prop),Sub f f'->Pre f' m->g a0=some r->(∀m',Ext m m'->Q (.c (.bool r)) m')->zmw prog tbl [.agg 3 [(.int .i64 a0.Sum),(.int .i64 a0.Class),(.int .i64 a0.Most)]] x m Q
theorem zu6.sub{f m:M}{x:C}{g:Mb->Option (Bool)}(h:zu6 f x g)(s:Sub f m):zu6 m x g:=fun f' m' a0 r Q hs=>h f' m' a0 r Q (s.trans hs)
def zu7(f:M)(x:C)(g:Rg->Option (Bool)):Prop:=∀(f' m:M) (a0:Rg) (r:Bool) (Q:V->M->Prop),Sub f f'->Pre f' m->g a0=some r->(∀m',Ext m m'->Q (.c (.bool r)) m')->zmw prog tbl [.agg 2 [(.int .i64 a0.Lo),(.int .i64 a0.Hi)]] x m Q
theorem zu7.sub{f m:M}{x:C}{g:Rg->Option (Bool)}(h:zu7 f x g)(s:Sub f m):zu7 m x g:=fun f' m' a0 r Q hs=>h f' m' a0 r Q (s.trans hs)
def zu8(f:M)(x:C)(g:Int->Option (Bool)):Prop:=∀(f' m:M) (a0:Int) (r:Bool) (Q:V->M->Prop),Sub f f'->Pre f' m->g a0=some r->(∀m',Ext m m'->Q (.c (.bool r)) m')->zmw prog tbl [.c (.int .i64 a0)] x m Q
theorem zu8.sub{f m:M}{x:C}{g:Int->Option (Bool)}(h:zu8 f x g)(s:Sub f m):zu8 m x g:=fun f' m' a0 r Q hs=>h f' m' a0 r Q (s.trans hs)
def zu9(f:M)(x:C)(g:Mb->Option (Int)):Prop:=∀(f' m:M) (a0:Mb) (r:Int) (Q:V->M->Prop),Sub f f'->Pre f' m->g a0=some r->(∀m',Ext m m'->Q (.c (.int .i64 r)) m')->zmw prog tbl [.agg 3 [(.int .i64 a0.Sum),(.int .i64 a0.Class),(.int .i64 a0.Most)]] x m Q
theorem zu9.sub{f m:M}{x:C}{g:Mb->Option (Int)}(h:zu9 f x g)(s:Sub f m):zu9 m x g:=fun f' m' a0 r Q hs=>h f' m' a0 r Q (s.trans hs)
theorem zva:KL prog 152 Sh:=zqP (n:=2) (ks:=[.int .i64,.int .i64]) (by kernel_rfl) (by kernel_rfl) (cs:=fun k=>[.int .i64 k.pence,.int .i64 k.remainder]) (fun _=>rfl) fun a b fa fb=>⟨_,_,(zqO (zqL fa.1 fb.1) (zqO (zqL fa.2.1 fb.2.1) zqN)),⟨fun h=>by obtain⟨apence,aremainder⟩:=a; obtain⟨bpence,bremainder⟩:=b; simp_all,fun h=>by subst h; exact⟨rfl,rfl,trivial⟩⟩⟩
theorem zvb:∀a b:Sh,MK.enc a=MK.enc b->a=b:=fun a b h=>by
 obtain⟨apence,aremainder⟩:=a; obtain⟨bpence,bremainder⟩:=b
 injection h with h1 h2
 simp only[List.cons.injEq,C.int.injEq,true_and,and_true] at h2
 simp_all
theorem zvc:TA prog 28 1:=⟨3,by kernel_rfl,by kernel_rfl,by kernel_rfl⟩
theorem zvd:TA prog 37 2:=⟨38,by kernel_rfl,by kernel_rfl,by kernel_rfl⟩
theorem zve{n:Int}{low:Int}{high:Int}{m f:M}{Q:V->M->Prop}{rz:Bool}(hS:Pre f m)(hp:zsd n low high=some rz)(hq:∀m',Ext m m'->Q (.c (.bool rz)) m'):Wc prog tbl 33 [.c (Il n),.c (Il low),.c (Il high)] m Q:=by
 have d:=hS.st;obtain⟨e,_⟩:=zr4;refine w33 ?_;unfold zsd at hp;refine ifd hp (fun a hp=>?_) fun a hp=>?_
 ·obtain rfl:=oi hp;exact hq _ d.ext'
 obtain rfl:=oi hp;exact hq _ d.ext'
theorem zvf{r:Rg}{m f:M}{Q:V->M->Prop}{rz:Bool}(hS:Pre f m)(hp:zse r=some rz)(hq:∀m',Ext m m'->Q (.c (.bool rz)) m'):Wc prog tbl 86 [.agg 2 [Il r.Lo,Il r.Hi]] m Q:=by
 have l:=hS.st;obtain⟨n,_⟩:=zr4;refine w86 ?_;unfold zse at hp;intro q e;obtain⟨o,d,p,a⟩:=l.blk e n 1;refine⟨trivial,_,a.bk.rc rfl,?_⟩;refine ifd hp (fun g hp=>?_) fun g hp=>?_; rotate_left
 ·obtain rfl:=oi hp;exact hq _ d.ext'
 refine⟨trivial,_,a.bk.rc rfl,trivial,_,a.bk.rc rfl,?_⟩;refine ifd hp (fun h hp=>?_) fun h hp=>?_; rotate_left
 ·obtain rfl:=oi hp;exact hq _ d.ext'
 refine⟨trivial,_,a.bk.rc rfl,?_⟩;refine ifd hp (fun i hp=>?_) fun i hp=>?_; rotate_left
 ·obtain rfl:=oi hp;exact hq _ d.ext'
 refine⟨trivial,_,a.bk.rc rfl,trivial,_,a.bk.rc rfl,?_⟩;refine gdi hp fun j hp=>?_;obtain rfl:=oi hp;exact hq _ d.ext'
theorem zvg{s:Soc}{ca100 ca101:C}{m f:M}{Q:V->M->Prop}{rz:Int}(hS:Pre f m)(ha100:Sl f ca100 s.Members)(ha101:Sl f ca101 s.Losses)(hp:zsg s=some rz)(hq:∀m',Ext m m'->Q (.c (Il rz)) m'):Wc prog tbl 64 [.agg 5 [ca100,ca101,Il s.Treaty.Lo,Il s.Treaty.Hi,Il s.Reserve]] m Q:=by
 have S0:=hS.st;obtain⟨τ0,_⟩:=zr4;refine w64 ?_;unfold zsg at hp;intro m0 ja;obtain⟨y,e,pb,g⟩:=S0.blk ja τ0 1;refine⟨trivial,_,g.bk.rc rfl,ha100.isSl,?_⟩
 try rw[ha100.slLen]
 refine ifd hp (fun ka hp=>?_) fun ka hp=>?_
 ·obtain rfl:=oi hp;exact hq _ e.ext'
 refine⟨trivial,_,g.bk.rc rfl,ha101.isSl,?_⟩
 try rw[ha101.slLen]
 refine ifd hp (fun la hp=>?_) fun la hp=>?_
 ·obtain rfl:=oi hp;exact hq _ e.ext'
 refine⟨trivial,_,g.bk.rc rfl,ha100.isSl,?_⟩
 try rw[ha100.slLen]
 refine ifd hp (fun ma hp=>?_) fun ma hp=>?_
 ·obtain rfl:=oi hp;exact hq _ e.ext'
 refine⟨trivial,_,_,g.bk.rp (k:=2) (j:=2) rfl (by omega),?_⟩;obtain⟨qb,na,hp⟩:=zqp hp;refine zvf (r:=s.Treaty) e.pre  na fun m7 oa=>?_;obtain⟨z,pa⟩:=e.call oa y;have P:=g.k pa;refine⟨_,rfl,?_⟩;refine zq1 hp (fun qa hp=>?_) fun qa hp=>?_
 ·obtain rfl:=oi hp;exact hq _ z.ext'
 refine⟨trivial,_,P.bk.rc rfl,?_⟩;obtain⟨rb,sa,hp⟩:=zqp hp;refine zve (n:=s.Reserve) (low:=(0:Int)) (high:=(100000:Int)) z.pre  sa fun wb ta=>?_;obtain⟨S,ua⟩:=z.call ta y;have a:=P.k ua;refine⟨_,rfl,?_⟩;refine zq1 hp (fun va hp=>?_) fun va hp=>?_
 ·obtain rfl:=oi hp;exact hq _ S.ext'
 intro hb wa
 have hgo:∀(o:Nat) (G:Int) (I:Int) (u:M) (h:Nat->Nat),St (Fm.of m) f f u->Lb (Fm.of m) f h u 1 m.nxt 5 [ca100,ca101,Il s.Treaty.Lo,Il s.Treaty.Hi,Il s.Reserve]->zsf s o G I=some rz->hb [.c (Il G),.c (Il I)] u:=by
  intro o
  induction o with
  | zero=>intro G I u h p a hp; cases hp
  | succ o fa=>
   intro G I u h p a hp;refine wa _ _ _ ?_;rw[zsf] at hp;refine⟨trivial,_,a.bk.rc rfl,ha100.isSl,?_⟩
   try rw[ha100.slLen]
   refine ifd hp (fun xa hp=>?_) fun xa hp=>?_; rotate_left
   ·intro ib ya
    have hgo:∀(q:Nat) (T:Int) (J:Int) (w:M) (i:Nat->Nat),St (Fm.of m) f f w->Lb (Fm.of m) f i w 1 m.nxt 5 [ca100,ca101,Il s.Treaty.Lo,Il s.Treaty.Hi,Il s.Reserve]->prFault_L1 s q J=some rz->ib [.c (Il T),.c (Il J)] w:=by
     intro q
     induction q with
     | zero=>intro T J w i l a hp; cases hp
     | succ q ga=>
      intro T J w i l a hp;refine ya _ _ _ ?_;rw[prFault_L1] at hp;refine⟨trivial,_,a.bk.rc rfl,ha101.isSl,?_⟩
      try rw[ha101.slLen]
      refine ifd hp (fun za hp=>?_) fun za hp=>?_; rotate_left
      ·obtain rfl:=oi hp;exact hq _ l.ext'
      refine⟨trivial,_,a.bk.rc rfl,?_⟩;obtain⟨Aa,A,hp⟩:=zqp hp;obtain⟨jb,ha,N,A⟩:=zqj A;obtain⟨_,Ba⟩:=zr6 ha101 A;refine⟨jb,ha,(by first|exact N|(rw[ha101.slLen];exact N)),_,_,(Ba _ l.sub).1,?_⟩;obtain⟨sb,Ca,hp⟩:=zqp hp;refine zvf (r:=Aa) l.pre  Ca fun xb Da=>?_;obtain⟨Y,Ea⟩:=l.call Da i;have Fa:=a.k Ea;refine⟨_,rfl,?_⟩;refine zq1 hp (fun Ga hp=>?_) fun Ga hp=>?_
      ·obtain rfl:=oi hp;exact hq _ Y.ext'
      refine gdi hp fun Ha hp=>?_;exact ga _ _ _ i Y Fa hp
    exact hgo _ _ _ _ h p a hp
   refine⟨trivial,_,a.bk.rc rfl,?_⟩;obtain⟨d,B,hp⟩:=zqp hp;obtain⟨kb,ia,O,B⟩:=zqj B;obtain⟨_,Ia⟩:=zr8 ha100 B;refine⟨kb,ia,(by first|exact O|(rw[ha100.slLen];exact O)),_,_,_,(Ia _ p.sub).1,?_⟩;intro yb Ja;obtain⟨t,Ka,La,Ma⟩:=p.blk Ja h 2;have Na:=a.k La;obtain⟨Oa,Pa,Z,Qa,aa⟩:=Ma.sto Ka [Il d.Sum,Il d.Class,Il d.Most];have Ra:=Na.k Qa;refine⟨Oa,Pa,?_⟩;refine⟨trivial,_,aa.bk.rc rfl,?_⟩;obtain⟨tb,Sa,hp⟩:=zqp hp;refine zve (n:=d.Sum) (low:=(1:Int)) (high:=(1000:Int)) Z.pre  Sa fun zb Ta=>?_;obtain⟨D,ba⟩:=Z.call Ta t;have Ua:=Ra.k ba;have ca:=aa.k ba;refine⟨_,rfl,?_⟩;refine zq1 hp (fun Va hp=>?_) fun Va hp=>?_
   ·obtain rfl:=oi hp;exact hq _ D.ext'
   refine⟨trivial,_,ca.bk.rc rfl,?_⟩;obtain⟨ub,Wa,hp⟩:=zqp hp;refine zve (n:=d.Class) (low:=(1:Int)) (high:=(10:Int)) D.pre  Wa fun Ab Xa=>?_;obtain⟨F,da⟩:=D.call Xa t;have Ya:=Ua.k da;have Za:=ca.k da;refine⟨_,rfl,?_⟩;refine zq1 hp (fun ab hp=>?_) fun ab hp=>?_
   ·obtain rfl:=oi hp;exact hq _ F.ext'
   refine⟨trivial,_,Za.bk.rc rfl,?_⟩;obtain⟨vb,bb,hp⟩:=zqp hp;refine zve (n:=d.Most) (low:=(0:Int)) (high:=(100000:Int)) F.pre  bb fun Bb cb=>?_;obtain⟨ea,db⟩:=F.call cb t;have eb:=Ya.k db;refine⟨_,rfl,?_⟩;refine zq1 hp (fun fb hp=>?_) fun fb hp=>?_
   ·obtain rfl:=oi hp;exact hq _ ea.ext'
   refine gdi hp fun gb hp=>?_;exact fa _ _ _ t ea eb hp
 exact hgo _ _ _ _ y S a hp
theorem zvh{s:Soc}{t:Tr}{ca100 ca101 ca200:C}{m f:M}{Q:V->M->Prop}{rz:Int}(hS:Pre f m)(_ha100:Sl f ca100 s.Members)(_ha101:Sl f ca101 s.Losses)(ha200:Sl f ca200 t.Losses)(hp:zsi s t=some rz)(hq:∀m',Ext m m'->Q (.c (Il rz)) m'):Wc prog tbl 29 [.agg 5 [ca100,ca101,Il s.Treaty.Lo,Il s.Treaty.Hi,Il s.Reserve],.agg 2 [ca200,Il t.Treaty]] m Q:=by
 have S:=hS.st;obtain⟨T,_⟩:=zr4;refine w29 ?_;unfold zsi at hp;intro Y q;obtain⟨r,u,Z,w⟩:=S.blk q T 1;intro m1 y;obtain⟨z,A,B,a⟩:=u.blk y r 2;have d:=w.k B;refine⟨trivial,_,d.bk.rc rfl,?_⟩;obtain⟨D,hp⟩:=zqq hp;refine⟨D,trivial,_,a.bk.rc rfl,?_⟩;refine gdi hp fun F hp=>?_;intro R4 O
 have hgo:∀(g:Nat) (n:Int) (o:Int) (l:M) (e:Nat->Nat),St (Fm.of m) f f l->Lb (Fm.of m) f e l 1 m.nxt 5 [ca100,ca101,Il s.Treaty.Lo,Il s.Treaty.Hi,Il s.Reserve]->Lb (Fm.of m) f e l 2 Y.nxt 2 [ca200,Il t.Treaty]->zsh t g n o=some rz->R4 [.c (Il n),.c (Il o)] l:=by
  intro g
  induction g with
  | zero=>intro n o l e h d a hp; cases hp
  | succ g G=>
   intro n o l e h d a hp;refine O _ _ _ ?_;rw[zsh] at hp;refine⟨trivial,_,a.bk.rc rfl,ha200.isSl,?_⟩
   try rw[ha200.slLen]
   refine ifd hp (fun I hp=>?_) fun I hp=>?_; rotate_left
   ·obtain rfl:=oi hp;exact hq _ h.ext'
   refine⟨trivial,_,a.bk.rc rfl,?_⟩;obtain⟨ba,i,hp⟩:=zqp hp;obtain⟨P,p,j,i⟩:=zqj i;refine⟨P,p,(by first|exact j|(rw[ha200.slLen];exact j)),_,(ha200.rdI i h.sub),?_⟩;refine gdi hp fun J hp=>?_;refine gdi hp fun N hp=>?_;exact G _ _ _ e h d a hp
 exact hgo _ _ _ _ z A d a hp
theorem zvi{s:Soc}{ca100 ca101:C}{m f:M}{Q:V->M->Prop}{rz:Rg}(hS:Pre f m)(ha100:Sl f ca100 s.Members)(ha101:Sl f ca101 s.Losses)(hp:zsk s=some rz)(hq:∀m',Ext m m'->Q (.agg 2 [Il rz.Lo,Il rz.Hi]) m'):Wc prog tbl 27 [.agg 5 [ca100,ca101,Il s.Treaty.Lo,Il s.Treaty.Hi,Il s.Reserve]] m Q:=by
 have S0:=hS.st;obtain⟨τ0,_⟩:=zr4;refine w27 ?_;unfold zsk at hp;intro m0 Ua;obtain⟨Va,Wa,vd,Xa⟩:=S0.blk Ua τ0 1;intro m1 Ya;obtain⟨Za,ab,bb,cb⟩:=Wa.blk Ya Va 2;have db:=Xa.k bb;intro m2 eb;obtain⟨fb,gb,Aa,Pa⟩:=ab.growK eb Za 3;have fa:=db.k Aa;have hb:=cb.k Aa;have ib:=Pa 0 (by decide);refine⟨trivial,trivial,_,fa.bk.rc rfl,trivial,trivial,_,fa.bk.rc rfl,?_⟩;intro m5 jb;obtain⟨kb,mb,ga,ob⟩:=gb.blk jb fb 4;have ha:=fa.k ga;have pb:=hb.k ga;have qb:=ib.k ga;refine⟨(ha.bk.rc rfl),(ha.bk.rc rfl),?_⟩;intro m6 rb;obtain⟨sb,ia,tb⟩:=qb.set mb rb;have ja:=ha.k ia;have ub:=pb.k ia;have vb:=ob.k ia;refine⟨(ja.bk.rc rfl),(ja.bk.rc rfl),?_⟩;obtain⟨wb,xb,yb,ka,zb⟩:=vb.sto sb [.sl0,Il s.Treaty.Hi];have Ba:=ja.k ka;have Ab:=ub.k ka;have Bb:=tb.k ka;refine⟨wb,xb,?_⟩;refine⟨(Ba.bk.rc rfl),?_⟩;obtain⟨Cb,Db,Eb,la,B⟩:=Bb.sto yb [.sl0,Il s.Treaty.Lo];have p:=Ba.k la;have D:=Ab.k la;have F:=zb.k la;refine⟨Cb,Db,?_⟩;intro R9 cd
 have hgo:∀(T:Nat) (xa:Int) (Y:C) (Z:C) (G:List Int) (u:Int) (I:List Int) (w:Int) (j:M) (h:M) (i:Nat->Nat),St (Fm.of m) f h j->Sub f h->Lb (Fm.of m) h i j 1 m.nxt 5 [ca100,ca101,Il s.Treaty.Lo,Il s.Treaty.Hi,Il s.Reserve]->Lb (Fm.of m) h i j 2 m0.nxt 2 [Il 0,Il 0]->Lb (Fm.of m) h i j 4 m2.nxt 2 [Y,Il u]->Lb (Fm.of m) h i j 3 (m1.nxt+0) 2 [Z,Il w]->Ow (Fm.of m) h i j 5 Y G->Ow (Fm.of m) h i j 6 Z I->zsj s T G u I w xa=some rz->R9 [.c (Il xa)] j:=by
  intro T
  induction T with
  | zero=>intro xa Y Z G u I w j h i ma g p D F B n d hp; cases hp
  | succ T Fb=>
   intro xa Y Z G u I w j h i ma g p D F B n d hp;refine cd _ _ ?_;rw[zsj] at hp;refine⟨trivial,_,p.bk.rc rfl,ha101.isSl,?_⟩
   try rw[ha101.slLen]
   refine ifd hp (fun Gb hp=>?_) fun Gb hp=>?_; rotate_left
   ·refine⟨_,_,_,_,_,p.bk.ra,_,_,F.bk.ra,?_⟩;obtain⟨zd,Ca,o,Hb⟩:=n.freeze ma;have Da:=p.k o;have Ib:=D.k o;have Ea:=B.k o;have d:=d.k o;obtain⟨Jb,Kb,hp⟩:=zqp hp;refine zvh (s:=s) (t:=({ Losses:=G,Treaty:=u }:Tr)) Ca.pre (ha100.sub (Sub.trans g o.fs)) (ha101.sub (Sub.trans g o.fs)) Hb Kb fun Ed Nb=>?_;obtain⟨Ob,aa⟩:=Ca.call Nb i;have fd:=d;have Pb:=Da.k aa;have Qb:=Ib.k aa;have Rb:=Ea.k aa;have d:=d.k aa;refine⟨_,rfl,_,_,_,_,_,Pb.bk.ra,(by rw[show zaL cmC _=true from zoV (zqs ha100.noFn (zqs ha101.noFn (zqs rfl (zqs rfl (zqs rfl zqt)))))]; exact(Da.bk.ra)),_,_,Rb.bk.ra,(by rw[show zaL cmC _=true from zoV (zqs d.noFn (zqs rfl zqt))]; exact(Ea.bk.ra)),?_⟩;obtain⟨Ad,Fa,na,Sb⟩:=d.freeze Ob;have Tb:=Qb.k na;obtain⟨Ub,Vb,hp⟩:=zqp hp;refine zvh (s:=s) (t:=({ Losses:=I,Treaty:=w }:Tr)) Fa.pre (ha100.sub (Sub.trans (Sub.trans g o.fs) na.fs)) (ha101.sub (Sub.trans (Sub.trans g o.fs) na.fs)) Sb Vb fun Fd Wb=>?_;obtain⟨Xb,Yb⟩:=Fa.call Wb i;have Zb:=Tb.k Yb;refine⟨_,rfl,?_⟩;obtain⟨ac,bc,cc,Cd,dc⟩:=Zb.sto Xb [Il Jb,Il Ub];refine⟨ac,bc,?_⟩;refine⟨_,_,dc.bk.ra,?_⟩;obtain rfl:=oi hp;exact hq _ cc.ext'
   intro Gd ec;obtain⟨fc,ba,y,Qa⟩:=ma.growK ec i 7;have hd:=n;have id:=d;have ca:=p.k y;have gc:=D.k y;have oa:=F.k y;have pa:=B.k y;have n:=n.k y;have d:=d.k y;have hc:=Qa 0 (by decide);refine⟨trivial,_,oa.bk.rc rfl,trivial,_,ca.bk.rc rfl,?_⟩;obtain⟨Ga,da,hp⟩:=zqp hp;obtain⟨dd,Ra,ya,da⟩:=zqj da;obtain⟨_,Ha⟩:=zr6 ha101 da;refine⟨dd,Ra,(by first|exact ya|(rw[ha101.slLen];exact ya)),(ha101.isPt da _),_,((Ha _ (Sub.trans g ba.sub)).2.1 0 _ rfl),?_⟩;obtain⟨ic,hp⟩:=zqq hp;intro Hd J;have jc:=(ba.new J fc 0).1;refine⟨(by rw[show cmC _=true from zoU (n.noFn)]; exact(oa.bk.ext (Bk.new J).2).rc rfl),?_⟩;obtain⟨qa,kc,Dd,nc,Ia,z,e⟩:=n.app' zvc ba (a:=Ga.Lo) (show Rp.rep (α:=Int) h _ Ga.Lo from rfl) ic J;have jd:=d;have Ja:=ca.k z;have oc:=gc.k z;have pc:=oa.k z;have Ka:=pa.k z;have qc:=hc.k z;have d:=d.k z;refine⟨qa,kc,nc,?_⟩;refine⟨trivial,_,Ka.bk.rc rfl,(by rw[show cmC _=true from zoU (d.noFn)]; exact((pa.nb J).bk.rc rfl)),(by rw[show cmC _=true from zoU (d.noFn)]; exact(pa.bk.rc rfl)),trivial,_,Ja.bk.rc rfl,(by rw[show cmC _=true from zoU (ha101.noFn)]; exact((ca.nb J).bk.rc rfl)),(by rw[show cmC _=true from zoU (ha101.noFn)]; exact(ca.bk.rc rfl)),?_⟩;obtain⟨N,ea,hp⟩:=zqp hp;obtain⟨ed,Sa,za,ea⟩:=zqj ea;obtain⟨_,sa⟩:=zr6 ha101 ea;refine⟨ed,Sa,(by first|exact za|(rw[ha101.slLen];exact za)),(ha101.isPt ea _),_,((sa _ (Sub.trans g Ia.sub)).2.1 1 _ rfl),((sa _ (Sub.trans g jc.sub)).2.1 1 _ rfl),((sa _ (Sub.trans g ba.sub)).2.1 1 _ rfl),?_⟩;intro Id sc
   obtain⟨La,A,tc⟩:=qc.set Ia sc;have kd:=d;have ld:=e;have Ma:=Ja.k A;have uc:=oc.k A;have Na:=pc.k A;have Oa:=Ka.k A;have d:=d.k A;have e:=e.k A;refine⟨(by rw[show cmC _=true from zoU (d.noFn)]; exact(Oa.bk.rc rfl)),((Ha _ (Sub.trans g La.sub)).2.1 0 _ rfl),(by rw[show cmC _=true from zoU (ha101.noFn)]; exact(Ma.bk.rc rfl)),(by rw[show cmC _=true from zoU (n.noFn)]; exact(Na.bk.rc rfl)),?_⟩;obtain⟨ta,vc,q,Ta⟩:=tc.freeze La;have wc:=Ma.k q;have xc:=uc.k q;have yc:=Na.k q;have zc:=Oa.k q;have d:=d.k q;have e:=e.k q;have Ac:Sl ta (C.sl (j.nxt+0) 0 1 0 (Option.some 1)) ([N.Hi]:List Int):=Bk.sl (α:=Int) (l:=([N.Hi]:List Int)) Ta (show Cat (α:=Int) ta [Il N.Hi] ([N.Hi]:List Int) from ⟨[Il N.Hi],_,rfl,rfl,rfl⟩) rfl rfl _;obtain⟨Bc,hp⟩:=zqq hp;obtain⟨ua,Cc,Dc,Ec,Fc,O,r⟩:=d.appL zvc vc Ac Bc;have md:=e;have Gc:=wc.k O;have Hc:=xc.k O;have Ic:=yc.k O;have Jc:=zc.k O;have e:=e.k O;refine⟨ua,Cc,Ec,?_⟩;refine⟨trivial,?_⟩;obtain⟨Kc,Nc,Pc,P,va⟩:=Ic.sto1 Fc 0 qa (by simp) rfl
   replace va:Lb _ _ _ _ _ _ _ [qa,Il u]:=va
   have nd:=e;have od:=r;have Qc:=Gc.k P;have Rc:=Hc.k P;have Tc:=Jc.k P;have e:=e.k P;have r:=r.k P;refine⟨Kc,Nc,?_⟩;refine⟨trivial,?_⟩;obtain⟨Uc,Vc,Xc,S,wa⟩:=Tc.sto1 Pc 0 ua (by simp) rfl
   replace wa:Lb _ _ _ _ _ _ _ [ua,Il w]:=wa
   have pd:=e;have qd:=r;have Yc:=Qc.k S;have Zc:=Rc.k S;have ad:=va.k S;have e:=e.k S;have r:=r.k S;refine⟨Uc,Vc,?_⟩;refine gdi hp fun bd hp=>?_;exact Fb _ _ _ _ _ _ _ _ ta Dc Xc (Sub.trans g q.fs) Yc Zc ad wa e r hp
 exact hgo _ _ _ _ _ _ _ _ _ f kb Eb (Sub.refl _) p D F B (Ow.nil _ _ _ _ _) (Ow.nil _ _ _ _ _) hp
theorem zvj{s:Soc}{ca100 ca101:C}{m f:M}{Q:V->M->Prop}{rz:Int}(hS:Pre f m)(ha100:Sl f ca100 s.Members)(_ha101:Sl f ca101 s.Losses)(hp:zsw s=some rz)(hq:∀m',Ext m m'->Q (.c (Il rz)) m'):Wc prog tbl 35 [.agg 5 [ca100,ca101,Il s.Treaty.Lo,Il s.Treaty.Hi,Il s.Reserve]] m Q:=by
 have p:=hS.st;obtain⟨q,_⟩:=zr4;refine w35 ?_;unfold zsw at hp;intro r h;obtain⟨n,i,o,j⟩:=p.blk h q 1;refine⟨trivial,_,j.bk.rc rfl,ha100.isSl,?_⟩;refine gdi hp fun l hp=>?_;obtain⟨a,hp⟩:=zqq hp;refine⟨(by first|exact a|(rw[ha100.slLen];exact a)),?_⟩;obtain⟨d,hp⟩:=zqq hp;refine⟨(by first|exact d|(rw[ha100.slLen];exact d)),?_⟩;obtain⟨e,hp⟩:=zqq hp;refine⟨(by first|exact e|(rw[ha100.slLen];exact e)),?_⟩;obtain⟨g,hp⟩:=zqq hp;refine⟨(by first|exact g|(rw[ha100.slLen];exact g)),?_⟩
 try rw[ha100.slLen]
 obtain rfl:=oi hp;exact hq _ i.ext'
theorem zvk{bits:Int}{m f:M}{Q:V->M->Prop}{rz:List Int}(hS:Pre f m)(hp:zsB bits=some rz)(hq:∀m' f' c0,Grw m f m' f'->Sl f' c0 rz->Q (.c c0) m'):Wc prog tbl 53 [.c (Il bits)] m Q:=by
 have S0:=hS.st;obtain⟨τ0,_⟩:=zr4;refine w53 ?_;unfold zsB at hp;intro R0 da
 have hgo:∀(d:Nat) (l:C) (j:Int) (e:List Int) (n:M) (g:Nat->Nat),St (Fm.of m) f f n->Ow (Fm.of m) f g n 1 l e->zsA bits d e j=some rz->R0 [.c l,.c (Il j)] n:=by
  intro d
  induction d with
  | zero=>intro l j e n g h i hp; cases hp
  | succ d o=>
   intro l j e n g h i hp;refine da _ _ _ ?_;rw[zsA] at hp;refine gdi hp fun p hp=>?_;refine gdi hp fun q hp=>?_;refine gdi hp fun r hp=>?_;refine gdi hp fun s hp=>?_;refine ifd hp (fun t hp=>?_) fun t hp=>?_; rotate_left
   ·obtain⟨u,w,ea,y⟩:=i.freeze h;obtain rfl:=oi hp;exact hq _ u l w.grw y
   refine gdi hp fun z hp=>?_;refine gdi hp fun A hp=>?_;refine gdi hp fun B hp=>?_;refine gdi hp fun D hp=>?_;refine gdi hp fun F hp=>?_;refine gdi hp fun G hp=>?_;refine gdi hp fun I hp=>?_;refine ifd hp (fun J hp=>?_) fun J hp=>?_; rotate_left
   ·refine gdi hp fun N hp=>?_;exact o _ _ _ _ g h i hp
   obtain⟨O,hp⟩:=zqq hp;intro m4 P;obtain⟨S,T,Y,Z,aa,fa,ba⟩:=i.app' zvc h (a:=j) (show Rp.rep (α:=Int) f _ j from rfl) O P;refine⟨S,T,Z,?_⟩;refine gdi hp fun ca hp=>?_;exact o _ _ _ _ Y aa ba hp
 exact hgo _ _ _ _ _ τ0 S0 (Ow.nil _ _ _ _ _) hp
theorem zvl{a:List Int}{b:List Int}{ca100 ca200:C}{m f:M}{Q:V->M->Prop}{rz:Bool}(hS:Pre f m)(ha100:Sl f ca100 a)(ha200:Sl f ca200 b)(hp:zsD a b=some rz)(hq:∀m',Ext m m'->Q (.c (.bool rz)) m'):Wc prog tbl 73 [.c ca100,.c ca200] m Q:=by
 have T:=hS.st;obtain⟨Y,_⟩:=zr4;refine w73 ?_;unfold zsD at hp;intro Z I
 have hgo:∀(e:Nat) (F:Bool) (w:Int) (y:M) (g:Nat->Nat),St (Fm.of m) f f y->zsC a b e w=some rz->Z [.c (.bool F),.c (Il w)] y:=by
  intro e
  induction e with
  | zero=>intro F w y g d hp; cases hp
  | succ e G=>
   intro F w y g d hp;refine I _ _ _ ?_;rw[zsC] at hp;refine⟨ha100.isSl,?_⟩
   try rw[ha100.slLen]
   refine ifd hp (fun z hp=>?_) fun z hp=>?_; rotate_left
   ·refine⟨ha100.isSl,ha200.isSl,?_⟩
    try rw[ha100.slLen]
    try rw[ha200.slLen]
    obtain rfl:=oi hp;exact hq _ d.ext'
   refine⟨ha200.isSl,?_⟩
   try rw[ha200.slLen]
   refine ifd hp (fun A hp=>?_) fun A hp=>?_; rotate_left
   ·refine⟨ha100.isSl,ha200.isSl,?_⟩
    try rw[ha100.slLen]
    try rw[ha200.slLen]
    obtain rfl:=oi hp;exact hq _ d.ext'
   obtain⟨N,h,hp⟩:=zqp hp;obtain⟨n4,r,n,h⟩:=zqj h;refine⟨n4,r,(by first|exact n|(rw[ha100.slLen];exact n)),_,(ha100.rdI h d.sub),?_⟩;obtain⟨O,i,hp⟩:=zqp hp;obtain⟨n6,s,o,i⟩:=zqj i;refine⟨n6,s,(by first|exact o|(rw[ha200.slLen];exact o)),_,(ha200.rdI i d.sub),?_⟩;refine zqZ hp (fun B hp=>?_) fun B hp=>?_; rotate_left
   ·refine gdi hp fun D hp=>?_;exact G _ _ _ g d hp
   obtain⟨P,j,hp⟩:=zqp hp;obtain⟨n8,t,p,j⟩:=zqj j;refine⟨n8,t,(by first|exact p|(rw[ha100.slLen];exact p)),_,(ha100.rdI j d.sub),?_⟩;obtain⟨S,l,hp⟩:=zqp hp;obtain⟨J,u,q,l⟩:=zqj l;refine⟨J,u,(by first|exact q|(rw[ha200.slLen];exact q)),_,(ha200.rdI l d.sub),?_⟩;obtain rfl:=oi hp;exact hq _ d.ext'
 exact hgo _ _ _ _ Y T hp
theorem zvm{a:List Int}{b:List Int}{ca100 ca200:C}{m f:M}{Q:V->M->Prop}{rz:Bool}(hS:Pre f m)(ha100:Sl f ca100 a)(ha200:Sl f ca200 b)(hp:zsF a b=some rz)(hq:∀m',Ext m m'->Q (.c (.bool rz)) m'):Wc prog tbl 36 [.c ca100,.c ca200] m Q:=by
 have o:=hS.st;obtain⟨p,_⟩:=zr4;refine w36 ?_;unfold zsF at hp;refine⟨ha100.isSl,ha200.isSl,?_⟩
 try rw[ha100.slLen]
 try rw[ha200.slLen]
 refine ifd hp (fun e hp=>?_) fun e hp=>?_; rotate_left
 ·obtain rfl:=oi hp;exact hq _ o.ext'
 obtain⟨q,g,hp⟩:=zqp hp;refine zvl (a:=a) (b:=b) o.pre ha100 ha200 g fun u h=>?_;obtain⟨d,r⟩:=o.call h p;refine⟨_,rfl,?_⟩;refine zq1 hp (fun i hp=>?_) fun i hp=>?_; rotate_left
 ·obtain rfl:=oi hp;exact hq _ d.ext'
 obtain⟨s,j,hp⟩:=zqp hp;refine zvl (a:=b) (b:=a) d.pre ha200 ha100 j fun w l=>?_;obtain⟨n,t⟩:=d.call l p;refine⟨_,rfl,?_⟩;obtain rfl:=oi hp;exact hq _ n.ext'
theorem zvn{r:Rg}{n:Int}{m f:M}{Q:V->M->Prop}{rz:Bool}(hS:Pre f m)(hp:zsG r n=some rz)(hq:∀m',Ext m m'->Q (.c (.bool rz)) m'):Wc prog tbl 67 [.agg 2 [Il r.Lo,Il r.Hi],.c (Il n)] m Q:=by
 have j:=hS.st;obtain⟨l,_⟩:=zr4;refine w67 ?_;unfold zsG at hp;intro o e;obtain⟨h,a,i,d⟩:=j.blk e l 1;refine⟨trivial,_,d.bk.rc rfl,?_⟩;refine ifd hp (fun g hp=>?_) fun g hp=>?_; rotate_left
 ·obtain rfl:=oi hp;exact hq _ a.ext'
 refine⟨trivial,_,d.bk.rc rfl,?_⟩;obtain rfl:=oi hp;exact hq _ a.ext'
theorem zvo{n:Int}{m f:M}{Q:V->M->Prop}{rz:Bool}(hS:Pre f m)(hp:zsH n=some rz)(hq:∀m',Ext m m'->Q (.c (.bool rz)) m'):Wc prog tbl 91 [.c (Il n)] m Q:=by
 have g:=hS.st;obtain⟨j,_⟩:=zr4;refine w91 ?_;unfold zsH at hp;obtain⟨h,a,hp⟩:=zqp hp;refine zvn (r:=({ Lo:=(0:Int),Hi:=(100000:Int) }:Rg)) (n:=n) g.pre  a fun l d=>?_;obtain⟨e,i⟩:=g.call d j;refine⟨_,rfl,?_⟩;obtain rfl:=oi hp;exact hq _ e.ext'
theorem zvp{r:Rg}{m f:M}{Q:V->M->Prop}{rz:Bool}(hS:Pre f m)(hp:zsI r=some rz)(hq:∀m',Ext m m'->Q (.c (.bool rz)) m'):Wc prog tbl 90 [.agg 2 [Il r.Lo,Il r.Hi]] m Q:=by
 have G:=hS.st;obtain⟨I,_⟩:=zr4;refine w90 ?_;unfold zsI at hp;intro J l;obtain⟨g,h,B,i⟩:=G.blk l I 1;refine⟨trivial,_,i.bk.rc rfl,?_⟩;obtain⟨D,o,hp⟩:=zqp hp;refine zvo (n:=r.Lo) h.pre  o fun N p=>?_;obtain⟨d,q⟩:=h.call p g;have j:=i.k q;refine⟨_,rfl,?_⟩;refine zq0 hp (fun s hp=>?_) fun s hp=>?_; rotate_left
 ·obtain rfl:=oi hp;exact hq _ d.ext'
 refine⟨trivial,_,j.bk.rc rfl,?_⟩;obtain⟨F,t,hp⟩:=zqp hp;refine zvo (n:=r.Hi) d.pre  t fun O u=>?_;obtain⟨e,w⟩:=d.call u g;have a:=j.k w;refine⟨_,rfl,?_⟩;refine zq0 hp (fun y hp=>?_) fun y hp=>?_; rotate_left
 ·obtain rfl:=oi hp;exact hq _ e.ext'
 refine⟨trivial,_,a.bk.rc rfl,trivial,_,a.bk.rc rfl,?_⟩;refine ifd hp (fun z hp=>?_) fun z hp=>?_; rotate_left
 ·obtain rfl:=oi hp;exact hq _ e.ext'
 refine⟨trivial,_,a.bk.rc rfl,trivial,_,a.bk.rc rfl,?_⟩;refine gdi hp fun A hp=>?_;obtain rfl:=oi hp;exact hq _ e.ext'
theorem zvq{l:Lm}{m_:Mb}{m f:M}{Q:V->M->Prop}{rz:Bool}(hS:Pre f m)(hp:zsJ l m_=some rz)(hq:∀m',Ext m m'->Q (.c (.bool rz)) m'):Wc prog tbl 88 [.agg 6 [Il l.su.Lo,Il l.su.Hi,Il l.cl.Lo,Il l.cl.Hi,Il l.mo.Lo,Il l.mo.Hi],.agg 3 [Il m_.Sum,Il m_.Class,Il m_.Most]] m Q:=by
 have S0:=hS.st;obtain⟨τ0,_⟩:=zr4;refine w88 ?_;unfold zsJ at hp;intro m0 t;obtain⟨u,w,Y,y⟩:=S0.blk t τ0 1;intro m1 z;obtain⟨a,g,A,h⟩:=w.blk z u 2;have i:=y.k A;refine⟨trivial,_,_,i.bk.rp (k:=0) (j:=2) rfl (by omega),trivial,_,h.bk.rc rfl,?_⟩;obtain⟨Z,B,hp⟩:=zqp hp;refine zvn (r:=l.su) (n:=m_.Sum) g.pre  B fun m6 D=>?_;obtain⟨d,o⟩:=g.call D a;have p:=i.k o;have q:=h.k o;refine⟨_,rfl,?_⟩;refine zq0 hp (fun F hp=>?_) fun F hp=>?_; rotate_left
 ·obtain rfl:=oi hp;exact hq _ d.ext'
 refine⟨trivial,_,_,p.bk.rp (k:=2) (j:=2) rfl (by omega),trivial,_,q.bk.rc rfl,?_⟩;obtain⟨aa,G,hp⟩:=zqp hp;refine zvn (r:=l.cl) (n:=m_.Class) d.pre  G fun fa I=>?_;obtain⟨e,s⟩:=d.call I a;have J:=p.k s;have N:=q.k s;refine⟨_,rfl,?_⟩;refine zq0 hp (fun O hp=>?_) fun O hp=>?_; rotate_left
 ·obtain rfl:=oi hp;exact hq _ e.ext'
 refine⟨trivial,_,_,J.bk.rp (k:=4) (j:=2) rfl (by omega),trivial,_,N.bk.rc rfl,?_⟩;obtain⟨ba,P,hp⟩:=zqp hp;refine zvn (r:=l.mo) (n:=m_.Most) e.pre  P fun ga S=>?_;obtain⟨T,ca⟩:=e.call S a;refine⟨_,rfl,?_⟩;obtain rfl:=oi hp;exact hq _ T.ext'
theorem zvr{x:Mb}{passes:Mb->Option (Bool)}{b0:Nat}{cb000:C}{m f:M}{Q:V->M->Prop}{rz:Bool}(hS:Pre f m)(hb0:Bk f b0 1 [cb000])(hb000:zu6 f cb000 passes)(hp:zsK x passes=some rz)(hq:∀m',Ext m m'->Q (.c (.bool rz)) m'):Wc prog tbl 108 [.agg 3 [Il x.Sum,Il x.Class,Il x.Most],.c (.ptr b0 0)] m Q:=by
 have p:=hS.st;obtain⟨q,_⟩:=zr4;refine zum ?_;unfold zsK at hp;intro r d;obtain⟨e,a,l,g⟩:=p.blk d q 1;refine⟨_,(hb0.sub a.sub).rc rfl,_,_,_,g.bk.ra,?_⟩;obtain⟨n,h,hp⟩:=zqp hp;refine hb000 _ _ _ _ _ (Sub.refl _) a.pre  h fun s i=>?_;obtain⟨j,o⟩:=a.call i e;refine⟨_,rfl,?_⟩;obtain rfl:=oi hp;exact hq _ j.ext'
theorem zvs{l:List Mb}{p:Mb->Option (Bool)}{ca100 ca200:C}{m f:M}{Q:V->M->Prop}{rz:Int}(hS:Pre f m)(ha100:Sl f ca100 l)(ha200:zu6 f ca200 p)(hp:zsM l p=some rz)(hq:∀m',Ext m m'->Q (.c (Il rz)) m'):Wc prog tbl 121 [.c ca100,.c ca200] m Q:=by
 have G:=hS.st;obtain⟨I,_⟩:=zr4;refine zuH ?_;unfold zsM at hp;refine⟨ha100.isSl,?_⟩;intro J A
 have hgo:∀(d:Nat) (y:Int) (n:Int) (o:M) (e:Nat->Nat),St (Fm.of m) f f o->zsL l p d n=some rz->J [.c (Il y),.c (Il n)] o:=by
  intro d
  induction d with
  | zero=>intro y n o e a hp; cases hp
  | succ d z=>
   intro y n o e a hp;refine A _ _ _ ?_;rw[zsL] at hp
   try rw[ha100.slLen]
   refine ifd hp (fun q hp=>?_) fun q hp=>?_; rotate_left
   ·obtain rfl:=oi hp;exact hq _ a.ext'
   obtain⟨B,g,hp⟩:=zqp hp;obtain⟨N,j,h,g⟩:=zqj g;obtain⟨_,r⟩:=zr8 ha100 g;refine⟨N,j,(by first|exact h|(rw[ha100.slLen];exact h)),_,_,_,(r _ a.sub).1,?_⟩;obtain⟨D,s,hp⟩:=zqp hp;refine ha200 _ _ _ _ _ (Sub.refl _) a.pre  s fun O t=>?_;obtain⟨i,F⟩:=a.call t e;refine⟨_,rfl,?_⟩;refine zq0 hp (fun u hp=>?_) fun u hp=>?_
   ·obtain rfl:=oi hp;exact hq _ i.ext'
   refine gdi hp fun w hp=>?_;exact z _ _ _ e i hp
 exact hgo _ _ _ _ I G hp
theorem zvt{l:List Mb}{p:Mb->Option (Bool)}{ca100 ca200:C}{m f:M}{Q:V->M->Prop}{rz:Bool}(hS:Pre f m)(ha100:Sl f ca100 l)(ha200:zu6 f ca200 p)(hp:zsN l p=some rz)(hq:∀m',Ext m m'->Q (.c (.bool rz)) m'):Wc prog tbl 107 [.c ca100,.c ca200] m Q:=by
 have g:=hS.st;obtain⟨j,_⟩:=zr4;refine zuB ?_;unfold zsN at hp;obtain⟨h,a,hp⟩:=zqp hp;refine zvs (l:=l) (p:=p) g.pre ha100 ha200 a fun n d=>?_;obtain⟨e,i⟩:=g.call d j;refine⟨_,rfl,?_⟩;obtain rfl:=oi hp;exact hq _ e.ext'
theorem zvu{l:List Mb}{passes:Mb->Option (Bool)}{ca100 ca200:C}{m f:M}{Q:V->M->Prop}{rz:Bool}(hS:Pre f m)(ha100:Sl f ca100 l)(ha200:zu6 f ca200 passes)(hp:zsO l passes=some rz)(hq:∀m',Ext m m'->Q (.c (.bool rz)) m'):Wc prog tbl 87 [.c ca100,.c ca200] m Q:=by
 have A:=hS.st;obtain⟨B,_⟩:=zr4;refine w87 ?_;unfold zsO at hp;intro D i;obtain⟨j,n,w,o⟩:=A.blk i B 1;obtain⟨q,d,e,g⟩:=o.freeze n
 have h:zu6 q ((C.fn (Fn.func 108) [] [(W.c (C0.ptr m.nxt 0))])) (fun a=>zsK a passes):=by
  intro f' m' a r Q hs hpre  hg hq;exact zvr hpre (g.sub hs) ((ha200.sub e.fs).sub hs) hg hq
 obtain⟨y,s,hp⟩:=zqp hp;refine zvt (l:=l) (p:=(fun a=>zsK a passes)) d.pre (ha100.sub e.fs) h s fun F t=>?_;obtain⟨u,z⟩:=d.call t j;refine⟨_,rfl,?_⟩;obtain rfl:=oi hp;exact hq _ u.ext'
theorem zvv{x:Rg}{passes:Rg->Option (Bool)}{b0:Nat}{cb000:C}{m f:M}{Q:V->M->Prop}{rz:Bool}(hS:Pre f m)(hb0:Bk f b0 1 [cb000])(hb000:zu7 f cb000 passes)(hp:zsP x passes=some rz)(hq:∀m',Ext m m'->Q (.c (.bool rz)) m'):Wc prog tbl 110 [.agg 2 [Il x.Lo,Il x.Hi],.c (.ptr b0 0)] m Q:=by
 have p:=hS.st;obtain⟨q,_⟩:=zr4;refine zun ?_;unfold zsP at hp;intro r d;obtain⟨e,a,l,g⟩:=p.blk d q 1;refine⟨_,(hb0.sub a.sub).rc rfl,_,_,g.bk.ra,?_⟩;obtain⟨n,h,hp⟩:=zqp hp;refine hb000 _ _ _ _ _ (Sub.refl _) a.pre  h fun s i=>?_;obtain⟨j,o⟩:=a.call i e;refine⟨_,rfl,?_⟩;obtain rfl:=oi hp;exact hq _ j.ext'
theorem zvw{l:List Rg}{p:Rg->Option (Bool)}{ca100 ca200:C}{m f:M}{Q:V->M->Prop}{rz:Int}(hS:Pre f m)(ha100:Sl f ca100 l)(ha200:zu7 f ca200 p)(hp:zsR l p=some rz)(hq:∀m',Ext m m'->Q (.c (Il rz)) m'):Wc prog tbl 122 [.c ca100,.c ca200] m Q:=by
 have G:=hS.st;obtain⟨I,_⟩:=zr4;refine zuu ?_;unfold zsR at hp;refine⟨ha100.isSl,?_⟩;intro J A
 have hgo:∀(d:Nat) (y:Int) (n:Int) (o:M) (e:Nat->Nat),St (Fm.of m) f f o->zsQ l p d n=some rz->J [.c (Il y),.c (Il n)] o:=by
  intro d
  induction d with
  | zero=>intro y n o e a hp; cases hp
  | succ d z=>
   intro y n o e a hp;refine A _ _ _ ?_;rw[zsQ] at hp
   try rw[ha100.slLen]
   refine ifd hp (fun q hp=>?_) fun q hp=>?_; rotate_left
   ·obtain rfl:=oi hp;exact hq _ a.ext'
   obtain⟨B,g,hp⟩:=zqp hp;obtain⟨N,j,h,g⟩:=zqj g;obtain⟨_,r⟩:=zr6 ha100 g;refine⟨N,j,(by first|exact h|(rw[ha100.slLen];exact h)),_,_,(r _ a.sub).1,?_⟩;obtain⟨D,s,hp⟩:=zqp hp;refine ha200 _ _ _ _ _ (Sub.refl _) a.pre  s fun O t=>?_;obtain⟨i,F⟩:=a.call t e;refine⟨_,rfl,?_⟩;refine zq0 hp (fun u hp=>?_) fun u hp=>?_
   ·obtain rfl:=oi hp;exact hq _ i.ext'
   refine gdi hp fun w hp=>?_;exact z _ _ _ e i hp
 exact hgo _ _ _ _ I G hp
theorem zvx{l:List Rg}{p:Rg->Option (Bool)}{ca100 ca200:C}{m f:M}{Q:V->M->Prop}{rz:Bool}(hS:Pre f m)(ha100:Sl f ca100 l)(ha200:zu7 f ca200 p)(hp:zsS l p=some rz)(hq:∀m',Ext m m'->Q (.c (.bool rz)) m'):Wc prog tbl 109 [.c ca100,.c ca200] m Q:=by
 have g:=hS.st;obtain⟨j,_⟩:=zr4;refine zuF ?_;unfold zsS at hp;obtain⟨h,a,hp⟩:=zqp hp;refine zvw (l:=l) (p:=p) g.pre ha100 ha200 a fun n d=>?_;obtain⟨e,i⟩:=g.call d j;refine⟨_,rfl,?_⟩;obtain rfl:=oi hp;exact hq _ e.ext'
theorem zvy{l:List Rg}{passes:Rg->Option (Bool)}{ca100 ca200:C}{m f:M}{Q:V->M->Prop}{rz:Bool}(hS:Pre f m)(ha100:Sl f ca100 l)(ha200:zu7 f ca200 passes)(hp:zsT l passes=some rz)(hq:∀m',Ext m m'->Q (.c (.bool rz)) m'):Wc prog tbl 89 [.c ca100,.c ca200] m Q:=by
 have A:=hS.st;obtain⟨B,_⟩:=zr4;refine w89 ?_;unfold zsT at hp;intro D i;obtain⟨j,n,w,o⟩:=A.blk i B 1;obtain⟨q,d,e,g⟩:=o.freeze n
 have h:zu7 q ((C.fn (Fn.func 110) [] [(W.c (C0.ptr m.nxt 0))])) (fun a=>zsP a passes):=by
  intro f' m' a r Q hs hpre  hg hq;exact zvv hpre (g.sub hs) ((ha200.sub e.fs).sub hs) hg hq
 obtain⟨y,s,hp⟩:=zqp hp;refine zvx (l:=l) (p:=(fun a=>zsP a passes)) d.pre (ha100.sub e.fs) h s fun F t=>?_;obtain⟨u,z⟩:=d.call t j;refine⟨_,rfl,?_⟩;obtain rfl:=oi hp;exact hq _ u.ext'
theorem zvz{x:Int}{passes:Int->Option (Bool)}{b0:Nat}{cb000:C}{m f:M}{Q:V->M->Prop}{rz:Bool}(hS:Pre f m)(hb0:Bk f b0 1 [cb000])(hb000:zu8 f cb000 passes)(hp:zsU x passes=some rz)(hq:∀m',Ext m m'->Q (.c (.bool rz)) m'):Wc prog tbl 119 [.c (Il x),.c (.ptr b0 0)] m Q:=by
 have g:=hS.st;obtain⟨j,_⟩:=zr4;refine zuo ?_;unfold zsU at hp;refine⟨_,(hb0.sub g.sub).rc rfl,?_⟩;obtain⟨h,a,hp⟩:=zqp hp;refine hb000 _ _ _ _ _ (Sub.refl _) g.pre  a fun l d=>?_;obtain⟨e,i⟩:=g.call d j;refine⟨_,rfl,?_⟩;obtain rfl:=oi hp;exact hq _ e.ext'
theorem zvA{l:List Int}{p:Int->Option (Bool)}{ca100 ca200:C}{m f:M}{Q:V->M->Prop}{rz:Int}(hS:Pre f m)(ha100:Sl f ca100 l)(ha200:zu8 f ca200 p)(hp:zsW l p=some rz)(hq:∀m',Ext m m'->Q (.c (Il rz)) m'):Wc prog tbl 123 [.c ca100,.c ca200] m Q:=by
 have F:=hS.st;obtain⟨G,_⟩:=zr4;refine zuz ?_;unfold zsW at hp;refine⟨ha100.isSl,?_⟩;intro I z
 have hgo:∀(d:Nat) (w:Int) (n:Int) (o:M) (e:Nat->Nat),St (Fm.of m) f f o->zsV l p d n=some rz->I [.c (Il w),.c (Il n)] o:=by
  intro d
  induction d with
  | zero=>intro w n o e a hp; cases hp
  | succ d y=>
   intro w n o e a hp;refine z _ _ _ ?_;rw[zsV] at hp
   try rw[ha100.slLen]
   refine ifd hp (fun q hp=>?_) fun q hp=>?_; rotate_left
   ·obtain rfl:=oi hp;exact hq _ a.ext'
   obtain⟨A,g,hp⟩:=zqp hp;obtain⟨J,j,h,g⟩:=zqj g;refine⟨J,j,(by first|exact h|(rw[ha100.slLen];exact h)),_,(ha100.rdI g a.sub),?_⟩;obtain⟨B,r,hp⟩:=zqp hp;refine ha200 _ _ _ _ _ (Sub.refl _) a.pre  r fun N s=>?_;obtain⟨i,D⟩:=a.call s e;refine⟨_,rfl,?_⟩;refine zq0 hp (fun t hp=>?_) fun t hp=>?_
   ·obtain rfl:=oi hp;exact hq _ i.ext'
   refine gdi hp fun u hp=>?_;exact y _ _ _ e i hp
 exact hgo _ _ _ _ G F hp
theorem zvB{l:List Int}{p:Int->Option (Bool)}{ca100 ca200:C}{m f:M}{Q:V->M->Prop}{rz:Bool}(hS:Pre f m)(ha100:Sl f ca100 l)(ha200:zu8 f ca200 p)(hp:zsX l p=some rz)(hq:∀m',Ext m m'->Q (.c (.bool rz)) m'):Wc prog tbl 118 [.c ca100,.c ca200] m Q:=by
 have g:=hS.st;obtain⟨j,_⟩:=zr4;refine zuy ?_;unfold zsX at hp;obtain⟨h,a,hp⟩:=zqp hp;refine zvA (l:=l) (p:=p) g.pre ha100 ha200 a fun n d=>?_;obtain⟨e,i⟩:=g.call d j;refine⟨_,rfl,?_⟩;obtain rfl:=oi hp;exact hq _ e.ext'
theorem zvC{l:List Int}{passes:Int->Option (Bool)}{ca100 ca200:C}{m f:M}{Q:V->M->Prop}{rz:Bool}(hS:Pre f m)(ha100:Sl f ca100 l)(ha200:zu8 f ca200 passes)(hp:zsY l passes=some rz)(hq:∀m',Ext m m'->Q (.c (.bool rz)) m'):Wc prog tbl 103 [.c ca100,.c ca200] m Q:=by
 have A:=hS.st;obtain⟨B,_⟩:=zr4;refine zuE ?_;unfold zsY at hp;intro D i;obtain⟨j,n,w,o⟩:=A.blk i B 1;obtain⟨q,d,e,g⟩:=o.freeze n
 have h:zu8 q ((C.fn (Fn.func 119) [] [(W.c (C0.ptr m.nxt 0))])) (fun a=>zsU a passes):=by
  intro f' m' a r Q hs hpre  hg hq;exact zvz hpre (g.sub hs) ((ha200.sub e.fs).sub hs) hg hq
 obtain⟨y,s,hp⟩:=zqp hp;refine zvB (l:=l) (p:=(fun a=>zsU a passes)) d.pre (ha100.sub e.fs) h s fun F t=>?_;obtain⟨u,z⟩:=d.call t j;refine⟨_,rfl,?_⟩;obtain rfl:=oi hp;exact hq _ u.ext'
theorem zvD{l:List Int}{ca100:C}{m f:M}{Q:V->M->Prop}{rz:Bool}(hS:Pre f m)(ha100:Sl f ca100 l)(hp:zs0 l=some rz)(hq:∀m',Ext m m'->Q (.c (.bool rz)) m'):Wc prog tbl 102 [.c ca100] m Q:=by
 have D:=hS.st;obtain⟨F,_⟩:=zr4;refine zuA ?_;unfold zs0 at hp;intro G z
 have hgo:∀(d:Nat) (w:Bool) (p:Int) (q:M) (e:Nat->Nat),St (Fm.of m) f f q->zsZ l d p=some rz->G [.c (.bool w),.c (Il p)] q:=by
  intro d
  induction d with
  | zero=>intro w p q e a hp; cases hp
  | succ d y=>
   intro w p q e a hp;refine z _ _ _ ?_;rw[zsZ] at hp;refine⟨ha100.isSl,?_⟩
   try rw[ha100.slLen]
   refine ifd hp (fun r hp=>?_) fun r hp=>?_; rotate_left
   ·obtain rfl:=oi hp;exact hq _ a.ext'
   obtain⟨A,g,hp⟩:=zqp hp;obtain⟨I,n,i,g⟩:=zqj g;refine⟨I,n,(by first|exact i|(rw[ha100.slLen];exact i)),_,(ha100.rdI g a.sub),?_⟩;refine gdi hp fun s hp=>?_;obtain⟨B,h,hp⟩:=zqp hp;obtain⟨J,o,j,h⟩:=zqj h;refine⟨J,o,(by first|exact j|(rw[ha100.slLen];exact j)),_,(ha100.rdI h a.sub),?_⟩;refine ifd hp (fun t hp=>?_) fun t hp=>?_
   ·obtain rfl:=oi hp;exact hq _ a.ext'
   refine gdi hp fun u hp=>?_;exact y _ _ _ e a hp
 exact hgo _ _ _ _ F D hp
theorem zvE{s:Soc}{ca100 ca101:C}{m f:M}{Q:V->M->Prop}{rz:Bool}(hS:Pre f m)(ha100:Sl f ca100 s.Members)(ha101:Sl f ca101 s.Losses)(hp:zs1 s=some rz)(hq:∀m',Ext m m'->Q (.c (.bool rz)) m'):Wc prog tbl 65 [.agg 5 [ca100,ca101,Il s.Treaty.Lo,Il s.Treaty.Hi,Il s.Reserve]] m Q:=by
 have j:=hS.st;obtain⟨l,_⟩:=zr4;refine w65 ?_;unfold zs1 at hp;intro n e;obtain⟨h,a,i,d⟩:=j.blk e l 1;refine⟨trivial,_,d.bk.rc rfl,ha100.isSl,?_⟩
 try rw[ha100.slLen]
 refine ifd hp (fun g hp=>?_) fun g hp=>?_
 ·obtain rfl:=oi hp;exact hq _ a.ext'
 refine⟨trivial,_,d.bk.rc rfl,ha101.isSl,?_⟩
 try rw[ha101.slLen]
 obtain rfl:=oi hp;exact hq _ a.ext'
theorem zvF{s:Soc}{ca100 ca101:C}{m f:M}{Q:V->M->Prop}{rz:Bool}(hS:Pre f m)(ha100:Sl f ca100 s.Members)(ha101:Sl f ca101 s.Losses)(hp:zs2 s=some rz)(hq:∀m',Ext m m'->Q (.c (.bool rz)) m'):Wc prog tbl 66 [.agg 5 [ca100,ca101,Il s.Treaty.Lo,Il s.Treaty.Hi,Il s.Reserve]] m Q:=by
 have S0:=hS.st;obtain⟨τ0,_⟩:=zr4;refine w66 ?_;unfold zs2 at hp;intro m0 y;obtain⟨z,A,oa,B⟩:=S0.blk y τ0 1;intro m1 D;obtain⟨a,F,G,I⟩:=A.blk D z 2;have J:=B.k G;obtain⟨N,O,g,P,S⟩:=I.sto F [(Il (1:Int)),(Il (1000:Int)),(Il (1:Int)),(Il (10:Int)),Il 0,(Il (100000:Int))];have h:=J.k P;refine⟨N,O,?_⟩;refine⟨trivial,_,h.bk.rc rfl,ha100.isSl,?_⟩
 try rw[ha100.slLen]
 refine ifd hp (fun T hp=>?_) fun T hp=>?_; rotate_left
 ·obtain rfl:=oi hp;exact hq _ g.ext'
 refine⟨trivial,_,h.bk.rc rfl,_,_,_,_,_,_,S.bk.ra,?_⟩
 have u:zu6 f ((C.fn (Fn.func 88) [(W.agg 6 [(C0.int IntKind.i64 (1:Int)),(C0.int IntKind.i64 (1000:Int)),(C0.int IntKind.i64 (1:Int)),(C0.int IntKind.i64 (10:Int)),(C0.int IntKind.i64 (0:Int)),(C0.int IntKind.i64 (100000:Int))])] [])) (fun d=>zsJ ({ su:=({ Lo:=(1:Int),Hi:=(1000:Int) }:Rg),cl:=({ Lo:=(1:Int),Hi:=(10:Int) }:Rg),mo:=({ Lo:=(0:Int),Hi:=(100000:Int) }:Rg) }:Lm) d):=by
  intro f' m' d r Q hs hpre  hg hq;exact zvq hpre  hg hq
 obtain⟨pa,Y,hp⟩:=zqp hp;refine zvu (l:=s.Members) (passes:=(fun d=>zsJ ({ su:=({ Lo:=(1:Int),Hi:=(1000:Int) }:Rg),cl:=({ Lo:=(1:Int),Hi:=(10:Int) }:Rg),mo:=({ Lo:=(0:Int),Hi:=(100000:Int) }:Rg) }:Lm) d)) g.pre ha100 u Y fun xa Z=>?_;obtain⟨i,aa⟩:=g.call Z a;have q:=h.k aa;refine⟨_,rfl,?_⟩;refine zq0 hp (fun ba hp=>?_) fun ba hp=>?_; rotate_left
 ·obtain rfl:=oi hp;exact hq _ i.ext'
 refine⟨trivial,_,q.bk.rc rfl,?_⟩
 have w:zu7 f ((C.fn (Fn.func 90) [] [])) (fun e=>zsI e):=by
  intro f' m' e r Q hs hpre  hg hq;exact zvp hpre  hg hq
 obtain⟨qa,ca,hp⟩:=zqp hp;refine zvy (l:=s.Losses) (passes:=(fun e=>zsI e)) i.pre ha101 w ca fun ya da=>?_;obtain⟨o,ea⟩:=i.call da a;have t:=q.k ea;refine⟨_,rfl,?_⟩;refine zq0 hp (fun fa hp=>?_) fun fa hp=>?_; rotate_left
 ·obtain rfl:=oi hp;exact hq _ o.ext'
 refine⟨trivial,_,_,t.bk.rp (k:=2) (j:=2) rfl (by omega),?_⟩;obtain⟨sa,ga,hp⟩:=zqp hp;refine zvp (r:=s.Treaty) o.pre  ga fun za ha=>?_;obtain⟨p,ia⟩:=o.call ha a;have ja:=t.k ia;refine⟨_,rfl,?_⟩;refine zq0 hp (fun ka hp=>?_) fun ka hp=>?_; rotate_left
 ·obtain rfl:=oi hp;exact hq _ p.ext'
 refine⟨trivial,_,ja.bk.rc rfl,?_⟩;obtain⟨ta,la,hp⟩:=zqp hp;refine zvo (n:=s.Reserve) p.pre  la fun Aa ma=>?_;obtain⟨na,ua⟩:=p.call ma a;refine⟨_,rfl,?_⟩;obtain rfl:=oi hp;exact hq _ na.ext'
theorem zvG{s:Soc}{ca100 ca101:C}{m f:M}{Q:V->M->Prop}{rz:Int}(hS:Pre f m)(ha100:Sl f ca100 s.Members)(ha101:Sl f ca101 s.Losses)(hp:zs3 s=some rz)(hq:∀m',Ext m m'->Q (.c (Il rz)) m'):Wc prog tbl 25 [.agg 5 [ca100,ca101,Il s.Treaty.Lo,Il s.Treaty.Hi,Il s.Reserve]] m Q:=by
 have A:=hS.st;obtain⟨B,_⟩:=zr4;refine w25 ?_;unfold zs3 at hp;intro F i;obtain⟨d,e,u,g⟩:=A.blk i B 1;refine⟨_,_,_,_,_,g.bk.ra,?_⟩;obtain⟨w,j,hp⟩:=zqp hp;refine zvE (s:=s) e.pre ha100 ha101 j fun G l=>?_;obtain⟨a,n⟩:=e.call l d;have o:=g.k n;refine⟨_,rfl,?_⟩;refine zq0 hp (fun p hp=>?_) fun p hp=>?_
 ·obtain rfl:=oi hp;exact hq _ a.ext'
 refine⟨_,_,_,_,_,o.bk.ra,?_⟩;obtain⟨y,q,hp⟩:=zqp hp;refine zvF (s:=s) a.pre ha100 ha101 q fun D r=>?_;obtain⟨h,z⟩:=a.call r d;refine⟨_,rfl,?_⟩;refine zq1 hp (fun t hp=>?_) fun t hp=>?_
 ·obtain rfl:=oi hp;exact hq _ h.ext'
 obtain rfl:=oi hp;exact hq _ h.ext'
theorem zvH{s:Soc}{n:Int}{ca100 ca101:C}{m f:M}{Q:V->M->Prop}{rz:Bool}(hS:Pre f m)(ha100:Sl f ca100 s.Members)(_ha101:Sl f ca101 s.Losses)(hp:zs6 s n=some rz)(hq:∀m',Ext m m'->Q (.c (.bool rz)) m'):Wc prog tbl 104 [.agg 5 [ca100,ca101,Il s.Treaty.Lo,Il s.Treaty.Hi,Il s.Reserve],.c (Il n)] m Q:=by
 have t:=hS.st;obtain⟨u,_⟩:=zr4;refine zur ?_;unfold zs6 at hp;intro w e;obtain⟨g,a,o,h⟩:=t.blk e u 1;refine⟨trivial,_,h.bk.rc rfl,ha100.isSl,?_⟩;obtain⟨d,hp⟩:=zqq hp;refine⟨(by first|exact d|(rw[ha100.slLen];exact d)),?_⟩
 try rw[ha100.slLen]
 obtain⟨p,i,hp⟩:=zqp hp;refine zvn (r:=({ Lo:=(0:Int),Hi:=((s.Members.length:Int) - (1:Int)) }:Rg)) (n:=n) a.pre  i fun y j=>?_;obtain⟨l,q⟩:=a.call j g;refine⟨_,rfl,?_⟩;obtain rfl:=oi hp;exact hq _ l.ext'
theorem zvI{s:Soc}{l:List Int}{ca100 ca101 ca200:C}{m f:M}{Q:V->M->Prop}{rz:Bool}(hS:Pre f m)(ha100:Sl f ca100 s.Members)(ha101:Sl f ca101 s.Losses)(ha200:Sl f ca200 l)(hp:zs7 s l=some rz)(hq:∀m',Ext m m'->Q (.c (.bool rz)) m'):Wc prog tbl 81 [.agg 5 [ca100,ca101,Il s.Treaty.Lo,Il s.Treaty.Hi,Il s.Reserve],.c ca200] m Q:=by
 have J:=hS.st;obtain⟨N,_⟩:=zr4;refine w81 ?_;unfold zs7 at hp;intro P i;obtain⟨e,g,D,j⟩:=J.blk i N 1;obtain⟨F,n,hp⟩:=zqp hp;refine zvD (l:=l) g.pre ha200 n fun S o=>?_;obtain⟨d,p⟩:=g.call o e;have q:=j.k p;refine⟨_,rfl,?_⟩;refine zq0 hp (fun t hp=>?_) fun t hp=>?_; rotate_left
 ·obtain rfl:=oi hp;exact hq _ d.ext'
 refine⟨_,_,_,_,_,q.bk.ra,?_⟩;obtain⟨z,A,B⟩:∃ws,zaE vW [.agg 5 [ca100,ca101,Il s.Treaty.Lo,Il s.Treaty.Hi,Il s.Reserve]]=some ws/\zbZ wV ws=[.agg 5 [ca100,ca101,Il s.Treaty.Lo,Il s.Treaty.Hi,Il s.Reserve]]:=(zqy (zqw (zqs ha100.noFn (zqs ha101.noFn (zqs rfl (zqs rfl (zqs rfl zqt)))))) zqx);rw[A,zd6]
 have h:zu8 f ((C.fn (Fn.func 104) z [])) (fun a=>zs6 s a):=by
  intro f' m' a r Q hs hpre  hg hq
  show Wc prog tbl 104 (appS (zbZ wV z) _) m' Q
  rw[B];exact zvH hpre (ha100.sub hs) (ha101.sub hs) hg hq
 obtain⟨G,u,hp⟩:=zqp hp;refine zvC (l:=l) (passes:=(fun a=>zs6 s a)) d.pre ha200 h u fun O w=>?_;obtain⟨y,I⟩:=d.call w e;refine⟨_,rfl,?_⟩;obtain rfl:=oi hp;exact hq _ y.ext'
theorem zvJ{l:List Int}{v:Int}{ca100:C}{m f:M}{Q:V->M->Prop}{rz:Int}(hS:Pre f m)(ha100:Sl f ca100 l)(hp:zs9 l v=some rz)(hq:∀m',Ext m m'->Q (.c (Il rz)) m'):Wc prog tbl 120 [.c ca100,.c (Il v)] m Q:=by
 have w:=hS.st;obtain⟨y,_⟩:=zr4;refine zuD ?_;unfold zs9 at hp;refine⟨ha100.isSl,?_⟩;intro z t
 have hgo:∀(d:Nat) (r:Int) (j:Int) (n:M) (e:Nat->Nat),St (Fm.of m) f f n->zs8 l v d j=some rz->z [.c (Il r),.c (Il j)] n:=by
  intro d
  induction d with
  | zero=>intro r j n e a hp; cases hp
  | succ d s=>
   intro r j n e a hp;refine t _ _ _ ?_;rw[zs8] at hp
   try rw[ha100.slLen]
   refine ifd hp (fun o hp=>?_) fun o hp=>?_; rotate_left
   ·obtain rfl:=oi hp;exact hq _ a.ext'
   obtain⟨u,g,hp⟩:=zqp hp;obtain⟨A,i,h,g⟩:=zqj g;refine⟨A,i,(by first|exact h|(rw[ha100.slLen];exact h)),_,(ha100.rdI g a.sub),?_⟩;refine ifd hp (fun p hp=>?_) fun p hp=>?_
   ·obtain rfl:=oi hp;exact hq _ a.ext'
   refine gdi hp fun q hp=>?_;exact s _ _ _ e a hp
 exact hgo _ _ _ _ y w hp
theorem zvK{l:List Int}{v:Int}{ca100:C}{m f:M}{Q:V->M->Prop}{rz:Bool}(hS:Pre f m)(ha100:Sl f ca100 l)(hp:zta l v=some rz)(hq:∀m',Ext m m'->Q (.c (.bool rz)) m'):Wc prog tbl 105 [.c ca100,.c (Il v)] m Q:=by
 have g:=hS.st;obtain⟨j,_⟩:=zr4;refine zuw ?_;unfold zta at hp;obtain⟨h,a,hp⟩:=zqp hp;refine zvJ (l:=l) (v:=v) g.pre ha100 a fun n d=>?_;obtain⟨e,i⟩:=g.call d j;refine⟨_,rfl,?_⟩;obtain rfl:=oi hp;exact hq _ e.ext'
theorem zvL{s:Soc}{out:List Int}{ca100 ca101 ca200:C}{m f:M}{Q:V->M->Prop}{rz:Wk}(hS:Pre f m)(ha100:Sl f ca100 s.Members)(ha101:Sl f ca101 s.Losses)(ha200:Sl f ca200 out)(hp:ztc s out=some rz)(hq:∀m' f' c0 c1,Grw m f m' f'->Sl f' c0 rz.s.Members->Sl f' c1 rz.s.Losses->Q (.agg 10 [c0,c1,Il rz.s.Treaty.Lo,Il rz.s.Treaty.Hi,Il rz.s.Reserve,.bool rz.asked.b0,.bool rz.asked.b1,.bool rz.asked.b2,.bool rz.asked.b3,.bool rz.asked.b4]) m'):Wc prog tbl 82 [.agg 5 [ca100,ca101,Il s.Treaty.Lo,Il s.Treaty.Hi,Il s.Reserve],.c ca200] m Q:=by
 have S0:=hS.st;obtain⟨τ0,_⟩:=zr4;refine w82 ?_;unfold ztc at hp;intro m0 O;obtain⟨P,S,Ja,T⟩:=S0.blk O τ0 1;intro m1 Y;obtain⟨Z,aa,ba,ca⟩:=S.blk Y P 2;have G:=T.k ba;refine⟨_,_,_,_,_,G.bk.ra,?_⟩;intro m7 da;obtain⟨ea,fa,I,ga⟩:=aa.blk da Z 3;have ha:=G.k I;have ia:=ca.k I;obtain⟨ja,ka,la,J,r⟩:=ga.sto fa [ca100,ca101,Il s.Treaty.Lo,Il s.Treaty.Hi,Il s.Reserve,.bool false,.bool false,.bool false,.bool false,.bool false];have t:=ha.k J;have u:=ia.k J;refine⟨ja,ka,?_⟩;refine⟨trivial,_,t.bk.rc rfl,ha100.isSl,?_⟩;intro Ha Ga
 have hgo:∀(w:Nat) (q:Int) (a:Int) (d:Int) (e:Int) (g:Bool) (h:Bool) (i:Bool) (j:Bool) (n:Bool) (z:M) (o:Nat->Nat),St (Fm.of m) f f z->Lb (Fm.of m) f o z 1 m.nxt 5 [ca100,ca101,Il s.Treaty.Lo,Il s.Treaty.Hi,Il s.Reserve]->Lb (Fm.of m) f o z 2 m0.nxt 10 [.sl0,.sl0,Il 0,Il 0,Il 0,.bool false,.bool false,.bool false,.bool false,.bool false]->Lb (Fm.of m) f o z 3 m1.nxt 10 [ca100,ca101,Il a,Il d,Il e,.bool g,.bool h,.bool i,.bool j,.bool n]->ztb s out w a d e g h i j n q=some rz->Ha [.c (Il q)] z:=by
  intro w
  induction w with
  | zero=>intro q a d e g h i j n z o y t u r hp; cases hp
  | succ w ma=>
   intro q a d e g h i j n z o y t u r hp;refine Ga _ _ ?_;rw[ztb] at hp
   try rw[ha100.slLen]
   refine ifd hp (fun na hp=>?_) fun na hp=>?_; rotate_left
   ·refine⟨_,_,_,_,_,_,_,_,_,_,r.bk.ra,?_⟩;obtain⟨oa,pa,qa,Ka,sa⟩:=u.sto y [ca100,ca101,Il a,Il d,Il e,.bool g,.bool h,.bool i,.bool j,.bool n];refine⟨oa,pa,?_⟩;refine⟨_,_,_,_,_,_,_,_,_,_,sa.bk.ra,?_⟩;obtain rfl:=oi hp;exact hq _ f ca100 ca101 qa.grw ha100 ha101
   obtain⟨p,ta,hp⟩:=zqp hp;refine zvK (l:=out) (v:=q) y.pre ha200 ta fun Pa ua=>?_;obtain⟨va,A⟩:=y.call ua o;have wa:=t.k A;have xa:=u.k A;have ya:=r.k A;refine⟨_,rfl,trivial,trivial,?_⟩;obtain⟨za,hp⟩:=zqq hp;obtain⟨Ia,D,F⟩:=zqW za;refine⟨Ia,D,F,?_⟩;obtain⟨Aa,Ba,Ca,N,B⟩:=ya.sta va (pre:=[ca100,ca101,Il a,Il d,Il e]) (post:=[]) (l:=([g,h,i,j,n]:List Bool)) (enc:=C.bool) rfl rfl D F ((!p))
   replace B:Lb _ _ _ _ _ _ _ [ca100,ca101,Il a,Il d,Il e,(.bool (sti q 0 (!p) g)),(.bool (sti q 1 (!p) h)),(.bool (sti q 2 (!p) i)),(.bool (sti q 3 (!p) j)),(.bool (sti q 4 (!p) n))]:=B
   have Da:=wa.k N;have Ea:=xa.k N;refine⟨Aa,Ba,?_⟩;refine gdi hp fun Fa hp=>?_;exact ma _ _ _ _ _ _ _ _ _ _ o Ca Da Ea B hp
 exact hgo _ _ _ _ _ _ _ _ _ _ _ ea la t u r hp
theorem zvM{s:Soc}{out:List Int}{ca100 ca101 ca200:C}{m f:M}{Q:V->M->Prop}{rz:Wk × Int}(hS:Pre f m)(ha100:Sl f ca100 s.Members)(ha101:Sl f ca101 s.Losses)(ha200:Sl f ca200 out)(hp:ztd s out=some rz)(hq:∀m' f' c0 c1,Grw m f m' f'->Sl f' c0 rz.1.s.Members->Sl f' c1 rz.1.s.Losses->Q (.tup [.agg 10 [c0,c1,Il rz.1.s.Treaty.Lo,Il rz.1.s.Treaty.Hi,Il rz.1.s.Reserve,.bool rz.1.asked.b0,.bool rz.1.asked.b1,.bool rz.1.asked.b2,.bool rz.1.asked.b3,.bool rz.1.asked.b4],.c (Il rz.2)]) m'):Wc prog tbl 61 [.agg 5 [ca100,ca101,Il s.Treaty.Lo,Il s.Treaty.Hi,Il s.Reserve],.c ca200] m Q:=by
 have S0:=hS.st;obtain⟨τ0,_⟩:=zr4;refine w61 ?_;unfold ztd at hp;intro m0 u;obtain⟨w,y,qa,z⟩:=S0.blk u τ0 1;intro m1 A;obtain⟨d,h,B,D⟩:=y.blk A w 2;have i:=z.k B;refine⟨_,_,_,_,_,i.bk.ra,?_⟩;obtain⟨sa,F,hp⟩:=zqp hp;refine zvG (s:=s) h.pre ha100 ha101 F fun m8 G=>?_;obtain⟨e,j⟩:=h.call G d;have n:=i.k j;have o:=D.k j;refine⟨_,rfl,?_⟩;refine zqZ hp (fun I hp=>?_) fun I hp=>?_
 ·obtain⟨J,N,O,ta,P⟩:=o.sto e [.sl0,.sl0,Il 0,Il 0,Il 0,.bool false,.bool false,.bool false,.bool false,.bool false];refine⟨J,N,?_⟩;refine⟨_,_,_,_,_,_,_,_,_,_,P.bk.ra,?_⟩;obtain rfl:=oi hp;exact hq _ f .sl0 .sl0 O.grw (Sl.nil _) (Sl.nil _)
 refine⟨_,_,_,_,_,n.bk.ra,?_⟩;obtain⟨ua,S,hp⟩:=zqp hp;refine zvI (s:=s) (l:=out) e.pre ha100 ha101 ha200 S fun za T=>?_;obtain⟨g,p⟩:=e.call T d;have Y:=n.k p;have q:=o.k p;refine⟨_,rfl,?_⟩;refine zq1 hp (fun Z hp=>?_) fun Z hp=>?_
 ·obtain⟨aa,ba,ca,va,da⟩:=q.sto g [.sl0,.sl0,Il 0,Il 0,Il 0,.bool false,.bool false,.bool false,.bool false,.bool false];refine⟨aa,ba,?_⟩;refine⟨_,_,_,_,_,_,_,_,_,_,da.bk.ra,?_⟩;obtain rfl:=oi hp;exact hq _ f .sl0 .sl0 ca.grw (Sl.nil _) (Sl.nil _)
 refine⟨_,_,_,_,_,Y.bk.ra,?_⟩;obtain⟨a,ea,hp⟩:=zqp hp;refine zvL (s:=s) (out:=out) g.pre ha100 ha101 ha200 ea fun Aa fa r t ga ha ia=>?_;obtain⟨ja,ka⟩:=g.callG ga d;have la:=q.k ka;refine⟨_,_,_,_,_,_,_,_,_,_,rfl,?_⟩;obtain⟨ma,na,oa,wa,pa⟩:=la.sto ja [r,t,Il a.s.Treaty.Lo,Il a.s.Treaty.Hi,Il a.s.Reserve,.bool a.asked.b0,.bool a.asked.b1,.bool a.asked.b2,.bool a.asked.b3,.bool a.asked.b4];refine⟨ma,na,?_⟩;refine⟨_,_,_,_,_,_,_,_,_,_,pa.bk.ra,?_⟩;obtain rfl:=oi hp;exact hq _ fa r t oa.grw ha ia
theorem zvN{s:Soc}{losses:Int}{treaty:Int}{ca100 ca101:C}{m f:M}{Q:V->M->Prop}{rz:Int}(hS:Pre f m)(_ha100:Sl f ca100 s.Members)(_ha101:Sl f ca101 s.Losses)(hp:zte s losses treaty=some rz)(hq:∀m',Ext m m'->Q (.c (Il rz)) m'):Wc prog tbl 60 [.agg 5 [ca100,ca101,Il s.Treaty.Lo,Il s.Treaty.Hi,Il s.Reserve],.c (Il losses),.c (Il treaty)] m Q:=by
 have l:=hS.st;obtain⟨n,_⟩:=zr4;refine w60 ?_;unfold zte at hp;intro o a;obtain⟨i,d,j,e⟩:=l.blk a n 1;refine⟨trivial,_,e.bk.rc rfl,?_⟩;refine gdi hp fun g hp=>?_;refine gdi hp fun h hp=>?_;obtain rfl:=oi hp;exact hq _ d.ext'
theorem zvO{s:Soc}{b0:Nat}{cb000 cb001:C}{m f:M}{F:Fm}{n0 ly:Nat}{xs:List (List V)}{I:Nat->(Nat->Prop)->M->Prop}{E:(Nat->Prop)->M->Prop}{S1:Nat->Prop}{Q:V->M->Prop}{rz:List Int}{τ0:Nat->Nat}(hc:zqe prog tbl n0 ly xs I E)(S0:St F f f m)(Y0:Yg n0 (YJ xs I rz) S1 F f τ0 m)(hb0:Bk f b0 5 [cb000,cb001,(.int .i64 s.Treaty.Lo),(.int .i64 s.Treaty.Hi),(.int .i64 s.Reserve)])(hb000:Sl f cb000 s.Members)(hb001:Sl f cb001 s.Losses)(hp:ztj s=some rz)(hq:∀v m' f' τ' S',St F f f' m'->(Yg n0 (YJ xs I ([]:List Int)) S' F f' τ' m'\/Yg n0 E S' F f' τ' m')->Q v m'):Wc prog tbl 106 [.c (.fn (.yield ly) [] []),.c (.ptr b0 0)] m Q:=by
 refine zup ?_;unfold ztj at hp;intro m0 e2095;obtain⟨τ2098,S2096,k2097,L2099⟩:=S0.blk e2095 τ0 1;have Y2100:=Y0.k k2097 (by decide);refine⟨trivial,_,(hb0.sub S2096.sub).rc rfl,hb001.isSl,?_⟩;intro R2 hR2
 have hgo:∀(d2108:Nat) (x3:Int) (y2103:Int) (y2104:Int) (r2105:List Int) (s2106:Nat->Prop) (m4:M) (τ2102:Nat->Nat),St F f f m4->Lb F f τ2102 m4 1 m.nxt 2 [(.int .i64 y2103),(.int .i64 y2104)]->Yg n0 (YJ xs I r2105) s2106 F f τ2102 m4->zti s d2108 y2103 y2104 x3=some r2105->R2 [.c (.int .i64 x3)] m4:=by
  intro d2108
  induction d2108 with
  | zero=>intro x3 y2103 y2104 r2105 s2106 m4 τ2102 S2101 L2099 Y2107 hp; cases hp
  | succ d2108 ihR2=>
   intro x3 y2103 y2104 r2105 s2106 m4 τ2102 S2101 L2099 Y2107 hp;refine hR2 _ _ ?_;rw[zti] at hp
   try rw[hb001.slLen]
   refine ifd hp (fun q2109 hp=>?_) fun q2109 hp=>?_
   ·obtain⟨v2110,g2111,hp⟩:=zqp hp;obtain⟨n5,g2111i,g2111l,g2111⟩:=zqj g2111;obtain⟨_,r2112⟩:=zr6 hb001 g2111;refine⟨n5,g2111i,(by first|exact g2111l|(rw[hb001.slLen];exact g2111l)),_,_,(r2112 _ S2101.sub).1,?_⟩;intro m8 e2113;obtain⟨τ2116,S2114,k2115,L2117⟩:=S2101.blk e2113 τ2102 2;have L2118:=L2099.k k2115 (by decide);have Y2119:=Y2107.k k2115 (by decide);obtain⟨m2123,e2122,S2120,k2121,L2124⟩:=L2117.sto S2114 [(.int .i64 v2110.Lo),(.int .i64 v2110.Hi)];have L2125:=L2118.k k2121 (by decide);have Y2126:=Y2119.k k2121 (by decide);refine⟨m2123,e2122,?_⟩;refine⟨trivial,_,L2125.bk.rc rfl,trivial,_,L2124.bk.rc rfl,?_⟩;obtain⟨g2127,hp⟩:=zqq hp;refine⟨g2127,trivial,?_⟩;obtain⟨m2131,e2130,S2128,k2129,L2132⟩:=L2125.sto1 S2120 0 (.int .i64 (y2103+v2110.Lo)) (by simp) rfl
    replace L2132:Lb _ _ _ _ _ _ _ [(.int .i64 (y2103+v2110.Lo)),(.int .i64 y2104)]:=L2132
    have L2133:=L2124.k k2129 (by decide);have Y2134:=Y2126.k k2129 (by decide);refine⟨m2131,e2130,?_⟩;refine⟨trivial,_,L2132.bk.rc rfl,trivial,_,L2133.bk.rc rfl,?_⟩;obtain⟨g2135,hp⟩:=zqq hp;refine⟨g2135,trivial,?_⟩;obtain⟨m2139,e2138,S2136,k2137,L2140⟩:=L2132.sto1 S2128 1 (.int .i64 (y2104+v2110.Hi)) (by simp) rfl
    replace L2140:Lb _ _ _ _ _ _ _ [(.int .i64 (y2103+v2110.Lo)),(.int .i64 (y2104+v2110.Hi))]:=L2140
    have L2141:=L2133.k k2137 (by decide);have Y2142:=Y2134.k k2137 (by decide);refine⟨m2139,e2138,?_⟩;obtain⟨g2143,hp⟩:=zqq hp;refine⟨g2143,?_⟩;exact ihR2 _ _ _ _ _ _ τ2116 S2136 L2140 Y2142 hp
   refine⟨_,_,_,_,_,(hb0.sub S2101.sub).ra,trivial,_,L2099.bk.rc rfl,trivial,trivial,_,(hb0.sub S2101.sub).rc rfl,?_⟩;obtain⟨r2144,g2145,hp⟩:=zqp hp;refine zvN (s:=s) (losses:=y2103) (treaty:=s.Treaty.Hi) S2101.pre hb000 hb001 g2145 fun m24 e2148=>?_;obtain⟨S2146,k2147⟩:=S2101.call e2148 τ2102;have L2149:=L2099.k k2147 (by decide);have Y2150:=Y2107.k k2147 (by decide);refine⟨_,rfl,_,_,_,_,_,(hb0.sub S2146.sub).ra,(by rw[show zaL cmC _=true from zoV (zqs hb000.noFn (zqs hb001.noFn (zqs rfl (zqs rfl (zqs rfl zqt)))))]; exact((hb0.sub S2101.sub).ra)),trivial,_,L2149.bk.rc rfl,(L2099.bk.rc rfl),trivial,trivial,_,(hb0.sub S2146.sub).rc rfl,((hb0.sub S2101.sub).rc rfl),?_⟩;obtain⟨r2151,g2152,hp⟩:=zqp hp;refine zvN (s:=s) (losses:=y2104) (treaty:=s.Treaty.Lo) S2146.pre hb000 hb001 g2152 fun m34 e2155=>?_;obtain⟨S2153,k2154⟩:=S2146.call e2155 τ2102;have L2156:=L2149.k k2154 (by decide);have Y2157:=Y2150.k k2154 (by decide);refine⟨_,rfl,?_⟩;intro R36 hR36
   have hgo:∀(d2163:Nat) (x37:Int) (r2160:List Int) (s2161:Nat->Prop) (m38:M) (τ2159:Nat->Nat),St F f f m38->Lb F f τ2159 m38 1 m.nxt 2 [(.int .i64 y2103),(.int .i64 y2104)]->Yg n0 (YJ xs I r2160) s2161 F f τ2159 m38->zth r2151 d2163 x37=some r2160->R36 [.c (.int .i64 x37)] m38:=by
    intro d2163
    induction d2163 with
    | zero=>intro x37 r2160 s2161 m38 τ2159 S2158 L2156 Y2162 hp; cases hp
    | succ d2163 ihR36=>
     intro x37 r2160 s2161 m38 τ2159 S2158 L2156 Y2162 hp;refine hR36 _ _ ?_;rw[zth] at hp;refine ifd hp (fun q2164 hp=>?_) fun q2164 hp=>?_; rotate_left
     ·obtain rfl:=oi hp;exact hq _ _ _ _ _ S2158 (.inl Y2162)
     obtain⟨r2165,hp2167,hz2166⟩:=zqp hp
     clear hp
     obtain rfl:=oi hz2166;have hp:=hp2167
     show Wy prog tbl ly (IV.encs (x37:Int)) _ _
     refine Yg.yield hc S2158 Y2162 ?_ ?_
     ·intro m40 τ2168 s2172 S2169 k2170 Y2171;have L2173:=L2156.k k2170 (by decide);refine⟨_,rfl,?_⟩;refine zq2 ?_;obtain⟨g2174,hp⟩:=zqq hp;refine⟨g2174,?_⟩;exact ihR36 _ _ _ _ τ2168 S2169 L2173 Y2171 hp
     ·intro m40 τ2175 s2179 S2176 k2177 Y2178;have L2180:=L2156.k k2177 (by decide);refine⟨_,rfl,?_⟩;refine zq3 ?_;exact hq _ _ _ _ _ S2176 (.inr Y2178)
   exact hgo _ _ _ _ _ τ2102 S2153 L2156 Y2157 hp
 exact hgo _ _ _ _ _ _ _ τ2098 S2096 L2099 Y2100 hp
theorem zvP{s:Soc}{ca100 ca101:C}{m f:M}{Q:V->M->Prop}{rz:List Int}(hS:Pre f m)(ha100:Sl f ca100 s.Members)(ha101:Sl f ca101 s.Losses)(hp:ztk s=some rz)(hq:∀m' f' c0,Grw m f m' f'->It prog tbl f' c0 rz->Q (.c c0) m'):Wc prog tbl 83 [.agg 5 [ca100,ca101,Il s.Treaty.Lo,Il s.Treaty.Hi,Il s.Reserve]] m Q:=by
 have r:=hS.st;obtain⟨t,_⟩:=zr4;refine w83 ?_;unfold ztk at hp;intro u i;obtain⟨p,j,q,l⟩:=r.blk i t 1;obtain⟨d,a,e,g⟩:=l.freeze j;obtain⟨n,o,hp⟩:=zqp hp;have h:It prog tbl d ((C.fn (Fn.func 106) [] [(W.c (C0.ptr m.nxt 0))])) n:=zq4 a.fz a.fv fun w ly I E hc y z A B hS hY Q hq=>zvO hc hS hY g (ha100.sub e.fs) (ha101.sub e.fs) o hq;obtain rfl:=oi hp;exact hq _ d (C.fn (Fn.func 106) [] [(W.c (C0.ptr m.nxt 0))]) a.grw h
theorem zvQ{p:P5}{m f:M}{Q:V->M->Prop}{rz:Int}(hS:Pre f m)(hp:ztm p=some rz)(hq:∀m',Ext m m'->Q (.c (Il rz)) m'):Wc prog tbl 98 [.agg 5 [Il p.p0,Il p.p1,Il p.p2,Il p.p3,Il p.p4]] m Q:=by
 have G:=hS.st;obtain⟨I,_⟩:=zr4;refine w98 ?_;unfold ztm at hp;intro N o;obtain⟨q,r,D,a⟩:=G.blk o I 1;refine⟨_,_,_,_,_,a.bk.ra,?_⟩;intro J A
 have hgo:∀(d:Nat) (s:Int) (t:Int) (i:M) (e:Nat->Nat),St (Fm.of m) f f i->Lb (Fm.of m) f e i 1 m.nxt 5 [Il p.p0,Il p.p1,Il p.p2,Il p.p3,Il p.p4]->ztl p d s t=some rz->J [.c (Il s),.c (Il t)] i:=by
  intro d
  induction d with
  | zero=>intro s t i e g a hp; cases hp
  | succ d z=>
   intro s t i e g a hp;refine A _ _ _ ?_;rw[ztl] at hp;refine ifd hp (fun u hp=>?_) fun u hp=>?_; rotate_left
   ·obtain rfl:=oi hp;exact hq _ g.ext'
   obtain⟨F,h,hp⟩:=zqp hp;obtain⟨B,j,n,h⟩:=zqj h;refine⟨B,j,n,_,(zrE (l:=([p.p0,p.p1,p.p2,p.p3,p.p4]:List Int)) (enc:=(C.int .i64)) rfl h),?_⟩;refine gdi hp fun w hp=>?_;refine gdi hp fun y hp=>?_;exact z _ _ _ e g a hp
 exact hgo _ _ _ _ q r a hp
theorem zvR{p:P5}{more:P5}{m f:M}{Q:V->M->Prop}{rz:P5}(hS:Pre f m)(hp:zto p more=some rz)(hq:∀m',Ext m m'->Q (.agg 5 [Il rz.p0,Il rz.p1,Il rz.p2,Il rz.p3,Il rz.p4]) m'):Wc prog tbl 114 [.agg 5 [Il p.p0,Il p.p1,Il p.p2,Il p.p3,Il p.p4],.agg 5 [Il more.p0,Il more.p1,Il more.p2,Il more.p3,Il more.p4]] m Q:=by
 have S0:=hS.st;obtain⟨τ0,_⟩:=zr4;refine zuG ?_;unfold zto at hp;intro m0 P;obtain⟨S,T,Ba,Y⟩:=S0.blk P τ0 1;intro m1 Z;obtain⟨aa,ba,ca,da⟩:=T.blk Z S 2;have ea:=Y.k ca;intro m2 fa;obtain⟨ga,ha,F,q⟩:=ba.blk fa aa 3;have i:=ea.k F;have r:=da.k F;refine⟨_,_,_,_,_,r.bk.ra,?_⟩;intro R8 xa
 have hgo:∀(s:Nat) (u:Int) (a:Int) (d:Int) (e:Int) (g:Int) (h:Int) (t:M) (j:Nat->Nat),St (Fm.of m) f f t->Lb (Fm.of m) f j t 1 m.nxt 5 [Il a,Il d,Il e,Il g,Il h]->Lb (Fm.of m) f j t 2 m0.nxt 5 [Il more.p0,Il more.p1,Il more.p2,Il more.p3,Il more.p4]->Lb (Fm.of m) f j t 3 m1.nxt 5 [Il 0,Il 0,Il 0,Il 0,Il 0]->ztn more s a d e g h u=some rz->R8 [.c (Il u)] t:=by
  intro s
  induction s with
  | zero=>intro u a d e g h t j w i r q hp; cases hp
  | succ s wa=>
   intro u a d e g h t j w i r q hp;refine xa _ _ ?_;rw[ztn] at hp;refine ifd hp (fun ia hp=>?_) fun ia hp=>?_; rotate_left
   ·refine⟨_,_,_,_,_,i.bk.ra,?_⟩;obtain⟨ja,ka,la,Ca,ma⟩:=q.sto w [Il a,Il d,Il e,Il g,Il h];refine⟨ja,ka,?_⟩;refine⟨_,_,_,_,_,ma.bk.ra,?_⟩;obtain rfl:=oi hp;exact hq _ la.ext'
   obtain⟨n,y,hp⟩:=zqp hp;obtain⟨ya,I,J,y⟩:=zqj y;refine⟨ya,I,J,_,(zrE (l:=([more.p0,more.p1,more.p2,more.p3,more.p4]:List Int)) (enc:=(C.int .i64)) rfl y),trivial,?_⟩;obtain⟨o,z,hp⟩:=zqp hp;obtain⟨za,N,O,z⟩:=zqj z;refine⟨za,N,O,_,(i.bk.rc (zqV (l:=([a,d,e,g,h]:List Int)) (enc:=(C.int .i64)) 0 rfl z)),?_⟩;obtain⟨na,hp⟩:=zqq hp;refine⟨na,trivial,?_⟩;obtain⟨oa,hp⟩:=zqq hp;obtain⟨Aa,B,D⟩:=zqW oa;refine⟨Aa,B,D,?_⟩;obtain⟨pa,qa,sa,G,A⟩:=i.sta w (pre:=[]) (post:=[]) (l:=([a,d,e,g,h]:List Int)) (enc:=(C.int .i64)) rfl rfl B D ((o+n))
   replace A:Lb _ _ _ _ _ _ _ [(Il (sti u 0 (o+n) a)),(Il (sti u 1 (o+n) d)),(Il (sti u 2 (o+n) e)),(Il (sti u 3 (o+n) g)),(Il (sti u 4 (o+n) h))]:=A
   have ta:=r.k G;have ua:=q.k G;refine⟨pa,qa,?_⟩;refine gdi hp fun va hp=>?_;exact wa _ _ _ _ _ _ _ j sa A ta ua hp
 exact hgo _ _ _ _ _ _ _ _ ga ha i r q hp
theorem zvS{f_:F5}{others:F5}{m f:M}{Q:V->M->Prop}{rz:F5}(hS:Pre f m)(hp:ztq f_ others=some rz)(hq:∀m',Ext m m'->Q (.agg 5 [.bool rz.b0,.bool rz.b1,.bool rz.b2,.bool rz.b3,.bool rz.b4]) m'):Wc prog tbl 97 [.agg 5 [.bool f_.b0,.bool f_.b1,.bool f_.b2,.bool f_.b3,.bool f_.b4],.agg 5 [.bool others.b0,.bool others.b1,.bool others.b2,.bool others.b3,.bool others.b4]] m Q:=by
 have S0:=hS.st;obtain⟨τ0,_⟩:=zr4;refine w97 ?_;unfold ztq at hp;intro m0 Y;obtain⟨Z,aa,La,ba⟩:=S0.blk Y τ0 1;intro m1 ca;obtain⟨da,ea,fa,ga⟩:=aa.blk ca Z 2;have ha:=ba.k fa;intro m2 ia;obtain⟨ja,ka,G,n⟩:=ea.blk ia da 3;have i:=ha.k G;have o:=ga.k G;refine⟨_,_,_,_,_,o.bk.ra,?_⟩;intro R8 Ga
 have hgo:∀(r:Nat) (q:Int) (a:Bool) (d:Bool) (e:Bool) (g:Bool) (h:Bool) (t:M) (j:Nat->Nat),St (Fm.of m) f f t->Lb (Fm.of m) f j t 1 m.nxt 5 [.bool a,.bool d,.bool e,.bool g,.bool h]->Lb (Fm.of m) f j t 2 m0.nxt 5 [.bool others.b0,.bool others.b1,.bool others.b2,.bool others.b3,.bool others.b4]->Lb (Fm.of m) f j t 3 m1.nxt 5 [.bool false,.bool false,.bool false,.bool false,.bool false]->ztp others r a d e g h q=some rz->R8 [.c (Il q)] t:=by
  intro r
  induction r with
  | zero=>intro q a d e g h t j s i o n hp; cases hp
  | succ r N=>
   intro q a d e g h t j s i o n hp;refine Ga _ _ ?_;rw[ztp] at hp;refine ifd hp (fun la hp=>?_) fun la hp=>?_; rotate_left
   ·refine⟨_,_,_,_,_,i.bk.ra,?_⟩;obtain⟨ma,na,oa,Ma,pa⟩:=n.sto s [.bool a,.bool d,.bool e,.bool g,.bool h];refine⟨ma,na,?_⟩;refine⟨_,_,_,_,_,pa.bk.ra,?_⟩;obtain rfl:=oi hp;exact hq _ oa.ext'
   obtain⟨p,u,hp⟩:=zqp hp;obtain⟨Ha,O,P,u⟩:=zqj u;refine⟨Ha,O,P,_,(zrE (l:=([others.b0,others.b1,others.b2,others.b3,others.b4]:List Bool)) (enc:=C.bool) rfl u),trivial,?_⟩;obtain⟨Na,w,hp⟩:=zqp hp;obtain⟨Ia,S,T,w⟩:=zqj w;refine⟨Ia,S,T,_,(i.bk.rc (zqV (l:=([a,d,e,g,h]:List Bool)) (enc:=C.bool) 0 rfl w)),?_⟩;refine zq0 hp (fun qa hp=>?_) fun qa hp=>?_
   ·refine⟨trivial,?_⟩;obtain⟨sa,hp⟩:=zqq hp;obtain⟨Ja,A,B⟩:=zqW sa;refine⟨Ja,A,B,?_⟩;obtain⟨ta,ua,va,I,y⟩:=i.sta s (pre:=[]) (post:=[]) (l:=([a,d,e,g,h]:List Bool)) (enc:=C.bool) rfl rfl A B ((!p))
    replace y:Lb _ _ _ _ _ _ _ [(.bool (sti q 0 (!p) a)),(.bool (sti q 1 (!p) d)),(.bool (sti q 2 (!p) e)),(.bool (sti q 3 (!p) g)),(.bool (sti q 4 (!p) h))]:=y
    have wa:=o.k I;have xa:=n.k I;refine⟨ta,ua,?_⟩;refine gdi hp fun ya hp=>?_;exact N _ _ _ _ _ _ _ j va y wa xa hp
   refine⟨trivial,?_⟩;obtain⟨za,hp⟩:=zqq hp;obtain⟨Ka,D,F⟩:=zqW za;refine⟨Ka,D,F,?_⟩;obtain⟨Aa,Ba,Ca,J,z⟩:=i.sta s (pre:=[]) (post:=[]) (l:=([a,d,e,g,h]:List Bool)) (enc:=C.bool) rfl rfl D F false
   replace z:Lb _ _ _ _ _ _ _ [(.bool (sti q 0 false a)),(.bool (sti q 1 false d)),(.bool (sti q 2 false e)),(.bool (sti q 3 false g)),(.bool (sti q 4 false h))]:=z
   have Da:=o.k J;have Ea:=n.k J;refine⟨Aa,Ba,?_⟩;refine gdi hp fun Fa hp=>?_;exact N _ _ _ _ _ _ _ j Ca z Da Ea hp
 exact hgo _ _ _ _ _ _ _ _ ja ka i o n hp
theorem zvT{d:Dv}{member:Int}{ca110:C}{m f:M}{Q:V->M->Prop}{rz:Int}(hS:Pre f m)(ha110:Mi f ca110 d.having)(hp:zts d member=some rz)(hq:∀m',Ext m m'->Q (.c (Il rz)) m'):Wc prog tbl 111 [.agg 11 [Il d.s0.pence,Il d.s0.remainder,Il d.s1.pence,Il d.s1.remainder,Il d.s2.pence,Il d.s2.remainder,Il d.s3.pence,Il d.s3.remainder,Il d.s4.pence,Il d.s4.remainder,ca110],.c (Il member)] m Q:=by
 have S0:=hS.st;obtain⟨τ0,_⟩:=zr4;refine zus ?_;unfold zts at hp;intro m0 Ma;obtain⟨Na,Oa,Yb,aa⟩:=S0.blk Ma τ0 1;refine⟨trivial,trivial,?_⟩;obtain⟨a,B,hp⟩:=zqp hp;obtain⟨n1,ya,za,B⟩:=zqj B;refine⟨n1,ya,za,_,_,(Bk.rsM (pre:=[]) (post:=[ca110]) (l:=([d.s0,d.s1,d.s2,d.s3,d.s4]:List Sh)) aa.bk rfl rfl zsb B (by decide)),?_⟩;intro m4 Pa;obtain⟨Qa,Ra,Sa,Ta⟩:=Oa.blk Pa Na 2;have Ua:=aa.k Sa;obtain⟨D,Va,Wa,Xa,Ya⟩:=Ta.sto Ra [Il a.pence,Il a.remainder];have ba:=Ua.k Xa;refine⟨D,Va,?_⟩;refine⟨trivial,_,ba.bk.rc rfl,?_⟩;obtain⟨Sb,Za,Aa,Ba,Ca⟩:=Mi.rng zvb Wa ha110 Qa 3;have hp:=zrl hp Aa;refine⟨Za,Ba,?_⟩;intro m8 ab;obtain⟨bb,cb,ca,db⟩:=Ca m8 ab;have g:=ba.k ca;have h:=Ya.k ca;intro R9 Tb
 have hgo:∀(r:Nat) (da:Int) (n:List Sh) (z:M) (e:Nat->Nat),St (Fm.of m) f f z->Lb (Fm.of m) f e z 1 m.nxt 11 [Il d.s0.pence,Il d.s0.remainder,Il d.s1.pence,Il d.s1.remainder,Il d.s2.pence,Il d.s2.remainder,Il d.s3.pence,Il d.s3.remainder,Il d.s4.pence,Il d.s4.remainder,ca110]->Lb (Fm.of m) f e z 2 m0.nxt 2 [Il a.pence,Il a.remainder]->Ir (Fm.of m) f e z 3 D.nxt ca110 d.having n->pbefore_L0 d member a r da n=some rz->R9 [.c (Il da)] z:=by
  intro r
  induction r with
  | zero=>intro da n z e s g h F hp; cases hp
  | succ r Da=>
   intro da n z e s g h F hp;refine Tb _ _ ?_;rw[pbefore_L0] at hp;obtain⟨Ub,Ea,Fa,Ga⟩:=F.next s;refine⟨Ub,Ea,fun eb=>?_,fun gc hc ic fb=>?_⟩
   ·have hp:=zro (Fa eb) hp;refine⟨trivial,?_⟩;obtain⟨t,ea,fa,Ha⟩:=g.freeze s;have u:=h.k fa;have gb:=F.k fa s.sub ea (by decide);obtain⟨Zb,hp⟩:=zqq hp;obtain⟨hb,ib,w⟩:=Bk.arS (α:=Sh) (o:=0) (l:=([d.s0,d.s1,d.s2,d.s3,d.s4]:List Sh)) (i:=Int.toNat (0:Int)) (j:=Int.toNat member) Ha rfl (Nat.le_of_ble_eq_true rfl) (show Cat (α:=Sh) t [Il d.s0.pence,Il d.s0.remainder,Il d.s1.pence,Il d.s1.remainder,Il d.s2.pence,Il d.s2.remainder,Il d.s3.pence,Il d.s3.remainder,Il d.s4.pence,Il d.s4.remainder] ([d.s0,d.s1,d.s2,d.s3,d.s4]:List Sh) from ⟨[Il d.s0.pence,Il d.s0.remainder],_,rfl,rfl,⟨[Il d.s1.pence,Il d.s1.remainder],_,rfl,rfl,⟨[Il d.s2.pence,Il d.s2.remainder],_,rfl,rfl,⟨[Il d.s3.pence,Il d.s3.remainder],_,rfl,rfl,⟨[Il d.s4.pence,Il d.s4.remainder],_,rfl,rfl,rfl⟩⟩⟩⟩⟩) (by omega) (by show Int.toNat member<=5; omega);refine⟨Int.toNat (0:Int),Int.toNat member,rfl,(show member=((Int.toNat member:Nat):Int) by omega),hb,ib,w.isSl,?_⟩;intro Vb Qb
    have hgo:∀(y:Nat) (ga:Int) (ha:Int) (A:M) (p:Nat->Nat),St (Fm.of m) f t A->Lb (Fm.of m) t p A 2 m0.nxt 2 [Il a.pence,Il a.remainder]->Ir (Fm.of m) t p A 3 D.nxt ca110 d.having n->ztr d member a y ga ha=some rz->Vb [.c (Il ga),.c (Il ha)] A:=by
     intro y
     induction y with
     | zero=>intro ga ha A p q u ia hp; cases hp
     | succ y ja=>
      intro ga ha A p q u ia hp;refine Qb _ _ _ ?_;rw[ztr] at hp
      try rw[w.slLen]
      refine ifd hp (fun jb hp=>?_) fun jb hp=>?_; rotate_left
      ·obtain rfl:=oi hp;exact hq _ q.ext'
      obtain⟨ka,G,hp⟩:=zqp hp;obtain⟨Wb,Ia,Z,G⟩:=zqj G;obtain⟨_,kb⟩:=zsc w G;refine⟨Wb,Ia,(by first|exact Z|(rw[w.slLen];exact Z)),_,_,(kb _ q.sub).1,?_⟩;intro jc mb;obtain⟨la,I,ma,ob⟩:=q.blk mb p 4;have pb:=u.k ma;have qb:=ia.k ma q.sub I (by decide);obtain⟨rb,sb,J,na,tb⟩:=ob.sto I [Il ka.pence,Il ka.remainder];have N:=pb.k na;have oa:=qb.k na I.sub J (by decide);refine⟨rb,sb,?_⟩;refine⟨trivial,_,tb.bk.rc rfl,trivial,_,N.bk.rc rfl,?_⟩;refine ifd hp (fun ub hp=>?_) fun ub hp=>?_; rotate_left
      ·refine gdi hp fun vb hp=>?_;exact ja _ _ _ la J N oa hp
      refine gdi hp fun wb hp=>?_;refine gdi hp fun xb hp=>?_;exact ja _ _ _ la J N oa hp
    exact hgo _ _ _ _ e ea u gb hp
   obtain⟨yb,pa,zb,Ab,Ja,Xb,Ka,xa,qa,sa,ta⟩:=Ga _ _ _ fb;have hp:=zrp Ja hp;obtain⟨Bb,La,hp⟩:=zqp hp;obtain rfl:Bb=Ab:=oi (La.symm.trans Ka);generalize yb++zb=ac at hp ta;have Cb:=g.k sa;have Db:=h.k sa;refine⟨_,_,_,xa,?_⟩;intro kc Eb;obtain⟨ua,O,P,Fb⟩:=qa.blk Eb e 5;have Gb:=Cb.k P;have Hb:=Db.k P;have Ib:=ta.k P qa.sub O (by decide);obtain⟨Jb,Kb,S,T,Nb⟩:=Fb.sto O [Il pa.pence,Il pa.remainder];have va:=Gb.k T;have Y:=Hb.k T;have wa:=Ib.k T O.sub S (by decide);refine⟨Jb,Kb,?_⟩;refine⟨trivial,_,Nb.bk.rc rfl,trivial,_,Y.bk.rc rfl,?_⟩;refine ifd hp (fun Ob hp=>?_) fun Ob hp=>?_; rotate_left
   ·exact Da _ _ _ ua S va Y wa hp
   refine gdi hp fun Pb hp=>?_;exact Da _ _ _ ua S va Y wa hp
 exact hgo _ _ _ _ bb cb g h db hp
theorem zvU{need:Int}{units:P5}{m f:M}{Q:V->M->Prop}{rz:P5}(hS:Pre f m)(hp:ztv need units=some rz)(hq:∀m',Ext m m'->Q (.agg 5 [Il rz.p0,Il rz.p1,Il rz.p2,Il rz.p3,Il rz.p4]) m'):Wc prog tbl 92 [.c (Il need),.agg 5 [Il units.p0,Il units.p1,Il units.p2,Il units.p3,Il units.p4]] m Q:=by
 have S0:=hS.st;obtain⟨τ0,_⟩:=zr4;refine w92 ?_;unfold ztv at hp;intro m0 xb;obtain⟨yb,zb,Oe,Ab⟩:=S0.blk xb τ0 1;intro m1 Bb;obtain⟨Cb,Db,Eb,Fb⟩:=zb.blk Bb yb 2;have Gb:=Ab.k Eb;intro m2 Hb;obtain⟨Ib,Jb,Ya,Kb⟩:=Db.blk Hb Cb 3;have Nb:=Gb.k Ya;have Ob:=Fb.k Ya;intro m3 Pb;obtain⟨Qb,Rb,Ga,Sb⟩:=Mo.new (K:=Sh) (V':=Int) Jb Pb Ib 4;have Tb:=Nb.k Ga;have Ub:=Ob.k Ga;have Vb:=Kb.k Ga;intro m4 Wb;obtain⟨Za,Xb,wa,Yb⟩:=Rb.blk Wb Qb 5;have Zb:=Tb.k wa;have ac:=Ub.k wa;have bc:=Vb.k wa;have cc:=Sb.k wa;obtain⟨dc,ec,ab,xa,fc⟩:=Yb.sto Xb [Il 0,Il 0,Il 0,Il 0,Il 0,Il 0,Il 0,Il 0,Il 0,Il 0,(.map m2.nxt)];have bb:=Zb.k xa;have gc:=ac.k xa;have hc:=bc.k xa;have ic:=cc.k xa;refine⟨dc,ec,?_⟩;refine⟨_,_,_,_,_,bb.bk.ra,?_⟩;obtain⟨a,jc,hp⟩:=zqp hp;refine zvQ (p:=units) ab.pre  jc fun df kc=>?_;obtain⟨nc,ca⟩:=ab.call kc Za;have Y:=bb.k ca;have da:=gc.k ca;have Z:=hc.k ca;have ea:=fc.k ca;have fa:=ic.k ca;refine⟨_,rfl,_,_,_,_,_,Y.bk.ra,?_⟩;intro Fe Ae
 have hgo:∀(ya:Nat) (g:Int) (B:Int) (D:Int) (F:Int) (G:Int) (I:Int) (i:Int) (j:Int) (n:Int) (o:Int) (q:Int) (r:Int) (s:Int) (t:Int) (w:Int) (y:Int) (J:Option (Sh->Option (Int))) (ga:M) (z:Nat->Nat),St (Fm.of m) f f ga->Lb (Fm.of m) f z ga 1 m.nxt 5 [Il units.p0,Il units.p1,Il units.p2,Il units.p3,Il units.p4]->Lb (Fm.of m) f z ga 2 m0.nxt 5 [Il 0,Il 0,Il 0,Il 0,Il 0]->Lb (Fm.of m) f z ga 3 m1.nxt 5 [Il B,Il D,Il F,Il G,Il I]->Lb (Fm.of m) f z ga 5 m3.nxt 11 [Il i,Il j,Il n,Il o,Il q,Il r,Il s,Il t,Il w,Il y,(.map m2.nxt)]->Mo (Fm.of m) f z ga 4 (.map m2.nxt) J->ztu need units a ya B D F G I i j n o q r s t w y J g=some rz->Fe [.c (Il g)] ga:=by
  intro ya
  induction ya with
  | zero=>intro g B D F G I i j n o q r s t w y J ga z za Y da Z ea fa hp; cases hp
  | succ ya cb=>
   intro g B D F G I i j n o q r s t w y J ga z za Y da Z ea fa hp;refine Ae _ _ ?_;rw[ztu] at hp;refine ifd hp (fun oc hp=>?_) fun oc hp=>?_; rotate_left
   ·refine⟨_,_,_,_,_,Z.bk.ra,?_⟩;obtain⟨pc,qc,hp⟩:=zqp hp;refine zvQ (p:=({ p0:=B,p1:=D,p2:=F,p3:=G,p4:=I }:P5)) za.pre  qc fun ef sc=>?_;obtain⟨tc,ha⟩:=za.call sc z;have Aa:=Y.k ha;have ia:=da.k ha;have ja:=Z.k ha;have ka:=ea.k ha;have la:=fa.k ha;refine⟨_,rfl,?_⟩;refine gdi hp fun uc hp=>?_;intro Ge Be
    have hgo:∀(Ba:Nat) (ba:Int) (N:Int) (O:Int) (P:Int) (S:Int) (T:Int) (ma:M) (A:Nat->Nat),St (Fm.of m) f f ma->Lb (Fm.of m) f A ma 1 m.nxt 5 [Il units.p0,Il units.p1,Il units.p2,Il units.p3,Il units.p4]->Lb (Fm.of m) f A ma 2 m0.nxt 5 [Il 0,Il 0,Il 0,Il 0,Il 0]->Lb (Fm.of m) f A ma 3 m1.nxt 5 [Il N,Il O,Il P,Il S,Il T]->Lb (Fm.of m) f A ma 5 m3.nxt 11 [Il i,Il j,Il n,Il o,Il q,Il r,Il s,Il t,Il w,Il y,(.map m2.nxt)]->Mo (Fm.of m) f A ma 4 (.map m2.nxt) J->ztt need i j n o q r s t w y J pc Ba N O P S T ba=some rz->Ge [.c (Il ba)] ma:=by
     intro Ba
     induction Ba with
     | zero=>intro ba N O P S T ma A Ca Aa ia ja ka la hp; cases hp
     | succ Ba db=>
      intro ba N O P S T ma A Ca Aa ia ja ka la hp;refine Be _ _ ?_;rw[ztt] at hp;refine ifd hp (fun vc hp=>?_) fun vc hp=>?_; rotate_left
      ·refine⟨_,_,_,_,_,ja.bk.ra,?_⟩;obtain⟨wc,xc,yc,Pe,zc⟩:=ia.sto Ca [Il N,Il O,Il P,Il S,Il T];refine⟨wc,xc,?_⟩;refine⟨_,_,_,_,_,zc.bk.ra,?_⟩;obtain rfl:=oi hp;exact hq _ yc.ext'
      refine⟨_,_,_,_,_,_,_,_,_,_,_,ka.bk.ra,?_⟩;obtain⟨Qe,Ac,Re,sb⟩:=la.freeze Ca;obtain⟨Se,Bc,hp⟩:=zqp hp;refine zvT (d:=({ s0:=({ pence:=i,remainder:=j }:Sh),s1:=({ pence:=n,remainder:=o }:Sh),s2:=({ pence:=q,remainder:=r }:Sh),s3:=({ pence:=s,remainder:=t }:Sh),s4:=({ pence:=w,remainder:=y }:Sh),having:=J }:Dv)) (member:=ba) Ac.pre sb Bc fun gf Cc=>?_;obtain⟨eb,na⟩:=Ca.call Cc A;have fb:=Aa.k na;have gb:=ia.k na;have Ha:=ja.k na;have hb:=ka.k na;have ib:=la.k na;refine⟨_,rfl,?_⟩;refine ifd hp (fun Dc hp=>?_) fun Dc hp=>?_; rotate_left
      ·refine gdi hp fun Ec hp=>?_;exact db _ _ _ _ _ _ _ A eb fb gb Ha hb ib hp
      refine⟨trivial,?_⟩;obtain⟨aa,Ia,hp⟩:=zqp hp;obtain⟨He,tb,ub,Ia⟩:=zqj Ia;refine⟨He,tb,ub,_,(Ha.bk.rc (zqV (l:=([N,O,P,S,T]:List Int)) (enc:=(C.int .i64)) 0 rfl Ia)),?_⟩;obtain⟨Fc,hp⟩:=zqq hp;refine⟨Fc,trivial,?_⟩;obtain⟨Gc,hp⟩:=zqq hp;obtain⟨Ie,Pa,Qa⟩:=zqW Gc;refine⟨Ie,Pa,Qa,?_⟩;obtain⟨Hc,Ic,Jc,Da,Ja⟩:=Ha.sta eb (pre:=[]) (post:=[]) (l:=([N,O,P,S,T]:List Int)) (enc:=(C.int .i64)) rfl rfl Pa Qa ((aa+1))
      replace Ja:Lb _ _ _ _ _ _ _ [(Il (sti ba 0 (aa+1) N)),(Il (sti ba 1 (aa+1) O)),(Il (sti ba 2 (aa+1) P)),(Il (sti ba 3 (aa+1) S)),(Il (sti ba 4 (aa+1) T))]:=Ja
      have Kc:=fb.k Da;have Nc:=gb.k Da;have Pc:=hb.k Da;have Qc:=ib.k Da;refine⟨Hc,Ic,?_⟩;refine gdi hp fun Rc hp=>?_;exact db _ _ _ _ _ _ _ A Jc Kc Nc Ja Pc Qc hp
    exact hgo _ _ _ _ _ _ _ _ z tc Aa ia ja ka la hp
   obtain⟨e,Ka,hp⟩:=zqp hp;obtain⟨Je,vb,wb,Ka⟩:=zqj Ka;refine⟨Je,vb,wb,_,(zrE (l:=([units.p0,units.p1,units.p2,units.p3,units.p4]:List Int)) (enc:=(C.int .i64)) rfl Ka),?_⟩;refine gdi hp fun Tc hp=>?_;refine gdi hp fun Uc hp=>?_;refine gdi hp fun Vc hp=>?_;refine gdi hp fun Xc hp=>?_;refine gdi hp fun Yc hp=>?_;refine gdi hp fun Zc hp=>?_;refine gdi hp fun ad hp=>?_;refine gdi hp fun bd hp=>?_;refine gdi hp fun cd hp=>?_;refine gdi hp fun dd hp=>?_;refine gdi hp fun ed hp=>?_;refine gdi hp fun fd hp=>?_;intro hf hd;obtain⟨jb,id,oa,jd⟩:=za.blk hd z 6;have kd:=Y.k oa;have ld:=da.k oa;have md:=Z.k oa;have nd:=ea.k oa;have od:=fa.k oa;obtain⟨pd,qd,sd,pa,kb⟩:=jd.sto id [(Il ((need * e) / a)),(Il ((need * e) % a))];have td:=kd.k pa;have ud:=ld.k pa;have vd:=md.k pa;have wd:=nd.k pa;have xd:=od.k pa;refine⟨pd,qd,?_⟩;refine⟨_,_,kb.bk.ra,trivial,trivial,?_⟩;obtain⟨yd,hp⟩:=zqq hp;obtain⟨Ke,Ra,Sa⟩:=zqW yd;refine⟨Ke,Ra,Sa,?_⟩;obtain⟨zd,Ad,mb,qa,sa⟩:=wd.staS sd (pre:=[]) (post:=[(.map m2.nxt)]) (l:=([({ pence:=i,remainder:=j }:Sh),({ pence:=n,remainder:=o }:Sh),({ pence:=q,remainder:=r }:Sh),({ pence:=s,remainder:=t }:Sh),({ pence:=w,remainder:=y }:Sh)]:List Sh)) rfl zsb rfl Ra Sa ({ pence:=((need * e) / a),remainder:=((need * e) % a) }:Sh) rfl
   replace sa:Lb _ _ _ _ _ _ _ [(Il (sti g 0 ({ pence:=((need * e) / a),remainder:=((need * e) % a) }:Sh) ({ pence:=i,remainder:=j }:Sh)).pence),(Il (sti g 0 ({ pence:=((need * e) / a),remainder:=((need * e) % a) }:Sh) ({ pence:=i,remainder:=j }:Sh)).remainder),(Il (sti g 1 ({ pence:=((need * e) / a),remainder:=((need * e) % a) }:Sh) ({ pence:=n,remainder:=o }:Sh)).pence),(Il (sti g 1 ({ pence:=((need * e) / a),remainder:=((need * e) % a) }:Sh) ({ pence:=n,remainder:=o }:Sh)).remainder),(Il (sti g 2 ({ pence:=((need * e) / a),remainder:=((need * e) % a) }:Sh) ({ pence:=q,remainder:=r }:Sh)).pence),(Il (sti g 2 ({ pence:=((need * e) / a),remainder:=((need * e) % a) }:Sh) ({ pence:=q,remainder:=r }:Sh)).remainder),(Il (sti g 3 ({ pence:=((need * e) / a),remainder:=((need * e) % a) }:Sh) ({ pence:=s,remainder:=t }:Sh)).pence),(Il (sti g 3 ({ pence:=((need * e) / a),remainder:=((need * e) % a) }:Sh) ({ pence:=s,remainder:=t }:Sh)).remainder),(Il (sti g 4 ({ pence:=((need * e) / a),remainder:=((need * e) % a) }:Sh) ({ pence:=w,remainder:=y }:Sh)).pence),(Il (sti g 4 ({ pence:=((need * e) / a),remainder:=((need * e) % a) }:Sh) ({ pence:=w,remainder:=y }:Sh)).remainder),(.map m2.nxt)]:=sa
   have ob:=td.k qa;have pb:=ud.k qa;have qb:=vd.k qa;have La:=kb.k qa;have Ma:=xd.k qa;refine⟨zd,Ad,?_⟩;refine⟨trivial,_,sa.bk.rc rfl,_,_,La.bk.ra,?_⟩;obtain⟨Cd,hp⟩:=zqq hp;refine⟨_,Ma.mi.lk zva (k:=({ pence:=((need * e) / a),remainder:=((need * e) % a) }:Sh)) Cd rfl,?_⟩
   cases ta:(zqJ J ({ pence:=((need * e) / a),remainder:=((need * e) % a) }:Sh)) with
   | none=>
    rw[zqR ta] at hp;refine⟨fun _=>?_,fun u hu=>(by cases hu)⟩;refine gdi hp fun Dd hp=>?_;obtain⟨Ed,hp⟩:=zqq hp;obtain⟨Te,Fd,hp⟩:=zqp hp;obtain⟨Ue,Ve,We,Gd,Hd,Id,Jd,Ld,ua,Md⟩:=Mo.opa zva mb Ma (k:=({ pence:=((need * e) / a),remainder:=((need * e) % a) }:Sh)) Ed (v:=(1:Int)) Fd (.c (Il 0)) (kv:=.agg 2 [(Il ((need * e) / a)),(Il ((need * e) % a))]) (yv:=.c (Il (1:Int))) rfl rfl;have Nd:=ob.k ua;have Od:=pb.k ua;have Pd:=qb.k ua;have Qd:=sa.k ua;have Rd:=La.k ua;refine⟨_,_,_,Hd,⟨_,Id,by rw[ta]; exact⟨rfl,rfl⟩⟩,_,Gd,rfl,Jd,?_⟩;refine⟨trivial,_,Rd.bk.rc rfl,trivial,?_⟩;obtain⟨Sd,hp⟩:=zqq hp;obtain⟨Me,Ta,Ua⟩:=zqW Sd;refine⟨Me,Ta,Ua,?_⟩;obtain⟨Td,Ud,Vd,Ea,Na⟩:=Pd.sta Ld (pre:=[]) (post:=[]) (l:=([B,D,F,G,I]:List Int)) (enc:=(C.int .i64)) rfl rfl Ta Ua (((need * e) / a))
    replace Na:Lb _ _ _ _ _ _ _ [(Il (sti g 0 ((need * e) / a) B)),(Il (sti g 1 ((need * e) / a) D)),(Il (sti g 2 ((need * e) / a) F)),(Il (sti g 3 ((need * e) / a) G)),(Il (sti g 4 ((need * e) / a) I))]:=Na
    have Wd:=Nd.k Ea;have Xd:=Od.k Ea;have Yd:=Qd.k Ea;have Zd:=Md.k Ea;refine⟨Td,Ud,?_⟩;refine gdi hp fun ae hp=>?_;exact cb _ _ _ _ _ _ _ _ _ _ _ _ _ _ _ _ _ _ jb Vd Wd Xd Na Yd Zd hp
   | some rb=>
    rw[zqS ta] at hp;refine⟨fun h=>(by cases h),fun u hu=>?_⟩;obtain rfl:=oi hu;refine⟨_,rfl,?_⟩;refine gdi hp fun be hp=>?_;obtain⟨ce,hp⟩:=zqq hp;obtain⟨Xe,de,hp⟩:=zqp hp;obtain⟨Ye,Ze,af,ee,fe,ge,he,ie,va,je⟩:=Mo.opa zva mb Ma (k:=({ pence:=((need * e) / a),remainder:=((need * e) % a) }:Sh)) ce (v:=(rb+1)) de (.c (Il 0)) (kv:=.agg 2 [(Il ((need * e) / a)),(Il ((need * e) % a))]) (yv:=.c (Il (rb+1))) rfl rfl;have ke:=ob.k va;have me:=pb.k va;have oe:=qb.k va;have pe:=sa.k va;have qe:=La.k va;refine⟨_,_,_,fe,⟨_,ge,by rw[ta]; exact⟨rfl,rfl⟩⟩,_,ee,rfl,he,?_⟩;refine⟨trivial,_,qe.bk.rc rfl,trivial,?_⟩;obtain⟨re,hp⟩:=zqq hp;obtain⟨Ne,Va,Wa⟩:=zqW re;refine⟨Ne,Va,Wa,?_⟩;obtain⟨se,te,ue,Fa,Oa⟩:=oe.sta ie (pre:=[]) (post:=[]) (l:=([B,D,F,G,I]:List Int)) (enc:=(C.int .i64)) rfl rfl Va Wa (((need * e) / a))
    replace Oa:Lb _ _ _ _ _ _ _ [(Il (sti g 0 ((need * e) / a) B)),(Il (sti g 1 ((need * e) / a) D)),(Il (sti g 2 ((need * e) / a) F)),(Il (sti g 3 ((need * e) / a) G)),(Il (sti g 4 ((need * e) / a) I))]:=Oa
    have ve:=ke.k Fa;have we:=me.k Fa;have xe:=pe.k Fa;have ye:=je.k Fa;refine⟨se,te,?_⟩;refine gdi hp fun ze hp=>?_;exact cb _ _ _ _ _ _ _ _ _ _ _ _ _ _ _ _ _ _ jb ue ve we Oa xe ye hp
 exact hgo _ _ _ _ _ _ _ _ _ _ _ _ _ _ _ _ _ _ _ Za nc Y da Z ea fa hp
theorem zvV{o:Oc}{m f:M}{Q:V->M->Prop}{rz:Int}(hS:Pre f m)(hp:ztw o=some rz)(hq:∀m',Ext m m'->Q (.c (Il rz)) m'):Wc prog tbl 63 [.agg 6 [Il o.need,Il o.calls.p0,Il o.calls.p1,Il o.calls.p2,Il o.calls.p3,Il o.calls.p4]] m Q:=by
 have i:=hS.st;obtain⟨j,_⟩:=zr4;refine w63 ?_;unfold ztw at hp;intro l a;obtain⟨g,d,h,e⟩:=i.blk a j 1;refine⟨trivial,_,e.bk.rc rfl,?_⟩;obtain rfl:=oi hp;exact hq _ d.ext'
theorem zvW{o:Oc}{m f:M}{Q:V->M->Prop}{rz:Int}(hS:Pre f m)(hp:ztx o=some rz)(hq:∀m',Ext m m'->Q (.c (Il rz)) m'):Wc prog tbl 70 [.agg 6 [Il o.need,Il o.calls.p0,Il o.calls.p1,Il o.calls.p2,Il o.calls.p3,Il o.calls.p4]] m Q:=by
 have u:=hS.st;obtain⟨w,_⟩:=zr4;refine w70 ?_;unfold ztx at hp;intro y e;obtain⟨g,d,s,a⟩:=u.blk e w 1;refine⟨trivial,_,a.bk.rc rfl,trivial,_,_,_,_,_,a.bk.rp (k:=1) (j:=5) rfl (by omega),?_⟩;obtain⟨t,h,hp⟩:=zqp hp;refine zvQ (p:=o.calls) d.pre  h fun z i=>?_;obtain⟨l,n⟩:=d.call i g;have q:=a.k n;refine⟨_,rfl,(q.bk.rc rfl),?_⟩;refine gdi hp fun r hp=>?_;obtain rfl:=oi hp;exact hq _ l.ext'
theorem zvX{o:Oc}{more:P5}{m f:M}{Q:V->M->Prop}{rz:Oc}(hS:Pre f m)(hp:zty o more=some rz)(hq:∀m',Ext m m'->Q (.agg 6 [Il rz.need,Il rz.calls.p0,Il rz.calls.p1,Il rz.calls.p2,Il rz.calls.p3,Il rz.calls.p4]) m'):Wc prog tbl 95 [.agg 6 [Il o.need,Il o.calls.p0,Il o.calls.p1,Il o.calls.p2,Il o.calls.p3,Il o.calls.p4],.agg 5 [Il more.p0,Il more.p1,Il more.p2,Il more.p3,Il more.p4]] m Q:=by
 have S0:=hS.st;obtain⟨τ0,_⟩:=zr4;refine w95 ?_;unfold zty at hp;intro m0 i;obtain⟨l,n,da,q⟩:=S0.blk i τ0 1;intro m1 r;obtain⟨s,t,u,w⟩:=n.blk r l 2;have y:=q.k u;intro m2 z;obtain⟨A,d,e,B⟩:=t.blk z s 3;have g:=y.k e;have D:=w.k e;refine⟨trivial,_,_,_,_,_,g.bk.rp (k:=1) (j:=5) rfl (by omega),_,_,_,_,_,D.bk.ra,?_⟩;obtain⟨a,F,hp⟩:=zqp hp;refine zvR (p:=o.calls) (more:=more) d.pre  F fun ha G=>?_;obtain⟨I,h⟩:=d.call G A;have J:=g.k h;have N:=B.k h;refine⟨_,_,_,_,_,rfl,trivial,?_⟩;obtain⟨O,P,S,T,c⟩:=J.stoP I 1 [Il a.p0,Il a.p1,Il a.p2,Il a.p3,Il a.p4] (Nat.le_of_ble_eq_true rfl) rfl
 replace c:Lb _ _ _ _ _ _ _ [Il o.need,Il a.p0,Il a.p1,Il a.p2,Il a.p3,Il a.p4]:=c
 have Y:=N.k T;refine⟨O,P,?_⟩;refine⟨_,_,_,_,_,_,c.bk.ra,?_⟩;obtain⟨Z,aa,ba,ea,ca⟩:=Y.sto S [Il o.need,Il a.p0,Il a.p1,Il a.p2,Il a.p3,Il a.p4];refine⟨Z,aa,?_⟩;refine⟨_,_,_,_,_,_,ca.bk.ra,?_⟩;obtain rfl:=oi hp;exact hq _ ba.ext'
theorem zvY{m_:Mb}{m f:M}{Q:V->M->Prop}{rz:Int}(hS:Pre f m)(hp:ztz m_=some rz)(hq:∀m',Ext m m'->Q (.c (Il rz)) m'):Wc prog tbl 113 [.agg 3 [Il m_.Sum,Il m_.Class,Il m_.Most]] m Q:=by
 have n:=hS.st;obtain⟨o,_⟩:=zr4;refine zuC ?_;unfold ztz at hp;intro p d;obtain⟨j,e,l,a⟩:=n.blk d o 1;refine⟨trivial,_,a.bk.rc rfl,trivial,_,a.bk.rc rfl,?_⟩;refine gdi hp fun g hp=>?_;refine gdi hp fun h hp=>?_;refine gdi hp fun i hp=>?_;obtain rfl:=oi hp;exact hq _ e.ext'
theorem zvZ{m_:Mb}{m f:M}{Q:V->M->Prop}{rz:Int}(hS:Pre f m)(hp:ztA m_=some rz)(hq:∀m',Ext m m'->Q (.c (Il rz)) m'):Wc prog tbl 115 [.agg 3 [Il m_.Sum,Il m_.Class,Il m_.Most]] m Q:=by
 have i:=hS.st;obtain⟨j,_⟩:=zr4;refine zut ?_;unfold ztA at hp;intro l a;obtain⟨g,d,h,e⟩:=i.blk a j 1;refine⟨trivial,_,e.bk.rc rfl,?_⟩;obtain rfl:=oi hp;exact hq _ d.ext'
theorem zv0{w:Wk}{of_:F5}{number:Mb->Option (Int)}{ca100 ca101 ca300:C}{m f:M}{Q:V->M->Prop}{rz:P5}(hS:Pre f m)(ha100:Sl f ca100 w.s.Members)(_ha101:Sl f ca101 w.s.Losses)(ha300:zu9 f ca300 number)(hp:ztC w of_ number=some rz)(hq:∀m',Ext m m'->Q (.agg 5 [Il rz.p0,Il rz.p1,Il rz.p2,Il rz.p3,Il rz.p4]) m'):Wc prog tbl 112 [.agg 10 [ca100,ca101,Il w.s.Treaty.Lo,Il w.s.Treaty.Hi,Il w.s.Reserve,.bool w.asked.b0,.bool w.asked.b1,.bool w.asked.b2,.bool w.asked.b3,.bool w.asked.b4],.agg 5 [.bool of_.b0,.bool of_.b1,.bool of_.b2,.bool of_.b3,.bool of_.b4],.c ca300] m Q:=by
 have S0:=hS.st;obtain⟨τ0,_⟩:=zr4;refine zux ?_;unfold ztC at hp;intro m0 ia;obtain⟨ja,ka,ob,la⟩:=S0.blk ia τ0 1;intro m1 ma;obtain⟨na,oa,pa,qa⟩:=ka.blk ma ja 2;have sa:=la.k pa;intro m2 ta;obtain⟨ua,va,aa,wa⟩:=oa.blk ta na 3;have xa:=sa.k aa;have ya:=qa.k aa;intro m3 za;obtain⟨Aa,Ba,A,n⟩:=va.blk za ua 4;have o:=xa.k A;have q:=ya.k A;have p:=wa.k A;refine⟨trivial,trivial,_,o.bk.rc rfl,ha100.isSl,?_⟩;intro R5 jb
 have hgo:∀(r:Nat) (B:Int) (a:Int) (d:Int) (e:Int) (g:Int) (h:Int) (S:M) (i:Nat->Nat),St (Fm.of m) f f S->Lb (Fm.of m) f i S 1 m.nxt 10 [ca100,ca101,Il w.s.Treaty.Lo,Il w.s.Treaty.Hi,Il w.s.Reserve,.bool w.asked.b0,.bool w.asked.b1,.bool w.asked.b2,.bool w.asked.b3,.bool w.asked.b4]->Lb (Fm.of m) f i S 2 m0.nxt 5 [.bool of_.b0,.bool of_.b1,.bool of_.b2,.bool of_.b3,.bool of_.b4]->Lb (Fm.of m) f i S 3 m1.nxt 5 [Il 0,Il 0,Il 0,Il 0,Il 0]->Lb (Fm.of m) f i S 4 m2.nxt 5 [Il a,Il d,Il e,Il g,Il h]->ztB w of_ number r a d e g h B=some rz->R5 [.c (Il B)] S:=by
  intro r
  induction r with
  | zero=>intro B a d e g h S i t o q p n hp; cases hp
  | succ r ea=>
   intro B a d e g h S i t o q p n hp;refine jb _ _ ?_;rw[ztB] at hp
   try rw[ha100.slLen]
   refine ifd hp (fun Ca hp=>?_) fun Ca hp=>?_; rotate_left
   ·refine⟨_,_,_,_,_,n.bk.ra,?_⟩;obtain⟨Da,Ea,Fa,pb,Ga⟩:=p.sto t [Il a,Il d,Il e,Il g,Il h];refine⟨Da,Ea,?_⟩;refine⟨_,_,_,_,_,Ga.bk.ra,?_⟩;obtain rfl:=oi hp;exact hq _ Fa.ext'
   obtain⟨D,F,hp⟩:=zqp hp;obtain⟨n8,fa,T,F⟩:=zqj F;obtain⟨_,Ha⟩:=zr8 ha100 F;refine⟨n8,fa,(by first|exact T|(rw[ha100.slLen];exact T)),_,_,_,(Ha _ t.sub).1,?_⟩;intro yb Ia;obtain⟨G,Ja,u,Ka⟩:=t.blk Ia i 5;have La:=o.k u;have Ma:=q.k u;have Na:=p.k u;have Oa:=n.k u;obtain⟨Pa,Qa,I,y,Ra⟩:=Ka.sto Ja [Il D.Sum,Il D.Class,Il D.Most];have ba:=La.k y;have J:=Ma.k y;have ca:=Na.k y;have da:=Oa.k y;refine⟨Pa,Qa,?_⟩;refine⟨trivial,?_⟩;obtain⟨qb,N,hp⟩:=zqp hp;obtain⟨kb,ga,ha,N⟩:=zqj N;refine⟨kb,ga,ha,_,(J.bk.rc (zqV (l:=([of_.b0,of_.b1,of_.b2,of_.b3,of_.b4]:List Bool)) (enc:=C.bool) 0 rfl N)),?_⟩;refine zq0 hp (fun Sa hp=>?_) fun Sa hp=>?_; rotate_left
   ·refine gdi hp fun Ta hp=>?_;exact ea _ _ _ _ _ _ _ G I ba J ca da hp
   refine⟨_,_,_,Ra.bk.ra,?_⟩;obtain⟨j,Ua,hp⟩:=zqp hp;refine ha300 _ _ _ _ _ (Sub.refl _) I.pre  Ua fun zb Va=>?_;obtain⟨Wa,z⟩:=I.call Va G;have Xa:=ba.k z;have Ya:=J.k z;have Za:=ca.k z;have ab:=da.k z;refine⟨_,rfl,trivial,?_⟩;obtain⟨bb,hp⟩:=zqq hp;obtain⟨mb,Y,Z⟩:=zqW bb;refine⟨mb,Y,Z,?_⟩;obtain⟨cb,db,eb,O,P⟩:=ab.sta Wa (pre:=[]) (post:=[]) (l:=([a,d,e,g,h]:List Int)) (enc:=(C.int .i64)) rfl rfl Y Z j
   replace P:Lb _ _ _ _ _ _ _ [(Il (sti B 0 j a)),(Il (sti B 1 j d)),(Il (sti B 2 j e)),(Il (sti B 3 j g)),(Il (sti B 4 j h))]:=P
   have fb:=Xa.k O;have gb:=Ya.k O;have hb:=Za.k O;refine⟨cb,db,?_⟩;refine gdi hp fun ib hp=>?_;exact ea _ _ _ _ _ _ _ G eb fb gb hb P hp
 exact hgo _ _ _ _ _ _ _ _ Aa Ba o q p n hp
theorem zv1{w:Wk}{of_:F5}{ca100 ca101:C}{m f:M}{Q:V->M->Prop}{rz:P5}(hS:Pre f m)(ha100:Sl f ca100 w.s.Members)(ha101:Sl f ca101 w.s.Losses)(hp:ztD w of_=some rz)(hq:∀m',Ext m m'->Q (.agg 5 [Il rz.p0,Il rz.p1,Il rz.p2,Il rz.p3,Il rz.p4]) m'):Wc prog tbl 93 [.agg 10 [ca100,ca101,Il w.s.Treaty.Lo,Il w.s.Treaty.Hi,Il w.s.Reserve,.bool w.asked.b0,.bool w.asked.b1,.bool w.asked.b2,.bool w.asked.b3,.bool w.asked.b4],.agg 5 [.bool of_.b0,.bool of_.b1,.bool of_.b2,.bool of_.b3,.bool of_.b4]] m Q:=by
 have S0:=hS.st;obtain⟨τ0,_⟩:=zr4;refine w93 ?_;unfold ztD at hp;intro m0 h;obtain⟨i,j,Y,l⟩:=S0.blk h τ0 1;intro m1 n;obtain⟨o,p,q,t⟩:=j.blk n i 2;have u:=l.k q;intro m2 y;obtain⟨z,d,e,A⟩:=p.blk y o 3;have B:=u.k e;have D:=t.k e;refine⟨_,_,_,_,_,_,_,_,_,_,B.bk.ra,_,_,_,_,_,D.bk.ra,?_⟩
 have g:zu9 f ((C.fn (Fn.func 113) [] [])) (fun c=>ztz c):=by
  intro f' m' c r Q hs hpre  hg hq;exact zvY hpre  hg hq
 obtain⟨a,F,hp⟩:=zqp hp;refine zv0 (w:=w) (of_:=of_) (number:=(fun c=>ztz c)) d.pre ha100 ha101 g F fun ca G=>?_;obtain⟨I,J⟩:=d.call G z;have N:=A.k J;refine⟨_,_,_,_,_,rfl,?_⟩;obtain⟨O,P,S,Z,T⟩:=N.sto I [Il a.p0,Il a.p1,Il a.p2,Il a.p3,Il a.p4];refine⟨O,P,?_⟩;refine⟨_,_,_,_,_,T.bk.ra,?_⟩;obtain rfl:=oi hp;exact hq _ S.ext'
theorem zv2{w:Wk}{of_:F5}{ca100 ca101:C}{m f:M}{Q:V->M->Prop}{rz:P5}(hS:Pre f m)(ha100:Sl f ca100 w.s.Members)(ha101:Sl f ca101 w.s.Losses)(hp:ztE w of_=some rz)(hq:∀m',Ext m m'->Q (.agg 5 [Il rz.p0,Il rz.p1,Il rz.p2,Il rz.p3,Il rz.p4]) m'):Wc prog tbl 96 [.agg 10 [ca100,ca101,Il w.s.Treaty.Lo,Il w.s.Treaty.Hi,Il w.s.Reserve,.bool w.asked.b0,.bool w.asked.b1,.bool w.asked.b2,.bool w.asked.b3,.bool w.asked.b4],.agg 5 [.bool of_.b0,.bool of_.b1,.bool of_.b2,.bool of_.b3,.bool of_.b4]] m Q:=by
 have S0:=hS.st;obtain⟨τ0,_⟩:=zr4;refine w96 ?_;unfold ztE at hp;intro m0 h;obtain⟨i,j,Y,l⟩:=S0.blk h τ0 1;intro m1 n;obtain⟨o,p,q,t⟩:=j.blk n i 2;have u:=l.k q;intro m2 y;obtain⟨z,d,e,A⟩:=p.blk y o 3;have B:=u.k e;have D:=t.k e;refine⟨_,_,_,_,_,_,_,_,_,_,B.bk.ra,_,_,_,_,_,D.bk.ra,?_⟩
 have g:zu9 f ((C.fn (Fn.func 115) [] [])) (fun c=>ztA c):=by
  intro f' m' c r Q hs hpre  hg hq;exact zvZ hpre  hg hq
 obtain⟨a,F,hp⟩:=zqp hp;refine zv0 (w:=w) (of_:=of_) (number:=(fun c=>ztA c)) d.pre ha100 ha101 g F fun ca G=>?_;obtain⟨I,J⟩:=d.call G z;have N:=A.k J;refine⟨_,_,_,_,_,rfl,?_⟩;obtain⟨O,P,S,Z,T⟩:=N.sto I [Il a.p0,Il a.p1,Il a.p2,Il a.p3,Il a.p4];refine⟨O,P,?_⟩;refine⟨_,_,_,_,_,T.bk.ra,?_⟩;obtain rfl:=oi hp;exact hq _ S.ext'
theorem zv3{w:Wk}{sharing:F5}{shares:P5}{ca100 ca101:C}{m f:M}{Q:V->M->Prop}{rz:F5}(hS:Pre f m)(ha100:Sl f ca100 w.s.Members)(_ha101:Sl f ca101 w.s.Losses)(hp:ztG w sharing shares=some rz)(hq:∀m',Ext m m'->Q (.agg 5 [.bool rz.b0,.bool rz.b1,.bool rz.b2,.bool rz.b3,.bool rz.b4]) m'):Wc prog tbl 94 [.agg 10 [ca100,ca101,Il w.s.Treaty.Lo,Il w.s.Treaty.Hi,Il w.s.Reserve,.bool w.asked.b0,.bool w.asked.b1,.bool w.asked.b2,.bool w.asked.b3,.bool w.asked.b4],.agg 5 [.bool sharing.b0,.bool sharing.b1,.bool sharing.b2,.bool sharing.b3,.bool sharing.b4],.agg 5 [Il shares.p0,Il shares.p1,Il shares.p2,Il shares.p3,Il shares.p4]] m Q:=by
 have S0:=hS.st;obtain⟨τ0,_⟩:=zr4;refine w94 ?_;unfold ztG at hp;intro m0 oa;obtain⟨pa,qa,wb,sa⟩:=S0.blk oa τ0 1;intro m1 ta;obtain⟨ua,va,wa,xa⟩:=qa.blk ta pa 2;have ya:=sa.k wa;intro m2 za;obtain⟨Aa,Ba,da,Ca⟩:=va.blk za ua 3;have Da:=ya.k da;have Ea:=xa.k da;intro m3 Fa;obtain⟨Ga,Ha,B,o⟩:=Ba.blk Fa Aa 4;have p:=Da.k B;have q:=Ea.k B;have t:=Ca.k B;refine⟨trivial,trivial,_,p.bk.rc rfl,ha100.isSl,?_⟩;intro R5 rb
 have hgo:∀(u:Nat) (r:Int) (a:Bool) (d:Bool) (e:Bool) (g:Bool) (h:Bool) (T:M) (j:Nat->Nat),St (Fm.of m) f f T->Lb (Fm.of m) f j T 1 m.nxt 10 [ca100,ca101,Il w.s.Treaty.Lo,Il w.s.Treaty.Hi,Il w.s.Reserve,.bool w.asked.b0,.bool w.asked.b1,.bool w.asked.b2,.bool w.asked.b3,.bool w.asked.b4]->Lb (Fm.of m) f j T 2 m0.nxt 5 [.bool a,.bool d,.bool e,.bool g,.bool h]->Lb (Fm.of m) f j T 3 m1.nxt 5 [Il shares.p0,Il shares.p1,Il shares.p2,Il shares.p3,Il shares.p4]->Lb (Fm.of m) f j T 4 m2.nxt 5 [.bool false,.bool false,.bool false,.bool false,.bool false]->ztF w shares u a d e g h r=some rz->R5 [.c (Il r)] T:=by
  intro u
  induction u with
  | zero=>intro r a d e g h T j y p q t o hp; cases hp
  | succ u ia=>
   intro r a d e g h T j y p q t o hp;refine rb _ _ ?_;rw[ztF] at hp
   try rw[ha100.slLen]
   refine ifd hp (fun Ia hp=>?_) fun Ia hp=>?_; rotate_left
   ·refine⟨_,_,_,_,_,q.bk.ra,?_⟩;obtain⟨Ja,Ka,La,xb,Ma⟩:=o.sto y [.bool a,.bool d,.bool e,.bool g,.bool h];refine⟨Ja,Ka,?_⟩;refine⟨_,_,_,_,_,Ma.bk.ra,?_⟩;obtain rfl:=oi hp;exact hq _ La.ext'
   obtain⟨i,D,hp⟩:=zqp hp;obtain⟨n8,ja,Y,D⟩:=zqj D;obtain⟨_,Na⟩:=zr8 ha100 D;refine⟨n8,ja,(by first|exact Y|(rw[ha100.slLen];exact Y)),_,_,_,(Na _ y.sub).1,?_⟩;intro Gb Oa;obtain⟨ea,Pa,z,Qa⟩:=y.blk Oa j 5;have Ra:=p.k z;have Sa:=q.k z;have Ta:=t.k z;have Ua:=o.k z;obtain⟨Va,Wa,fa,A,Xa⟩:=Qa.sto Pa [Il i.Sum,Il i.Class,Il i.Most];have ga:=Ra.k A;have F:=Sa.k A;have G:=Ta.k A;have ha:=Ua.k A;refine⟨Va,Wa,?_⟩;refine⟨trivial,?_⟩;obtain⟨yb,I,hp⟩:=zqp hp;obtain⟨sb,ka,la,I⟩:=zqj I;refine⟨sb,ka,la,_,(F.bk.rc (zqV (l:=([a,d,e,g,h]:List Bool)) (enc:=C.bool) 0 rfl I)),?_⟩;refine zq0 hp (fun Ya hp=>?_) fun Ya hp=>?_; rotate_left
   ·refine⟨trivial,?_⟩;obtain⟨Za,hp⟩:=zqq hp;obtain⟨tb,Z,aa⟩:=zqW Za;refine⟨tb,Z,aa,?_⟩;obtain⟨ab,bb,cb,J,N⟩:=F.sta fa (pre:=[]) (post:=[]) (l:=([a,d,e,g,h]:List Bool)) (enc:=C.bool) rfl rfl Z aa false
    replace N:Lb _ _ _ _ _ _ _ [(.bool (sti r 0 false a)),(.bool (sti r 1 false d)),(.bool (sti r 2 false e)),(.bool (sti r 3 false g)),(.bool (sti r 4 false h))]:=N
    have db:=ga.k J;have eb:=G.k J;have fb:=ha.k J;refine⟨ab,bb,?_⟩;refine gdi hp fun gb hp=>?_;exact ia _ _ _ _ _ _ _ ea cb db N eb fb hp
   refine⟨trivial,?_⟩;obtain⟨n,O,hp⟩:=zqp hp;obtain⟨ub,ma,na,O⟩:=zqj O;refine⟨ub,ma,na,_,(G.bk.rc (zqV (l:=([shares.p0,shares.p1,shares.p2,shares.p3,shares.p4]:List Int)) (enc:=(C.int .i64)) 0 rfl O)),trivial,_,Xa.bk.rc rfl,trivial,?_⟩;obtain⟨hb,hp⟩:=zqq hp;obtain⟨vb,ba,ca⟩:=zqW hb;refine⟨vb,ba,ca,?_⟩;obtain⟨ib,jb,kb,P,S⟩:=F.sta fa (pre:=[]) (post:=[]) (l:=([a,d,e,g,h]:List Bool)) (enc:=C.bool) rfl rfl ba ca ((decide (n<=i.Most)))
   replace S:Lb _ _ _ _ _ _ _ [(.bool (sti r 0 (decide (n<=i.Most)) a)),(.bool (sti r 1 (decide (n<=i.Most)) d)),(.bool (sti r 2 (decide (n<=i.Most)) e)),(.bool (sti r 3 (decide (n<=i.Most)) g)),(.bool (sti r 4 (decide (n<=i.Most)) h))]:=S
   have mb:=ga.k P;have ob:=G.k P;have pb:=ha.k P;refine⟨ib,jb,?_⟩;refine gdi hp fun qb hp=>?_;exact ia _ _ _ _ _ _ _ ea kb mb S ob pb hp
 exact hgo _ _ _ _ _ _ _ _ Ga Ha p q t o hp
theorem zv4{w:Wk}{need:Int}{ca100 ca101:C}{m f:M}{Q:V->M->Prop}{rz:Oc}(hS:Pre f m)(ha100:Sl f ca100 w.s.Members)(ha101:Sl f ca101 w.s.Losses)(hp:ztI w need=some rz)(hq:∀m',Ext m m'->Q (.agg 6 [Il rz.need,Il rz.calls.p0,Il rz.calls.p1,Il rz.calls.p2,Il rz.calls.p3,Il rz.calls.p4]) m'):Wc prog tbl 68 [.agg 10 [ca100,ca101,Il w.s.Treaty.Lo,Il w.s.Treaty.Hi,Il w.s.Reserve,.bool w.asked.b0,.bool w.asked.b1,.bool w.asked.b2,.bool w.asked.b3,.bool w.asked.b4],.c (Il need)] m Q:=by
 have S0:=hS.st;obtain⟨τ0,_⟩:=zr4;refine w68 ?_;unfold ztI at hp;intro m0 Ta;obtain⟨Ua,Va,Vd,Wa⟩:=S0.blk Ta τ0 1;intro m1 Xa;obtain⟨Ya,Za,ab,bb⟩:=Va.blk Xa Ua 2;have cb:=Wa.k ab;intro m2 db;obtain⟨eb,fb,qa,gb⟩:=Za.blk db Ya 3;have hb:=cb.k qa;have ib:=bb.k qa;obtain⟨sa,jb,kb,ta,mb⟩:=gb.sto fb [Il need,Il 0,Il 0,Il 0,Il 0,Il 0];have ua:=hb.k ta;have ob:=ib.k ta;refine⟨sa,jb,?_⟩;refine⟨trivial,_,_,_,_,_,ua.bk.rp (k:=5) (j:=5) rfl (by omega),?_⟩;intro m9 pb;obtain⟨qb,rb,ka,sb⟩:=kb.blk pb eb 4;have tb:=ua.k ka;have ub:=ob.k ka;have vb:=mb.k ka;obtain⟨wb,xb,yb,la,B⟩:=sb.sto rb [.bool w.asked.b0,.bool w.asked.b1,.bool w.asked.b2,.bool w.asked.b3,.bool w.asked.b4];have ca:=tb.k la;have D:=ub.k la;have F:=vb.k la;refine⟨wb,xb,?_⟩;intro Ud Td
 have hgo:∀(da:Nat) (e:Int) (g:Int) (h:Int) (i:Int) (l:Int) (n:Int) (p:Bool) (q:Bool) (r:Bool) (t:Bool) (u:Bool) (ba:M) (y:Nat->Nat),St (Fm.of m) f f ba->Lb (Fm.of m) f y ba 1 m.nxt 10 [ca100,ca101,Il w.s.Treaty.Lo,Il w.s.Treaty.Hi,Il w.s.Reserve,.bool w.asked.b0,.bool w.asked.b1,.bool w.asked.b2,.bool w.asked.b3,.bool w.asked.b4]->Lb (Fm.of m) f y ba 2 m0.nxt 6 [Il 0,Il 0,Il 0,Il 0,Il 0,Il 0]->Lb (Fm.of m) f y ba 3 m1.nxt 6 [Il e,Il g,Il h,Il i,Il l,Il n]->Lb (Fm.of m) f y ba 4 sa.nxt 5 [.bool p,.bool q,.bool r,.bool t,.bool u]->ztH w need da e g h i l n p q r t u=some rz->Ud [] ba:=by
  intro da
  induction da with
  | zero=>intro e g h i l n p q r t u ba y ma ca D F B hp; cases hp
  | succ da zb=>
   intro e g h i l n p q r t u ba y ma ca D F B hp;refine Td  _ ?_;rw[ztH] at hp;refine⟨_,_,_,_,_,B.bk.ra,?_⟩;refine zq1 hp (fun Ab hp=>?_) fun Ab hp=>?_; rotate_left
   ·refine⟨_,_,_,_,_,_,F.bk.ra,?_⟩;obtain⟨Bb,Cb,Db,Wd,Eb⟩:=D.sto ma [Il e,Il g,Il h,Il i,Il l,Il n];refine⟨Bb,Cb,?_⟩;refine⟨_,_,_,_,_,_,Eb.bk.ra,?_⟩;obtain rfl:=oi hp;exact hq _ Db.ext'
   intro ge Fb;obtain⟨G,va,ea,Sa⟩:=ma.growK Fb y 5;have wa:=ca.k ea;have Gb:=D.k ea;have xa:=F.k ea;have ya:=B.k ea;have Hb:=Sa 0 (by decide);refine⟨_,_,_,_,_,_,xa.bk.ra,?_⟩;obtain⟨Ib,Jb,hp⟩:=zqp hp;refine zvW (o:=({ need:=e,calls:=({ p0:=g,p1:=h,p2:=i,p3:=l,p4:=n }:P5) }:Oc)) va.pre  Jb fun he Kb=>?_;obtain⟨za,I⟩:=va.call Kb G;have Aa:=wa.k I;have Nb:=Gb.k I;have Ob:=xa.k I;have Ba:=ya.k I;have Pb:=Hb.k I;refine⟨_,rfl,_,_,_,_,_,_,_,_,_,_,Aa.bk.ra,(by rw[show zaL cmC _=true from zoV (zqs ha100.noFn (zqs ha101.noFn (zqs rfl (zqs rfl (zqs rfl (zqs rfl (zqs rfl (zqs rfl (zqs rfl (zqs rfl zqt))))))))))]; exact(wa.bk.ra)),_,_,_,_,_,Ba.bk.ra,(ya.bk.ra),?_⟩;obtain⟨Qb,Rb,hp⟩:=zqp hp;refine zv1 (w:=w) (of_:=({ b0:=p,b1:=q,b2:=r,b3:=t,b4:=u }:F5)) za.pre ha100 ha101 Rb fun ie Sb=>?_;obtain⟨Ca,J⟩:=za.call Sb G;have Tb:=Aa.k J;have Ub:=Nb.k J;have Vb:=Ob.k J;have Wb:=Ba.k J;have Xb:=Pb.k J;refine⟨_,_,_,_,_,rfl,?_⟩;obtain⟨z,Yb,hp⟩:=zqp hp;refine zvU (need:=Ib) (units:=Qb) Ca.pre  Yb fun je Zb=>?_;obtain⟨ac,N⟩:=Ca.call Zb G;have bc:=Tb.k N;have cc:=Ub.k N;have dc:=Vb.k N;have ec:=Wb.k N;have fc:=Xb.k N;refine⟨_,_,_,_,_,rfl,?_⟩;intro ke gc;obtain⟨hc,fa,ic⟩:=fc.set ac gc;have Da:=bc.k fa;have jc:=cc.k fa;have Ea:=dc.k fa;have Fa:=ec.k fa;refine⟨(Fa.bk.ra),(by rw[show zaL cmC _=true from zoV (zqs ha100.noFn (zqs ha101.noFn (zqs rfl (zqs rfl (zqs rfl (zqs rfl (zqs rfl (zqs rfl (zqs rfl (zqs rfl zqt))))))))))]; exact(Da.bk.ra)),(Ea.bk.ra),?_⟩
   obtain⟨kc,nc,Ga,ga,Ha⟩:=ic.sto hc [Il z.p0,Il z.p1,Il z.p2,Il z.p3,Il z.p4];have Ia:=Da.k ga;have oc:=jc.k ga;have pc:=Ea.k ga;have Ja:=Fa.k ga;refine⟨kc,nc,?_⟩;refine⟨_,_,_,_,_,_,_,_,_,_,Ia.bk.ra,_,_,_,_,_,Ja.bk.ra,_,_,_,_,_,Ha.bk.ra,?_⟩;obtain⟨d,qc,hp⟩:=zqp hp;refine zv3 (w:=w) (sharing:=({ b0:=p,b1:=q,b2:=r,b3:=t,b4:=u }:F5)) (shares:=z) Ga.pre ha100 ha101 qc fun me sc=>?_;obtain⟨tc,O⟩:=Ga.call sc G;have uc:=Ia.k O;have vc:=oc.k O;have wc:=pc.k O;have xc:=Ja.k O;have yc:=Ha.k O;refine⟨_,_,_,_,_,rfl,?_⟩;intro oe zc;obtain⟨P,Ac,S,Bc⟩:=tc.blk zc G 6;have Cc:=uc.k S;have Dc:=vc.k S;have Ec:=wc.k S;have Fc:=xc.k S;have Gc:=yc.k S;obtain⟨Hc,Ic,ha,T,na⟩:=Bc.sto Ac [.bool d.b0,.bool d.b1,.bool d.b2,.bool d.b3,.bool d.b4];have Ka:=Cc.k T;have La:=Dc.k T;have ia:=Ec.k T;have oa:=Fc.k T;have Jc:=Gc.k T;refine⟨Hc,Ic,?_⟩;refine⟨_,_,_,_,_,na.bk.ra,_,_,_,_,_,oa.bk.ra,?_⟩;refine zq0 hp (fun Kc hp=>?_) fun Kc hp=>?_
   ·refine⟨_,_,_,_,_,_,ia.bk.ra,_,_,_,_,_,Jc.bk.ra,?_⟩;obtain⟨a,Nc,hp⟩:=zqp hp;refine zvX (o:=({ need:=e,calls:=({ p0:=g,p1:=h,p2:=i,p3:=l,p4:=n }:P5) }:Oc)) (more:=z) ha.pre  Nc fun ce Pc=>?_;obtain⟨Qc,Ma⟩:=ha.call Pc P;have Rc:=La.k Ma;have Tc:=ia.k Ma;refine⟨_,_,_,_,_,_,rfl,?_⟩;obtain⟨Uc,Vc,Xc,Yc,Zc⟩:=Tc.sto Qc [Il a.need,Il a.calls.p0,Il a.calls.p1,Il a.calls.p2,Il a.calls.p3,Il a.calls.p4];have ad:=Rc.k Yc;refine⟨Uc,Vc,?_⟩;refine⟨_,_,_,_,_,_,Zc.bk.ra,?_⟩;obtain⟨bd,cd,dd,Xd,ed⟩:=ad.sto Xc [Il a.need,Il a.calls.p0,Il a.calls.p1,Il a.calls.p2,Il a.calls.p3,Il a.calls.p4];refine⟨bd,cd,?_⟩;refine⟨_,_,_,_,_,_,ed.bk.ra,?_⟩;obtain rfl:=oi hp;exact hq _ dd.ext'
   refine⟨_,_,_,_,_,_,ia.bk.ra,_,_,_,_,_,_,_,_,_,_,Ka.bk.ra,_,_,_,_,_,oa.bk.ra,_,_,_,_,_,na.bk.ra,?_⟩;obtain⟨fd,hd,hp⟩:=zqp hp;refine zvS (f_:=({ b0:=p,b1:=q,b2:=r,b3:=t,b4:=u }:F5)) (others:=d) ha.pre  hd fun de id=>?_;obtain⟨Na,Y⟩:=ha.call id P;have Oa:=Ka.k Y;have jd:=La.k Y;have Pa:=ia.k Y;have kd:=oa.k Y;have ld:=na.k Y;refine⟨_,_,_,_,_,rfl,(by rw[show zaL cmC _=true from zoV (zqs ha100.noFn (zqs ha101.noFn (zqs rfl (zqs rfl (zqs rfl (zqs rfl (zqs rfl (zqs rfl (zqs rfl (zqs rfl zqt))))))))))]; exact(Oa.bk.ra)),(Pa.bk.ra),?_⟩;obtain⟨md,nd,hp⟩:=zqp hp;refine zv2 (w:=w) (of_:=fd) Na.pre ha100 ha101 nd fun ee od=>?_;obtain⟨Qa,Z⟩:=Na.call od P;have pd:=Oa.k Z;have qd:=jd.k Z;have Ra:=Pa.k Z;have sd:=kd.k Z;have td:=ld.k Z;refine⟨_,_,_,_,_,rfl,(Ra.bk.ra),?_⟩;obtain⟨A,ud,hp⟩:=zqp hp;refine zvX (o:=({ need:=e,calls:=({ p0:=g,p1:=h,p2:=i,p3:=l,p4:=n }:P5) }:Oc)) (more:=md) Qa.pre  ud fun fe vd=>?_;obtain⟨wd,aa⟩:=Qa.call vd P;have xd:=pd.k aa;have yd:=qd.k aa;have zd:=Ra.k aa;have Ad:=sd.k aa;have Cd:=td.k aa;refine⟨_,_,_,_,_,_,rfl,?_⟩;obtain⟨Dd,Ed,Fd,ja,Gd⟩:=zd.sto wd [Il A.need,Il A.calls.p0,Il A.calls.p1,Il A.calls.p2,Il A.calls.p3,Il A.calls.p4];have Hd:=xd.k ja;have Id:=yd.k ja;have Jd:=Ad.k ja;have Ld:=Cd.k ja;refine⟨Dd,Ed,?_⟩;refine⟨_,_,_,_,_,Ld.bk.ra,?_⟩;obtain⟨Md,Nd,Od,pa,Pd⟩:=Jd.sto Fd [.bool d.b0,.bool d.b1,.bool d.b2,.bool d.b3,.bool d.b4];have Qd:=Hd.k pa;have Rd:=Id.k pa;have Sd:=Gd.k pa
   refine⟨Md,Nd,?_⟩;exact zb _ _ _ _ _ _ _ _ _ _ _ _ P Od Qd Rd Sd Pd hp
 exact hgo _ _ _ _ _ _ _ _ _ _ _ _ _ qb yb ca D F B hp
theorem zv5{o:Oc}{member:Int}{b0:Nat}{m f:M}{Q:V->M->Prop}{rz:Int}(hS:Pre f m)(hb0:Bk f b0 1 [Il member])(hp:ztJ o member=some rz)(hq:∀m',Ext m m'->Q (.c (Il rz)) m'):Wc prog tbl 99 [.agg 6 [Il o.need,Il o.calls.p0,Il o.calls.p1,Il o.calls.p2,Il o.calls.p3,Il o.calls.p4],.c (.ptr b0 0)] m Q:=by
 have q:=hS.st;obtain⟨r,_⟩:=zr4;refine c99 ?_;unfold ztJ at hp;intro t h;obtain⟨j,d,n,i⟩:=q.blk h r 1;refine⟨_,(hb0.sub d.sub).rc rfl,trivial,trivial,?_⟩;obtain⟨p,a,hp⟩:=zqp hp;obtain⟨s,e,g,a⟩:=zqj a;refine⟨s,e,g,_,(i.bk.rc (zqV (l:=([o.calls.p0,o.calls.p1,o.calls.p2,o.calls.p3,o.calls.p4]:List Int)) (enc:=(C.int .i64)) 1 rfl a)),?_⟩;obtain rfl:=oi hp;exact hq _ d.ext'
theorem zv6{member:Int}{m f:M}{Q:V->M->Prop}{rz:Oc->Option (Int)}(hS:Pre f m)(hp:ztK member=some rz)(hq:∀m' f' c0,Grw m f m' f'->zu5 f' c0 rz->Q (.c c0) m'):Wc prog tbl 74 [.c (Il member)] m Q:=by
 have q:=hS.st;obtain⟨s,_⟩:=zr4;refine w74 ?_;unfold ztK at hp;intro t h;obtain⟨n,i,o,j⟩:=q.blk h s 1;obtain⟨a,l,p,e⟩:=j.freeze i
 have g:zu5 a ((C.fn (Fn.func 99) [] [(W.c (C0.ptr m.nxt 0))])) (fun d=>ztJ d member):=by
  refine⟨rfl,?_⟩;intro f' m' d r Q hs hpre  hg hq;exact zv5 hpre (e.sub hs) hg hq
 obtain rfl:=oi hp;exact hq _ a (C.fn (Fn.func 99) [] [(W.c (C0.ptr m.nxt 0))]) l.grw g
theorem zv7{l:List Int}{ca100:C}{m f:M}{Q:V->M->Prop}{rz:Int}(hS:Pre f m)(ha100:Sl f ca100 l)(hp:ztM l=some rz)(hq:∀m',Ext m m'->Q (.c (Il rz)) m'):Wc prog tbl 84 [.c ca100] m Q:=by
 have A:=hS.st;obtain⟨G,_⟩:=zr4;refine w84 ?_;unfold ztM at hp;refine⟨ha100.isSl,?_⟩
 try rw[ha100.slLen]
 refine ifd hp (fun q hp=>?_) fun q hp=>?_
 ·obtain rfl:=oi hp;exact hq _ A.ext'
 obtain⟨D,g,hp⟩:=zqp hp;obtain⟨I,n,i,g⟩:=zqj g;refine⟨I,n,(by first|exact i|(rw[ha100.slLen];exact i)),_,(ha100.rdI g A.sub),ha100.isSl,?_⟩;intro J B
 have hgo:∀(d:Nat) (r:Int) (s:Int) (t:M) (e:Nat->Nat),St (Fm.of m) f f t->ztL l d r s=some rz->J [.c (Il r),.c (Il s)] t:=by
  intro d
  induction d with
  | zero=>intro r s t e a hp; cases hp
  | succ d o=>
   intro r s t e a hp;refine B _ _ _ ?_;rw[ztL] at hp
   try rw[ha100.slLen]
   refine ifd hp (fun u hp=>?_) fun u hp=>?_; rotate_left
   ·obtain rfl:=oi hp;exact hq _ a.ext'
   obtain⟨F,h,hp⟩:=zqp hp;obtain⟨N,p,j,h⟩:=zqj h;refine⟨N,p,(by first|exact j|(rw[ha100.slLen];exact j)),_,(ha100.rdI h a.sub),?_⟩;refine ifd hp (fun w hp=>?_) fun w hp=>?_
   ·refine gdi hp fun y hp=>?_;exact o _ _ _ e a hp
   refine gdi hp fun z hp=>?_;exact o _ _ _ e a hp
 exact hgo _ _ _ _ G A hp
theorem zv8{l:List Int}{ca100:C}{m f:M}{Q:V->M->Prop}{rz:Int}(hS:Pre f m)(ha100:Sl f ca100 l)(hp:ztO l=some rz)(hq:∀m',Ext m m'->Q (.c (Il rz)) m'):Wc prog tbl 85 [.c ca100] m Q:=by
 have y:=hS.st;obtain⟨D,_⟩:=zr4;refine w85 ?_;unfold ztO at hp;refine⟨ha100.isSl,?_⟩
 try rw[ha100.slLen]
 refine ifd hp (fun p hp=>?_) fun p hp=>?_
 ·cases hp
 obtain⟨A,e,hp⟩:=zqp hp;obtain⟨F,n,i,e⟩:=zqj e;refine⟨F,n,(by first|exact i|(rw[ha100.slLen];exact i)),_,(ha100.rdI e y.sub),?_⟩;intro G z
 have hgo:∀(a:Nat) (q:Int) (r:Int) (s:M) (g:Nat->Nat),St (Fm.of m) f f s->ztN l a q r=some rz->G [.c (Il q),.c (Il r)] s:=by
  intro a
  induction a with
  | zero=>intro q r s g d hp; cases hp
  | succ a w=>
   intro q r s g d hp;refine z _ _ _ ?_;rw[ztN] at hp;refine⟨ha100.isSl,?_⟩
   try rw[ha100.slLen]
   refine ifd hp (fun t hp=>?_) fun t hp=>?_; rotate_left
   ·obtain rfl:=oi hp;exact hq _ d.ext'
   obtain⟨B,h,hp⟩:=zqp hp;obtain⟨I,o,j,h⟩:=zqj h;refine⟨I,o,(by first|exact j|(rw[ha100.slLen];exact j)),_,(ha100.rdI h d.sub),?_⟩;refine gdi hp fun u hp=>?_;exact w _ _ _ g d hp
 exact hgo _ _ _ _ D y hp
theorem zv9{w:Wk}{q:Qu}{ca100 ca101 ca200:C}{m f:M}{Q:V->M->Prop}{rz:Rg}(hS:Pre f m)(ha100:Sl f ca100 w.s.Members)(ha101:Sl f ca101 w.s.Losses)(ha200:zu5 f ca200 q.ask)(hp:ztQ w q=some rz)(hq:∀m',Ext m m'->Q (.agg 2 [Il rz.Lo,Il rz.Hi]) m'):Wc prog tbl 62 [.agg 10 [ca100,ca101,Il w.s.Treaty.Lo,Il w.s.Treaty.Hi,Il w.s.Reserve,.bool w.asked.b0,.bool w.asked.b1,.bool w.asked.b2,.bool w.asked.b3,.bool w.asked.b4],.agg 1 [ca200]] m Q:=by
 have S0:=hS.st;obtain⟨τ0,_⟩:=zr4;refine w62 ?_;unfold ztQ at hp;intro m0 Fa;obtain⟨Ga,Ha,hc,Ia⟩:=S0.blk Fa τ0 1;intro m1 Ja;obtain⟨Ka,La,Ma,Na⟩:=Ha.blk Ja Ga 2;have Oa:=Ia.k Ma;intro m2 Pa;obtain⟨Qa,Ra,Z,Sa⟩:=La.blk Pa Ka 3;have Ta:=Oa.k Z;have Ua:=Na.k Z;intro m3 Va;obtain⟨aa,ba,G,Wa⟩:=Ra.blk Va Qa 4;have ca:=Ta.k G;have Xa:=Ua.k G;have Ya:=Sa.k G;refine⟨trivial,_,_,_,_,_,ca.bk.rp (k:=0) (j:=5) rfl (by omega),?_⟩;obtain⟨ic,Za,hp⟩:=zqp hp;refine zvP (s:=w.s) ba.pre ha100 ha101 Za fun xc jc kc ab cb=>?_;obtain⟨db,g⟩:=ba.callG ab aa;have da:=ca.k g;have ea:=Xa.k g;have fa:=Ya.k g;have ga:=Wa.k g;refine⟨_,rfl,?_⟩;refine zqU (α:=Int) db cb (σ:=(List Int) × C) 5 (fun st bb=>(False\/(False\/(False\/(False\/(zqT st.2 bb)))))) (fun st gG gF gT gM=>(Lb gG gF gT gM 1 m.nxt 10 [ca100,ca101,Il w.s.Treaty.Lo,Il w.s.Treaty.Hi,Il w.s.Reserve,.bool w.asked.b0,.bool w.asked.b1,.bool w.asked.b2,.bool w.asked.b3,.bool w.asked.b4])/\(Lb gG gF gT gM 2 m0.nxt 1 [ca200])/\(Lb gG gF gT gM 3 m1.nxt 2 [Il 0,Il 0])/\(Lb gG gF gT gM 4 m2.nxt 1 [st.2])/\(Ow gG gF gT gM 6 st.2 st.1)) (fun rr_ st=>ztP w q rr_ st.1=some rz) (fun ex st=>False) (fun st=>(Gud.and (Gud.lb da.bk.lt (by decide)) (Gud.and (Gud.lb ea.bk.lt (by decide)) (Gud.and (Gud.lb fa.bk.lt (by decide)) (Gud.and (Gud.lb ga.bk.lt (by decide)) (Gud.ow (by decide))))))) (st0:=([],.sl0)) (τ:=aa) ⟨da,ea,fa,ga,(Ow.nil _ _ _ _ _)⟩ hp ?_ ?_ ?_ ?_
 ·intro ha eb st o h T y nc ec fc gc fb I hA wa hp xa ya;obtain⟨d,z⟩:=st;obtain⟨p,r,i,e,c⟩:=hA
  replace p:Lb y o h T 1 m.nxt 10 [ca100,ca101,Il w.s.Treaty.Lo,Il w.s.Treaty.Hi,Il w.s.Reserve,.bool w.asked.b0,.bool w.asked.b1,.bool w.asked.b2,.bool w.asked.b3,.bool w.asked.b4]:=p
  replace r:Lb y o h T 2 m0.nxt 1 [ca200]:=r
  replace i:Lb y o h T 3 m1.nxt 2 [Il 0,Il 0]:=i
  replace e:Lb y o h T 4 m2.nxt 1 [z]:=e
  replace c:Ow y o h T 6 z d:=c
  replace hp:ztP w q (ha::eb) d=some rz:=hp
  rw[ztP] at hp;refine⟨_,rfl,?_⟩;refine xa _ _ _ _ fb wa fun yc oc ia A za Aa=>?_;have ja:=p.k A;have ka:=r.k A;have gb:=i.k A;have la:=e.k A;have c:=c.k A;refine⟨_,la.bk.rc rfl,trivial,_,ka.bk.rc rfl,_,_,_,_,_,_,_,_,_,_,ja.bk.ra,?_⟩;obtain⟨pc,hb,hp⟩:=zqp hp;refine zv4 (w:=w) (need:=ha) ia.pre (ha100.sub (Sub.trans g.fs I)) (ha101.sub (Sub.trans g.fs I)) hb fun zc ib=>?_;obtain⟨ma,t⟩:=ia.call ib h;have jb:=ja.k t;have na:=ka.k t;have kb:=gb.k t;have oa:=la.k t;have c:=c.k t;have Ba:=za.k t;refine⟨_,_,_,_,_,_,rfl,(by rw[show cmC _=true from ha200.1]; exact(na.bk.rc rfl)),(by rw[show cmC _=true from zoU (c.noFn)]; exact(oa.bk.rc rfl)),?_⟩;obtain⟨J,mb,hp⟩:=zqp hp;refine(ha200.sub (Sub.trans g.fs I)).2 _ _ _ _ _ (Sub.refl _) ma.pre  mb fun Ac ob=>?_;obtain⟨pb,u⟩:=ma.call ob h;have qb:=jb.k u;have rb:=na.k u;have sb:=kb.k u;have N:=oa.k u;have c:=c.k u;have Ca:=Ba.k u;refine⟨_,rfl,(by rw[show cmC _=true from zoU (c.noFn)]; exact(N.bk.rc rfl)),?_⟩;obtain⟨tb,hp⟩:=zqq hp;intro Bc pa;refine⟨(by rw[show cmC _=true from zoU (c.noFn)]; exact(N.bk.ext (Bk.new pa).2).rc rfl),?_⟩;obtain⟨O,ub,qc,vb,wb,B,P⟩:=c.app' zvc pb (a:=J) (show Rp.rep (α:=Int) o _ J from rfl) tb pa;have xb:=qb.k B;have yb:=rb.k B;have zb:=sb.k B;have Ab:=N.k B;have Da:=Ca.k B;refine⟨O,ub,vb,?_⟩;obtain⟨Bb,Cb,Db,D,Eb⟩:=Ab.sto wb [O];have Fb:=xb.k D;have Gb:=yb.k D;have Hb:=zb.k D;have P:=P.k D;have Ea:=Da.k D;refine⟨Bb,Cb,?_⟩;exact ya .nrm ((d++[J]),O) _ _ _ _ Db ⟨Fb,Gb,Hb,Eb,P⟩ Ea Aa hp
 ·intro st F n Y Ib sc hA hp;obtain⟨d,z⟩:=st
  replace hp:ztP w q [] d=some rz:=hp
  obtain⟨p,r,i,e,c⟩:=hA
  replace p:Lb (Fm.of m) F n Y 1 m.nxt 10 [ca100,ca101,Il w.s.Treaty.Lo,Il w.s.Treaty.Hi,Il w.s.Reserve,.bool w.asked.b0,.bool w.asked.b1,.bool w.asked.b2,.bool w.asked.b3,.bool w.asked.b4]:=p
  replace r:Lb (Fm.of m) F n Y 2 m0.nxt 1 [ca200]:=r
  replace i:Lb (Fm.of m) F n Y 3 m1.nxt 2 [Il 0,Il 0]:=i
  replace e:Lb (Fm.of m) F n Y 4 m2.nxt 1 [z]:=e
  replace c:Ow (Fm.of m) F n Y 6 z d:=c
  rw[ztP] at hp;refine⟨_,e.bk.rc rfl,?_⟩;obtain⟨tc,qa,sa,S⟩:=c.freeze Ib;have Jb:=i.k sa;have ta:=e.k sa;obtain⟨Kb,Nb,hp⟩:=zqp hp;refine zv7 (l:=d) qa.pre S Nb fun Cc Ob=>?_;obtain⟨ua,va⟩:=qa.call Ob n;have Pb:=Jb.k va;have Qb:=ta.k va;refine⟨_,rfl,_,Qb.bk.rc rfl,(by rw[show cmC _=true from zoU (S.noFn)]; exact(ta.bk.rc rfl)),?_⟩;obtain⟨Rb,Sb,hp⟩:=zqp hp;refine zv8 (l:=d) ua.pre S Sb fun Dc Tb=>?_;obtain⟨Ub,Vb⟩:=ua.call Tb n;have Wb:=Pb.k Vb;refine⟨_,rfl,?_⟩;obtain⟨Xb,Yb,Zb,uc,ac⟩:=Wb.sto Ub [Il Kb,Il Rb];refine⟨Xb,Yb,?_⟩;refine⟨_,_,ac.bk.ra,?_⟩;obtain rfl:=oi hp;exact hq _ Zb.ext'
 ·intro id st _ _ _ _ _ _ hn; first | exact hn.elim | (cases hn)
 ·intro st _ _ _ _ _ _ hn; first | exact hn.elim | (cases hn)
theorem zwa{w:Wk}{ca100 ca101:C}{m f:M}{Q:V->M->Prop}{rz:Int}(hS:Pre f m)(ha100:Sl f ca100 w.s.Members)(ha101:Sl f ca101 w.s.Losses)(hp:ztR w=some rz)(hq:∀m',Ext m m'->Q (.c (Il rz)) m'):Wc prog tbl 77 [.agg 10 [ca100,ca101,Il w.s.Treaty.Lo,Il w.s.Treaty.Hi,Il w.s.Reserve,.bool w.asked.b0,.bool w.asked.b1,.bool w.asked.b2,.bool w.asked.b3,.bool w.asked.b4]] m Q:=by
 have u:=hS.st;obtain⟨y,_⟩:=zr4;refine w77 ?_;unfold ztR at hp;intro A g;obtain⟨h,d,o,i⟩:=u.blk g y 1;refine⟨_,_,_,_,_,_,_,_,_,_,i.bk.ra,?_⟩
 have e:zu5 f ((C.fn (Fn.func 63) [] [])) (fun a=>ztw a):=by
  refine⟨rfl,?_⟩;intro f' m' a r Q hs hpre  hg hq;exact zvV hpre  hg hq
 obtain⟨p,j,hp⟩:=zqp hp;refine zv9 (w:=w) (q:=({ ask:=(fun a=>ztw a) }:Qu)) d.pre ha100 ha101 e j fun z l=>?_;obtain⟨n,t⟩:=d.call l h;refine⟨_,_,rfl,?_⟩;obtain rfl:=oi hp;exact hq _ n.ext'
theorem zwb{w:Wk}{rate:Int}{ca100 ca101:C}{m f:M}{Q:V->M->Prop}{rz:Int}(hS:Pre f m)(ha100:Sl f ca100 w.s.Members)(_ha101:Sl f ca101 w.s.Losses)(hp:ztT w rate=some rz)(hq:∀m',Ext m m'->Q (.c (Il rz)) m'):Wc prog tbl 100 [.agg 10 [ca100,ca101,Il w.s.Treaty.Lo,Il w.s.Treaty.Hi,Il w.s.Reserve,.bool w.asked.b0,.bool w.asked.b1,.bool w.asked.b2,.bool w.asked.b3,.bool w.asked.b4],.c (Il rate)] m Q:=by
 have S0:=hS.st;obtain⟨τ0,_⟩:=zr4;refine zuq ?_;unfold ztT at hp;intro m0 t;obtain⟨u,y,na,a⟩:=S0.blk t τ0 1;refine⟨trivial,trivial,_,a.bk.rc rfl,ha100.isSl,?_⟩;intro R2 ma
 have hgo:∀(d:Nat) (z:Int) (A:Int) (q:M) (e:Nat->Nat),St (Fm.of m) f f q->Lb (Fm.of m) f e q 1 m.nxt 10 [ca100,ca101,Il w.s.Treaty.Lo,Il w.s.Treaty.Hi,Il w.s.Reserve,.bool w.asked.b0,.bool w.asked.b1,.bool w.asked.b2,.bool w.asked.b3,.bool w.asked.b4]->ztS w rate d z A=some rz->R2 [.c (Il z),.c (Il A)] q:=by
  intro d
  induction d with
  | zero=>intro z A q e g a hp; cases hp
  | succ d la=>
   intro z A q e g a hp;refine ma _ _ _ ?_;rw[ztS] at hp
   try rw[ha100.slLen]
   refine ifd hp (fun B hp=>?_) fun B hp=>?_; rotate_left
   ·obtain rfl:=oi hp;exact hq _ g.ext'
   obtain⟨h,i,hp⟩:=zqp hp;obtain⟨n6,r,l,i⟩:=zqj i;obtain⟨_,D⟩:=zr8 ha100 i;refine⟨n6,r,(by first|exact l|(rw[ha100.slLen];exact l)),_,_,_,(D _ g.sub).1,?_⟩;intro ua F;obtain⟨n,G,I,J⟩:=g.blk F e 2;have N:=a.k I;obtain⟨O,P,o,S,j⟩:=J.sto G [Il h.Sum,Il h.Class,Il h.Most];have T:=N.k S;refine⟨O,P,?_⟩;refine⟨_,_,_,j.bk.ra,?_⟩;obtain⟨oa,Y,hp⟩:=zqp hp;refine zvY (m_:=h) o.pre  Y fun va Z=>?_;obtain⟨aa,p⟩:=o.call Z n;have ba:=T.k p;have ca:=j.k p;refine⟨_,rfl,?_⟩;refine gdi hp fun da hp=>?_;refine gdi hp fun ea hp=>?_;refine gdi hp fun fa hp=>?_;refine gdi hp fun ga hp=>?_;refine gdi hp fun ha hp=>?_;obtain⟨ia,hp⟩:=zqq hp;refine⟨ia,trivial,_,ca.bk.rc rfl,(j.bk.rc rfl),?_⟩;refine gdi hp fun ja hp=>?_;refine gdi hp fun ka hp=>?_;exact la _ _ _ n aa ba hp
 exact hgo _ _ _ _ u y a hp
theorem zwc{w:Wk}{rate:Int}{ca100 ca101:C}{m f:M}{Q:V->M->Prop}{rz:Bool}(hS:Pre f m)(ha100:Sl f ca100 w.s.Members)(ha101:Sl f ca101 w.s.Losses)(hp:ztU w rate=some rz)(hq:∀m',Ext m m'->Q (.c (.bool rz)) m'):Wc prog tbl 76 [.agg 10 [ca100,ca101,Il w.s.Treaty.Lo,Il w.s.Treaty.Hi,Il w.s.Reserve,.bool w.asked.b0,.bool w.asked.b1,.bool w.asked.b2,.bool w.asked.b3,.bool w.asked.b4],.c (Il rate)] m Q:=by
 have z:=hS.st;obtain⟨A,_⟩:=zr4;refine w76 ?_;unfold ztU at hp;intro F h;obtain⟨d,e,r,a⟩:=z.blk h A 1;refine⟨_,_,_,_,_,_,_,_,_,_,a.bk.ra,?_⟩;obtain⟨t,i,hp⟩:=zqp hp;refine zwb (w:=w) (rate:=rate) e.pre ha100 ha101 i fun B j=>?_;obtain⟨g,l⟩:=e.call j d;have n:=a.k l;refine⟨_,rfl,_,_,_,_,_,_,_,_,_,_,n.bk.ra,(by rw[show zaL cmC _=true from zoV (zqs ha100.noFn (zqs ha101.noFn (zqs rfl (zqs rfl (zqs rfl (zqs rfl (zqs rfl (zqs rfl (zqs rfl (zqs rfl zqt))))))))))]; exact(a.bk.ra)),?_⟩;obtain⟨u,o,hp⟩:=zqp hp;refine zwa (w:=w) g.pre ha100 ha101 o fun D p=>?_;obtain⟨q,y⟩:=g.call p d;refine⟨_,rfl,?_⟩;obtain rfl:=oi hp;exact hq _ q.ext'
theorem zwd{s:Soc}{l:List Int}{ca100 ca101 ca200:C}{m f:M}{Q:V->M->Prop}{rz:Bool}(hS:Pre f m)(ha100:Sl f ca100 s.Members)(ha101:Sl f ca101 s.Losses)(ha200:Sl f ca200 l)(hp:ztV s l=some rz)(hq:∀m',Ext m m'->Q (.c (.bool rz)) m'):Wc prog tbl 79 [.agg 5 [ca100,ca101,Il s.Treaty.Lo,Il s.Treaty.Hi,Il s.Reserve],.c ca200] m Q:=by
 have O:=hS.st;obtain⟨P,_⟩:=zr4;refine w79 ?_;unfold ztV at hp;intro T i;obtain⟨d,e,D,j⟩:=O.blk i P 1;refine⟨_,_,_,_,_,j.bk.ra,?_⟩;obtain⟨n,o,hp⟩:=zqp hp;refine zvL (s:=s) (out:=l) e.pre ha100 ha101 ha200 o fun Y p F G t u y=>?_;obtain⟨g,I⟩:=e.callG t d;refine⟨_,_,_,_,_,_,_,_,_,_,rfl,?_⟩
 have h:zu5 p ((C.fn (Fn.func 70) [] [])) (fun a=>ztx a):=by
  refine⟨rfl,?_⟩;intro f' m' a r Q hs hpre  hg hq;exact zvW hpre  hg hq
 obtain⟨J,z,hp⟩:=zqp hp;refine zv9 (w:=n) (q:=({ ask:=(fun a=>ztx a) }:Qu)) g.pre u y h z fun S A=>?_;obtain⟨B,N⟩:=g.call A d;refine⟨_,_,rfl,?_⟩;obtain rfl:=oi hp;exact hq _ B.ext'
theorem zwe{n:Int}{p:Int->Option (Bool)}{ca200:C}{m f:M}{Q:V->M->Prop}{rz:Int}(hS:Pre f m)(ha200:zu8 f ca200 p)(hp:ztX n p=some rz)(hq:∀m',Ext m m'->Q (.c (Il rz)) m'):Wc prog tbl 75 [.c (Il n),.c ca200] m Q:=by
 have G:=hS.st;obtain⟨I,_⟩:=zr4;refine w75 ?_;unfold ztX at hp;intro J B
 have hgo:∀(d:Nat) (i:Int) (j:Int) (l:M) (a:Nat->Nat),St (Fm.of m) f f l->ztW p d i j=some rz->J [.c (Il i),.c (Il j)] l:=by
  intro d
  induction d with
  | zero=>intro i j l a e hp; cases hp
  | succ d h=>
   intro i j l a e hp;refine B _ _ _ ?_;rw[ztW] at hp;refine ifd hp (fun o hp=>?_) fun o hp=>?_; rotate_left
   ·obtain rfl:=oi hp;exact hq _ e.ext'
   refine gdi hp fun q hp=>?_;refine gdi hp fun r hp=>?_;refine gdi hp fun s hp=>?_;refine gdi hp fun t hp=>?_;refine gdi hp fun u hp=>?_;obtain⟨D,w,hp⟩:=zqp hp;refine ha200 _ _ _ _ _ (Sub.refl _) e.pre  w fun N y=>?_;obtain⟨g,F⟩:=e.call y a;refine⟨_,rfl,?_⟩;refine zq1 hp (fun z hp=>?_) fun z hp=>?_; rotate_left
   ·exact h _ _ _ a g hp
   refine gdi hp fun A hp=>?_;exact h _ _ _ a g hp
 exact hgo _ _ _ _ I G hp
theorem zwf{s:Soc}{ca100 ca101:C}{m f:M}{Q:V->M->Prop}{rz:Rg × Int}(hS:Pre f m)(ha100:Sl f ca100 s.Members)(ha101:Sl f ca101 s.Losses)(hp:ztY s=some rz)(hq:∀m',Ext m m'->Q (.tup [.agg 2 [Il rz.1.Lo,Il rz.1.Hi],.c (Il rz.2)]) m'):Wc prog tbl 23 [.agg 5 [ca100,ca101,Il s.Treaty.Lo,Il s.Treaty.Hi,Il s.Reserve]] m Q:=by
 have S0:=hS.st;obtain⟨τ0,_⟩:=zr4;refine w23 ?_;unfold ztY at hp;intro m0 n;obtain⟨o,p,wa,t⟩:=S0.blk n τ0 1;intro m1 u;obtain⟨g,h,y,z⟩:=p.blk u o 2;have A:=t.k y;refine⟨_,_,_,_,_,A.bk.ra,?_⟩;obtain⟨a,B,hp⟩:=zqp hp;refine zvM (s:=s) (out:=[]) h.pre ha100 ha101 (Sl.nil _) B fun m8 D F G I J N=>?_;obtain⟨O,P⟩:=h.callG I g;have S:=z.k P;refine⟨_,_,_,_,_,_,_,_,_,_,_,rfl,?_⟩;intro Ba T;obtain⟨Y,Z,aa,ba⟩:=O.blk T g 3;have ca:=S.k aa;obtain⟨da,ea,e,fa,ga⟩:=ba.sto Z [F,G,Il a.1.s.Treaty.Lo,Il a.1.s.Treaty.Hi,Il a.1.s.Reserve,.bool a.1.asked.b0,.bool a.1.asked.b1,.bool a.1.asked.b2,.bool a.1.asked.b3,.bool a.1.asked.b4];have i:=ca.k fa;refine⟨da,ea,?_⟩;refine zqZ hp (fun ha hp=>?_) fun ha hp=>?_
 ·obtain⟨ia,ja,ka,xa,la⟩:=i.sto e [Il 0,Il 0];refine⟨ia,ja,?_⟩;refine⟨_,_,la.bk.ra,?_⟩;obtain rfl:=oi hp;exact hq _ ka.ext'
 refine⟨_,_,_,_,_,_,_,_,_,_,ga.bk.ra,?_⟩
 have l:zu5 D ((C.fn (Fn.func 63) [] [])) (fun d=>ztw d):=by
  refine⟨rfl,?_⟩;intro f' m' d r Q hs hpre  hg hq;exact zvV hpre  hg hq
 obtain⟨j,ma,hp⟩:=zqp hp;refine zv9 (w:=a.1) (q:=({ ask:=(fun d=>ztw d) }:Qu)) e.pre J N l ma fun Ca na=>?_;obtain⟨oa,pa⟩:=e.call na Y;have qa:=i.k pa;refine⟨_,_,rfl,?_⟩;obtain⟨sa,ta,ua,ya,va⟩:=qa.sto oa [Il j.Lo,Il j.Hi];refine⟨sa,ta,?_⟩;refine⟨_,_,va.bk.ra,?_⟩;obtain rfl:=oi hp;exact hq _ ua.ext'
theorem zwg{l:List Int}{ca100:C}{m f:M}{Q:V->M->Prop}{rz:List Int}(hS:Pre f m)(ha100:Sl f ca100 l)(hp:ztZ l=some rz)(hq:∀m' f' c0,Grw m f m' f'->On m f' m' c0 rz->Q (.c c0) m'):Wc prog tbl 69 [.c ca100] m Q:=by
 have q:=hS.st;obtain⟨r,_⟩:=zr4;refine w69 ?_;unfold ztZ at hp;refine⟨(zry ha100),(zry ha100),trivial,(Bool.or_true _),?_⟩
 cases d:zl9 ca100 with
 | true=>
  refine zq3 ?_;obtain rfl:=zrx ha100 d;obtain⟨_,hp⟩:=zqq hp;obtain rfl:=oi hp;exact hq _ _ .sl0 q.grw (Ow.nil _ _ r _ 0).on
 | false=>
  refine zq2 ?_;intro y e;obtain⟨s,g,t,h⟩:=Ow.lit0 (α:=Int) q r 1 e;obtain⟨i,hp⟩:=zqq hp;obtain⟨a,j,u,n,o,w,p⟩:=h.appL zvc g ha100 i;refine⟨a,j,n,?_⟩;obtain rfl:=oi hp;exact hq _ f a o.grw p.on
theorem zwh{s:Soc}{need:Int}{ca100 ca101:C}{m f:M}{Q:V->M->Prop}{rz:List Int × Int × Int}(hS:Pre f m)(ha100:Sl f ca100 s.Members)(ha101:Sl f ca101 s.Losses)(hp:zt0 s need=some rz)(hq:∀m' f' c0,Grw m f m' f'->Sl f' c0 rz.1->Q (.tup [.c c0,.c (Il rz.2.1),.c (Il rz.2.2)]) m'):Wc prog tbl 30 [.agg 5 [ca100,ca101,Il s.Treaty.Lo,Il s.Treaty.Hi,Il s.Reserve],.c (Il need)] m Q:=by
 have S0:=hS.st;obtain⟨τ0,_⟩:=zr4;refine w30 ?_;unfold zt0 at hp;intro m0 F;obtain⟨y,z,Xa,A⟩:=S0.blk F τ0 1;refine⟨_,_,_,_,_,A.bk.ra,?_⟩;obtain⟨d,G,hp⟩:=zqp hp;refine zvM (s:=s) (out:=[]) z.pre ha100 ha101 (Sl.nil _) G fun m7 B I J N O P=>?_;obtain⟨S,T⟩:=z.callG N y;have Y:=A.k T;refine⟨_,_,_,_,_,_,_,_,_,_,_,rfl,?_⟩;intro ib Z;obtain⟨g,aa,ba,ca⟩:=S.blk Z y 2;have da:=Y.k ba;obtain⟨ea,fa,h,ga,ha⟩:=ca.sto aa [I,J,Il d.1.s.Treaty.Lo,Il d.1.s.Treaty.Hi,Il d.1.s.Reserve,.bool d.1.asked.b0,.bool d.1.asked.b1,.bool d.1.asked.b2,.bool d.1.asked.b3,.bool d.1.asked.b4];have ia:=da.k ga;refine⟨ea,fa,?_⟩;refine zqZ hp (fun ja hp=>?_) fun ja hp=>?_
 ·obtain rfl:=oi hp;exact hq _ B .sl0 h.grw (Sl.nil _)
 obtain⟨Ya,ka,hp⟩:=zqp hp;refine zvn (r:=({ Lo:=(0:Int),Hi:=(300000:Int) }:Rg)) (n:=need) h.pre  ka fun jb la=>?_;obtain⟨p,D⟩:=h.call la g;have ma:=ia.k D;have na:=ha.k D;refine⟨_,rfl,?_⟩;refine zq1 hp (fun oa hp=>?_) fun oa hp=>?_
 ·obtain rfl:=oi hp;exact hq _ B .sl0 p.grw (Sl.nil _)
 refine⟨_,_,_,_,_,_,_,_,_,_,na.bk.ra,?_⟩;obtain⟨a,pa,hp⟩:=zqp hp;refine zv4 (w:=d.1) (need:=need) p.pre O P pa fun kb qa=>?_;obtain⟨sa,ta⟩:=p.call qa g;have ua:=ma.k ta;refine⟨_,_,_,_,_,_,rfl,?_⟩;intro mb va;obtain⟨wa,xa,ya,za⟩:=sa.blk va g 3;have Aa:=ua.k ya;obtain⟨Ba,Ca,Da,Ea,Fa⟩:=za.sto xa [Il a.need,Il a.calls.p0,Il a.calls.p1,Il a.calls.p2,Il a.calls.p3,Il a.calls.p4];have Ga:=Aa.k Ea;refine⟨Ba,Ca,?_⟩;refine⟨trivial,trivial,_,Ga.bk.rc rfl,ha100.isSl,?_⟩
 try rw[ha100.slLen]
 obtain⟨Za,q,ab,e⟩:=Fa.freeze Da;obtain⟨bb,hp⟩:=zqq hp;obtain⟨Ha,Ia,Ja⟩:=Bk.arS (α:=Int) (o:=1) (l:=([a.calls.p0,a.calls.p1,a.calls.p2,a.calls.p3,a.calls.p4]:List Int)) (i:=Int.toNat (0:Int)) (j:=Int.toNat (s.Members.length:Int)) e rfl (Nat.le_of_ble_eq_true rfl) (Go.Abs.zrf _ ([a.calls.p0,a.calls.p1,a.calls.p2,a.calls.p3,a.calls.p4]:List Int)) (by omega) (by show Int.toNat (s.Members.length:Int)<=5; omega);refine⟨Int.toNat (0:Int),Int.toNat (s.Members.length:Int),rfl,(show(s.Members.length:Int)=((Int.toNat (s.Members.length:Int):Nat):Int) by omega),Ha,Ia,?_⟩;obtain⟨cb,Ka,hp⟩:=zqp hp;refine zwg (l:=((([a.calls.p0,a.calls.p1,a.calls.p2,a.calls.p3,a.calls.p4]:List Int).take (Int.toNat (s.Members.length:Int))).drop (Int.toNat (0:Int)))) q.pre Ja Ka fun ob db La Ma Na=>?_;obtain⟨Oa,t,Pa,u⟩:=q.callO Ma Na wa 4;refine⟨_,rfl,_,_,_,_,_,_,(e.sub (Sub.trans Pa.fs t.sub)).ra,((e.sub q.sub).ra),?_⟩;obtain⟨eb,Qa,hp⟩:=zqp hp;refine zvW (o:=a) t.pre  Qa fun pb Ra=>?_;obtain⟨Sa,Ta⟩:=t.call Ra Oa;have u:=u.k Ta;refine⟨_,rfl,?_⟩;obtain⟨Ua,Va,fb,Wa⟩:=u.freeze Sa;obtain rfl:=oi hp;exact hq _ Ua La Va.grw Wa
theorem zwi{s:Soc}{out:List Int}{ca100 ca101 ca200:C}{m f:M}{Q:V->M->Prop}{rz:List Rg × Int}(hS:Pre f m)(ha100:Sl f ca100 s.Members)(ha101:Sl f ca101 s.Losses)(ha200:Sl f ca200 out)(hp:zt2 s out=some rz)(hq:∀m' f' c0,Grw m f m' f'->Sl f' c0 rz.1->Q (.tup [.c c0,.c (Il rz.2)]) m'):Wc prog tbl 39 [.agg 5 [ca100,ca101,Il s.Treaty.Lo,Il s.Treaty.Hi,Il s.Reserve],.c ca200] m Q:=by
 have S0:=hS.st;obtain⟨τ0,_⟩:=zr4;refine w39 ?_;unfold zt2 at hp;intro m0 aa;obtain⟨B,D,Ta,F⟩:=S0.blk aa τ0 1;refine⟨_,_,_,_,_,F.bk.ra,?_⟩;obtain⟨d,ba,hp⟩:=zqp hp;refine zvM (s:=s) (out:=out) D.pre ha100 ha101 ha200 ba fun m7 u G I ca J N=>?_;obtain⟨da,ea⟩:=D.callG ca B;have fa:=F.k ea;refine⟨_,_,_,_,_,_,_,_,_,_,_,rfl,?_⟩;intro Za ga;obtain⟨ha,ia,ja,ka⟩:=da.blk ga B 2;have la:=fa.k ja;obtain⟨ma,na,O,oa,j⟩:=ka.sto ia [G,I,Il d.1.s.Treaty.Lo,Il d.1.s.Treaty.Hi,Il d.1.s.Reserve,.bool d.1.asked.b0,.bool d.1.asked.b1,.bool d.1.asked.b2,.bool d.1.asked.b3,.bool d.1.asked.b4];have l:=la.k oa;refine⟨ma,na,?_⟩;refine zqZ hp (fun pa hp=>?_) fun pa hp=>?_
 ·obtain rfl:=oi hp;exact hq _ u .sl0 O.grw (Sl.nil _)
 refine⟨trivial,_,l.bk.rc rfl,ha100.isSl,?_⟩;intro Sa Ra
 have hgo:∀(o:Nat) (z:C) (A:Int) (p:List Rg) (t:M) (e:M) (g:Nat->Nat),St (Fm.of m) f e t->Sub u e->Lb (Fm.of m) e g t 1 m.nxt 5 [ca100,ca101,Il s.Treaty.Lo,Il s.Treaty.Hi,Il s.Reserve]->Lb (Fm.of m) e g t 2 m7.nxt 10 [G,I,Il d.1.s.Treaty.Lo,Il d.1.s.Treaty.Hi,Il d.1.s.Reserve,.bool d.1.asked.b0,.bool d.1.asked.b1,.bool d.1.asked.b2,.bool d.1.asked.b3,.bool d.1.asked.b4]->Ow (Fm.of m) e g t 3 z p->zt1 s d o p A=some rz->Sa [.c z,.c (Il A)] t:=by
  intro o
  induction o with
  | zero=>intro z A p t e g r n l j h hp; cases hp
  | succ o qa=>
   intro z A p t e g r n l j h hp;refine Ra _ _ _ ?_;rw[zt1] at hp
   try rw[ha100.slLen]
   refine ifd hp (fun sa hp=>?_) fun sa hp=>?_; rotate_left
   ·obtain⟨ta,ua,Ua,va⟩:=h.freeze r;obtain rfl:=oi hp;exact hq _ ta z ua.grw va
   refine⟨_,_,_,_,_,_,_,_,_,_,j.bk.ra,?_⟩;obtain⟨wa,xa,hp⟩:=zqp hp;refine zv6 (member:=A) r.pre  xa fun ab P Va ya za=>?_;obtain⟨S,i⟩:=r.callG ya g;have Aa:=l.k i;have T:=j.k i;have h:=h.k i;refine⟨_,rfl,(by rw[show zaL cmC _=true from zoV (zqs J.noFn (zqs N.noFn (zqs rfl (zqs rfl (zqs rfl (zqs rfl (zqs rfl (zqs rfl (zqs rfl (zqs rfl zqt))))))))))]; exact(T.bk.ra)),?_⟩;obtain⟨Y,Ba,hp⟩:=zqp hp;refine zv9 (w:=d.1) (q:=({ ask:=wa }:Qu)) S.pre (J.sub (Sub.trans n i.fs)) (N.sub (Sub.trans n i.fs)) za Ba fun bb Ca=>?_;obtain⟨Da,y⟩:=S.call Ca g;have Ea:=Aa.k y;have Fa:=T.k y;have h:=h.k y;refine⟨_,_,rfl,?_⟩;obtain⟨Ga,hp⟩:=zqq hp;intro cb Ha;obtain⟨Ia,Ja,Ka,La,Ma,Z,Na⟩:=h.app' zvd Da (a:=Y) (show Rp.rep (α:=Rg) P _ Y from rfl) Ga Ha;have Oa:=Ea.k Z;have Pa:=Fa.k Z;refine⟨Ia,Ja,La,?_⟩;refine gdi hp fun Qa hp=>?_;exact qa _ _ _ _ P Ka Ma (Sub.trans n i.fs) Oa Pa Na hp
 exact hgo _ _ _ _ _ u ha O (Sub.refl _) l j (Ow.nil _ _ _ _ _) hp
theorem zwj{s:Soc}{ca100 ca101:C}{m f:M}{Q:V->M->Prop}{rz:List Rg × Int}(hS:Pre f m)(ha100:Sl f ca100 s.Members)(ha101:Sl f ca101 s.Losses)(hp:zt3 s=some rz)(hq:∀m' f' c0,Grw m f m' f'->Sl f' c0 rz.1->Q (.tup [.c c0,.c (Il rz.2)]) m'):Wc prog tbl 37 [.agg 5 [ca100,ca101,Il s.Treaty.Lo,Il s.Treaty.Hi,Il s.Reserve]] m Q:=by
 have t:=hS.st;obtain⟨u,_⟩:=zr4;refine w37 ?_;unfold zt3 at hp;intro w d;obtain⟨e,a,p,g⟩:=t.blk d u 1;refine⟨_,_,_,_,_,g.bk.ra,?_⟩;obtain⟨q,h,hp⟩:=zqp hp;refine zwi (s:=s) (out:=[]) a.pre ha100 ha101 (Sl.nil _) h fun y i j l n=>?_;obtain⟨o,r⟩:=a.callG l e;refine⟨_,_,rfl,?_⟩;obtain rfl:=oi hp;exact hq _ i j o.grw n
theorem zwk{s:Soc}{ca100 ca101:C}{m f:M}{Q:V->M->Prop}{rz:Int × Int}(hS:Pre f m)(ha100:Sl f ca100 s.Members)(ha101:Sl f ca101 s.Losses)(hp:zt5 s=some rz)(hq:∀m',Ext m m'->Q (.tup [.c (Il rz.1),.c (Il rz.2)]) m'):Wc prog tbl 44 [.agg 5 [ca100,ca101,Il s.Treaty.Lo,Il s.Treaty.Hi,Il s.Reserve]] m Q:=by
 have S0:=hS.st;obtain⟨τ0,_⟩:=zr4;refine w44 ?_;unfold zt5 at hp;intro m0 u;obtain⟨i,j,ca,w⟩:=S0.blk u τ0 1;refine⟨_,_,_,_,_,w.bk.ra,?_⟩;obtain⟨a,y,hp⟩:=zqp hp;refine zvM (s:=s) (out:=[]) j.pre ha100 ha101 (Sl.nil _) y fun m7 z e g A l o=>?_;obtain⟨B,da⟩:=j.callG A i;refine⟨_,_,_,_,_,_,_,_,_,_,_,rfl,?_⟩;intro ka D;obtain⟨F,G,ea,I⟩:=B.blk D i 2;obtain⟨J,N,h,fa,O⟩:=I.sto G [e,g,Il a.1.s.Treaty.Lo,Il a.1.s.Treaty.Hi,Il a.1.s.Reserve,.bool a.1.asked.b0,.bool a.1.asked.b1,.bool a.1.asked.b2,.bool a.1.asked.b3,.bool a.1.asked.b4];refine⟨J,N,?_⟩;refine zqZ hp (fun P hp=>?_) fun P hp=>?_
 ·obtain rfl:=oi hp;exact hq _ h.ext'
 refine⟨_,_,_,_,_,_,_,_,_,_,O.bk.ra,?_⟩;obtain⟨Z,aa,ba⟩:∃ws,zaE vW [.agg 10 [e,g,Il a.1.s.Treaty.Lo,Il a.1.s.Treaty.Hi,Il a.1.s.Reserve,.bool a.1.asked.b0,.bool a.1.asked.b1,.bool a.1.asked.b2,.bool a.1.asked.b3,.bool a.1.asked.b4]]=some ws/\zbZ wV ws=[.agg 10 [e,g,Il a.1.s.Treaty.Lo,Il a.1.s.Treaty.Hi,Il a.1.s.Reserve,.bool a.1.asked.b0,.bool a.1.asked.b1,.bool a.1.asked.b2,.bool a.1.asked.b3,.bool a.1.asked.b4]]:=(zqy (zqw (zqs l.noFn (zqs o.noFn (zqs rfl (zqs rfl (zqs rfl (zqs rfl (zqs rfl (zqs rfl (zqs rfl (zqs rfl zqt))))))))))) zqx);rw[aa,zd6]
 have t:zu8 z ((C.fn (Fn.func 76) Z [])) (fun d=>ztU a.1 d):=by
  intro f' m' d r Q hs hpre  hg hq
  show Wc prog tbl 76 (appS (zbZ wV Z) _) m' Q
  rw[ba];exact zwc hpre (l.sub hs) (o.sub hs) hg hq
 obtain⟨ga,S,hp⟩:=zqp hp;refine zwe (n:=(10001:Int)) (p:=(fun d=>ztU a.1 d)) h.pre t S fun la T=>?_;obtain⟨q,ha⟩:=h.call T F;refine⟨_,rfl,?_⟩;refine ifd hp (fun Y hp=>?_) fun Y hp=>?_
 ·obtain rfl:=oi hp;exact hq _ q.ext'
 obtain rfl:=oi hp;exact hq _ q.ext'
theorem zwl{s:Soc}{ca100 ca101:C}{m f:M}{Q:V->M->Prop}{rz:List Int × Int}(hS:Pre f m)(ha100:Sl f ca100 s.Members)(ha101:Sl f ca101 s.Losses)(hp:zt6 s=some rz)(hq:∀m' f' c0,Grw m f m' f'->Sl f' c0 rz.1->Q (.tup [.c c0,.c (Il rz.2)]) m'):Wc prog tbl 45 [.agg 5 [ca100,ca101,Il s.Treaty.Lo,Il s.Treaty.Hi,Il s.Reserve]] m Q:=by
 have S0:=hS.st;obtain⟨τ0,_⟩:=zr4;refine w45 ?_;unfold zt6 at hp;intro m0 u;obtain⟨j,l,sa,o⟩:=S0.blk u τ0 1;refine⟨_,_,_,_,_,o.bk.ra,?_⟩;obtain⟨a,y,hp⟩:=zqp hp;refine zvM (s:=s) (out:=[]) l.pre ha100 ha101 (Sl.nil _) y fun m7 e z A B D F=>?_;obtain⟨G,g⟩:=l.callG B j;have I:=o.k g;refine⟨_,_,_,_,_,_,_,_,_,_,_,rfl,?_⟩;intro za J;obtain⟨p,N,O,P⟩:=G.blk J j 2;have S:=I.k O;obtain⟨T,Y,h,Z,aa⟩:=P.sto N [z,A,Il a.1.s.Treaty.Lo,Il a.1.s.Treaty.Hi,Il a.1.s.Reserve,.bool a.1.asked.b0,.bool a.1.asked.b1,.bool a.1.asked.b2,.bool a.1.asked.b3,.bool a.1.asked.b4];have ba:=S.k Z;refine⟨T,Y,?_⟩;refine zqZ hp (fun ca hp=>?_) fun ca hp=>?_
 ·obtain rfl:=oi hp;exact hq _ e .sl0 h.grw (Sl.nil _)
 refine⟨_,_,_,_,_,_,_,_,_,_,aa.bk.ra,?_⟩;obtain⟨ta,da,hp⟩:=zqp hp;refine zwa (w:=a.1) h.pre D F da fun Aa ea=>?_;obtain⟨i,fa⟩:=h.call ea p;have q:=ba.k fa;refine⟨_,rfl,?_⟩;refine ifd hp (fun ga hp=>?_) fun ga hp=>?_
 ·obtain rfl:=oi hp;exact hq _ e .sl0 i.grw (Sl.nil _)
 refine⟨trivial,_,q.bk.rc rfl,ha100.isSl,_,_,_,_,_,q.bk.ra,?_⟩;obtain⟨oa,pa,qa⟩:∃ws,zaE vW [.agg 5 [ca100,ca101,Il s.Treaty.Lo,Il s.Treaty.Hi,Il s.Reserve]]=some ws/\zbZ wV ws=[.agg 5 [ca100,ca101,Il s.Treaty.Lo,Il s.Treaty.Hi,Il s.Reserve]]:=(zqy (zqw (zqs ha100.noFn (zqs ha101.noFn (zqs rfl (zqs rfl (zqs rfl zqt)))))) zqx);rw[pa,zd6]
 try rw[ha100.slLen]
 have t:zuY e ((C.fn (Fn.func 79) oa [])) (fun d=>ztV s d):=by
  intro f' m' d ua r Q hs hpre ha hg hq
  show Wc prog tbl 79 (appS (zbZ wV oa) _) m' Q
  rw[qa];exact zwd hpre ((ha100.sub g.fs).sub hs) ((ha101.sub g.fs).sub hs) ha hg hq
 obtain⟨va,ia,hp⟩:=zqp hp;refine zu4 (n:=(s.Members.length:Int)) (passes:=(fun d=>ztV s d)) i.pre t ia fun Ba ja ka la ma=>?_;obtain⟨na,wa⟩:=i.callG la p;refine⟨_,rfl,?_⟩;obtain rfl:=oi hp;exact hq _ ja ka na.grw ma
theorem zwm:TA prog 36 3:=⟨78,by kernel_rfl,by kernel_rfl,by kernel_rfl⟩
theorem zwn{r:Rg}{m f:M}{Q:V->M->Prop}{rz:Rg}(hS:Pre f m)(hp:zt7 r=some rz)(hq:∀m',Ext m m'->Q (.agg 2 [Il rz.Lo,Il rz.Hi]) m'):Wc prog tbl 26 [.agg 2 [Il r.Lo,Il r.Hi]] m Q:=by
 have s:=hS.st;obtain⟨t,_⟩:=zr4;refine w26 ?_;unfold zt7 at hp;intro z c;obtain⟨d,e,u,g⟩:=s.blk c t 1;intro A h;obtain⟨w,i,j,l⟩:=e.blk h d 2;have a:=g.k j;refine⟨trivial,_,a.bk.rc rfl,trivial,_,a.bk.rc rfl,?_⟩;obtain⟨n,o,p,y,q⟩:=l.sto i [Il r.Lo,Il r.Hi];refine⟨n,o,?_⟩;refine⟨_,_,q.bk.ra,?_⟩;obtain rfl:=oi hp;exact hq _ p.ext'
theorem zwo{s:Soc}{ca100 ca101:C}{m f:M}{Q:V->M->Prop}{rz:Soc}(hS:Pre f m)(ha100:Sl f ca100 s.Members)(ha101:Sl f ca101 s.Losses)(hp:zua s=some rz)(hq:∀m' f' c0 c1,Grw m f m' f'->Sl f' c0 rz.Members->Sl f' c1 rz.Losses->Q (.agg 5 [c0,c1,Il rz.Treaty.Lo,Il rz.Treaty.Hi,Il rz.Reserve]) m'):Wc prog tbl 21 [.agg 5 [ca100,ca101,Il s.Treaty.Lo,Il s.Treaty.Hi,Il s.Reserve]] m Q:=by
 have S0:=hS.st;obtain⟨τ0,_⟩:=zr4;refine w21 ?_;unfold zua at hp;intro m0 Na;obtain⟨Oa,Pa,Pc,Qa⟩:=S0.blk Na τ0 1;intro m1 Ra;obtain⟨Sa,Ta,Ua,Va⟩:=Pa.blk Ra Oa 2;have Wa:=Qa.k Ua;intro m2 Xa;obtain⟨xa,ya,za,Ia⟩:=Ta.growK Xa Sa 3;have fa:=Wa.k za;have Ya:=Va.k za;have Za:=Ia 0 (by decide);refine⟨trivial,_,_,fa.bk.rp (k:=2) (j:=2) rfl (by omega),?_⟩;obtain⟨Aa,ab,hp⟩:=zqp hp;refine zwn (r:=s.Treaty) ya.pre  ab fun m6 bb=>?_;obtain⟨cb,ga⟩:=ya.call bb xa;have Ba:=fa.k ga;have db:=Ya.k ga;have eb:=Za.k ga;refine⟨_,_,rfl,trivial,_,Ba.bk.rc rfl,(fa.bk.rc rfl),?_⟩;intro Tc fb;obtain⟨gb,Ca,hb⟩:=eb.set cb fb;have ha:=Ba.k Ca;have ib:=db.k Ca;refine⟨(ha.bk.rc rfl),(ha.bk.rp (k:=2) (j:=2) rfl (by omega)),?_⟩;obtain⟨jb,kb,mb,Da,i⟩:=hb.sto gb [.sl0,.sl0,Il Aa.Lo,Il Aa.Hi,Il s.Reserve];have e:=ha.k Da;have l:=ib.k Da;refine⟨jb,kb,?_⟩;intro Gc ob
 have hgo:∀(S:Nat) (ta:Int) (n:C) (B:C) (u:List Mb) (T:List Rg) (D:Int) (F:Int) (G:Int) (q:M) (o:Nat->Nat),St (Fm.of m) f f q->Lb (Fm.of m) f o q 1 m.nxt 5 [ca100,ca101,Il s.Treaty.Lo,Il s.Treaty.Hi,Il s.Reserve]->Lb (Fm.of m) f o q 2 m0.nxt 5 [.sl0,.sl0,Il 0,Il 0,Il 0]->Lb (Fm.of m) f o q 3 (m1.nxt+0) 5 [n,B,Il D,Il F,Il G]->Ow (Fm.of m) f o q 4 n u->Ow (Fm.of m) f o q 5 B T->zt9 s S u T D F G ta=some rz->Gc [.c (Il ta)] q:=by
  intro S
  induction S with
  | zero=>intro ta n B u T D F G q o Y e l i d g hp; cases hp
  | succ S Ja=>
   intro ta n B u T D F G q o Y e l i d g hp;refine ob _ _ ?_;rw[zt9] at hp;refine⟨trivial,_,e.bk.rc rfl,ha100.isSl,?_⟩
   try rw[ha100.slLen]
   refine ifd hp (fun pb hp=>?_) fun pb hp=>?_
   ·refine⟨trivial,_,e.bk.rc rfl,?_⟩;obtain⟨I,ia,hp⟩:=zqp hp;obtain⟨Hc,Ka,ua,ia⟩:=zqj ia;obtain⟨_,qb⟩:=zr8 ha100 ia;refine⟨Hc,Ka,(by first|exact ua|(rw[ha100.slLen];exact ua)),_,_,_,(qb _ Y.sub).1,?_⟩;intro Uc rb;obtain⟨Qc,sb,J,tb⟩:=Y.blk rb o 6;have ub:=e.k J;have vb:=l.k J;have wb:=i.k J;have d:=d.k J;have g:=g.k J;obtain⟨xb,yb,zb,N,ja⟩:=tb.sto sb [Il I.Sum,Il I.Class,Il I.Most];have Ab:=ub.k N;have Bb:=vb.k N;have Ea:=wb.k N;have d:=d.k N;have g:=g.k N;refine⟨xb,yb,?_⟩;refine⟨trivial,_,Ea.bk.rc rfl,trivial,_,ja.bk.rc rfl,trivial,_,ja.bk.rc rfl,trivial,_,ja.bk.rc rfl,?_⟩;obtain⟨Cb,hp⟩:=zqq hp;intro Vc Db;obtain⟨ka,Eb,Fb,Gb,Hb,Z,la⟩:=d.app' zwm zb (a:=I) (show Rp.rep (α:=Mb) f _ I from rfl) Cb Db;have Ib:=Ab.k Z;have Jb:=Bb.k Z;have Kb:=Ea.k Z;have g:=g.k Z;refine⟨ka,Eb,Gb,?_⟩;refine⟨trivial,?_⟩;obtain⟨Nb,Ob,Pb,aa,ma⟩:=Kb.sto1 Hb 0 ka (by simp) rfl
    replace ma:Lb _ _ _ _ _ _ _ [ka,B,Il D,Il F,Il G]:=ma
    have Qb:=Ib.k aa;have Rb:=Jb.k aa;have g:=g.k aa;have la:=la.k aa;refine⟨Nb,Ob,?_⟩;refine gdi hp fun Sb hp=>?_;exact Ja _ _ _ _ _ _ _ _ _ Fb Pb Qb Rb ma la g hp
   intro Ic Tb
   have hgo:∀(ba:Nat) (va:Int) (w:C) (ca:List Rg) (y:Int) (z:Int) (A:Int) (t:M) (p:Nat->Nat),St (Fm.of m) f f t->Lb (Fm.of m) f p t 1 m.nxt 5 [ca100,ca101,Il s.Treaty.Lo,Il s.Treaty.Hi,Il s.Reserve]->Lb (Fm.of m) f p t 2 m0.nxt 5 [.sl0,.sl0,Il 0,Il 0,Il 0]->Lb (Fm.of m) f p t 3 (m1.nxt+0) 5 [n,w,Il y,Il z,Il A]->Ow (Fm.of m) f p t 5 w ca->Ow (Fm.of m) f p t 4 n u->zt8 s u ba ca y z A va=some rz->Ic [.c (Il va)] t:=by
    intro ba
    induction ba with
    | zero=>intro va w ca y z A t p O e l i h d hp; cases hp
    | succ ba La=>
     intro va w ca y z A t p O e l i h d hp;refine Tb _ _ ?_;rw[zt8] at hp;refine⟨trivial,_,e.bk.rc rfl,ha101.isSl,?_⟩
     try rw[ha101.slLen]
     refine ifd hp (fun Ub hp=>?_) fun Ub hp=>?_; rotate_left
     ·refine⟨_,_,_,_,_,i.bk.ra,?_⟩;obtain⟨Vb,Wb,Xb,Fa,Yb⟩:=l.sto O [n,w,Il y,Il z,Il A];have d:=d.k Fa;have h:=h.k Fa;refine⟨Vb,Wb,?_⟩;refine⟨_,_,_,_,_,Yb.bk.ra,?_⟩;obtain⟨Rc,Zb,ac,bc⟩:=d.freeze Xb;have h:=h.k ac;obtain⟨cc,dc,ec,fc⟩:=h.freeze Zb;obtain rfl:=oi hp;exact hq _ cc n w dc.grw (bc.sub ec.fs) fc
     refine⟨trivial,_,i.bk.rc rfl,trivial,_,e.bk.rc rfl,?_⟩;obtain⟨gc,na,hp⟩:=zqp hp;obtain⟨Jc,Ma,wa,na⟩:=zqj na;obtain⟨_,hc⟩:=zr6 ha101 na;refine⟨Jc,Ma,(by first|exact wa|(rw[ha101.slLen];exact wa)),_,_,(hc _ O.sub).1,?_⟩;obtain⟨Ga,ic,hp⟩:=zqp hp;refine zwn (r:=gc) O.pre  ic fun Xc jc=>?_;obtain⟨kc,P⟩:=O.call jc p;have nc:=e.k P;have oc:=l.k P;have oa:=i.k P;have d:=d.k P;have h:=h.k P;refine⟨_,_,rfl,(by rw[show cmC _=true from zoU (h.noFn)]; exact(oa.bk.rc rfl)),?_⟩;obtain⟨pc,hp⟩:=zqq hp;intro Yc Ha;refine⟨(by rw[show cmC _=true from zoU (h.noFn)]; exact(oa.bk.ext (Bk.new Ha).2).rc rfl),?_⟩;obtain⟨pa,qc,sc,tc,uc,da,qa⟩:=h.app' zvd kc (a:=Ga) (show Rp.rep (α:=Rg) f _ Ga from rfl) pc Ha;have vc:=nc.k da;have wc:=oc.k da;have xc:=oa.k da;have d:=d.k da;refine⟨pa,qc,tc,?_⟩;refine⟨trivial,?_⟩;obtain⟨yc,zc,Ac,ea,sa⟩:=xc.sto1 uc 1 pa (by simp) rfl
     replace sa:Lb _ _ _ _ _ _ _ [n,pa,Il y,Il z,Il A]:=sa
     have Bc:=vc.k ea;have Cc:=wc.k ea;have d:=d.k ea;have qa:=qa.k ea;refine⟨yc,zc,?_⟩;refine gdi hp fun Dc hp=>?_;exact La _ _ _ _ _ _ _ sc Ac Bc Cc sa qa d hp
   exact hgo _ _ _ _ _ _ _ _ o Y e l i g d hp
 exact hgo _ _ _ _ _ _ _ _ _ _ xa mb e l i (Ow.nil _ _ _ _ _) (Ow.nil _ _ _ _ _) hp
theorem zwp{s:Soc}{ca100 ca101:C}{m f:M}{Q:V->M->Prop}{rz:Bool}(hS:Pre f m)(ha100:Sl f ca100 s.Members)(ha101:Sl f ca101 s.Losses)(hp:zub s=some rz)(hq:∀m',Ext m m'->Q (.c (.bool rz)) m'):Wc prog tbl 18 [.agg 5 [ca100,ca101,Il s.Treaty.Lo,Il s.Treaty.Hi,Il s.Reserve]] m Q:=by
 have h:=hS.st;obtain⟨i,_⟩:=zr4;refine w18 ?_;unfold zub at hp;intro n e;obtain⟨j,a,l,d⟩:=h.blk e i 1;refine⟨trivial,_,d.bk.rc rfl,ha100.isSl,?_⟩
 try rw[ha100.slLen]
 refine ifd hp (fun g hp=>?_) fun g hp=>?_; rotate_left
 ·obtain rfl:=oi hp;exact hq _ a.ext'
 refine⟨trivial,_,d.bk.rc rfl,ha101.isSl,?_⟩
 try rw[ha101.slLen]
 obtain rfl:=oi hp;exact hq _ a.ext'
theorem zwq{s:Soc}{ca100 ca101:C}{m f:M}{Q:V->M->Prop}{rz:Int}(hS:Pre f m)(ha100:Sl f ca100 s.Members)(ha101:Sl f ca101 s.Losses)(hp:zuc s=some rz)(hq:∀m',Ext m m'->Q (.c (Il rz)) m'):Wc prog tbl 24 [.agg 5 [ca100,ca101,Il s.Treaty.Lo,Il s.Treaty.Hi,Il s.Reserve]] m Q:=by
 have l:=hS.st;obtain⟨n,_⟩:=zr4;refine w24 ?_;unfold zuc at hp;intro r d;obtain⟨e,a,o,g⟩:=l.blk d n 1;refine⟨_,_,_,_,_,g.bk.ra,?_⟩;obtain⟨p,h,hp⟩:=zqp hp;refine zvg (s:=s) a.pre ha100 ha101 h fun t i=>?_;obtain⟨j,q⟩:=a.call i e;refine⟨_,rfl,?_⟩;obtain rfl:=oi hp;exact hq _ j.ext'
theorem zwr{low:Int}{high:Int}{m f:M}{Q:V->M->Prop}{rz:Rg}(hS:Pre f m)(hp:zue low high=some rz)(hq:∀m',Ext m m'->Q (.agg 2 [Il rz.Lo,Il rz.Hi]) m'):Wc prog tbl 49 [.c (Il low),.c (Il high)] m Q:=by
 have l:=hS.st;obtain⟨n,_⟩:=zr4;refine w49 ?_;unfold zue at hp;intro r a;obtain⟨o,d,p,e⟩:=l.blk a n 1;obtain⟨g,h,i,q,j⟩:=e.sto d [Il low,Il high];refine⟨g,h,?_⟩;refine⟨_,_,j.bk.ra,?_⟩;obtain rfl:=oi hp;exact hq _ i.ext'
theorem zws{most:Int}{m f:M}{Q:V->M->Prop}{rz:Soc}(hS:Pre f m)(hp:zuf most=some rz)(hq:∀m' f' c0 c1,Grw m f m' f'->Sl f' c0 rz.Members->Sl f' c1 rz.Losses->Q (.agg 5 [c0,c1,Il rz.Treaty.Lo,Il rz.Treaty.Hi,Il rz.Reserve]) m'):Wc prog tbl 48 [.c (Il most)] m Q:=by
 have S0:=hS.st;obtain⟨τ0,_⟩:=zr4;refine w48 ?_;unfold zuf at hp;intro y z;obtain⟨A,B,Ea,D⟩:=S0.blk z τ0 1;intro m1 F;obtain⟨e,i,G,I⟩:=B.blk F A 2;have J:=D.k G;obtain⟨a,N,hp⟩:=zqp hp;refine zwr (low:=(200:Int)) (high:=(210:Int)) i.pre  N fun m3 O=>?_;obtain⟨j,n⟩:=i.call O e;have P:=J.k n;have S:=I.k n;refine⟨_,_,rfl,?_⟩;obtain⟨d,T,hp⟩:=zqp hp;refine zwr (low:=(90:Int)) (high:=(90:Int)) j.pre  T fun Y Z=>?_;obtain⟨aa,o⟩:=j.call Z e;have ba:=P.k o;have ca:=S.k o;refine⟨_,_,rfl,?_⟩;intro Fa da;obtain⟨ea,p,q,fa⟩:=aa.blk da e 3;have ga:=ba.k q;have ha:=ca.k q;obtain⟨r,ia,hp⟩:=zqp hp;refine zwr (low:=(20:Int)) (high:=(25:Int)) p.pre  ia fun Ga ja=>?_;obtain⟨ka,g⟩:=p.call ja ea;have la:=ga.k g;have ma:=ha.k g;have na:=fa.k g;refine⟨_,_,rfl,?_⟩;obtain⟨oa,pa,qa,s,sa⟩:=la.sto ka [(C.sl y.nxt 0 3 0 (Option.some 3)),(C.sl Y.nxt 0 2 0 (Option.some 2)),Il r.Lo,Il r.Hi,(Il (30:Int))];have ta:=ma.k s;have ua:=na.k s;refine⟨oa,pa,?_⟩;refine⟨_,_,_,_,_,sa.bk.ra,?_⟩;obtain⟨t,va,wa,u⟩:=ta.freeze qa;have xa:=ua.k wa;have ya:Sl t (C.sl y.nxt 0 3 0 (Option.some 3)) ([({ Sum:=(100:Int),Class:=(2:Int),Most:=most }:Mb),({ Sum:=(100:Int),Class:=(1:Int),Most:=(60:Int) }:Mb),({ Sum:=(50:Int),Class:=(2:Int),Most:=most }:Mb)]:List Mb):=Bk.sl (α:=Mb) (l:=([({ Sum:=(100:Int),Class:=(2:Int),Most:=most }:Mb),({ Sum:=(100:Int),Class:=(1:Int),Most:=(60:Int) }:Mb),({ Sum:=(50:Int),Class:=(2:Int),Most:=most }:Mb)]:List Mb)) u (show Cat (α:=Mb) t [(Il (100:Int)),(Il (2:Int)),Il most,(Il (100:Int)),(Il (1:Int)),(Il (60:Int)),(Il (50:Int)),(Il (2:Int)),Il most] ([({ Sum:=(100:Int),Class:=(2:Int),Most:=most }:Mb),({ Sum:=(100:Int),Class:=(1:Int),Most:=(60:Int) }:Mb),({ Sum:=(50:Int),Class:=(2:Int),Most:=most }:Mb)]:List Mb) from ⟨[(Il (100:Int)),(Il (2:Int)),Il most],_,rfl,rfl,⟨[(Il (100:Int)),(Il (1:Int)),(Il (60:Int))],_,rfl,rfl,⟨[(Il (50:Int)),(Il (2:Int)),Il most],_,rfl,rfl,rfl⟩⟩⟩) rfl rfl _
 obtain⟨h,za,Aa,w⟩:=xa.freeze va;have Ba:Sl h (C.sl Y.nxt 0 2 0 (Option.some 2)) ([a,d]:List Rg):=Bk.sl (α:=Rg) (l:=([a,d]:List Rg)) w (show Cat (α:=Rg) h [Il a.Lo,Il a.Hi,Il d.Lo,Il d.Hi] ([a,d]:List Rg) from ⟨[Il a.Lo,Il a.Hi],_,rfl,rfl,⟨[Il d.Lo,Il d.Hi],_,rfl,rfl,rfl⟩⟩) rfl rfl _;obtain rfl:=oi hp;exact hq _ h (C.sl y.nxt 0 3 0 (Option.some 3)) (C.sl Y.nxt 0 2 0 (Option.some 2)) za.grw (ya.sub Aa.fs) Ba
theorem zwt{m f:M}{Q:V->M->Prop}{rz:Bool}(hS:Pre f m)(hp:zug=some rz)(hq:∀m',Ext m m'->Q (.c (.bool rz)) m'):Wc prog tbl 19 [] m Q:=by
 have S0:=hS.st;obtain⟨τ0,_⟩:=zr4;refine w19 ?_;unfold zug at hp;obtain⟨Aa,Ba,hp⟩:=zqp hp;refine zws (most:=(500:Int)) S0.pre  Ba fun m1 ud vd wd Ca Da Ea=>?_;obtain⟨J,xd⟩:=S0.callG Ca τ0;refine⟨_,_,_,_,_,rfl,?_⟩;obtain⟨N,Fa,hp⟩:=zqp hp;refine zwf (s:=Aa) J.pre Da Ea Fa fun m8 Ga=>?_;obtain⟨Ha,yd⟩:=J.call Ga τ0;refine⟨_,_,_,rfl,?_⟩;intro Ae Ia;obtain⟨d,Ja,zd,Ka⟩:=Ha.blk Ia τ0 1;obtain⟨La,Ma,O,Ad,Na⟩:=Ka.sto Ja [Il N.1.Lo,Il N.1.Hi];refine⟨La,Ma,?_⟩;obtain⟨Oa,Pa,hp⟩:=zqp hp;refine zws (most:=(500:Int)) O.pre  Pa fun Be Cd Dd Ed Qa Ra Sa=>?_;obtain⟨P,Ta⟩:=O.callG Qa d;have Ua:=Na.k Ta;refine⟨_,_,_,_,_,rfl,?_⟩;obtain⟨Va,Wa,hp⟩:=zqp hp;refine zwh (s:=Oa) (need:=(250:Int)) P.pre Ra Sa Wa fun Ce Fd Gd Xa Ya=>?_;obtain⟨S,Za⟩:=P.callG Xa d;have ab:=Ua.k Za;refine⟨_,_,_,rfl,?_⟩;obtain⟨bb,cb,hp⟩:=zqp hp;refine zws (most:=(500:Int)) S.pre  cb fun De Hd Id Jd db eb fb=>?_;obtain⟨T,Y⟩:=S.callG db d;have gb:=ab.k Y;refine⟨_,_,_,_,_,rfl,?_⟩;obtain⟨Ld,hb,hp⟩:=zqp hp;refine zwj (s:=bb) T.pre eb fb hb fun Ee Md Nd ib i=>?_;obtain⟨Z,aa⟩:=T.callG ib d;have jb:=gb.k aa;refine⟨_,_,rfl,?_⟩;obtain⟨kb,mb,hp⟩:=zqp hp;refine zws (most:=(500:Int)) Z.pre  mb fun Fe Od Pd Qd ob pb qb=>?_;obtain⟨ba,j⟩:=Z.callG ob d;have rb:=jb.k j;refine⟨_,_,_,_,_,rfl,?_⟩;obtain⟨Rd,sb,hp⟩:=zqp hp;refine zwk (s:=kb) ba.pre pb qb sb fun Ge tb=>?_;obtain⟨ca,ub⟩:=ba.call tb d;have vb:=rb.k ub;refine⟨_,_,rfl,?_⟩;obtain⟨wb,xb,hp⟩:=zqp hp;refine zws (most:=(500:Int)) ca.pre  xb fun He Sd Td Ud yb zb Ab=>?_
 obtain⟨da,n⟩:=ca.callG yb d;have Bb:=vb.k n;refine⟨_,_,_,_,_,rfl,?_⟩;obtain⟨Cb,Db,hp⟩:=zqp hp;refine zwl (s:=wb) da.pre zb Ab Db fun Ie Vd Wd Eb Fb=>?_;obtain⟨ea,o⟩:=da.callG Eb d;have Gb:=Bb.k o;refine⟨_,_,rfl,?_⟩;obtain⟨Hb,Ib,hp⟩:=zqp hp;refine zws (most:=(150:Int)) ea.pre  Ib fun Je Xd Yd Zd Jb Kb Nb=>?_;obtain⟨fa,e⟩:=ea.callG Jb d;have Ob:=Gb.k e;refine⟨_,_,_,_,_,rfl,?_⟩;obtain⟨Pb,Qb,hp⟩:=zqp hp;refine zwl (s:=Hb) fa.pre Kb Nb Qb fun Ke ae be Rb Sb=>?_;obtain⟨y,g⟩:=fa.callG Rb d;have ga:=Ob.k g;refine⟨_,_,rfl,?_⟩;refine ifd hp (fun Tb hp=>?_) fun Tb hp=>?_; rotate_left
 ·obtain rfl:=oi hp;exact hq _ y.ext'
 refine⟨_,_,ga.bk.ra,?_⟩;obtain⟨ce,Ub,hp⟩:=zqp hp;refine zwr (low:=(235:Int)) (high:=(250:Int)) y.pre  Ub fun od Vb=>?_;obtain⟨w,Wb⟩:=y.call Vb d;have Xb:=ga.k Wb;refine⟨_,_,rfl,(Xb.bk.ra),?_⟩;refine gdi hp fun Yb hp=>?_;refine gdi hp fun Zb hp=>?_;refine gdi hp fun ac hp=>?_;refine gdi hp fun bc hp=>?_;refine zq0 hp (fun cc hp=>?_) fun cc hp=>?_; rotate_left
 ·obtain rfl:=oi hp;exact hq _ w.ext'
 refine ifd hp (fun dc hp=>?_) fun dc hp=>?_; rotate_left
 ·obtain rfl:=oi hp;exact hq _ w.ext'
 refine ifd hp (fun ec hp=>?_) fun ec hp=>?_; rotate_left
 ·obtain rfl:=oi hp;exact hq _ w.ext'
 intro Me fc;obtain⟨r,gc,de,hc⟩:=w.blk fc d 2;obtain⟨ha,ia,h,ta⟩:=hc.freeze gc;have ic:Sl ha (C.sl od.nxt 0 3 0 (Option.some 3)) ([(127:Int),(60:Int),(63:Int)]:List Int):=Bk.sl (α:=Int) (l:=([(127:Int),(60:Int),(63:Int)]:List Int)) ta (show Cat (α:=Int) ha [(Il (127:Int)),(Il (60:Int)),(Il (63:Int))] ([(127:Int),(60:Int),(63:Int)]:List Int) from ⟨[(Il (127:Int))],_,rfl,rfl,⟨[(Il (60:Int))],_,rfl,rfl,⟨[(Il (63:Int))],_,rfl,rfl,rfl⟩⟩⟩) rfl rfl _;obtain⟨ee,jc,hp⟩:=zqp hp;refine zvm (a:=Va.1) (b:=([(127:Int),(60:Int),(63:Int)]:List Int)) ia.pre (Ya.sub (Sub.trans (Sub.trans (Sub.trans (Sub.trans (Sub.trans (Sub.trans (Sub.trans Y.fs aa.fs) j.fs) n.fs) o.fs) e.fs) g.fs) h.fs)) ic jc fun Ne kc=>?_;obtain⟨p,fe⟩:=ia.call kc r;refine⟨_,rfl,?_⟩;refine zq0 hp (fun nc hp=>?_) fun nc hp=>?_; rotate_left
 ·obtain rfl:=oi hp;exact hq _ p.ext'
 refine ifd hp (fun oc hp=>?_) fun oc hp=>?_; rotate_left
 ·obtain rfl:=oi hp;exact hq _ p.ext'
 refine⟨i.isSl,?_⟩
 try rw[i.slLen]
 refine ifd hp (fun pc hp=>?_) fun pc hp=>?_; rotate_left
 ·obtain rfl:=oi hp;exact hq _ p.ext'
 obtain⟨ge,z,hp⟩:=zqp hp;obtain⟨pd,ua,F,z⟩:=zqj z;obtain⟨_,ja⟩:=zr6 i z;refine⟨pd,ua,(by first|exact F|(rw[i.slLen];exact F)),_,_,(ja _ (Sub.trans (Sub.trans (Sub.trans (Sub.trans (Sub.trans (Sub.trans j.fs n.fs) o.fs) e.fs) g.fs) h.fs) p.sub)).1,?_⟩;obtain⟨he,qc,hp⟩:=zqp hp;refine zwr (low:=(117:Int)) (high:=(127:Int)) p.pre  qc fun Oe sc=>?_;obtain⟨t,ie⟩:=p.call sc r;refine⟨_,_,rfl,(ja _ (Sub.trans (Sub.trans (Sub.trans (Sub.trans (Sub.trans (Sub.trans j.fs n.fs) o.fs) e.fs) g.fs) h.fs) t.sub)).1,?_⟩;refine gdi hp fun tc hp=>?_;refine gdi hp fun uc hp=>?_;refine gdi hp fun vc hp=>?_;refine gdi hp fun wc hp=>?_;refine zq0 hp (fun xc hp=>?_) fun xc hp=>?_; rotate_left
 ·obtain rfl:=oi hp;exact hq _ t.ext'
 obtain⟨je,A,hp⟩:=zqp hp;obtain⟨qd,va,G,A⟩:=zqj A;obtain⟨_,ka⟩:=zr6 i A;refine⟨qd,va,(by first|exact G|(rw[i.slLen];exact G)),_,_,(ka _ (Sub.trans (Sub.trans (Sub.trans (Sub.trans (Sub.trans (Sub.trans j.fs n.fs) o.fs) e.fs) g.fs) h.fs) t.sub)).1,?_⟩;obtain⟨ke,yc,hp⟩:=zqp hp;refine zwr (low:=(59:Int)) (high:=(60:Int)) t.pre  yc fun Pe zc=>?_;obtain⟨u,me⟩:=t.call zc r;refine⟨_,_,rfl,(ka _ (Sub.trans (Sub.trans (Sub.trans (Sub.trans (Sub.trans (Sub.trans j.fs n.fs) o.fs) e.fs) g.fs) h.fs) u.sub)).1,?_⟩;refine gdi hp fun Ac hp=>?_;refine gdi hp fun Bc hp=>?_;refine gdi hp fun Cc hp=>?_;refine gdi hp fun Dc hp=>?_;refine zq0 hp (fun Ec hp=>?_) fun Ec hp=>?_; rotate_left
 ·obtain rfl:=oi hp;exact hq _ u.ext'
 obtain⟨oe,B,hp⟩:=zqp hp;obtain⟨sd,wa,I,B⟩:=zqj B;obtain⟨_,la⟩:=zr6 i B;refine⟨sd,wa,(by first|exact I|(rw[i.slLen];exact I)),_,_,(la _ (Sub.trans (Sub.trans (Sub.trans (Sub.trans (Sub.trans (Sub.trans j.fs n.fs) o.fs) e.fs) g.fs) h.fs) u.sub)).1,?_⟩;obtain⟨pe,Fc,hp⟩:=zqp hp;refine zwr (low:=(59:Int)) (high:=(63:Int)) u.pre  Fc fun td Gc=>?_;obtain⟨q,qe⟩:=u.call Gc r;refine⟨_,_,rfl,(la _ (Sub.trans (Sub.trans (Sub.trans (Sub.trans (Sub.trans (Sub.trans j.fs n.fs) o.fs) e.fs) g.fs) h.fs) q.sub)).1,?_⟩;refine gdi hp fun Hc hp=>?_;refine gdi hp fun Ic hp=>?_;refine gdi hp fun Jc hp=>?_;refine gdi hp fun Kc hp=>?_;refine zq0 hp (fun Nc hp=>?_) fun Nc hp=>?_; rotate_left
 ·obtain rfl:=oi hp;exact hq _ q.ext'
 refine ifd hp (fun Pc hp=>?_) fun Pc hp=>?_; rotate_left
 ·obtain rfl:=oi hp;exact hq _ q.ext'
 refine ifd hp (fun Qc hp=>?_) fun Qc hp=>?_; rotate_left
 ·obtain rfl:=oi hp;exact hq _ q.ext'
 refine ifd hp (fun Rc hp=>?_) fun Rc hp=>?_; rotate_left
 ·obtain rfl:=oi hp;exact hq _ q.ext'
 intro re Tc;obtain⟨ma,Uc,se,Vc⟩:=q.blk Tc r 3;obtain⟨na,oa,pa,xa⟩:=Vc.freeze Uc;have Xc:Sl na (C.sl td.nxt 0 2 0 (Option.some 2)) ([(0:Int),(2:Int)]:List Int):=Bk.sl (α:=Int) (l:=([(0:Int),(2:Int)]:List Int)) xa (show Cat (α:=Int) na [Il 0,(Il (2:Int))] ([(0:Int),(2:Int)]:List Int) from ⟨[Il 0],_,rfl,rfl,⟨[(Il (2:Int))],_,rfl,rfl,rfl⟩⟩) rfl rfl _;obtain⟨te,Yc,hp⟩:=zqp hp;refine zvm (a:=Cb.1) (b:=([(0:Int),(2:Int)]:List Int)) oa.pre (Fb.sub (Sub.trans (Sub.trans (Sub.trans e.fs g.fs) h.fs) pa.fs)) Xc Yc fun Zc ad=>?_;obtain⟨D,ue⟩:=oa.call ad ma;refine⟨_,rfl,?_⟩;refine zq0 hp (fun bd hp=>?_) fun bd hp=>?_; rotate_left
 ·obtain rfl:=oi hp;exact hq _ D.ext'
 refine ifd hp (fun cd hp=>?_) fun cd hp=>?_; rotate_left
 ·obtain rfl:=oi hp;exact hq _ D.ext'
 intro ve dd;obtain⟨ed,fd,we,hd⟩:=D.blk dd ma 4;obtain⟨qa,sa,id,ya⟩:=hd.freeze fd;have jd:Sl qa (C.sl Zc.nxt 0 1 0 (Option.some 1)) ([(0:Int)]:List Int):=Bk.sl (α:=Int) (l:=([(0:Int)]:List Int)) ya (show Cat (α:=Int) qa [Il 0] ([(0:Int)]:List Int) from ⟨[Il 0],_,rfl,rfl,rfl⟩) rfl rfl _;obtain⟨xe,kd,hp⟩:=zqp hp;refine zvm (a:=Pb.1) (b:=([(0:Int)]:List Int)) sa.pre (Sb.sub (Sub.trans (Sub.trans h.fs pa.fs) id.fs)) jd kd fun ye ld=>?_;obtain⟨md,ze⟩:=sa.call ld ed;refine⟨_,rfl,?_⟩;obtain rfl:=oi hp;exact hq _ md.ext'
theorem zwu{s:Soc}{ca100 ca101:C}{m f:M}{Q:V->M->Prop}{rz:Bool}(hS:Pre f m)(ha100:Sl f ca100 s.Members)(ha101:Sl f ca101 s.Losses)(hp:zuh s=some rz)(hq:∀m',Ext m m'->Q (.c (.bool rz)) m'):Wc prog tbl 50 [.agg 5 [ca100,ca101,Il s.Treaty.Lo,Il s.Treaty.Hi,Il s.Reserve]] m Q:=by
 have t:=hS.st;obtain⟨u,_⟩:=zr4;refine w50 ?_;unfold zuh at hp;intro D h;obtain⟨d,e,w,g⟩:=t.blk h u 1;refine⟨_,_,_,_,_,g.bk.ra,?_⟩;obtain⟨y,i,hp⟩:=zqp hp;refine zwp (s:=s) e.pre ha100 ha101 i fun F j=>?_;obtain⟨a,l⟩:=e.call j d;have n:=g.k l;refine⟨_,rfl,?_⟩;refine zq0 hp (fun o hp=>?_) fun o hp=>?_; rotate_left
 ·obtain rfl:=oi hp;exact hq _ a.ext'
 refine⟨_,_,_,_,_,n.bk.ra,?_⟩;obtain⟨z,p,hp⟩:=zqp hp;refine zwq (s:=s) a.pre ha100 ha101 p fun B q=>?_;obtain⟨r,A⟩:=a.call q d;refine⟨_,rfl,?_⟩;obtain rfl:=oi hp;exact hq _ r.ext'
set_option maxHeartbeats 4000000 in
theorem zwv{s:Soc}{bits:Int}{ca100 ca101:C}{m f:M}{Q:V->M->Prop}{rz:Bool}(hS:Pre f m)(ha100:Sl f ca100 s.Members)(ha101:Sl f ca101 s.Losses)(hp:zul s bits=some rz)(hq:∀m',Ext m m'->Q (.c (.bool rz)) m'):Wc prog tbl 9 [.agg 5 [ca100,ca101,Il s.Treaty.Lo,Il s.Treaty.Hi,Il s.Reserve],.c (.int .u8 bits)] m Q:=by
 have S0:=hS.st;obtain⟨τ0,_⟩:=zr4;refine w9 ?_;unfold zul at hp;intro m0 ed;obtain⟨Ca,cc,Bh,dc⟩:=S0.blk ed τ0 1;refine⟨_,_,_,_,_,dc.bk.ra,?_⟩;obtain⟨Ch,fd,hp⟩:=zqp hp;refine zwu (s:=s) cc.pre ha100 ha101 fd fun m7 hd=>?_;obtain⟨Ha,id⟩:=cc.call hd Ca;have ec:=dc.k id;refine⟨_,rfl,?_⟩;refine zq1 hp (fun jd hp=>?_) fun jd hp=>?_
 ·obtain⟨Dh,kd,hp⟩:=zqp hp;refine zwt Ha.pre  kd fun qi ld=>?_;obtain⟨md,Eh⟩:=Ha.call ld Ca;refine⟨_,rfl,?_⟩;obtain rfl:=oi hp;exact hq _ md.ext'
 refine⟨_,_,_,_,_,ec.bk.ra,?_⟩;obtain⟨nd,od,hp⟩:=zqp hp;refine zwo (s:=s) Ha.pre ha100 ha101 od fun ri Fh Gh Hh pd qd sd=>?_;obtain⟨fc,G⟩:=Ha.callG pd Ca;have td:=ec.k G;refine⟨_,_,_,_,_,rfl,?_⟩;obtain⟨O,ud,hp⟩:=zqp hp;refine zwf (s:=nd) fc.pre qd sd ud fun Fc vd=>?_;obtain⟨wd,xd⟩:=fc.call vd Ca;have yd:=td.k xd;refine⟨_,_,_,rfl,?_⟩;intro si zd;obtain⟨ea,Ad,Cd,Dd⟩:=wd.blk zd Ca 2;have Ed:=yd.k Cd;obtain⟨Fd,Gd,gc,Hd,Id⟩:=Dd.sto Ad [Il O.1.Lo,Il O.1.Hi];have hc:=Ed.k Hd;refine⟨Fd,Gd,?_⟩;refine⟨_,_,_,_,_,hc.bk.ra,?_⟩;obtain⟨Jd,Ld,hp⟩:=zqp hp;refine zwo (s:=s) gc.pre (ha100.sub G.fs) (ha101.sub G.fs) Ld fun ti Ih Jh Kh Md Nd Od=>?_;obtain⟨ic,P⟩:=gc.callG Md ea;have Pd:=hc.k P;have Qd:=Id.k P;refine⟨_,_,_,_,_,rfl,?_⟩;obtain⟨Ia,Rd,hp⟩:=zqp hp;refine zwj (s:=Jd) ic.pre Nd Od Rd fun ui Lh Mh Sd d=>?_;obtain⟨jc,S⟩:=ic.callG Sd ea;have Ua:=Pd.k S;have Td:=Qd.k S;refine⟨_,_,rfl,_,_,_,_,_,Ua.bk.ra,?_⟩;obtain⟨Ud,Vd,hp⟩:=zqp hp;refine zwo (s:=s) jc.pre (ha100.sub (Sub.trans (Sub.trans G.fs P.fs) S.fs)) (ha101.sub (Sub.trans (Sub.trans G.fs P.fs) S.fs)) Vd fun vi Nh Oh Ph Wd Xd Yd=>?_;obtain⟨kc,n⟩:=jc.callG Wd ea;have nc:=Ua.k n;have Zd:=Td.k n;refine⟨_,_,_,_,_,rfl,_,_,_,_,_,nc.bk.ra,(by rw[show zaL cmC _=true from zoV (zqs ha100.noFn (zqs ha101.noFn (zqs rfl (zqs rfl (zqs rfl zqt)))))]; exact(Ua.bk.ra)),?_⟩;obtain⟨ae,be,hp⟩:=zqp hp;refine zvj (s:=s) kc.pre (ha100.sub (Sub.trans (Sub.trans (Sub.trans G.fs P.fs) S.fs) n.fs)) (ha101.sub (Sub.trans (Sub.trans (Sub.trans G.fs P.fs) S.fs) n.fs)) be fun wi ce=>?_
 obtain⟨oc,pc⟩:=kc.call ce ea;have de:=nc.k pc;have ee:=Zd.k pc;refine⟨_,rfl,?_⟩;refine gdi hp fun fe hp=>?_;refine gdi hp fun ge hp=>?_;refine gdi hp fun he hp=>?_;refine gdi hp fun ie hp=>?_;refine gdi hp fun je hp=>?_;obtain⟨ke,me,hp⟩:=zqp hp;refine zvk (bits:=(((Nat.land (Int.toNat (zmb .i64 bits)) (Int.toNat ae)):Nat):Int)) oc.pre  me fun xi Qh Rh oe pe=>?_;obtain⟨qc,o⟩:=oc.callG oe ea;have qe:=de.k o;have re:=ee.k o;refine⟨_,rfl,?_⟩;obtain⟨Va,se,hp⟩:=zqp hp;refine zwi (s:=Ud) (out:=ke) qc.pre (Xd.sub o.fs) (Yd.sub o.fs) pe se fun yi sc Th te Ja=>?_;obtain⟨Da,I⟩:=qc.callG te ea;have tc:=qe.k I;have uc:=re.k I;refine⟨_,_,rfl,?_⟩;refine zqZ hp (fun ue hp=>?_) fun ue hp=>?_
 ·obtain rfl:=oi hp;exact hq _ Da.ext'
 refine zqZ hp (fun ve hp=>?_) fun ve hp=>?_
 ·obtain rfl:=oi hp;exact hq _ Da.ext'
 refine zqZ hp (fun we hp=>?_) fun we hp=>?_
 ·obtain rfl:=oi hp;exact hq _ Da.ext'
 refine⟨_,_,uc.bk.ra,_,_,_,_,_,tc.bk.ra,?_⟩;obtain⟨xe,ye,hp⟩:=zqp hp;refine zvi (s:=s) Da.pre (ha100.sub (Sub.trans (Sub.trans (Sub.trans (Sub.trans (Sub.trans G.fs P.fs) S.fs) n.fs) o.fs) I.fs)) (ha101.sub (Sub.trans (Sub.trans (Sub.trans (Sub.trans (Sub.trans G.fs P.fs) S.fs) n.fs) o.fs) I.fs)) ye fun zi ze=>?_;obtain⟨vc,wc⟩:=Da.call ze ea;have Ae:=tc.k wc;have xc:=uc.k wc;refine⟨_,_,rfl,(xc.bk.ra),?_⟩;obtain⟨Uh,Be,hp⟩:=zqp hp;refine zwn (r:=xe) vc.pre  Be fun Gc Ce=>?_;obtain⟨Ka,yc⟩:=vc.call Ce ea;have zc:=Ae.k yc;have Ac:=xc.k yc;refine⟨_,_,rfl,(Ac.bk.ra),?_⟩;refine gdi hp fun De hp=>?_;refine gdi hp fun Ee hp=>?_;refine gdi hp fun Fe hp=>?_;refine gdi hp fun Ge hp=>?_;refine zq1 hp (fun He hp=>?_) fun He hp=>?_
 ·obtain rfl:=oi hp;exact hq _ Ka.ext'
 refine⟨d.isSl,trivial,_,zc.bk.rc rfl,ha100.isSl,?_⟩
 try rw[d.slLen]
 try rw[ha100.slLen]
 refine zqZ hp (fun Ie hp=>?_) fun Ie hp=>?_
 ·obtain rfl:=oi hp;exact hq _ Ka.ext'
 refine⟨Ja.isSl,d.isSl,?_⟩
 try rw[Ja.slLen]
 try rw[d.slLen]
 refine zqZ hp (fun Je hp=>?_) fun Je hp=>?_
 ·obtain rfl:=oi hp;exact hq _ Ka.ext'
 intro Hc Ke;obtain⟨Me,Ne,Bc,Oe⟩:=Ka.blk Ke ea 3;have Pe:=zc.k Bc;have Qe:=Ac.k Bc;intro Ai Re;obtain⟨Se,Te,Wa,T⟩:=Ne.blk Re Me 4;have Y:=Pe.k Wa;have J:=Qe.k Wa;have Z:=Oe.k Wa;refine⟨trivial,_,J.bk.rc rfl,?_⟩;intro Ah ch
 have hgo:∀(Ea:Nat) (Ab:Bool) (Ta:Int) (ka:Bool) (la:Bool) (ma:Bool) (na:Bool) (oa:Bool) (pa:Bool) (qa:Bool) (sa:Bool) (ta:Bool) (ua:Bool) (Ga:M) (p:M) (aa:Nat->Nat),St (Fm.of m) f p Ga->Sub sc p->Lb (Fm.of m) p aa Ga 1 m.nxt 5 [ca100,ca101,Il s.Treaty.Lo,Il s.Treaty.Hi,Il s.Reserve]->Lb (Fm.of m) p aa Ga 2 Fc.nxt 2 [Il O.1.Lo,Il O.1.Hi]->Lb (Fm.of m) p aa Ga 3 Gc.nxt 5 [.bool ka,.bool la,.bool ma,.bool na,.bool oa]->Lb (Fm.of m) p aa Ga 4 Hc.nxt 5 [.bool pa,.bool qa,.bool sa,.bool ta,.bool ua]->zuk s bits O Ia Va Ea ka la ma na oa pa qa sa ta ua Ab Ta=some rz->Ah [.c (.bool Ab),.c (Il Ta)] Ga:=by
  intro Ea
  induction Ea with
  | zero=>intro Ab Ta ka la ma na oa pa qa sa ta ua Ga p aa La z Y J Z T hp; cases hp
  | succ Ea Ue=>
   intro Ab Ta ka la ma na oa pa qa sa ta ua Ga p aa La z Y J Z T hp;refine ch _ _ _ ?_;rw[zuk] at hp;refine⟨trivial,_,J.bk.rc rfl,?_⟩;refine ifd hp (fun Ve hp=>?_) fun Ve hp=>?_; rotate_left
   ·intro dh We
    have hgo:∀(Ma:Nat) (bc:Bool) (Xa:Int) (va:M) (fa:Nat->Nat),St (Fm.of m) f p va->Lb (Fm.of m) p fa va 1 m.nxt 5 [ca100,ca101,Il s.Treaty.Lo,Il s.Treaty.Hi,Il s.Reserve]->Lb (Fm.of m) p fa va 2 Fc.nxt 2 [Il O.1.Lo,Il O.1.Hi]->Lb (Fm.of m) p fa va 3 Gc.nxt 5 [.bool ka,.bool la,.bool ma,.bool na,.bool oa]->Lb (Fm.of m) p fa va 4 Hc.nxt 5 [.bool pa,.bool qa,.bool sa,.bool ta,.bool ua]->zuj bits Ia Va ka la ma na oa pa qa sa ta ua Ma Xa=some rz->dh [.c (.bool bc),.c (Il Xa)] va:=by
     intro Ma
     induction Ma with
     | zero=>intro bc Xa va fa ga Y J Z T hp; cases hp
     | succ Ma Bb=>
      intro bc Xa va fa ga Y J Z T hp;refine We _ _ _ ?_;rw[zuj] at hp;refine⟨d.isSl,?_⟩
      try rw[d.slLen]
      refine ifd hp (fun Xe hp=>?_) fun Xe hp=>?_; rotate_left
      ·obtain⟨Vh,Ye,hp⟩:=zqp hp;refine zwt ga.pre  Ye fun ki Ze=>?_;obtain⟨af,Wh⟩:=ga.call Ze fa;refine⟨_,rfl,?_⟩;obtain rfl:=oi hp;exact hq _ af.ext'
      refine⟨trivial,?_⟩;obtain⟨Xh,Ya,hp⟩:=zqp hp;obtain⟨eh,Ic,Jc,Ya⟩:=zqj Ya;refine⟨eh,Ic,Jc,_,(Z.bk.rc (zqV (l:=([ka,la,ma,na,oa]:List Bool)) (enc:=C.bool) 0 rfl Ya)),?_⟩;refine zq1 hp (fun bf hp=>?_) fun bf hp=>?_
      ·obtain rfl:=oi hp;exact hq _ ga.ext'
      refine⟨trivial,?_⟩;obtain⟨Yh,Za,hp⟩:=zqp hp;obtain⟨fh,Kc,Nc,Za⟩:=zqj Za;refine⟨fh,Kc,Nc,_,(T.bk.rc (zqV (l:=([pa,qa,sa,ta,ua]:List Bool)) (enc:=C.bool) 0 rfl Za)),?_⟩;refine zq1 hp (fun cf hp=>?_) fun cf hp=>?_
      ·obtain rfl:=oi hp;exact hq _ ga.ext'
      refine gdi hp fun df hp=>?_;refine gdi hp fun ef hp=>?_;refine gdi hp fun gf hp=>?_;refine gdi hp fun hf hp=>?_;refine gdi hp fun jf hp=>?_;refine gdi hp fun kf hp=>?_;refine gdi hp fun lf hp=>?_;refine ifd hp (fun mf hp=>?_) fun mf hp=>?_; rotate_left
      ·refine gdi hp fun nf hp=>?_;exact Bb _ _ _ fa ga Y J Z T hp
      obtain⟨Zh,ab,hp⟩:=zqp hp;obtain⟨gh,Pc,Cb,ab⟩:=zqj ab;obtain⟨_,pf⟩:=zr6 Ja ab;refine⟨gh,Pc,(by first|exact Cb|(rw[Ja.slLen];exact Cb)),_,_,(pf _ (Sub.trans z ga.sub)).1,?_⟩;refine gdi hp fun qf hp=>?_;refine gdi hp fun rf hp=>?_;refine gdi hp fun sf hp=>?_;refine gdi hp fun tf hp=>?_;refine zq1 hp (fun uf hp=>?_) fun uf hp=>?_
      ·obtain rfl:=oi hp;exact hq _ ga.ext'
      refine gdi hp fun vf hp=>?_;exact Bb _ _ _ fa ga Y J Z T hp
    exact hgo _ _ _ _ aa La Y J Z T hp
   refine⟨_,_,_,_,_,Y.bk.ra,?_⟩;obtain⟨wf,xf,hp⟩:=zqp hp;refine zwo (s:=s) La.pre (ha100.sub (Sub.trans (Sub.trans (Sub.trans (Sub.trans (Sub.trans (Sub.trans G.fs P.fs) S.fs) n.fs) o.fs) I.fs) z)) (ha101.sub (Sub.trans (Sub.trans (Sub.trans (Sub.trans (Sub.trans (Sub.trans G.fs P.fs) S.fs) n.fs) o.fs) I.fs) z)) xf fun ni ai bi ci yf zf Af=>?_;obtain⟨Cc,ba⟩:=La.callG yf aa;have Bf:=Y.k ba;have Cf:=J.k ba;have Df:=Z.k ba;have Ef:=T.k ba;refine⟨_,_,_,_,_,rfl,?_⟩;obtain⟨Ff,Gf,hp⟩:=zqp hp;refine zwh (s:=wf) (need:=Ta) Cc.pre zf Af Gf fun pi xa ei Hf A=>?_;obtain⟨bb,ca⟩:=Cc.callG Hf aa;have ia:=Bf.k ca;have ja:=Cf.k ca;have ha:=Df.k ca;have da:=Ef.k ca;refine⟨_,_,_,rfl,?_⟩;refine zqZ hp (fun If hp=>?_) fun If hp=>?_
   ·obtain rfl:=oi hp;exact hq _ bb.ext'
   refine⟨A.isSl,d.isSl,?_⟩
   try rw[A.slLen]
   try rw[d.slLen]
   refine zqZ hp (fun Jf hp=>?_) fun Jf hp=>?_
   ·obtain rfl:=oi hp;exact hq _ bb.ext'
   intro hh Kf
   have hgo:∀(Na:Nat) (a:Int) (q:Bool) (t:Bool) (u:Bool) (w:Bool) (y:Bool) (e:Bool) (g:Bool) (h:Bool) (i:Bool) (j:Bool) (wa:M) (N:Nat->Nat),St (Fm.of m) f xa wa->Lb (Fm.of m) xa N wa 1 m.nxt 5 [ca100,ca101,Il s.Treaty.Lo,Il s.Treaty.Hi,Il s.Reserve]->Lb (Fm.of m) xa N wa 2 Fc.nxt 2 [Il O.1.Lo,Il O.1.Hi]->Lb (Fm.of m) xa N wa 3 Gc.nxt 5 [.bool q,.bool t,.bool u,.bool w,.bool y]->Lb (Fm.of m) xa N wa 4 Hc.nxt 5 [.bool e,.bool g,.bool h,.bool i,.bool j]->zui Ia Ab Ta Ff (zuk s bits O Ia Va Ea) Na q t u w y e g h i j a=some rz->hh [.c (Il a)] wa:=by
    intro Na
    induction Na with
    | zero=>intro a q t u w y e g h i j wa N B ia ja ha da hp; cases hp
    | succ Na Fa=>
     intro a q t u w y e g h i j wa N B ia ja ha da hp;refine Kf _ _ ?_;rw[zui] at hp;refine⟨A.isSl,?_⟩
     try rw[A.slLen]
     refine ifd hp (fun Lf hp=>?_) fun Lf hp=>?_; rotate_left
     ·refine gdi hp fun Mf hp=>?_;exact Ue _ _ _ _ _ _ _ _ _ _ _ _ _ xa N B (Sub.trans (Sub.trans z ba.fs) ca.fs) ia ja ha da hp
     refine⟨trivial,?_⟩;obtain⟨fi,cb,hp⟩:=zqp hp;obtain⟨ih,Qc,Rc,cb⟩:=zqj cb;refine⟨ih,Qc,Rc,_,(ha.bk.rc (zqV (l:=([q,t,u,w,y]:List Bool)) (enc:=C.bool) 0 rfl cb)),?_⟩;refine zq0 hp (fun Nf hp=>?_) fun Nf hp=>?_
     ·refine⟨trivial,?_⟩;obtain⟨gi,db,hp⟩:=zqp hp;obtain⟨jh,Tc,Uc,db⟩:=zqj db;refine⟨jh,Tc,Uc,_,(da.bk.rc (zqV (l:=([e,g,h,i,j]:List Bool)) (enc:=C.bool) 0 rfl db)),?_⟩;refine zq0 hp (fun Of hp=>?_) fun Of hp=>?_
      ·refine⟨trivial,?_⟩;obtain⟨Pf,hp⟩:=zqq hp;obtain⟨kh,Db,Eb⟩:=zqW Pf;refine⟨kh,Db,Eb,?_⟩;obtain⟨Qf,Rf,Sf,eb,fb⟩:=ha.sta B (pre:=[]) (post:=[]) (l:=([q,t,u,w,y]:List Bool)) (enc:=C.bool) rfl rfl Db Eb true
       replace fb:Lb _ _ _ _ _ _ _ [(.bool (sti a 0 true q)),(.bool (sti a 1 true t)),(.bool (sti a 2 true u)),(.bool (sti a 3 true w)),(.bool (sti a 4 true y))]:=fb
       have Tf:=ia.k eb;have Uf:=ja.k eb;have Vf:=da.k eb;refine⟨Qf,Rf,?_⟩;refine⟨trivial,?_⟩;obtain⟨Wf,hp⟩:=zqq hp;obtain⟨lh,Fb,Gb⟩:=zqW Wf;refine⟨lh,Fb,Gb,?_⟩;obtain⟨Xf,Yf,Zf,gb,hb⟩:=Vf.sta Sf (pre:=[]) (post:=[]) (l:=([e,g,h,i,j]:List Bool)) (enc:=C.bool) rfl rfl Fb Gb true
       replace hb:Lb _ _ _ _ _ _ _ [(.bool (sti a 0 true e)),(.bool (sti a 1 true g)),(.bool (sti a 2 true h)),(.bool (sti a 3 true i)),(.bool (sti a 4 true j))]:=hb
       have ag:=Tf.k gb;have bg:=Uf.k gb;have cg:=fb.k gb;refine⟨Xf,Yf,?_⟩;refine gdi hp fun dg hp=>?_;exact Fa _ _ _ _ _ _ _ _ _ _ _ _ N Zf ag bg cg hb hp
      obtain⟨ya,Oa,hp⟩:=zqp hp;obtain⟨mh,Vc,Hb,Oa⟩:=zqj Oa;refine⟨mh,Vc,(by first|exact Hb|(rw[A.slLen];exact Hb)),_,(A.rdI Oa B.sub),?_⟩;obtain⟨za,Pa,hp⟩:=zqp hp;obtain⟨nh,Xc,Ib,Pa⟩:=zqj Pa;obtain⟨_,Dc⟩:=zr6 d Pa;refine⟨nh,Xc,(by first|exact Ib|(rw[d.slLen];exact Ib)),(d.isPt Pa _),_,((Dc _ (Sub.trans (Sub.trans (Sub.trans (Sub.trans (Sub.trans (Sub.trans n.fs o.fs) I.fs) z) ba.fs) ca.fs) B.sub)).2.1 1 _ rfl),trivial,?_⟩;obtain⟨eg,hp⟩:=zqq hp;obtain⟨oh,Jb,Kb⟩:=zqW eg;refine⟨oh,Jb,Kb,?_⟩;obtain⟨fg,gg,ib,jb,kb⟩:=ha.sta B (pre:=[]) (post:=[]) (l:=([q,t,u,w,y]:List Bool)) (enc:=C.bool) rfl rfl Jb Kb true
      replace kb:Lb _ _ _ _ _ _ _ [(.bool (sti a 0 true q)),(.bool (sti a 1 true t)),(.bool (sti a 2 true u)),(.bool (sti a 3 true w)),(.bool (sti a 4 true y))]:=kb
      have hg:=ia.k jb;have ig:=ja.k jb;have jg:=da.k jb;refine⟨fg,gg,?_⟩;refine⟨((Dc _ (Sub.trans (Sub.trans (Sub.trans (Sub.trans (Sub.trans (Sub.trans n.fs o.fs) I.fs) z) ba.fs) ca.fs) ib.sub)).2.1 1 _ rfl),(A.rdI Oa ib.sub),trivial,?_⟩;obtain⟨kg,hp⟩:=zqq hp;obtain⟨ph,Nb,Ob⟩:=zqW kg;refine⟨ph,Nb,Ob,?_⟩;obtain⟨lg,mg,ng,mb,ob⟩:=jg.sta ib (pre:=[]) (post:=[]) (l:=([e,g,h,i,j]:List Bool)) (enc:=C.bool) rfl rfl Nb Ob ((decide (ya=za.Hi)))
      replace ob:Lb _ _ _ _ _ _ _ [(.bool (sti a 0 (decide (ya=za.Hi)) e)),(.bool (sti a 1 (decide (ya=za.Hi)) g)),(.bool (sti a 2 (decide (ya=za.Hi)) h)),(.bool (sti a 3 (decide (ya=za.Hi)) i)),(.bool (sti a 4 (decide (ya=za.Hi)) j))]:=ob
      have og:=hg.k mb;have pg:=ig.k mb;have qg:=kb.k mb;refine⟨lg,mg,?_⟩;refine gdi hp fun rg hp=>?_;exact Fa _ _ _ _ _ _ _ _ _ _ _ _ N ng og pg qg ob hp
     obtain⟨D,pb,hp⟩:=zqp hp;obtain⟨qh,Yc,Pb,pb⟩:=zqj pb;refine⟨qh,Yc,(by first|exact Pb|(rw[A.slLen];exact Pb)),_,(A.rdI pb B.sub),?_⟩;obtain⟨F,Qa,hp⟩:=zqp hp;obtain⟨rh,Zc,Qb,Qa⟩:=zqj Qa;obtain⟨_,sg⟩:=zr6 d Qa;refine⟨rh,Zc,(by first|exact Qb|(rw[d.slLen];exact Qb)),(d.isPt Qa _),_,((sg _ (Sub.trans (Sub.trans (Sub.trans (Sub.trans (Sub.trans (Sub.trans n.fs o.fs) I.fs) z) ba.fs) ca.fs) B.sub)).2.1 0 _ rfl),trivial,?_⟩;obtain⟨hi,qb,hp⟩:=zqp hp;obtain⟨th,ad,bd,qb⟩:=zqj qb;refine⟨th,ad,bd,_,(da.bk.rc (zqV (l:=([e,g,h,i,j]:List Bool)) (enc:=C.bool) 0 rfl qb)),?_⟩;refine zq0 hp (fun tg hp=>?_) fun tg hp=>?_
     ·refine⟨trivial,?_⟩;obtain⟨ug,hp⟩:=zqq hp;obtain⟨uh,Rb,Sb⟩:=zqW ug;refine⟨uh,Rb,Sb,?_⟩;obtain⟨vg,xg,zg,rb,sb⟩:=ha.sta B (pre:=[]) (post:=[]) (l:=([q,t,u,w,y]:List Bool)) (enc:=C.bool) rfl rfl Rb Sb ((decide (D=F.Lo)))
      replace sb:Lb _ _ _ _ _ _ _ [(.bool (sti a 0 (decide (D=F.Lo)) q)),(.bool (sti a 1 (decide (D=F.Lo)) t)),(.bool (sti a 2 (decide (D=F.Lo)) u)),(.bool (sti a 3 (decide (D=F.Lo)) w)),(.bool (sti a 4 (decide (D=F.Lo)) y))]:=sb
      have Ag:=ia.k rb;have Bg:=ja.k rb;have Cg:=da.k rb;refine⟨vg,xg,?_⟩;refine⟨trivial,?_⟩;obtain⟨Dg,hp⟩:=zqq hp;obtain⟨vh,Tb,Ub⟩:=zqW Dg;refine⟨vh,Tb,Ub,?_⟩;obtain⟨Eg,Fg,Gg,tb,ub⟩:=Cg.sta zg (pre:=[]) (post:=[]) (l:=([e,g,h,i,j]:List Bool)) (enc:=C.bool) rfl rfl Tb Ub true
      replace ub:Lb _ _ _ _ _ _ _ [(.bool (sti a 0 true e)),(.bool (sti a 1 true g)),(.bool (sti a 2 true h)),(.bool (sti a 3 true i)),(.bool (sti a 4 true j))]:=ub
      have Hg:=Ag.k tb;have Ig:=Bg.k tb;have Jg:=sb.k tb;refine⟨Eg,Fg,?_⟩;refine gdi hp fun Kg hp=>?_;exact Fa _ _ _ _ _ _ _ _ _ _ _ _ N Gg Hg Ig Jg ub hp
     obtain⟨Aa,Ra,hp⟩:=zqp hp;obtain⟨wh,cd,Vb,Ra⟩:=zqj Ra;refine⟨wh,cd,(by first|exact Vb|(rw[A.slLen];exact Vb)),_,(A.rdI Ra B.sub),?_⟩;obtain⟨Ba,Sa,hp⟩:=zqp hp;obtain⟨xh,dd,Wb,Sa⟩:=zqj Sa;obtain⟨_,Ec⟩:=zr6 d Sa;refine⟨xh,dd,(by first|exact Wb|(rw[d.slLen];exact Wb)),(d.isPt Sa _),_,((Ec _ (Sub.trans (Sub.trans (Sub.trans (Sub.trans (Sub.trans (Sub.trans n.fs o.fs) I.fs) z) ba.fs) ca.fs) B.sub)).2.1 1 _ rfl),trivial,?_⟩;obtain⟨Lg,hp⟩:=zqq hp;obtain⟨yh,Xb,Yb⟩:=zqW Lg;refine⟨yh,Xb,Yb,?_⟩;obtain⟨Mg,Ng,vb,wb,xb⟩:=ha.sta B (pre:=[]) (post:=[]) (l:=([q,t,u,w,y]:List Bool)) (enc:=C.bool) rfl rfl Xb Yb ((decide (D=F.Lo)))
     replace xb:Lb _ _ _ _ _ _ _ [(.bool (sti a 0 (decide (D=F.Lo)) q)),(.bool (sti a 1 (decide (D=F.Lo)) t)),(.bool (sti a 2 (decide (D=F.Lo)) u)),(.bool (sti a 3 (decide (D=F.Lo)) w)),(.bool (sti a 4 (decide (D=F.Lo)) y))]:=xb
     have Og:=ia.k wb;have Pg:=ja.k wb;have Qg:=da.k wb;refine⟨Mg,Ng,?_⟩;refine⟨((Ec _ (Sub.trans (Sub.trans (Sub.trans (Sub.trans (Sub.trans (Sub.trans n.fs o.fs) I.fs) z) ba.fs) ca.fs) vb.sub)).2.1 1 _ rfl),(A.rdI Ra vb.sub),trivial,?_⟩;obtain⟨Sg,hp⟩:=zqq hp;obtain⟨zh,Zb,ac⟩:=zqW Sg;refine⟨zh,Zb,ac,?_⟩;obtain⟨Tg,Ug,Vg,yb,zb⟩:=Qg.sta vb (pre:=[]) (post:=[]) (l:=([e,g,h,i,j]:List Bool)) (enc:=C.bool) rfl rfl Zb ac ((decide (Aa=Ba.Hi)))
     replace zb:Lb _ _ _ _ _ _ _ [(.bool (sti a 0 (decide (Aa=Ba.Hi)) e)),(.bool (sti a 1 (decide (Aa=Ba.Hi)) g)),(.bool (sti a 2 (decide (Aa=Ba.Hi)) h)),(.bool (sti a 3 (decide (Aa=Ba.Hi)) i)),(.bool (sti a 4 (decide (Aa=Ba.Hi)) j))]:=zb
     have Xg:=Og.k yb;have Zg:=Pg.k yb;have ah:=xb.k yb;refine⟨Tg,Ug,?_⟩;refine gdi hp fun bh hp=>?_;exact Fa _ _ _ _ _ _ _ _ _ _ _ _ N Vg Xg Zg ah zb hp
   exact hgo _ _ _ _ _ _ _ _ _ _ _ _ _ aa bb ia ja ha da hp
 exact hgo _ _ _ _ _ _ _ _ _ _ _ _ _ _ sc Se Te (Sub.refl _) Y J Z T hp
end
end Go.Proofs.Ytkclhciahokifaa

namespace Go.Proofs.Ytkclhciahokifaa
open _root_.Go.Proofs.Try
open Go.Abs
set_option maxRecDepth 100000
noncomputable section
theorem zww{S β:Type}{n:Nat}(F:Nat->S->Int->Option β)(st:Nat->S){fin:Option β}(hstep:∀d k,k < n->F (d+1) (st k) (k:Int)=F d (st (k+1)) ((k:Int)+1))(hend:∀d,F (d+1) (st n) (n:Int)=fin) :
  ∀d k,k<=n->n - k < d->F d (st k) (k:Int)=fin
 | 0,k,_,h=>by omega
 | d+1,k,hk,h=>by
  by_cases hkn:k=n
  ·subst hkn; exact hend d
  ·rw[hstep d k (by omega),show(k:Int)+1=((k+1:Nat):Int) by omega];exact zww F st hstep hend d (k+1) (by omega) (by omega)
def S5(f:Nat->Int):Int:=f 0+f 1+f 2+f 3+f 4
def mk5(f:Nat->Int):P5:=⟨f 0,f 1,f 2,f 3,f 4⟩
def mkF(f:Nat->Bool):F5:=⟨f 0,f 1,f 2,f 3,f 4⟩
def l5{α:Type}(f:Nat->α):List α:=[f 0,f 1,f 2,f 3,f 4]
theorem zwx{α:Type}{f:Nat->α}{k:Nat}(hk:k < 5):(l5 f)[k]? = some (f k):=by
 match k,hk with
 | 0,_=>rfl
 | 1,_=>rfl
 | 2,_=>rfl
 | 3,_=>rfl
 | 4,_=>rfl
theorem zwy{α:Type}{f:Nat->α}{k:Nat}(hk:k < 5):idx (l5 f) (k:Int)=some (f k):=zrF (zwx hk)
theorem zwz{α:Type}(g f:Nat->α)(k j:Nat):sti (k:Int) j (g k) (if j < k then g j else f j)=if j < k+1 then g j else f j:=by
 unfold sti
 by_cases h:j=k
 ·subst h; rw[if_pos rfl,if_pos (by omega)]
 ·rw[if_neg (by omega)]
  by_cases h2:j < k
  ·rw[if_pos h2,if_pos (by omega)]
  ·rw[if_neg h2,if_neg (by omega)]
def stF{α:Type}(g f:Nat->α)(k:Nat):Nat->α:=fun j=>if j < k then g j else f j
theorem zwA{α:Type}(g f:Nat->α):stF g f 0=f:=by funext j; exact if_neg (by omega)
theorem zwB{α:Type}(g f:Nat->α)(k:Nat):stF g f k k=f k:=if_neg (by omega)
theorem zwC{α:Type}(g f:Nat->α){k j:Nat}(h:j < k):stF g f k j=g j:=if_pos h
theorem zwD{α:Type}(g f:Nat->α)(k j:Nat):sti (k:Int) j (g k) (stF g f k j)=stF g f (k+1) j:=zwz g f k j
def part(f:Nat->Int):Nat->Int
 | 0=>0
 | k+1=>part f k+f k
theorem zwE(f:Nat->Int):part f 5=S5 f:=by show 0+f 0+f 1+f 2+f 3+f 4=_; unfold S5; omega
theorem zwF{f:Nat->Int}{B:Int}(h:∀i,i < 5->-B<=f i/\f i<=B)(hB:0<=B):∀k,k<=5->-(5 * B)<=part f k/\part f k<=5 * B
 | 0,_=>⟨by show -(5 * B)<=0; omega,by show(0:Int)<=_; omega⟩
 | 1,_=>by have:=h 0 (by omega); show -(5 * B)<=0+f 0/\0+f 0<=_; omega
 | 2,_=>by have:=h 0 (by omega); have:=h 1 (by omega); show -(5 * B)<=0+f 0+f 1/\0+f 0+f 1<=_; omega
 | 3,_=>by have:=h 0 (by omega); have:=h 1 (by omega); have:=h 2 (by omega); show -(5 * B)<=0+f 0+f 1+f 2/\0+f 0+f 1+f 2<=_; omega
 | 4,_=>by have:=h 0 (by omega); have:=h 1 (by omega); have:=h 2 (by omega); have:=h 3 (by omega); show -(5 * B)<=0+f 0+f 1+f 2+f 3/\0+f 0+f 1+f 2+f 3<=_; omega
 | 5,_=>by have:=h 0 (by omega); have:=h 1 (by omega); have:=h 2 (by omega); have:=h 3 (by omega); have:=h 4 (by omega); show -(5 * B)<=0+f 0+f 1+f 2+f 3+f 4/\0+f 0+f 1+f 2+f 3+f 4<=_; omega
 | k+6,h=>by omega
def Bd(B:Int)(f:Nat->Int):Prop:=∀i,i < 5->-B<=f i/\f i<=B
theorem zwG{f:Nat->Int}(h:Bd 1000000000000 f):ztm (mk5 f)=some (S5 f):=by
 unfold ztm
 show ztl (mk5 f) 6 (part f 0) 0=_
 refine zww (n:=5) (fun d s x=>ztl (mk5 f) d s x) (part f) (fun d k hk=>?_) (fun d=>?_) 6 0 (by omega) (by omega)
 ·have h1:=zwF h (by omega) k (by omega);have h2:=h k hk
  show ztl (mk5 f) (d+1) _ _=_
  rw[ztl,if_pos (by omega)]
  show(idx (l5 f) (k:Int)).bind _=_
  rw[zwy hk,obs,zqr (fI (by omega)),zqr (fI (by omega))]; rfl
 ·show ztl (mk5 f) (d+1) _ _=_
  rw[ztl,if_neg (by omega),zwE]
theorem zwH{f g:Nat->Int}(hf:Bd 1000000000000 f)(hg:Bd 1000000000000 g):zto (mk5 f) (mk5 g)=some (mk5 fun i=>f i+g i):=by
 unfold zto;have key:=zww (n:=5) (fun d s x=>ztn (mk5 g) d (s 0) (s 1) (s 2) (s 3) (s 4) x) (stF (fun i=>f i+g i) f) (fin:=some (mk5 fun i=>f i+g i)) (fun d k hk=>?_) (fun d=>?_) 6 0 (by omega) (by omega)
 ·rw[zwA] at key; exact key
 ·have h1:=hf k hk;have h2:=hg k hk
  show ztn (mk5 g) (d+1) _ _ _ _ _ _=_
  rw[ztn,if_pos (by omega)]
  show(idx (l5 g) (k:Int)).bind _=_
  rw[zwy hk,obs]
  show(idx (l5 (stF (fun i=>f i+g i) f k)) (k:Int)).bind _=_
  rw[zwy hk,obs,zwB,zqr (fI (by omega)),zqr (by omega),zqr (fI (by omega))];have e:=zwD (fun i=>f i+g i) f k
  show ztn (mk5 g) d (sti (k:Int) 0 ((fun i=>f i+g i) k) _) (sti (k:Int) 1 ((fun i=>f i+g i) k) _) (sti (k:Int) 2 ((fun i=>f i+g i) k) _) (sti (k:Int) 3 ((fun i=>f i+g i) k) _) (sti (k:Int) 4 ((fun i=>f i+g i) k) _) _=_
  rw[e 0,e 1,e 2,e 3,e 4]
 ·show ztn (mk5 g) (d+1) _ _ _ _ _ _=_
  rw[ztn,if_neg (by omega)]; rfl
theorem zwI{f g:Nat->Bool}:ztq (mkF f) (mkF g)=some (mkF fun i=>f i && !g i):=by
 unfold ztq;have key:=zww (n:=5) (fun d s x=>ztp (mkF g) d (s 0) (s 1) (s 2) (s 3) (s 4) x) (stF (fun i=>f i && !g i) f) (fin:=some (mkF fun i=>f i && !g i)) (fun d k hk=>?_) (fun d=>?_) 6 0 (by omega) (by omega)
 ·rw[zwA] at key; exact key
 ·show ztp (mkF g) (d+1) _ _ _ _ _ _=_
  rw[ztp,if_pos (by omega)]
  show(idx (l5 g) (k:Int)).bind _=_
  rw[zwy hk,obs]
  show(idx (l5 (stF (fun i=>f i && !g i) f k)) (k:Int)).bind _=_
  rw[zwy hk,obs,zwB];have e:=zwD (fun i=>f i && !g i) f k
  cases hfk:f k with
  | true=>
   rw[if_pos rfl,zqr (by omega),zqr (fI (by omega))]
   have e0:(!g k)=(fun i=>f i && !g i) k:=by show _=(f k && !g k); rw[hfk]; rfl
   rw[e0,e 0,e 1,e 2,e 3,e 4]
  | false=>
   rw[if_neg (by decide),zqr (by omega),zqr (fI (by omega))]
   have e0:false=(fun i=>f i && !g i) k:=by show _=(f k && !g k); rw[hfk]; rfl
   rw[e0,e 0,e 1,e 2,e 3,e 4]
 ·show ztp (mkF g) (d+1) _ _ _ _ _ _=_
  rw[ztp,if_neg (by omega)]; rfl
def zwJ(ms:List Mb)(of_:Nat->Bool)(num:Mb->Int):Nat->Int:=fun i=>match ms[i]? with
 | some a=>if of_ i=true then num a else 0
 | none=>0
theorem zwK{w:Wk}{of_:Nat->Bool}{number:Mb->Option Int}{num:Mb->Int}(hn:∀a∈w.s.Members,number a=some (num a))(hl:w.s.Members.length<=5):ztC w (mkF of_) number=some (mk5 (zwJ w.s.Members of_ num)):=by
 unfold ztC;have key:=zww (n:=w.s.Members.length) (fun d s x=>ztB w (mkF of_) number d (s 0) (s 1) (s 2) (s 3) (s 4) x) (stF (zwJ w.s.Members of_ num) fun _=>0) (fin:=some (mk5 (zwJ w.s.Members of_ num))) (fun d k hk=>?_) (fun d=>?_) (w.s.Members.length+1) 0 (by omega) (by omega)
 ·rw[zwA] at key; exact key
 ·show ztB w (mkF of_) number (d+1) _ _ _ _ _ _=_
  have hg:=List.getElem?_eq_getElem hk;rw[ztB,if_pos (by omega),zrF hg,obs]
  show(idx (l5 of_) (k:Int)).bind _=_
  rw[zwy (by omega),obs];have e:=zwD (zwJ w.s.Members of_ num) (fun _=>0) k
  cases hfk:of_ k with
  | true=>
   rw[if_pos rfl,hn _ (List.getElem_mem hk),obs,zqr (by omega),zqr (fI (by omega))]
   have e0:num w.s.Members[k]=zwJ w.s.Members of_ num k:=by unfold zwJ; rw[hg]; show _=if _ then _ else _; rw[hfk,if_pos rfl]
   rw[e0,e 0,e 1,e 2,e 3,e 4]
  | false=>
   rw[if_neg (by decide),zqr (fI (by omega))]
   have e0:(0:Int)=zwJ w.s.Members of_ num k:=by unfold zwJ; rw[hg]; show _=if _ then _ else _; rw[hfk,if_neg (by decide)]
   have e1:∀j,stF (zwJ w.s.Members of_ num) (fun _=>0) k j=stF (zwJ w.s.Members of_ num) (fun _=>0) (k+1) j:=fun j=>by
    unfold stF
    by_cases h:j=k
    ·subst h; rw[if_neg (by omega),if_pos (by omega)]; exact e0
    ·by_cases h2:j < k
     ·rw[if_pos h2,if_pos (by omega)]
     ·rw[if_neg h2,if_neg (by omega)]
   rw[e1 0,e1 1,e1 2,e1 3,e1 4]
 ·show ztB w (mkF of_) number (d+1) _ _ _ _ _ _=_
  rw[ztB,if_neg (by omega)]
  have e1:∀j,stF (zwJ w.s.Members of_ num) (fun _=>0) w.s.Members.length j=zwJ w.s.Members of_ num j:=fun j=>by
   unfold stF
   by_cases h:j < w.s.Members.length
   ·rw[if_pos h]
   ·rw[if_neg h]; unfold zwJ; rw[List.getElem?_eq_none (by omega)]
  rw[e1 0,e1 1,e1 2,e1 3,e1 4]; rfl
def zwL(ms:List Mb)(sh:Nat->Bool)(pays:Nat->Int):Nat->Bool:=fun i=>match ms[i]? with
 | some a=>sh i && decide (pays i<=a.Most)
 | none=>sh i
theorem zwM{w:Wk}{sh:Nat->Bool}{pays:Nat->Int}(hl:w.s.Members.length<=5):ztG w (mkF sh) (mk5 pays)=some (mkF (zwL w.s.Members sh pays)):=by
 unfold ztG;have key:=zww (n:=w.s.Members.length) (fun d s x=>ztF w (mk5 pays) d (s 0) (s 1) (s 2) (s 3) (s 4) x) (stF (zwL w.s.Members sh pays) sh) (fin:=some (mkF (zwL w.s.Members sh pays))) (fun d k hk=>?_) (fun d=>?_) (w.s.Members.length+1) 0 (by omega) (by omega)
 ·rw[zwA] at key; exact key
 ·show ztF w (mk5 pays) (d+1) _ _ _ _ _ _=_
  have hg:=List.getElem?_eq_getElem hk;rw[ztF,if_pos (by omega),zrF hg,obs]
  show(idx (l5 (stF (zwL w.s.Members sh pays) sh k)) (k:Int)).bind _=_
  rw[zwy (by omega),obs,zwB];have e:=zwD (zwL w.s.Members sh pays) sh k
  have e00:zwL w.s.Members sh pays k=(sh k && decide (pays k<=(w.s.Members[k]).Most)):=by unfold zwL; rw[hg]
  cases hfk:sh k with
  | true=>
   rw[if_pos rfl]
   show(idx (l5 pays) (k:Int)).bind _=_
   rw[zwy (by omega),obs,zqr (by omega),zqr (fI (by omega))]
   have e0:decide (pays k<=(w.s.Members[k]).Most)=zwL w.s.Members sh pays k:=by rw[e00,hfk,Bool.true_and]
   rw[e0,e 0,e 1,e 2,e 3,e 4]
  | false=>
   rw[if_neg (by decide),zqr (by omega),zqr (fI (by omega))]
   have e0:false=zwL w.s.Members sh pays k:=by rw[e00,hfk]; rfl
   rw[e0,e 0,e 1,e 2,e 3,e 4]
 ·show ztF w (mk5 pays) (d+1) _ _ _ _ _ _=_
  rw[ztF,if_neg (by omega)]
  have e1:∀j,stF (zwL w.s.Members sh pays) sh w.s.Members.length j=zwL w.s.Members sh pays j:=fun j=>by
   unfold stF
   by_cases h:j < w.s.Members.length
   ·rw[if_pos h]
   ·rw[if_neg h]; unfold zwL; rw[List.getElem?_eq_none (by omega)]
  rw[e1 0,e1 1,e1 2,e1 3,e1 4]; rfl
open Classical
theorem zwN{α:Type}:∀l:List α,∃ks:List α,ks.Nodup/\∀k,k∈ks↔k∈l
 | []=>⟨[],List.nodup_nil,fun _=>Iff.rfl⟩
 | a::l=>by
  obtain⟨ks,h1,h2⟩:=zwN l
  by_cases h:a∈ks
  ·refine⟨ks,h1,fun k=>?_⟩;rw[h2,List.mem_cons];exact⟨.inr,fun hk=>hk.elim (fun he=>by rw[he]; exact(h2 a).1 h) id⟩
  ·exact⟨a::ks,List.nodup_cons.2 ⟨h,h1⟩,fun k=>by rw[List.mem_cons,List.mem_cons,h2]⟩
def zwO:List Int->Int
 | []=>0
 | a::l=>a+zwO l
theorem zwP:∀a b:List Int,zwO (a++b)=zwO a+zwO b
 | [],b=>by show zwO b=0+_; omega
 | x::a,b=>by show x+zwO (a++b)=x+zwO a+zwO b; rw[zwP a b]; omega
theorem zwQ(f g:Nat->Int):S5 (fun i=>f i+g i)=S5 f+S5 g:=by
 show f 0+g 0+(f 1+g 1)+(f 2+g 2)+(f 3+g 3)+(f 4+g 4)=f 0+f 1+f 2+f 3+f 4+(g 0+g 1+g 2+g 3+g 4)
 omega
theorem zwR:S5 (fun _=>0)=0:=rfl
theorem zwS{f g:Nat->Int}(h:∀i,i < 5->f i=g i):S5 f=S5 g:=by
 unfold S5; rw[h 0 (by omega),h 1 (by omega),h 2 (by omega),h 3 (by omega),h 4 (by omega)]
theorem zwT{K:Type}(g:K->Nat->Int):∀ks:List K,zwO (ks.map fun key=>S5 (g key))=S5 (fun k=>zwO (ks.map fun key=>g key k))
 | []=>rfl
 | a::ks=>by
  show S5 (g a)+zwO (ks.map fun key=>S5 (g key))=S5 (fun k=>g a k+zwO (ks.map fun key=>g key k))
  rw[zwT g ks,zwQ]
theorem zwU{K:Type}(x:K)(v:Int):∀ks:List K,ks.Nodup->zwO (ks.map fun key=>if x=key then v else 0)=if x∈ks then v else 0
 | [],_=>by rw[if_neg (by simp)]; rfl
 | a::ks,h=>by
  obtain⟨h1,h2⟩:=List.nodup_cons.1 h
  show(if x=a then v else 0)+zwO (ks.map fun key=>if x=key then v else 0)=_
  rw[zwU x v ks h2]
  by_cases hx:x=a
  ·subst hx; rw[if_pos rfl,if_neg h1,if_pos (List.mem_cons_self ..)]; omega
  ·rw[if_neg hx]
   by_cases h3:x∈ks
   ·rw[if_pos h3,if_pos (List.mem_cons_of_mem _ h3)]; omega
   ·rw[if_neg h3,if_neg (by rw[List.mem_cons]; exact fun hc=>hc.elim hx h3)]; omega
def cnt(sh:Nat->Sh)(j:Nat)(key:Sh):Int:=part (fun k=>if sh k=key then 1 else 0) j
theorem zwV(sh:Nat->Sh)(key:Sh):∀j,0<=cnt sh j key/\cnt sh j key<=j
 | 0=>⟨Int.le_refl _,Int.le_refl _⟩
 | j+1=>by
  have:=zwV sh key j
  show 0<=cnt sh j key+(if sh j=key then 1 else 0)/\cnt sh j key+(if sh j=key then 1 else 0)<=_
  split <;> omega
theorem zwW(sh:Nat->Sh)(key:Sh):∀j,cnt sh j key ≠ 0↔∃k,k < j/\sh k=key
 | 0=>⟨fun h=>absurd rfl h,fun⟨k,h,_⟩=>by omega⟩
 | j+1=>by
  have h1:=zwV sh key j;have ih:=zwW sh key j
  show cnt sh j key+(if sh j=key then 1 else 0) ≠ 0↔_
  by_cases h:sh j=key
  ·rw[if_pos h]; exact⟨fun _=>⟨j,by omega,h⟩,fun _=>by omega⟩
  ·rw[if_neg h,show cnt sh j key+0=cnt sh j key by omega,ih]
   exact⟨fun⟨k,hk,he⟩=>⟨k,by omega,he⟩,fun⟨k,hk,he⟩=>⟨k,by rcases Nat.lt_succ_iff_lt_or_eq.1 hk with h2 | h2; exact h2; exact absurd (h2 ▸ he) h,he⟩⟩
def hM(sh:Nat->Sh)(j:Nat):Option (Sh->Option Int):=some fun key=>if cnt sh j key=0 then none else some (cnt sh j key)
theorem zwX(sh:Nat->Sh)(j:Nat)(key:Sh):zqJ (hM sh j) key=if cnt sh j key=0 then none else some (cnt sh j key):=rfl
theorem zwY(sh:Nat->Sh):hM sh 0=some fun _=>none:=rfl
theorem zwZ(sh:Nat->Sh)(j:Nat):zqK (hM sh j) (sh j) (cnt sh j (sh j)+1)=some (hM sh (j+1)):=by
 show some (some _)=some (some _)
 congr 2
 funext key
 have hc:cnt sh (j+1) key=cnt sh j key+if sh j=key then 1 else 0:=rfl;have hb:=zwV sh key j
 show(if key=sh j then some (cnt sh j (sh j)+1) else if cnt sh j key=0 then none else some (cnt sh j key))=if cnt sh (j+1) key=0 then none else some (cnt sh (j+1) key)
 rw[hc]
 by_cases h:key=sh j
 ·subst h; rw[if_pos rfl,if_pos rfl,if_neg (by omega)]
 ·rw[if_neg h];have h3:¬ sh j=key:=fun h'=>h h'.symm
  simp only[if_neg h3,Int.add_zero]
def gtN(r:Nat->Int)(x:Int):Int:=S5 fun k=>if x < r k then 1 else 0
def eqN(r:Nat->Int)(x:Int)(i:Nat):Int:=part (fun k=>if r k=x then 1 else 0) i
def zw0(r:Nat->Int)(i:Nat):Int:=gtN r (r i)+eqN r (r i) i
theorem zw1(r:Nat->Int)(x:Int):0<=gtN r x/\gtN r x<=5:=by
 have h:∀k,0<=(if x < r k then (1:Int) else 0)/\(if x < r k then (1:Int) else 0)<=1:=fun k=>by split <;> omega
 have:=h 0; have:=h 1; have:=h 2; have:=h 3; have:=h 4
 show 0<=(if x < r 0 then (1:Int) else 0)+(if x < r 1 then (1:Int) else 0)+(if x < r 2 then (1:Int) else 0)+(if x < r 3 then (1:Int) else 0)+(if x < r 4 then (1:Int) else 0)/\_<=(5:Int)
 unfold gtN S5
 dsimp only
 omega
theorem zw2(r:Nat->Int)(x:Int):∀i,0<=eqN r x i/\eqN r x i<=i
 | 0=>⟨Int.le_refl _,Int.le_refl _⟩
 | i+1=>by
  have:=zw2 r x i
  show 0<=eqN r x i+(if r i=x then 1 else 0)/\eqN r x i+(if r i=x then 1 else 0)<=_
  split <;> omega
def dv(sh:Nat->Sh):Dv:={ s0:=sh 0,s1:=sh 1,s2:=sh 2,s3:=sh 3,s4:=sh 4,having:=hM sh 5 }
def wK(sh:Nat->Sh)(x:Int)(key:Sh):Int:=if x < key.remainder then cnt sh 5 key else 0
theorem zw3(sh:Nat->Sh)(i:Nat)(hi:i < 5)(acc:Int)(ha:0<=acc/\acc<=5):ztr (dv sh) (i:Int) (sh i) (Int.toNat (((([(dv sh).s0,(dv sh).s1,(dv sh).s2,(dv sh).s3,(dv sh).s4]:List Sh).take (Int.toNat (i:Int))).drop (Int.toNat (0:Int))).length:Int)+1) acc (0:Int)=some (acc+eqN (fun k=>(sh k).remainder) (sh i).remainder i):=by
 have hl:((([(dv sh).s0,(dv sh).s1,(dv sh).s2,(dv sh).s3,(dv sh).s4]:List Sh).take (Int.toNat (i:Int))).drop (Int.toNat (0:Int)))=(l5 sh).take i:=rfl
 have hlen:((l5 sh).take i).length=i:=by rw[List.length_take]; show min i 5=i; omega
 rw[hl,hlen,show Int.toNat (i:Int)+1=i+1 from rfl];have key:=zww (n:=i) (fun d s x=>ztr (dv sh) (i:Int) (sh i) d s x) (fun k=>acc+eqN (fun k=>(sh k).remainder) (sh i).remainder k) (fin:=some (acc+eqN (fun k=>(sh k).remainder) (sh i).remainder i)) (fun d k hk=>?_) (fun d=>?_) (i+1) 0 (by omega) (by omega)
 ·have e:acc+eqN (fun k=>(sh k).remainder) (sh i).remainder 0=acc:=by show acc+0=acc; omega
  rw[e] at key; exact key
 ·have hb:=zw2 (fun k=>(sh k).remainder) (sh i).remainder k;have hs:eqN (fun k=>(sh k).remainder) (sh i).remainder (k+1)=eqN (fun k=>(sh k).remainder) (sh i).remainder k+if (sh k).remainder=(sh i).remainder then 1 else 0:=rfl
  show ztr (dv sh) (i:Int) (sh i) (d+1) _ _=_
  rw[ztr,hl,hlen,if_pos (by omega),zrF (show((l5 sh).take i)[k]? = some (sh k) by rw[List.getElem?_take,if_pos hk]; exact zwx (by omega)),obs]
  by_cases h:(sh k).remainder=(sh i).remainder
  ·rw[if_pos h,zqr (fI (by omega)),zqr (fI (by omega)),hs,if_pos h,Int.add_assoc]
  ·rw[if_neg h,zqr (fI (by omega)),hs,if_neg h,Int.add_zero]
 ·show ztr (dv sh) (i:Int) (sh i) (d+1) _ _=_
  rw[ztr,hl,hlen,if_neg (by omega)]
theorem zw4(sh:Nat->Sh)(i:Nat)(hi:i < 5){T:Int}(hT:T<=5):∀(d:Nat) (rem:List Sh) (acc:Int),rem.length < d->(∀a∈rem,zqJ (hM sh 5) a=some (cnt sh 5 a))->0<=acc->acc+zwO (rem.map (wK sh (sh i).remainder))=T ->
  pbefore_L0 (dv sh) (i:Int) (sh i) d acc rem=some (T+eqN (fun k=>(sh k).remainder) (sh i).remainder i)
 | 0,_,_,h,_,_,_=>by omega
 | d+1,rem,acc,h,hm,h0,hs=>by
  have hw:∀key,0<=wK sh (sh i).remainder key:=fun key=>by unfold wK; have:=zwV sh key 5; split <;> omega
  have hsum:∀l:List Sh,0<=zwO (l.map (wK sh (sh i).remainder)):=fun l=>by
   induction l with
   | nil=>exact Int.le_refl _
   | cons a l ih=>have:=hw a; show 0<=wK sh _ a+zwO (l.map _); omega
  unfold pbefore_L0;refine zrq (fun l1 a l2 hr=>?_) fun hr=>?_
  ·subst hr;have hc:=zwV sh a 5
   have hsp:zwO ((l1++a::l2).map (wK sh (sh i).remainder))=wK sh (sh i).remainder a+zwO ((l1++l2).map (wK sh (sh i).remainder)):=by
    rw[List.map_append,List.map_cons,zwP,List.map_append,zwP]
    show _+(wK sh _ a+_)=_; omega
   have hlen:(l1++l2).length < d:=by simp only[List.length_append,List.length_cons] at h ⊢; omega
   have hm':∀x∈l1++l2,zqJ (hM sh 5) x=some (cnt sh 5 x):=fun x hx=>hm x (by
    rcases List.mem_append.1 hx with h | h
    ·exact List.mem_append_left _ h
    ·exact List.mem_append_right _ (List.mem_cons_of_mem _ h))
   have h2:=hsum (l1++l2);rw[show zqJ (dv sh).having a=some (cnt sh 5 a) from hm a (by simp),obs]
   by_cases ha:(sh i).remainder < a.remainder
   ·have hwa:wK sh (sh i).remainder a=cnt sh 5 a:=if_pos ha;rw[if_pos ha,zqr (fI (by omega))];exact zw4 sh i hi hT d _ _ hlen hm' (by omega) (by omega)
   ·have hwa:wK sh (sh i).remainder a=0:=if_neg ha;rw[if_neg ha];exact zw4 sh i hi hT d _ _ hlen hm' h0 (by omega)
  ·subst hr
   have:acc=T:=by rw[<- hs]; show acc=acc+0; omega
   subst this;rw[zqr (by omega)];exact zw3 sh i hi acc ⟨h0,hT⟩
theorem zw5{sh:Nat->Sh}(hf:∀k,k < 5->MK.fit (sh k)){i:Nat}(hi:i < 5):zts (dv sh) (i:Int)=some (zw0 (fun k=>(sh k).remainder) i):=by
 unfold zts
 show(idx (l5 sh) (i:Int)).bind _=_
 rw[zwy hi,obs]
 have hmem:∀key,(MK.fit key/\zqJ (hM sh 5) key ≠ none)↔∃k,k < 5/\sh k=key:=fun key=>by
  rw[zwX,<- zwW]
  by_cases h:cnt sh 5 key=0
  ·rw[if_pos h]; exact⟨fun h'=>absurd rfl h'.2,fun h'=>absurd h h'⟩
  ·rw[if_neg h];refine⟨fun _=>h,fun _=>⟨?_,Option.some_ne_none _⟩⟩;obtain⟨k,h1,rfl⟩:=(zwW sh key 5).1 h;exact hf k h1
 obtain⟨ks0,h1,h2⟩:=zwN (l5 sh)
 have hl5:∀key,key∈l5 sh↔∃k,k < 5/\sh k=key:=fun key=>by
  constructor
  ·intro h;obtain⟨k,hk⟩:=List.mem_iff_getElem?.1 h;have hk5:k < 5:=(List.getElem?_eq_some_iff.1 hk).1;rw[zwx hk5] at hk;exact⟨k,hk5,oi hk⟩
  ·rintro⟨k,hk,rfl⟩; exact List.mem_of_getElem? (zwx hk)
 refine zrm (ks0:=ks0) ⟨h1,fun k=>by rw[h2,hl5]; exact(hmem k).symm⟩ fun ks hk=>?_
 have hT:zwO (ks.map (wK sh (sh i).remainder))=gtN (fun k=>(sh k).remainder) (sh i).remainder:=by
  have e1:∀key,wK sh (sh i).remainder key=S5 (fun k=>if sh k=key then (if (sh i).remainder < (sh k).remainder then 1 else 0) else 0):=fun key=>by
   unfold wK cnt;rw[zwE]
   by_cases h:(sh i).remainder < key.remainder
   ·rw[if_pos h]
    exact zwS fun k _=>by
     by_cases hk:sh k=key
     ·rw[if_pos hk,if_pos hk,hk,if_pos h]
     ·rw[if_neg hk,if_neg hk]
   ·rw[if_neg h]
    have:S5 (fun k=>if sh k=key then (if (sh i).remainder < (sh k).remainder then 1 else 0) else 0)=S5 fun _=>0:=zwS fun k _=>by
     by_cases hk:sh k=key
     ·rw[if_pos hk,hk,if_neg h]
     ·rw[if_neg hk]
    rw[this]; rfl
  have e2:ks.map (wK sh (sh i).remainder)=ks.map fun key=>S5 (fun k=>if sh k=key then (if (sh i).remainder < (sh k).remainder then 1 else 0) else 0):=List.map_congr_left fun key _=>e1 key;rw[e2,zwT (fun key k=>if sh k=key then (if (sh i).remainder < (sh k).remainder then (1:Int) else 0) else 0)];unfold gtN
  exact zwS fun k hk5=>by
   rw[zwU _ _ ks hk.1,if_pos ((hk.2 (sh k)).2 ((hmem (sh k)).2 ⟨k,hk5,rfl⟩))]
 have hg:=zw1 (fun k=>(sh k).remainder) (sh i).remainder
 exact zw4 sh i hi hg.2 _ ks 0 (by omega) (fun a ha=>by
  have:=((hk.2 a).1 ha).2;rw[show(dv sh).having=hM sh 5 from rfl,zwX] at this;rw[zwX]
  by_cases h:cnt sh 5 a=0
  ·rw[if_pos h] at this; exact absurd rfl this
  ·rw[if_neg h]) (Int.le_refl _) (by rw[hT]; omega)
end
end Go.Proofs.Ytkclhciahokifaa

