/- An evaluator of code, its soundness, and what functions of the program do. Condition: none; a lemma text. -/
import Derived.Test.YtkcmdghjgoaggaaGreatTwG

namespace Go.Proofs.YtkcmdghjgoaggaaGreat
open _root_.Go.Proofs.Tryz
open Go.Abs
set_option maxRecDepth 100000
noncomputable section
def zvp(f:M)(x:C)(g:Ty->Int->Int->Option (Int)):Prop:=c0B x=true/\∀(f' m:M) (a0:Ty) (a1:Int) (a2:Int) (r:Int) (Q:V->M->Prop),Sub f f'->Pre f' m->g a0 a1 a2=some r->(∀m',Ext m m'->Q (.c (.int .i64 r)) m')->zmw prog tbl [.agg 7 [(.int .i64 a0.Kind),(.int .i64 a0.Part),(.int .i64 a0.Above),(.int .i64 a0.Most),(.int .i64 a0.Times),(.int .i64 a0.Price),(.int .i64 a0.Of)],.c (.int .i64 a1),.c (.int .i64 a2)] x m Q
theorem zvp.sub{f m:M}{x:C}{g:Ty->Int->Int->Option (Int)}(h:zvp f x g)(s:Sub f m):zvp m x g:=⟨h.1,fun f' m' a0 a1 a2 r Q hs=>h.2 f' m' a0 a1 a2 r Q (s.trans hs)⟩
def zvq(f:M)(x:C)(g:Rg->Option (Bool)):Prop:=∀(f' m:M) (a0:Rg) (r:Bool) (Q:V->M->Prop),Sub f f'->Pre f' m->g a0=some r->(∀m',Ext m m'->Q (.c (.bool r)) m')->zmw prog tbl [.agg 2 [(.int .i64 a0.Lo),(.int .i64 a0.Hi)]] x m Q
theorem zvq.sub{f m:M}{x:C}{g:Rg->Option (Bool)}(h:zvq f x g)(s:Sub f m):zvq m x g:=fun f' m' a0 r Q hs=>h f' m' a0 r Q (s.trans hs)
def zvr(f:M)(x:C)(g:Ty->Option (Bool)):Prop:=∀(f' m:M) (a0:Ty) (r:Bool) (Q:V->M->Prop),Sub f f'->Pre f' m->g a0=some r->(∀m',Ext m m'->Q (.c (.bool r)) m')->zmw prog tbl [.agg 7 [(.int .i64 a0.Kind),(.int .i64 a0.Part),(.int .i64 a0.Above),(.int .i64 a0.Most),(.int .i64 a0.Times),(.int .i64 a0.Price),(.int .i64 a0.Of)]] x m Q
theorem zvr.sub{f m:M}{x:C}{g:Ty->Option (Bool)}(h:zvr f x g)(s:Sub f m):zvr m x g:=fun f' m' a0 r Q hs=>h f' m' a0 r Q (s.trans hs)
def zvs(f:M)(x:C)(g:Rpt->Option (Bool)):Prop:=∀(f' m:M) (a0:Rpt) (r:Bool) (Q:V->M->Prop),Sub f f'->Pre f' m->g a0=some r->(∀m',Ext m m'->Q (.c (.bool r)) m')->zmw prog tbl [.agg 3 [(.int .i64 a0.Treaty),(.int .i64 a0.Paid.Lo),(.int .i64 a0.Paid.Hi)]] x m Q
theorem zvs.sub{f m:M}{x:C}{g:Rpt->Option (Bool)}(h:zvs f x g)(s:Sub f m):zvs m x g:=fun f' m' a0 r Q hs=>h f' m' a0 r Q (s.trans hs)
def zvt(f:M)(x:C)(g:Int->Option (Bool)):Prop:=∀(f' m:M) (a0:Int) (r:Bool) (Q:V->M->Prop),Sub f f'->Pre f' m->g a0=some r->(∀m',Ext m m'->Q (.c (.bool r)) m')->zmw prog tbl [.c (.int .i64 a0)] x m Q
theorem zvt.sub{f m:M}{x:C}{g:Int->Option (Bool)}(h:zvt f x g)(s:Sub f m):zvt m x g:=fun f' m' a0 r Q hs=>h f' m' a0 r Q (s.trans hs)
theorem zvu:KL prog 156 Mt:=zqR (n:=6) (ks:=[.int .i64,.int .i64,.int .i64,.int .i64,.int .i64,.int .i64]) (by kernel_rfl) (by kernel_rfl) (cs:=fun k=>[.int .i64 k.loss,.int .i64 k.paid.p0,.int .i64 k.paid.p1,.int .i64 k.paid.p2,.int .i64 k.paid.p3,.int .i64 k.paid.p4]) (fun _=>rfl) fun a b fa fb=>⟨_,_,(zqQ (zqN fa.1 fb.1) (zqQ (zqN fa.2.1 fb.2.1) (zqQ (zqN fa.2.2.1 fb.2.2.1) (zqQ (zqN fa.2.2.2.1 fb.2.2.2.1) (zqQ (zqN fa.2.2.2.2.1 fb.2.2.2.2.1) (zqQ (zqN fa.2.2.2.2.2.1 fb.2.2.2.2.2.1) zqP)))))),⟨fun h=>by obtain⟨aloss,⟨apaidp0,apaidp1,apaidp2,apaidp3,apaidp4⟩⟩:=a; obtain⟨bloss,⟨bpaidp0,bpaidp1,bpaidp2,bpaidp3,bpaidp4⟩⟩:=b; simp_all,fun h=>by subst h; exact⟨rfl,rfl,rfl,rfl,rfl,rfl,trivial⟩⟩⟩
theorem zvv:TA prog 27 1:=⟨3,by kernel_rfl,by kernel_rfl,by kernel_rfl⟩
theorem zvw:TA prog 34 7:=⟨121,by kernel_rfl,by kernel_rfl,by kernel_rfl⟩
theorem zvx:TA prog 35 3:=⟨123,by kernel_rfl,by kernel_rfl,by kernel_rfl⟩
theorem zvy:TA prog 125 2:=⟨164,by kernel_rfl,by kernel_rfl,by kernel_rfl⟩
theorem zvz{n:Int}{low:Int}{high:Int}{m f:M}{Q:V->M->Prop}{rz:Bool}(hS:Pre f m)(hp:zsu n low high=some rz)(hq:∀m',Ext m m'->Q (.c (.bool rz)) m'):Wc prog tbl 65 [.c (Il n),.c (Il low),.c (Il high)] m Q:=by
 have d:=hS.st;obtain⟨e,_⟩:=zsk;refine w65 ?_;unfold zsu at hp;refine ifd hp (fun a hp=>?_) fun a hp=>?_
 ·obtain rfl:=oi hp;exact hq _ d.ext'
 obtain rfl:=oi hp;exact hq _ d.ext'
theorem zvA{r:Rg}{low:Int}{high:Int}{m f:M}{Q:V->M->Prop}{rz:Bool}(hS:Pre f m)(hp:zsv r low high=some rz)(hq:∀m',Ext m m'->Q (.c (.bool rz)) m'):Wc prog tbl 92 [.agg 2 [Il r.Lo,Il r.Hi],.c (Il low),.c (Il high)] m Q:=by
 have i:=hS.st;obtain⟨j,_⟩:=zsk;refine w92 ?_;unfold zsv at hp;intro o e;obtain⟨l,d,n,a⟩:=i.blk e j 1;refine⟨trivial,_,a.bk.rc rfl,?_⟩;refine ifd hp (fun g hp=>?_) fun g hp=>?_; rotate_left
 ·obtain rfl:=oi hp;exact hq _ d.ext'
 refine⟨trivial,_,a.bk.rc rfl,trivial,_,a.bk.rc rfl,?_⟩;refine ifd hp (fun h hp=>?_) fun h hp=>?_; rotate_left
 ·obtain rfl:=oi hp;exact hq _ d.ext'
 refine⟨trivial,_,a.bk.rc rfl,?_⟩;obtain rfl:=oi hp;exact hq _ d.ext'
theorem zvB{r:Rg}{m f:M}{Q:V->M->Prop}{rz:Int}(hS:Pre f m)(hp:zsw r=some rz)(hq:∀m',Ext m m'->Q (.c (Il rz)) m'):Wc prog tbl 94 [.agg 2 [Il r.Lo,Il r.Hi]] m Q:=by
 have i:=hS.st;obtain⟨j,_⟩:=zsk;refine w94 ?_;unfold zsw at hp;intro o d;obtain⟨l,e,n,a⟩:=i.blk d j 1;refine⟨trivial,_,a.bk.rc rfl,trivial,_,a.bk.rc rfl,?_⟩;refine gdi hp fun g hp=>?_;refine gdi hp fun h hp=>?_;obtain rfl:=oi hp;exact hq _ e.ext'
theorem zvC{t:Ty}{number:Int}{m f:M}{Q:V->M->Prop}{rz:Bool}(hS:Pre f m)(hp:zsx t number=some rz)(hq:∀m',Ext m m'->Q (.c (.bool rz)) m'):Wc prog tbl 93 [.agg 7 [Il t.Kind,Il t.Part,Il t.Above,Il t.Most,Il t.Times,Il t.Price,Il t.Of],.c (Il number)] m Q:=by
 have S0:=hS.st;obtain⟨τ0,_⟩:=zsk;refine w93 ?_;unfold zsx at hp;intro m0 s;obtain⟨e,o,oa,p⟩:=S0.blk s τ0 1;refine⟨trivial,_,p.bk.rc rfl,?_⟩;obtain⟨pa,u,hp⟩:=zqp hp;refine zvz (n:=t.Price) (low:=(0:Int)) (high:=(1000:Int)) o.pre  u fun m3 w=>?_;obtain⟨h,y⟩:=o.call w e;have q:=p.k y;refine⟨_,rfl,?_⟩;refine zq2 hp (fun z hp=>?_) fun z hp=>?_
 ·obtain rfl:=oi hp;exact hq _ h.ext'
 refine⟨trivial,_,q.bk.rc rfl,?_⟩;refine gdi hp fun A hp=>?_;obtain⟨qa,B,hp⟩:=zqp hp;refine zvz (n:=t.Of) (low:=(-1:Int)) (high:=(number - 1)) h.pre  B fun m7 D=>?_;obtain⟨i,F⟩:=h.call D e;have r:=q.k F;refine⟨_,rfl,?_⟩;refine zq2 hp (fun G hp=>?_) fun G hp=>?_
 ·obtain rfl:=oi hp;exact hq _ i.ext'
 refine⟨trivial,_,r.bk.rc rfl,?_⟩;obtain⟨sa,I,hp⟩:=zqp hp;refine zvz (n:=t.Times) (low:=(0:Int)) (high:=(3:Int)) i.pre  I fun xa J=>?_;obtain⟨a,N⟩:=i.call J e;have d:=r.k N;refine⟨_,rfl,?_⟩;refine zq2 hp (fun O hp=>?_) fun O hp=>?_
 ·obtain rfl:=oi hp;exact hq _ a.ext'
 refine⟨trivial,_,d.bk.rc rfl,?_⟩;refine ifd hp (fun P hp=>?_) fun P hp=>?_
 ·refine⟨trivial,_,d.bk.rc rfl,?_⟩;obtain⟨ta,S,hp⟩:=zqp hp;refine zvz (n:=t.Part) (low:=(1:Int)) (high:=(100:Int)) a.pre  S fun ya T=>?_;obtain⟨g,Y⟩:=a.call T e;have j:=d.k Y;refine⟨_,rfl,?_⟩;refine zq1 hp (fun Z hp=>?_) fun Z hp=>?_; rotate_left
  ·obtain rfl:=oi hp;exact hq _ g.ext'
  refine⟨trivial,_,j.bk.rc rfl,?_⟩;refine ifd hp (fun aa hp=>?_) fun aa hp=>?_; rotate_left
  ·obtain rfl:=oi hp;exact hq _ g.ext'
  refine⟨trivial,_,j.bk.rc rfl,?_⟩;refine ifd hp (fun ba hp=>?_) fun ba hp=>?_; rotate_left
  ·obtain rfl:=oi hp;exact hq _ g.ext'
  refine⟨trivial,_,j.bk.rc rfl,?_⟩;obtain rfl:=oi hp;exact hq _ g.ext'
 refine⟨trivial,_,d.bk.rc rfl,?_⟩;refine ifd hp (fun ca hp=>?_) fun ca hp=>?_; rotate_left
 ·obtain rfl:=oi hp;exact hq _ a.ext'
 refine⟨trivial,_,d.bk.rc rfl,?_⟩;refine ifd hp (fun da hp=>?_) fun da hp=>?_; rotate_left
 ·obtain rfl:=oi hp;exact hq _ a.ext'
 refine⟨trivial,_,d.bk.rc rfl,?_⟩;obtain⟨ua,ea,hp⟩:=zqp hp;refine zvz (n:=t.Above) (low:=(0:Int)) (high:=(1000:Int)) a.pre  ea fun za fa=>?_;obtain⟨l,ga⟩:=a.call fa e;have ha:=d.k ga;refine⟨_,rfl,?_⟩;refine zq1 hp (fun ia hp=>?_) fun ia hp=>?_; rotate_left
 ·obtain rfl:=oi hp;exact hq _ l.ext'
 refine⟨trivial,_,ha.bk.rc rfl,?_⟩;obtain⟨va,ja,hp⟩:=zqp hp;refine zvz (n:=t.Most) (low:=(1:Int)) (high:=(1000:Int)) l.pre  ja fun Aa ka=>?_;obtain⟨la,wa⟩:=l.call ka e;refine⟨_,rfl,?_⟩;obtain rfl:=oi hp;exact hq _ la.ext'
theorem zvD{p:Pg}{ca100 ca102 ca103:C}{m f:M}{Q:V->M->Prop}{rz:Int}(hS:Pre f m)(ha100:Sl f ca100 p.Losses)(_ha102:Sl f ca102 p.Treaties)(_ha103:Sl f ca103 p.Reports)(hp:zsz p=some rz)(hq:∀m',Ext m m'->Q (.c (Il rz)) m'):Wc prog tbl 52 [.agg 4 [ca100,Il p.Reserve,ca102,ca103]] m Q:=by
 have S:=hS.st;obtain⟨T,_⟩:=zsk;refine w52 ?_;unfold zsz at hp;intro m0 q;obtain⟨s,t,Y,a⟩:=S.blk q T 1;intro Z P
 have hgo:∀(g:Nat) (l:Int) (n:Int) (j:M) (d:Nat->Nat),St (Fm.of m) f f j->Lb (Fm.of m) f d j 1 m.nxt 4 [ca100,Il p.Reserve,ca102,ca103]->zsy p g l n=some rz->Z [.c (Il l),.c (Il n)] j:=by
  intro g
  induction g with
  | zero=>intro l n j d e a hp; cases hp
  | succ g u=>
   intro l n j d e a hp;refine P _ _ _ ?_;rw[zsy] at hp;refine⟨trivial,_,a.bk.rc rfl,ha100.isSl,?_⟩
   try rw[ha100.slLen]
   refine ifd hp (fun w hp=>?_) fun w hp=>?_; rotate_left
   ·obtain rfl:=oi hp;exact hq _ e.ext'
   refine⟨trivial,_,a.bk.rc rfl,?_⟩;obtain⟨y,h,hp⟩:=zqp hp;obtain⟨n7,o,i,h⟩:=zqj h;obtain⟨_,z⟩:=zsm ha100 h;refine⟨n7,o,(by first|exact i|(rw[ha100.slLen];exact i)),_,_,(z _ e.sub).1,?_⟩;obtain⟨ba,A,hp⟩:=zqp hp;refine zvB (r:=y) e.pre  A fun ca B=>?_;obtain⟨D,F⟩:=e.call B d;have G:=a.k F;refine⟨_,rfl,?_⟩;refine gdi hp fun I hp=>?_;refine gdi hp fun J hp=>?_;refine gdi hp fun N hp=>?_;refine gdi hp fun O hp=>?_;exact u _ _ _ d D G hp
 exact hgo _ _ _ _ s t a hp
theorem zvE{p:Pg}{ca100 ca102 ca103:C}{m f:M}{Q:V->M->Prop}{rz:Int}(hS:Pre f m)(ha100:Sl f ca100 p.Losses)(ha102:Sl f ca102 p.Treaties)(ha103:Sl f ca103 p.Reports)(hp:zsC p=some rz)(hq:∀m',Ext m m'->Q (.c (Il rz)) m'):Wc prog tbl 51 [.agg 4 [ca100,Il p.Reserve,ca102,ca103]] m Q:=by
 have S0:=hS.st;obtain⟨τ0,_⟩:=zsk;refine w51 ?_;unfold zsC at hp;intro m0 pa;obtain⟨Z,i,wb,j⟩:=S0.blk pa τ0 1;refine⟨trivial,_,j.bk.rc rfl,ha100.isSl,?_⟩
 try rw[ha100.slLen]
 refine ifd hp (fun qa hp=>?_) fun qa hp=>?_
 ·obtain rfl:=oi hp;exact hq _ i.ext'
 refine⟨trivial,_,j.bk.rc rfl,ha102.isSl,?_⟩
 try rw[ha102.slLen]
 refine ifd hp (fun sa hp=>?_) fun sa hp=>?_
 ·obtain rfl:=oi hp;exact hq _ i.ext'
 refine⟨trivial,_,j.bk.rc rfl,ha103.isSl,?_⟩
 try rw[ha103.slLen]
 refine ifd hp (fun ta hp=>?_) fun ta hp=>?_
 ·obtain rfl:=oi hp;exact hq _ i.ext'
 refine⟨trivial,_,j.bk.rc rfl,?_⟩;obtain⟨xb,ua,hp⟩:=zqp hp;refine zvz (n:=p.Reserve) (low:=(0:Int)) (high:=(10000:Int)) i.pre  ua fun m6 va=>?_;obtain⟨aa,wa⟩:=i.call va Z;have a:=j.k wa;refine⟨_,rfl,?_⟩;refine zq2 hp (fun xa hp=>?_) fun xa hp=>?_
 ·obtain rfl:=oi hp;exact hq _ aa.ext'
 intro R8 mb
 have hgo:∀(q:Nat) (x9:Int) (J:Int) (A:M) (e:Nat->Nat),St (Fm.of m) f f A->Lb (Fm.of m) f e A 1 m.nxt 4 [ca100,Il p.Reserve,ca102,ca103]->zsB p q x9 J=some rz->R8 [.c (Il x9),.c (Il J)] A:=by
  intro q
  induction q with
  | zero=>intro x9 J A e l a hp; cases hp
  | succ q ya=>
   intro x9 J A e l a hp;refine mb _ _ _ ?_;rw[zsB] at hp;refine⟨trivial,_,a.bk.rc rfl,ha100.isSl,?_⟩
   try rw[ha100.slLen]
   refine ifd hp (fun za hp=>?_) fun za hp=>?_
   ·refine⟨trivial,_,a.bk.rc rfl,?_⟩;obtain⟨Aa,G,hp⟩:=zqp hp;obtain⟨ob,ja,N,G⟩:=zqj G;obtain⟨_,Ba⟩:=zsm ha100 G;refine⟨ob,ja,(by first|exact N|(rw[ha100.slLen];exact N)),_,_,(Ba _ l.sub).1,?_⟩;obtain⟨zb,Ca,hp⟩:=zqp hp;refine zvA (r:=Aa) (low:=(0:Int)) (high:=(1000:Int)) l.pre  Ca fun Fb Da=>?_;obtain⟨ba,Ea⟩:=l.call Da e;have Fa:=a.k Ea;refine⟨_,rfl,?_⟩;refine zq2 hp (fun Ga hp=>?_) fun Ga hp=>?_
    ·obtain rfl:=oi hp;exact hq _ ba.ext'
    refine gdi hp fun Ha hp=>?_;exact ya _ _ _ e ba Fa hp
   intro pb Ia
   have hgo:∀(s:Nat) (O:Int) (B:Int) (D:M) (g:Nat->Nat),St (Fm.of m) f f D->Lb (Fm.of m) f g D 1 m.nxt 4 [ca100,Il p.Reserve,ca102,ca103]->zsA p s O B=some rz->pb [.c (Il O),.c (Il B)] D:=by
    intro s
    induction s with
    | zero=>intro O B D g o a hp; cases hp
    | succ s ka=>
     intro O B D g o a hp;refine Ia _ _ _ ?_;rw[zsA] at hp;refine⟨trivial,_,a.bk.rc rfl,ha102.isSl,?_⟩
     try rw[ha102.slLen]
     refine ifd hp (fun Ja hp=>?_) fun Ja hp=>?_
     ·refine⟨trivial,_,a.bk.rc rfl,?_⟩;obtain⟨Ka,I,hp⟩:=zqp hp;obtain⟨qb,la,P,I⟩:=zqj I;obtain⟨_,La⟩:=zso ha102 I;refine⟨qb,la,(by first|exact P|(rw[ha102.slLen];exact P)),_,_,_,_,_,_,_,(La _ o.sub).1,?_⟩;obtain⟨Ab,Ma,hp⟩:=zqp hp;refine zvC (t:=Ka) (number:=B) o.pre  Ma fun Gb Na=>?_;obtain⟨ca,Oa⟩:=o.call Na g;have Pa:=a.k Oa;refine⟨_,rfl,?_⟩;refine zq2 hp (fun Qa hp=>?_) fun Qa hp=>?_
      ·obtain rfl:=oi hp;exact hq _ ca.ext'
      refine gdi hp fun Ra hp=>?_;exact ka _ _ _ g ca Pa hp
     intro rb Sa
     have hgo:∀(u:Nat) (da:Int) (S:Int) (F:M) (d:Nat->Nat),St (Fm.of m) f f F->Lb (Fm.of m) f d F 1 m.nxt 4 [ca100,Il p.Reserve,ca102,ca103]->prFault_L2 p u S=some rz->rb [.c (Il da),.c (Il S)] F:=by
      intro u
      induction u with
      | zero=>intro da S F d h a hp; cases hp
      | succ u ma=>
       intro da S F d h a hp;refine Sa _ _ _ ?_;rw[prFault_L2] at hp;refine⟨trivial,_,a.bk.rc rfl,ha103.isSl,?_⟩
       try rw[ha103.slLen]
       refine ifd hp (fun Ta hp=>?_) fun Ta hp=>?_; rotate_left
       ·refine⟨_,_,_,_,a.bk.ra,?_⟩;obtain⟨Bb,Ua,hp⟩:=zqp hp;refine zvD (p:=p) h.pre ha100 ha102 ha103 Ua fun Hb Va=>?_;obtain⟨ea,Cb⟩:=h.call Va d;refine⟨_,rfl,?_⟩;refine ifd hp (fun Wa hp=>?_) fun Wa hp=>?_
        ·obtain rfl:=oi hp;exact hq _ ea.ext'
        obtain rfl:=oi hp;exact hq _ ea.ext'
       refine⟨trivial,_,a.bk.rc rfl,?_⟩;obtain⟨Xa,w,hp⟩:=zqp hp;obtain⟨sb,na,T,w⟩:=zqj w;obtain⟨_,Ya⟩:=zsq ha103 w;refine⟨sb,na,(by first|exact T|(rw[ha103.slLen];exact T)),(ha103.isPt w _),_,((Ya _ h.sub).2.1 0 _ rfl),trivial,_,a.bk.rc rfl,ha102.isSl,?_⟩;obtain⟨fa,hp⟩:=zqq hp;refine⟨(by first|exact fa|(rw[ha102.slLen];exact fa)),?_⟩
       try rw[ha102.slLen]
       obtain⟨Db,Za,hp⟩:=zqp hp;refine zvz (n:=Xa.Treaty) (low:=(0:Int)) (high:=((p.Treaties.length:Int) - (1:Int))) h.pre  Za fun Ib ab=>?_;obtain⟨y,bb⟩:=h.call ab d;have ga:=a.k bb;refine⟨_,rfl,?_⟩;refine zq2 hp (fun cb hp=>?_) fun cb hp=>?_
       ·obtain rfl:=oi hp;exact hq _ y.ext'
       refine⟨trivial,_,ga.bk.rc rfl,?_⟩;obtain⟨db,z,hp⟩:=zqp hp;obtain⟨tb,oa,Y,z⟩:=zqj z;obtain⟨_,eb⟩:=zsq ha103 z;refine⟨tb,oa,(by first|exact Y|(rw[ha103.slLen];exact Y)),(ha103.isPt z _),_,_,((eb _ y.sub).2.2 1 2 (by omega) (by decide)),?_⟩;obtain⟨Eb,fb,hp⟩:=zqp hp;refine zvA (r:=db.Paid) (low:=(0:Int)) (high:=(10000:Int)) y.pre  fb fun Jb gb=>?_;obtain⟨ha,hb⟩:=y.call gb d;have ib:=ga.k hb;refine⟨_,rfl,?_⟩;refine zq2 hp (fun jb hp=>?_) fun jb hp=>?_
       ·obtain rfl:=oi hp;exact hq _ ha.ext'
       refine gdi hp fun kb hp=>?_;exact ma _ _ _ d ha ib hp
     exact hgo _ _ _ _ g o a hp
   exact hgo _ _ _ _ e l a hp
 exact hgo _ _ _ _ Z aa a hp
theorem zvF{p:Pg}{ca100 ca102 ca103:C}{m f:M}{Q:V->M->Prop}{rz:Int}(hS:Pre f m)(_ha100:Sl f ca100 p.Losses)(ha102:Sl f ca102 p.Treaties)(_ha103:Sl f ca103 p.Reports)(hp:zsG p=some rz)(hq:∀m',Ext m m'->Q (.c (Il rz)) m'):Wc prog tbl 22 [.agg 4 [ca100,Il p.Reserve,ca102,ca103]] m Q:=by
 have n:=hS.st;obtain⟨o,_⟩:=zsk;refine w22 ?_;unfold zsG at hp;intro s h;obtain⟨q,i,r,j⟩:=n.blk h o 1;refine⟨trivial,_,j.bk.rc rfl,ha102.isSl,?_⟩;refine gdi hp fun l hp=>?_;obtain⟨a,hp⟩:=zqq hp;refine⟨(by first|exact a|(rw[ha102.slLen];exact a)),?_⟩;obtain⟨d,hp⟩:=zqq hp;refine⟨(by first|exact d|(rw[ha102.slLen];exact d)),?_⟩;obtain⟨e,hp⟩:=zqq hp;refine⟨(by first|exact e|(rw[ha102.slLen];exact e)),?_⟩;obtain⟨g,hp⟩:=zqq hp;refine⟨(by first|exact g|(rw[ha102.slLen];exact g)),?_⟩
 try rw[ha102.slLen]
 obtain rfl:=oi hp;exact hq _ i.ext'
theorem zvG{bits:Int}{m f:M}{Q:V->M->Prop}{rz:List Int}(hS:Pre f m)(hp:zsT bits=some rz)(hq:∀m' f' c0,Grw m f m' f'->Sl f' c0 rz->Q (.c c0) m'):Wc prog tbl 37 [.c (Il bits)] m Q:=by
 have S0:=hS.st;obtain⟨τ0,_⟩:=zsk;refine w37 ?_;unfold zsT at hp;intro R0 da
 have hgo:∀(d:Nat) (l:C) (j:Int) (e:List Int) (n:M) (g:Nat->Nat),St (Fm.of m) f f n->Ow (Fm.of m) f g n 1 l e->zsS bits d e j=some rz->R0 [.c l,.c (Il j)] n:=by
  intro d
  induction d with
  | zero=>intro l j e n g h i hp; cases hp
  | succ d o=>
   intro l j e n g h i hp;refine da _ _ _ ?_;rw[zsS] at hp;refine gdi hp fun p hp=>?_;refine gdi hp fun q hp=>?_;refine gdi hp fun r hp=>?_;refine gdi hp fun s hp=>?_;refine ifd hp (fun t hp=>?_) fun t hp=>?_; rotate_left
   ·obtain⟨u,w,ea,y⟩:=i.freeze h;obtain rfl:=oi hp;exact hq _ u l w.grw y
   refine gdi hp fun z hp=>?_;refine gdi hp fun A hp=>?_;refine gdi hp fun B hp=>?_;refine gdi hp fun D hp=>?_;refine gdi hp fun F hp=>?_;refine gdi hp fun G hp=>?_;refine gdi hp fun I hp=>?_;refine ifd hp (fun J hp=>?_) fun J hp=>?_; rotate_left
   ·refine gdi hp fun N hp=>?_;exact o _ _ _ _ g h i hp
   obtain⟨O,hp⟩:=zqq hp;intro m4 P;obtain⟨S,T,Y,Z,aa,fa,ba⟩:=i.app' zvv h (a:=j) (show Rp.rep (α:=Int) f _ j from rfl) O P;refine⟨S,T,Z,?_⟩;refine gdi hp fun ca hp=>?_;exact o _ _ _ _ Y aa ba hp
 exact hgo _ _ _ _ _ τ0 S0 (Ow.nil _ _ _ _ _) hp
theorem zvH{r:Rg}{n:Int}{m f:M}{Q:V->M->Prop}{rz:Bool}(hS:Pre f m)(hp:zsU r n=some rz)(hq:∀m',Ext m m'->Q (.c (.bool rz)) m'):Wc prog tbl 95 [.agg 2 [Il r.Lo,Il r.Hi],.c (Il n)] m Q:=by
 have j:=hS.st;obtain⟨l,_⟩:=zsk;refine w95 ?_;unfold zsU at hp;intro o e;obtain⟨h,a,i,d⟩:=j.blk e l 1;refine⟨trivial,_,d.bk.rc rfl,?_⟩;refine ifd hp (fun g hp=>?_) fun g hp=>?_; rotate_left
 ·obtain rfl:=oi hp;exact hq _ a.ext'
 refine⟨trivial,_,d.bk.rc rfl,?_⟩;obtain rfl:=oi hp;exact hq _ a.ext'
theorem zvI{r:Rg}{other:Rg}{m f:M}{Q:V->M->Prop}{rz:Bool}(hS:Pre f m)(hp:zsV r other=some rz)(hq:∀m',Ext m m'->Q (.c (.bool rz)) m'):Wc prog tbl 101 [.agg 2 [Il r.Lo,Il r.Hi],.agg 2 [Il other.Lo,Il other.Hi]] m Q:=by
 have t:=hS.st;obtain⟨u,_⟩:=zsk;refine zu1 ?_;unfold zsV at hp;intro w g;obtain⟨h,i,q,j⟩:=t.blk g u 1;intro y l;obtain⟨s,d,n,a⟩:=i.blk l h 2;have e:=j.k n;refine⟨trivial,_,e.bk.rc rfl,trivial,_,a.bk.rc rfl,?_⟩;refine ifd hp (fun o hp=>?_) fun o hp=>?_; rotate_left
 ·obtain rfl:=oi hp;exact hq _ d.ext'
 refine⟨trivial,_,a.bk.rc rfl,trivial,_,a.bk.rc rfl,?_⟩;refine ifd hp (fun p hp=>?_) fun p hp=>?_; rotate_left
 ·obtain rfl:=oi hp;exact hq _ d.ext'
 refine⟨trivial,_,a.bk.rc rfl,trivial,_,e.bk.rc rfl,?_⟩;obtain rfl:=oi hp;exact hq _ d.ext'
theorem zvJ{last:Int}{m f:M}{Q:V->M->Prop}{rz:Rg}(hS:Pre f m)(hp:zsW last=some rz)(hq:∀m',Ext m m'->Q (.agg 2 [Il rz.Lo,Il rz.Hi]) m'):Wc prog tbl 100 [.c (Il last)] m Q:=by
 have p:=hS.st;obtain⟨q,_⟩:=zsk;refine zuS ?_;unfold zsW at hp;intro r a;obtain⟨l,d,n,e⟩:=p.blk a q 1;obtain⟨g,h,i,o,j⟩:=e.sto d [Il 0,Il last];refine⟨g,h,?_⟩;refine⟨_,_,j.bk.ra,?_⟩;obtain rfl:=oi hp;exact hq _ i.ext'
theorem zvK{l:List Int}{ca100:C}{m f:M}{Q:V->M->Prop}{rz:Int}(hS:Pre f m)(ha100:Sl f ca100 l)(hp:zsY l=some rz)(hq:∀m',Ext m m'->Q (.c (Il rz)) m'):Wc prog tbl 109 [.c ca100] m Q:=by
 have A:=hS.st;obtain⟨G,_⟩:=zsk;refine zu3 ?_;unfold zsY at hp;refine⟨ha100.isSl,?_⟩
 try rw[ha100.slLen]
 refine ifd hp (fun q hp=>?_) fun q hp=>?_
 ·obtain rfl:=oi hp;exact hq _ A.ext'
 obtain⟨D,g,hp⟩:=zqp hp;obtain⟨I,n,i,g⟩:=zqj g;refine⟨I,n,(by first|exact i|(rw[ha100.slLen];exact i)),_,(ha100.rdI g A.sub),ha100.isSl,?_⟩;intro J B
 have hgo:∀(d:Nat) (r:Int) (s:Int) (t:M) (e:Nat->Nat),St (Fm.of m) f f t->zsX l d r s=some rz->J [.c (Il r),.c (Il s)] t:=by
  intro d
  induction d with
  | zero=>intro r s t e a hp; cases hp
  | succ d o=>
   intro r s t e a hp;refine B _ _ _ ?_;rw[zsX] at hp
   try rw[ha100.slLen]
   refine ifd hp (fun u hp=>?_) fun u hp=>?_; rotate_left
   ·obtain rfl:=oi hp;exact hq _ a.ext'
   obtain⟨F,h,hp⟩:=zqp hp;obtain⟨N,p,j,h⟩:=zqj h;refine⟨N,p,(by first|exact j|(rw[ha100.slLen];exact j)),_,(ha100.rdI h a.sub),?_⟩;refine ifd hp (fun w hp=>?_) fun w hp=>?_
   ·refine gdi hp fun y hp=>?_;exact o _ _ _ e a hp
   refine gdi hp fun z hp=>?_;exact o _ _ _ e a hp
 exact hgo _ _ _ _ G A hp
theorem zvL{l:List Int}{ca100:C}{m f:M}{Q:V->M->Prop}{rz:Int}(hS:Pre f m)(ha100:Sl f ca100 l)(hp:zs0 l=some rz)(hq:∀m',Ext m m'->Q (.c (Il rz)) m'):Wc prog tbl 110 [.c ca100] m Q:=by
 have y:=hS.st;obtain⟨D,_⟩:=zsk;refine zvb ?_;unfold zs0 at hp;refine⟨ha100.isSl,?_⟩
 try rw[ha100.slLen]
 refine ifd hp (fun p hp=>?_) fun p hp=>?_
 ·cases hp
 obtain⟨A,e,hp⟩:=zqp hp;obtain⟨F,n,i,e⟩:=zqj e;refine⟨F,n,(by first|exact i|(rw[ha100.slLen];exact i)),_,(ha100.rdI e y.sub),?_⟩;intro G z
 have hgo:∀(a:Nat) (q:Int) (r:Int) (s:M) (g:Nat->Nat),St (Fm.of m) f f s->zsZ l a q r=some rz->G [.c (Il q),.c (Il r)] s:=by
  intro a
  induction a with
  | zero=>intro q r s g d hp; cases hp
  | succ a w=>
   intro q r s g d hp;refine z _ _ _ ?_;rw[zsZ] at hp;refine⟨ha100.isSl,?_⟩
   try rw[ha100.slLen]
   refine ifd hp (fun t hp=>?_) fun t hp=>?_; rotate_left
   ·obtain rfl:=oi hp;exact hq _ d.ext'
   obtain⟨B,h,hp⟩:=zqp hp;obtain⟨I,o,j,h⟩:=zqj h;refine⟨I,o,(by first|exact j|(rw[ha100.slLen];exact j)),_,(ha100.rdI h d.sub),?_⟩;refine gdi hp fun u hp=>?_;exact w _ _ _ g d hp
 exact hgo _ _ _ _ D y hp
theorem zvM{t:Ty}{reaches:Int}{x:Int}{m f:M}{Q:V->M->Prop}{rz:Int}(hS:Pre f m)(hp:zs1 t reaches x=some rz)(hq:∀m',Ext m m'->Q (.c (Il rz)) m'):Wc prog tbl 118 [.agg 7 [Il t.Kind,Il t.Part,Il t.Above,Il t.Most,Il t.Times,Il t.Price,Il t.Of],.c (Il reaches),.c (Il x)] m Q:=by
 have q:=hS.st;obtain⟨r,_⟩:=zsk;refine zvd ?_;unfold zs1 at hp;intro s a;obtain⟨o,d,p,e⟩:=q.blk a r 1;refine⟨trivial,_,e.bk.rc rfl,?_⟩;refine gdi hp fun g hp=>?_;refine gdi hp fun h hp=>?_;refine gdi hp fun i hp=>?_;refine gdi hp fun j hp=>?_;refine gdi hp fun l hp=>?_;refine gdi hp fun n hp=>?_;obtain rfl:=oi hp;exact hq _ d.ext'
theorem zvN{t:Ty}{reaches:Int}{paid:Int}{m f:M}{Q:V->M->Prop}{rz:Int}(hS:Pre f m)(hp:zs2 t reaches paid=some rz)(hq:∀m',Ext m m'->Q (.c (Il rz)) m'):Wc prog tbl 119 [.agg 7 [Il t.Kind,Il t.Part,Il t.Above,Il t.Most,Il t.Times,Il t.Price,Il t.Of],.c (Il reaches),.c (Il paid)] m Q:=by
 have P:=hS.st;obtain⟨S,_⟩:=zsk;refine zvl ?_;unfold zs2 at hp;intro T h;obtain⟨i,j,G,a⟩:=P.blk h S 1;refine⟨trivial,_,a.bk.rc rfl,?_⟩;obtain⟨n,hp⟩:=zqq hp;refine⟨n,trivial,_,a.bk.rc rfl,trivial,_,a.bk.rc rfl,trivial,_,a.bk.rc rfl,?_⟩;refine gdi hp fun o hp=>?_;refine gdi hp fun p hp=>?_;refine gdi hp fun q hp=>?_;refine gdi hp fun r hp=>?_;refine gdi hp fun s hp=>?_;intro Y u;obtain⟨w,y,I,z⟩:=j.blk u i 2;obtain⟨d,e,J,g⟩:=z.freeze y;have A:Sl d (C.sl T.nxt 0 3 0 (Option.some 3)) ([(max (0:Int) (reaches - t.Above)),t.Most,((t.Most * (t.Times+(1:Int))) - paid)]:List Int):=Bk.sl (α:=Int) (l:=([(max (0:Int) (reaches - t.Above)),t.Most,((t.Most * (t.Times+(1:Int))) - paid)]:List Int)) g (show Cat (α:=Int) d [(Il (max (0:Int) (reaches - t.Above))),Il t.Most,(Il ((t.Most * (t.Times+(1:Int))) - paid))] ([(max (0:Int) (reaches - t.Above)),t.Most,((t.Most * (t.Times+(1:Int))) - paid)]:List Int) from ⟨[(Il (max (0:Int) (reaches - t.Above)))],_,rfl,rfl,⟨[Il t.Most],_,rfl,rfl,⟨[(Il ((t.Most * (t.Times+(1:Int))) - paid))],_,rfl,rfl,rfl⟩⟩⟩) rfl rfl _;obtain⟨N,B,hp⟩:=zqp hp;refine zvK (l:=([(max (0:Int) (reaches - t.Above)),t.Most,((t.Most * (t.Times+(1:Int))) - paid)]:List Int)) e.pre A B fun Z D=>?_;obtain⟨F,O⟩:=e.call D w;refine⟨_,rfl,?_⟩;obtain rfl:=oi hp;exact hq _ F.ext'
theorem zvO{m f:M}{Q:V->M->Prop}{rz:K2}(hS:Pre f m)(hp:zs3=some rz)(hq:∀m' f' c8 c17,Grw m f m' f'->zvp f' c8 rz.k0.takes->zvp f' c17 rz.k1.takes->Q (.agg 18 [Il rz.k0.part.Lo,Il rz.k0.part.Hi,Il rz.k0.above.Lo,Il rz.k0.above.Hi,Il rz.k0.most.Lo,Il rz.k0.most.Hi,Il rz.k0.times.Lo,Il rz.k0.times.Hi,c8,Il rz.k1.part.Lo,Il rz.k1.part.Hi,Il rz.k1.above.Lo,Il rz.k1.above.Hi,Il rz.k1.most.Lo,Il rz.k1.most.Hi,Il rz.k1.times.Lo,Il rz.k1.times.Hi,c17]) m'):Wc prog tbl 96 [] m Q:=by
 have T:=hS.st;obtain⟨Y,_⟩:=zsk;refine w96 ?_;unfold zs3 at hp;intro Z s;obtain⟨a,c,P,t⟩:=T.blk s Y 1;obtain⟨d,u,hp⟩:=zqp hp;refine zvJ (last:=(1000:Int)) c.pre  u fun m2 w=>?_;obtain⟨e,y⟩:=c.call w a;have z:=t.k y;refine⟨_,_,rfl,?_⟩;obtain⟨g,A,hp⟩:=zqp hp;refine zvJ (last:=(3:Int)) e.pre  A fun m6 B=>?_;obtain⟨D,F⟩:=e.call B a;have G:=z.k F;refine⟨_,_,rfl,?_⟩;obtain⟨I,J,N,S,O⟩:=G.sto D [(Il (1:Int)),(Il (100:Int)),Il 0,Il 0,Il 0,Il 0,Il 0,Il 0,(C.fn (Fn.func 118) [] []),Il 0,Il 0,Il d.Lo,Il d.Hi,(Il (1:Int)),(Il (1000:Int)),Il g.Lo,Il g.Hi,(C.fn (Fn.func 119) [] [])];refine⟨I,J,?_⟩;refine⟨_,_,_,_,_,_,_,_,_,_,_,_,_,_,_,_,_,_,O.bk.ra,?_⟩
 have p:zvp f ((C.fn (Fn.func 118) [] [])) (fun h i j=>zs1 h i j):=by
  refine⟨rfl,?_⟩;intro f' m' h i j r Q hs hpre  hg hq;exact zvM hpre  hg hq
 have q:zvp f ((C.fn (Fn.func 119) [] [])) (fun l n o=>zs2 l n o):=by
  refine⟨rfl,?_⟩;intro f' m' l n o r Q hs hpre  hg hq;exact zvN hpre  hg hq
 obtain rfl:=oi hp;exact hq _ f (C.fn (Fn.func 118) [] []) (C.fn (Fn.func 119) [] []) N.grw p q
theorem zvP{k:Kd}{t:Ty}{ca108:C}{m f:M}{Q:V->M->Prop}{rz:Bool}(hS:Pre f m)(_ha108:zvp f ca108 k.takes)(hp:zs4 k t=some rz)(hq:∀m',Ext m m'->Q (.c (.bool rz)) m'):Wc prog tbl 125 [.agg 9 [Il k.part.Lo,Il k.part.Hi,Il k.above.Lo,Il k.above.Hi,Il k.most.Lo,Il k.most.Hi,Il k.times.Lo,Il k.times.Hi,ca108],.agg 7 [Il t.Kind,Il t.Part,Il t.Above,Il t.Most,Il t.Times,Il t.Price,Il t.Of]] m Q:=by
 have S0:=hS.st;obtain⟨τ0,_⟩:=zsk;refine zvm ?_;unfold zs4 at hp;intro m0 z;obtain⟨A,B,fa,D⟩:=S0.blk z τ0 1;intro m1 F;obtain⟨a,h,G,i⟩:=B.blk F A 2;have l:=D.k G;refine⟨trivial,_,_,l.bk.rp (k:=0) (j:=2) rfl (by omega),trivial,_,i.bk.rc rfl,?_⟩;obtain⟨ga,I,hp⟩:=zqp hp;refine zvH (r:=k.part) (n:=t.Part) h.pre  I fun m6 J=>?_;obtain⟨d,o⟩:=h.call J a;have p:=l.k o;have q:=i.k o;refine⟨_,rfl,?_⟩;refine zq1 hp (fun N hp=>?_) fun N hp=>?_; rotate_left
 ·obtain rfl:=oi hp;exact hq _ d.ext'
 refine⟨trivial,_,_,p.bk.rp (k:=2) (j:=2) rfl (by omega),trivial,_,q.bk.rc rfl,?_⟩;obtain⟨ha,O,hp⟩:=zqp hp;refine zvH (r:=k.above) (n:=t.Above) d.pre  O fun na P=>?_;obtain⟨e,s⟩:=d.call P a;have u:=p.k s;have w:=q.k s;refine⟨_,rfl,?_⟩;refine zq1 hp (fun S hp=>?_) fun S hp=>?_; rotate_left
 ·obtain rfl:=oi hp;exact hq _ e.ext'
 refine⟨trivial,_,_,u.bk.rp (k:=4) (j:=2) rfl (by omega),trivial,_,w.bk.rc rfl,?_⟩;obtain⟨ia,T,hp⟩:=zqp hp;refine zvH (r:=k.most) (n:=t.Most) e.pre  T fun oa Y=>?_;obtain⟨g,y⟩:=e.call Y a;have Z:=u.k y;have aa:=w.k y;refine⟨_,rfl,?_⟩;refine zq1 hp (fun ba hp=>?_) fun ba hp=>?_; rotate_left
 ·obtain rfl:=oi hp;exact hq _ g.ext'
 refine⟨trivial,_,_,Z.bk.rp (k:=6) (j:=2) rfl (by omega),trivial,_,aa.bk.rc rfl,?_⟩;obtain⟨ja,ca,hp⟩:=zqp hp;refine zvH (r:=k.times) (n:=t.Times) g.pre  ca fun pa da=>?_;obtain⟨ea,ka⟩:=g.call da a;refine⟨_,rfl,?_⟩;obtain rfl:=oi hp;exact hq _ ea.ext'
theorem zvQ{k:K2}{t:Ty}{ca108 ca117:C}{m f:M}{Q:V->M->Prop}{rz:Bool}(hS:Pre f m)(ha108:zvp f ca108 k.k0.takes)(ha117:zvp f ca117 k.k1.takes)(hp:zs5 k t=some rz)(hq:∀m',Ext m m'->Q (.c (.bool rz)) m'):Wc prog tbl 103 [.agg 18 [Il k.k0.part.Lo,Il k.k0.part.Hi,Il k.k0.above.Lo,Il k.k0.above.Hi,Il k.k0.most.Lo,Il k.k0.most.Hi,Il k.k0.times.Lo,Il k.k0.times.Hi,ca108,Il k.k1.part.Lo,Il k.k1.part.Hi,Il k.k1.above.Lo,Il k.k1.above.Hi,Il k.k1.most.Lo,Il k.k1.most.Hi,Il k.k1.times.Lo,Il k.k1.times.Hi,ca117],.agg 7 [Il t.Kind,Il t.Part,Il t.Above,Il t.Most,Il t.Times,Il t.Price,Il t.Of]] m Q:=by
 have S0:=hS.st;obtain⟨τ0,_⟩:=zsk;refine zvh ?_;unfold zs5 at hp;intro m0 F;obtain⟨G,I,Fa,J⟩:=S0.blk F τ0 1;intro m1 N;obtain⟨a,i,O,l⟩:=I.blk N G 2;have P:=J.k O;obtain⟨S,T,hp⟩:=zqp hp;refine zvJ (last:=(1:Int)) i.pre  T fun m3 Y=>?_;obtain⟨o,p⟩:=i.call Y a;have Z:=P.k p;have q:=l.k p;refine⟨_,_,rfl,trivial,_,q.bk.rc rfl,(l.bk.rc rfl),?_⟩;obtain⟨Ga,aa,hp⟩:=zqp hp;refine zvH (r:=S) (n:=t.Kind) o.pre  aa fun m8 ba=>?_;obtain⟨d,s⟩:=o.call ba a;have u:=Z.k s;have e:=q.k s;refine⟨_,rfl,?_⟩;refine zq1 hp (fun ca hp=>?_) fun ca hp=>?_; rotate_left
 ·obtain rfl:=oi hp;exact hq _ d.ext'
 refine⟨trivial,_,e.bk.rc rfl,trivial,?_⟩;refine spl hp (fun w hp=>?_) fun w hp=>?_
 ·refine⟨0,w.trans rfl,yak rfl,?_⟩;refine⟨_,_,_,_,_,_,_,_,_,u.bk.rp (k:=0) (j:=9) rfl (by omega),_,_,_,_,_,_,_,e.bk.ra,?_⟩;obtain⟨Ha,da,hp⟩:=zqp hp;refine zvP (k:=k.k0) (t:=t) d.pre ha108 da fun Ca ea=>?_;obtain⟨g,fa⟩:=d.call ea a;have y:=e.k fa;refine⟨_,rfl,?_⟩;refine zq1 hp (fun ga hp=>?_) fun ga hp=>?_; rotate_left
  ·obtain rfl:=oi hp;exact hq _ g.ext'
  obtain⟨ha,ia,hp⟩:=zqp hp;refine zvJ (last:=(1000:Int)) g.pre  ia fun Da ja=>?_;obtain⟨z,ka⟩:=g.call ja a;have la:=y.k ka;refine⟨_,_,rfl,trivial,_,la.bk.rc rfl,(y.bk.rc rfl),?_⟩;obtain⟨Ia,ma,hp⟩:=zqp hp;refine zvH (r:=ha) (n:=t.Price) z.pre  ma fun Ea na=>?_;obtain⟨oa,Ja⟩:=z.call na a;refine⟨_,rfl,?_⟩;obtain rfl:=oi hp;exact hq _ oa.ext'
 refine spl hp (fun A hp=>?_) fun A hp=>?_
 ·refine⟨1,A.trans rfl,yak rfl,?_⟩;refine⟨_,_,_,_,_,_,_,_,_,u.bk.rp (k:=9) (j:=9) rfl (by omega),_,_,_,_,_,_,_,e.bk.ra,?_⟩;obtain⟨Ka,pa,hp⟩:=zqp hp;refine zvP (k:=k.k1) (t:=t) d.pre ha117 pa fun Ca qa=>?_;obtain⟨h,sa⟩:=d.call qa a;have B:=e.k sa;refine⟨_,rfl,?_⟩;refine zq1 hp (fun ta hp=>?_) fun ta hp=>?_; rotate_left
  ·obtain rfl:=oi hp;exact hq _ h.ext'
  obtain⟨ua,va,hp⟩:=zqp hp;refine zvJ (last:=(1000:Int)) h.pre  va fun Da wa=>?_;obtain⟨D,xa⟩:=h.call wa a;have ya:=B.k xa;refine⟨_,_,rfl,trivial,_,ya.bk.rc rfl,(B.bk.rc rfl),?_⟩;obtain⟨La,za,hp⟩:=zqp hp;refine zvH (r:=ua) (n:=t.Price) D.pre  za fun Ea Aa=>?_;obtain⟨Ba,Ma⟩:=D.call Aa a;refine⟨_,rfl,?_⟩;obtain rfl:=oi hp;exact hq _ Ba.ext'
 cases hp
theorem zvR{p:Pg}{ca100 ca102 ca103:C}{m f:M}{Q:V->M->Prop}{rz:Bool}(hS:Pre f m)(ha100:Sl f ca100 p.Losses)(ha102:Sl f ca102 p.Treaties)(ha103:Sl f ca103 p.Reports)(hp:zs6 p=some rz)(hq:∀m',Ext m m'->Q (.c (.bool rz)) m'):Wc prog tbl 61 [.agg 4 [ca100,Il p.Reserve,ca102,ca103]] m Q:=by
 have l:=hS.st;obtain⟨n,_⟩:=zsk;refine w61 ?_;unfold zs6 at hp;intro o e;obtain⟨i,a,j,d⟩:=l.blk e n 1;refine⟨trivial,_,d.bk.rc rfl,ha100.isSl,?_⟩
 try rw[ha100.slLen]
 refine ifd hp (fun g hp=>?_) fun g hp=>?_
 ·obtain rfl:=oi hp;exact hq _ a.ext'
 refine⟨trivial,_,d.bk.rc rfl,ha102.isSl,?_⟩
 try rw[ha102.slLen]
 refine ifd hp (fun h hp=>?_) fun h hp=>?_
 ·obtain rfl:=oi hp;exact hq _ a.ext'
 refine⟨trivial,_,d.bk.rc rfl,ha103.isSl,?_⟩
 try rw[ha103.slLen]
 obtain rfl:=oi hp;exact hq _ a.ext'
theorem zvS{p:Pg}{n:Int}{ca100 ca102 ca103:C}{m f:M}{Q:V->M->Prop}{rz:Bool}(hS:Pre f m)(_ha100:Sl f ca100 p.Losses)(ha102:Sl f ca102 p.Treaties)(_ha103:Sl f ca103 p.Reports)(hp:zs7 p n=some rz)(hq:∀m',Ext m m'->Q (.c (.bool rz)) m'):Wc prog tbl 128 [.agg 4 [ca100,Il p.Reserve,ca102,ca103],.c (Il n)] m Q:=by
 have A:=hS.st;obtain⟨B,_⟩:=zsk;refine zu7 ?_;unfold zs7 at hp;intro D h;obtain⟨a,d,u,i⟩:=A.blk h B 1;refine⟨trivial,_,i.bk.rc rfl,ha102.isSl,?_⟩;obtain⟨e,hp⟩:=zqq hp;refine⟨(by first|exact e|(rw[ha102.slLen];exact e)),?_⟩
 try rw[ha102.slLen]
 obtain⟨j,l,hp⟩:=zqp hp;refine zvJ (last:=((p.Treaties.length:Int) - (1:Int))) d.pre  l fun F o=>?_;obtain⟨g,w⟩:=d.call o a;refine⟨_,_,rfl,?_⟩;obtain⟨y,q,hp⟩:=zqp hp;refine zvH (r:=j) (n:=n) g.pre  q fun G s=>?_;obtain⟨t,z⟩:=g.call s a;refine⟨_,rfl,?_⟩;obtain rfl:=oi hp;exact hq _ t.ext'
theorem zvT{p:Pg}{r:Rpt}{ca100 ca102 ca103:C}{m f:M}{Q:V->M->Prop}{rz:Bool}(hS:Pre f m)(ha100:Sl f ca100 p.Losses)(ha102:Sl f ca102 p.Treaties)(ha103:Sl f ca103 p.Reports)(hp:zs8 p r=some rz)(hq:∀m',Ext m m'->Q (.c (.bool rz)) m'):Wc prog tbl 106 [.agg 4 [ca100,Il p.Reserve,ca102,ca103],.agg 3 [Il r.Treaty,Il r.Paid.Lo,Il r.Paid.Hi]] m Q:=by
 have S0:=hS.st;obtain⟨τ0,_⟩:=zsk;refine zva ?_;unfold zs8 at hp;intro m0 l;obtain⟨o,q,S,s⟩:=S0.blk l τ0 1;intro m1 t;obtain⟨a,e,u,g⟩:=q.blk t o 2;have w:=s.k u;refine⟨_,_,_,_,w.bk.ra,trivial,_,g.bk.rc rfl,?_⟩;obtain⟨T,y,hp⟩:=zqp hp;refine zvS (p:=p) (n:=r.Treaty) e.pre ha100 ha102 ha103 y fun m8 z=>?_;obtain⟨d,A⟩:=e.call z a;have h:=g.k A;refine⟨_,rfl,?_⟩;refine zq1 hp (fun B hp=>?_) fun B hp=>?_; rotate_left
 ·obtain rfl:=oi hp;exact hq _ d.ext'
 obtain⟨D,F,hp⟩:=zqp hp;refine zvJ (last:=(10000:Int)) d.pre  F fun ca G=>?_;obtain⟨i,I⟩:=d.call G a;have J:=h.k I;refine⟨_,_,rfl,trivial,_,_,J.bk.rp (k:=1) (j:=2) rfl (by omega),(h.bk.rp (k:=1) (j:=2) rfl (by omega)),?_⟩;obtain⟨Y,N,hp⟩:=zqp hp;refine zvI (r:=D) (other:=r.Paid) i.pre  N fun da O=>?_;obtain⟨P,Z⟩:=i.call O a;refine⟨_,rfl,?_⟩;obtain rfl:=oi hp;exact hq _ P.ext'
theorem zvU{p:Pg}{ca100 ca102 ca103:C}{m f:M}{Q:V->M->Prop}{rz:Bool}(hS:Pre f m)(_ha100:Sl f ca100 p.Losses)(ha102:Sl f ca102 p.Treaties)(_ha103:Sl f ca103 p.Reports)(hp:zta p=some rz)(hq:∀m',Ext m m'->Q (.c (.bool rz)) m'):Wc prog tbl 104 [.agg 4 [ca100,Il p.Reserve,ca102,ca103]] m Q:=by
 have S0:=hS.st;obtain⟨τ0,_⟩:=zsk;refine zuT ?_;unfold zta at hp;intro m0 z;obtain⟨A,B,xa,d⟩:=S0.blk z τ0 1;refine⟨trivial,_,d.bk.rc rfl,ha102.isSl,?_⟩;intro R2 wa
 have hgo:∀(e:Nat) (b3:Bool) (u:Int) (w:M) (g:Nat->Nat),St (Fm.of m) f f w->Lb (Fm.of m) f g w 1 m.nxt 4 [ca100,Il p.Reserve,ca102,ca103]->zs9 p e u=some rz->R2 [.c (.bool b3),.c (Il u)] w:=by
  intro e
  induction e with
  | zero=>intro b3 u w g h d hp; cases hp
  | succ e va=>
   intro b3 u w g h d hp;refine wa _ _ _ ?_;rw[zs9] at hp
   try rw[ha102.slLen]
   refine ifd hp (fun D hp=>?_) fun D hp=>?_; rotate_left
   ·obtain rfl:=oi hp;exact hq _ h.ext'
   obtain⟨a,i,hp⟩:=zqp hp;obtain⟨n6,y,j,i⟩:=zqj i;obtain⟨_,F⟩:=zso ha102 i;refine⟨n6,y,(by first|exact j|(rw[ha102.slLen];exact j)),_,_,_,_,_,_,_,(F _ h.sub).1,?_⟩;intro Da G;obtain⟨I,J,N,O⟩:=h.blk G g 2;have P:=d.k N;obtain⟨S,T,Y,Z,aa⟩:=O.sto J [Il a.Kind,Il a.Part,Il a.Above,Il a.Most,Il a.Times,Il a.Price,Il a.Of];have ba:=P.k Z;refine⟨S,T,?_⟩;refine gdi hp fun ca hp=>?_;intro Ea da;obtain⟨l,ea,o,fa⟩:=Y.blk da I 3;have ga:=ba.k o;have ha:=aa.k o;obtain⟨ia,ja,q,s,ka⟩:=fa.sto ea [(Il (-1:Int)),(Il (u - 1))];have la:=ga.k s;have ma:=ha.k s;refine⟨ia,ja,?_⟩;refine⟨_,_,ka.bk.ra,trivial,_,ma.bk.rc rfl,?_⟩;obtain⟨ya,na,hp⟩:=zqp hp;refine zvH (r:=({ Lo:=(-1:Int),Hi:=(u - 1) }:Rg)) (n:=a.Of) q.pre  na fun Fa oa=>?_;obtain⟨t,pa⟩:=q.call oa l;have qa:=la.k pa;refine⟨_,rfl,?_⟩;refine zq2 hp (fun sa hp=>?_) fun sa hp=>?_
   ·obtain rfl:=oi hp;exact hq _ t.ext'
   refine gdi hp fun ta hp=>?_;exact va _ _ _ l t qa hp
 exact hgo _ _ _ _ A B d hp
theorem zvV{x:Rg}{passes:Rg->Option (Bool)}{b0:Nat}{cb000:C}{m f:M}{Q:V->M->Prop}{rz:Bool}(hS:Pre f m)(hb0:Bk f b0 1 [cb000])(hb000:zvq f cb000 passes)(hp:ztb x passes=some rz)(hq:∀m',Ext m m'->Q (.c (.bool rz)) m'):Wc prog tbl 122 [.agg 2 [Il x.Lo,Il x.Hi],.c (.ptr b0 0)] m Q:=by
 have p:=hS.st;obtain⟨q,_⟩:=zsk;refine zuN ?_;unfold ztb at hp;intro r d;obtain⟨e,a,l,g⟩:=p.blk d q 1;refine⟨_,(hb0.sub a.sub).rc rfl,_,_,g.bk.ra,?_⟩;obtain⟨n,h,hp⟩:=zqp hp;refine hb000 _ _ _ _ _ (Sub.refl _) a.pre  h fun s i=>?_;obtain⟨j,o⟩:=a.call i e;refine⟨_,rfl,?_⟩;obtain rfl:=oi hp;exact hq _ j.ext'
theorem zvW{l:List Rg}{p:Rg->Option (Bool)}{ca100 ca200:C}{m f:M}{Q:V->M->Prop}{rz:Int}(hS:Pre f m)(ha100:Sl f ca100 l)(ha200:zvq f ca200 p)(hp:ztd l p=some rz)(hq:∀m',Ext m m'->Q (.c (Il rz)) m'):Wc prog tbl 136 [.c ca100,.c ca200] m Q:=by
 have G:=hS.st;obtain⟨I,_⟩:=zsk;refine zu8 ?_;unfold ztd at hp;refine⟨ha100.isSl,?_⟩;intro J A
 have hgo:∀(d:Nat) (y:Int) (n:Int) (o:M) (e:Nat->Nat),St (Fm.of m) f f o->ztc l p d n=some rz->J [.c (Il y),.c (Il n)] o:=by
  intro d
  induction d with
  | zero=>intro y n o e a hp; cases hp
  | succ d z=>
   intro y n o e a hp;refine A _ _ _ ?_;rw[ztc] at hp
   try rw[ha100.slLen]
   refine ifd hp (fun q hp=>?_) fun q hp=>?_; rotate_left
   ·obtain rfl:=oi hp;exact hq _ a.ext'
   obtain⟨B,g,hp⟩:=zqp hp;obtain⟨N,j,h,g⟩:=zqj g;obtain⟨_,r⟩:=zsm ha100 g;refine⟨N,j,(by first|exact h|(rw[ha100.slLen];exact h)),_,_,(r _ a.sub).1,?_⟩;obtain⟨D,s,hp⟩:=zqp hp;refine ha200 _ _ _ _ _ (Sub.refl _) a.pre  s fun O t=>?_;obtain⟨i,F⟩:=a.call t e;refine⟨_,rfl,?_⟩;refine zq1 hp (fun u hp=>?_) fun u hp=>?_
   ·obtain rfl:=oi hp;exact hq _ i.ext'
   refine gdi hp fun w hp=>?_;exact z _ _ _ e i hp
 exact hgo _ _ _ _ I G hp
theorem zvX{l:List Rg}{p:Rg->Option (Bool)}{ca100 ca200:C}{m f:M}{Q:V->M->Prop}{rz:Bool}(hS:Pre f m)(ha100:Sl f ca100 l)(ha200:zvq f ca200 p)(hp:zte l p=some rz)(hq:∀m',Ext m m'->Q (.c (.bool rz)) m'):Wc prog tbl 121 [.c ca100,.c ca200] m Q:=by
 have g:=hS.st;obtain⟨j,_⟩:=zsk;refine zu6 ?_;unfold zte at hp;obtain⟨h,a,hp⟩:=zqp hp;refine zvW (l:=l) (p:=p) g.pre ha100 ha200 a fun n d=>?_;obtain⟨e,i⟩:=g.call d j;refine⟨_,rfl,?_⟩;obtain rfl:=oi hp;exact hq _ e.ext'
theorem zvY{l:List Rg}{passes:Rg->Option (Bool)}{ca100 ca200:C}{m f:M}{Q:V->M->Prop}{rz:Bool}(hS:Pre f m)(ha100:Sl f ca100 l)(ha200:zvq f ca200 passes)(hp:ztf l passes=some rz)(hq:∀m',Ext m m'->Q (.c (.bool rz)) m'):Wc prog tbl 99 [.c ca100,.c ca200] m Q:=by
 have A:=hS.st;obtain⟨B,_⟩:=zsk;refine w99 ?_;unfold ztf at hp;intro D i;obtain⟨j,n,w,o⟩:=A.blk i B 1;obtain⟨q,d,e,g⟩:=o.freeze n
 have h:zvq q ((C.fn (Fn.func 122) [] [(W.c (C0.ptr m.nxt 0))])) (fun a=>ztb a passes):=by
  intro f' m' a r Q hs hpre  hg hq;exact zvV hpre (g.sub hs) ((ha200.sub e.fs).sub hs) hg hq
 obtain⟨y,s,hp⟩:=zqp hp;refine zvX (l:=l) (p:=(fun a=>ztb a passes)) d.pre (ha100.sub e.fs) h s fun F t=>?_;obtain⟨u,z⟩:=d.call t j;refine⟨_,rfl,?_⟩;obtain rfl:=oi hp;exact hq _ u.ext'
theorem zvZ{x:Ty}{passes:Ty->Option (Bool)}{b0:Nat}{cb000:C}{m f:M}{Q:V->M->Prop}{rz:Bool}(hS:Pre f m)(hb0:Bk f b0 1 [cb000])(hb000:zvr f cb000 passes)(hp:ztg x passes=some rz)(hq:∀m',Ext m m'->Q (.c (.bool rz)) m'):Wc prog tbl 124 [.agg 7 [Il x.Kind,Il x.Part,Il x.Above,Il x.Most,Il x.Times,Il x.Price,Il x.Of],.c (.ptr b0 0)] m Q:=by
 have p:=hS.st;obtain⟨q,_⟩:=zsk;refine zuO ?_;unfold ztg at hp;intro s d;obtain⟨e,a,l,g⟩:=p.blk d q 1;refine⟨_,(hb0.sub a.sub).rc rfl,_,_,_,_,_,_,_,g.bk.ra,?_⟩;obtain⟨n,h,hp⟩:=zqp hp;refine hb000 _ _ _ _ _ (Sub.refl _) a.pre  h fun r i=>?_;obtain⟨j,o⟩:=a.call i e;refine⟨_,rfl,?_⟩;obtain rfl:=oi hp;exact hq _ j.ext'
theorem zv0{l:List Ty}{p:Ty->Option (Bool)}{ca100 ca200:C}{m f:M}{Q:V->M->Prop}{rz:Int}(hS:Pre f m)(ha100:Sl f ca100 l)(ha200:zvr f ca200 p)(hp:zti l p=some rz)(hq:∀m',Ext m m'->Q (.c (Il rz)) m'):Wc prog tbl 137 [.c ca100,.c ca200] m Q:=by
 have G:=hS.st;obtain⟨I,_⟩:=zsk;refine zvg ?_;unfold zti at hp;refine⟨ha100.isSl,?_⟩;intro J A
 have hgo:∀(d:Nat) (y:Int) (n:Int) (o:M) (e:Nat->Nat),St (Fm.of m) f f o->zth l p d n=some rz->J [.c (Il y),.c (Il n)] o:=by
  intro d
  induction d with
  | zero=>intro y n o e a hp; cases hp
  | succ d z=>
   intro y n o e a hp;refine A _ _ _ ?_;rw[zth] at hp
   try rw[ha100.slLen]
   refine ifd hp (fun q hp=>?_) fun q hp=>?_; rotate_left
   ·obtain rfl:=oi hp;exact hq _ a.ext'
   obtain⟨B,g,hp⟩:=zqp hp;obtain⟨N,j,h,g⟩:=zqj g;obtain⟨_,r⟩:=zso ha100 g;refine⟨N,j,(by first|exact h|(rw[ha100.slLen];exact h)),_,_,_,_,_,_,_,(r _ a.sub).1,?_⟩;obtain⟨D,s,hp⟩:=zqp hp;refine ha200 _ _ _ _ _ (Sub.refl _) a.pre  s fun O t=>?_;obtain⟨i,F⟩:=a.call t e;refine⟨_,rfl,?_⟩;refine zq1 hp (fun u hp=>?_) fun u hp=>?_
   ·obtain rfl:=oi hp;exact hq _ i.ext'
   refine gdi hp fun w hp=>?_;exact z _ _ _ e i hp
 exact hgo _ _ _ _ I G hp
theorem zv1{l:List Ty}{p:Ty->Option (Bool)}{ca100 ca200:C}{m f:M}{Q:V->M->Prop}{rz:Bool}(hS:Pre f m)(ha100:Sl f ca100 l)(ha200:zvr f ca200 p)(hp:ztj l p=some rz)(hq:∀m',Ext m m'->Q (.c (.bool rz)) m'):Wc prog tbl 123 [.c ca100,.c ca200] m Q:=by
 have g:=hS.st;obtain⟨j,_⟩:=zsk;refine zve ?_;unfold ztj at hp;obtain⟨h,a,hp⟩:=zqp hp;refine zv0 (l:=l) (p:=p) g.pre ha100 ha200 a fun n d=>?_;obtain⟨e,i⟩:=g.call d j;refine⟨_,rfl,?_⟩;obtain rfl:=oi hp;exact hq _ e.ext'
theorem zv2{l:List Ty}{passes:Ty->Option (Bool)}{ca100 ca200:C}{m f:M}{Q:V->M->Prop}{rz:Bool}(hS:Pre f m)(ha100:Sl f ca100 l)(ha200:zvr f ca200 passes)(hp:ztk l passes=some rz)(hq:∀m',Ext m m'->Q (.c (.bool rz)) m'):Wc prog tbl 102 [.c ca100,.c ca200] m Q:=by
 have A:=hS.st;obtain⟨B,_⟩:=zsk;refine zu9 ?_;unfold ztk at hp;intro D i;obtain⟨j,n,w,o⟩:=A.blk i B 1;obtain⟨q,d,e,g⟩:=o.freeze n
 have h:zvr q ((C.fn (Fn.func 124) [] [(W.c (C0.ptr m.nxt 0))])) (fun a=>ztg a passes):=by
  intro f' m' a r Q hs hpre  hg hq;exact zvZ hpre (g.sub hs) ((ha200.sub e.fs).sub hs) hg hq
 obtain⟨y,s,hp⟩:=zqp hp;refine zv1 (l:=l) (p:=(fun a=>ztg a passes)) d.pre (ha100.sub e.fs) h s fun F t=>?_;obtain⟨u,z⟩:=d.call t j;refine⟨_,rfl,?_⟩;obtain rfl:=oi hp;exact hq _ u.ext'
theorem zv3{x:Rpt}{passes:Rpt->Option (Bool)}{b0:Nat}{cb000:C}{m f:M}{Q:V->M->Prop}{rz:Bool}(hS:Pre f m)(hb0:Bk f b0 1 [cb000])(hb000:zvs f cb000 passes)(hp:ztl x passes=some rz)(hq:∀m',Ext m m'->Q (.c (.bool rz)) m'):Wc prog tbl 127 [.agg 3 [Il x.Treaty,Il x.Paid.Lo,Il x.Paid.Hi],.c (.ptr b0 0)] m Q:=by
 have p:=hS.st;obtain⟨q,_⟩:=zsk;refine zuP ?_;unfold ztl at hp;intro r d;obtain⟨e,a,l,g⟩:=p.blk d q 1;refine⟨_,(hb0.sub a.sub).rc rfl,_,_,_,g.bk.ra,?_⟩;obtain⟨n,h,hp⟩:=zqp hp;refine hb000 _ _ _ _ _ (Sub.refl _) a.pre  h fun s i=>?_;obtain⟨j,o⟩:=a.call i e;refine⟨_,rfl,?_⟩;obtain rfl:=oi hp;exact hq _ j.ext'
theorem zv4{l:List Rpt}{p:Rpt->Option (Bool)}{ca100 ca200:C}{m f:M}{Q:V->M->Prop}{rz:Int}(hS:Pre f m)(ha100:Sl f ca100 l)(ha200:zvs f ca200 p)(hp:ztn l p=some rz)(hq:∀m',Ext m m'->Q (.c (Il rz)) m'):Wc prog tbl 138 [.c ca100,.c ca200] m Q:=by
 have G:=hS.st;obtain⟨I,_⟩:=zsk;refine zvo ?_;unfold ztn at hp;refine⟨ha100.isSl,?_⟩;intro J A
 have hgo:∀(d:Nat) (y:Int) (n:Int) (o:M) (e:Nat->Nat),St (Fm.of m) f f o->ztm l p d n=some rz->J [.c (Il y),.c (Il n)] o:=by
  intro d
  induction d with
  | zero=>intro y n o e a hp; cases hp
  | succ d z=>
   intro y n o e a hp;refine A _ _ _ ?_;rw[ztm] at hp
   try rw[ha100.slLen]
   refine ifd hp (fun q hp=>?_) fun q hp=>?_; rotate_left
   ·obtain rfl:=oi hp;exact hq _ a.ext'
   obtain⟨B,g,hp⟩:=zqp hp;obtain⟨N,j,h,g⟩:=zqj g;obtain⟨_,r⟩:=zsq ha100 g;refine⟨N,j,(by first|exact h|(rw[ha100.slLen];exact h)),_,_,_,(r _ a.sub).1,?_⟩;obtain⟨D,s,hp⟩:=zqp hp;refine ha200 _ _ _ _ _ (Sub.refl _) a.pre  s fun O t=>?_;obtain⟨i,F⟩:=a.call t e;refine⟨_,rfl,?_⟩;refine zq1 hp (fun u hp=>?_) fun u hp=>?_
   ·obtain rfl:=oi hp;exact hq _ i.ext'
   refine gdi hp fun w hp=>?_;exact z _ _ _ e i hp
 exact hgo _ _ _ _ I G hp
theorem zv5{l:List Rpt}{p:Rpt->Option (Bool)}{ca100 ca200:C}{m f:M}{Q:V->M->Prop}{rz:Bool}(hS:Pre f m)(ha100:Sl f ca100 l)(ha200:zvs f ca200 p)(hp:zto l p=some rz)(hq:∀m',Ext m m'->Q (.c (.bool rz)) m'):Wc prog tbl 126 [.c ca100,.c ca200] m Q:=by
 have g:=hS.st;obtain⟨j,_⟩:=zsk;refine zuY ?_;unfold zto at hp;obtain⟨h,a,hp⟩:=zqp hp;refine zv4 (l:=l) (p:=p) g.pre ha100 ha200 a fun n d=>?_;obtain⟨e,i⟩:=g.call d j;refine⟨_,rfl,?_⟩;obtain rfl:=oi hp;exact hq _ e.ext'
theorem zv6{l:List Rpt}{passes:Rpt->Option (Bool)}{ca100 ca200:C}{m f:M}{Q:V->M->Prop}{rz:Bool}(hS:Pre f m)(ha100:Sl f ca100 l)(ha200:zvs f ca200 passes)(hp:ztp l passes=some rz)(hq:∀m',Ext m m'->Q (.c (.bool rz)) m'):Wc prog tbl 105 [.c ca100,.c ca200] m Q:=by
 have A:=hS.st;obtain⟨B,_⟩:=zsk;refine zu2 ?_;unfold ztp at hp;intro D i;obtain⟨j,n,w,o⟩:=A.blk i B 1;obtain⟨q,d,e,g⟩:=o.freeze n
 have h:zvs q ((C.fn (Fn.func 127) [] [(W.c (C0.ptr m.nxt 0))])) (fun a=>ztl a passes):=by
  intro f' m' a r Q hs hpre  hg hq;exact zv3 hpre (g.sub hs) ((ha200.sub e.fs).sub hs) hg hq
 obtain⟨y,s,hp⟩:=zqp hp;refine zv5 (l:=l) (p:=(fun a=>ztl a passes)) d.pre (ha100.sub e.fs) h s fun F t=>?_;obtain⟨u,z⟩:=d.call t j;refine⟨_,rfl,?_⟩;obtain rfl:=oi hp;exact hq _ u.ext'
theorem zv7{x:Int}{passes:Int->Option (Bool)}{b0:Nat}{cb000:C}{m f:M}{Q:V->M->Prop}{rz:Bool}(hS:Pre f m)(hb0:Bk f b0 1 [cb000])(hb000:zvt f cb000 passes)(hp:ztq x passes=some rz)(hq:∀m',Ext m m'->Q (.c (.bool rz)) m'):Wc prog tbl 131 [.c (Il x),.c (.ptr b0 0)] m Q:=by
 have g:=hS.st;obtain⟨j,_⟩:=zsk;refine zuQ ?_;unfold ztq at hp;refine⟨_,(hb0.sub g.sub).rc rfl,?_⟩;obtain⟨h,a,hp⟩:=zqp hp;refine hb000 _ _ _ _ _ (Sub.refl _) g.pre  a fun l d=>?_;obtain⟨e,i⟩:=g.call d j;refine⟨_,rfl,?_⟩;obtain rfl:=oi hp;exact hq _ e.ext'
theorem zv8{l:List Int}{p:Int->Option (Bool)}{ca100 ca200:C}{m f:M}{Q:V->M->Prop}{rz:Int}(hS:Pre f m)(ha100:Sl f ca100 l)(ha200:zvt f ca200 p)(hp:zts l p=some rz)(hq:∀m',Ext m m'->Q (.c (Il rz)) m'):Wc prog tbl 139 [.c ca100,.c ca200] m Q:=by
 have F:=hS.st;obtain⟨G,_⟩:=zsk;refine zu0 ?_;unfold zts at hp;refine⟨ha100.isSl,?_⟩;intro I z
 have hgo:∀(d:Nat) (w:Int) (n:Int) (o:M) (e:Nat->Nat),St (Fm.of m) f f o->ztr l p d n=some rz->I [.c (Il w),.c (Il n)] o:=by
  intro d
  induction d with
  | zero=>intro w n o e a hp; cases hp
  | succ d y=>
   intro w n o e a hp;refine z _ _ _ ?_;rw[ztr] at hp
   try rw[ha100.slLen]
   refine ifd hp (fun q hp=>?_) fun q hp=>?_; rotate_left
   ·obtain rfl:=oi hp;exact hq _ a.ext'
   obtain⟨A,g,hp⟩:=zqp hp;obtain⟨J,j,h,g⟩:=zqj g;refine⟨J,j,(by first|exact h|(rw[ha100.slLen];exact h)),_,(ha100.rdI g a.sub),?_⟩;obtain⟨B,r,hp⟩:=zqp hp;refine ha200 _ _ _ _ _ (Sub.refl _) a.pre  r fun N s=>?_;obtain⟨i,D⟩:=a.call s e;refine⟨_,rfl,?_⟩;refine zq1 hp (fun t hp=>?_) fun t hp=>?_
   ·obtain rfl:=oi hp;exact hq _ i.ext'
   refine gdi hp fun u hp=>?_;exact y _ _ _ e i hp
 exact hgo _ _ _ _ G F hp
theorem zv9{l:List Int}{p:Int->Option (Bool)}{ca100 ca200:C}{m f:M}{Q:V->M->Prop}{rz:Bool}(hS:Pre f m)(ha100:Sl f ca100 l)(ha200:zvt f ca200 p)(hp:ztt l p=some rz)(hq:∀m',Ext m m'->Q (.c (.bool rz)) m'):Wc prog tbl 130 [.c ca100,.c ca200] m Q:=by
 have g:=hS.st;obtain⟨j,_⟩:=zsk;refine zvf ?_;unfold ztt at hp;obtain⟨h,a,hp⟩:=zqp hp;refine zv8 (l:=l) (p:=p) g.pre ha100 ha200 a fun n d=>?_;obtain⟨e,i⟩:=g.call d j;refine⟨_,rfl,?_⟩;obtain rfl:=oi hp;exact hq _ e.ext'
theorem zwa{l:List Int}{passes:Int->Option (Bool)}{ca100 ca200:C}{m f:M}{Q:V->M->Prop}{rz:Bool}(hS:Pre f m)(ha100:Sl f ca100 l)(ha200:zvt f ca200 passes)(hp:ztu l passes=some rz)(hq:∀m',Ext m m'->Q (.c (.bool rz)) m'):Wc prog tbl 112 [.c ca100,.c ca200] m Q:=by
 have A:=hS.st;obtain⟨B,_⟩:=zsk;refine zuV ?_;unfold ztu at hp;intro D i;obtain⟨j,n,w,o⟩:=A.blk i B 1;obtain⟨q,d,e,g⟩:=o.freeze n
 have h:zvt q ((C.fn (Fn.func 131) [] [(W.c (C0.ptr m.nxt 0))])) (fun a=>ztq a passes):=by
  intro f' m' a r Q hs hpre  hg hq;exact zv7 hpre (g.sub hs) ((ha200.sub e.fs).sub hs) hg hq
 obtain⟨y,s,hp⟩:=zqp hp;refine zv9 (l:=l) (p:=(fun a=>ztq a passes)) d.pre (ha100.sub e.fs) h s fun F t=>?_;obtain⟨u,z⟩:=d.call t j;refine⟨_,rfl,?_⟩;obtain rfl:=oi hp;exact hq _ u.ext'
theorem zwb{l:List Int}{ca100:C}{m f:M}{Q:V->M->Prop}{rz:Bool}(hS:Pre f m)(ha100:Sl f ca100 l)(hp:ztw l=some rz)(hq:∀m',Ext m m'->Q (.c (.bool rz)) m'):Wc prog tbl 111 [.c ca100] m Q:=by
 have D:=hS.st;obtain⟨F,_⟩:=zsk;refine zvj ?_;unfold ztw at hp;intro G z
 have hgo:∀(d:Nat) (w:Bool) (p:Int) (q:M) (e:Nat->Nat),St (Fm.of m) f f q->ztv l d p=some rz->G [.c (.bool w),.c (Il p)] q:=by
  intro d
  induction d with
  | zero=>intro w p q e a hp; cases hp
  | succ d y=>
   intro w p q e a hp;refine z _ _ _ ?_;rw[ztv] at hp;refine⟨ha100.isSl,?_⟩
   try rw[ha100.slLen]
   refine ifd hp (fun r hp=>?_) fun r hp=>?_; rotate_left
   ·obtain rfl:=oi hp;exact hq _ a.ext'
   obtain⟨A,g,hp⟩:=zqp hp;obtain⟨I,n,i,g⟩:=zqj g;refine⟨I,n,(by first|exact i|(rw[ha100.slLen];exact i)),_,(ha100.rdI g a.sub),?_⟩;refine gdi hp fun s hp=>?_;obtain⟨B,h,hp⟩:=zqp hp;obtain⟨J,o,j,h⟩:=zqj h;refine⟨J,o,(by first|exact j|(rw[ha100.slLen];exact j)),_,(ha100.rdI h a.sub),?_⟩;refine ifd hp (fun t hp=>?_) fun t hp=>?_
   ·obtain rfl:=oi hp;exact hq _ a.ext'
   refine gdi hp fun u hp=>?_;exact y _ _ _ e a hp
 exact hgo _ _ _ _ F D hp
theorem zwc{p:Pg}{ca100 ca102 ca103:C}{m f:M}{Q:V->M->Prop}{rz:Bool}(hS:Pre f m)(ha100:Sl f ca100 p.Losses)(ha102:Sl f ca102 p.Treaties)(ha103:Sl f ca103 p.Reports)(hp:ztx p=some rz)(hq:∀m',Ext m m'->Q (.c (.bool rz)) m'):Wc prog tbl 62 [.agg 4 [ca100,Il p.Reserve,ca102,ca103]] m Q:=by
 have S0:=hS.st;obtain⟨τ0,_⟩:=zsk;refine w62 ?_;unfold ztx at hp;intro m0 ga;obtain⟨z,A,cb,ha⟩:=S0.blk ga τ0 1;obtain⟨a,ia,hp⟩:=zqp hp;refine zvO A.pre  ia fun m2 o q s ja B D=>?_;obtain⟨ka,d⟩:=A.callG ja z;have la:=ha.k d;refine⟨_,_,_,_,_,_,_,_,_,_,_,_,_,_,_,_,_,_,rfl,?_⟩;intro mb ma;obtain⟨e,na,oa,pa⟩:=ka.blk ma z 2;have qa:=la.k oa;obtain⟨sa,ta,F,ua,va⟩:=pa.sto na [Il a.k0.part.Lo,Il a.k0.part.Hi,Il a.k0.above.Lo,Il a.k0.above.Hi,Il a.k0.most.Lo,Il a.k0.most.Hi,Il a.k0.times.Lo,Il a.k0.times.Hi,q,Il a.k1.part.Lo,Il a.k1.part.Hi,Il a.k1.above.Lo,Il a.k1.above.Hi,Il a.k1.most.Lo,Il a.k1.most.Hi,Il a.k1.times.Lo,Il a.k1.times.Hi,s];have G:=qa.k ua;refine⟨sa,ta,?_⟩;refine⟨trivial,_,G.bk.rc rfl,?_⟩;obtain⟨g,wa,hp⟩:=zqp hp;refine zvJ (last:=(1000:Int)) F.pre  wa fun ob xa=>?_;obtain⟨I,J⟩:=F.call xa e;have N:=G.k J;have ya:=va.k J;refine⟨_,_,rfl,(by rw[show cmC _=true from zoV (ha100.noFn)]; exact(N.bk.rc rfl)),?_⟩
 have da:zvq o ((C.fn (Fn.func 101) [(W.agg 2 [(C0.int IntKind.i64 g.Lo),(C0.int IntKind.i64 g.Hi)])] [])) (fun h=>zsV g h):=by
  intro f' m' h r Q hs hpre  hg hq;exact zvI hpre  hg hq
 obtain⟨db,za,hp⟩:=zqp hp;refine zvY (l:=p.Losses) (passes:=(fun h=>zsV g h)) I.pre (ha100.sub d.fs) da za fun pb Aa=>?_;obtain⟨t,O⟩:=I.call Aa e;have P:=N.k O;have Ba:=ya.k O;refine⟨_,rfl,?_⟩;refine zq1 hp (fun Ca hp=>?_) fun Ca hp=>?_; rotate_left
 ·obtain rfl:=oi hp;exact hq _ t.ext'
 obtain⟨Da,Ea,hp⟩:=zqp hp;refine zvJ (last:=(10000:Int)) t.pre  Ea fun qb Fa=>?_;obtain⟨S,T⟩:=t.call Fa e;have Y:=P.k T;have Ga:=Ba.k T;refine⟨_,_,rfl,trivial,_,Y.bk.rc rfl,(P.bk.rc rfl),?_⟩;obtain⟨eb,Ha,hp⟩:=zqp hp;refine zvH (r:=Da) (n:=p.Reserve) S.pre  Ha fun rb Ia=>?_;obtain⟨u,Z⟩:=S.call Ia e;have aa:=Y.k Z;have Ja:=Ga.k Z;refine⟨_,rfl,?_⟩;refine zq1 hp (fun Ka hp=>?_) fun Ka hp=>?_; rotate_left
 ·obtain rfl:=oi hp;exact hq _ u.ext'
 refine⟨trivial,_,aa.bk.rc rfl,_,_,_,_,_,_,_,_,_,_,_,_,_,_,_,_,_,_,Ja.bk.ra,?_⟩;obtain⟨Wa,Ya,Za⟩:∃ws,zaE vW [.agg 18 [Il a.k0.part.Lo,Il a.k0.part.Hi,Il a.k0.above.Lo,Il a.k0.above.Hi,Il a.k0.most.Lo,Il a.k0.most.Hi,Il a.k0.times.Lo,Il a.k0.times.Hi,q,Il a.k1.part.Lo,Il a.k1.part.Hi,Il a.k1.above.Lo,Il a.k1.above.Hi,Il a.k1.most.Lo,Il a.k1.most.Hi,Il a.k1.times.Lo,Il a.k1.times.Hi,s]]=some ws/\zbZ wV ws=[.agg 18 [Il a.k0.part.Lo,Il a.k0.part.Hi,Il a.k0.above.Lo,Il a.k0.above.Hi,Il a.k0.most.Lo,Il a.k0.most.Hi,Il a.k0.times.Lo,Il a.k0.times.Hi,q,Il a.k1.part.Lo,Il a.k1.part.Hi,Il a.k1.above.Lo,Il a.k1.above.Hi,Il a.k1.most.Lo,Il a.k1.most.Hi,Il a.k1.times.Lo,Il a.k1.times.Hi,s]]:=(zqz (zrR (zrP rfl (zrP rfl (zrP rfl (zrP rfl (zrP rfl (zrP rfl (zrP rfl (zrP rfl (zrP B.1 (zrP rfl (zrP rfl (zrP rfl (zrP rfl (zrP rfl (zrP rfl (zrP rfl (zrP rfl (zrP D.1 zrO))))))))))))))))))) zqy);rw[Ya,zd6]
 have ea:zvr o ((C.fn (Fn.func 103) Wa [])) (fun i=>zs5 a i):=by
  intro f' m' i r Q hs hpre  hg hq
  show Wc prog tbl 103 (appS (zbZ wV Wa) _) m' Q
  rw[Za];exact zvQ hpre (B.sub hs) (D.sub hs) hg hq
 obtain⟨fb,La,hp⟩:=zqp hp;refine zv2 (l:=p.Treaties) (passes:=(fun i=>zs5 a i)) u.pre (ha102.sub d.fs) ea La fun sb Ma=>?_;obtain⟨w,Na⟩:=u.call Ma e;have ba:=aa.k Na;refine⟨_,rfl,?_⟩;refine zq1 hp (fun Oa hp=>?_) fun Oa hp=>?_; rotate_left
 ·obtain rfl:=oi hp;exact hq _ w.ext'
 refine⟨_,_,_,_,ba.bk.ra,?_⟩;obtain⟨gb,Pa,hp⟩:=zqp hp;refine zvU (p:=p) w.pre (ha100.sub d.fs) (ha102.sub d.fs) (ha103.sub d.fs) Pa fun tb Qa=>?_;obtain⟨y,Ra⟩:=w.call Qa e;have ca:=ba.k Ra;refine⟨_,rfl,?_⟩;refine zq1 hp (fun Sa hp=>?_) fun Sa hp=>?_; rotate_left
 ·obtain rfl:=oi hp;exact hq _ y.ext'
 refine⟨trivial,_,ca.bk.rc rfl,_,_,_,_,ca.bk.ra,?_⟩;obtain⟨Xa,ab,bb⟩:∃ws,zaE vW [.agg 4 [ca100,Il p.Reserve,ca102,ca103]]=some ws/\zbZ wV ws=[.agg 4 [ca100,Il p.Reserve,ca102,ca103]]:=(zqz (zqx (zqt ha100.noFn (zqt rfl (zqt ha102.noFn (zqt ha103.noFn zqu))))) zqy);rw[ab,zd6]
 have fa:zvs o ((C.fn (Fn.func 106) Xa [])) (fun j=>zs8 p j):=by
  intro f' m' j r Q hs hpre  hg hq
  show Wc prog tbl 106 (appS (zbZ wV Xa) _) m' Q
  rw[bb];exact zvT hpre ((ha100.sub d.fs).sub hs) ((ha102.sub d.fs).sub hs) ((ha103.sub d.fs).sub hs) hg hq
 obtain⟨hb,Ta,hp⟩:=zqp hp;refine zv6 (l:=p.Reports) (passes:=(fun j=>zs8 p j)) y.pre (ha103.sub d.fs) fa Ta fun ub Ua=>?_;obtain⟨Va,ib⟩:=y.call Ua e;refine⟨_,rfl,?_⟩;obtain rfl:=oi hp;exact hq _ Va.ext'
theorem zwd{r:Rg}{m f:M}{Q:V->M->Prop}{rz:Int}(hS:Pre f m)(hp:zty r=some rz)(hq:∀m',Ext m m'->Q (.c (Il rz)) m'):Wc prog tbl 107 [.agg 2 [Il r.Lo,Il r.Hi]] m Q:=by
 have l:=hS.st;obtain⟨n,_⟩:=zsk;refine zvi ?_;unfold zty at hp;intro o d;obtain⟨i,e,j,a⟩:=l.blk d n 1;refine⟨trivial,_,a.bk.rc rfl,trivial,_,a.bk.rc rfl,?_⟩;refine gdi hp fun g hp=>?_;refine gdi hp fun h hp=>?_;obtain rfl:=oi hp;exact hq _ e.ext'
theorem zwe{l:List Rg}{ca100:C}{m f:M}{Q:V->M->Prop}{rz:Int}(hS:Pre f m)(ha100:Sl f ca100 l)(hp:ztA l=some rz)(hq:∀m',Ext m m'->Q (.c (Il rz)) m'):Wc prog tbl 63 [.c ca100] m Q:=by
 have S0:=hS.st;obtain⟨τ0,_⟩:=zsk;refine w63 ?_;unfold ztA at hp;refine⟨ha100.isSl,?_⟩;intro R0 T
 have hgo:∀(a:Nat) (p:Int) (q:Int) (s:M) (e:Nat->Nat),St (Fm.of m) f f s->ztz l a p q=some rz->R0 [.c (Il p),.c (Il q)] s:=by
  intro a
  induction a with
  | zero=>intro p q s e d hp; cases hp
  | succ a S=>
   intro p q s e d hp;refine T _ _ _ ?_;rw[ztz] at hp
   try rw[ha100.slLen]
   refine ifd hp (fun t hp=>?_) fun t hp=>?_; rotate_left
   ·obtain rfl:=oi hp;exact hq _ d.ext'
   obtain⟨g,h,hp⟩:=zqp hp;obtain⟨n4,o,i,h⟩:=zqj h;obtain⟨_,u⟩:=zsm ha100 h;refine⟨n4,o,(by first|exact i|(rw[ha100.slLen];exact i)),_,_,(u _ d.sub).1,?_⟩;intro m7 w;obtain⟨j,y,Y,z⟩:=d.blk w e 1;obtain⟨A,B,n,Z,D⟩:=z.sto y [Il g.Lo,Il g.Hi];refine⟨A,B,?_⟩;refine⟨_,_,D.bk.ra,?_⟩;obtain⟨aa,F,hp⟩:=zqp hp;refine zwd (r:=g) n.pre  F fun ga G=>?_;obtain⟨I,ba⟩:=n.call G j;refine⟨_,rfl,?_⟩;refine gdi hp fun J hp=>?_;refine gdi hp fun N hp=>?_;refine gdi hp fun O hp=>?_;refine gdi hp fun P hp=>?_;exact S _ _ _ j I hp
 exact hgo _ _ _ _ τ0 S0 hp
theorem zwf{p:Pg}{ca100 ca102 ca103:C}{m f:M}{Q:V->M->Prop}{rz:List Rg}(hS:Pre f m)(ha100:Sl f ca100 p.Losses)(_ha102:Sl f ca102 p.Treaties)(_ha103:Sl f ca103 p.Reports)(hp:ztC p=some rz)(hq:∀m' f' c0,Grw m f m' f'->Sl f' c0 rz->Q (.c c0) m'):Wc prog tbl 64 [.agg 4 [ca100,Il p.Reserve,ca102,ca103]] m Q:=by
 have S0:=hS.st;obtain⟨τ0,_⟩:=zsk;refine w64 ?_;unfold ztC at hp;intro m0 w;obtain⟨y,z,oa,e⟩:=S0.blk w τ0 1;refine⟨trivial,_,e.bk.rc rfl,ha100.isSl,?_⟩;intro R2 na
 have hgo:∀(h:Nat) (t:C) (A:Int) (i:List Rg) (s:M) (g:Nat->Nat),St (Fm.of m) f f s->Lb (Fm.of m) f g s 1 m.nxt 4 [ca100,Il p.Reserve,ca102,ca103]->Ow (Fm.of m) f g s 2 t i->ztB p h i A=some rz->R2 [.c t,.c (Il A)] s:=by
  intro h
  induction h with
  | zero=>intro t A i s g j e d hp; cases hp
  | succ h ma=>
   intro t A i s g j e d hp;refine na _ _ _ ?_;rw[ztB] at hp
   try rw[ha100.slLen]
   refine ifd hp (fun B hp=>?_) fun B hp=>?_; rotate_left
   ·obtain⟨D,F,pa,G⟩:=d.freeze j;obtain rfl:=oi hp;exact hq _ D t F.grw G
   obtain⟨l,n,hp⟩:=zqp hp;obtain⟨n6,u,o,n⟩:=zqj n;obtain⟨_,I⟩:=zsm ha100 n;refine⟨n6,u,(by first|exact o|(rw[ha100.slLen];exact o)),_,_,(I _ j.sub).1,?_⟩;intro m9 J;obtain⟨qa,N,q,O⟩:=j.blk J g 3;have P:=e.k q;have d:=d.k q;obtain⟨S,T,Y,r,Z⟩:=O.sto N [Il l.Lo,Il l.Hi];have aa:=P.k r;have d:=d.k r;refine⟨S,T,?_⟩;refine⟨_,_,Z.bk.ra,?_⟩;obtain⟨ba,hp⟩:=zqq hp;intro wa ca;obtain⟨da,ea,fa,ga,ha,ia,ja⟩:=d.app' zvy Y (a:=l) (show Rp.rep (α:=Rg) f _ l from rfl) ba ca;have ka:=aa.k ia;refine⟨da,ea,ga,?_⟩;refine gdi hp fun la hp=>?_;exact ma _ _ _ _ fa ha ka ja hp
 exact hgo _ _ _ _ _ y z e (Ow.nil _ _ _ _ _) hp
theorem zwg{p:Pg}{ca100 ca102 ca103:C}{m f:M}{Q:V->M->Prop}{rz:Int}(hS:Pre f m)(ha100:Sl f ca100 p.Losses)(ha102:Sl f ca102 p.Treaties)(ha103:Sl f ca103 p.Reports)(hp:ztD p=some rz)(hq:∀m',Ext m m'->Q (.c (Il rz)) m'):Wc prog tbl 19 [.agg 4 [ca100,Il p.Reserve,ca102,ca103]] m Q:=by
 have S0:=hS.st;obtain⟨τ0,_⟩:=zsk;refine w19 ?_;unfold ztD at hp;intro m0 o;obtain⟨a,g,O,h⟩:=S0.blk o τ0 1;refine⟨_,_,_,_,h.bk.ra,?_⟩;obtain⟨P,q,hp⟩:=zqp hp;refine zvR (p:=p) g.pre ha100 ha102 ha103 q fun m6 r=>?_;obtain⟨d,s⟩:=g.call r a;have i:=h.k s;refine⟨_,rfl,?_⟩;refine zq1 hp (fun t hp=>?_) fun t hp=>?_
 ·obtain rfl:=oi hp;exact hq _ d.ext'
 refine⟨_,_,_,_,i.bk.ra,?_⟩;obtain⟨S,u,hp⟩:=zqp hp;refine zwc (p:=p) d.pre ha100 ha102 ha103 u fun ea w=>?_;obtain⟨e,y⟩:=d.call w a;have z:=i.k y;refine⟨_,rfl,?_⟩;refine zq2 hp (fun A hp=>?_) fun A hp=>?_
 ·obtain rfl:=oi hp;exact hq _ e.ext'
 refine⟨_,_,_,_,z.bk.ra,?_⟩;obtain⟨B,D,hp⟩:=zqp hp;refine zwf (p:=p) e.pre ha100 ha102 ha103 D fun fa T Y F G=>?_;obtain⟨j,Z⟩:=e.callG F a;refine⟨_,rfl,?_⟩;obtain⟨aa,I,hp⟩:=zqp hp;refine zwe (l:=B) j.pre G I fun ga J=>?_;obtain⟨n,ba⟩:=j.call J a;refine⟨_,rfl,?_⟩;refine ifd hp (fun N hp=>?_) fun N hp=>?_
 ·obtain rfl:=oi hp;exact hq _ n.ext'
 obtain rfl:=oi hp;exact hq _ n.ext'
theorem zwh{p:Pg}{losses:List Int}{ca100 ca102 ca103 ca200:C}{m f:M}{Q:V->M->Prop}{rz:Bool}(hS:Pre f m)(ha100:Sl f ca100 p.Losses)(_ha102:Sl f ca102 p.Treaties)(_ha103:Sl f ca103 p.Reports)(ha200:Sl f ca200 losses)(hp:ztF p losses=some rz)(hq:∀m',Ext m m'->Q (.c (.bool rz)) m'):Wc prog tbl 57 [.agg 4 [ca100,Il p.Reserve,ca102,ca103],.c ca200] m Q:=by
 have S0:=hS.st;obtain⟨τ0,_⟩:=zsk;refine w57 ?_;unfold ztF at hp;intro m0 A;obtain⟨B,s,na,a⟩:=S0.blk A τ0 1;refine⟨ha200.isSl,trivial,_,a.bk.rc rfl,ha100.isSl,?_⟩
 try rw[ha200.slLen]
 try rw[ha100.slLen]
 refine zq0 hp (fun D hp=>?_) fun D hp=>?_
 ·obtain rfl:=oi hp;exact hq _ s.ext'
 refine⟨trivial,_,a.bk.rc rfl,ha100.isSl,?_⟩;intro R3 la
 have hgo:∀(d:Nat) (b4:Bool) (F:Int) (w:M) (e:Nat->Nat),St (Fm.of m) f f w->Lb (Fm.of m) f e w 1 m.nxt 4 [ca100,Il p.Reserve,ca102,ca103]->ztE p losses d F=some rz->R3 [.c (.bool b4),.c (Il F)] w:=by
  intro d
  induction d with
  | zero=>intro b4 F w e g a hp; cases hp
  | succ d ka=>
   intro b4 F w e g a hp;refine la _ _ _ ?_;rw[ztE] at hp
   try rw[ha100.slLen]
   refine ifd hp (fun G hp=>?_) fun G hp=>?_; rotate_left
   ·obtain rfl:=oi hp;exact hq _ g.ext'
   obtain⟨h,i,hp⟩:=zqp hp;obtain⟨n7,y,o,i⟩:=zqj i;obtain⟨_,I⟩:=zsm ha100 i;refine⟨n7,y,(by first|exact o|(rw[ha100.slLen];exact o)),_,_,(I _ g.sub).1,?_⟩;intro ua J;obtain⟨t,N,O,P⟩:=g.blk J e 2;have S:=a.k O;obtain⟨T,Y,j,Z,aa⟩:=P.sto N [Il h.Lo,Il h.Hi];have ba:=S.k Z;refine⟨T,Y,?_⟩;refine⟨_,_,aa.bk.ra,?_⟩;obtain⟨ca,l,hp⟩:=zqp hp;obtain⟨ma,z,q,l⟩:=zqj l;refine⟨ma,z,(by first|exact q|(rw[ha200.slLen];exact q)),_,(ha200.rdI l j.sub),?_⟩;obtain⟨oa,da,hp⟩:=zqp hp;refine zvH (r:=h) (n:=ca) j.pre  da fun va ea=>?_;obtain⟨u,fa⟩:=j.call ea t;have ga:=ba.k fa;refine⟨_,rfl,?_⟩;refine zq2 hp (fun ha hp=>?_) fun ha hp=>?_
   ·obtain rfl:=oi hp;exact hq _ u.ext'
   refine gdi hp fun ia hp=>?_;exact ka _ _ _ t u ga hp
 exact hgo _ _ _ _ B s a hp
theorem zwi{p:Pg}{n:Int}{ca100 ca102 ca103:C}{m f:M}{Q:V->M->Prop}{rz:Bool}(hS:Pre f m)(ha100:Sl f ca100 p.Losses)(ha102:Sl f ca102 p.Treaties)(ha103:Sl f ca103 p.Reports)(hp:ztG p n=some rz)(hq:∀m',Ext m m'->Q (.c (.bool rz)) m'):Wc prog tbl 113 [.agg 4 [ca100,Il p.Reserve,ca102,ca103],.c (Il n)] m Q:=by
 have A:=hS.st;obtain⟨B,_⟩:=zsk;refine zu4 ?_;unfold ztG at hp;intro F j;obtain⟨l,g,w,h⟩:=A.blk j B 1;refine⟨_,_,_,_,h.bk.ra,?_⟩;obtain⟨y,o,hp⟩:=zqp hp;refine zvS (p:=p) (n:=n) g.pre ha100 ha102 ha103 o fun G q=>?_;obtain⟨d,r⟩:=g.call q l;have s:=h.k r;refine⟨_,rfl,?_⟩;refine zq1 hp (fun t hp=>?_) fun t hp=>?_; rotate_left
 ·obtain rfl:=oi hp;exact hq _ d.ext'
 refine⟨trivial,_,s.bk.rc rfl,?_⟩;obtain⟨z,a,hp⟩:=zqp hp;obtain⟨D,i,e,a⟩:=zqj a;obtain⟨_,u⟩:=zso ha102 a;refine⟨D,i,(by first|exact e|(rw[ha102.slLen];exact e)),(ha102.isPt a _),_,((u _ d.sub).2.1 6 _ rfl),?_⟩;obtain rfl:=oi hp;exact hq _ d.ext'
theorem zwj{p:Pg}{l:List Int}{ca100 ca102 ca103 ca200:C}{m f:M}{Q:V->M->Prop}{rz:Bool}(hS:Pre f m)(ha100:Sl f ca100 p.Losses)(ha102:Sl f ca102 p.Treaties)(ha103:Sl f ca103 p.Reports)(ha200:Sl f ca200 l)(hp:ztH p l=some rz)(hq:∀m',Ext m m'->Q (.c (.bool rz)) m'):Wc prog tbl 77 [.agg 4 [ca100,Il p.Reserve,ca102,ca103],.c ca200] m Q:=by
 have J:=hS.st;obtain⟨N,_⟩:=zsk;refine w77 ?_;unfold ztH at hp;intro P i;obtain⟨e,g,D,j⟩:=J.blk i N 1;obtain⟨F,n,hp⟩:=zqp hp;refine zwb (l:=l) g.pre ha200 n fun S o=>?_;obtain⟨d,q⟩:=g.call o e;have s:=j.k q;refine⟨_,rfl,?_⟩;refine zq1 hp (fun t hp=>?_) fun t hp=>?_; rotate_left
 ·obtain rfl:=oi hp;exact hq _ d.ext'
 refine⟨_,_,_,_,s.bk.ra,?_⟩;obtain⟨z,A,B⟩:∃ws,zaE vW [.agg 4 [ca100,Il p.Reserve,ca102,ca103]]=some ws/\zbZ wV ws=[.agg 4 [ca100,Il p.Reserve,ca102,ca103]]:=(zqz (zqx (zqt ha100.noFn (zqt rfl (zqt ha102.noFn (zqt ha103.noFn zqu))))) zqy);rw[A,zd6]
 have h:zvt f ((C.fn (Fn.func 113) z [])) (fun a=>ztG p a):=by
  intro f' m' a r Q hs hpre  hg hq
  show Wc prog tbl 113 (appS (zbZ wV z) _) m' Q
  rw[B];exact zwi hpre (ha100.sub hs) (ha102.sub hs) (ha103.sub hs) hg hq
 obtain⟨G,u,hp⟩:=zqp hp;refine zwa (l:=l) (passes:=(fun a=>ztG p a)) d.pre ha200 h u fun O w=>?_;obtain⟨y,I⟩:=d.call w e;refine⟨_,rfl,?_⟩;obtain rfl:=oi hp;exact hq _ y.ext'
theorem zwk{p:Pg}{set:List Int}{ca100 ca102 ca103 ca200:C}{m f:M}{Q:V->M->Prop}{rz:Int}(hS:Pre f m)(_ha100:Sl f ca100 p.Losses)(ha102:Sl f ca102 p.Treaties)(_ha103:Sl f ca103 p.Reports)(ha200:Sl f ca200 set)(hp:ztJ p set=some rz)(hq:∀m',Ext m m'->Q (.c (Il rz)) m'):Wc prog tbl 79 [.agg 4 [ca100,Il p.Reserve,ca102,ca103],.c ca200] m Q:=by
 have N:=hS.st;obtain⟨O,_⟩:=zsk;refine w79 ?_;unfold ztJ at hp;intro Y r;obtain⟨s,t,G,a⟩:=N.blk r O 1;refine⟨ha200.isSl,?_⟩;intro P F
 have hgo:∀(e:Nat) (u:Int) (w:Int) (n:M) (g:Nat->Nat),St (Fm.of m) f f n->Lb (Fm.of m) f g n 1 m.nxt 4 [ca100,Il p.Reserve,ca102,ca103]->ztI p set e u w=some rz->P [.c (Il u),.c (Il w)] n:=by
  intro e
  induction e with
  | zero=>intro u w n g d a hp; cases hp
  | succ e D=>
   intro u w n g d a hp;refine F _ _ _ ?_;rw[ztI] at hp
   try rw[ha200.slLen]
   refine ifd hp (fun y hp=>?_) fun y hp=>?_; rotate_left
   ·obtain rfl:=oi hp;exact hq _ d.ext'
   obtain⟨I,i,hp⟩:=zqp hp;obtain⟨S,o,j,i⟩:=zqj i;refine⟨S,o,(by first|exact j|(rw[ha200.slLen];exact j)),_,(ha200.rdI i d.sub),trivial,_,a.bk.rc rfl,?_⟩;obtain⟨J,h,hp⟩:=zqp hp;obtain⟨T,q,l,h⟩:=zqj h;obtain⟨_,z⟩:=zso ha102 h;refine⟨T,q,(by first|exact l|(rw[ha102.slLen];exact l)),(ha102.isPt h _),_,((z _ d.sub).2.1 5 _ rfl),?_⟩;refine gdi hp fun A hp=>?_;refine gdi hp fun B hp=>?_;exact D _ _ _ g d a hp
 exact hgo _ _ _ _ s t a hp
theorem zwl{p:Pg}{set:List Int}{ca100 ca102 ca103 ca200:C}{m f:M}{Q:V->M->Prop}{rz:Pg}(hS:Pre f m)(ha100:Sl f ca100 p.Losses)(ha102:Sl f ca102 p.Treaties)(_ha103:Sl f ca103 p.Reports)(ha200:Sl f ca200 set)(hp:ztL p set=some rz)(hq:∀m' f' c0 c2 c3,Grw m f m' f'->Sl f' c0 rz.Losses->Sl f' c2 rz.Treaties->Sl f' c3 rz.Reports->Q (.agg 4 [c0,Il rz.Reserve,c2,c3]) m'):Wc prog tbl 114 [.agg 4 [ca100,Il p.Reserve,ca102,ca103],.c ca200] m Q:=by
 have S0:=hS.st;obtain⟨τ0,_⟩:=zsk;refine zvc ?_;unfold ztL at hp;intro m0 O;obtain⟨P,S,Oa,T⟩:=S0.blk O τ0 1;intro m1 Y;obtain⟨Z,aa,ba,ca⟩:=S.blk Y P 2;have B:=T.k ba;refine⟨trivial,_,B.bk.rc rfl,trivial,?_⟩;obtain⟨da,ea,fa,ga,q⟩:=B.sto1 aa 2 .sl0 (by simp) rfl
 replace q:Lb _ _ _ _ _ _ _ [ca100,Il p.Reserve,.sl0,ca103]:=q
 have ha:=ca.k ga;refine⟨da,ea,?_⟩;refine⟨trivial,?_⟩;obtain⟨ia,ja,ka,la,d⟩:=q.sto1 fa 3 .sl0 (by simp) rfl
 replace d:Lb _ _ _ _ _ _ _ [ca100,Il p.Reserve,.sl0,.sl0]:=d
 have i:=ha.k la;refine⟨ia,ja,?_⟩;refine⟨ha200.isSl,?_⟩;intro R5 Ma
 have hgo:∀(n:Nat) (x6:Int) (e:C) (g:Int) (o:List Ty) (A:M) (j:Nat->Nat),St (Fm.of m) f f A->Lb (Fm.of m) f j A 1 m.nxt 4 [ca100,Il g,e,.sl0]->Lb (Fm.of m) f j A 2 m0.nxt 4 [.sl0,Il 0,.sl0,.sl0]->Ow (Fm.of m) f j A 3 e o->ztK p set n g o x6=some rz->R5 [.c (Il x6)] A:=by
  intro n
  induction n with
  | zero=>intro x6 e g o A j l d i h hp; cases hp
  | succ n La=>
   intro x6 e g o A j l d i h hp;refine Ma _ _ ?_;rw[ztK] at hp
   try rw[ha200.slLen]
   refine ifd hp (fun na hp=>?_) fun na hp=>?_; rotate_left
   ·refine⟨_,_,_,_,d.bk.ra,?_⟩;obtain⟨oa,pa,qa,sa,ta⟩:=i.sto l [ca100,Il g,e,.sl0];have h:=h.k sa;refine⟨oa,pa,?_⟩;refine⟨_,_,_,_,ta.bk.ra,?_⟩;obtain⟨ua,va,wa,xa⟩:=h.freeze qa;obtain rfl:=oi hp;exact hq _ ua ca100 e .sl0 va.grw (ha100.sub wa.fs) xa (Sl.nil _)
   obtain⟨Pa,r,hp⟩:=zqp hp;obtain⟨n8,J,y,r⟩:=zqj r;refine⟨n8,J,(by first|exact y|(rw[ha200.slLen];exact y)),_,(ha200.rdI r l.sub),trivial,_,d.bk.rc rfl,?_⟩;obtain⟨D,s,hp⟩:=zqp hp;obtain⟨Na,N,z,s⟩:=zqj s;obtain⟨_,ya⟩:=zso ha102 s;refine⟨Na,N,(by first|exact z|(rw[ha102.slLen];exact z)),_,_,_,_,_,_,_,(ya _ l.sub).1,?_⟩;obtain⟨za,hp⟩:=zqq hp;intro Va F;refine⟨(by rw[show cmC _=true from zoV (h.noFn)]; exact(d.bk.ext (Bk.new F).2).rc rfl),?_⟩;obtain⟨t,Aa,Ba,Ca,Da,G,u⟩:=h.app' zvw l (a:=D) (show Rp.rep (α:=Ty) f _ D from rfl) za F;have Ea:=d.k G;have Fa:=i.k G;refine⟨t,Aa,Ca,?_⟩;refine⟨trivial,?_⟩;obtain⟨Ga,Ha,Ia,I,w⟩:=Ea.sto1 Da 2 t (by simp) rfl
   replace w:Lb _ _ _ _ _ _ _ [ca100,Il g,t,.sl0]:=w
   have Ja:=Fa.k I;have u:=u.k I;refine⟨Ga,Ha,?_⟩;refine gdi hp fun Ka hp=>?_;exact La _ _ _ _ _ Ba Ia w Ja u hp
 exact hgo _ _ _ _ _ _ Z ka d i (Ow.nil _ _ _ _ _) hp
theorem zwm{o:Oc}{more:Oc}{m f:M}{Q:V->M->Prop}{rz:Oc}(hS:Pre f m)(hp:ztN o more=some rz)(hq:∀m',Ext m m'->Q (.agg 11 [Il rz.pays.p0,Il rz.pays.p1,Il rz.pays.p2,Il rz.pays.p3,Il rz.pays.p4,Il rz.keeps.p0,Il rz.keeps.p1,Il rz.keeps.p2,Il rz.keeps.p3,Il rz.keeps.p4,Il rz.society]) m'):Wc prog tbl 97 [.agg 11 [Il o.pays.p0,Il o.pays.p1,Il o.pays.p2,Il o.pays.p3,Il o.pays.p4,Il o.keeps.p0,Il o.keeps.p1,Il o.keeps.p2,Il o.keeps.p3,Il o.keeps.p4,Il o.society],.agg 11 [Il more.pays.p0,Il more.pays.p1,Il more.pays.p2,Il more.pays.p3,Il more.pays.p4,Il more.keeps.p0,Il more.keeps.p1,Il more.keeps.p2,Il more.keeps.p3,Il more.keeps.p4,Il more.society]] m Q:=by
 have S0:=hS.st;obtain⟨τ0,_⟩:=zsk;refine w97 ?_;unfold ztN at hp;intro m0 pa;obtain⟨qa,sa,ib,ta⟩:=S0.blk pa τ0 1;intro m1 ua;obtain⟨va,wa,xa,ya⟩:=sa.blk ua qa 2;have za:=ta.k xa;intro m2 Aa;obtain⟨Ba,Ca,da,D⟩:=wa.blk Aa va 3;have w:=za.k da;have y:=ya.k da;intro R3 db
 have hgo:∀(F:Nat) (u:Int) (e:Int) (g:Int) (h:Int) (i:Int) (j:Int) (n:Int) (p:Int) (q:Int) (r:Int) (s:Int) (t:Int) (m5:M) (z:Nat->Nat),St (Fm.of m) f f m5->Lb (Fm.of m) f z m5 1 m.nxt 11 [Il e,Il g,Il h,Il i,Il j,Il n,Il p,Il q,Il r,Il s,Il t]->Lb (Fm.of m) f z m5 2 m0.nxt 11 [Il more.pays.p0,Il more.pays.p1,Il more.pays.p2,Il more.pays.p3,Il more.pays.p4,Il more.keeps.p0,Il more.keeps.p1,Il more.keeps.p2,Il more.keeps.p3,Il more.keeps.p4,Il more.society]->Lb (Fm.of m) f z m5 3 m1.nxt 11 [Il 0,Il 0,Il 0,Il 0,Il 0,Il 0,Il 0,Il 0,Il 0,Il 0,Il 0]->ztM more F e g h i j n p q r s t u=some rz->R3 [.c (Il u)] m5:=by
  intro F
  induction F with
  | zero=>intro u e g h i j n p q r s t m5 z I w y D hp; cases hp
  | succ F cb=>
   intro u e g h i j n p q r s t m5 z I w y D hp;refine db _ _ ?_;rw[ztM] at hp;refine ifd hp (fun Da hp=>?_) fun Da hp=>?_; rotate_left
   ·refine⟨trivial,_,w.bk.rc rfl,trivial,_,y.bk.rc rfl,?_⟩;obtain⟨Ea,hp⟩:=zqq hp;refine⟨Ea,trivial,?_⟩;obtain⟨Fa,Ga,Ha,Ia,J⟩:=w.sto1 I 10 (Il (t+more.society)) (by simp) rfl
    replace J:Lb _ _ _ _ _ _ _ [Il e,Il g,Il h,Il i,Il j,Il n,Il p,Il q,Il r,Il s,(Il (t+more.society))]:=J
    have Ja:=D.k Ia;refine⟨Fa,Ga,?_⟩;refine⟨_,_,_,_,_,_,_,_,_,_,_,J.bk.ra,?_⟩;obtain⟨Ka,La,Ma,jb,Na⟩:=Ja.sto Ha [Il e,Il g,Il h,Il i,Il j,Il n,Il p,Il q,Il r,Il s,(Il (t+more.society))];refine⟨Ka,La,?_⟩;refine⟨_,_,_,_,_,_,_,_,_,_,_,Na.bk.ra,?_⟩;obtain rfl:=oi hp;exact hq _ Ma.ext'
   refine⟨trivial,trivial,?_⟩;obtain⟨a,N,hp⟩:=zqp hp;obtain⟨n6,ha,ia,N⟩:=zqj N;refine⟨n6,ha,ia,_,(w.bk.rc (zqW (l:=([e,g,h,i,j]:List Int)) (enc:=(C.int .i64)) 0 rfl N)),trivial,trivial,?_⟩;obtain⟨d,O,hp⟩:=zqp hp;obtain⟨n8,ja,ka,O⟩:=zqj O;refine⟨n8,ja,ka,_,(y.bk.rc (zqW (l:=([more.pays.p0,more.pays.p1,more.pays.p2,more.pays.p3,more.pays.p4]:List Int)) (enc:=(C.int .i64)) 0 rfl O)),?_⟩;obtain⟨Oa,hp⟩:=zqq hp;refine⟨Oa,trivial,trivial,?_⟩;obtain⟨Pa,hp⟩:=zqq hp;obtain⟨eb,Y,Z⟩:=zqX Pa;refine⟨eb,Y,Z,?_⟩;obtain⟨Qa,Ra,Sa,ea,G⟩:=w.sta I (pre:=[]) (post:=[Il n,Il p,Il q,Il r,Il s,Il t]) (l:=([e,g,h,i,j]:List Int)) (enc:=(C.int .i64)) rfl rfl Y Z ((a+d))
   replace G:Lb _ _ _ _ _ _ _ [(Il (sti u 0 (a+d) e)),(Il (sti u 1 (a+d) g)),(Il (sti u 2 (a+d) h)),(Il (sti u 3 (a+d) i)),(Il (sti u 4 (a+d) j)),Il n,Il p,Il q,Il r,Il s,Il t]:=G
   have fa:=y.k ea;have Ta:=D.k ea;refine⟨Qa,Ra,?_⟩;refine⟨trivial,trivial,?_⟩;obtain⟨A,P,hp⟩:=zqp hp;obtain⟨fb,la,ma,P⟩:=zqj P;refine⟨fb,la,ma,_,(G.bk.rc (zqW (l:=([n,p,q,r,s]:List Int)) (enc:=(C.int .i64)) 5 rfl P)),trivial,trivial,?_⟩;obtain⟨B,S,hp⟩:=zqp hp;obtain⟨gb,na,oa,S⟩:=zqj S;refine⟨gb,na,oa,_,(fa.bk.rc (zqW (l:=([more.keeps.p0,more.keeps.p1,more.keeps.p2,more.keeps.p3,more.keeps.p4]:List Int)) (enc:=(C.int .i64)) 5 rfl S)),?_⟩;obtain⟨Ua,hp⟩:=zqq hp;refine⟨Ua,trivial,trivial,?_⟩;obtain⟨Va,hp⟩:=zqq hp;obtain⟨hb,aa,ba⟩:=zqX Va;refine⟨hb,aa,ba,?_⟩;obtain⟨Wa,Xa,Ya,ga,T⟩:=G.sta Sa (pre:=[(Il (sti u 0 (a+d) e)),(Il (sti u 1 (a+d) g)),(Il (sti u 2 (a+d) h)),(Il (sti u 3 (a+d) i)),(Il (sti u 4 (a+d) j))]) (post:=[Il t]) (l:=([n,p,q,r,s]:List Int)) (enc:=(C.int .i64)) rfl rfl aa ba ((A+B))
   replace T:Lb _ _ _ _ _ _ _ [(Il (sti u 0 (a+d) e)),(Il (sti u 1 (a+d) g)),(Il (sti u 2 (a+d) h)),(Il (sti u 3 (a+d) i)),(Il (sti u 4 (a+d) j)),(Il (sti u 0 (A+B) n)),(Il (sti u 1 (A+B) p)),(Il (sti u 2 (A+B) q)),(Il (sti u 3 (A+B) r)),(Il (sti u 4 (A+B) s)),Il t]:=T
   have Za:=fa.k ga;have ab:=Ta.k ga;refine⟨Wa,Xa,?_⟩;refine gdi hp fun bb hp=>?_;exact cb _ _ _ _ _ _ _ _ _ _ _ _ _ z Ya T Za ab hp
 exact hgo _ _ _ _ _ _ _ _ _ _ _ _ _ _ Ba Ca w y D hp
theorem zwn{o:Oc}{m f:M}{Q:V->M->Prop}{rz:Int}(hS:Pre f m)(hp:ztO o=some rz)(hq:∀m',Ext m m'->Q (.c (Il rz)) m'):Wc prog tbl 71 [.agg 11 [Il o.pays.p0,Il o.pays.p1,Il o.pays.p2,Il o.pays.p3,Il o.pays.p4,Il o.keeps.p0,Il o.keeps.p1,Il o.keeps.p2,Il o.keeps.p3,Il o.keeps.p4,Il o.society]] m Q:=by
 have i:=hS.st;obtain⟨j,_⟩:=zsk;refine w71 ?_;unfold ztO at hp;intro l a;obtain⟨g,d,h,e⟩:=i.blk a j 1;refine⟨trivial,_,e.bk.rc rfl,?_⟩;obtain rfl:=oi hp;exact hq _ d.ext'
theorem zwo{r:Rpt}{p:P5}{b0:Nat}{m f:M}{Q:V->M->Prop}{rz:Bool}(hS:Pre f m)(hb0:Bk f b0 5 [Il p.p0,Il p.p1,Il p.p2,Il p.p3,Il p.p4])(hp:ztP r p=some rz)(hq:∀m',Ext m m'->Q (.c (.bool rz)) m'):Wc prog tbl 129 [.agg 3 [Il r.Treaty,Il r.Paid.Lo,Il r.Paid.Hi],.c (.ptr b0 0)] m Q:=by
 have A:=hS.st;obtain⟨B,_⟩:=zsk;refine zuR ?_;unfold ztP at hp;intro F i;obtain⟨o,a,w,e⟩:=A.blk i B 1;refine⟨trivial,_,_,e.bk.rp (k:=1) (j:=2) rfl (by omega),trivial,_,e.bk.rc rfl,trivial,?_⟩;obtain⟨q,d,hp⟩:=zqp hp;obtain⟨D,g,h,d⟩:=zqj d;refine⟨D,g,h,_,((hb0.sub a.sub).rc (zqW (l:=([p.p0,p.p1,p.p2,p.p3,p.p4]:List Int)) (enc:=(C.int .i64)) 0 rfl d)),?_⟩;obtain⟨y,s,hp⟩:=zqp hp;refine zvH (r:=r.Paid) (n:=q) a.pre  s fun G t=>?_;obtain⟨u,z⟩:=a.call t o;refine⟨_,rfl,?_⟩;obtain rfl:=oi hp;exact hq _ u.ext'
theorem zwp{p:P5}{reports:List Rpt}{ca200:C}{m f:M}{Q:V->M->Prop}{rz:Bool}(hS:Pre f m)(ha200:Sl f ca200 reports)(hp:ztQ p reports=some rz)(hq:∀m',Ext m m'->Q (.c (.bool rz)) m'):Wc prog tbl 108 [.agg 5 [Il p.p0,Il p.p1,Il p.p2,Il p.p3,Il p.p4],.c ca200] m Q:=by
 have A:=hS.st;obtain⟨B,_⟩:=zsk;refine zuU ?_;unfold ztQ at hp;intro D h;obtain⟨i,j,w,n⟩:=A.blk h B 1;obtain⟨o,d,q,e⟩:=n.freeze j
 have g:zvs o ((C.fn (Fn.func 129) [] [(W.c (C0.ptr m.nxt 0))])) (fun a=>ztP a p):=by
  intro f' m' a r Q hs hpre  hg hq;exact zwo hpre (e.sub hs) hg hq
 obtain⟨y,s,hp⟩:=zqp hp;refine zv6 (l:=reports) (passes:=(fun a=>ztP a p)) d.pre (ha200.sub q.fs) g s fun F t=>?_;obtain⟨u,z⟩:=d.call t i;refine⟨_,rfl,?_⟩;obtain rfl:=oi hp;exact hq _ u.ext'
set_option maxHeartbeats 4000000 in
theorem zwq{w:WkD}{m_:Mt}{ca100 ca102 ca103 ca112 ca121 ca122 ca123:C}{m f:M}{Q:V->M->Prop}{rz:Oc}(hS:Pre f m)(_ha100:Sl f ca100 w.p.Losses)(ha102:Sl f ca102 w.p.Treaties)(_ha103:Sl f ca103 w.p.Reports)(ha112:zvp f ca112 w.kinds.k0.takes)(ha121:zvp f ca121 w.kinds.k1.takes)(_ha122:zrF f ca122 w.shared)(_ha123:zrF f ca123 w.played)(hp:ztS w m_=some rz)(hq:∀m',Ext m m'->Q (.agg 11 [Il rz.pays.p0,Il rz.pays.p1,Il rz.pays.p2,Il rz.pays.p3,Il rz.pays.p4,Il rz.keeps.p0,Il rz.keeps.p1,Il rz.keeps.p2,Il rz.keeps.p3,Il rz.keeps.p4,Il rz.society]) m'):Wc prog tbl 120 [.agg 24 [ca100,Il w.p.Reserve,ca102,ca103,Il w.kinds.k0.part.Lo,Il w.kinds.k0.part.Hi,Il w.kinds.k0.above.Lo,Il w.kinds.k0.above.Hi,Il w.kinds.k0.most.Lo,Il w.kinds.k0.most.Hi,Il w.kinds.k0.times.Lo,Il w.kinds.k0.times.Hi,ca112,Il w.kinds.k1.part.Lo,Il w.kinds.k1.part.Hi,Il w.kinds.k1.above.Lo,Il w.kinds.k1.above.Hi,Il w.kinds.k1.most.Lo,Il w.kinds.k1.most.Hi,Il w.kinds.k1.times.Lo,Il w.kinds.k1.times.Hi,ca121,ca122,ca123],.agg 6 [Il m_.loss,Il m_.paid.p0,Il m_.paid.p1,Il m_.paid.p2,Il m_.paid.p3,Il m_.paid.p4]] m Q:=by
 have S0:=hS.st;obtain⟨τ0,_⟩:=zsk;refine zuX ?_;unfold ztS at hp;intro m0 Rb;obtain⟨Sb,Tb,zf,Ub⟩:=S0.blk Rb τ0 1;intro m1 Vb;obtain⟨Wb,Xb,Yb,Zb⟩:=Tb.blk Vb Sb 2;have ac:=Ub.k Yb;intro m2 bc;obtain⟨cc,dc,rb,ec⟩:=Xb.blk bc Wb 3;have fc:=ac.k rb;have sb:=Zb.k rb;refine⟨trivial,_,sb.bk.rc rfl,?_⟩;intro m4 gc;obtain⟨hc,ic,la,jc⟩:=dc.blk gc cc 4;have kc:=fc.k la;have nc:=sb.k la;have pc:=ec.k la;obtain⟨qc,sc,tc,ma,S⟩:=jc.sto ic [Il 0,Il 0,Il 0,Il 0,Il 0,Il 0,Il 0,Il 0,Il 0,Il 0,Il m_.loss];have T:=kc.k ma;have Z:=nc.k ma;have Y:=pc.k ma;refine⟨qc,sc,?_⟩;refine⟨trivial,trivial,_,T.bk.rc rfl,ha102.isSl,?_⟩;intro R7 mf
 have hgo:∀(aa:Nat) (g:Int) (t:Int) (u:Int) (y:Int) (z:Int) (A:Int) (h:Int) (i:Int) (j:Int) (n:Int) (o:Int) (q:Int) (m9:M) (P:Nat->Nat),St (Fm.of m) f f m9->Lb (Fm.of m) f P m9 1 m.nxt 24 [ca100,Il w.p.Reserve,ca102,ca103,Il w.kinds.k0.part.Lo,Il w.kinds.k0.part.Hi,Il w.kinds.k0.above.Lo,Il w.kinds.k0.above.Hi,Il w.kinds.k0.most.Lo,Il w.kinds.k0.most.Hi,Il w.kinds.k0.times.Lo,Il w.kinds.k0.times.Hi,ca112,Il w.kinds.k1.part.Lo,Il w.kinds.k1.part.Hi,Il w.kinds.k1.above.Lo,Il w.kinds.k1.above.Hi,Il w.kinds.k1.most.Lo,Il w.kinds.k1.most.Hi,Il w.kinds.k1.times.Lo,Il w.kinds.k1.times.Hi,ca121,ca122,ca123]->Lb (Fm.of m) f P m9 2 m0.nxt 6 [Il m_.loss,Il m_.paid.p0,Il m_.paid.p1,Il m_.paid.p2,Il m_.paid.p3,Il m_.paid.p4]->Lb (Fm.of m) f P m9 3 m1.nxt 11 [Il 0,Il 0,Il 0,Il 0,Il 0,Il 0,Il 0,Il 0,Il 0,Il 0,Il 0]->Lb (Fm.of m) f P m9 4 m2.nxt 11 [Il t,Il u,Il y,Il z,Il A,Il h,Il i,Il j,Il n,Il o,Il q]->ztR w m_ aa t u y z A h i j n o q g=some rz->R7 [.c (Il g)] m9:=by
  intro aa
  induction aa with
  | zero=>intro g t u y z A h i j n o q m9 P ba T Z Y S hp; cases hp
  | succ aa na=>
   intro g t u y z A h i j n o q m9 P ba T Z Y S hp;refine mf _ _ ?_;rw[ztR] at hp
   try rw[ha102.slLen]
   refine ifd hp (fun uc hp=>?_) fun uc hp=>?_; rotate_left
   ·refine⟨_,_,_,_,_,_,_,_,_,_,_,S.bk.ra,?_⟩;obtain⟨vc,wc,xc,Af,yc⟩:=Y.sto ba [Il t,Il u,Il y,Il z,Il A,Il h,Il i,Il j,Il n,Il o,Il q];refine⟨vc,wc,?_⟩;refine⟨_,_,_,_,_,_,_,_,_,_,_,yc.bk.ra,?_⟩;obtain rfl:=oi hp;exact hq _ xc.ext'
   obtain⟨a,oa,hp⟩:=zqp hp;obtain⟨nf,Bb,Xa,oa⟩:=zqj oa;obtain⟨_,zc⟩:=zso ha102 oa;refine⟨nf,Bb,(by first|exact Xa|(rw[ha102.slLen];exact Xa)),_,_,_,_,_,_,_,(zc _ ba.sub).1,?_⟩;intro Nf Ac;obtain⟨F,Bc,ca,Cc⟩:=ba.blk Ac P 5;have Dc:=T.k ca;have Ec:=Z.k ca;have Fc:=Y.k ca;have Gc:=S.k ca;obtain⟨Hc,Ic,G,da,I⟩:=Cc.sto Bc [Il a.Kind,Il a.Part,Il a.Above,Il a.Most,Il a.Times,Il a.Price,Il a.Of];have J:=Dc.k da;have N:=Ec.k da;have ea:=Fc.k da;have O:=Gc.k da;refine⟨Hc,Ic,?_⟩;refine⟨trivial,trivial,_,I.bk.rc rfl,?_⟩;refine zq0 hp (fun Jc hp=>?_) fun Jc hp=>?_; rotate_left
   ·refine⟨trivial,_,I.bk.rc rfl,trivial,trivial,?_⟩;refine spl hp (fun tb hp=>?_) fun tb hp=>?_
    ·refine⟨0,tb.trans rfl,yak rfl,?_⟩;refine⟨trivial,_,J.bk.rc rfl,_,_,_,_,_,_,_,I.bk.ra,trivial,_,O.bk.rc rfl,trivial,trivial,?_⟩;obtain⟨Bf,pa,hp⟩:=zqp hp;obtain⟨Cb,Db,Eb,pa⟩:=zqj pa;refine⟨Cb,Db,Eb,_,(N.bk.rc (zqW (l:=([m_.paid.p0,m_.paid.p1,m_.paid.p2,m_.paid.p3,m_.paid.p4]:List Int)) (enc:=(C.int .i64)) 1 rfl pa)),?_⟩;obtain⟨r,Kc,hp⟩:=zqp hp;refine ha112.2 _ _ _ _ _ _ _ (Sub.refl _) G.pre  Kc fun pf Nc=>?_;obtain⟨Pc,fa⟩:=G.call Nc F;have Qc:=J.k fa;have Rc:=N.k fa;have Tc:=ea.k fa;have ub:=O.k fa;refine⟨_,rfl,trivial,_,ub.bk.rc rfl,?_⟩;obtain⟨Uc,hp⟩:=zqq hp;refine⟨Uc,trivial,?_⟩;obtain⟨Vc,Xc,Yc,qa,sa⟩:=ub.sto1 Pc 10 (Il (q - r)) (by simp) rfl
     replace sa:Lb _ _ _ _ _ _ _ [Il t,Il u,Il y,Il z,Il A,Il h,Il i,Il j,Il n,Il o,(Il (q - r))]:=sa
     have Zc:=Qc.k qa;have ad:=Rc.k qa;have bd:=Tc.k qa;refine⟨Vc,Xc,?_⟩;refine⟨trivial,trivial,?_⟩;obtain⟨cd,hp⟩:=zqq hp;obtain⟨Fb,Ya,Za⟩:=zqX cd;refine⟨Fb,Ya,Za,?_⟩;obtain⟨dd,ed,fd,ta,ua⟩:=sa.sta Yc (pre:=[]) (post:=[Il h,Il i,Il j,Il n,Il o,(Il (q - r))]) (l:=([t,u,y,z,A]:List Int)) (enc:=(C.int .i64)) rfl rfl Ya Za r
     replace ua:Lb _ _ _ _ _ _ _ [(Il (sti g 0 r t)),(Il (sti g 1 r u)),(Il (sti g 2 r y)),(Il (sti g 3 r z)),(Il (sti g 4 r A)),Il h,Il i,Il j,Il n,Il o,(Il (q - r))]:=ua
     have hd:=Zc.k ta;have id:=ad.k ta;have jd:=bd.k ta;refine⟨dd,ed,?_⟩;refine⟨trivial,trivial,?_⟩;obtain⟨kd,hp⟩:=zqq hp;obtain⟨Gb,ab,bb⟩:=zqX kd;refine⟨Gb,ab,bb,?_⟩;obtain⟨ld,md,nd,va,wa⟩:=ua.sta fd (pre:=[(Il (sti g 0 r t)),(Il (sti g 1 r u)),(Il (sti g 2 r y)),(Il (sti g 3 r z)),(Il (sti g 4 r A))]) (post:=[(Il (q - r))]) (l:=([h,i,j,n,o]:List Int)) (enc:=(C.int .i64)) rfl rfl ab bb r
     replace wa:Lb _ _ _ _ _ _ _ [(Il (sti g 0 r t)),(Il (sti g 1 r u)),(Il (sti g 2 r y)),(Il (sti g 3 r z)),(Il (sti g 4 r A)),(Il (sti g 0 r h)),(Il (sti g 1 r i)),(Il (sti g 2 r j)),(Il (sti g 3 r n)),(Il (sti g 4 r o)),(Il (q - r))]:=wa
     have od:=hd.k va;have pd:=id.k va;have qd:=jd.k va;refine⟨ld,md,?_⟩;refine gdi hp fun sd hp=>?_;exact na _ _ _ _ _ _ _ _ _ _ _ _ _ F nd od pd qd wa hp
    refine spl hp (fun vb hp=>?_) fun vb hp=>?_
    ·refine⟨1,vb.trans rfl,yak rfl,?_⟩;refine⟨trivial,_,J.bk.rc rfl,_,_,_,_,_,_,_,I.bk.ra,trivial,_,O.bk.rc rfl,trivial,trivial,?_⟩;obtain⟨Cf,xa,hp⟩:=zqp hp;obtain⟨Cb,Hb,Ib,xa⟩:=zqj xa;refine⟨Cb,Hb,Ib,_,(N.bk.rc (zqW (l:=([m_.paid.p0,m_.paid.p1,m_.paid.p2,m_.paid.p3,m_.paid.p4]:List Int)) (enc:=(C.int .i64)) 1 rfl xa)),?_⟩;obtain⟨s,td,hp⟩:=zqp hp;refine ha121.2 _ _ _ _ _ _ _ (Sub.refl _) G.pre  td fun pf ud=>?_;obtain⟨vd,ga⟩:=G.call ud F;have xd:=J.k ga;have yd:=N.k ga;have zd:=ea.k ga;have wb:=O.k ga;refine⟨_,rfl,trivial,_,wb.bk.rc rfl,?_⟩;obtain⟨Ad,hp⟩:=zqq hp;refine⟨Ad,trivial,?_⟩;obtain⟨Cd,Dd,Ed,ya,za⟩:=wb.sto1 vd 10 (Il (q - s)) (by simp) rfl
     replace za:Lb _ _ _ _ _ _ _ [Il t,Il u,Il y,Il z,Il A,Il h,Il i,Il j,Il n,Il o,(Il (q - s))]:=za
     have Fd:=xd.k ya;have Gd:=yd.k ya;have Hd:=zd.k ya;refine⟨Cd,Dd,?_⟩;refine⟨trivial,trivial,?_⟩;obtain⟨Id,hp⟩:=zqq hp;obtain⟨Fb,cb,db⟩:=zqX Id;refine⟨Fb,cb,db,?_⟩;obtain⟨Jd,Ld,Md,Aa,Ba⟩:=za.sta Ed (pre:=[]) (post:=[Il h,Il i,Il j,Il n,Il o,(Il (q - s))]) (l:=([t,u,y,z,A]:List Int)) (enc:=(C.int .i64)) rfl rfl cb db s
     replace Ba:Lb _ _ _ _ _ _ _ [(Il (sti g 0 s t)),(Il (sti g 1 s u)),(Il (sti g 2 s y)),(Il (sti g 3 s z)),(Il (sti g 4 s A)),Il h,Il i,Il j,Il n,Il o,(Il (q - s))]:=Ba
     have Nd:=Fd.k Aa;have Od:=Gd.k Aa;have Pd:=Hd.k Aa;refine⟨Jd,Ld,?_⟩;refine⟨trivial,trivial,?_⟩;obtain⟨Qd,hp⟩:=zqq hp;obtain⟨Gb,eb,fb⟩:=zqX Qd;refine⟨Gb,eb,fb,?_⟩;obtain⟨Rd,Sd,Td,Ca,Da⟩:=Ba.sta Md (pre:=[(Il (sti g 0 s t)),(Il (sti g 1 s u)),(Il (sti g 2 s y)),(Il (sti g 3 s z)),(Il (sti g 4 s A))]) (post:=[(Il (q - s))]) (l:=([h,i,j,n,o]:List Int)) (enc:=(C.int .i64)) rfl rfl eb fb s
     replace Da:Lb _ _ _ _ _ _ _ [(Il (sti g 0 s t)),(Il (sti g 1 s u)),(Il (sti g 2 s y)),(Il (sti g 3 s z)),(Il (sti g 4 s A)),(Il (sti g 0 s h)),(Il (sti g 1 s i)),(Il (sti g 2 s j)),(Il (sti g 3 s n)),(Il (sti g 4 s o)),(Il (q - s))]:=Da
     have Ud:=Nd.k Ca;have Vd:=Od.k Ca;have Wd:=Pd.k Ca;refine⟨Rd,Sd,?_⟩;refine gdi hp fun Xd hp=>?_;exact na _ _ _ _ _ _ _ _ _ _ _ _ _ F Td Ud Vd Wd Da hp
    cases hp
   refine⟨trivial,_,I.bk.rc rfl,trivial,trivial,?_⟩;obtain⟨Yd,hp⟩:=zqq hp;obtain⟨gb,ja,ka⟩:=zqX Yd;refine⟨gb,ja,ka,trivial,_,I.bk.rc rfl,trivial,trivial,?_⟩;refine spl hp (fun xb hp=>?_) fun xb hp=>?_
   ·refine⟨0,xb.trans rfl,yak rfl,?_⟩;obtain⟨Df,Ea,hp⟩:=zqp hp;obtain⟨Zd,qf,rf,Ea⟩:=zqj Ea
    obtain rfl:gb=Zd:=by omega
    refine⟨trivial,_,J.bk.rc rfl,_,_,_,_,_,_,_,I.bk.ra,trivial,_,(O.bk.rc (zqW (l:=([h,i,j,n,o]:List Int)) (enc:=(C.int .i64)) 5 rfl Ea)),trivial,trivial,?_⟩;obtain⟨Ef,Fa,hp⟩:=zqp hp;obtain⟨Jb,Kb,Mb,Fa⟩:=zqj Fa;refine⟨Jb,Kb,Mb,_,(N.bk.rc (zqW (l:=([m_.paid.p0,m_.paid.p1,m_.paid.p2,m_.paid.p3,m_.paid.p4]:List Int)) (enc:=(C.int .i64)) 1 rfl Fa)),?_⟩;obtain⟨d,ae,hp⟩:=zqp hp;refine ha112.2 _ _ _ _ _ _ _ (Sub.refl _) G.pre  ae fun sf be=>?_;obtain⟨ce,ha⟩:=G.call be F;have de:=J.k ha;have ee:=N.k ha;have fe:=ea.k ha;have yb:=O.k ha;obtain⟨B,Ga,hp⟩:=zqp hp;obtain⟨ge,tf,uf,Ga⟩:=zqj Ga
    obtain rfl:gb=ge:=by omega
    refine⟨_,rfl,trivial,_,(yb.bk.rc (zqW (l:=([h,i,j,n,o]:List Int)) (enc:=(C.int .i64)) 5 rfl Ga)),?_⟩;obtain⟨he,hp⟩:=zqq hp;refine⟨he,trivial,?_⟩;obtain⟨ie,je,ke,Ha,Ia⟩:=yb.sta ce (pre:=[Il t,Il u,Il y,Il z,Il A]) (post:=[Il q]) (l:=([h,i,j,n,o]:List Int)) (enc:=(C.int .i64)) rfl rfl ja ka (B - d)
    replace Ia:Lb _ _ _ _ _ _ _ [Il t,Il u,Il y,Il z,Il A,(Il (sti a.Of 0 (B - d) h)),(Il (sti a.Of 1 (B - d) i)),(Il (sti a.Of 2 (B - d) j)),(Il (sti a.Of 3 (B - d) n)),(Il (sti a.Of 4 (B - d) o)),Il q]:=Ia
    have me:=de.k Ha;have oe:=ee.k Ha;have pe:=fe.k Ha;refine⟨ie,je,?_⟩;refine⟨trivial,trivial,?_⟩;obtain⟨qe,hp⟩:=zqq hp;obtain⟨Nb,hb,ib⟩:=zqX qe;refine⟨Nb,hb,ib,?_⟩;obtain⟨re,se,te,Ja,Ka⟩:=Ia.sta ke (pre:=[]) (post:=[(Il (sti a.Of 0 (B - d) h)),(Il (sti a.Of 1 (B - d) i)),(Il (sti a.Of 2 (B - d) j)),(Il (sti a.Of 3 (B - d) n)),(Il (sti a.Of 4 (B - d) o)),Il q]) (l:=([t,u,y,z,A]:List Int)) (enc:=(C.int .i64)) rfl rfl hb ib d
    replace Ka:Lb _ _ _ _ _ _ _ [(Il (sti g 0 d t)),(Il (sti g 1 d u)),(Il (sti g 2 d y)),(Il (sti g 3 d z)),(Il (sti g 4 d A)),(Il (sti a.Of 0 (B - d) h)),(Il (sti a.Of 1 (B - d) i)),(Il (sti a.Of 2 (B - d) j)),(Il (sti a.Of 3 (B - d) n)),(Il (sti a.Of 4 (B - d) o)),Il q]:=Ka
    have ue:=me.k Ja;have ve:=oe.k Ja;have we:=pe.k Ja;refine⟨re,se,?_⟩;refine⟨trivial,trivial,?_⟩;obtain⟨xe,hp⟩:=zqq hp;obtain⟨Ob,jb,kb⟩:=zqX xe;refine⟨Ob,jb,kb,?_⟩;obtain⟨ye,ze,Ae,La,Ma⟩:=Ka.sta te (pre:=[(Il (sti g 0 d t)),(Il (sti g 1 d u)),(Il (sti g 2 d y)),(Il (sti g 3 d z)),(Il (sti g 4 d A))]) (post:=[Il q]) (l:=([(sti a.Of 0 (B - d) h),(sti a.Of 1 (B - d) i),(sti a.Of 2 (B - d) j),(sti a.Of 3 (B - d) n),(sti a.Of 4 (B - d) o)]:List Int)) (enc:=(C.int .i64)) rfl rfl jb kb d
    replace Ma:Lb _ _ _ _ _ _ _ [(Il (sti g 0 d t)),(Il (sti g 1 d u)),(Il (sti g 2 d y)),(Il (sti g 3 d z)),(Il (sti g 4 d A)),(Il (sti g 0 d (sti a.Of 0 (B - d) h))),(Il (sti g 1 d (sti a.Of 1 (B - d) i))),(Il (sti g 2 d (sti a.Of 2 (B - d) j))),(Il (sti g 3 d (sti a.Of 3 (B - d) n))),(Il (sti g 4 d (sti a.Of 4 (B - d) o))),Il q]:=Ma
    have Be:=ue.k La;have Ce:=ve.k La;have De:=we.k La;refine⟨ye,ze,?_⟩;refine gdi hp fun Ee hp=>?_;exact na _ _ _ _ _ _ _ _ _ _ _ _ _ F Ae Be Ce De Ma hp
   refine spl hp (fun zb hp=>?_) fun zb hp=>?_
   ·refine⟨1,zb.trans rfl,yak rfl,?_⟩;obtain⟨Ff,Na,hp⟩:=zqp hp;obtain⟨Fe,vf,wf,Na⟩:=zqj Na
    obtain rfl:gb=Fe:=by omega
    refine⟨trivial,_,J.bk.rc rfl,_,_,_,_,_,_,_,I.bk.ra,trivial,_,(O.bk.rc (zqW (l:=([h,i,j,n,o]:List Int)) (enc:=(C.int .i64)) 5 rfl Na)),trivial,trivial,?_⟩;obtain⟨Gf,Oa,hp⟩:=zqp hp;obtain⟨Jb,Pb,Qb,Oa⟩:=zqj Oa;refine⟨Jb,Pb,Qb,_,(N.bk.rc (zqW (l:=([m_.paid.p0,m_.paid.p1,m_.paid.p2,m_.paid.p3,m_.paid.p4]:List Int)) (enc:=(C.int .i64)) 1 rfl Oa)),?_⟩;obtain⟨e,Ge,hp⟩:=zqp hp;refine ha121.2 _ _ _ _ _ _ _ (Sub.refl _) G.pre  Ge fun sf He=>?_;obtain⟨Ie,ia⟩:=G.call He F;have Je:=J.k ia;have Ke:=N.k ia;have Me:=ea.k ia;have Ab:=O.k ia;obtain⟨D,Pa,hp⟩:=zqp hp;obtain⟨Ne,xf,yf,Pa⟩:=zqj Pa
    obtain rfl:gb=Ne:=by omega
    refine⟨_,rfl,trivial,_,(Ab.bk.rc (zqW (l:=([h,i,j,n,o]:List Int)) (enc:=(C.int .i64)) 5 rfl Pa)),?_⟩;obtain⟨Oe,hp⟩:=zqq hp;refine⟨Oe,trivial,?_⟩;obtain⟨Pe,Qe,Re,Qa,Ra⟩:=Ab.sta Ie (pre:=[Il t,Il u,Il y,Il z,Il A]) (post:=[Il q]) (l:=([h,i,j,n,o]:List Int)) (enc:=(C.int .i64)) rfl rfl ja ka (D - e)
    replace Ra:Lb _ _ _ _ _ _ _ [Il t,Il u,Il y,Il z,Il A,(Il (sti a.Of 0 (D - e) h)),(Il (sti a.Of 1 (D - e) i)),(Il (sti a.Of 2 (D - e) j)),(Il (sti a.Of 3 (D - e) n)),(Il (sti a.Of 4 (D - e) o)),Il q]:=Ra
    have Se:=Je.k Qa;have Te:=Ke.k Qa;have Ue:=Me.k Qa;refine⟨Pe,Qe,?_⟩;refine⟨trivial,trivial,?_⟩;obtain⟨Ve,hp⟩:=zqq hp;obtain⟨Nb,mb,ob⟩:=zqX Ve;refine⟨Nb,mb,ob,?_⟩;obtain⟨We,Xe,Ye,Sa,Ta⟩:=Ra.sta Re (pre:=[]) (post:=[(Il (sti a.Of 0 (D - e) h)),(Il (sti a.Of 1 (D - e) i)),(Il (sti a.Of 2 (D - e) j)),(Il (sti a.Of 3 (D - e) n)),(Il (sti a.Of 4 (D - e) o)),Il q]) (l:=([t,u,y,z,A]:List Int)) (enc:=(C.int .i64)) rfl rfl mb ob e
    replace Ta:Lb _ _ _ _ _ _ _ [(Il (sti g 0 e t)),(Il (sti g 1 e u)),(Il (sti g 2 e y)),(Il (sti g 3 e z)),(Il (sti g 4 e A)),(Il (sti a.Of 0 (D - e) h)),(Il (sti a.Of 1 (D - e) i)),(Il (sti a.Of 2 (D - e) j)),(Il (sti a.Of 3 (D - e) n)),(Il (sti a.Of 4 (D - e) o)),Il q]:=Ta
    have Ze:=Se.k Sa;have af:=Te.k Sa;have bf:=Ue.k Sa;refine⟨We,Xe,?_⟩;refine⟨trivial,trivial,?_⟩;obtain⟨cf,hp⟩:=zqq hp;obtain⟨Ob,pb,qb⟩:=zqX cf;refine⟨Ob,pb,qb,?_⟩;obtain⟨df,ef,gf,Ua,Va⟩:=Ta.sta Ye (pre:=[(Il (sti g 0 e t)),(Il (sti g 1 e u)),(Il (sti g 2 e y)),(Il (sti g 3 e z)),(Il (sti g 4 e A))]) (post:=[Il q]) (l:=([(sti a.Of 0 (D - e) h),(sti a.Of 1 (D - e) i),(sti a.Of 2 (D - e) j),(sti a.Of 3 (D - e) n),(sti a.Of 4 (D - e) o)]:List Int)) (enc:=(C.int .i64)) rfl rfl pb qb e
    replace Va:Lb _ _ _ _ _ _ _ [(Il (sti g 0 e t)),(Il (sti g 1 e u)),(Il (sti g 2 e y)),(Il (sti g 3 e z)),(Il (sti g 4 e A)),(Il (sti g 0 e (sti a.Of 0 (D - e) h))),(Il (sti g 1 e (sti a.Of 1 (D - e) i))),(Il (sti g 2 e (sti a.Of 2 (D - e) j))),(Il (sti g 3 e (sti a.Of 3 (D - e) n))),(Il (sti g 4 e (sti a.Of 4 (D - e) o))),Il q]:=Va
    have hf:=Ze.k Ua;have jf:=af.k Ua;have kf:=bf.k Ua;refine⟨df,ef,?_⟩;refine gdi hp fun lf hp=>?_;exact na _ _ _ _ _ _ _ _ _ _ _ _ _ F gf hf jf kf Va hp
   cases hp
 exact hgo _ _ _ _ _ _ _ _ _ _ _ _ _ _ hc tc T Z Y S hp
theorem zwr{w:WkP}{m_:Mt}{ca100 ca102 ca103 ca112 ca121 ca122 ca123:C}{m f:M}{Q:V->M->Prop}{rz:Oc × Option (Mt->Option (Oc))}(hS:Pre f m)(ha100:Sl f ca100 w.p.Losses)(ha102:Sl f ca102 w.p.Treaties)(ha103:Sl f ca103 w.p.Reports)(ha112:zvp f ca112 w.kinds.k0.takes)(ha121:zvp f ca121 w.kinds.k1.takes)(ha122:Mc f m ca122 w.shared)(ha123:zrF f ca123 w.played)(hp:ztT w m_=some rz)(hq:∀m',zqM ca122 m m'->Mi m' ca122 rz.2->Q (.agg 11 [Il rz.1.pays.p0,Il rz.1.pays.p1,Il rz.1.pays.p2,Il rz.1.pays.p3,Il rz.1.pays.p4,Il rz.1.keeps.p0,Il rz.1.keeps.p1,Il rz.1.keeps.p2,Il rz.1.keeps.p3,Il rz.1.keeps.p4,Il rz.1.society]) m'):Wc prog tbl 98 [.agg 24 [ca100,Il w.p.Reserve,ca102,ca103,Il w.kinds.k0.part.Lo,Il w.kinds.k0.part.Hi,Il w.kinds.k0.above.Lo,Il w.kinds.k0.above.Hi,Il w.kinds.k0.most.Lo,Il w.kinds.k0.most.Hi,Il w.kinds.k0.times.Lo,Il w.kinds.k0.times.Hi,ca112,Il w.kinds.k1.part.Lo,Il w.kinds.k1.part.Hi,Il w.kinds.k1.above.Lo,Il w.kinds.k1.above.Hi,Il w.kinds.k1.most.Lo,Il w.kinds.k1.most.Hi,Il w.kinds.k1.times.Lo,Il w.kinds.k1.times.Hi,ca121,ca122,ca123],.agg 6 [Il m_.loss,Il m_.paid.p0,Il m_.paid.p1,Il m_.paid.p2,Il m_.paid.p3,Il m_.paid.p4]] m Q:=by
 have S0:=hS.stM ha122;obtain⟨τ0,M0⟩:∃τ,Mo (Fm.mp m ca122) f τ m 1 ca122 w.shared:=⟨_,ha122.mo 1⟩;refine w98 ?_;unfold ztT at hp;intro m0 P;obtain⟨S,T,Y,Z⟩:=S0.blk P τ0 2;have aa:=M0.k Y;intro m1 ba;obtain⟨ca,da,q,ea⟩:=T.blk ba S 3;have fa:=Z.k q;have ga:=aa.k q;intro m2 ha;obtain⟨r,s,l,t⟩:=da.blk ha ca 4;have y:=fa.k l;have z:=ea.k l;have n:=ga.k l;refine⟨trivial,_,y.bk.rc rfl,_,_,_,_,_,_,z.bk.ra,?_⟩;obtain⟨ia,hp⟩:=zqq hp;refine⟨_,n.mi.lk zvu (k:=m_) ia rfl,?_⟩
 cases o:(zqK w.shared m_) with
 | none=>
  rw[zqT o] at hp;refine⟨fun _=>?_,fun u hu=>(by cases hu)⟩;intro Eb ja;obtain⟨A,ka,d,la⟩:=s.blk ja r 5;have ma:=y.k d;have na:=z.k d;have oa:=t.k d;have pa:=n.k d;obtain⟨qa,sa,B,e,wb⟩:=la.sto ka [Il 0,Il 0,Il 0,Il 0,Il 0,Il 0,Il 0,Il 0,Il 0,Il 0,Il 0];have D:=ma.k e;have F:=na.k e;have ta:=oa.k e;have G:=pa.k e;refine⟨qa,sa,?_⟩;refine⟨_,_,_,_,_,_,_,_,_,_,_,_,_,_,_,_,_,_,_,_,_,_,_,_,D.bk.ra,_,_,_,_,_,_,F.bk.ra,?_⟩;obtain⟨a,ua,hp⟩:=zqp hp;refine zwq (w:=({ p:=w.p,kinds:=w.kinds,shared:=(),played:=() }:WkD)) (m_:=m_) B.pre ha100 ha102 ha103 ha112 ha121 (show zrF _ _ _ from G.mi.noFn) (show zrF _ _ _ from ha123.noFn) ua fun Fb va=>?_;obtain⟨wa,g⟩:=B.call va A;have xa:=D.k g;have ya:=F.k g;have za:=ta.k g;have Aa:=G.k g;refine⟨_,_,_,_,_,_,_,_,_,_,_,rfl,?_⟩;intro Gb Ba;obtain⟨xb,Ca,i,Da⟩:=wa.blk Ba A 6;have Ea:=xa.k i;have Fa:=ya.k i;have Ga:=za.k i;have Ha:=Aa.k i;obtain⟨Ia,Ja,Ka,j,I⟩:=Da.sto Ca [Il a.pays.p0,Il a.pays.p1,Il a.pays.p2,Il a.pays.p3,Il a.pays.p4,Il a.keeps.p0,Il a.keeps.p1,Il a.keeps.p2,Il a.keeps.p3,Il a.keeps.p4,Il a.society];have La:=Ea.k j;have Ma:=Fa.k j;have Na:=Ga.k j;have Oa:=Ha.k j;refine⟨Ia,Ja,?_⟩;refine⟨trivial,_,La.bk.rc rfl,_,_,_,_,_,_,Ma.bk.ra,_,_,_,_,_,_,_,_,_,_,_,I.bk.ra,?_⟩;obtain⟨Pa,hp⟩:=zqq hp;obtain⟨yb,Qa,hp⟩:=zqp hp;obtain⟨Ra,Sa,Ta,J,Ua⟩:=Mo.up zvu Ka Oa (k:=m_) Pa (v:=a) Qa (kv:=.agg 6 [Il m_.loss,Il m_.paid.p0,Il m_.paid.p1,Il m_.paid.p2,Il m_.paid.p3,Il m_.paid.p4]) (yv:=.agg 11 [Il a.pays.p0,Il a.pays.p1,Il a.pays.p2,Il a.pays.p3,Il a.pays.p4,Il a.keeps.p0,Il a.keeps.p1,Il a.keeps.p2,Il a.keeps.p3,Il a.keeps.p4,Il a.society]) rfl rfl
  have Va:=Na.k J;have Wa:=I.k J;refine⟨Ra,Sa,?_⟩;refine⟨_,_,_,_,_,_,_,_,_,_,_,Wa.bk.ra,?_⟩;obtain⟨Xa,Ya,Za,ab,bb⟩:=Va.sto Ta [Il a.pays.p0,Il a.pays.p1,Il a.pays.p2,Il a.pays.p3,Il a.pays.p4,Il a.keeps.p0,Il a.keeps.p1,Il a.keeps.p2,Il a.keeps.p3,Il a.keeps.p4,Il a.society];have cb:=Ua.k ab;refine⟨Xa,Ya,?_⟩;refine⟨_,_,_,_,_,_,_,_,_,_,_,bb.bk.ra,?_⟩;obtain rfl:=oi hp;exact hq _ Za.extB cb.mi
 | some c=>
  rw[zqU o] at hp;refine⟨fun h=>(by cases h),fun u hu=>?_⟩;obtain rfl:=oi hu;refine⟨_,_,_,_,_,_,_,_,_,_,_,rfl,?_⟩;intro Db db;obtain⟨zb,eb,N,fb⟩:=s.blk db r 7;have gb:=t.k N;have hb:=n.k N;obtain⟨ib,jb,kb,O,mb⟩:=fb.sto eb [Il c.pays.p0,Il c.pays.p1,Il c.pays.p2,Il c.pays.p3,Il c.pays.p4,Il c.keeps.p0,Il c.keeps.p1,Il c.keeps.p2,Il c.keeps.p3,Il c.keeps.p4,Il c.society];have ob:=gb.k O;have pb:=hb.k O;refine⟨ib,jb,?_⟩;refine⟨_,_,_,_,_,_,_,_,_,_,_,mb.bk.ra,?_⟩;obtain⟨qb,rb,sb,tb,ub⟩:=ob.sto kb [Il c.pays.p0,Il c.pays.p1,Il c.pays.p2,Il c.pays.p3,Il c.pays.p4,Il c.keeps.p0,Il c.keeps.p1,Il c.keeps.p2,Il c.keeps.p3,Il c.keeps.p4,Il c.society];have vb:=pb.k tb;refine⟨qb,rb,?_⟩;refine⟨_,_,_,_,_,_,_,_,_,_,_,ub.bk.ra,?_⟩;obtain rfl:=oi hp;exact hq _ sb.extB vb.mi
theorem zws{w:WkP}{losses:List Int}{ca100 ca102 ca103 ca112 ca121 ca122 ca123 ca200:C}{m f:M}{Q:V->M->Prop}{rz:Oc × Option (Mt->Option (Oc))}(hS:Pre f m)(ha100:Sl f ca100 w.p.Losses)(ha102:Sl f ca102 w.p.Treaties)(ha103:Sl f ca103 w.p.Reports)(ha112:zvp f ca112 w.kinds.k0.takes)(ha121:zvp f ca121 w.kinds.k1.takes)(ha122:Mc f m ca122 w.shared)(ha123:zrF f ca123 w.played)(ha200:Sl f ca200 losses)(hp:ztV w losses=some rz)(hq:∀m',zqM ca122 m m'->Mi m' ca122 rz.2->Q (.agg 11 [Il rz.1.pays.p0,Il rz.1.pays.p1,Il rz.1.pays.p2,Il rz.1.pays.p3,Il rz.1.pays.p4,Il rz.1.keeps.p0,Il rz.1.keeps.p1,Il rz.1.keeps.p2,Il rz.1.keeps.p3,Il rz.1.keeps.p4,Il rz.1.society]) m'):Wc prog tbl 59 [.agg 24 [ca100,Il w.p.Reserve,ca102,ca103,Il w.kinds.k0.part.Lo,Il w.kinds.k0.part.Hi,Il w.kinds.k0.above.Lo,Il w.kinds.k0.above.Hi,Il w.kinds.k0.most.Lo,Il w.kinds.k0.most.Hi,Il w.kinds.k0.times.Lo,Il w.kinds.k0.times.Hi,ca112,Il w.kinds.k1.part.Lo,Il w.kinds.k1.part.Hi,Il w.kinds.k1.above.Lo,Il w.kinds.k1.above.Hi,Il w.kinds.k1.most.Lo,Il w.kinds.k1.most.Hi,Il w.kinds.k1.times.Lo,Il w.kinds.k1.times.Hi,ca121,ca122,ca123],.c ca200] m Q:=by
 have S0:=hS.stM ha122;obtain⟨τ0,M0⟩:∃τ,Mo (Fm.mp m ca122) f τ m 1 ca122 w.shared:=⟨_,ha122.mo 1⟩;refine w59 ?_;unfold ztV at hp;intro m0 da;obtain⟨ea,fa,ga,ha⟩:=S0.blk da τ0 2;have ia:=M0.k ga;intro m1 ja;obtain⟨ka,la,Y,ma⟩:=fa.blk ja ea 3;have na:=ha.k Y;have oa:=ia.k Y;intro m2 pa;obtain⟨qa,sa,J,e⟩:=la.blk pa ka 4;have B:=na.k J;have D:=ma.k J;have q:=oa.k J;refine⟨ha200.isSl,?_⟩;intro R3 Ya
 have hgo:∀(G:Nat) (x4:Int) (g:Int) (h:Int) (i:Int) (l:Int) (n:Int) (r:Int) (s:Int) (t:Int) (u:Int) (y:Int) (z:Int) (F:Option (Mt->Option (Oc))) (S:M) (d:Nat->Nat),St (Fm.mp m ca122) f f S->Lb (Fm.mp m ca122) f d S 2 m.nxt 24 [ca100,Il w.p.Reserve,ca102,ca103,Il w.kinds.k0.part.Lo,Il w.kinds.k0.part.Hi,Il w.kinds.k0.above.Lo,Il w.kinds.k0.above.Hi,Il w.kinds.k0.most.Lo,Il w.kinds.k0.most.Hi,Il w.kinds.k0.times.Lo,Il w.kinds.k0.times.Hi,ca112,Il w.kinds.k1.part.Lo,Il w.kinds.k1.part.Hi,Il w.kinds.k1.above.Lo,Il w.kinds.k1.above.Hi,Il w.kinds.k1.most.Lo,Il w.kinds.k1.most.Hi,Il w.kinds.k1.times.Lo,Il w.kinds.k1.times.Hi,ca121,ca122,ca123]->Lb (Fm.mp m ca122) f d S 3 m0.nxt 11 [Il 0,Il 0,Il 0,Il 0,Il 0,Il 0,Il 0,Il 0,Il 0,Il 0,Il 0]->Lb (Fm.mp m ca122) f d S 4 m1.nxt 11 [Il g,Il h,Il i,Il l,Il n,Il r,Il s,Il t,Il u,Il y,Il z]->Mo (Fm.mp m ca122) f d S 1 ca122 F->ztU w losses G g h i l n r s t u y z F x4=some rz->R3 [.c (Il x4)] S:=by
  intro G
  induction G with
  | zero=>intro x4 g h i l n r s t u y z F S d A B D e q hp; cases hp
  | succ G Xa=>
   intro x4 g h i l n r s t u y z F S d A B D e q hp;refine Ya _ _ ?_;rw[ztU] at hp
   try rw[ha200.slLen]
   refine ifd hp (fun ua hp=>?_) fun ua hp=>?_; rotate_left
   ·refine⟨_,_,_,_,_,_,_,_,_,_,_,e.bk.ra,?_⟩;obtain⟨va,wa,xa,ya,za⟩:=D.sto A [Il g,Il h,Il i,Il l,Il n,Il r,Il s,Il t,Il u,Il y,Il z];have Aa:=q.k ya;refine⟨va,wa,?_⟩;refine⟨_,_,_,_,_,_,_,_,_,_,_,za.bk.ra,?_⟩;obtain rfl:=oi hp;exact hq _ xa.extB Aa.mi
   obtain⟨Ba,N,hp⟩:=zqp hp;obtain⟨n6,ba,T,N⟩:=zqj N;refine⟨n6,ba,(by first|exact T|(rw[ha200.slLen];exact T)),_,(ha200.rdI N A.sub),_,_,_,_,_,_,_,_,_,_,_,e.bk.ra,_,_,_,_,_,_,_,_,_,_,_,_,_,_,_,_,_,_,_,_,_,_,_,_,B.bk.ra,trivial,_,_,_,_,_,e.bk.rp (k:=0) (j:=5) rfl (by omega),?_⟩;obtain⟨Ca,Da,hp⟩:=zqp hp;refine zwr (w:=({ p:=w.p,kinds:=w.kinds,shared:=F,played:=() }:WkP)) (m_:=({ loss:=Ba,paid:=({ p0:=g,p1:=h,p2:=i,p3:=l,p4:=n }:P5) }:Mt)) A.pre ha100 ha102 ha103 ha112 ha121 (q.mc A) (show zrF _ _ _ from ha123.noFn) Da fun gb Ea ca=>?_;obtain⟨Z,O,Fa⟩:=A.callM q Ea ca;have Ga:=B.k O;have Ha:=D.k O;have aa:=e.k O;refine⟨_,_,_,_,_,_,_,_,_,_,_,rfl,(aa.bk.ra),?_⟩;obtain⟨a,Ia,hp⟩:=zqp hp;refine zwm (o:=({ pays:=({ p0:=g,p1:=h,p2:=i,p3:=l,p4:=n }:P5),keeps:=({ p0:=r,p1:=s,p2:=t,p3:=u,p4:=y }:P5),society:=z }:Oc)) (more:=Ca.1) Z.pre  Ia fun hb Ja=>?_;obtain⟨Ka,I⟩:=Z.call Ja d;have La:=Ga.k I;have Ma:=Ha.k I;have Na:=aa.k I;have Oa:=Fa.k I;refine⟨_,_,_,_,_,_,_,_,_,_,_,rfl,?_⟩;obtain⟨Pa,Qa,Ra,P,Sa⟩:=Na.sto Ka [Il a.pays.p0,Il a.pays.p1,Il a.pays.p2,Il a.pays.p3,Il a.pays.p4,Il a.keeps.p0,Il a.keeps.p1,Il a.keeps.p2,Il a.keeps.p3,Il a.keeps.p4,Il a.society];have Ta:=La.k P;have Ua:=Ma.k P;have Va:=Oa.k P;refine⟨Pa,Qa,?_⟩;refine gdi hp fun Wa hp=>?_;exact Xa _ _ _ _ _ _ _ _ _ _ _ _ _ _ d Ra Ta Ua Sa Va hp
 exact hgo _ _ _ _ _ _ _ _ _ _ _ _ _ _ _ qa sa B D e q hp
theorem zwt{l:List Int}{v:Int}{ca100:C}{m f:M}{Q:V->M->Prop}{rz:Int}(hS:Pre f m)(ha100:Sl f ca100 l)(hp:ztX l v=some rz)(hq:∀m',Ext m m'->Q (.c (Il rz)) m'):Wc prog tbl 135 [.c ca100,.c (Il v)] m Q:=by
 have w:=hS.st;obtain⟨y,_⟩:=zsk;refine zuZ ?_;unfold ztX at hp;refine⟨ha100.isSl,?_⟩;intro z t
 have hgo:∀(d:Nat) (r:Int) (j:Int) (n:M) (e:Nat->Nat),St (Fm.of m) f f n->ztW l v d j=some rz->z [.c (Il r),.c (Il j)] n:=by
  intro d
  induction d with
  | zero=>intro r j n e a hp; cases hp
  | succ d s=>
   intro r j n e a hp;refine t _ _ _ ?_;rw[ztW] at hp
   try rw[ha100.slLen]
   refine ifd hp (fun o hp=>?_) fun o hp=>?_; rotate_left
   ·obtain rfl:=oi hp;exact hq _ a.ext'
   obtain⟨u,g,hp⟩:=zqp hp;obtain⟨A,i,h,g⟩:=zqj g;refine⟨A,i,(by first|exact h|(rw[ha100.slLen];exact h)),_,(ha100.rdI g a.sub),?_⟩;refine ifd hp (fun p hp=>?_) fun p hp=>?_
   ·obtain rfl:=oi hp;exact hq _ a.ext'
   refine gdi hp fun q hp=>?_;exact s _ _ _ e a hp
 exact hgo _ _ _ _ y w hp
theorem zwu{l:List Int}{v:Int}{ca100:C}{m f:M}{Q:V->M->Prop}{rz:Bool}(hS:Pre f m)(ha100:Sl f ca100 l)(hp:ztY l v=some rz)(hq:∀m',Ext m m'->Q (.c (.bool rz)) m'):Wc prog tbl 117 [.c ca100,.c (Il v)] m Q:=by
 have g:=hS.st;obtain⟨j,_⟩:=zsk;refine zu5 ?_;unfold ztY at hp;obtain⟨h,a,hp⟩:=zqp hp;refine zwt (l:=l) (v:=v) g.pre ha100 a fun n d=>?_;obtain⟨e,i⟩:=g.call d j;refine⟨_,rfl,?_⟩;obtain rfl:=oi hp;exact hq _ e.ext'
theorem zwv{l:List Rpt}{out:List Int}{ca100 ca200:C}{m f:M}{Q:V->M->Prop}{rz:List Rpt}(hS:Pre f m)(ha100:Sl f ca100 l)(ha200:Sl f ca200 out)(hp:zt0 l out=some rz)(hq:∀m' f' c0,Grw m f m' f'->Sl f' c0 rz->Q (.c c0) m'):Wc prog tbl 87 [.c ca100,.c ca200] m Q:=by
 have S0:=hS.st;obtain⟨τ0,_⟩:=zsk;refine w87 ?_;unfold zt0 at hp;refine⟨ha100.isSl,?_⟩;intro R0 na
 have hgo:∀(g:Nat) (t:C) (u:Int) (h:List Rpt) (w:M) (i:Nat->Nat),St (Fm.of m) f f w->Ow (Fm.of m) f i w 1 t h->ztZ l out g h u=some rz->R0 [.c t,.c (Il u)] w:=by
  intro g
  induction g with
  | zero=>intro t u h w i j d hp; cases hp
  | succ g y=>
   intro t u h w i j d hp;refine na _ _ _ ?_;rw[ztZ] at hp
   try rw[ha100.slLen]
   refine ifd hp (fun A hp=>?_) fun A hp=>?_; rotate_left
   ·obtain⟨B,D,oa,F⟩:=d.freeze j;obtain rfl:=oi hp;exact hq _ B t D.grw F
   obtain⟨e,n,hp⟩:=zqp hp;obtain⟨n4,z,o,n⟩:=zqj n;obtain⟨_,G⟩:=zsq ha100 n;refine⟨n4,z,(by first|exact o|(rw[ha100.slLen];exact o)),_,_,_,(G _ j.sub).1,?_⟩;intro m8 I;obtain⟨p,J,N,O⟩:=j.blk I i 2;have d:=d.k N;obtain⟨P,S,q,T,Y⟩:=O.sto J [Il e.Treaty,Il e.Paid.Lo,Il e.Paid.Hi];have d:=d.k T;refine⟨P,S,?_⟩;obtain⟨pa,Z,hp⟩:=zqp hp;refine zwu (l:=out) (v:=u) q.pre ha200 Z fun wa aa=>?_;obtain⟨r,s⟩:=q.call aa p;have ba:=Y.k s;have d:=d.k s;refine⟨_,rfl,?_⟩;refine zq2 hp (fun ca hp=>?_) fun ca hp=>?_; rotate_left
   ·refine gdi hp fun da hp=>?_;exact y _ _ _ _ p r d hp
   refine⟨_,_,_,ba.bk.ra,?_⟩;obtain⟨ea,hp⟩:=zqq hp;intro xa fa;obtain⟨ga,ha,ia,ja,ka,qa,la⟩:=d.app' zvx r (a:=e) (show Rp.rep (α:=Rpt) f _ e from rfl) ea fa;refine⟨ga,ha,ja,?_⟩;refine gdi hp fun ma hp=>?_;exact y _ _ _ _ ia ka la hp
 exact hgo _ _ _ _ _ τ0 S0 (Ow.nil _ _ _ _ _) hp
theorem zww{l:List Int}{ca100:C}{m f:M}{Q:V->M->Prop}{rz:List Int}(hS:Pre f m)(ha100:Sl f ca100 l)(hp:zt1 l=some rz)(hq:∀m' f' c0,Grw m f m' f'->On m f' m' c0 rz->Q (.c c0) m'):Wc prog tbl 60 [.c ca100] m Q:=by
 have q:=hS.st;obtain⟨r,_⟩:=zsk;refine w60 ?_;unfold zt1 at hp;refine⟨(zrD ha100),(zrD ha100),trivial,(Bool.or_true _),?_⟩
 cases d:zma ca100 with
 | true=>
  refine zq6 ?_;obtain rfl:=zrC ha100 d;obtain⟨_,hp⟩:=zqq hp;obtain rfl:=oi hp;exact hq _ _ .sl0 q.grw (Ow.nil _ _ r _ 0).on
 | false=>
  refine zq5 ?_;intro y e;obtain⟨s,g,t,h⟩:=Ow.lit0 (α:=Int) q r 1 e;obtain⟨i,hp⟩:=zqq hp;obtain⟨a,j,u,n,o,w,p⟩:=h.appL zvv g ha100 i;refine⟨a,j,n,?_⟩;obtain rfl:=oi hp;exact hq _ f a o.grw p.on
end
end Go.Proofs.YtkcmdghjgoaggaaGreat

namespace Go.Proofs.YtkcmdghjgoaggaaGreat
open _root_.Go.Proofs.Tryz
open Go.Abs
set_option maxRecDepth 100000
noncomputable section
theorem zwx(y:C)(b b2:Nat){m:M}{Q:V->M->Prop}(h:(∀e:M,(e=M.new m (AO.cells 1 [y] false))->∃g,ldC e (.ptr b 0)=some (Il g)/\∃i:Nat,∃a:Nat,g=((i:Nat):Int)/\g=((a:Nat):Int)/\i<=a/\a<=4096/\∀f:M,(f=M.new e (AO.cells (a * 1) (zaJ [Il 0] a) false))->∀l:M,(l=M.new f (AO.cells 1 [C.sl0] false))->∃d:M,stC l (.ptr f.nxt 0) 1 [.sl e.nxt 0 i 0 (some a)]=some d/\∀o:M,(o=M.new d (AO.cells 1 [C.nilFn] false))->∃j:M,stC o (.ptr d.nxt 0) 1 [(C.fn (Fn.func 133) [] [(W.c (C0.ptr b 0)),(W.c (C0.ptr m.nxt 0)),(W.c (C0.ptr f.nxt 0)),(W.c (C0.ptr b2 0)),(W.c (C0.ptr d.nxt 0))])]=some j/\∃p,ldC j (.ptr d.nxt 0)=some p/\zmw prog tbl [.c (Il 0),(.c (Il 0))] p j (fun q r=>∃s,q=.c (.bool s)/\Q (.tup []) r))):Wc prog tbl 132 [.c y,.c (.ptr b 0),.c (.ptr b2 0)] m Q:=zpK (n:=3) rfl (by kernel_rfl) (by kernel_rfl) h
theorem zwy(at' from':Int)(b k h2 b2 cv:Nat){m:M}{Q:V->M->Prop}(h:(∃q,ldC m (.ptr b 0)=some (Il q)/\ifB (decide (at'=q)) (∃r,ldC m (.ptr k 0)=some r/\∃s,ldC m (.ptr h2 0)=some s/\zmw prog tbl [.c s] r m (fun y z=>∃t,y=.c (.bool t)/\Q (.c (.bool t)) z)) (∀p:List V->M->Prop,(∀u:Bool,∀a:Int,∀d:M,(∃i,ldC d (.ptr b2 0)=some (Il i)/\ifB (decide (a < i)) (∃e,ldC d (.ptr h2 0)=some e/\∃f:Nat,at'=((f:Nat):Int)/\f < (slLen e)/\∃g:M,stC d (zl9 e (f * 1)) 1 [Il a]=some g/\∃j,ldC g (.ptr cv 0)=some j/\zl7 .i64 (at'+(1:Int))/\zl7 .i64 (a+1)/\zmw prog tbl [.c (Il (at'+(1:Int))),(.c (Il (a+1)))] j g (fun w l=>∃o,w=.c (.bool o)/\ifB (!o) (Q (.c (.bool false)) l) (zl7 .i64 (a+1)/\p [.c (.bool u),(.c (Il (a+1)))] l))) (Q (.c (.bool true)) d))->p [.c (.bool u),(.c (Il a))] d)->p [.c (.bool false),(.c (Il from'))] m))):Wc prog tbl 133 [.c (Il at'),.c (Il from'),.c (.ptr b 0),.c (.ptr k 0),.c (.ptr h2 0),.c (.ptr b2 0),.c (.ptr cv 0)] m Q:=zpK (n:=7) rfl (by kernel_rfl) (by kernel_rfl) h
theorem t22:tk prog 27=.sl 3:=by kernel_rfl
theorem g3:zcw prog 3=true:=by kernel_rfl
theorem z3:prog.cellsOf 3=1:=by kernel_rfl
theorem zwz{P:List Int}{p:Nat}(hp:p < P.length)(n:Int):(P.set p n).take (p+1)=P.take p++[n]:=by
 rw[ybf,ya4 hp,ybv (yac _)]; rfl
theorem _root_.Go.Abs.Chg.trans{S S1:Nat->Prop}{T:Nat->Prop}{m m1 m2:M}(h1:Chg (fun b=>S b\/T b) m m1)(h2:Chg (fun b=>S1 b\/T b) m1 m2)(ho:Own S m S1):Chg (fun b=>S b\/T b) m m2:=
 ⟨yae h1.nxt h2.nxt,fun b hb hS=>by
  rw[h2.g b (yaf hb h1.nxt) fun h=>h.elim (fun h3=>(ho b h3).elim (fun h4=>hS (.inl h4)) fun h4=>by omega) fun h3=>hS (.inr h3)]
  exact h1.g b hb hS,h2.vw.trans h1.vw⟩
theorem _root_.Go.Abs.Own.refl(S:Nat->Prop)(m:M):Own S m S:=fun _ hb=>.inl hb
theorem _root_.Go.Abs.Own.trans{S S1 S2:Nat->Prop}{m m1:M}(h1:Own S m S1)(h2:Own S1 m1 S2)(hn:m.nxt<=m1.nxt):Own S m S2:=fun b hb=>(h2 b hb).elim (h1 b) fun h=>.inr (by omega)
theorem _root_.Go.Abs.Chg.or{S T:Nat->Prop}{m m':M}(h:Chg S m m'):Chg (fun b=>S b\/T b) m m':=⟨h.nxt,fun b hb hS=>h.g b hb fun h2=>hS (.inl h2),h.vw⟩
theorem zwA(L:List Int)(i:Nat)(v:Int):(zqc L).set i (.int .i64 v)=zqc (L.set i v):=by unfold zqc; rw[List.map_set]
theorem zwB{n:Int}(h1:-1000000<=n)(h2:n<=1000000):zl7 .i64 n:=by simp only[zl7]; omega
theorem zwC{α:Type}(g:Nat->List α)(a:α):∀(e n:Nat),a∈zrx g e n↔∃j,n<=j/\j < n+e/\a∈g j
 | 0,n=>⟨fun h=>(by cases h),fun⟨j,h1,h2,_⟩=>by omega⟩
 | e+1,n=>by
  show a∈g n++zrx g e (n+1)↔_
  rw[yaV,zwC g a e (n+1)]
  constructor
  ·rintro (h | ⟨j,h1,h2,h3⟩)
   ·exact⟨n,yac _,by omega,h⟩
   ·exact⟨j,by omega,by omega,h3⟩
  ·rintro⟨j,h1,h2,h3⟩
   by_cases hj:j=n
   ·subst hj; exact .inl h3
   ·exact .inr ⟨j,by omega,by omega,h3⟩
def hdr(bl size:Nat):C:=.sl bl 0 size 0 (some size)
def flC(b k h2 b2 cv:Nat):C:=.fn (.func 133) [] [.c (.ptr b 0),.c (.ptr k 0),.c (.ptr h2 0),.c (.ptr b2 0),.c (.ptr cv 0)]
def VsL(all:List (List Int))(n1 i:Nat)(x:List V)(m:M):Prop:=∃L c,all[i]? = some L/\x=[.c c]/\Li m c L/\(zma c=false/\zqi c 1 L.length)/\∀b o n s d,c=.sl b o n s d->n1<=b
theorem _root_.Go.Abs.Bk.st1n{m:M}{b n:Nat}{vs:List C}(h:Bk m b n vs){k:Nat}(c:C)(hk:k < vs.length)(hn:vs.length=n):stC m (.ptr b (0+k * 1)) 1 [c]=some (m.set b (.cells n (vs.set k c) false)):=by
 rw[show 0+k * 1=k by omega]
 by_cases h1:n=1
 ·subst h1
  have hk0:k=0:=by omega
  subst hk0
  have:vs.set 0 c=[c]:=by
   match vs,hn with
   | [a],_=>rfl
  rw[this];exact zp4 h.g [c]
 ·exact zp5 h.g c hk hn h1
theorem zwD(n:Nat):zaJ [C.int .i64 0] n=zqc (List.replicate n 0):=by rw[zeB]; simp[zqc]
structure SlF (n size b b2 l k h2 bl cv:Nat) (S:Nat->Prop) (m:M) (P:List Int):Prop where
 bb:Bk m b 1 [.int .i64 (size:Int)]
 nn:Bk m b2 1 [.int .i64 (n:Int)]
 kk:Bk m k 1 [.fn (.yield l) [] []]
 hh:Bk m h2 1 [hdr bl size]
 ll:Bk m bl size (zqc P)
 cc:Bk m cv 1 [flC b k h2 b2 cv]
 ss:∀b',S b'->b' ≠ b/\b' ≠ b2/\b' ≠ k/\b' ≠ h2/\b' ≠ bl/\b' ≠ cv
 ne:b ≠ bl/\b2 ≠ bl/\k ≠ bl/\h2 ≠ bl/\cv ≠ bl
variable {n size b b2 l k h2 bl cv:Nat}
theorem SlF.to{S S':Nat->Prop}{m m':M}{P:List Int}(h:SlF n size b b2 l k h2 bl cv S m P)(hn:Chg S m m')(ho:Own S m S'):SlF n size b b2 l k h2 bl cv S' m' P:=by
 have tr:∀{b' j:Nat} {vs:List C},Bk m b' j vs->¬ S b'->Bk m' b' j vs:=fun hb hS=>⟨(hn.g _ hb.lt hS).trans hb.g,yaf hb.lt hn.nxt⟩;refine⟨tr h.bb fun h1=>(h.ss _ h1).1 rfl,tr h.nn fun h1=>(h.ss _ h1).2.1 rfl,tr h.kk fun h1=>(h.ss _ h1).2.2.1 rfl,tr h.hh fun h1=>(h.ss _ h1).2.2.2.1 rfl,tr h.ll fun h1=>(h.ss _ h1).2.2.2.2.1 rfl,tr h.cc fun h1=>(h.ss _ h1).2.2.2.2.2 rfl,fun b' hb=>?_,h.ne⟩
 rcases ho b' hb with h1 | h1
 ·exact h.ss b' h1
 ·have:=h.bb.lt; have:=h.nn.lt; have:=h.kk.lt; have:=h.hh.lt; have:=h.ll.lt; have:=h.cc.lt
  omega
theorem SlF.set{S:Nat->Prop}{m:M}{P:List Int}(h:SlF n size b b2 l k h2 bl cv S m P)(P':List Int):SlF n size b b2 l k h2 bl cv S (m.set bl (.cells size (zqc P') false)) P':=
 ⟨h.bb.setNe h.ne.1 _,h.nn.setNe h.ne.2.1 _,h.kk.setNe h.ne.2.2.1 _,h.hh.setNe h.ne.2.2.2.1 _,h.ll.set _,h.cc.setNe h.ne.2.2.2.2 _,h.ss,h.ne⟩
theorem SlF.li{S:Nat->Prop}{m:M}{P:List Int}(h:SlF n size b b2 l k h2 bl cv S m P)(hP:P.length=size):Li m (hdr bl size) P:=by
 refine⟨by rw[zqd]; omega,.inr ⟨bl,0,0,some size,by rw[hP]; rfl,h.ll.lt,fun _=>.inl ⟨size,zqc P,false,h.ll.g,by rw[zqd]; exact hP,by rw[zqd]; omega,by rw[yas,yaZ]⟩⟩⟩
theorem zwE{n0 n1:Nat}(hn:n<=1000)(hsz:size<=1000)(hn0:n0<=bl)(hn1:n1<=bl){all:List (List Int)}{I:Nat->(Nat->Prop)->M->Prop}{E:(Nat->Prop)->M->Prop}(hcl:zq7 prog tbl n0 l (VsL all n1) I E) :
  ∀(d p:Nat),d+p=size->∀(i fr:Nat) (S:Nat->Prop) (m:M) (P:List Int) (Q:V->M->Prop),SlF n size b b2 l k h2 bl cv S m P->P.length=size ->
   (∀j L,(zry n d (P.take p) fr)[j]? = some L->all[i+j]? = some L)->I i S m ->
   (∀S' m' P',Own S m S'->Chg (fun b'=>S b'\/b'=bl) m m'->SlF n size b b2 l k h2 bl cv S' m' P'->P'.length=size->P'.take p=P.take p->I (i+(zry n d (P.take p) fr).length) S' m'->Q (.c (.bool true)) m') ->
   (∀S' m',Own S m S'->Chg (fun b'=>S b'\/b'=bl) m m'->E S' m'->Q (.c (.bool false)) m') ->
   Wc prog tbl 133 [.c (.int .i64 (p:Int)),.c (.int .i64 (fr:Int)),.c (.ptr b 0),.c (.ptr k 0),.c (.ptr h2 0),.c (.ptr b2 0),.c (.ptr cv 0)] m Q:=by
 intro d
 induction d with
 | zero=>
  intro p hp i fr S m P Q hst hP hxs hI hT hF;refine zwy (p:Int) (fr:Int) b k h2 b2 cv ⟨_,hst.bb.rc rfl,?_⟩;rw[zpP];refine⟨fun _=>⟨_,hst.kk.rc rfl,_,hst.hh.rc rfl,?_⟩,fun h1=>absurd (by omega) h1⟩;have hx0:=hxs 0 (P.take p) rfl;rw[yaw (by omega),ybF] at hx0
  show Wy prog tbl l [.c (hdr bl size)] m _
  refine hcl.yield i _ S m ⟨P,hdr bl size,hx0,rfl,hst.li hP,⟨rfl,.inr (.inl ⟨bl,0,0,size,by rw[hP]; rfl,by omega⟩)⟩,fun b' o n' s d h=>by cases h; exact hn1⟩ hI _ (fun S' m' ho hch hI'=>⟨_,rfl,?_⟩) fun S' m' ho hch hE=>⟨_,rfl,hF S' m' ho (Chg.or hch) hE⟩;exact hT S' m' P ho (Chg.or hch) (hst.to hch ho) hP rfl hI'
 | succ d ih=>
  intro p hp i fr S m P Q hst hP hxs hI hT hF;refine zwy (p:Int) (fr:Int) b k h2 b2 cv ⟨_,hst.bb.rc rfl,?_⟩;rw[zpP];refine⟨fun h1=>by omega,fun _ R6 hstep=>?_⟩
  let g:Nat->List (List Int):=fun x=>zry n d (P.take p++[(x:Int)]) (x+1)
  have hex:zry n (d+1) (P.take p) fr=zrx g (n - fr) fr:=rfl;rw[hex] at hxs hT
  have hgo:∀(e x:Nat) (b7:Bool) (m9:M) (S1:Nat->Prop) (P1:List Int) (i1:Nat),n - x=e->Own S m S1->Chg (fun b'=>S b'\/b'=bl) m m9->SlF n size b b2 l k h2 bl cv S1 m9 P1->P1.length=size->P1.take p=P.take p->I i1 S1 m9 ->
    i1+(zrx g e x).length=i+(zrx g (n - fr) fr).length->(∀j L,(zrx g e x)[j]? = some L->all[i1+j]? = some L)->R6 [.c (.bool b7),.c (.int .i64 (x:Int))] m9:=by
   intro e
   induction e with
   | zero=>
    intro x b7 m9 S1 P1 i1 hen ho hch hst1 hP1 htk hI1 hlen hxs1;refine hstep _ _ _ ⟨_,hst1.nn.rc rfl,?_⟩;rw[zpP];refine⟨fun h1=>by omega,fun _=>hT S1 m9 P1 ho hch hst1 hP1 htk ?_⟩;have:i1+0=_:=hlen;rw[<- this,ybF]; exact hI1
   | succ e ihe=>
    intro x b7 m9 S1 P1 i1 hen ho hch hst1 hP1 htk hI1 hlen hxs1;refine hstep _ _ _ ⟨_,hst1.nn.rc rfl,?_⟩;rw[zpP];refine⟨fun _=>?_,fun h1=>absurd (by omega) h1⟩
    have hp9:p < P1.length:=by omega
    refine⟨_,hst1.hh.rc rfl,p,rfl,(by show p < size; omega),_,hst1.ll.st1n _ (by rw[zqd]; exact hp9) (by rw[zqd]; exact hP1),?_⟩;rw[zwA];have hst2:=hst1.set (P1.set p (x:Int));have hch2:Chg (fun b'=>S1 b'\/b'=bl) m9 (m9.set bl (.cells size (zqc (P1.set p (x:Int))) false)):=⟨yac _,fun b' _ hS=>by rw[M.g_set,yab fun h1=>hS (.inr h1)],rfl⟩;have hI2:I i1 S1 (m9.set bl (.cells size (zqc (P1.set p (x:Int))) false)):=(hcl.li i1).st _ _ _ hI1 (yac _) rfl (fun b' hb=>by rw[M.g_set,yab (hst1.ss b' hb).2.2.2.2.1]) (fun b' hb=>by rw[M.g_set,yab (by omega)]);have hchm:=Chg.trans (T:=fun b'=>b'=bl) hch hch2 ho;generalize m9.set bl (.cells size (zqc (P1.set p (x:Int))) false)=m13 at hst2 hch2 hI2 hchm
    have hP2:(P1.set p (x:Int)).length=size:=by rw[ybi]; exact hP1
    have htk2:(P1.set p (x:Int)).take (p+1)=P.take p++[(x:Int)]:=by rw[zwz hp9,htk]
    have htk3:(P1.set p (x:Int)).take p=P.take p:=by rw[ybv (yac _),htk]
    generalize P1.set p (x:Int)=P2 at hst2 htk2 htk3 hP2;have hge:zrx g (e+1) x=g x++zrx g e (x+1):=rfl
    have hg:g x=zry n d (P2.take (p+1)) (x+1):=by rw[htk2]
    rw[hge,hg] at hlen hxs1;rw[yan] at hlen;refine⟨_,hst2.cc.rc rfl,zwB (by omega) (by omega),zwB (by omega) (by omega),?_⟩
    show Wc prog tbl 133 [.c (.int .i64 ((p+1:Nat):Int)),.c (.int .i64 ((x+1:Nat):Int)),.c (.ptr b 0),.c (.ptr k 0),.c (.ptr h2 0),.c (.ptr b2 0),.c (.ptr cv 0)] m13 _
    refine ih (p+1) (by omega) i1 (x+1) S1 m13 P2 _ hst2 hP2 (fun j H hj=>hxs1 j H (by rw[ybk (yai.1 hj).1]; exact hj)) hI2 (fun S' m' P' ho' hch' hst' hP' htk' hI'=>⟨_,rfl,?_⟩) fun S' m' ho' hch' hE=>⟨_,rfl,?_⟩
    ·have htk4:P'.take p=P.take p:=by
      have h1:=congrArg (List.take p) htk';rw[yaz,yaz,yaQ (by omega)] at h1;rw[h1,htk3]
     refine⟨zwB (by omega) (by omega),ihe (x+1) b7 m' S' P' _ (by omega) (Own.trans ho ho' hchm.nxt) (Chg.trans (T:=fun b'=>b'=bl) hchm hch' ho) hst' hP' htk4 hI' (by omega) fun j H hj=>?_⟩;rw[ybQ];exact hxs1 _ H (by rw[ybt (by omega),ycw]; exact hj)
    ·exact hF S' m' (Own.trans ho ho' hchm.nxt) (Chg.trans (T:=fun b'=>b'=bl) hchm hch' ho) hE
  exact hgo (n - fr) fr false m S P i rfl (Own.refl S m) ⟨yac _,fun _ _ _=>rfl,rfl⟩ hst hP rfl hI rfl hxs
theorem zwF(hn:n<=1000)(hsz:size<=1000):zq8 prog tbl (.fn (.func 132) [] [.c (.ptr b 0),.c (.ptr b2 0)]) (zry n size [] 0).length (VsL (zry n size [] 0)) (fun b'=>b'=b\/b'=b2) (fun m=>Bk m b 1 [.int .i64 (size:Int)]/\Bk m b2 1 [.int .i64 (n:Int)]):=by
 refine⟨fun m m' h hn' hv hg=>⟨⟨(hg b (.inl rfl)).trans h.1.g,yaf h.1.lt hn'⟩,⟨(hg b2 (.inr rfl)).trans h.2.g,yaf h.2.lt hn'⟩⟩,fun m h b' hb=>hb.elim (fun h1=>h1 ▸ h.1.lt) fun h1=>h1 ▸ h.2.lt,fun n0' l I E S m hcl hn0' hI hR hSD Q hQ=>?_⟩;have hSlt:=(hcl.li 0).lt _ _ hI;have hb:=hR.1.lt;have hb2:=hR.2.lt
 show Wc prog tbl 132 [.c (.fn (.yield l) [] []),.c (.ptr b 0),.c (.ptr b2 0)] m Q
 refine zwx _ b b2 fun m0 e0=>?_;obtain⟨b0,x0⟩:=Bk.new e0;refine⟨_,(hR.1.ext x0).rc rfl,size,size,rfl,rfl,yac _,by omega,fun m4 e4 m5 e5=>?_⟩;rw[zwD,ybp] at e4;obtain⟨b4,x4⟩:=Bk.new e4;obtain⟨b5,x5⟩:=Bk.new e5
 have n0:m0.nxt=m.nxt+1:=by rw[e0]; rfl
 have n4:m4.nxt=m.nxt+2:=by rw[e4]; show m0.nxt+1=_; omega
 have n5:m5.nxt=m.nxt+3:=by rw[e5]; show m4.nxt+1=_; omega
 refine⟨_,b5.st _,fun m7 e7=>?_⟩;have k6:=b5.set [C.sl m0.nxt 0 size 0 (some size)];have x6:Ext m (m5.set m4.nxt (.cells 1 [C.sl m0.nxt 0 size 0 (some size)] false)):=((x0.trans x4).trans x5).setR (by omega) _;have k0:Bk (m5.set m4.nxt (.cells 1 [C.sl m0.nxt 0 size 0 (some size)] false)) m.nxt 1 [.fn (.yield l) [] []]:=((b0.ext x4).ext x5).setNe (by omega) _;have k4:Bk (m5.set m4.nxt (.cells 1 [C.sl m0.nxt 0 size 0 (some size)] false)) m0.nxt size (zqc (List.replicate size 0)):=(b4.ext x5).setNe (by omega) _;have n6:(m5.set m4.nxt (.cells 1 [C.sl m0.nxt 0 size 0 (some size)] false)).nxt=m.nxt+3:=n5;have e7':m7=(m5.set m4.nxt (.cells 1 [C.sl m0.nxt 0 size 0 (some size)] false)).new (.cells 1 [.nilFn] false):=e7
 clear e7
 generalize m5.set m4.nxt (.cells 1 [C.sl m0.nxt 0 size 0 (some size)] false)=m6 at k6 x6 k0 k4 n6 e7' ⊢;obtain⟨b7,x7⟩:=Bk.new e7'
 have n7:m7.nxt=m.nxt+4:=by rw[e7']; show m6.nxt+1=_; omega
 refine⟨_,b7.st _,_,(b7.set _).rc rfl,?_⟩;have k8:=b7.set [flC b m.nxt m4.nxt b2 m6.nxt];have x8:Ext m (m7.set m6.nxt (.cells 1 [flC b m.nxt m4.nxt b2 m6.nxt] false)):=(x6.trans x7).setR (by omega) _;have j0:=(k0.ext x7).setNe (c:=m6.nxt) (by omega) (.cells 1 [flC b m.nxt m4.nxt b2 m6.nxt] false);have j4:=(k4.ext x7).setNe (c:=m6.nxt) (by omega) (.cells 1 [flC b m.nxt m4.nxt b2 m6.nxt] false);have j6:=(k6.ext x7).setNe (c:=m6.nxt) (by omega) (.cells 1 [flC b m.nxt m4.nxt b2 m6.nxt] false)
 show zmw prog tbl _ (flC b m.nxt m4.nxt b2 m6.nxt) (m7.set m6.nxt (.cells 1 [flC b m.nxt m4.nxt b2 m6.nxt] false)) _
 generalize m7.set m6.nxt (.cells 1 [flC b m.nxt m4.nxt b2 m6.nxt] false)=m8 at k8 x8 j0 j4 j6;have hI8:I 0 S m8:=(hcl.li 0).st _ _ _ hI x8.nxt x8.vw (fun b' hb=>x8.g b' (hSlt b' hb)) (fun b' hb=>x8.g b' (by omega))
 have hSl:SlF n size b b2 l m.nxt m4.nxt m0.nxt m6.nxt S m8 (List.replicate size 0):=⟨hR.1.ext x8,hR.2.ext x8,j0,j6,j4,k8,fun b' hb'=>by
  have h1:=hSlt b' hb';have h2:=hSD b' hb'
  exact⟨fun h=>h2 (.inl h),fun h=>h2 (.inr h),by omega,by omega,by omega,by omega⟩,by omega⟩
 have hchg:∀{m':M},Chg (fun b'=>S b'\/b'=m0.nxt) m8 m'->Chg S m m':=fun {m'} h=>⟨yae x8.nxt h.nxt,fun b' hb hSb=>by
  rw[h.g b' (yaf hb x8.nxt) fun h3=>h3.elim hSb fun h4=>by omega]
  exact x8.g b' hb,h.vw.trans x8.vw⟩
 show Wc prog tbl 133 [.c (.int .i64 ((0:Nat):Int)),.c (.int .i64 ((0:Nat):Int)),.c (.ptr b 0),.c (.ptr m.nxt 0),.c (.ptr m4.nxt 0),.c (.ptr b2 0),.c (.ptr m6.nxt 0)] m8 _
 refine zwE hn hsz (n0:=n0') (n1:=m.nxt) (by omega) (by omega) hcl size 0 (by omega) 0 0 S m8 _ _ hSl (by simp) (fun j L hj=>by rw[Nat.zero_add]; exact hj) hI8 (fun S' m' P' ho hch hst' _ _ hI'=>⟨_,rfl,?_⟩) fun S' m' ho hch hE=>⟨_,rfl,?_⟩
 ·rw[yav] at hI';exact hQ _ S' m' (Own.trans (Own.refl S m) ho x8.nxt) (hchg hch) (.inl hI')
 ·exact hQ _ S' m' (Own.trans (Own.refl S m) ho x8.nxt) (hchg hch) (.inr hE)
theorem zwG{m:M}{z:C}{L:List Int}(hz:Li m z L)(hn:zma z=false):∃b o n s c,z=.sl b o n s c:=by
 rcases hz.val with ⟨rfl,_⟩ | ⟨b,o,s,c,rfl,_⟩
 ·cases hn
 ·exact⟨_,_,_,_,_,rfl⟩
theorem zwH{z:C}{L:List Int}{m:M}{Q:V->M->Prop}(hz:Li m z L)(hn:zma z=false)(hL:L.length<=1000)(h:∀z' m',Ext m m'->Li m' z' L->Fr m z'->zqi z' 1 L.length->Q (.c z') m'):Wc prog tbl 60 [.c z] m Q:=by
 obtain⟨b,o,n,s,c,rfl⟩:=zwG hz hn;refine w60 ⟨trivial,trivial,trivial,rfl,?_⟩
 show ∀m0:M,_
 intro m0 e0;obtain⟨b0,x0⟩:=Bk.new e0;have ho:zp7 m0 1 (.sl m.nxt 0 0 0 (some 0)) [] 0:=⟨rfl,.lit _ b0.g b0.lt⟩
 by_cases h0:L.length=0
 ·have hL0:L=[]:=yaT h0;subst hL0;exact⟨_,_,zqb t22 g3 z3 ho (hz.ext x0),h _ _ x0 ho.ls (fun b o n s d hq=>by cases hq; exact yac _) (.inr (.inl ⟨_,_,_,_,rfl,yac _⟩))⟩
 ·obtain⟨m',q1,q2,q3,q4,q5⟩:=zqa t22 g3 z3 ho (hz.ext x0) (by omega) (by omega) (by omega)
  have n0:m0.nxt=m.nxt+1:=by rw[e0]; rfl
  refine⟨_,m',q1,h _ _ ⟨by omega,fun b' hb=>?_,q4.trans x0.vw⟩ ?_ (fun b o n s d hq=>by cases hq; omega) (.inr (.inr ⟨_,_,by rw[yav]⟩))⟩
  ·rw[q5 b' (by omega) (by intro hq; cases hq)]; exact x0.g b' hb
  ·have:=q2.ls;rw[ybh] at this;have e:0+L.length=L.length:=yav _;rw[e] at this ⊢;exact this
theorem zwI{α:Type}(g:Nat->List α)(p:α->Bool):∀e x,(zrx g (e+1) x).find? p=((g x).find? p).or ((zrx g e (x+1)).find? p):=fun e x=>by
 show(g x++zrx g e (x+1)).find? p=_
 rw[List.find?_append]
def zwJ(n:Nat)(m:M)(fnc:C)(t:List Int->Bool):Prop:=
 ∀m' z L,Ext m m'->Li m' z L->zqi z 1 L.length->L∈zoi n->∀Q:V->M->Prop,(∀m'',Ext m' m''->Q (.c (.bool (t L))) m'')->zmw prog tbl [.c z] fnc m' Q
theorem zwK{l:List (List Int)}{i:Nat}{a:List Int}(h:l[i]? = some a)(p:List Int->Bool):(l.drop i).find? p=if p a then some a else (l.drop (i+1)).find? p:=by
 obtain⟨hi,ha⟩:=yai.1 h;rw[yaJ hi,ha,yck]
 cases p a <;> rfl
theorem zwL{n:Nat}{L:List Int}:∀{d:Nat} {pre:List Int} {fr:Nat},L∈zry n d pre fr->L.length=pre.length+d
 | 0,pre,fr,h=>by
  have:L=pre:=yaC.1 h;rw[this]; rfl
 | d+1,pre,fr,h=>by
  obtain⟨x,_,_,h3⟩:=(zwC _ _ _ _).1 h;have:=zwL h3;rw[yan] at this
  simp only[List.length_cons,List.length_nil] at this
  omega
theorem zwM{n:Nat}{fnc:C}{t:List Int->Bool}{m:M}{Q:V->M->Prop}(hn:n<=100)(ht:zwJ n m fnc t)(h:∀z m',Ext m m'->Li m' z (zrz n t)->zqi z 1 (zrz n t).length->(∀b o n' s d,z=.sl b o n' s d->m.nxt<=b)->Q (.c z) m'):Wc prog tbl 88 [.c (.int .i64 (n:Int)),.c fnc] m Q:=by
 refine w88 fun m0 e0 m1 e1=>?_;obtain⟨b0,x0⟩:=Bk.new e0;obtain⟨b1,x1⟩:=Bk.new e1;have x01:=x0.trans x1
 have n0:m0.nxt=m.nxt+1:=by rw[e0]; rfl
 refine⟨zwB (by omega) (by omega),fun R2 hstep=>?_⟩
 let G:Nat->List (List Int):=fun s=>zry n s [] 0
 have hgo:∀(e s:Nat) (m4:M),e+s=n+1->Ext m m4->Bk m4 m.nxt 1 [fnc]->Bk m4 m0.nxt 1 [.sl0]->(zrx G e s).find? t=(zoi n).find? t->R2 [.c (.int .i64 (s:Int))] m4:=by
  intro e
  induction e with
  | zero=>
   intro s m4 hes x4 k0 k1 hfind;refine hstep _ _ ?_;rw[zpP];refine⟨fun h1=>by omega,fun _=>⟨_,k1.rc rfl,?_⟩⟩
   have:zrz n t=[]:=by unfold zrz; rw[<- hfind]; rfl
   refine h _ _ x4 ?_ ?_ fun _ _ _ _ _ h9=>by cases h9
   ·rw[this]; exact Ls.nil m4 1
   ·rw[this]; exact .inl ⟨rfl,rfl⟩
  | succ e ih=>
   intro s m4 hes x4 k0 k1 hfind;refine hstep _ _ ?_;rw[zpP];refine⟨fun _=>?_,fun h1=>absurd (by omega) h1⟩;refine zvk fun m5 e5 m6 e6=>?_;obtain⟨b5,x5⟩:=Bk.new e5;obtain⟨b6,x6⟩:=Bk.new e6;have x56:=x5.trans x6;refine⟨_,rfl,?_⟩;have hk0:=k0.lt;have hk1:=k1.lt
   have n5:m5.nxt=m4.nxt+1:=by rw[e5]; rfl
   have x46:=x4.trans x56;have k06:=k0.ext x56;have k16:=k1.ext x56;rw[zwI] at hfind
   refine zq9 (zwF (b:=m5.nxt) (b2:=m4.nxt) (n:=n) (size:=s) (by omega) (by omega)) ⟨b6,b5.ext x6⟩
    (J:=fun i S ma=>(∀b',S b'↔b'=m0.nxt)/\Bk ma m0.nxt 1 [.sl0]/\((G s).drop i).find? t=(G s).find? t/\m6.nxt<=ma.nxt/\ma.vw=m6.vw/\∀b',b' < m6.nxt->b' ≠ m0.nxt->ma.g b'=m6.g b')
    (X:=fun ex S ma=>ex=.exit 0/\∃z L,(∀b',S b'↔b'=m0.nxt\/∃o n s d,z=.sl b' o n s d)/\Bk ma m0.nxt 1 [z]/\Li ma z L/\(∀b' o n s d,z=.sl b' o n s d->m.nxt<=b'/\b' < ma.nxt)/\((G s).find? t=some L/\zqi z 1 L.length)/\m6.nxt<=ma.nxt/\ma.vw=m6.vw/\∀b',b' < m6.nxt->b' ≠ m0.nxt->ma.g b'=m6.g b')
    (fun i=>⟨fun S ma mb hj hn' hv hg hlow=>⟨hj.1,⟨(hg _ ((hj.1 _).2 rfl)).trans hj.2.1.g,yaf hj.2.1.lt hn'⟩,hj.2.2.1,yae hj.2.2.2.1 hn',hv.trans hj.2.2.2.2.1,fun b' hb' hne=>(hlow b' hb').trans (hj.2.2.2.2.2 b' hb' hne)⟩,fun S ma hj b' hb'=>by rw[(hj.1 b').1 hb']; exact hj.2.1.lt⟩)
    (fun ex=>⟨fun S ma mb hj hn' hv hg hlow=>?_,fun S ma hj b' hb'=>?_⟩) (S0:=fun b'=>b'=m0.nxt) ⟨fun _=>Iff.rfl,k16,rfl,yac _,rfl,fun _ _ _=>rfl⟩ (fun b' hb' hd=>by rcases hd with hd | hd <;> omega) ?_ ?_ ?_ ?_
   ·obtain⟨h1,z,L,h2,h3,h4,h5,h6,h7,h8,h9⟩:=hj;refine⟨h1,z,L,h2,⟨(hg _ ((h2 _).2 (.inl rfl))).trans h3.g,yaf h3.lt hn'⟩,h4.to hn' (fun b' _ hx'=>?_) hv,fun b' o n s d hz=>⟨(h5 b' o n s d hz).1,yaf (h5 b' o n s d hz).2 hn'⟩,h6,yae h7 hn',hv.trans h8,fun b' hb' hne=>(hlow b' hb').trans (h9 b' hb' hne)⟩;obtain⟨o,s',d,hx'⟩:=hx';exact hg b' ((h2 b').2 (.inr ⟨_,_,_,_,hx'⟩))
   ·obtain⟨h1,z,L,h2,h3,h4,h5,h6,_⟩:=hj
    rcases (h2 b').1 hb' with rfl | ⟨o,n',s',d,hz⟩
    ·exact h3.lt
    ·exact(h5 _ _ _ _ _ hz).2
   ·intro i xv S ma B' enter K hxv hj hlt hSl hown henter hK;obtain⟨L,z,hL,rfl,hz,hnil,hfr⟩:=hxv;obtain⟨hS,hkb,hf,hn6,hv6,hg6⟩:=hj;refine⟨z,rfl,henter ma _ rfl fun m15 hn15 hv15 hg15 hB15=>?_⟩
    have hne0:m0.nxt ≠ m6.nxt:=by have:=k16.lt; omega
    have hl15:Li m15 z L:=hz.to (by omega) (fun b' _ hx'=>by obtain⟨o,s',d,hx'⟩:=hx'; exact hg15 b' (by have:=hfr b' _ _ _ _ hx'; omega)) hv15;have kk15:Bk m15 m0.nxt 1 [.sl0]:=⟨(hg15 _ hne0).trans hkb.g,by rw[hn15]; exact hkb.lt⟩;have hold:∀b',b' < m6.nxt->b' ≠ m0.nxt->m15.g b'=m6.g b':=fun b' hb' hne=>(hg15 b' (by omega)).trans (hg6 b' hb' hne);have x15:Ext m m15:=⟨by rw[hn15]; exact yae x46.nxt hn6,fun b' hb'=>by rw[hold b' (yaf hb' x46.nxt) (by omega)]; exact x46.g b' hb',by rw[hv15,hv6]; exact x46.vw⟩;have kf15:Bk m15 m.nxt 1 [fnc]:=⟨(hold _ k06.lt (by omega)).trans k06.g,by rw[hn15]; exact yaf k06.lt hn6⟩;have hLm:L∈zry n s [] 0:=yaI hL;have hmem:L∈zoi n:=(zwC _ _ _ _).2 ⟨s,yaq _,by omega,hLm⟩;have hlen:=zwL hLm
    simp only[List.length_nil] at hlen
    refine⟨fnc,kf15.rc rfl,ht m15 z L x15 hl15 hnil.2 hmem _ fun m18 e18=>⟨_,rfl,?_⟩⟩;have kk18:=kk15.ext e18
    have hg18:∀b',b' < ma.nxt->b' ≠ m6.nxt->m18.g b'=ma.g b':=fun b' hb' hne=>by rw[e18.g b' (by omega)]; exact hg15 b' hne
    have hn18:ma.nxt<=m18.nxt:=by rw[<- hn15]; exact e18.nxt
    have hv18:m18.vw=ma.vw:=e18.vw.trans hv15;have hB18:m18.g m6.nxt=m15.g m6.nxt:=e18.g _ (by omega);rw[zpQ];refine⟨fun htl=>?_,fun htl=>?_⟩
    ·refine zwH (hl15.ext e18) hnil.1 (by omega) fun z' m21 e21 hz' hfr' hok'=>⟨z',rfl,_,(kk18.ext e21).st _,?_⟩
     have hzne:∀b' o n s d,z'=.sl b' o n s d->b' ≠ m0.nxt:=fun b' o n s d hq=>by have:=hfr' b' o n s d hq; have:=kk18.lt; omega
     refine hK (.exit 0) (fun b'=>b'=m0.nxt\/∃o n s d,z'=.sl b' o n s d) _ (hB15 _ ?_) (yae hn18 e21.nxt) (e21.vw.trans hv18) (fun b' hb' hSb hbl=>?_) (fun b' hb'=>?_) ⟨rfl,z',L,fun _=>Iff.rfl,(kk18.ext e21).set _,hz'.setNe hzne _,fun b' o n s d hq=>?_,?_,?_,?_,fun b' hb' hne=>?_⟩
     ·rw[M.g_set,yab (by omega),e21.g _ (by omega)]; exact hB18
     ·rw[M.g_set,yab fun h0=>hSb ((hS b').2 h0),e21.g b' (by omega)]; exact hg18 b' hb' hbl
     ·rcases hb' with h0 | ⟨o,n',s',d,hq⟩
      ·exact .inl ((hS b').2 h0)
      ·exact .inr (by have:=hfr' _ _ _ _ _ hq; omega)
     ·have hmm:m.nxt<=b':=by have:=hfr' _ _ _ _ _ hq; have:=x15.nxt; have:=e18.nxt; omega
      refine⟨hmm,?_⟩;subst hq
      rcases hz'.val with ⟨h0,_⟩ | ⟨b3,o3,s3,c3,h0,h1,_⟩
      ·cases h0
      ·cases h0; exact h1
     ·exact⟨by rw[<- hf,zwK hL,yaa htl],hok'⟩
     ·exact yae hn6 (yae hn18 e21.nxt)
     ·exact(e21.vw.trans hv18).trans hv6
     ·rw[M.g_set,yab hne,e21.g b' (by omega),hg18 b' (by omega) (by omega)]; exact hg6 b' hb' hne
    ·refine hK .nrm S _ (hB15 _ hB18) hn18 hv18 (fun b' hb' _ hbl=>hg18 b' hb' hbl) (Own.refl S ma) ⟨hS,kk18,?_,yae hn6 hn18,hv18.trans hv6,fun b' hb' hne=>by rw[hg18 b' (by omega) (by omega)]; exact hg6 b' hb' hne⟩;rw[<- hf,zwK hL,yab (by rw[htl]; decide)]
   ·intro S' m5' hown hlt hv hg hj;obtain⟨hS,hkb,hf,hn6,hv6,hg6⟩:=hj
    have hnone:(G s).find? t=none:=by rw[<- hf,ybe (yac _)]; rfl
    rw[hnone] at hfind;refine⟨zwB (by omega) (by omega),ih (s+1) m5' (by omega) ⟨yae x46.nxt hn6,fun b' hb'=>by rw[hg6 b' (yaf hb' x46.nxt) (by omega)]; exact x46.g b' hb',hv6.trans x46.vw⟩ ⟨(hg6 _ k06.lt (by omega)).trans k06.g,yaf k06.lt hn6⟩ hkb hfind⟩
   ·intro id S' m5' hown hlt hv hg hj;obtain⟨h1,z,L,h2,h3,h4,h5,h6,hn6,hv6,hg6⟩:=hj
    cases h1
    refine⟨z,h3.rc rfl,h z m5' ⟨yae x46.nxt hn6,fun b' hb'=>by rw[hg6 b' (yaf hb' x46.nxt) (by omega)]; exact x46.g b' hb',hv6.trans x46.vw⟩ ?_ ?_ fun b o n' s d hz=>(h5 b o n' s d hz).1⟩ <;> rw[show zrz n t=L from by unfold zrz; rw[<- hfind,h6.1]; rfl]
    ·exact h4
    ·exact h6.2
   ·intro S' m5' hown hlt hv hg hj;exact absurd hj.1 (by intro h; cases h)
 exact hgo (n+1) 0 m1 (by omega) x01 (b0.ext x1) b1 rfl
end
end Go.Proofs.YtkcmdghjgoaggaaGreat

namespace Go.Proofs.YtkcmdghjgoaggaaGreat
open _root_.Go.Proofs.Tryz
open Go.Abs
set_option maxRecDepth 100000
noncomputable section
def zwN(f:M)(x:C)(g:List Int->Option (Bool)):Prop:=∀(f' m:M) (a0:List Int) (c0:C) (r:Bool) (Q:V->M->Prop),Sub f f'->Pre f' m->Sl f' c0 a0->g a0=some r->(∀m',Ext m m'->Q (.c (.bool r)) m')->zmw prog tbl [.c c0] x m Q
theorem zwN.sub{f m:M}{x:C}{g:List Int->Option (Bool)}(h:zwN f x g)(s:Sub f m):zwN m x g:=fun f' m' a0 c0 r Q hs=>h f' m' a0 c0 r Q (s.trans hs)
theorem zri{f:M}:∀(l:List Int),Cat f (zqc l) l
 | []=>rfl
 | a::l=>⟨[.int .i64 a],zqc l,rfl,rfl,zri l⟩
def asM(m:M):M:={ nxt:=m.nxt,g:=fun b=>if b < m.nxt then m.g b else none,vw:=m.vw }
theorem zwO(m:M):Sub (asM m) m:=⟨yac _,rfl,fun _b hb _=>(yaa hb).symm⟩
theorem zwP{f m m':M}(h:Sub f m)(e:Ext m m'):Sub f (asM m'):=⟨yae h.nxt e.nxt,e.vw.trans h.vw,fun b hb hd=>by
 have:=yaf hb h.nxt;have:=e.nxt
 show(if b < m'.nxt then m'.g b else none)=_
 rw[yaa (by omega),e.g b (by omega)]
 exact h.g b hb hd⟩
theorem zwQ{f m m':M}(h:Pre f m)(e:Ext m m'):Pre (asM m') m':=⟨zwO m',fun b hb=>yab (by have hb:m'.nxt<=b:=hb; omega),fun b hb=>by
 have hb:m'.nxt<=b:=hb
 show m'.vw b=none
 rw[e.vw,h.sub.vw]
 exact h.fv b (yae h.sub.nxt (yae e.nxt hb))⟩
theorem zwR{m:M}{z:C}{L:List Int}(h:Li m z L)(hok:zqi z 1 L.length):Sl (asM m) z L:=by
 refine⟨zqc L,⟨h.len,?_⟩,zri L,hok⟩
 rcases h.val with h1 | ⟨b,o,t,c,h1,h2,h3⟩
 ·exact .inl h1
 ·refine .inr ⟨b,o,t,c,h1,h2,fun h0=>(h3 h0).to' ?_ rfl⟩;exact yaa h2
def grM(f m m':M):M:={ nxt:=m'.nxt,g:=fun b=>if b < m.nxt then f.g b else if b < m'.nxt then m'.g b else none,vw:=f.vw }
theorem zwS{f m m':M}(h:Pre f m)(e:Ext m m'):Pre (grM f m m') m':=by
 have hn:=h.sub.nxt;have he:=e.nxt;refine⟨⟨yac _,by show m'.vw=f.vw; rw[e.vw,h.sub.vw],fun b hb hd=>?_⟩,fun b hb=>?_,fun b hb=>h.fv b (by have hb:m'.nxt<=b:=hb; omega)⟩
 ·show m'.g b=(if b < m.nxt then f.g b else if b < m'.nxt then m'.g b else none)
  have hb:b < m'.nxt:=hb
  by_cases hbm:b < m.nxt
  ·rw[yaa hbm];have hd:(if b < m.nxt then f.g b else if b < m'.nxt then m'.g b else none) ≠ none\/f.vw b ≠ none:=hd;rw[yaa hbm] at hd
   have hbf:b < f.nxt:=by
    rcases yax b f.nxt with h1 | h1
    ·exact h1
    ·exact(hd.elim (fun h2=>h2 (h.fz b h1)) fun h2=>h2 (h.fv b h1)).elim
   rw[e.g b hbm]; exact h.sub.g b hbf hd
  ·rw[yab hbm,yaa hb]
 ·have hb:m'.nxt<=b:=hb
  show(if b < m.nxt then f.g b else if b < m'.nxt then m'.g b else none)=none
  rw[yab (by omega),yab (by omega)]
theorem zwT{n:Int}{passes:List Int->Option Bool}{c2:C}{m f:M}{Q:V->M->Prop}{rz:List Int}(hS:Pre f m)(hF:zwN f c2 passes)(hp:zrA n passes=some rz)(hq:∀m' f' c0,Grw m f m' f'->Sl f' c0 rz->Q (.c c0) m'):Wc prog tbl 88 [.c (Il n),.c c2] m Q:=by
 obtain⟨⟨p,q,i⟩,hp⟩:=zqq hp;obtain rfl:=oi hp
 have hn:n=((n.toNat:Nat):Int):=by omega
 rw[hn];refine zwM (n:=n.toNat) (t:=fun L=>(passes L).getD false) (by omega) (fun m' z L e hz hok hL Q' hQ'=>?_) fun z m' e hz hok hfr=>?_
 ·have hs:=i L hL
  cases hpl:passes L with
  | none=>rw[hpl] at hs; cases hs
  | some b=>
   refine hF (asM m') m' L z b Q' (zwP hS.sub e) (zwQ hS e) (zwR hz hok) hpl fun m'' e'=>?_;have d:Q' (V.c (C.bool ((passes L).getD false))) m'':=hQ' m'' e';rw[hpl] at d;exact d
 ·refine hq m' (grM f m m') z ⟨e,⟨yae hS.sub.nxt e.nxt,rfl,fun b hb _=>yaa (yaf hb hS.sub.nxt)⟩,zwS hS e,fun b hb=>yaa hb⟩ ?_;refine⟨zqc _,⟨hz.len,?_⟩,zri _,hok⟩
  rcases hz.val with a | ⟨b,o,t,c,a,h,j⟩
  ·exact .inl a
  ·refine .inr ⟨b,o,t,c,a,h,fun l=>(j l).to' ?_ ?_⟩
   ·have d:=hfr _ _ _ _ _ a
    show(if b < m.nxt then f.g b else if b < m'.nxt then m'.g b else none)=_
    rw[yab (by omega),yaa h]
   ·show f.vw b=m'.vw b
    rw[e.vw,hS.sub.vw]
theorem zwU(y:C)(b:Nat){m:M}{Q:V->M->Prop}(h:(∀e:M,(e=M.new m (AO.cells 1 [y] false))->∃f,ldC e (.ptr b 0)=some f/\isSl f/\∃i:Nat,∃a:Nat,(slLen f:Int)=((i:Nat):Int)/\(slLen f:Int)=((a:Nat):Int)/\i<=a/\a<=4096/\∀g:M,(g=M.new e (AO.cells (a * 1) (zaJ [Il 0] a) false))->∀l:M,(l=M.new g (AO.cells 1 [C.sl0] false))->∃d:M,stC l (.ptr g.nxt 0) 1 [.sl e.nxt 0 i 0 (some a)]=some d/\∀o:M,(o=M.new d (AO.cells 1 [C.nilFn] false))->∃j:M,stC o (.ptr d.nxt 0) 1 [(C.fn (Fn.func 141) [] [(W.c (C0.ptr b 0)),(W.c (C0.ptr m.nxt 0)),(W.c (C0.ptr g.nxt 0)),(W.c (C0.ptr d.nxt 0))])]=some j/\∃p,ldC j (.ptr d.nxt 0)=some p/\zmw prog tbl [.c (Il 0)] p j (fun q r=>∃s,q=.c (.bool s)/\Q (.tup []) r))):Wc prog tbl 140 [.c y,.c (.ptr b 0)] m Q:=zpK (n:=2) rfl (by kernel_rfl) (by kernel_rfl) h
theorem zwV(at':Int)(br k bd cv:Nat){m:M}{Q:V->M->Prop}(h:(∃u,ldC m (.ptr br 0)=some u/\isSl u/\ifB (decide (at'=(slLen u:Int))) (∃z,ldC m (.ptr k 0)=some z/\∃A,ldC m (.ptr bd 0)=some A/\zmw prog tbl [.c A] z m (fun N O=>∃B,N=.c (.bool B)/\Q (.c (.bool B)) O)) (∃w,ldC m (.ptr br 0)=some w/\∃y:Nat,at'=((y:Nat):Int)/\y < (slLen w)/\∃D F,ldA m (zl9 w (y * 2)) 2=some [Il D,Il F]/\Wc prog tbl 107 [.agg 2 [Il D,Il F]] m (fun G I=>∃p,G=.c (Il p)/\∀g:List V->M->Prop,(∀q:Bool,∀a:Int,∀d:M,(ifB (decide (a < p)) (∃i,ldC d (.ptr bd 0)=some i/\∃e,ldC d (.ptr br 0)=some e/\∃f:Nat,at'=((f:Nat):Int)/\f < (slLen e)/\isPt (zl9 e (f * 2))/\∃j,ldC d (zl8 (zl9 e (f * 2)) 0)=some (Il j)/\zl7 .i64 (j+a)/\∃l:Nat,at'=((l:Nat):Int)/\l < (slLen i)/\∃o:M,stC d (zl9 i (l * 1)) 1 [(Il (j+a))]=some o/\∃r,ldC o (.ptr cv 0)=some r/\zl7 .i64 (at'+(1:Int))/\zmw prog tbl [.c (Il (at'+(1:Int)))] r o (fun J s=>∃t,J=.c (.bool t)/\ifB (!t) (Q (.c (.bool false)) s) (zl7 .i64 (a+1)/\g [.c (.bool q),(.c (Il (a+1)))] s))) (Q (.c (.bool true)) d))->g [.c (.bool q),(.c (Il a))] d)->g [.c (.bool false),(.c (Il 0))] I)))):Wc prog tbl 141 [.c (Il at'),.c (.ptr br 0),.c (.ptr k 0),.c (.ptr bd 0),.c (.ptr cv 0)] m Q:=zpK (n:=5) rfl (by kernel_rfl) (by kernel_rfl) h
theorem zwW{n:Int}(h1:-1000000<=n)(h2:n<=1000000):zl7 .i64 n:=by simp only[zl7]; omega
theorem zwX{r:Rg}(h:okR r):zty r=some (szR r):=by
 unfold okR at h;unfold zty gd;rw[yaa (zwW (by omega) (by omega)),yaa (zwW (by omega) (by omega))]; rfl
def hdP(bl N:Nat):C:=.sl bl 0 N 0 (some N)
def flP(br k bd cv:Nat):C:=.fn (.func 141) [] [.c (.ptr br 0),.c (.ptr k 0),.c (.ptr bd 0),.c (.ptr cv 0)]
theorem zwY{P:List Int}{p:Nat}(hp:p < P.length)(n:Int):(P.set p n).take (p+1)=P.take p++[n]:=by
 rw[ybf,ya4 hp,ybv (yac _)]; rfl
theorem zwZ(L:List Int)(i:Nat)(v:Int):(zqc L).set i (.int .i64 v)=zqc (L.set i v):=by unfold zqc; rw[List.map_set]
theorem zw0(n:Nat):zaJ [C.int .i64 0] n=zqc (List.replicate n 0):=by rw[zeB]; simp[zqc]
theorem zw1{m:M}{b n:Nat}{vs:List C}(h:Bk m b n vs){k:Nat}(c:C)(hk:k < vs.length)(hn:vs.length=n):stC m (.ptr b (0+k * 1)) 1 [c]=some (m.set b (.cells n (vs.set k c) false)):=by
 rw[show 0+k * 1=k by omega]
 by_cases h1:n=1
 ·subst h1
  have hk0:k=0:=by omega
  subst hk0
  have:vs.set 0 c=[c]:=by
   match vs,hn with
   | [a],_=>rfl
  rw[this];exact zp4 h.g [c]
 ·exact zp5 h.g c hk hn h1
structure CkF (f:M) (l br k bd cv bl N:Nat) (cR:C) (S:Nat->Prop) (m:M) (P:List Int):Prop where
 sb:Sub f m
 rr:Bk m br 1 [cR]
 kk:Bk m k 1 [.fn (.yield l) [] []]
 dd:Bk m bd 1 [hdP bl N]
 cc:Bk m cv 1 [flP br k bd cv]
 ll:Bk m bl N (zqc P)
 ss:∀b',S b'->b' ≠ br/\b' ≠ k/\b' ≠ bd/\b' ≠ cv/\b' ≠ bl/\f.g b'=none/\f.vw b'=none
 ne:br ≠ bl/\k ≠ bl/\bd ≠ bl/\cv ≠ bl
variable {f:M} {l br k bd cv bl N:Nat} {cR:C}
theorem CkF.chg{S S':Nat->Prop}{m m':M}{P:List Int}(hz:∀b,f.nxt<=b->f.g b=none)(hv:∀b,f.nxt<=b->f.vw b=none)(h:CkF f l br k bd cv bl N cR S m P)(hc:Chg S m m')(ho:Own S m S'):CkF f l br k bd cv bl N cR S' m' P:=by
 have tr:∀{b' j:Nat} {vs:List C},Bk m b' j vs->¬ S b'->Bk m' b' j vs:=fun hb hS=>⟨(hc.g _ hb.lt hS).trans hb.g,yaf hb.lt hc.nxt⟩;refine⟨⟨yae h.sb.nxt hc.nxt,hc.vw.trans h.sb.vw,fun b' hb hd=>?_⟩,tr h.rr fun hs=>(h.ss _ hs).1 rfl,tr h.kk fun hs=>(h.ss _ hs).2.1 rfl,tr h.dd fun hs=>(h.ss _ hs).2.2.1 rfl,tr h.cc fun hs=>(h.ss _ hs).2.2.2.1 rfl,tr h.ll fun hs=>(h.ss _ hs).2.2.2.2.1 rfl,fun b' hb=>?_,h.ne⟩
 ·rw[hc.g b' (yaf hb h.sb.nxt) fun hs=>hd.elim (fun h1=>h1 (h.ss b' hs).2.2.2.2.2.1) fun h1=>h1 (h.ss b' hs).2.2.2.2.2.2];exact h.sb.g b' hb hd
 ·rcases ho b' hb with hs | hs
  ·exact h.ss b' hs
  ·have:=h.rr.lt; have:=h.kk.lt; have:=h.dd.lt; have:=h.cc.lt; have:=h.ll.lt; have:=h.sb.nxt;exact⟨by omega,by omega,by omega,by omega,by omega,hz b' (by omega),hv b' (by omega)⟩
theorem CkF.ext{S:Nat->Prop}{m m':M}{P:List Int}(hz:∀b,f.nxt<=b->f.g b=none)(hv:∀b,f.nxt<=b->f.vw b=none)(h:CkF f l br k bd cv bl N cR S m P)(x:Ext m m'):CkF f l br k bd cv bl N cR S m' P:=
 h.chg hz hv ⟨x.nxt,fun b' hb _=>x.g b' hb,x.vw⟩ fun _ hb=>.inl hb
theorem CkF.set{S:Nat->Prop}{m:M}{P:List Int}(h:CkF f l br k bd cv bl N cR S m P)(hb:f.g bl=none/\f.vw bl=none)(P':List Int):CkF f l br k bd cv bl N cR S (m.set bl (.cells N (zqc P') false)) P':=
 ⟨⟨h.sb.nxt,h.sb.vw,fun b' hb' hd=>by
  rw[M.g_set,yab fun he=>by subst he; exact hd.elim (fun q=>q hb.1) fun q=>q hb.2]
  exact h.sb.g b' hb' hd⟩,h.rr.setNe h.ne.1 _,h.kk.setNe h.ne.2.1 _,h.dd.setNe h.ne.2.2.1 _,h.cc.setNe h.ne.2.2.2 _,h.ll.set _,h.ss,h.ne⟩
theorem slP{m:M}{P:List Int}(h:Bk m bl N (zqc P))(hP:P.length=N):SlX m (fun b'=>b'=bl) (hdP bl N) P:=by
 refine⟨⟨zqc P,⟨by rw[zqd]; exact ybp _,.inr ⟨bl,0,0,some N,by rw[hP]; rfl,h.lt,fun _=>.inl ⟨N,zqc P,false,h.g,by rw[zqd]; exact hP,by rw[zqd]; omega,by rw[yas,yaw (yac _)]⟩⟩⟩,(by first | exact zri m _ | exact zri _),.inr (.inl ⟨bl,0,0,N,by rw[hP]; rfl,by omega⟩)⟩,fun b o' n s d he=>by cases he; rfl⟩
theorem zw2{ranges:List Rg}{n0 n1:Nat}{all:List (List Int)}{I:Nat->(Nat->Prop)->M->Prop}{E:(Nat->Prop)->M->Prop}(hz:∀b,f.nxt<=b->f.g b=none)(hv:∀b,f.nxt<=b->f.vw b=none)(hR:Sl f cR ranges)(hN:ranges.length=N)(hN1:N<=100)(hok:∀r∈ranges,okR r)(hfb:f.g bl=none/\f.vw bl=none)
  (hn0:n0<=bl) (hn1:n1<=bl) (hcl:zra prog tbl n0 l (VsW all n1) I E) :
  ∀(rs:List Rg) (p:Nat),ranges.drop p=rs->p<=N->∀(i:Nat) (S:Nat->Prop) (m:M) (P:List Int) (Q:V->M->Prop),CkF f l br k bd cv bl N cR S m P->P.length=N ->
   (∀j L,(chW rs (P.take p))[j]? = some L->all[i+j]? = some L)->I i S m ->
   (∀S' m' P',Own S m S'->Chg (fun b'=>S b'\/b'=bl) m m'->CkF f l br k bd cv bl N cR S' m' P'->P'.length=N->P'.take p=P.take p->I (i+(chW rs (P.take p)).length) S' m'->Q (.c (.bool true)) m') ->
   (∀S' m',Own S m S'->Chg (fun b'=>S b'\/b'=bl) m m'->E S' m'->Q (.c (.bool false)) m') ->
   Wc prog tbl 141 [.c (.int .i64 (p:Int)),.c (.ptr br 0),.c (.ptr k 0),.c (.ptr bd 0),.c (.ptr cv 0)] m Q:=by
 intro rs
 have ctr:∀{S S1:Nat->Prop} {m m1 m2:M},Chg (fun b=>S b\/b=bl) m m1->Chg (fun b=>S1 b\/b=bl) m1 m2->Own S m S1->Chg (fun b=>S b\/b=bl) m m2:=fun {S S1 m m1 m2} h1 h2 ho=>
  ⟨yae h1.nxt h2.nxt,fun b hb hS=>by
   rw[h2.g b (yaf hb h1.nxt) fun h=>h.elim (fun h3=>(ho b h3).elim (fun h4=>hS (.inl h4)) fun h4=>by omega) fun h3=>hS (.inr h3)]
   exact h1.g b hb hS,h2.vw.trans h1.vw⟩
 have otr:∀{S S1 S2:Nat->Prop} {m m1:M},Own S m S1->Own S1 m1 S2->m.nxt<=m1.nxt->Own S m S2:=fun h1 h2 hn b' hb=>(h2 b' hb).elim (h1 b') fun h=>.inr (by omega);have cor:∀{S:Nat->Prop} {m m':M},Chg S m m'->Chg (fun b=>S b\/b=bl) m m':=fun h=>⟨h.nxt,fun b hb hS=>h.g b hb fun h2=>hS (.inl h2),h.vw⟩
 induction rs with
 | nil=>
  intro p hp hpN i S m P Q hst hP hxs hI hT hFl
  have hpe:p=N:=by have:=congrArg List.length hp; rw[yaY,List.length_nil] at this; omega
  subst hpe;refine zwV (p:Int) br k bd cv ⟨_,hst.rr.rc rfl,hR.isSl,?_⟩;rw[hR.slLen,zpP];refine⟨fun _=>?_,fun h1=>absurd (by omega) h1⟩;have hx0:=hxs 0 (P.take p) rfl;rw[ybF] at hx0;have hPp:P.take p=P:=yaw (by omega);rw[hPp] at hx0;have s0:=slP hst.ll hP;refine⟨_,hst.kk.rc rfl,_,hst.dd.rc rfl,?_⟩
  show Wy prog tbl l [.c (hdP bl p)] m _
  refine hcl.yield i _ S m ⟨P,fun b'=>b'=bl,hx0,⟨_,rfl,s0⟩,fun b' hb'=>by subst hb'; exact⟨hn1,fun hs=>(hst.ss _ hs).2.2.2.2.1 rfl,hst.ll.lt⟩⟩ hI _ (fun S' m' ho hch hI'=>⟨_,rfl,?_⟩) fun S' m' ho hch hE=>⟨_,rfl,hFl S' m' ho (cor hch) hE⟩;exact hT S' m' P ho (cor hch) (hst.chg hz hv hch ho) hP rfl hI'
 | cons r rs ih=>
  intro p hp hpN i S m P Q hst hP hxs hI hT hFl
  have hpl:p < ranges.length:=by
   have:=congrArg List.length hp;rw[yaY,yaU] at this; omega
  have hpN':p < N:=by omega
  have hd:=yaJ hpl;rw[hp] at hd
  have hr:ranges[p]? = some r:=by rw[yag hpl,(List.cons.inj hd).1]
  have hdrop:ranges.drop (p+1)=rs:=(List.cons.inj hd).2.symm;have hrk:=hok r (yaI hr);have hrk':=hrk;unfold okR at hrk';obtain⟨_,hrd⟩:=zsm hR hr;have hSl:=(hcl.li i).lt _ _ hI;refine zwV (p:Int) br k bd cv ⟨_,hst.rr.rc rfl,hR.isSl,?_⟩;rw[hR.slLen,zpP];refine⟨fun h1=>by omega,fun _=>⟨_,hst.rr.rc rfl,p,rfl,by rw[hR.slLen]; exact hpl,_,_,(hrd m hst.sb).1,?_⟩⟩;refine zwd (r:=r) ⟨hst.sb,hz,hv⟩ (zwX hrk) fun m20 e20=>⟨_,rfl,fun R22 hstep=>?_⟩;have hst20:=hst.ext hz hv e20;have hI20:I i S m20:=(hcl.li i).st _ _ _ hI e20.nxt e20.vw (fun b' hb=>e20.g b' (hSl b' hb)) fun b' hb=>e20.g b' (by have:=hst.ll.lt; omega)
  let g:Nat->List (List Int):=fun n=>chW rs (P.take p++[r.Lo+(n:Int)])
  have hex:chW (r::rs) (P.take p)=zrx g (szR r).toNat 0:=rfl;rw[hex] at hxs hT
  have hgo:∀(d n:Nat) (b7:Bool) (m9:M) (S1:Nat->Prop) (P1:List Int) (i1:Nat),n+d=(szR r).toNat->Own S m20 S1->Chg (fun b'=>S b'\/b'=bl) m20 m9->CkF f l br k bd cv bl N cR S1 m9 P1->P1.length=N->P1.take p=P.take p->I i1 S1 m9 ->
    i1+(zrx g d n).length=i+(zrx g (szR r).toNat 0).length->(∀j L,(zrx g d n)[j]? = some L->all[i1+j]? = some L)->R22 [.c (.bool b7),.c (.int .i64 (n:Int))] m9:=by
   intro d
   induction d with
   | zero=>
    intro n b7 m9 S1 P1 i1 hen ho hch hst1 hP1 htk hI1 hlen hxs1;refine hstep _ _ _ ?_;rw[zpP];refine⟨fun h1=>by omega,fun _=>hT S1 m9 P1 (fun b' hb'=>(ho b' hb').imp id fun h=>yae e20.nxt h) (ctr (S1:=S) (cor ⟨e20.nxt,fun b' hb' _=>e20.g b' hb',e20.vw⟩) hch fun b' hb'=>.inl hb') hst1 hP1 htk ?_⟩;have h9:i1+0=_:=hlen;rw[<- h9,ybF]; exact hI1
   | succ d ihe=>
    intro n b7 m9 S1 P1 i1 hen ho hch hst1 hP1 htk hI1 hlen hxs1;have hns:szR r=r.Hi - r.Lo+1:=rfl;refine hstep _ _ _ ?_;rw[zpP];refine⟨fun _=>?_,fun h1=>absurd (by omega) h1⟩
    have hp9:p < P1.length:=by omega
    refine⟨_,hst1.dd.rc rfl,_,hst1.rr.rc rfl,p,rfl,by rw[hR.slLen]; exact hpl,hR.isPt hr _,_,(hrd m9 hst1.sb).2.1 0 _ rfl,zwW (by omega) (by omega),p,rfl,(by show p < N; omega),_,zw1 hst1.ll _ (by rw[zqd]; exact hp9) (by rw[zqd]; exact hP1),?_⟩;rw[zwZ];have hst2:=hst1.set hfb (P1.set p (r.Lo+(n:Int)));have hch2:Chg (fun b'=>S1 b'\/b'=bl) m9 (m9.set bl (.cells N (zqc (P1.set p (r.Lo+(n:Int)))) false)):=⟨yac _,fun b' _ hS=>by rw[M.g_set,yab fun h1=>hS (.inr h1)],rfl⟩;have hI2:I i1 S1 (m9.set bl (.cells N (zqc (P1.set p (r.Lo+(n:Int)))) false)):=(hcl.li i1).st _ _ _ hI1 (yac _) rfl (fun b' hb=>by rw[M.g_set,yab (hst1.ss b' hb).2.2.2.2.1]) (fun b' hb=>by rw[M.g_set,yab (by omega)]);have hchm:=ctr hch hch2 ho;generalize m9.set bl (.cells N (zqc (P1.set p (r.Lo+(n:Int)))) false)=m13 at hst2 hch2 hI2 hchm
    have hP2:(P1.set p (r.Lo+(n:Int))).length=N:=by rw[ybi]; exact hP1
    have htk2:(P1.set p (r.Lo+(n:Int))).take (p+1)=P.take p++[r.Lo+(n:Int)]:=by rw[zwY hp9,htk]
    have htk3:(P1.set p (r.Lo+(n:Int))).take p=P.take p:=by rw[ybv (yac _),htk]
    generalize P1.set p (r.Lo+(n:Int))=P2 at hst2 htk2 htk3 hP2;have hge:zrx g (d+1) n=g n++zrx g d (n+1):=rfl
    have hg:g n=chW rs (P2.take (p+1)):=by rw[htk2]
    rw[hge,hg] at hlen hxs1;rw[yan] at hlen;refine⟨_,hst2.cc.rc rfl,zwW (by omega) (by omega),?_⟩
    show Wc prog tbl 141 [.c (.int .i64 ((p+1:Nat):Int)),.c (.ptr br 0),.c (.ptr k 0),.c (.ptr bd 0),.c (.ptr cv 0)] m13 _
    refine ih (p+1) hdrop (by omega) i1 S1 m13 P2 _ hst2 hP2 (fun j H hj=>hxs1 j H (by rw[ybk (yai.1 hj).1]; exact hj)) hI2 (fun S' m' P' ho' hch' hst' hP' htk' hI'=>⟨_,rfl,?_⟩) fun S' m' ho' hch' hE=>⟨_,rfl,?_⟩
    ·have htk4:P'.take p=P.take p:=by
      have h1:=congrArg (List.take p) htk';rw[yaz,yaz,yaQ (by omega)] at h1;rw[h1,htk3]
     refine zq5 ⟨zwW (by omega) (by omega),ihe (n+1) b7 m' S' P' _ (by omega) (otr ho ho' hchm.nxt) (ctr hchm hch' ho) hst' hP' htk4 hI' (by omega) fun j H hj=>?_⟩;rw[ybQ];exact hxs1 _ H (by rw[ybt (by omega),ycw]; exact hj)
    ·refine zq6 ?_;exact hFl S' m' (fun b' hb'=>(otr ho ho' hchm.nxt b' hb').imp id fun h=>yae e20.nxt h) (ctr (S1:=S) (cor ⟨e20.nxt,fun b' hb' _=>e20.g b' hb',e20.vw⟩) (ctr hchm hch' ho) fun b' hb'=>.inl hb') hE
  exact hgo (szR r).toNat 0 false m20 S P i (by omega) (fun b' hb'=>.inl hb') ⟨yac _,fun _ _ _=>rfl,rfl⟩ hst20 hP rfl hI20 rfl hxs
end
end Go.Proofs.YtkcmdghjgoaggaaGreat

namespace Go.Proofs.YtkcmdghjgoaggaaGreat
open _root_.Go.Proofs.Tryz
open Go.Abs
set_option maxRecDepth 100000
noncomputable section
theorem zw3{rs:List Rg}{cR:C}{f:M}{b:Nat}(hR0:Sl f cR rs)(hb:Bk f b 1 [cR])(hN1:rs.length<=100)(hok:∀r∈rs,okR r)
    (n0 l:Nat) (I:Nat->(Nat->Prop)->M->Prop) (E:(Nat->Prop)->M->Prop) (S:Nat->Prop) (m:M) (hc:zra prog tbl n0 l (VsW (chW rs []) m.nxt) I E) (_hn:n0<=m.nxt) (hI:I 0 S m) (hS:Pre f m) (hSf:∀b,S b->f.g b=none/\f.vw b=none) (Q:V->M->Prop)
    (hQ:∀v S' m',Own S m S'->Chg S m m'->I (chW rs []).length S' m'\/E S' m'->Q v m'):Wc prog tbl 140 [.c (.fn (.yield l) [] []),.c (.ptr b 0)] m Q:=by
 have hSl:=(hc.li 0).lt _ _ hI;refine zwU _ b fun a w=>?_;obtain⟨O,p⟩:=Bk.new w
 have q0:a.nxt=m.nxt+1:=by rw[w]; rfl
 have y:Sub f a:=⟨yae hS.sub.nxt p.nxt,p.vw.trans hS.sub.vw,fun b' hb' hd=>(p.g b' (yaf hb' hS.sub.nxt)).trans (hS.sub.g b' hb' hd)⟩;refine⟨_,(hb.sub y).rc rfl,hR0.isSl,rs.length,rs.length,by rw[hR0.slLen],by rw[hR0.slLen],yac _,by omega,fun d s n e5=>?_⟩;rw[zw0,ybp] at s;obtain⟨P,T⟩:=Bk.new s;obtain⟨z,A⟩:=Bk.new e5
 have q4:d.nxt=m.nxt+2:=by rw[s]; show a.nxt+1=_; omega
 have Y:n.nxt=m.nxt+3:=by rw[e5]; show d.nxt+1=_; omega
 refine⟨n.set d.nxt (.cells 1 [hdP a.nxt rs.length] false),z.st _,fun o t=>?_⟩;have B:=z.set [hdP a.nxt rs.length];have D:=(P.ext A).setNe (c:=d.nxt) (by omega) (.cells 1 [hdP a.nxt rs.length] false);have F:Ext a (n.set d.nxt (.cells 1 [hdP a.nxt rs.length] false)):=(T.trans A).setR (by omega) _;have Z:(n.set d.nxt (.cells 1 [hdP a.nxt rs.length] false)).nxt=m.nxt+3:=Y;generalize n.set d.nxt (.cells 1 [hdP a.nxt rs.length] false)=e at B D F Z t ⊢;obtain⟨G,x7⟩:=Bk.new t
 have q7:o.nxt=m.nxt+4:=by rw[t]; show e.nxt+1=_; omega
 refine⟨o.set e.nxt (.cells 1 [flP b m.nxt d.nxt e.nxt] false),G.st _,?_⟩;have u:=G.set [flP b m.nxt d.nxt e.nxt];have q:Ext e (o.set e.nxt (.cells 1 [flP b m.nxt d.nxt e.nxt] false)):=x7.setR (yac _) _;have q8:(o.set e.nxt (.cells 1 [flP b m.nxt d.nxt e.nxt] false)).nxt=m.nxt+4:=q7;generalize o.set e.nxt (.cells 1 [flP b m.nxt d.nxt e.nxt] false)=i at u q q8 ⊢;refine⟨_,u.rc rfl,?_⟩
 show Wc prog tbl 141 [.c (Il ((0:Nat):Int)),.c (.ptr b 0),.c (.ptr m.nxt 0),.c (.ptr d.nxt 0),.c (.ptr e.nxt 0)] i _
 have J:=F.trans q;have ym:=p.trans J;have subx:Sub f i:=⟨yae hS.sub.nxt ym.nxt,ym.vw.trans hS.sub.vw,fun b' hb' hd=>(ym.g b' (yaf hb' hS.sub.nxt)).trans (hS.sub.g b' hb' hd)⟩;have hff:=hS.sub.nxt;have hbf:=hb.lt
 have hbg:f.g b ≠ none:=by rw[hb.g]; exact yaF _
 have hst:CkF f l b m.nxt d.nxt e.nxt a.nxt rs.length cR S i (List.replicate rs.length 0):=
  ⟨subx,hb.sub subx,O.ext J,B.ext q,u,D.ext q,fun b' hb'=>by
   have h1:=hSl b' hb'
   exact⟨fun he=>hbg (he ▸ (hSf b' hb').1),by omega,by omega,by omega,by omega,hSf b' hb'⟩,by omega,by omega,by omega,by omega⟩
 have N:I 0 S i:=(hc.li 0).st _ _ _ hI ym.nxt ym.vw (fun b' hb'=>ym.g b' (hSl b' hb')) fun b' hb'=>ym.g b' (by omega)
 have fin:∀{m':M},Chg (fun b'=>S b'\/b'=a.nxt) i m'->Chg S m m':=fun {m'} h=>⟨yae ym.nxt h.nxt,fun b' hb' hs=>by
  rw[h.g b' (by have:=ym.nxt; omega) fun hY=>hY.elim hs fun h9=>by omega]
  exact ym.g b' hb',h.vw.trans ym.vw⟩
 have hfb:f.g a.nxt=none/\f.vw a.nxt=none:=⟨hS.fz _ (by omega),hS.fv _ (by omega)⟩;refine zw2 hS.fz hS.fv hR0 rfl hN1 hok hfb (n0:=n0) (n1:=m.nxt) (by omega) (by omega) hc rs 0 yas (yaq _) 0 S i (List.replicate rs.length 0) _ hst (by rw[List.length_replicate]) (fun j L hj=>?_) N (fun S' m' P' ho hch hst' hP' htk hI'=>⟨_,rfl,?_⟩) fun S' m' ho hch hE=>⟨_,rfl,?_⟩
 ·rw[yav]; exact hj
 ·rw[yav] at hI';exact hQ _ S' m' (fun b' hb'=>(ho b' hb').imp id fun h=>yae ym.nxt h) (fin hch) (.inl hI')
 ·exact hQ _ S' m' (fun b' hb'=>(ho b' hb').imp id fun h=>yae ym.nxt h) (fin hch) (.inr hE)
theorem zw4{l:List Rg}{ca100:C}{m f:M}{Q:V->M->Prop}{rz:List (List Int)}(hS:Pre f m)(ha100:Sl f ca100 l)(hp:zt2 l=some rz)(hq:∀m' f' c0,Grw m f m' f'->ItW prog tbl f' c0 rz->Q (.c c0) m'):Wc prog tbl 134 [.c ca100] m Q:=by
 have e:=hS.st;obtain⟨g,_⟩:=zsk;refine zvn ?_;unfold zt2 at hp;intro r h;obtain⟨s,i,t,j⟩:=e.blk h g 1;obtain⟨d,a,n,hb⟩:=j.freeze i;obtain⟨⟨o,p⟩,hp⟩:=zqq hp;obtain rfl:=oi hp
 have hI:ItW prog tbl d (C.fn (Fn.func 140) [] [(W.c (C0.ptr m.nxt 0))]) (chW l []):=
  zrh a.fz a.fv fun q ly I E S m' hc hn hI hP hSf Q hQ=>zw3 (ha100.sub n.fs) hb o p q ly I E S m' hc hn hI hP hSf Q hQ
 exact hq _ d _ a.grw hI
variable {n size b b2 l k h2 bl cv:Nat}
theorem slI{m:M}{P:List Int}(h:Bk m bl size (zqc P))(hP:P.length=size):SlX m (fun b'=>b'=bl) (hdr bl size) P:=by
 refine⟨⟨zqc P,⟨by rw[zqd]; exact ybp _,.inr ⟨bl,0,0,some size,by rw[hP]; rfl,h.lt,fun _=>.inl ⟨size,zqc P,false,h.g,by rw[zqd]; exact hP,by rw[zqd]; omega,by rw[yas,yaw (yac _)]⟩⟩⟩,(by first | exact zri m _ | exact zri _),.inr (.inl ⟨bl,0,0,size,by rw[hP]; rfl,by omega⟩)⟩,fun b o' n s d he=>by cases he; rfl⟩
theorem zw5{n0 n1:Nat}(hn:n<=1000)(hsz:size<=1000)(hn0:n0<=bl)(hn1:n1<=bl){all:List (List Int)}{I:Nat->(Nat->Prop)->M->Prop}{E:(Nat->Prop)->M->Prop}(hcl:zra prog tbl n0 l (VsW all n1) I E) :
  ∀(d p:Nat),d+p=size->∀(i fr:Nat) (S:Nat->Prop) (m:M) (P:List Int) (Q:V->M->Prop),SlF n size b b2 l k h2 bl cv S m P->P.length=size ->
   (∀j L,(zry n d (P.take p) fr)[j]? = some L->all[i+j]? = some L)->I i S m ->
   (∀S' m' P',Own S m S'->Chg (fun b'=>S b'\/b'=bl) m m'->SlF n size b b2 l k h2 bl cv S' m' P'->P'.length=size->P'.take p=P.take p->I (i+(zry n d (P.take p) fr).length) S' m'->Q (.c (.bool true)) m') ->
   (∀S' m',Own S m S'->Chg (fun b'=>S b'\/b'=bl) m m'->E S' m'->Q (.c (.bool false)) m') ->
   Wc prog tbl 133 [.c (.int .i64 (p:Int)),.c (.int .i64 (fr:Int)),.c (.ptr b 0),.c (.ptr k 0),.c (.ptr h2 0),.c (.ptr b2 0),.c (.ptr cv 0)] m Q:=by
 intro d
 induction d with
 | zero=>
  intro p hp i fr S m P Q hst hP hxs hI hT hF;refine zwy (p:Int) (fr:Int) b k h2 b2 cv ⟨_,hst.bb.rc rfl,?_⟩;rw[zpP];refine⟨fun _=>⟨_,hst.kk.rc rfl,_,hst.hh.rc rfl,?_⟩,fun h1=>absurd (by omega) h1⟩;have hx0:=hxs 0 (P.take p) rfl;rw[yaw (by omega),ybF] at hx0
  show Wy prog tbl l [.c (hdr bl size)] m _
  have s0:=slI hst.ll hP;refine hcl.yield i _ S m ⟨P,fun b'=>b'=bl,hx0,⟨_,rfl,s0⟩,fun b' hb'=>by subst hb'; exact⟨hn1,fun hs=>(hst.ss _ hs).2.2.2.2.1 rfl,hst.ll.lt⟩⟩ hI _ (fun S' m' ho hch hI'=>⟨_,rfl,?_⟩) fun S' m' ho hch hE=>⟨_,rfl,hF S' m' ho (Chg.or hch) hE⟩;exact hT S' m' P ho (Chg.or hch) (hst.to hch ho) hP rfl hI'
 | succ d ih=>
  intro p hp i fr S m P Q hst hP hxs hI hT hF;refine zwy (p:Int) (fr:Int) b k h2 b2 cv ⟨_,hst.bb.rc rfl,?_⟩;rw[zpP];refine⟨fun h1=>by omega,fun _ R6 hstep=>?_⟩
  let g:Nat->List (List Int):=fun x=>zry n d (P.take p++[(x:Int)]) (x+1)
  have hex:zry n (d+1) (P.take p) fr=zrx g (n - fr) fr:=rfl;rw[hex] at hxs hT
  have hgo:∀(e x:Nat) (b7:Bool) (m9:M) (S1:Nat->Prop) (P1:List Int) (i1:Nat),n - x=e->Own S m S1->Chg (fun b'=>S b'\/b'=bl) m m9->SlF n size b b2 l k h2 bl cv S1 m9 P1->P1.length=size->P1.take p=P.take p->I i1 S1 m9 ->
    i1+(zrx g e x).length=i+(zrx g (n - fr) fr).length->(∀j L,(zrx g e x)[j]? = some L->all[i1+j]? = some L)->R6 [.c (.bool b7),.c (.int .i64 (x:Int))] m9:=by
   intro e
   induction e with
   | zero=>
    intro x b7 m9 S1 P1 i1 hen ho hch hst1 hP1 htk hI1 hlen hxs1;refine hstep _ _ _ ⟨_,hst1.nn.rc rfl,?_⟩;rw[zpP];refine⟨fun h1=>by omega,fun _=>hT S1 m9 P1 ho hch hst1 hP1 htk ?_⟩;have:i1+0=_:=hlen;rw[<- this,ybF]; exact hI1
   | succ e ihe=>
    intro x b7 m9 S1 P1 i1 hen ho hch hst1 hP1 htk hI1 hlen hxs1;refine hstep _ _ _ ⟨_,hst1.nn.rc rfl,?_⟩;rw[zpP];refine⟨fun _=>?_,fun h1=>absurd (by omega) h1⟩
    have hp9:p < P1.length:=by omega
    refine⟨_,hst1.hh.rc rfl,p,rfl,(by show p < size; omega),_,hst1.ll.st1n _ (by rw[zqd]; exact hp9) (by rw[zqd]; exact hP1),?_⟩;rw[zwA];have hst2:=hst1.set (P1.set p (x:Int));have hch2:Chg (fun b'=>S1 b'\/b'=bl) m9 (m9.set bl (.cells size (zqc (P1.set p (x:Int))) false)):=⟨yac _,fun b' _ hS=>by rw[M.g_set,yab fun h1=>hS (.inr h1)],rfl⟩;have hI2:I i1 S1 (m9.set bl (.cells size (zqc (P1.set p (x:Int))) false)):=(hcl.li i1).st _ _ _ hI1 (yac _) rfl (fun b' hb=>by rw[M.g_set,yab (hst1.ss b' hb).2.2.2.2.1]) (fun b' hb=>by rw[M.g_set,yab (by omega)]);have hchm:=Chg.trans (T:=fun b'=>b'=bl) hch hch2 ho;generalize m9.set bl (.cells size (zqc (P1.set p (x:Int))) false)=m13 at hst2 hch2 hI2 hchm
    have hP2:(P1.set p (x:Int)).length=size:=by rw[ybi]; exact hP1
    have htk2:(P1.set p (x:Int)).take (p+1)=P.take p++[(x:Int)]:=by rw[zwz hp9,htk]
    have htk3:(P1.set p (x:Int)).take p=P.take p:=by rw[ybv (yac _),htk]
    generalize P1.set p (x:Int)=P2 at hst2 htk2 htk3 hP2;have hge:zrx g (e+1) x=g x++zrx g e (x+1):=rfl
    have hg:g x=zry n d (P2.take (p+1)) (x+1):=by rw[htk2]
    rw[hge,hg] at hlen hxs1;rw[yan] at hlen;refine⟨_,hst2.cc.rc rfl,zwB (by omega) (by omega),zwB (by omega) (by omega),?_⟩
    show Wc prog tbl 133 [.c (.int .i64 ((p+1:Nat):Int)),.c (.int .i64 ((x+1:Nat):Int)),.c (.ptr b 0),.c (.ptr k 0),.c (.ptr h2 0),.c (.ptr b2 0),.c (.ptr cv 0)] m13 _
    refine ih (p+1) (by omega) i1 (x+1) S1 m13 P2 _ hst2 hP2 (fun j H hj=>hxs1 j H (by rw[ybk (yai.1 hj).1]; exact hj)) hI2 (fun S' m' P' ho' hch' hst' hP' htk' hI'=>⟨_,rfl,?_⟩) fun S' m' ho' hch' hE=>⟨_,rfl,?_⟩
    ·have htk4:P'.take p=P.take p:=by
      have h1:=congrArg (List.take p) htk';rw[yaz,yaz,yaQ (by omega)] at h1;rw[h1,htk3]
     refine⟨zwB (by omega) (by omega),ihe (x+1) b7 m' S' P' _ (by omega) (Own.trans ho ho' hchm.nxt) (Chg.trans (T:=fun b'=>b'=bl) hchm hch' ho) hst' hP' htk4 hI' (by omega) fun j H hj=>?_⟩;rw[ybQ];exact hxs1 _ H (by rw[ybt (by omega),ycw]; exact hj)
    ·exact hF S' m' (Own.trans ho ho' hchm.nxt) (Chg.trans (T:=fun b'=>b'=bl) hchm hch' ho) hE
  exact hgo (n - fr) fr false m S P i rfl (Own.refl S m) ⟨yac _,fun _ _ _=>rfl,rfl⟩ hst hP rfl hI rfl hxs
theorem zw6(hn:n<=1000)(hsz:size<=1000){f:M}(hb0:Bk f b 1 [Il (size:Int)])(hb20:Bk f b2 1 [Il (n:Int)])
    (nz l:Nat) (I:Nat->(Nat->Prop)->M->Prop) (E:(Nat->Prop)->M->Prop) (S:Nat->Prop) (m:M) (hcl:zra prog tbl nz l (VsW (zry n size [] 0) m.nxt) I E) (hn0':nz<=m.nxt) (hI:I 0 S m) (hS:Pre f m) (hSf:∀b,S b->f.g b=none/\f.vw b=none) (Q:V->M->Prop)
    (hQ:∀v S' m',Own S m S'->Chg S m m'->I (zry n size [] 0).length S' m'\/E S' m'->Q v m'):Wc prog tbl 132 [.c (.fn (.yield l) [] []),.c (.ptr b 0),.c (.ptr b2 0)] m Q:=by
 have hSlt:=(hcl.li 0).lt _ _ hI;have hR:Bk m b 1 [Il (size:Int)]/\Bk m b2 1 [Il (n:Int)]:=⟨hb0.sub hS.sub,hb20.sub hS.sub⟩
 have y:f.g b ≠ none:=by rw[hb0.g]; exact yaF _
 have z:f.g b2 ≠ none:=by rw[hb20.g]; exact yaF _
 have hSD:∀b',S b'->¬ (b'=b\/b'=b2):=fun b' h r=>r.elim (fun he=>y (he ▸ (hSf b' h).1)) fun he=>z (he ▸ (hSf b' h).1);have hb:=hR.1.lt;have ha:=hR.2.lt
 show Wc prog tbl 132 [.c (.fn (.yield l) [] []),.c (.ptr b 0),.c (.ptr b2 0)] m Q
 refine zwx _ b b2 fun i A=>?_;obtain⟨b0,B⟩:=Bk.new A;refine⟨_,(hR.1.ext B).rc rfl,size,size,rfl,rfl,yac _,by omega,fun a t o e5=>?_⟩;rw[zwD,ybp] at t;obtain⟨b4,D⟩:=Bk.new t;obtain⟨F,u⟩:=Bk.new e5
 have n0:i.nxt=m.nxt+1:=by rw[A]; rfl
 have n4:a.nxt=m.nxt+2:=by rw[t]; show i.nxt+1=_; omega
 have n5:o.nxt=m.nxt+3:=by rw[e5]; show a.nxt+1=_; omega
 refine⟨_,F.st _,fun p G=>?_⟩;have J:=F.set [C.sl i.nxt 0 size 0 (some size)];have N:Ext m (o.set a.nxt (.cells 1 [C.sl i.nxt 0 size 0 (some size)] false)):=((B.trans D).trans u).setR (by omega) _;have O:Bk (o.set a.nxt (.cells 1 [C.sl i.nxt 0 size 0 (some size)] false)) m.nxt 1 [.fn (.yield l) [] []]:=((b0.ext D).ext u).setNe (by omega) _;have P:Bk (o.set a.nxt (.cells 1 [C.sl i.nxt 0 size 0 (some size)] false)) i.nxt size (zqc (List.replicate size 0)):=(b4.ext u).setNe (by omega) _;have n6:(o.set a.nxt (.cells 1 [C.sl i.nxt 0 size 0 (some size)] false)).nxt=m.nxt+3:=n5;have e7':p=(o.set a.nxt (.cells 1 [C.sl i.nxt 0 size 0 (some size)] false)).new (.cells 1 [.nilFn] false):=G
 clear G
 generalize o.set a.nxt (.cells 1 [C.sl i.nxt 0 size 0 (some size)] false)=d at J N O P n6 e7' ⊢;obtain⟨w,s⟩:=Bk.new e7'
 have n7:p.nxt=m.nxt+4:=by rw[e7']; show d.nxt+1=_; omega
 refine⟨_,w.st _,_,(w.set _).rc rfl,?_⟩;have T:=w.set [flC b m.nxt a.nxt b2 d.nxt];have e:Ext m (p.set d.nxt (.cells 1 [flC b m.nxt a.nxt b2 d.nxt] false)):=(N.trans s).setR (by omega) _;have Y:=(O.ext s).setNe (c:=d.nxt) (by omega) (.cells 1 [flC b m.nxt a.nxt b2 d.nxt] false);have Z:=(P.ext s).setNe (c:=d.nxt) (by omega) (.cells 1 [flC b m.nxt a.nxt b2 d.nxt] false);have j6:=(J.ext s).setNe (c:=d.nxt) (by omega) (.cells 1 [flC b m.nxt a.nxt b2 d.nxt] false)
 show zmw prog tbl _ (flC b m.nxt a.nxt b2 d.nxt) (p.set d.nxt (.cells 1 [flC b m.nxt a.nxt b2 d.nxt] false)) _
 generalize p.set d.nxt (.cells 1 [flC b m.nxt a.nxt b2 d.nxt] false)=q at T e Y Z j6;have ba:I 0 S q:=(hcl.li 0).st _ _ _ hI e.nxt e.vw (fun b' hb=>e.g b' (hSlt b' hb)) (fun b' hb=>e.g b' (by omega))
 have hSl:SlF n size b b2 l m.nxt a.nxt i.nxt d.nxt S q (List.replicate size 0):=⟨hR.1.ext e,hR.2.ext e,Y,j6,Z,T,fun b' hb'=>by
  have h1:=hSlt b' hb';have r:=hSD b' hb'
  exact⟨fun h=>r (.inl h),fun h=>r (.inr h),by omega,by omega,by omega,by omega⟩,by omega⟩
 have hchg:∀{m':M},Chg (fun b'=>S b'\/b'=i.nxt) q m'->Chg S m m':=fun {m'} h=>⟨yae e.nxt h.nxt,fun b' hb hSb=>by
  rw[h.g b' (yaf hb e.nxt) fun h3=>h3.elim hSb fun h4=>by omega]
  exact e.g b' hb,h.vw.trans e.vw⟩
 show Wc prog tbl 133 [.c (Il ((0:Nat):Int)),.c (Il ((0:Nat):Int)),.c (.ptr b 0),.c (.ptr m.nxt 0),.c (.ptr a.nxt 0),.c (.ptr b2 0),.c (.ptr d.nxt 0)] q _
 refine zw5 hn hsz (n0:=nz) (n1:=m.nxt) (by omega) (by omega) hcl size 0 (by omega) 0 0 S q _ _ hSl (by simp) (fun j L hj=>by rw[Nat.zero_add]; exact hj) ba (fun S' m' P' ho hch hst' _ _ hI'=>⟨_,rfl,?_⟩) fun S' m' ho hch hE=>⟨_,rfl,?_⟩
 ·rw[yav] at hI';exact hQ _ S' m' (Own.trans (Own.refl S m) ho e.nxt) (hchg hch) (.inl hI')
 ·exact hQ _ S' m' (Own.trans (Own.refl S m) ho e.nxt) (hchg hch) (.inr hE)
theorem zw7{n size:Int}{m f:M}{Q:V->M->Prop}{rz:List (List Int)}(hS:Pre f m)(hp:zrB n size=some rz)(hq:∀m' f' c0,Grw m f m' f'->ItW prog tbl f' c0 rz->Q (.c c0) m'):Wc prog tbl 115 [.c (Il n),.c (Il size)] m Q:=by
 have i:=hS.st;unfold zrB at hp;obtain⟨⟨y,z,A,B⟩,hp⟩:=zqq hp;obtain rfl:=oi hp
 have en:n=((n.toNat:Nat):Int):=by omega
 have es:size=((size.toNat:Nat):Int):=by omega
 refine zvk fun j l D o=>?_;obtain⟨p,q,F,d⟩:=i.blk l (fun _=>0) 1;obtain⟨G,r,s,e⟩:=q.blk o p 2;have d:=d.k s;obtain⟨J,S3,t,hb⟩:=d.freeze r;have e:=e.k t;obtain⟨h,g,u,a⟩:=e.freeze S3;have hb:=hb.sub u.fs;rw[en] at hb;rw[es] at a
 have hI:ItW prog tbl h (C.fn (Fn.func 132) [] [(W.c (C0.ptr j.nxt 0)),(W.c (C0.ptr m.nxt 0))]) (zry n.toNat size.toNat [] 0):=
  zrh g.fz g.fv fun w ly I E S m' hc hn hI hP hSf Q hQ=>zw6 (by omega) (by omega) a hb w ly I E S m' hc hn hI hP hSf Q hQ
 exact hq _ h _ g.grw hI
end
end Go.Proofs.YtkcmdghjgoaggaaGreat

