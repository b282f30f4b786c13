/- An evaluator of code, its soundness, and what functions of the program do. Condition: none; a lemma text. -/
import Derived.Test.YtlkgdadfbfafcaaGreatPbG

namespace Go.Proofs.YtlkgdadfbfafcaaGreat
open _root_.Go.Proofs.Tryz
open Go.Abs
set_option maxRecDepth 100000
noncomputable section
def zvf(f:M)(x:C)(g:(List Pl)->Evt->Option (Bool × List Pl)):Prop:=∀(f' m:M) (bp:Nat) (s0:List Pl) (a0:Evt) (r:Bool × List Pl) (Q:V->M->Prop),Sub f f'->Pre f' m->Lc f' m bp 50 (zs3 s0)->g s0 a0=some r->(∀m',zsf (isB bp) m m'->Bk m' bp 50 (zs3 r.2)->Q (.c (.bool r.1)) m')->znQ prog tbl [.c (.ptr bp 0),.agg 10 [(.int .i64 a0.e.Kind),(.int .i64 a0.e.Parcel),(.int .i64 a0.e.Other),(.int .i64 a0.e.From),(.int .i64 a0.e.To),(.int .i64 a0.e.Part),(.int .i64 a0.e.Day.Lo),(.int .i64 a0.e.Day.Hi),(.int .i64 a0.on),(.int .i64 a0.makes)]] x m Q
theorem zvf.sub{f m:M}{x:C}{g:(List Pl)->Evt->Option (Bool × List Pl)}(h:zvf f x g)(s:Sub f m):zvf m x g:=fun f' m' bp s0 a0 r Q hs=>h f' m' bp s0 a0 r Q (s.trans hs)
def zvg(f:M)(x:C)(g:Pc->Option (Bool)):Prop:=∀(f' m:M) (a0:Pc) (r:Bool) (Q:V->M->Prop),Sub f f'->Pre f' m->g a0=some r->(∀m',Ext m m'->Q (.c (.bool r)) m')->znQ prog tbl [.agg 4 [(.int .i64 a0.Owner),(.int .i64 a0.Value),(.int .i64 a0.Sown.Lo),(.int .i64 a0.Sown.Hi)]] x m Q
theorem zvg.sub{f m:M}{x:C}{g:Pc->Option (Bool)}(h:zvg f x g)(s:Sub f m):zvg m x g:=fun f' m' a0 r Q hs=>h f' m' a0 r Q (s.trans hs)
def zvh(f:M)(x:C)(g:En->Option (Bool)):Prop:=∀(f' m:M) (a0:En) (r:Bool) (Q:V->M->Prop),Sub f f'->Pre f' m->g a0=some r->(∀m',Ext m m'->Q (.c (.bool r)) m')->znQ prog tbl [.agg 8 [(.int .i64 a0.Kind),(.int .i64 a0.Parcel),(.int .i64 a0.Other),(.int .i64 a0.From),(.int .i64 a0.To),(.int .i64 a0.Part),(.int .i64 a0.Day.Lo),(.int .i64 a0.Day.Hi)]] x m Q
theorem zvh.sub{f m:M}{x:C}{g:En->Option (Bool)}(h:zvh f x g)(s:Sub f m):zvh m x g:=fun f' m' a0 r Q hs=>h f' m' a0 r Q (s.trans hs)
def zvi(f:M)(x:C)(g:Evt->Evt->Option (Int)):Prop:=∀(f' m:M) (a0:Evt) (a1:Evt) (r:Int) (Q:V->M->Prop),Sub f f'->Pre f' m->g a0 a1=some r->(∀m',Ext m m'->Q (.c (.int .i64 r)) m')->znQ prog tbl [.agg 10 [(.int .i64 a0.e.Kind),(.int .i64 a0.e.Parcel),(.int .i64 a0.e.Other),(.int .i64 a0.e.From),(.int .i64 a0.e.To),(.int .i64 a0.e.Part),(.int .i64 a0.e.Day.Lo),(.int .i64 a0.e.Day.Hi),(.int .i64 a0.on),(.int .i64 a0.makes)],.agg 10 [(.int .i64 a1.e.Kind),(.int .i64 a1.e.Parcel),(.int .i64 a1.e.Other),(.int .i64 a1.e.From),(.int .i64 a1.e.To),(.int .i64 a1.e.Part),(.int .i64 a1.e.Day.Lo),(.int .i64 a1.e.Day.Hi),(.int .i64 a1.on),(.int .i64 a1.makes)]] x m Q
theorem zvi.sub{f m:M}{x:C}{g:Evt->Evt->Option (Int)}(h:zvi f x g)(s:Sub f m):zvi m x g:=fun f' m' a0 a1 r Q hs=>h f' m' a0 a1 r Q (s.trans hs)
theorem zvj{f m:M}{x:C}{n:Nat}{a:Evt}(h:∃cs,(ldA m (zns x (n * Rp.k Evt)) (Rp.k Evt)=some cs/\(∀j c,cs[j]? = some c->ldC m (znr (zns x (n * Rp.k Evt)) j)=some c)/\∀j i,0 < i->j+i<=Rp.k Evt->ldA m (znr (zns x (n * Rp.k Evt)) j) i=some ((cs.drop j).take i))/\Rp.rep f cs a):ldA m (zns x (n * 10)) 10=some [.int .i64 a.e.Kind,.int .i64 a.e.Parcel,.int .i64 a.e.Other,.int .i64 a.e.From,.int .i64 a.e.To,.int .i64 a.e.Part,.int .i64 a.e.Day.Lo,.int .i64 a.e.Day.Hi,.int .i64 a.on,.int .i64 a.makes]/\(∀j c,([.int .i64 a.e.Kind,.int .i64 a.e.Parcel,.int .i64 a.e.Other,.int .i64 a.e.From,.int .i64 a.e.To,.int .i64 a.e.Part,.int .i64 a.e.Day.Lo,.int .i64 a.e.Day.Hi,.int .i64 a.on,.int .i64 a.makes]:List C)[j]? = some c->ldC m (znr (zns x (n * 10)) j)=some c)/\∀j i,0 < i->j+i<=10->ldA m (znr (zns x (n * 10)) j) i=some ((([.int .i64 a.e.Kind,.int .i64 a.e.Parcel,.int .i64 a.e.Other,.int .i64 a.e.From,.int .i64 a.e.To,.int .i64 a.e.Part,.int .i64 a.e.Day.Lo,.int .i64 a.e.Day.Hi,.int .i64 a.on,.int .i64 a.makes]:List C).drop j).take i):=by
 obtain⟨cs,q1,q2⟩:=h;have q2:cs=_:=q2;subst q2;exact q1
theorem zvk{f m:M}{x:C}{n:Nat}{a:Fd}(h:∃cs,(ldA m (zns x (n * Rp.k Fd)) (Rp.k Fd)=some cs/\(∀j c,cs[j]? = some c->ldC m (znr (zns x (n * Rp.k Fd)) j)=some c)/\∀j i,0 < i->j+i<=Rp.k Fd->ldA m (znr (zns x (n * Rp.k Fd)) j) i=some ((cs.drop j).take i))/\Rp.rep f cs a):ldA m (zns x (n * 5)) 5=some [.bool a.There,.bool a.Gone,.int .i64 a.Owner,.int .i64 a.Value,.int .i64 a.Sown]/\(∀j c,([.bool a.There,.bool a.Gone,.int .i64 a.Owner,.int .i64 a.Value,.int .i64 a.Sown]:List C)[j]? = some c->ldC m (znr (zns x (n * 5)) j)=some c)/\∀j i,0 < i->j+i<=5->ldA m (znr (zns x (n * 5)) j) i=some ((([.bool a.There,.bool a.Gone,.int .i64 a.Owner,.int .i64 a.Value,.int .i64 a.Sown]:List C).drop j).take i):=by
 obtain⟨cs,q1,q2⟩:=h;have q2:cs=_:=q2;subst q2;exact q1
theorem zvl:TA prog 26 1:=⟨3,by kernel_rfl,by kernel_rfl,by kernel_rfl⟩
theorem zvm:TA prog 35 4:=⟨88,by kernel_rfl,by kernel_rfl,by kernel_rfl⟩
theorem zvn:TA prog 36 8:=⟨85,by kernel_rfl,by kernel_rfl,by kernel_rfl⟩
theorem zvo:TA prog 45 5:=⟨54,by kernel_rfl,by kernel_rfl,by kernel_rfl⟩
theorem zvp:TA prog 132 2:=⟨172,by kernel_rfl,by kernel_rfl,by kernel_rfl⟩
theorem zvq{m f:M}{Q:V->M->Prop}{rz:Bool}(_hS:Pre f m)(hp:zs7=some rz)(hq:∀m',Ext m m'->Q (.c (.bool rz)) m'):Wc prog tbl 18 [] m Q:=by
 obtain rfl:=oi hp;exact zq3 (show zlB tbl 18=some true from rfl) (hq _ (.refl m))
theorem zvr{n:Int}{low:Int}{high:Int}{m f:M}{Q:V->M->Prop}{rz:Bool}(hS:Pre f m)(hp:zs8 n low high=some rz)(hq:∀m',Ext m m'->Q (.c (.bool rz)) m'):Wc prog tbl 27 [.c (Il n),.c (Il low),.c (Il high)] m Q:=by
 have d:=hS.st;obtain⟨e,_⟩:=zsR;refine w27 ?_;unfold zs8 at hp;refine ifd hp (fun a hp=>?_) fun a hp=>?_
 ·obtain rfl:=oi hp;exact hq _ d.ext'
 obtain rfl:=oi hp;exact hq _ d.ext'
theorem zvs{b:Boo}{r:Rg}{ca102 ca103:C}{m f:M}{Q:V->M->Prop}{rz:Bool}(hS:Pre f m)(_ha102:Sl f ca102 b.Parcels)(_ha103:Sl f ca103 b.Entries)(hp:zs9 b r=some rz)(hq:∀m',Ext m m'->Q (.c (.bool rz)) m'):Wc prog tbl 99 [.agg 4 [Il b.Last,Il b.Owners,ca102,ca103],.agg 2 [Il r.Lo,Il r.Hi]] m Q:=by
 have q:=hS.st;obtain⟨s,_⟩:=zsR;refine w99 ?_;unfold zs9 at hp;intro w e;obtain⟨g,h,t,i⟩:=q.blk e s 1;intro y j;obtain⟨u,d,l,a⟩:=h.blk j g 2;have n:=i.k l;refine⟨trivial,_,a.bk.rc rfl,?_⟩;refine ifd hp (fun o hp=>?_) fun o hp=>?_; rotate_left
 ·obtain rfl:=oi hp;exact hq _ d.ext'
 refine⟨trivial,_,a.bk.rc rfl,trivial,_,a.bk.rc rfl,?_⟩;refine ifd hp (fun p hp=>?_) fun p hp=>?_; rotate_left
 ·obtain rfl:=oi hp;exact hq _ d.ext'
 refine⟨trivial,_,a.bk.rc rfl,trivial,_,n.bk.rc rfl,?_⟩;obtain rfl:=oi hp;exact hq _ d.ext'
theorem zvt{b:Boo}{entry:Int}{ca102 ca103:C}{m f:M}{Q:V->M->Prop}{rz:Int}(hS:Pre f m)(ha102:Sl f ca102 b.Parcels)(ha103:Sl f ca103 b.Entries)(hp:zta b entry=some rz)(hq:∀m',Ext m m'->Q (.c (Il rz)) m'):Wc prog tbl 74 [.agg 4 [Il b.Last,Il b.Owners,ca102,ca103],.c (Il entry)] m Q:=by
 have D:=hS.st;obtain⟨F,_⟩:=zsR;refine w74 ?_;unfold zta at hp;intro O q;obtain⟨r,s,G,a⟩:=D.blk q F 1;refine⟨trivial,_,a.bk.rc rfl,ha102.isSl,?_⟩;intro I B
 try rw[ha102.slLen]
 have hgo:∀(g:Nat) (n:Int) (o:Int) (j:M) (d:Nat->Nat),St (Fm.of m) f f j->Lb (Fm.of m) f d j 1 m.nxt 4 [Il b.Last,Il b.Owners,ca102,ca103]->prNumbers_L0 b entry g n o=some rz->I [.c (Il n),.c (Il o)] j:=by
  intro g
  induction g with
  | zero=>intro n o j d e a hp; cases hp
  | succ g l=>
   intro n o j d e a hp;refine B _ _ _ ?_;rw[prNumbers_L0] at hp;refine ifd hp (fun t hp=>?_) fun t hp=>?_; rotate_left
   ·obtain rfl:=oi hp;exact hq _ e.ext'
   refine⟨trivial,_,a.bk.rc rfl,?_⟩;obtain⟨J,h,hp⟩:=zrH hp;obtain⟨N,p,i,h⟩:=zrB h;obtain⟨_,u⟩:=zsX ha103 h;refine⟨N,p,(by first|exact i|(rw[ha103.slLen];exact i)),(ha103.isPt h _),_,((u _ e.sub).2.1 0 _ rfl),?_⟩;refine ifd hp (fun w hp=>?_) fun w hp=>?_; rotate_left
   ·refine gdi hp fun y hp=>?_;exact l _ _ _ d e a hp
   refine gdi hp fun z hp=>?_;refine gdi hp fun A hp=>?_;exact l _ _ _ d e a hp
 exact hgo _ _ _ _ r s a hp
theorem zvu{b:Boo}{ca102 ca103:C}{m f:M}{Q:V->M->Prop}{rz:Int}(hS:Pre f m)(ha102:Sl f ca102 b.Parcels)(ha103:Sl f ca103 b.Entries)(hp:ztb b=some rz)(hq:∀m',Ext m m'->Q (.c (Il rz)) m'):Wc prog tbl 28 [.agg 4 [Il b.Last,Il b.Owners,ca102,ca103]] m Q:=by
 have l:=hS.st;obtain⟨n,_⟩:=zsR;refine w28 ?_;unfold ztb at hp;intro r e;obtain⟨g,a,o,d⟩:=l.blk e n 1;refine⟨_,_,_,_,d.bk.ra,trivial,_,d.bk.rc rfl,ha103.isSl,?_⟩
 try rw[ha103.slLen]
 obtain⟨p,h,hp⟩:=zrH hp;refine zvt (b:=b) (entry:=(b.Entries.length:Int)) a.pre ha102 ha103 h fun s i=>?_;obtain⟨j,q⟩:=a.call i g;refine⟨_,rfl,?_⟩;obtain rfl:=oi hp;exact hq _ j.ext'
theorem zvv{b:Boo}{e:En}{ca102 ca103:C}{m f:M}{Q:V->M->Prop}{rz:Bool}(hS:Pre f m)(ha102:Sl f ca102 b.Parcels)(ha103:Sl f ca103 b.Entries)(hp:ztc b e=some rz)(hq:∀m',Ext m m'->Q (.c (.bool rz)) m'):Wc prog tbl 100 [.agg 4 [Il b.Last,Il b.Owners,ca102,ca103],.agg 8 [Il e.Kind,Il e.Parcel,Il e.Other,Il e.From,Il e.To,Il e.Part,Il e.Day.Lo,Il e.Day.Hi]] m Q:=by
 have S0:=hS.st;obtain⟨τ0,_⟩:=zsR;refine zu6 ?_;unfold ztc at hp;intro m0 aa;obtain⟨ba,ca,vb,da⟩:=S0.blk aa τ0 1;intro m1 ea;obtain⟨g,u,fa,w⟩:=ca.blk ea ba 2;have y:=da.k fa;refine⟨_,_,_,_,y.bk.ra,trivial,_,_,w.bk.rp (k:=6) (j:=2) rfl (by omega),?_⟩;obtain⟨wb,ga,hp⟩:=zrH hp;refine zvs (b:=b) (r:=e.Day) u.pre ha102 ha103 ga fun m9 ha=>?_;obtain⟨q,z⟩:=u.call ha g;have A:=y.k z;have B:=w.k z;refine⟨_,rfl,?_⟩;refine zr8 hp (fun ia hp=>?_) fun ia hp=>?_
 ·obtain rfl:=oi hp;exact hq _ q.ext'
 refine⟨trivial,_,B.bk.rc rfl,_,_,_,_,A.bk.ra,?_⟩;obtain⟨ja,ka,hp⟩:=zrH hp;refine zvu (b:=b) q.pre ha102 ha103 ka fun Fb la=>?_;obtain⟨D,F⟩:=q.call la g;have ma:=A.k F;have G:=B.k F;refine⟨_,rfl,(G.bk.rc rfl),?_⟩;refine gdi hp fun na hp=>?_;obtain⟨xb,oa,hp⟩:=zrH hp;refine zvr (n:=e.Parcel) (low:=(0:Int)) (high:=(ja - 1)) D.pre  oa fun Gb pa=>?_;obtain⟨a,I⟩:=D.call pa g;have h:=ma.k I;have d:=G.k I;refine⟨_,rfl,?_⟩;refine zr8 hp (fun qa hp=>?_) fun qa hp=>?_
 ·obtain rfl:=oi hp;exact hq _ a.ext'
 refine⟨trivial,_,d.bk.rc rfl,?_⟩;refine ifd hp (fun sa hp=>?_) fun sa hp=>?_; rotate_left
 ·refine⟨trivial,_,d.bk.rc rfl,?_⟩;refine ifd hp (fun ta hp=>?_) fun ta hp=>?_; rotate_left
  ·refine ifd hp (fun ua hp=>?_) fun ua hp=>?_
   ·obtain rfl:=oi hp;exact hq _ a.ext'
   refine ifd hp (fun va hp=>?_) fun va hp=>?_
   ·obtain rfl:=oi hp;exact hq _ a.ext'
   refine ifd hp (fun wa hp=>?_) fun wa hp=>?_
   ·obtain rfl:=oi hp;exact hq _ a.ext'
   obtain rfl:=oi hp;exact hq _ a.ext'
  refine⟨trivial,_,d.bk.rc rfl,trivial,_,h.bk.rc rfl,?_⟩;refine gdi hp fun xa hp=>?_;obtain⟨yb,ya,hp⟩:=zrH hp;refine zvr (n:=e.From) (low:=(0:Int)) (high:=(b.Owners - (1:Int))) a.pre  ya fun Hb za=>?_;obtain⟨s,J⟩:=a.call za g;have Aa:=h.k J;have N:=d.k J;refine⟨_,rfl,?_⟩;refine zr7 hp (fun Ba hp=>?_) fun Ba hp=>?_; rotate_left
  ·obtain rfl:=oi hp;exact hq _ s.ext'
  refine⟨trivial,_,N.bk.rc rfl,trivial,_,Aa.bk.rc rfl,?_⟩;refine gdi hp fun Ca hp=>?_;obtain⟨zb,Da,hp⟩:=zrH hp;refine zvr (n:=e.To) (low:=(0:Int)) (high:=(b.Owners - (1:Int))) s.pre  Da fun Ib Ea=>?_;obtain⟨i,Fa⟩:=s.call Ea g;have l:=N.k Fa;refine⟨_,rfl,?_⟩;refine zr7 hp (fun Ga hp=>?_) fun Ga hp=>?_; rotate_left
  ·obtain rfl:=oi hp;exact hq _ i.ext'
  refine⟨trivial,_,l.bk.rc rfl,trivial,_,l.bk.rc rfl,?_⟩;refine zr6 hp (fun Ha hp=>?_) fun Ha hp=>?_; rotate_left
  ·obtain rfl:=oi hp;exact hq _ i.ext'
  refine⟨trivial,_,l.bk.rc rfl,?_⟩;refine ifd hp (fun Ia hp=>?_) fun Ia hp=>?_; rotate_left
  ·obtain rfl:=oi hp;exact hq _ i.ext'
  refine⟨trivial,_,l.bk.rc rfl,?_⟩;obtain rfl:=oi hp;exact hq _ i.ext'
 refine⟨trivial,_,d.bk.rc rfl,trivial,_,d.bk.rc rfl,?_⟩;refine ifd hp (fun Ja hp=>?_) fun Ja hp=>?_
 ·refine⟨trivial,_,d.bk.rc rfl,trivial,_,h.bk.rc rfl,?_⟩;refine gdi hp fun Ka hp=>?_;obtain⟨Ab,La,hp⟩:=zrH hp;refine zvr (n:=e.From) (low:=(0:Int)) (high:=(b.Owners - (1:Int))) a.pre  La fun Jb Ma=>?_;obtain⟨t,O⟩:=a.call Ma g;have Na:=h.k O;have P:=d.k O;refine⟨_,rfl,?_⟩;refine zr7 hp (fun Oa hp=>?_) fun Oa hp=>?_; rotate_left
  ·obtain rfl:=oi hp;exact hq _ t.ext'
  refine⟨trivial,_,P.bk.rc rfl,trivial,_,Na.bk.rc rfl,?_⟩;refine gdi hp fun Pa hp=>?_;obtain⟨Bb,Qa,hp⟩:=zrH hp;refine zvr (n:=e.To) (low:=(0:Int)) (high:=(b.Owners - (1:Int))) t.pre  Qa fun Kb Ra=>?_;obtain⟨o,Sa⟩:=t.call Ra g;have p:=P.k Sa;refine⟨_,rfl,?_⟩;refine zr7 hp (fun Ta hp=>?_) fun Ta hp=>?_; rotate_left
  ·obtain rfl:=oi hp;exact hq _ o.ext'
  refine⟨trivial,_,p.bk.rc rfl,trivial,_,p.bk.rc rfl,?_⟩;refine zr6 hp (fun Ua hp=>?_) fun Ua hp=>?_; rotate_left
  ·obtain rfl:=oi hp;exact hq _ o.ext'
  refine⟨trivial,_,p.bk.rc rfl,?_⟩;refine ifd hp (fun Va hp=>?_) fun Va hp=>?_; rotate_left
  ·obtain rfl:=oi hp;exact hq _ o.ext'
  refine⟨trivial,_,p.bk.rc rfl,?_⟩;obtain rfl:=oi hp;exact hq _ o.ext'
 refine ifd hp (fun Wa hp=>?_) fun Wa hp=>?_
 ·refine ifd hp (fun Xa hp=>?_) fun Xa hp=>?_; rotate_left
  ·obtain rfl:=oi hp;exact hq _ a.ext'
  refine⟨trivial,_,d.bk.rc rfl,?_⟩;refine ifd hp (fun Ya hp=>?_) fun Ya hp=>?_; rotate_left
  ·obtain rfl:=oi hp;exact hq _ a.ext'
  refine⟨trivial,_,d.bk.rc rfl,?_⟩;obtain⟨Cb,Za,hp⟩:=zrH hp;refine zvr (n:=e.Part) (low:=(1:Int)) (high:=(1000:Int)) a.pre  Za fun Mb ab=>?_;obtain⟨bb,Db⟩:=a.call ab g;refine⟨_,rfl,?_⟩;obtain rfl:=oi hp;exact hq _ bb.ext'
 refine ifd hp (fun cb hp=>?_) fun cb hp=>?_; rotate_left
 ·refine ifd hp (fun db hp=>?_) fun db hp=>?_; rotate_left
  ·obtain rfl:=oi hp;exact hq _ a.ext'
  refine ifd hp (fun eb hp=>?_) fun eb hp=>?_; rotate_left
  ·obtain rfl:=oi hp;exact hq _ a.ext'
  refine⟨trivial,_,d.bk.rc rfl,?_⟩;refine ifd hp (fun fb hp=>?_) fun fb hp=>?_; rotate_left
  ·obtain rfl:=oi hp;exact hq _ a.ext'
  refine⟨trivial,_,d.bk.rc rfl,?_⟩;obtain rfl:=oi hp;exact hq _ a.ext'
 refine ifd hp (fun gb hp=>?_) fun gb hp=>?_; rotate_left
 ·obtain rfl:=oi hp;exact hq _ a.ext'
 refine⟨trivial,_,d.bk.rc rfl,?_⟩;refine ifd hp (fun hb hp=>?_) fun hb hp=>?_; rotate_left
 ·obtain rfl:=oi hp;exact hq _ a.ext'
 refine⟨trivial,_,d.bk.rc rfl,_,_,_,_,h.bk.ra,?_⟩;obtain⟨ib,jb,hp⟩:=zrH hp;refine zvu (b:=b) a.pre ha102 ha103 jb fun Nb kb=>?_;obtain⟨S,mb⟩:=a.call kb g;have T:=d.k mb;refine⟨_,rfl,(T.bk.rc rfl),?_⟩;refine gdi hp fun ob hp=>?_;obtain⟨Eb,pb,hp⟩:=zrH hp;refine zvr (n:=e.Other) (low:=(0:Int)) (high:=(ib - 1)) S.pre  pb fun Ob qb=>?_;obtain⟨Y,rb⟩:=S.call qb g;have Z:=T.k rb;refine⟨_,rfl,?_⟩;refine zr7 hp (fun sb hp=>?_) fun sb hp=>?_; rotate_left
 ·obtain rfl:=oi hp;exact hq _ Y.ext'
 refine⟨trivial,_,Z.bk.rc rfl,trivial,_,Z.bk.rc rfl,?_⟩;obtain rfl:=oi hp;exact hq _ Y.ext'
theorem zvw{b:Boo}{ca102 ca103:C}{m f:M}{Q:V->M->Prop}{rz:Int}(hS:Pre f m)(ha102:Sl f ca102 b.Parcels)(ha103:Sl f ca103 b.Entries)(hp:ztf b=some rz)(hq:∀m',Ext m m'->Q (.c (Il rz)) m'):Wc prog tbl 53 [.agg 4 [Il b.Last,Il b.Owners,ca102,ca103]] m Q:=by
 have S0:=hS.st;obtain⟨τ0,_⟩:=zsR;refine w53 ?_;unfold ztf at hp;intro m0 N;obtain⟨O,P,ya,a⟩:=S0.blk N τ0 1;intro R1 qa
 have hgo:∀(n:Nat) (A:Int) (B:Int) (z:M) (d:Nat->Nat),St (Fm.of m) f f z->Lb (Fm.of m) f d z 1 m.nxt 4 [Il b.Last,Il b.Owners,ca102,ca103]->zte b n A B=some rz->R1 [.c (Il A),.c (Il B)] z:=by
  intro n
  induction n with
  | zero=>intro A B z d e a hp; cases hp
  | succ n S=>
   intro A B z d e a hp;refine qa _ _ _ ?_;rw[zte] at hp;refine⟨trivial,_,a.bk.rc rfl,ha103.isSl,?_⟩
   try rw[ha103.slLen]
   refine ifd hp (fun T hp=>?_) fun T hp=>?_
   ·refine⟨trivial,_,a.bk.rc rfl,?_⟩;obtain⟨Aa,g,hp⟩:=zrH hp;obtain⟨n7,D,r,g⟩:=zrB g;obtain⟨_,Y⟩:=zsX ha103 g;refine⟨n7,D,(by first|exact r|(rw[ha103.slLen];exact r)),(ha103.isPt g _),(ha103.isPt' g _ _),_,(by rw[zsx]; exact(Y _ e.sub).2.1 7 _ rfl),trivial,_,a.bk.rc rfl,?_⟩;obtain⟨Ca,h,hp⟩:=zrH hp;obtain⟨sa,F,s,h⟩:=zrB h;obtain⟨_,Z⟩:=zsX ha103 h;refine⟨sa,F,(by first|exact s|(rw[ha103.slLen];exact s)),(ha103.isPt h _),(ha103.isPt' h _ _),_,(by rw[zsx]; exact(Z _ e.sub).2.1 6 _ rfl),?_⟩;refine gdi hp fun aa hp=>?_;refine gdi hp fun ba hp=>?_;refine gdi hp fun ca hp=>?_;refine gdi hp fun da hp=>?_;refine gdi hp fun ea hp=>?_;refine gdi hp fun fa hp=>?_;exact S _ _ _ d e a hp
   intro ta ga
   have hgo:∀(o:Nat) (t:Int) (u:Int) (q:M) (p:Nat->Nat),St (Fm.of m) f f q->Lb (Fm.of m) f p q 1 m.nxt 4 [Il b.Last,Il b.Owners,ca102,ca103]->ztd b o t u=some rz->ta [.c (Il t),.c (Il u)] q:=by
    intro o
    induction o with
    | zero=>intro t u q p i a hp; cases hp
    | succ o G=>
     intro t u q p i a hp;refine ga _ _ _ ?_;rw[ztd] at hp;refine⟨trivial,_,a.bk.rc rfl,ha102.isSl,?_⟩
     try rw[ha102.slLen]
     refine ifd hp (fun ha hp=>?_) fun ha hp=>?_; rotate_left
     ·obtain rfl:=oi hp;exact hq _ i.ext'
     refine⟨trivial,_,a.bk.rc rfl,?_⟩;obtain⟨Da,j,hp⟩:=zrH hp;obtain⟨ua,I,w,j⟩:=zrB j;obtain⟨_,ia⟩:=zsV ha102 j;refine⟨ua,I,(by first|exact w|(rw[ha102.slLen];exact w)),(ha102.isPt j _),(ha102.isPt' j _ _),_,(by rw[zsx]; exact(ia _ i.sub).2.1 3 _ rfl),trivial,_,a.bk.rc rfl,?_⟩;obtain⟨Ea,l,hp⟩:=zrH hp;obtain⟨va,J,y,l⟩:=zrB l;obtain⟨_,ja⟩:=zsV ha102 l;refine⟨va,J,(by first|exact y|(rw[ha102.slLen];exact y)),(ha102.isPt l _),(ha102.isPt' l _ _),_,(by rw[zsx]; exact(ja _ i.sub).2.1 2 _ rfl),?_⟩;refine gdi hp fun ka hp=>?_;refine gdi hp fun la hp=>?_;refine gdi hp fun ma hp=>?_;refine gdi hp fun na hp=>?_;refine gdi hp fun oa hp=>?_;refine gdi hp fun pa hp=>?_;exact G _ _ _ p i a hp
   exact hgo _ _ _ _ d e a hp
 exact hgo _ _ _ _ O P a hp
theorem zvx{b:Boo}{ca102 ca103:C}{m f:M}{Q:V->M->Prop}{rz:Int}(hS:Pre f m)(ha102:Sl f ca102 b.Parcels)(ha103:Sl f ca103 b.Entries)(hp:zth b=some rz)(hq:∀m',Ext m m'->Q (.c (Il rz)) m'):Wc prog tbl 67 [.agg 4 [Il b.Last,Il b.Owners,ca102,ca103]] m Q:=by
 have S0:=hS.st;obtain⟨τ0,_⟩:=zsR;refine w67 ?_;unfold zth at hp;intro m0 ja;obtain⟨O,i,ob,l⟩:=S0.blk ja τ0 1;refine⟨trivial,_,l.bk.rc rfl,?_⟩;refine ifd hp (fun ka hp=>?_) fun ka hp=>?_
 ·obtain rfl:=oi hp;exact hq _ i.ext'
 refine⟨trivial,_,l.bk.rc rfl,ha102.isSl,?_⟩
 try rw[ha102.slLen]
 refine ifd hp (fun la hp=>?_) fun la hp=>?_
 ·obtain rfl:=oi hp;exact hq _ i.ext'
 refine⟨trivial,_,l.bk.rc rfl,ha103.isSl,?_⟩
 try rw[ha103.slLen]
 refine ifd hp (fun ma hp=>?_) fun ma hp=>?_
 ·obtain rfl:=oi hp;exact hq _ i.ext'
 refine⟨trivial,_,l.bk.rc rfl,?_⟩;obtain⟨pb,na,hp⟩:=zrH hp;refine zvr (n:=b.Last) (low:=(0:Int)) (high:=(30:Int)) i.pre  na fun m6 oa=>?_;obtain⟨y,pa⟩:=i.call oa O;have a:=l.k pa;refine⟨_,rfl,?_⟩;refine zr8 hp (fun qa hp=>?_) fun qa hp=>?_
 ·obtain rfl:=oi hp;exact hq _ y.ext'
 refine⟨trivial,_,a.bk.rc rfl,?_⟩;refine ifd hp (fun sa hp=>?_) fun sa hp=>?_
 ·obtain rfl:=oi hp;exact hq _ y.ext'
 intro R9 gb
 have hgo:∀(p:Nat) (F:Int) (G:Int) (u:M) (o:Nat->Nat),St (Fm.of m) f f u->Lb (Fm.of m) f o u 1 m.nxt 4 [Il b.Last,Il b.Owners,ca102,ca103]->ztg b p F G=some rz->R9 [.c (Il F),.c (Il G)] u:=by
  intro p
  induction p with
  | zero=>intro F G u o q a hp; cases hp
  | succ p ta=>
   intro F G u o q a hp;refine gb _ _ _ ?_;rw[ztg] at hp;refine⟨trivial,_,a.bk.rc rfl,ha102.isSl,?_⟩
   try rw[ha102.slLen]
   refine ifd hp (fun ua hp=>?_) fun ua hp=>?_; rotate_left
   ·intro hb va
    have hgo:∀(s:Nat) (P:Int) (I:Int) (w:M) (g:Nat->Nat),St (Fm.of m) f f w->Lb (Fm.of m) f g w 1 m.nxt 4 [Il b.Last,Il b.Owners,ca102,ca103]->prFault_L1 b s I=some rz->hb [.c (Il P),.c (Il I)] w:=by
     intro s
     induction s with
     | zero=>intro P I w g h a hp; cases hp
     | succ s ga=>
      intro P I w g h a hp;refine va _ _ _ ?_;rw[prFault_L1] at hp;refine⟨trivial,_,a.bk.rc rfl,ha103.isSl,?_⟩
      try rw[ha103.slLen]
      refine ifd hp (fun wa hp=>?_) fun wa hp=>?_; rotate_left
      ·refine⟨_,_,_,_,a.bk.ra,?_⟩;obtain⟨rb,xa,hp⟩:=zrH hp;refine zvw (b:=b) h.pre ha102 ha103 xa fun xb ya=>?_;obtain⟨S,sb⟩:=h.call ya g;refine⟨_,rfl,?_⟩;refine ifd hp (fun za hp=>?_) fun za hp=>?_
       ·obtain rfl:=oi hp;exact hq _ S.ext'
       obtain rfl:=oi hp;exact hq _ S.ext'
      refine⟨_,_,_,_,a.bk.ra,trivial,_,a.bk.rc rfl,?_⟩;obtain⟨Aa,z,hp⟩:=zrH hp;obtain⟨ib,ha,J,z⟩:=zrB z;obtain⟨_,Ba⟩:=zsX ha103 z;refine⟨ib,ha,(by first|exact J|(rw[ha103.slLen];exact J)),_,_,_,_,_,_,_,_,(Ba _ h.sub).1,?_⟩;obtain⟨tb,Ca,hp⟩:=zrH hp;refine zvv (b:=b) (e:=Aa) h.pre ha102 ha103 Ca fun yb Da=>?_;obtain⟨T,Ea⟩:=h.call Da g;have Fa:=a.k Ea;refine⟨_,rfl,?_⟩;refine zr8 hp (fun Ga hp=>?_) fun Ga hp=>?_
      ·obtain rfl:=oi hp;exact hq _ T.ext'
      refine gdi hp fun Ha hp=>?_;exact ga _ _ _ g T Fa hp
    exact hgo _ _ _ _ o q a hp
   refine⟨trivial,_,a.bk.rc rfl,?_⟩;obtain⟨d,A,hp⟩:=zrH hp;obtain⟨jb,ia,N,A⟩:=zrB A;obtain⟨_,Ia⟩:=zsV ha102 A;refine⟨jb,ia,(by first|exact N|(rw[ha102.slLen];exact N)),_,_,_,_,(Ia _ q.sub).1,?_⟩;intro zb Ja;obtain⟨t,Ka,La,Ma⟩:=q.blk Ja o 2;have Na:=a.k La;obtain⟨Oa,Pa,Y,Qa,Z⟩:=Ma.sto Ka [Il d.Owner,Il d.Value,Il d.Sown.Lo,Il d.Sown.Hi];have aa:=Na.k Qa;refine⟨Oa,Pa,?_⟩;refine⟨trivial,_,Z.bk.rc rfl,trivial,_,aa.bk.rc rfl,?_⟩;refine gdi hp fun Ra hp=>?_;obtain⟨ub,Sa,hp⟩:=zrH hp;refine zvr (n:=d.Owner) (low:=(0:Int)) (high:=(b.Owners - (1:Int))) Y.pre  Sa fun Ab Ta=>?_;obtain⟨B,ba⟩:=Y.call Ta t;have Ua:=aa.k ba;have ca:=Z.k ba;refine⟨_,rfl,?_⟩;refine zr8 hp (fun Va hp=>?_) fun Va hp=>?_
   ·obtain rfl:=oi hp;exact hq _ B.ext'
   refine⟨trivial,_,ca.bk.rc rfl,?_⟩;obtain⟨vb,Wa,hp⟩:=zrH hp;refine zvr (n:=d.Value) (low:=(0:Int)) (high:=(1000:Int)) B.pre  Wa fun Bb Xa=>?_;obtain⟨D,da⟩:=B.call Xa t;have ea:=Ua.k da;have Ya:=ca.k da;refine⟨_,rfl,?_⟩;refine zr8 hp (fun Za hp=>?_) fun Za hp=>?_
   ·obtain rfl:=oi hp;exact hq _ D.ext'
   refine⟨_,_,_,_,ea.bk.ra,trivial,_,_,Ya.bk.rp (k:=2) (j:=2) rfl (by omega),?_⟩;obtain⟨wb,ab,hp⟩:=zrH hp;refine zvs (b:=b) (r:=d.Sown) D.pre ha102 ha103 ab fun Cb bb=>?_;obtain⟨fa,cb⟩:=D.call bb t;have db:=ea.k cb;refine⟨_,rfl,?_⟩;refine zr8 hp (fun eb hp=>?_) fun eb hp=>?_
   ·obtain rfl:=oi hp;exact hq _ fa.ext'
   refine gdi hp fun fb hp=>?_;exact ta _ _ _ t fa db hp
 exact hgo _ _ _ _ O y a hp
theorem zvy{b:Boo}{n:Int}{ca102 ca103:C}{m f:M}{Q:V->M->Prop}{rz:Tr}(hS:Pre f m)(ha102:Sl f ca102 b.Parcels)(ha103:Sl f ca103 b.Entries)(hp:ztk b n=some rz)(hq:∀m' f' c0 c1,Grw m f m' f'->Sl f' c0 rz.Days->Sl f' c1 rz.Sown->Q (.agg 2 [c0,c1]) m'):Wc prog tbl 83 [.agg 4 [Il b.Last,Il b.Owners,ca102,ca103],.c (Il n)] m Q:=by
 have S0:=hS.st;obtain⟨τ0,_⟩:=zsR;refine w83 ?_;unfold ztk at hp;intro m0 Ba;obtain⟨Ca,Da,Rc,Ea⟩:=S0.blk Ba τ0 1;intro m1 Fa;obtain⟨Ga,Ha,Ia,Ja⟩:=Da.blk Fa Ca 2;have Ka:=Ea.k Ia;intro m2 La;obtain⟨Ma,Na,qa,i⟩:=Ha.blk La Ga 3;have e:=Ka.k qa;have j:=Ja.k qa;intro R3 Jc
 have hgo:∀(N:Nat) (x4:Int) (x5:Int) (l:C) (w:C) (t:List Int) (O:List Int) (P:M) (o:Nat->Nat),St (Fm.of m) f f P->Lb (Fm.of m) f o P 1 m.nxt 4 [Il b.Last,Il b.Owners,ca102,ca103]->Lb (Fm.of m) f o P 2 m0.nxt 2 [.sl0,.sl0]->Lb (Fm.of m) f o P 3 m1.nxt 2 [l,w]->Ow (Fm.of m) f o P 4 l t->Ow (Fm.of m) f o P 5 w O->ztj b N t O x4 x5=some rz->R3 [.c (Il x4),.c (Il x5)] P:=by
  intro N
  induction N with
  | zero=>intro x4 x5 l w t O P o S e j i d h hp; cases hp
  | succ N Oa=>
   intro x4 x5 l w t O P o S e j i d h hp;refine Jc _ _ _ ?_;rw[ztj] at hp;refine⟨trivial,_,e.bk.rc rfl,ha103.isSl,?_⟩
   try rw[ha103.slLen]
   refine ifd hp (fun Pa hp=>?_) fun Pa hp=>?_
   ·refine⟨trivial,_,e.bk.rc rfl,?_⟩;obtain⟨p,T,hp⟩:=zrH hp;obtain⟨n9,ya,ma,T⟩:=zrB T;obtain⟨_,Qa⟩:=zsX ha103 T;refine⟨n9,ya,(by first|exact ma|(rw[ha103.slLen];exact ma)),(ha103.isPt T _),_,_,((Qa _ S.sub).2.2 6 2 (by omega) (by decide)),?_⟩;intro Zc Ra;obtain⟨Vc,Sa,y,Ta⟩:=S.blk Ra o 6;have Ua:=e.k y;have Va:=j.k y;have Wa:=i.k y;have d:=d.k y;have h:=h.k y;obtain⟨Xa,Ya,Za,z,Y⟩:=Ta.sto Sa [Il p.Day.Lo,Il p.Day.Hi];have ab:=Ua.k z;have bb:=Va.k z;have ea:=Wa.k z;have d:=d.k z;have h:=h.k z;refine⟨Xa,Ya,?_⟩;refine⟨trivial,_,ea.bk.rc rfl,trivial,_,Y.bk.rc rfl,trivial,_,Y.bk.rc rfl,trivial,_,Y.bk.rc rfl,?_⟩;refine gdi hp fun cb hp=>?_;refine gdi hp fun db hp=>?_;refine gdi hp fun eb hp=>?_;refine gdi hp fun fb hp=>?_;refine gdi hp fun gb hp=>?_;refine gdi hp fun hb hp=>?_;obtain⟨ib,hp⟩:=zrI hp;intro ad sa;refine⟨(by rw[show cmC _=true from zqf (d.noFn)]; exact(ea.bk.ext (Bk.new sa).2).rc rfl),?_⟩;obtain⟨fa,jb,kb,mb,ob,A,ga⟩:=d.app' zvl Za (a:=(p.Day.Lo+(x4 % ((p.Day.Hi - p.Day.Lo)+(1:Int))))) (show Rp.rep (α:=Int) f _ (p.Day.Lo+(x4 % ((p.Day.Hi - p.Day.Lo)+(1:Int)))) from rfl) ib sa;have pb:=ab.k A;have qb:=bb.k A;have rb:=ea.k A;have sb:=Y.k A;have h:=h.k A;refine⟨fa,jb,mb,?_⟩;refine⟨trivial,?_⟩;obtain⟨tb,ub,vb,B,ha⟩:=rb.sto1 ob 0 fa (by simp) rfl
    replace ha:Lb _ _ _ _ _ _ _ [fa,w]:=ha
    have wb:=pb.k B;have xb:=qb.k B;have ta:=sb.k B;have h:=h.k B;have ga:=ga.k B;refine⟨tb,ub,?_⟩;refine⟨trivial,_,ta.bk.rc rfl,trivial,_,ta.bk.rc rfl,?_⟩;refine gdi hp fun yb hp=>?_;refine gdi hp fun zb hp=>?_;refine gdi hp fun Ab hp=>?_;refine gdi hp fun Bb hp=>?_;refine gdi hp fun Cb hp=>?_;refine gdi hp fun Db hp=>?_;exact Oa _ _ _ _ _ _ _ kb vb wb xb ha ga h hp
   intro Kc Eb
   have hgo:∀(Z:Nat) (J:Int) (na:Int) (u:C) (aa:List Int) (s:M) (q:Nat->Nat),St (Fm.of m) f f s->Lb (Fm.of m) f q s 1 m.nxt 4 [Il b.Last,Il b.Owners,ca102,ca103]->Lb (Fm.of m) f q s 2 m0.nxt 2 [.sl0,.sl0]->Lb (Fm.of m) f q s 3 m1.nxt 2 [l,u]->Ow (Fm.of m) f q s 5 u aa->Ow (Fm.of m) f q s 4 l t->zti b t Z aa J na=some rz->Kc [.c (Il J),.c (Il na)] s:=by
    intro Z
    induction Z with
    | zero=>intro J na u aa s q ba e j i g d hp; cases hp
    | succ Z za=>
     intro J na u aa s q ba e j i g d hp;refine Eb _ _ _ ?_;rw[zti] at hp;refine⟨trivial,_,e.bk.rc rfl,ha102.isSl,?_⟩
     try rw[ha102.slLen]
     refine ifd hp (fun Fb hp=>?_) fun Fb hp=>?_; rotate_left
     ·refine⟨_,_,i.bk.ra,?_⟩;obtain⟨Gb,Hb,Ib,ua,Jb⟩:=j.sto ba [l,u];have d:=d.k ua;have g:=g.k ua;refine⟨Gb,Hb,?_⟩;refine⟨_,_,Jb.bk.ra,?_⟩;obtain⟨Xc,Kb,Mb,Nb⟩:=d.freeze Ib;have g:=g.k Mb;obtain⟨Ob,Pb,Qb,Rb⟩:=g.freeze Kb;obtain rfl:=oi hp;exact hq _ Ob l u Pb.grw (Nb.sub Qb.fs) Rb
     refine⟨trivial,_,e.bk.rc rfl,?_⟩;obtain⟨r,ca,hp⟩:=zrH hp;obtain⟨Nc,Aa,oa,ca⟩:=zrB ca;obtain⟨_,Sb⟩:=zsV ha102 ca;refine⟨Nc,Aa,(by first|exact oa|(rw[ha102.slLen];exact oa)),(ha102.isPt ca _),_,_,((Sb _ ba.sub).2.2 2 2 (by omega) (by decide)),?_⟩;intro bd Tb;obtain⟨Yc,Ub,D,Vb⟩:=ba.blk Tb q 7;have Wb:=e.k D;have Xb:=j.k D;have Yb:=i.k D;have d:=d.k D;have g:=g.k D;obtain⟨Zb,ac,bc,F,da⟩:=Vb.sto Ub [Il r.Sown.Lo,Il r.Sown.Hi];have cc:=Wb.k F;have dc:=Xb.k F;have ia:=Yb.k F;have d:=d.k F;have g:=g.k F;refine⟨Zb,ac,?_⟩;refine⟨trivial,_,ia.bk.rc rfl,trivial,_,da.bk.rc rfl,trivial,_,da.bk.rc rfl,trivial,_,da.bk.rc rfl,?_⟩;refine gdi hp fun ec hp=>?_;refine gdi hp fun fc hp=>?_;refine gdi hp fun gc hp=>?_;refine gdi hp fun hc hp=>?_;refine gdi hp fun ic hp=>?_;refine gdi hp fun jc hp=>?_;obtain⟨kc,hp⟩:=zrI hp;intro cd va;refine⟨(by rw[show cmC _=true from zqf (g.noFn)]; exact(ia.bk.ext (Bk.new va).2).rc rfl),?_⟩;obtain⟨ja,nc,oc,pc,qc,G,ka⟩:=g.app' zvl bc (a:=(r.Sown.Lo+(J % ((r.Sown.Hi - r.Sown.Lo)+(1:Int))))) (show Rp.rep (α:=Int) f _ (r.Sown.Lo+(J % ((r.Sown.Hi - r.Sown.Lo)+(1:Int)))) from rfl) kc va;have sc:=cc.k G;have tc:=dc.k G;have uc:=ia.k G;have vc:=da.k G;have d:=d.k G;refine⟨ja,nc,pc,?_⟩;refine⟨trivial,?_⟩;obtain⟨wc,xc,yc,I,la⟩:=uc.sto1 qc 1 ja (by simp) rfl
     replace la:Lb _ _ _ _ _ _ _ [l,ja]:=la
     have zc:=sc.k I;have Ac:=tc.k I;have wa:=vc.k I;have d:=d.k I;have ka:=ka.k I;refine⟨wc,xc,?_⟩;refine⟨trivial,_,wa.bk.rc rfl,trivial,_,wa.bk.rc rfl,?_⟩;refine gdi hp fun Bc hp=>?_;refine gdi hp fun Cc hp=>?_;refine gdi hp fun Dc hp=>?_;refine gdi hp fun Ec hp=>?_;refine gdi hp fun Fc hp=>?_;refine gdi hp fun Gc hp=>?_;exact za _ _ _ _ _ oc yc zc Ac la ka d hp
   exact hgo _ _ _ _ _ _ o S e j i h d hp
 exact hgo _ _ _ _ _ _ _ _ Ma Na e j i (Ow.nil _ _ _ _ _) (Ow.nil _ _ _ _ _) hp
theorem zvz{b:Boo}{t:Tr}{ca102 ca103 ca200 ca201:C}{m f:M}{Q:V->M->Prop}{rz:Bool}(hS:Pre f m)(ha102:Sl f ca102 b.Parcels)(ha103:Sl f ca103 b.Entries)(ha200:Sl f ca200 t.Days)(ha201:Sl f ca201 t.Sown)(hp:ztn b t=some rz)(hq:∀m',Ext m m'->Q (.c (.bool rz)) m'):Wc prog tbl 25 [.agg 4 [Il b.Last,Il b.Owners,ca102,ca103],.agg 2 [ca200,ca201]] m Q:=by
 have S0:=hS.st;obtain⟨τ0,_⟩:=zsR;refine w25 ?_;unfold ztn at hp;intro m0 ha;obtain⟨ia,ja,cb,ka⟩:=S0.blk ha τ0 1;intro m1 la;obtain⟨ma,u,na,a⟩:=ja.blk la ia 2;have d:=ka.k na;refine⟨trivial,_,a.bk.rc rfl,ha200.isSl,trivial,_,d.bk.rc rfl,ha103.isSl,?_⟩
 try rw[ha200.slLen]
 try rw[ha103.slLen]
 refine zr6 hp (fun oa hp=>?_) fun oa hp=>?_
 ·obtain rfl:=oi hp;exact hq _ u.ext'
 refine⟨trivial,_,a.bk.rc rfl,ha201.isSl,trivial,_,d.bk.rc rfl,ha102.isSl,?_⟩
 try rw[ha201.slLen]
 try rw[ha102.slLen]
 refine zr6 hp (fun pa hp=>?_) fun pa hp=>?_
 ·obtain rfl:=oi hp;exact hq _ u.ext'
 intro R6 Sa
 have hgo:∀(r:Nat) (Y:Bool) (Z:Int) (J:M) (e:Nat->Nat),St (Fm.of m) f f J->Lb (Fm.of m) f e J 1 m.nxt 4 [Il b.Last,Il b.Owners,ca102,ca103]->Lb (Fm.of m) f e J 2 m0.nxt 2 [ca200,ca201]->ztm b t r Y Z=some rz->R6 [.c (.bool Y),.c (Il Z)] J:=by
  intro r
  induction r with
  | zero=>intro Y Z J e g d a hp; cases hp
  | succ r qa=>
   intro Y Z J e g d a hp;refine Sa _ _ _ ?_;rw[ztm] at hp;refine⟨trivial,_,a.bk.rc rfl,ha200.isSl,?_⟩
   try rw[ha200.slLen]
   refine ifd hp (fun sa hp=>?_) fun sa hp=>?_
   ·refine⟨trivial,_,a.bk.rc rfl,?_⟩;obtain⟨ta,w,hp⟩:=zrH hp;obtain⟨Ta,aa,z,w⟩:=zrB w;refine⟨Ta,aa,(by first|exact z|(rw[ha200.slLen];exact z)),_,(ha200.rdI w g.sub),trivial,_,d.bk.rc rfl,?_⟩;obtain⟨ua,j,hp⟩:=zrH hp;obtain⟨Ua,ba,A,j⟩:=zrB j;obtain⟨_,va⟩:=zsX ha103 j;refine⟨Ua,ba,(by first|exact A|(rw[ha103.slLen];exact A)),(ha103.isPt j _),(ha103.isPt' j _ _),_,(by rw[zsx]; exact(va _ g.sub).2.1 6 _ rfl),trivial,_,d.bk.rc rfl,?_⟩;obtain⟨wa,l,hp⟩:=zrH hp;obtain⟨Va,ca,B,l⟩:=zrB l;obtain⟨_,xa⟩:=zsX ha103 l;refine⟨Va,ca,(by first|exact B|(rw[ha103.slLen];exact B)),(ha103.isPt l _),(ha103.isPt' l _ _),_,(by rw[zsx]; exact(xa _ g.sub).2.1 7 _ rfl),?_⟩;obtain⟨eb,ya,hp⟩:=zrH hp;refine zvr (n:=ta) (low:=ua.Day.Lo) (high:=wa.Day.Hi) g.pre  ya fun gb za=>?_;obtain⟨N,O⟩:=g.call za e;have Aa:=d.k O;have Ba:=a.k O;refine⟨_,rfl,?_⟩;refine zr8 hp (fun Ca hp=>?_) fun Ca hp=>?_
    ·obtain rfl:=oi hp;exact hq _ N.ext'
    refine gdi hp fun Da hp=>?_;exact qa _ _ _ e N Aa Ba hp
   intro Wa Ea
   have hgo:∀(s:Nat) (P:Bool) (D:Int) (q:M) (i:Nat->Nat),St (Fm.of m) f f q->Lb (Fm.of m) f i q 1 m.nxt 4 [Il b.Last,Il b.Owners,ca102,ca103]->Lb (Fm.of m) f i q 2 m0.nxt 2 [ca200,ca201]->ztl b t s D=some rz->Wa [.c (.bool P),.c (Il D)] q:=by
    intro s
    induction s with
    | zero=>intro P D q i h d a hp; cases hp
    | succ s da=>
     intro P D q i h d a hp;refine Ea _ _ _ ?_;rw[ztl] at hp;refine⟨trivial,_,a.bk.rc rfl,ha201.isSl,?_⟩
     try rw[ha201.slLen]
     refine ifd hp (fun Fa hp=>?_) fun Fa hp=>?_; rotate_left
     ·obtain rfl:=oi hp;exact hq _ h.ext'
     refine⟨trivial,_,a.bk.rc rfl,?_⟩;obtain⟨Ga,y,hp⟩:=zrH hp;obtain⟨Xa,ea,F,y⟩:=zrB y;refine⟨Xa,ea,(by first|exact F|(rw[ha201.slLen];exact F)),_,(ha201.rdI y h.sub),trivial,_,d.bk.rc rfl,?_⟩;obtain⟨Ha,o,hp⟩:=zrH hp;obtain⟨Ya,fa,G,o⟩:=zrB o;obtain⟨_,Ia⟩:=zsV ha102 o;refine⟨Ya,fa,(by first|exact G|(rw[ha102.slLen];exact G)),(ha102.isPt o _),(ha102.isPt' o _ _),_,(by rw[zsx]; exact(Ia _ h.sub).2.1 2 _ rfl),trivial,_,d.bk.rc rfl,?_⟩;obtain⟨Ja,p,hp⟩:=zrH hp;obtain⟨Za,ga,I,p⟩:=zrB p;obtain⟨_,Ka⟩:=zsV ha102 p;refine⟨Za,ga,(by first|exact I|(rw[ha102.slLen];exact I)),(ha102.isPt p _),(ha102.isPt' p _ _),_,(by rw[zsx]; exact(Ka _ h.sub).2.1 3 _ rfl),?_⟩;obtain⟨fb,La,hp⟩:=zrH hp;refine zvr (n:=Ga) (low:=Ha.Sown.Lo) (high:=Ja.Sown.Hi) h.pre  La fun hb Ma=>?_;obtain⟨S,T⟩:=h.call Ma i;have Na:=d.k T;have Oa:=a.k T;refine⟨_,rfl,?_⟩;refine zr8 hp (fun Pa hp=>?_) fun Pa hp=>?_
     ·obtain rfl:=oi hp;exact hq _ S.ext'
     refine gdi hp fun Qa hp=>?_;exact da _ _ _ i S Na Oa hp
   exact hgo _ _ _ _ e g d a hp
 exact hgo _ _ _ _ ma u d a hp
theorem zvA{b:Boo}{t:Tr}{ca102 ca103 ca200 ca201:C}{m f:M}{Q:V->M->Prop}{rz:List Fd}(hS:Pre f m)(ha102:Sl f ca102 b.Parcels)(ha103:Sl f ca103 b.Entries)(_ha200:Sl f ca200 t.Days)(ha201:Sl f ca201 t.Sown)(hp:ztp b t=some rz)(hq:∀m' f' c0,Grw m f m' f'->On m f' m' c0 rz->Q (.c c0) m'):Wc prog tbl 72 [.agg 4 [Il b.Last,Il b.Owners,ca102,ca103],.agg 2 [ca200,ca201]] m Q:=by
 have S0:=hS.st;obtain⟨τ0,_⟩:=zsR;refine w72 ?_;unfold ztp at hp;intro m0 ka;obtain⟨la,ma,Xa,na⟩:=S0.blk ka τ0 1;intro m1 oa;obtain⟨Y,Z,pa,qa⟩:=ma.blk oa la 2;have aa:=na.k pa;refine⟨_,_,_,_,aa.bk.ra,?_⟩;obtain⟨D,sa,hp⟩:=zrH hp;refine zvu (b:=b) Z.pre ha102 ha103 sa fun m7 ta=>?_;obtain⟨ua,ba⟩:=Z.call ta Y;have va:=aa.k ba;have wa:=qa.k ba;refine⟨_,rfl,?_⟩;obtain⟨Ya,hp⟩:=zrI hp;obtain⟨F,I⟩:∃n:Nat,D=(n:Int):=⟨Int.toNat D,by omega⟩
 have fa:Int.toNat D=F:=by omega
 refine⟨F,F,I,I,Nat.le_refl _,(by omega),?_⟩;intro Za xa;obtain⟨ya,za,ca,Aa⟩:=ua.blk xa Y 3;have d:=Lb.mkS (β:=Fd) (a:=({ There:=false,Gone:=false,Owner:=(0:Int),Value:=(0:Int),Sown:=(0:Int) }:Fd)) Aa rfl fa;have e:=va.k ca;have l:=wa.k ca;intro Na Ba
 have hgo:∀(y:Nat) (w:Int) (g:List Fd) (o:M) (i:Nat->Nat),St (Fm.of m) f f o->Lb (Fm.of m) f i o 1 m.nxt 4 [Il b.Last,Il b.Owners,ca102,ca103]->Lb (Fm.of m) f i o 2 m0.nxt 2 [ca200,ca201]->Ow (Fm.of m) f i o 3 (.sl m7.nxt 0 F 0 (some F)) g->zto b t y w g=some rz->Na [.c (Il w)] o:=by
  intro y
  induction y with
  | zero=>intro w g o i j e l d hp; cases hp
  | succ y ga=>
   intro w g o i j e l d hp;refine Ba _ _ ?_;rw[zto] at hp;refine⟨trivial,_,e.bk.rc rfl,ha102.isSl,?_⟩
   try rw[ha102.slLen]
   refine ifd hp (fun Ca hp=>?_) fun Ca hp=>?_; rotate_left
   ·obtain rfl:=oi hp;exact hq _ f (.sl m7.nxt 0 F 0 (some F)) j.grw d.on
   refine⟨trivial,_,e.bk.rc rfl,?_⟩;obtain⟨p,z,hp⟩:=zrH hp;obtain⟨Oa,ha,J,z⟩:=zrB z;obtain⟨_,Da⟩:=zsV ha102 z;refine⟨Oa,ha,(by first|exact J|(rw[ha102.slLen];exact J)),(ha102.isPt z _),_,((Da _ j.sub).2.1 0 _ rfl),trivial,_,e.bk.rc rfl,?_⟩;obtain⟨q,A,hp⟩:=zrH hp;obtain⟨Pa,ia,N,A⟩:=zrB A;obtain⟨_,Ea⟩:=zsV ha102 A;refine⟨Pa,ia,(by first|exact N|(rw[ha102.slLen];exact N)),(ha102.isPt A _),_,((Ea _ j.sub).2.1 1 _ rfl),trivial,_,l.bk.rc rfl,?_⟩;obtain⟨r,G,hp⟩:=zrH hp;obtain⟨Qa,ja,O,G⟩:=zrB G;refine⟨Qa,ja,(by first|exact O|(rw[ha201.slLen];exact O)),_,(ha201.rdI G j.sub),?_⟩;obtain⟨s,u,hp⟩:=zrH hp;obtain⟨P,B,S,u⟩:=zrB u;refine⟨P,B,(by first|exact S|(rw[d.slLen];exact S)),?_⟩;obtain⟨Fa,Ga,Ha,da,ea⟩:=d.setP j (a':=({ There:=true,Gone:=false,Owner:=p.Owner,Value:=q.Value,Sown:=r }:Fd)) u [.bool s.There,.bool s.Gone,Il s.Owner,Il s.Value,Il s.Sown] (fun _ h=>h) 0 [.bool true,.bool false,Il p.Owner,Il q.Value,Il r] (Nat.le_of_ble_eq_true rfl) rfl
   have T:Int.toNat w=P:=by rw[B]; rfl
   rw[<- T] at ea;have Sa:=B;have Ia:(g.set (Int.toNat w) ({ There:=true,Gone:=false,Owner:=p.Owner,Value:=q.Value,Sown:=r }:Fd))[P]? = some ({ There:=true,Gone:=false,Owner:=p.Owner,Value:=q.Value,Sown:=r }:Fd):=(congrArg (fun z9_=>(g.set z9_ ({ There:=true,Gone:=false,Owner:=p.Owner,Value:=q.Value,Sown:=r }:Fd))[P]?) T).trans (List.getElem?_set_self (List.getElem?_eq_some_iff.1 u).1);have Ta:=(List.getElem?_eq_some_iff.1 Ia).1;have Ja:=e.k da;have Ka:=l.k da;refine⟨Fa,(by have h9:=Ga; rw[d.add0 u] at h9; exact h9),?_⟩;refine gdi hp fun La hp=>?_;exact ga _ _ _ i Ha Ja Ka ea hp
 exact hgo _ _ _ _ ya za e l d hp
theorem zvB{b:Boo}{l:List Fd}{entry:Int}{day:Int}{ca102 ca103 ca200:C}{m f:M}{Q:V->M->Prop}{rz:Bool × List Fd}(hS:Pre f m)(ha102:Sl f ca102 b.Parcels)(ha103:Sl f ca103 b.Entries)(ha200:Wg f m ca200 l)(hp:ztq b l entry day=some rz)(hq:∀m',zsf (zr1 ca200) m m'->Wn m m' ca200 rz.2->Q (.c (.bool rz.1)) m'):Wc prog tbl 73 [.agg 4 [Il b.Last,Il b.Owners,ca102,ca103],.c ca200,.c (Il entry),.c (Il day)] m Q:=by
 have S0:=hS.stW ha200;obtain⟨τ0,o⟩:∃τ,Wo ⟨m,zr1 ca200⟩ f τ m 1 ca200 l:=⟨_,ha200.wo 1⟩;refine w73 ?_;unfold ztq at hp;intro m0 Za;obtain⟨ab,Fa,bb,Ga⟩:=S0.blk Za τ0 2;have o:=o.k bb;refine⟨trivial,_,Ga.bk.rc rfl,?_⟩;obtain⟨a,Z,hp⟩:=zrH hp;obtain⟨n2,Ua,ja,Z⟩:=zrB Z;obtain⟨_,cb⟩:=zsX ha103 Z;refine⟨n2,Ua,(by first|exact ja|(rw[ha103.slLen];exact ja)),_,_,_,_,_,_,_,_,(cb _ Fa.sub).1,?_⟩;intro hd db;obtain⟨eb,fb,Ha,gb⟩:=Fa.blk db ab 3;have hb:=Ga.k Ha;have o:=o.k Ha;obtain⟨ib,jb,kb,Ia,Ja⟩:=gb.sto fb [Il a.Kind,Il a.Parcel,Il a.Other,Il a.From,Il a.To,Il a.Part,Il a.Day.Lo,Il a.Day.Hi];have mb:=hb.k Ia;have o:=o.k Ia;refine⟨ib,jb,?_⟩;refine⟨trivial,_,Ja.bk.rc rfl,?_⟩;obtain⟨d,aa,hp⟩:=zrH hp;obtain⟨Ec,Va,ka,aa⟩:=zrB aa;have Wa:=(zvk (o.rdP aa));refine⟨Ec,Va,(by first|exact ka|(rw[o.slLen];exact ka)),_,_,_,_,_,(Wa).1,?_⟩;intro id ob;obtain⟨Ka,pb,ba,qb⟩:=kb.blk ob eb 4;have rb:=mb.k ba;have sb:=Ja.k ba;have o:=o.k ba;obtain⟨tb,ub,r,ca,s⟩:=qb.sto pb [.bool d.There,.bool d.Gone,Il d.Owner,Il d.Value,Il d.Sown];have vb:=rb.k ca;have q:=sb.k ca;have o:=o.k ca;refine⟨tb,ub,?_⟩;refine⟨trivial,_,s.bk.rc rfl,?_⟩;refine zr8 hp (fun wb hp=>?_) fun wb hp=>?_
 ·obtain rfl:=oi hp;exact hq _ r.extX o.wn
 refine⟨trivial,_,s.bk.rc rfl,?_⟩;refine zr7 hp (fun xb hp=>?_) fun xb hp=>?_
 ·obtain rfl:=oi hp;exact hq _ r.extX o.wn
 refine⟨trivial,_,q.bk.rc rfl,?_⟩;refine ifd hp (fun yb hp=>?_) fun yb hp=>?_
 ·refine⟨trivial,_,s.bk.rc rfl,trivial,_,q.bk.rc rfl,?_⟩;refine zr6 hp (fun zb hp=>?_) fun zb hp=>?_
  ·obtain rfl:=oi hp;exact hq _ r.extX o.wn
  refine⟨trivial,_,q.bk.rc rfl,trivial,_,q.bk.rc rfl,?_⟩;obtain⟨i,u,hp⟩:=zrH hp;obtain⟨la,F,ma,u⟩:=zrB u;refine⟨la,F,(by first|exact ma|(rw[o.slLen];exact ma)),(o.isPt u _),?_⟩;obtain⟨Ab,Bb,Cb,bd,La⟩:=o.setP r (a':=({ There:=i.There,Gone:=i.Gone,Owner:=a.To,Value:=i.Value,Sown:=i.Sown }:Fd)) u [.bool i.There,.bool i.Gone,Il i.Owner,Il i.Value,Il i.Sown] (fun _ h=>h) 2 [Il a.To] (Nat.le_of_ble_eq_true rfl) rfl
  have na:Int.toNat a.Parcel=la:=by rw[F]; rfl
  rw[<- na] at La;have Hc:=F;have Db:(l.set (Int.toNat a.Parcel) ({ There:=i.There,Gone:=i.Gone,Owner:=a.To,Value:=i.Value,Sown:=i.Sown }:Fd))[la]? = some ({ There:=i.There,Gone:=i.Gone,Owner:=a.To,Value:=i.Value,Sown:=i.Sown }:Fd):=(congrArg (fun z9_=>(l.set z9_ ({ There:=i.There,Gone:=i.Gone,Owner:=a.To,Value:=i.Value,Sown:=i.Sown }:Fd))[la]?) na).trans (List.getElem?_set_self (List.getElem?_eq_some_iff.1 u).1);have Ic:=(List.getElem?_eq_some_iff.1 Db).1;refine⟨Ab,Bb,?_⟩;obtain rfl:=oi hp;exact hq _ Cb.extX La.wn
 refine ifd hp (fun Eb hp=>?_) fun Eb hp=>?_
 ·refine⟨trivial,_,s.bk.rc rfl,trivial,_,q.bk.rc rfl,?_⟩;refine ifd hp (fun Fb hp=>?_) fun Fb hp=>?_
  ·obtain rfl:=oi hp;exact hq _ r.extX o.wn
  refine⟨trivial,_,q.bk.rc rfl,trivial,_,s.bk.rc rfl,trivial,_,q.bk.rc rfl,?_⟩;refine gdi hp fun Gb hp=>?_;obtain⟨e,w,hp⟩:=zrH hp;obtain⟨oa,G,pa,w⟩:=zrB w;refine⟨oa,G,(by first|exact pa|(rw[o.slLen];exact pa)),(o.isPt w _),?_⟩;obtain⟨Hb,Ib,Jb,da,t⟩:=o.setP r (a':=({ There:=e.There,Gone:=e.Gone,Owner:=e.Owner,Value:=(d.Value - a.Part),Sown:=e.Sown }:Fd)) w [.bool e.There,.bool e.Gone,Il e.Owner,Il e.Value,Il e.Sown] (fun _ h=>h) 3 [(Il (d.Value - a.Part))] (Nat.le_of_ble_eq_true rfl) rfl
  have qa:Int.toNat a.Parcel=oa:=by rw[G]; rfl
  rw[<- qa] at t;have Jc:=G;have Kb:(l.set (Int.toNat a.Parcel) ({ There:=e.There,Gone:=e.Gone,Owner:=e.Owner,Value:=(d.Value - a.Part),Sown:=e.Sown }:Fd))[oa]? = some ({ There:=e.There,Gone:=e.Gone,Owner:=e.Owner,Value:=(d.Value - a.Part),Sown:=e.Sown }:Fd):=(congrArg (fun z9_=>(l.set z9_ ({ There:=e.There,Gone:=e.Gone,Owner:=e.Owner,Value:=(d.Value - a.Part),Sown:=e.Sown }:Fd))[oa]?) qa).trans (List.getElem?_set_self (List.getElem?_eq_some_iff.1 w).1);have Kc:=(List.getElem?_eq_some_iff.1 Kb).1;have Mb:=vb.k da;have Nb:=q.k da;have Ob:=s.k da;refine⟨Hb,Ib,?_⟩;refine⟨trivial,_,Nb.bk.rc rfl,trivial,?_⟩;obtain⟨Pb,Qb,Ma,Na,I⟩:=Ob.sto1 Jb 3 (Il a.Part) (by simp) rfl
  replace I:Lb _ _ _ _ _ _ _ [.bool d.There,.bool d.Gone,Il d.Owner,Il a.Part,Il d.Sown]:=I
  have Rb:=Mb.k Na;have t:=t.k Na;refine⟨Pb,Qb,?_⟩;refine⟨_,_,_,_,Rb.bk.ra,?_⟩;obtain⟨Oa,Sb,hp⟩:=zrH hp;refine zvt (b:=b) (entry:=entry) Ma.pre ha102 ha103 Sb fun jd Tb=>?_;obtain⟨Ub,Pa⟩:=Ma.call Tb Ka;have Vb:=I.k Pa;have t:=t.k Pa;refine⟨_,rfl,_,_,_,_,_,Vb.bk.ra,(I.bk.ra),?_⟩;obtain⟨y,z,hp⟩:=zrH hp;obtain⟨sa,J,ta,z⟩:=zrB z;refine⟨sa,J,(by first|exact ta|(rw[t.slLen];exact ta)),?_⟩;obtain⟨Wb,Xb,Yb,cd,Qa⟩:=t.setP Ub (a':=({ There:=d.There,Gone:=d.Gone,Owner:=d.Owner,Value:=a.Part,Sown:=d.Sown }:Fd)) z [.bool y.There,.bool y.Gone,Il y.Owner,Il y.Value,Il y.Sown] (fun _ h=>h) 0 [.bool d.There,.bool d.Gone,Il d.Owner,Il a.Part,Il d.Sown] (Nat.le_of_ble_eq_true rfl) rfl
  have ua:Int.toNat Oa=sa:=by rw[J]; rfl
  rw[<- ua] at Qa;have Nc:=J;have Zb:((l.set (Int.toNat a.Parcel) ({ There:=e.There,Gone:=e.Gone,Owner:=e.Owner,Value:=(d.Value - a.Part),Sown:=e.Sown }:Fd)).set (Int.toNat Oa) ({ There:=d.There,Gone:=d.Gone,Owner:=d.Owner,Value:=a.Part,Sown:=d.Sown }:Fd))[sa]? = some ({ There:=d.There,Gone:=d.Gone,Owner:=d.Owner,Value:=a.Part,Sown:=d.Sown }:Fd):=(congrArg (fun z9_=>((l.set (Int.toNat a.Parcel) ({ There:=e.There,Gone:=e.Gone,Owner:=e.Owner,Value:=(d.Value - a.Part),Sown:=e.Sown }:Fd)).set z9_ ({ There:=d.There,Gone:=d.Gone,Owner:=d.Owner,Value:=a.Part,Sown:=d.Sown }:Fd))[sa]?) ua).trans (List.getElem?_set_self (List.getElem?_eq_some_iff.1 z).1);have Oc:=(List.getElem?_eq_some_iff.1 Zb).1;refine⟨Wb,(by have h9:=Xb; rw[t.add0 z] at h9; exact h9),?_⟩;obtain rfl:=oi hp;exact hq _ Yb.extX Qa.wn
 refine ifd hp (fun ac hp=>?_) fun ac hp=>?_; rotate_left
 ·refine ifd hp (fun bc hp=>?_) fun bc hp=>?_; rotate_left
  ·obtain rfl:=oi hp;exact hq _ r.extX o.wn
  refine⟨trivial,_,s.bk.rc rfl,?_⟩;refine ifd hp (fun cc hp=>?_) fun cc hp=>?_
  ·obtain rfl:=oi hp;exact hq _ r.extX o.wn
  refine⟨trivial,_,q.bk.rc rfl,?_⟩;obtain⟨j,A,hp⟩:=zrH hp;obtain⟨va,N,wa,A⟩:=zrB A;refine⟨va,N,(by first|exact wa|(rw[o.slLen];exact wa)),(o.isPt A _),?_⟩;obtain⟨dc,ec,fc,dd,Ra⟩:=o.setP r (a':=({ There:=j.There,Gone:=true,Owner:=j.Owner,Value:=j.Value,Sown:=j.Sown }:Fd)) A [.bool j.There,.bool j.Gone,Il j.Owner,Il j.Value,Il j.Sown] (fun _ h=>h) 1 [.bool true] (Nat.le_of_ble_eq_true rfl) rfl
  have xa:Int.toNat a.Parcel=va:=by rw[N]; rfl
  rw[<- xa] at Ra;have Qc:=N;have gc:(l.set (Int.toNat a.Parcel) ({ There:=j.There,Gone:=true,Owner:=j.Owner,Value:=j.Value,Sown:=j.Sown }:Fd))[va]? = some ({ There:=j.There,Gone:=true,Owner:=j.Owner,Value:=j.Value,Sown:=j.Sown }:Fd):=(congrArg (fun z9_=>(l.set z9_ ({ There:=j.There,Gone:=true,Owner:=j.Owner,Value:=j.Value,Sown:=j.Sown }:Fd))[va]?) xa).trans (List.getElem?_set_self (List.getElem?_eq_some_iff.1 A).1);have Rc:=(List.getElem?_eq_some_iff.1 gc).1;refine⟨dc,ec,?_⟩;obtain rfl:=oi hp;exact hq _ fc.extX Ra.wn
 refine⟨trivial,_,q.bk.rc rfl,?_⟩;obtain⟨p,ea,hp⟩:=zrH hp;obtain⟨Gc,Xa,ya,ea⟩:=zrB ea;have Ya:=(zvk (o.rdP ea));refine⟨Gc,Xa,(by first|exact ya|(rw[o.slLen];exact ya)),_,_,_,_,_,(Ya).1,?_⟩;intro kd hc;obtain⟨ed,ic,fa,jc⟩:=r.blk hc Ka 5;have kc:=q.k fa;have nc:=s.k fa;have o:=o.k fa;obtain⟨oc,pc,O,ga,P⟩:=jc.sto ic [.bool p.There,.bool p.Gone,Il p.Owner,Il p.Value,Il p.Sown];have ha:=kc.k ga;have ia:=nc.k ga;have o:=o.k ga;refine⟨oc,pc,?_⟩;refine⟨trivial,_,P.bk.rc rfl,?_⟩;refine zr8 hp (fun qc hp=>?_) fun qc hp=>?_
 ·obtain rfl:=oi hp;exact hq _ O.extX o.wn
 refine⟨trivial,_,P.bk.rc rfl,?_⟩;refine zr7 hp (fun sc hp=>?_) fun sc hp=>?_
 ·obtain rfl:=oi hp;exact hq _ O.extX o.wn
 refine⟨trivial,_,P.bk.rc rfl,trivial,_,ia.bk.rc rfl,?_⟩;refine ifd hp (fun tc hp=>?_) fun tc hp=>?_
 ·obtain rfl:=oi hp;exact hq _ O.extX o.wn
 refine⟨trivial,_,ha.bk.rc rfl,trivial,_,ha.bk.rc rfl,trivial,_,P.bk.rc rfl,trivial,_,ia.bk.rc rfl,?_⟩;obtain⟨g,B,hp⟩:=zrH hp;obtain⟨za,S,Aa,B⟩:=zrB B;refine⟨za,S,(by first|exact Aa|(rw[o.slLen];exact Aa)),(o.isPt B _),?_⟩;obtain⟨uc,vc,wc,Sa,T⟩:=o.setP O (a':=({ There:=g.There,Gone:=g.Gone,Owner:=p.Owner,Value:=g.Value,Sown:=g.Sown }:Fd)) B [.bool g.There,.bool g.Gone,Il g.Owner,Il g.Value,Il g.Sown] (fun _ h=>h) 2 [Il p.Owner] (Nat.le_of_ble_eq_true rfl) rfl
 have Ba:Int.toNat a.Parcel=za:=by rw[S]; rfl
 rw[<- Ba] at T;have Tc:=S;have xc:(l.set (Int.toNat a.Parcel) ({ There:=g.There,Gone:=g.Gone,Owner:=p.Owner,Value:=g.Value,Sown:=g.Sown }:Fd))[za]? = some ({ There:=g.There,Gone:=g.Gone,Owner:=p.Owner,Value:=g.Value,Sown:=g.Sown }:Fd):=(congrArg (fun z9_=>(l.set z9_ ({ There:=g.There,Gone:=g.Gone,Owner:=p.Owner,Value:=g.Value,Sown:=g.Sown }:Fd))[za]?) Ba).trans (List.getElem?_set_self (List.getElem?_eq_some_iff.1 B).1);have Uc:=(List.getElem?_eq_some_iff.1 xc).1;have yc:=ha.k Sa;have zc:=ia.k Sa;refine⟨uc,vc,?_⟩;refine⟨(zc.bk.rc rfl),(yc.bk.rc rfl),?_⟩;obtain⟨n,D,hp⟩:=zrH hp;obtain⟨Ca,Y,Da,D⟩:=zrB D;refine⟨Ca,Y,(by first|exact Da|(rw[T.slLen];exact Da)),(T.isPt D _),?_⟩;obtain⟨Ac,Bc,Cc,fd,Ta⟩:=T.setP wc (a':=({ There:=n.There,Gone:=n.Gone,Owner:=d.Owner,Value:=n.Value,Sown:=n.Sown }:Fd)) D [.bool n.There,.bool n.Gone,Il n.Owner,Il n.Value,Il n.Sown] (fun _ h=>h) 2 [Il d.Owner] (Nat.le_of_ble_eq_true rfl) rfl
 have Ea:Int.toNat a.Other=Ca:=by rw[Y]; rfl
 rw[<- Ea] at Ta;have Vc:=Y;have Dc:((l.set (Int.toNat a.Parcel) ({ There:=g.There,Gone:=g.Gone,Owner:=p.Owner,Value:=g.Value,Sown:=g.Sown }:Fd)).set (Int.toNat a.Other) ({ There:=n.There,Gone:=n.Gone,Owner:=d.Owner,Value:=n.Value,Sown:=n.Sown }:Fd))[Ca]? = some ({ There:=n.There,Gone:=n.Gone,Owner:=d.Owner,Value:=n.Value,Sown:=n.Sown }:Fd):=(congrArg (fun z9_=>((l.set (Int.toNat a.Parcel) ({ There:=g.There,Gone:=g.Gone,Owner:=p.Owner,Value:=g.Value,Sown:=g.Sown }:Fd)).set z9_ ({ There:=n.There,Gone:=n.Gone,Owner:=d.Owner,Value:=n.Value,Sown:=n.Sown }:Fd))[Ca]?) Ea).trans (List.getElem?_set_self (List.getElem?_eq_some_iff.1 D).1);have Xc:=(List.getElem?_eq_some_iff.1 Dc).1;refine⟨Ac,Bc,?_⟩;obtain rfl:=oi hp;exact hq _ Cc.extX Ta.wn
theorem zvC{b:Boo}{t:Tr}{day:Int}{out_:Int}{ca102 ca103 ca200 ca201:C}{m f:M}{Q:V->M->Prop}{rz:List Fd × Bool}(hS:Pre f m)(ha102:Sl f ca102 b.Parcels)(ha103:Sl f ca103 b.Entries)(ha200:Sl f ca200 t.Days)(ha201:Sl f ca201 t.Sown)(hp:ztt b t day out_=some rz)(hq:∀m' f' c0,Grw m f m' f'->Sl f' c0 rz.1->Q (.tup [.c c0,.c (.bool rz.2)]) m'):Wc prog tbl 26 [.agg 4 [Il b.Last,Il b.Owners,ca102,ca103],.agg 2 [ca200,ca201],.c (Il day),.c (Il out_)] m Q:=by
 have S0:=hS.st;obtain⟨τ0,_⟩:=zsR;refine w26 ?_;unfold ztt at hp;intro m0 oa;obtain⟨pa,qa,zb,sa⟩:=S0.blk oa τ0 1;intro m1 ta;obtain⟨ua,Z,va,aa⟩:=qa.blk ta pa 2;have ba:=sa.k va;refine⟨_,_,_,_,ba.bk.ra,_,_,aa.bk.ra,?_⟩;obtain⟨Ab,wa,hp⟩:=zrH hp;refine zvA (b:=b) (t:=t) Z.pre ha102 ha103 ha200 ha201 wa fun m9 ca da xa ya=>?_;obtain⟨za,Aa,p,a⟩:=Z.callO xa ya ua 3;have e:=ba.k p;have g:=aa.k p;refine⟨_,rfl,?_⟩;intro wb tb
 have hgo:∀(q:Nat) (ea:C) (fa:Bool) (S:C) (F:Int) (w:List Fd) (r:List Fd) (y:List Fd) (B:M) (d:M) (n:Nat->Nat),St (Fm.of m) f d B->Sub ca d->Lb (Fm.of m) d n B 1 m.nxt 4 [Il b.Last,Il b.Owners,ca102,ca103]->Lb (Fm.of m) d n B 2 m0.nxt 2 [ca200,ca201]->Sl d ea w->Sl d S r->Ow (Fm.of m) d n B 3 da y->zts b t day out_ q w fa r F y=some rz->wb [.c ea,.c (.bool fa),.c S,.c (Il F)] B:=by
  intro q
  induction q with
  | zero=>intro ea fa S F w r y B d n G j e g ga I a hp; cases hp
  | succ q ha=>
   intro ea fa S F w r y B d n G j e g ga I a hp;refine tb _ _ _ _ _ ?_;rw[zts] at hp;refine⟨trivial,_,e.bk.rc rfl,?_⟩;refine ifd hp (fun Ba hp=>?_) fun Ba hp=>?_; rotate_left
   ·obtain rfl:=oi hp;exact hq _ d S G.grw I
   intro xb ub
   have hgo:∀(z:Nat) (ia:C) (ja:Bool) (T:Int) (A:List Fd) (s:List Fd) (D:M) (h:Nat->Nat),St (Fm.of m) f d D->Lb (Fm.of m) d h D 1 m.nxt 4 [Il b.Last,Il b.Owners,ca102,ca103]->Lb (Fm.of m) d h D 2 m0.nxt 2 [ca200,ca201]->Sl d ia A->Ow (Fm.of m) d h D 3 da s->ztr b t day out_ r F (zts b t day out_ q) z A ja T s=some rz->xb [.c ia,.c (.bool ja),.c (Il T)] D:=by
    intro z
    induction z with
    | zero=>intro ia ja T A s D h i e g o a hp; cases hp
    | succ z J=>
     intro ia ja T A s D h i e g o a hp;refine ub _ _ _ _ ?_;rw[ztr] at hp;refine⟨trivial,_,e.bk.rc rfl,ha103.isSl,?_⟩
     try rw[ha103.slLen]
     refine ifd hp (fun Ca hp=>?_) fun Ca hp=>?_; rotate_left
     ·refine ifd hp (fun Da hp=>?_) fun Da hp=>?_; rotate_left
      ·refine gdi hp fun Ea hp=>?_;exact ha _ _ _ _ _ _ _ _ d h i j e g o I a hp
      intro Gb Fa;obtain⟨Bb,Ga,N,Ha⟩:=Ow.lit0 (α:=Fd) i h 4 Fa;have Ia:=e.k N;have Ja:=g.k N;have a:=a.k N;obtain⟨Ka,hp⟩:=zrI hp;obtain⟨La,Ma,Na,Oa,Pa,O,Qa⟩:=Ha.appO zvo Ga a Ka;have Ra:=Ia.k O;have Sa:=Ja.k O;have a:=a.k O;refine⟨La,Ma,Oa,?_⟩;refine gdi hp fun Ta hp=>?_;obtain⟨Ua,Va,u,Wa⟩:=Qa.freeze Pa;have Xa:=Ra.k u;have Ya:=Sa.k u;have a:=a.k u;exact ha _ _ _ _ _ _ _ _ Ua Na Va (Sub.trans j u.fs) Xa Ya (o.sub u.fs) Wa a hp
     refine⟨trivial,_,g.bk.rc rfl,?_⟩;obtain⟨Cb,P,hp⟩:=zrH hp;obtain⟨yb,ma,Y,P⟩:=zrB P;refine⟨yb,ma,(by first|exact Y|(rw[ha200.slLen];exact Y)),_,(ha200.rdI P (Sub.trans (Sub.trans p.fs j) i.sub)),?_⟩;refine ifd hp (fun Za hp=>?_) fun Za hp=>?_; rotate_left
     ·refine gdi hp fun ab hp=>?_;exact J _ _ _ _ _ _ h i e g o a hp
     refine gdi hp fun bb hp=>?_;refine gdi hp fun cb hp=>?_;refine gdi hp fun db hp=>?_;refine gdi hp fun eb hp=>?_;refine gdi hp fun fb hp=>?_;refine gdi hp fun gb hp=>?_;refine gdi hp fun hb hp=>?_;refine ifd hp (fun ib hp=>?_) fun ib hp=>?_; rotate_left
     ·refine gdi hp fun jb hp=>?_;exact J _ _ _ _ _ _ h i e g o a hp
     refine⟨_,_,_,_,e.bk.ra,?_⟩;obtain⟨Db,kb,hp⟩:=zrH hp;refine zvB (b:=b) (l:=s) (entry:=T) (day:=F) i.pre (ha102.sub (Sub.trans p.fs j)) (ha103.sub (Sub.trans p.fs j)) (a.wg i) kb fun Hb mb na=>?_;obtain⟨ka,la,ob⟩:=a.callX i mb na;have pb:=e.k la;have qb:=g.k la;refine⟨_,rfl,?_⟩;refine zr8 hp (fun rb hp=>?_) fun rb hp=>?_
     ·obtain rfl:=oi hp;exact hq _ d .sl0 ka.grw (Sl.nil _)
     refine gdi hp fun sb hp=>?_;exact J _ _ _ _ _ _ h ka pb qb o ob hp
   exact hgo _ _ _ _ _ _ _ n G e g ga a hp
 exact hgo _ _ _ _ _ _ _ _ _ ca za Aa (Sub.refl _) e g (Sl.nil _) (Sl.nil _) a hp
theorem zvD{x:Fd}{day:Int}{m f:M}{Q:V->M->Prop}{rz:Bool}(hS:Pre f m)(hp:ztu x day=some rz)(hq:∀m',Ext m m'->Q (.c (.bool rz)) m'):Wc prog tbl 29 [.agg 5 [.bool x.There,.bool x.Gone,Il x.Owner,Il x.Value,Il x.Sown],.c (Il day)] m Q:=by
 have l:=hS.st;obtain⟨n,_⟩:=zsR;refine w29 ?_;unfold ztu at hp;intro o e;obtain⟨i,a,j,d⟩:=l.blk e n 1;refine⟨trivial,_,d.bk.rc rfl,?_⟩;refine zr7 hp (fun g hp=>?_) fun g hp=>?_; rotate_left
 ·obtain rfl:=oi hp;exact hq _ a.ext'
 refine⟨trivial,_,d.bk.rc rfl,?_⟩;refine zr8 hp (fun h hp=>?_) fun h hp=>?_; rotate_left
 ·obtain rfl:=oi hp;exact hq _ a.ext'
 refine⟨trivial,_,d.bk.rc rfl,?_⟩;obtain rfl:=oi hp;exact hq _ a.ext'
theorem zvE{r:Rg}{m f:M}{Q:V->M->Prop}{rz:Rg}(hS:Pre f m)(hp:ztv r=some rz)(hq:∀m',Ext m m'->Q (.agg 2 [Il rz.Lo,Il rz.Hi]) m'):Wc prog tbl 39 [.agg 2 [Il r.Lo,Il r.Hi]] m Q:=by
 have w:=hS.st;obtain⟨y,_⟩:=zsR;refine w39 ?_;unfold ztv at hp;intro z c;obtain⟨d,e,s,g⟩:=w.blk c y 1;intro A h;obtain⟨t,i,j,l⟩:=e.blk h d 2;have a:=g.k j;refine⟨trivial,_,a.bk.rc rfl,trivial,_,a.bk.rc rfl,?_⟩;obtain⟨n,o,p,u,q⟩:=l.sto i [Il r.Lo,Il r.Hi];refine⟨n,o,?_⟩;refine⟨_,_,q.bk.ra,?_⟩;obtain rfl:=oi hp;exact hq _ p.ext'
theorem zvF{l:List Int}{ca100:C}{m f:M}{Q:V->M->Prop}{rz:List Int}(hS:Pre f m)(ha100:Sl f ca100 l)(hp:ztw l=some rz)(hq:∀m' f' c0,Grw m f m' f'->Sl f' c0 rz->Q (.c c0) m'):Wc prog tbl 56 [.c ca100] m Q:=by
 have z:=hS.st;obtain⟨A,_⟩:=zsR;refine w56 ?_;unfold ztw at hp;intro B d;obtain⟨s,e,t,g⟩:=Ow.lit0 (α:=Int) z A 1 d;obtain⟨h,hp⟩:=zrI hp;obtain⟨a,i,u,j,n,w,o⟩:=g.appL zvl e ha100 h;refine⟨a,i,j,?_⟩;obtain⟨p,q,y,r⟩:=o.freeze n;obtain rfl:=oi hp;exact hq _ p a q.grw r
theorem zvG{b:Boo}{ca102 ca103:C}{m f:M}{Q:V->M->Prop}{rz:Boo}(hS:Pre f m)(ha102:Sl f ca102 b.Parcels)(ha103:Sl f ca103 b.Entries)(hp:ztz b=some rz)(hq:∀m' f' c2 c3,Grw m f m' f'->Sl f' c2 rz.Parcels->Sl f' c3 rz.Entries->Q (.agg 4 [Il rz.Last,Il rz.Owners,c2,c3]) m'):Wc prog tbl 20 [.agg 4 [Il b.Last,Il b.Owners,ca102,ca103]] m Q:=by
 have S0:=hS.st;obtain⟨τ0,_⟩:=zsR;refine w20 ?_;unfold ztz at hp;intro m0 Ma;obtain⟨Na,Oa,Vc,Pa⟩:=S0.blk Ma τ0 1;intro m1 Qa;obtain⟨Ra,Sa,Ta,Ua⟩:=Oa.blk Qa Na 2;have ia:=Pa.k Ta;refine⟨trivial,_,ia.bk.rc rfl,trivial,_,ia.bk.rc rfl,?_⟩;intro m4 Va;obtain⟨Wa,Xa,xa,Ya⟩:=Sa.blk Va Ra 3;have Za:=ia.k xa;have ab:=Ua.k xa;obtain⟨bb,cb,db,ya,l⟩:=Ya.sto Xa [Il b.Last,Il b.Owners,.sl0,.sl0];have i:=Za.k ya;have n:=ab.k ya;refine⟨bb,cb,?_⟩;intro R6 Qc
 have hgo:∀(T:Nat) (x7:Int) (o:C) (F:C) (G:Int) (I:Int) (u:List Pc) (Y:List En) (m8:M) (p:Nat->Nat),St (Fm.of m) f f m8->Lb (Fm.of m) f p m8 1 m.nxt 4 [Il b.Last,Il b.Owners,ca102,ca103]->Lb (Fm.of m) f p m8 2 m0.nxt 4 [Il 0,Il 0,.sl0,.sl0]->Lb (Fm.of m) f p m8 3 m1.nxt 4 [Il G,Il I,o,F]->Ow (Fm.of m) f p m8 4 o u->Ow (Fm.of m) f p m8 5 F Y->zty b T G I u Y x7=some rz->R6 [.c (Il x7)] m8:=by
  intro T
  induction T with
  | zero=>intro x7 o F G I u Y m8 p Z i n l d h hp; cases hp
  | succ T Jc=>
   intro x7 o F G I u Y m8 p Z i n l d h hp;refine Qc _ _ ?_;rw[zty] at hp;refine⟨trivial,_,i.bk.rc rfl,ha102.isSl,?_⟩
   try rw[ha102.slLen]
   refine ifd hp (fun fb hp=>?_) fun fb hp=>?_
   ·refine⟨trivial,_,i.bk.rc rfl,?_⟩;obtain⟨q,ka,hp⟩:=zrH hp;obtain⟨Rc,Ka,va,ka⟩:=zrB ka;obtain⟨_,gb⟩:=zsV ha102 ka;refine⟨Rc,Ka,(by first|exact va|(rw[ha102.slLen];exact va)),_,_,_,_,(gb _ Z.sub).1,?_⟩;intro bd hb;obtain⟨ib,jb,J,kb⟩:=Z.blk hb p 6;have mb:=i.k J;have ob:=n.k J;have pb:=l.k J;have d:=d.k J;have h:=h.k J;obtain⟨qb,rb,za,N,aa⟩:=kb.sto jb [Il q.Owner,Il q.Value,Il q.Sown.Lo,Il q.Sown.Hi];have sb:=mb.k N;have tb:=ob.k N;have Aa:=pb.k N;have d:=d.k N;have h:=h.k N;refine⟨qb,rb,?_⟩;refine⟨trivial,_,Aa.bk.rc rfl,trivial,_,aa.bk.rc rfl,trivial,_,aa.bk.rc rfl,trivial,_,_,aa.bk.rp (k:=2) (j:=2) rfl (by omega),?_⟩;obtain⟨Ba,ub,hp⟩:=zrH hp;refine zvE (r:=q.Sown) za.pre  ub fun cd vb=>?_;obtain⟨wb,w⟩:=za.call vb ib;have xb:=sb.k w;have yb:=tb.k w;have la:=Aa.k w;have Ca:=aa.k w;have d:=d.k w;have h:=h.k w;refine⟨_,_,rfl,(Ca.bk.rc rfl),(Ca.bk.rc rfl),(by rw[show cmC _=true from zqf (d.noFn)]; exact(la.bk.rc rfl)),?_⟩;obtain⟨zb,hp⟩:=zrI hp;intro dd Da;refine⟨(by rw[show cmC _=true from zqf (d.noFn)]; exact(la.bk.ext (Bk.new Da).2).rc rfl),?_⟩;obtain⟨ma,Ab,Bb,Cb,Db,ba,na⟩:=d.app' zvm wb (a:=({ Owner:=q.Owner,Value:=q.Value,Sown:=Ba }:Pc)) (show Rp.rep (α:=Pc) f _ ({ Owner:=q.Owner,Value:=q.Value,Sown:=Ba }:Pc) from rfl) zb Da;have Eb:=xb.k ba;have Fb:=yb.k ba;have Gb:=la.k ba;have h:=h.k ba;refine⟨ma,Ab,Cb,?_⟩;refine⟨trivial,?_⟩;obtain⟨Hb,Ib,Jb,ca,oa⟩:=Gb.sto1 Db 2 ma (by simp) rfl
    replace oa:Lb _ _ _ _ _ _ _ [Il G,Il I,ma,F]:=oa
    have Kb:=Eb.k ca;have Mb:=Fb.k ca;have h:=h.k ca;have na:=na.k ca;refine⟨Hb,Ib,?_⟩;refine gdi hp fun Nb hp=>?_;exact Jc _ _ _ _ _ _ _ _ Bb Jb Kb Mb oa na h hp
   intro Tc Kc
   have hgo:∀(da:Nat) (Ea:Int) (y:C) (z:Int) (A:Int) (ea:List En) (O:M) (s:Nat->Nat),St (Fm.of m) f f O->Lb (Fm.of m) f s O 1 m.nxt 4 [Il b.Last,Il b.Owners,ca102,ca103]->Lb (Fm.of m) f s O 2 m0.nxt 4 [Il 0,Il 0,.sl0,.sl0]->Lb (Fm.of m) f s O 3 m1.nxt 4 [Il z,Il A,o,y]->Ow (Fm.of m) f s O 5 y ea->Ow (Fm.of m) f s O 4 o u->ztx b u da z A ea Ea=some rz->Tc [.c (Il Ea)] O:=by
    intro da
    induction da with
    | zero=>intro Ea y z A ea O s fa i n l g d hp; cases hp
    | succ da Ob=>
     intro Ea y z A ea O s fa i n l g d hp;refine Kc _ _ ?_;rw[ztx] at hp;refine⟨trivial,_,i.bk.rc rfl,ha103.isSl,?_⟩
     try rw[ha103.slLen]
     refine ifd hp (fun Pb hp=>?_) fun Pb hp=>?_; rotate_left
     ·refine⟨_,_,_,_,l.bk.ra,?_⟩;obtain⟨Qb,Rb,Sb,Fa,Tb⟩:=n.sto fa [Il z,Il A,o,y];have d:=d.k Fa;have g:=g.k Fa;refine⟨Qb,Rb,?_⟩;refine⟨_,_,_,_,Tb.bk.ra,?_⟩;obtain⟨Xc,Ub,Vb,Wb⟩:=d.freeze Sb;have g:=g.k Vb;obtain⟨Xb,Yb,Zb,ac⟩:=g.freeze Ub;obtain rfl:=oi hp;exact hq _ Xb o y Yb.grw (Wb.sub Zb.fs) ac
     refine⟨trivial,_,i.bk.rc rfl,?_⟩;obtain⟨e,pa,hp⟩:=zrH hp;obtain⟨Uc,La,wa,pa⟩:=zrB pa;obtain⟨_,bc⟩:=zsX ha103 pa;refine⟨Uc,La,(by first|exact wa|(rw[ha103.slLen];exact wa)),_,_,_,_,_,_,_,_,(bc _ fa.sub).1,?_⟩;intro ed cc;obtain⟨dc,ec,P,fc⟩:=fa.blk cc s 7;have gc:=i.k P;have hc:=n.k P;have ic:=l.k P;have d:=d.k P;have g:=g.k P;obtain⟨jc,kc,Ga,S,t⟩:=fc.sto ec [Il e.Kind,Il e.Parcel,Il e.Other,Il e.From,Il e.To,Il e.Part,Il e.Day.Lo,Il e.Day.Hi];have nc:=gc.k S;have oc:=hc.k S;have Ha:=ic.k S;have d:=d.k S;have g:=g.k S;refine⟨jc,kc,?_⟩;refine⟨trivial,_,Ha.bk.rc rfl,trivial,_,t.bk.rc rfl,trivial,_,t.bk.rc rfl,trivial,_,t.bk.rc rfl,trivial,_,t.bk.rc rfl,trivial,_,t.bk.rc rfl,trivial,_,t.bk.rc rfl,trivial,_,_,t.bk.rp (k:=6) (j:=2) rfl (by omega),?_⟩;obtain⟨Ia,pc,hp⟩:=zrH hp;refine zvE (r:=e.Day) Ga.pre  pc fun fd qc=>?_;obtain⟨sc,B⟩:=Ga.call qc dc;have tc:=nc.k B;have uc:=oc.k B;have qa:=Ha.k B;have D:=t.k B;have d:=d.k B;have g:=g.k B;refine⟨_,_,rfl,(D.bk.rc rfl),(D.bk.rc rfl),(D.bk.rc rfl),(D.bk.rc rfl),(D.bk.rc rfl),(D.bk.rc rfl),(by rw[show cmC _=true from zqf (g.noFn)]; exact(qa.bk.rc rfl)),?_⟩;obtain⟨vc,hp⟩:=zrI hp;intro hd Ja;refine⟨(by rw[show cmC _=true from zqf (g.noFn)]; exact(qa.bk.ext (Bk.new Ja).2).rc rfl),?_⟩;obtain⟨sa,wc,xc,yc,zc,ga,ta⟩:=g.app' zvn sc (a:=({ Kind:=e.Kind,Parcel:=e.Parcel,Other:=e.Other,From:=e.From,To:=e.To,Part:=e.Part,Day:=Ia }:En)) (show Rp.rep (α:=En) f _ ({ Kind:=e.Kind,Parcel:=e.Parcel,Other:=e.Other,From:=e.From,To:=e.To,Part:=e.Part,Day:=Ia }:En) from rfl) vc Ja
     have Ac:=tc.k ga;have Bc:=uc.k ga;have Cc:=qa.k ga;have d:=d.k ga;refine⟨sa,wc,yc,?_⟩;refine⟨trivial,?_⟩;obtain⟨Dc,Ec,Fc,ha,ua⟩:=Cc.sto1 zc 3 sa (by simp) rfl
     replace ua:Lb _ _ _ _ _ _ _ [Il z,Il A,o,sa]:=ua
     have Gc:=Ac.k ha;have Hc:=Bc.k ha;have d:=d.k ha;have ta:=ta.k ha;refine⟨Dc,Ec,?_⟩;refine gdi hp fun Ic hp=>?_;exact Ob _ _ _ _ _ _ xc Fc Gc Hc ua ta d hp
   exact hgo _ _ _ _ _ _ _ p Z i n l h d hp
 exact hgo _ _ _ _ _ _ _ _ _ Wa db i n l (Ow.nil _ _ _ _ _) (Ow.nil _ _ _ _ _) hp
theorem zvH{t:Tr}{ca100 ca101:C}{m f:M}{Q:V->M->Prop}{rz:Tr}(hS:Pre f m)(ha100:Sl f ca100 t.Days)(ha101:Sl f ca101 t.Sown)(hp:ztA t=some rz)(hq:∀m' f' c0 c1,Grw m f m' f'->Sl f' c0 rz.Days->Sl f' c1 rz.Sown->Q (.agg 2 [c0,c1]) m'):Wc prog tbl 21 [.agg 2 [ca100,ca101]] m Q:=by
 have S0:=hS.st;obtain⟨τ0,_⟩:=zsR;refine w21 ?_;unfold ztA at hp;intro m0 n;obtain⟨o,p,Y,q⟩:=S0.blk n τ0 1;intro m1 r;obtain⟨d,e,s,u⟩:=p.blk r o 2;have a:=q.k s;refine⟨trivial,_,a.bk.rc rfl,?_⟩;obtain⟨Z,w,hp⟩:=zrH hp;refine zvF (l:=t.Days) e.pre ha100 w fun m4 aa g y z=>?_;obtain⟨h,c⟩:=e.callG y d;have A:=a.k c;have B:=u.k c;refine⟨_,rfl,trivial,_,A.bk.rc rfl,(by rw[show cmC _=true from zqf (ha101.noFn)]; exact(a.bk.rc rfl)),?_⟩;obtain⟨ba,D,hp⟩:=zrH hp;refine zvF (l:=t.Sown) h.pre (ha101.sub c.fs) D fun m8 F i G I=>?_;obtain⟨J,j⟩:=h.callG G d;have N:=B.k j;refine⟨_,rfl,?_⟩;obtain⟨O,P,S,ca,T⟩:=N.sto J [g,i];refine⟨O,P,?_⟩;refine⟨_,_,T.bk.ra,?_⟩;obtain rfl:=oi hp;exact hq _ F g i S.grw (z.sub j.fs) I
theorem zvI{b:Boo}{ca102 ca103:C}{m f:M}{Q:V->M->Prop}{rz:Bool}(hS:Pre f m)(ha102:Sl f ca102 b.Parcels)(ha103:Sl f ca103 b.Entries)(hp:ztB b=some rz)(hq:∀m',Ext m m'->Q (.c (.bool rz)) m'):Wc prog tbl 17 [.agg 4 [Il b.Last,Il b.Owners,ca102,ca103]] m Q:=by
 have j:=hS.st;obtain⟨l,_⟩:=zsR;refine w17 ?_;unfold ztB at hp;intro n e;obtain⟨h,a,i,d⟩:=j.blk e l 1;refine⟨trivial,_,d.bk.rc rfl,ha102.isSl,?_⟩
 try rw[ha102.slLen]
 refine ifd hp (fun g hp=>?_) fun g hp=>?_; rotate_left
 ·obtain rfl:=oi hp;exact hq _ a.ext'
 refine⟨trivial,_,d.bk.rc rfl,ha103.isSl,?_⟩
 try rw[ha103.slLen]
 obtain rfl:=oi hp;exact hq _ a.ext'
theorem zvJ{n:Int}{low:Int}{high:Int}{m f:M}{Q:V->M->Prop}{rz:Bool}(hS:Pre f m)(hp:ztC n low high=some rz)(hq:∀m',Ext m m'->Q (.c (.bool rz)) m'):Wc prog tbl 95 [.c (Il n),.c (Il low),.c (Il high)] m Q:=by
 have d:=hS.st;obtain⟨e,_⟩:=zsR;refine w95 ?_;unfold ztC at hp;refine ifd hp (fun a hp=>?_) fun a hp=>?_
 ·obtain rfl:=oi hp;exact hq _ d.ext'
 obtain rfl:=oi hp;exact hq _ d.ext'
theorem zvK{w:Wk}{n:Int}{ca102 ca103:C}{m f:M}{Q:V->M->Prop}{rz:Bool}(hS:Pre f m)(_ha102:Sl f ca102 w.b.Parcels)(_ha103:Sl f ca103 w.b.Entries)(hp:ztD w n=some rz)(hq:∀m',Ext m m'->Q (.c (.bool rz)) m'):Wc prog tbl 106 [.agg 17 [Il w.b.Last,Il w.b.Owners,ca102,ca103,Il w.numbers,Il w.makes.m0,Il w.makes.m1,Il w.makes.m2,Il w.makes.m3,Il w.makes.m4,Il w.makes.m5,.bool w.out.o0,.bool w.out.o1,.bool w.out.o2,.bool w.out.o3,.bool w.out.o4,.bool w.out.o5],.c (Il n)] m Q:=by
 have r:=hS.st;obtain⟨s,_⟩:=zsR;refine zuY ?_;unfold ztD at hp;intro m0 d;obtain⟨e,a,o,g⟩:=r.blk d s 1;refine⟨trivial,_,g.bk.rc rfl,?_⟩;refine gdi hp fun h hp=>?_;obtain⟨p,i,hp⟩:=zrH hp;refine zvJ (n:=n) (low:=(0:Int)) (high:=(w.numbers - (1:Int))) a.pre  i fun m3 j=>?_;obtain⟨l,q⟩:=a.call j e;refine⟨_,rfl,?_⟩;obtain rfl:=oi hp;exact hq _ l.ext'
theorem zvL{w:Wk}{n:Int}{ca102 ca103:C}{m f:M}{Q:V->M->Prop}{rz:Bool}(hS:Pre f m)(_ha102:Sl f ca102 w.b.Parcels)(_ha103:Sl f ca103 w.b.Entries)(hp:ztE w n=some rz)(hq:∀m',Ext m m'->Q (.c (.bool rz)) m'):Wc prog tbl 85 [.agg 17 [Il w.b.Last,Il w.b.Owners,ca102,ca103,Il w.numbers,Il w.makes.m0,Il w.makes.m1,Il w.makes.m2,Il w.makes.m3,Il w.makes.m4,Il w.makes.m5,.bool w.out.o0,.bool w.out.o1,.bool w.out.o2,.bool w.out.o3,.bool w.out.o4,.bool w.out.o5],.c (Il n)] m Q:=by
 have r:=hS.st;obtain⟨s,_⟩:=zsR;refine w85 ?_;unfold ztE at hp;intro m0 d;obtain⟨e,a,o,g⟩:=r.blk d s 1;refine⟨trivial,trivial,_,g.bk.rc rfl,?_⟩;refine gdi hp fun h hp=>?_;obtain⟨p,i,hp⟩:=zrH hp;refine zvJ (n:=n) (low:=(0:Int)) (high:=(w.b.Owners - (1:Int))) a.pre  i fun m3 j=>?_;obtain⟨l,q⟩:=a.call j e;refine⟨_,rfl,?_⟩;obtain rfl:=oi hp;exact hq _ l.ext'
theorem zvM{w:Wk}{n:Int}{ca102 ca103:C}{m f:M}{Q:V->M->Prop}{rz:Bool}(hS:Pre f m)(_ha102:Sl f ca102 w.b.Parcels)(_ha103:Sl f ca103 w.b.Entries)(hp:ztF w n=some rz)(hq:∀m',Ext m m'->Q (.c (.bool rz)) m'):Wc prog tbl 63 [.agg 17 [Il w.b.Last,Il w.b.Owners,ca102,ca103,Il w.numbers,Il w.makes.m0,Il w.makes.m1,Il w.makes.m2,Il w.makes.m3,Il w.makes.m4,Il w.makes.m5,.bool w.out.o0,.bool w.out.o1,.bool w.out.o2,.bool w.out.o3,.bool w.out.o4,.bool w.out.o5],.c (Il n)] m Q:=by
 have q:=hS.st;obtain⟨r,_⟩:=zsR;refine w63 ?_;unfold ztF at hp;intro m0 d;obtain⟨e,a,l,g⟩:=q.blk d r 1;refine⟨trivial,trivial,_,g.bk.rc rfl,?_⟩;obtain⟨o,h,hp⟩:=zrH hp;refine zvJ (n:=n) (low:=(0:Int)) (high:=w.b.Last) a.pre  h fun m3 i=>?_;obtain⟨j,p⟩:=a.call i e;refine⟨_,rfl,?_⟩;obtain rfl:=oi hp;exact hq _ j.ext'
theorem zvN{w:Wk}{r:Rg}{ca102 ca103:C}{m f:M}{Q:V->M->Prop}{rz:Bool}(hS:Pre f m)(ha102:Sl f ca102 w.b.Parcels)(ha103:Sl f ca103 w.b.Entries)(hp:ztG w r=some rz)(hq:∀m',Ext m m'->Q (.c (.bool rz)) m'):Wc prog tbl 127 [.agg 17 [Il w.b.Last,Il w.b.Owners,ca102,ca103,Il w.numbers,Il w.makes.m0,Il w.makes.m1,Il w.makes.m2,Il w.makes.m3,Il w.makes.m4,Il w.makes.m5,.bool w.out.o0,.bool w.out.o1,.bool w.out.o2,.bool w.out.o3,.bool w.out.o4,.bool w.out.o5],.agg 2 [Il r.Lo,Il r.Hi]] m Q:=by
 have P:=hS.st;obtain⟨S,_⟩:=zsR;refine zuZ ?_;unfold ztG at hp;intro m0 j;obtain⟨l,o,I,p⟩:=P.blk j S 1;intro m1 q;obtain⟨g,d,s,a⟩:=o.blk q l 2;have h:=p.k s;refine⟨trivial,_,a.bk.rc rfl,trivial,_,a.bk.rc rfl,?_⟩;refine ifd hp (fun t hp=>?_) fun t hp=>?_; rotate_left
 ·obtain rfl:=oi hp;exact hq _ d.ext'
 refine⟨_,_,_,_,_,_,_,_,_,_,_,_,_,_,_,_,_,h.bk.ra,trivial,_,a.bk.rc rfl,?_⟩;obtain⟨J,u,hp⟩:=zrH hp;refine zvM (w:=w) (n:=r.Lo) d.pre ha102 ha103 u fun T y=>?_;obtain⟨e,i⟩:=d.call y g;have z:=h.k i;have A:=a.k i;refine⟨_,rfl,?_⟩;refine zr7 hp (fun B hp=>?_) fun B hp=>?_; rotate_left
 ·obtain rfl:=oi hp;exact hq _ e.ext'
 refine⟨_,_,_,_,_,_,_,_,_,_,_,_,_,_,_,_,_,z.bk.ra,trivial,_,A.bk.rc rfl,?_⟩;obtain⟨N,D,hp⟩:=zrH hp;refine zvM (w:=w) (n:=r.Hi) e.pre ha102 ha103 D fun Y F=>?_;obtain⟨G,O⟩:=e.call F g;refine⟨_,rfl,?_⟩;obtain rfl:=oi hp;exact hq _ G.ext'
theorem zvO{w:Wk}{e:En}{ca102 ca103:C}{m f:M}{Q:V->M->Prop}{rz:Bool}(hS:Pre f m)(ha102:Sl f ca102 w.b.Parcels)(ha103:Sl f ca103 w.b.Entries)(hp:ztH w e=some rz)(hq:∀m',Ext m m'->Q (.c (.bool rz)) m'):Wc prog tbl 104 [.agg 17 [Il w.b.Last,Il w.b.Owners,ca102,ca103,Il w.numbers,Il w.makes.m0,Il w.makes.m1,Il w.makes.m2,Il w.makes.m3,Il w.makes.m4,Il w.makes.m5,.bool w.out.o0,.bool w.out.o1,.bool w.out.o2,.bool w.out.o3,.bool w.out.o4,.bool w.out.o5],.agg 8 [Il e.Kind,Il e.Parcel,Il e.Other,Il e.From,Il e.To,Il e.Part,Il e.Day.Lo,Il e.Day.Hi]] m Q:=by
 have S0:=hS.st;obtain⟨τ0,_⟩:=zsR;refine zu7 ?_;unfold ztH at hp;intro m0 qa;obtain⟨sa,ta,Qc,ua⟩:=S0.blk qa τ0 1;intro m1 va;obtain⟨l,F,wa,G⟩:=ta.blk va sa 2;have I:=ua.k wa;refine⟨_,_,_,_,_,_,_,_,_,_,_,_,_,_,_,_,_,I.bk.ra,trivial,_,G.bk.rc rfl,?_⟩;obtain⟨Rc,xa,hp⟩:=zrH hp;refine zvK (w:=w) (n:=e.Parcel) F.pre ha102 ha103 xa fun dd ya=>?_;obtain⟨o,J⟩:=F.call ya l;have N:=I.k J;have O:=G.k J;refine⟨_,rfl,?_⟩;refine zr8 hp (fun za hp=>?_) fun za hp=>?_
 ·obtain rfl:=oi hp;exact hq _ o.ext'
 refine⟨_,_,_,_,_,_,_,_,_,_,_,_,_,_,_,_,_,N.bk.ra,trivial,_,_,O.bk.rp (k:=6) (j:=2) rfl (by omega),?_⟩;obtain⟨Tc,Aa,hp⟩:=zrH hp;refine zvN (w:=w) (r:=e.Day) o.pre ha102 ha103 Aa fun ed Ba=>?_;obtain⟨P,S⟩:=o.call Ba l;have Ca:=N.k S;have g:=O.k S;refine⟨_,rfl,?_⟩;refine zr8 hp (fun Da hp=>?_) fun Da hp=>?_
 ·obtain rfl:=oi hp;exact hq _ P.ext'
 refine⟨trivial,_,g.bk.rc rfl,trivial,_,g.bk.rc rfl,trivial,_,_,g.bk.rp (k:=6) (j:=2) rfl (by omega),?_⟩;intro fd Ea;obtain⟨h,Fa,T,Ga⟩:=P.blk Ea l 3;have Ha:=Ca.k T;have Ia:=g.k T;obtain⟨Ja,Ka,d,Y,i⟩:=Ga.sto Fa [Il e.Kind,Il e.Parcel,Il 0,Il 0,Il 0,Il 0,Il e.Day.Lo,Il e.Day.Hi];have Z:=Ha.k Y;have a:=Ia.k Y;refine⟨Ja,Ka,?_⟩;refine⟨trivial,_,a.bk.rc rfl,?_⟩;refine ifd hp (fun La hp=>?_) fun La hp=>?_
 ·refine⟨trivial,_,a.bk.rc rfl,trivial,_,a.bk.rc rfl,trivial,?_⟩;obtain⟨Ma,Na,Oa,aa,p⟩:=i.sto1 d 3 (Il e.From) (by simp) rfl
  replace p:Lb _ _ _ _ _ _ _ [Il e.Kind,Il e.Parcel,Il 0,Il e.From,Il 0,Il 0,Il e.Day.Lo,Il e.Day.Hi]:=p
  have Pa:=Z.k aa;have ba:=a.k aa;refine⟨Ma,Na,?_⟩;refine⟨(ba.bk.rc rfl),trivial,?_⟩;obtain⟨Qa,Ra,ca,da,q⟩:=p.sto1 Oa 4 (Il e.To) (by simp) rfl
  replace q:Lb _ _ _ _ _ _ _ [Il e.Kind,Il e.Parcel,Il 0,Il e.From,Il e.To,Il 0,Il e.Day.Lo,Il e.Day.Hi]:=q
  have ea:=Pa.k da;have fa:=ba.k da;refine⟨Qa,Ra,?_⟩;refine⟨_,_,_,_,_,_,_,_,_,_,_,_,_,_,_,_,_,ea.bk.ra,trivial,_,fa.bk.rc rfl,?_⟩;obtain⟨Uc,Sa,hp⟩:=zrH hp;refine zvL (w:=w) (n:=e.From) ca.pre ha102 ha103 Sa fun hd Ta=>?_;obtain⟨s,t⟩:=ca.call Ta h;have Ua:=ea.k t;have ga:=fa.k t;have Va:=q.k t;refine⟨_,rfl,?_⟩;refine zr7 hp (fun Wa hp=>?_) fun Wa hp=>?_; rotate_left
  ·obtain rfl:=oi hp;exact hq _ s.ext'
  refine⟨_,_,_,_,_,_,_,_,_,_,_,_,_,_,_,_,_,Ua.bk.ra,trivial,_,ga.bk.rc rfl,?_⟩;obtain⟨Vc,Xa,hp⟩:=zrH hp;refine zvL (w:=w) (n:=e.To) s.pre ha102 ha103 Xa fun id Ya=>?_;obtain⟨u,ha⟩:=s.call Ya h;have y:=ga.k ha;have Za:=Va.k ha;refine⟨_,rfl,?_⟩;refine zr7 hp (fun ab hp=>?_) fun ab hp=>?_; rotate_left
  ·obtain rfl:=oi hp;exact hq _ u.ext'
  refine⟨trivial,_,y.bk.rc rfl,trivial,_,y.bk.rc rfl,?_⟩;refine zr6 hp (fun bb hp=>?_) fun bb hp=>?_; rotate_left
  ·obtain rfl:=oi hp;exact hq _ u.ext'
  refine⟨_,_,_,_,_,_,_,_,y.bk.ra,_,_,_,_,_,_,_,_,Za.bk.ra,?_⟩;refine gdi hp fun cb hp=>?_;refine gdi hp fun db hp=>?_;refine gdi hp fun eb hp=>?_;refine gdi hp fun fb hp=>?_;refine gdi hp fun gb hp=>?_;refine gdi hp fun hb hp=>?_;refine gdi hp fun ib hp=>?_;refine gdi hp fun jb hp=>?_;refine gdi hp fun kb hp=>?_;refine gdi hp fun mb hp=>?_;refine gdi hp fun ob hp=>?_;refine gdi hp fun pb hp=>?_;refine gdi hp fun qb hp=>?_;refine gdi hp fun rb hp=>?_;refine gdi hp fun sb hp=>?_;refine gdi hp fun tb hp=>?_;obtain rfl:=oi hp;exact hq _ u.ext'
 refine ifd hp (fun ub hp=>?_) fun ub hp=>?_
 ·refine⟨trivial,_,a.bk.rc rfl,trivial,?_⟩;obtain⟨vb,wb,ia,xb,z⟩:=i.sto1 d 5 (Il e.Part) (by simp) rfl
  replace z:Lb _ _ _ _ _ _ _ [Il e.Kind,Il e.Parcel,Il 0,Il 0,Il 0,Il e.Part,Il e.Day.Lo,Il e.Day.Hi]:=z
  have ja:=a.k xb;refine⟨vb,wb,?_⟩;refine⟨trivial,_,ja.bk.rc rfl,?_⟩;obtain⟨Xc,yb,hp⟩:=zrH hp;refine zvJ (n:=e.Part) (low:=(1:Int)) (high:=(1000:Int)) ia.pre  yb fun bd zb=>?_;obtain⟨ka,la⟩:=ia.call zb h;have Ab:=ja.k la;have Bb:=z.k la;refine⟨_,rfl,?_⟩;refine zr7 hp (fun Cb hp=>?_) fun Cb hp=>?_; rotate_left
  ·obtain rfl:=oi hp;exact hq _ ka.ext'
  refine⟨_,_,_,_,_,_,_,_,Ab.bk.ra,_,_,_,_,_,_,_,_,Bb.bk.ra,?_⟩;refine gdi hp fun Db hp=>?_;refine gdi hp fun Eb hp=>?_;refine gdi hp fun Fb hp=>?_;refine gdi hp fun Gb hp=>?_;refine gdi hp fun Hb hp=>?_;refine gdi hp fun Ib hp=>?_;refine gdi hp fun Jb hp=>?_;refine gdi hp fun Kb hp=>?_;refine gdi hp fun Mb hp=>?_;refine gdi hp fun Nb hp=>?_;refine gdi hp fun Ob hp=>?_;refine gdi hp fun Pb hp=>?_;refine gdi hp fun Qb hp=>?_;refine gdi hp fun Rb hp=>?_;refine gdi hp fun Sb hp=>?_;refine gdi hp fun Tb hp=>?_;obtain rfl:=oi hp;exact hq _ ka.ext'
 refine ifd hp (fun Ub hp=>?_) fun Ub hp=>?_; rotate_left
 ·refine ifd hp (fun Vb hp=>?_) fun Vb hp=>?_; rotate_left
  ·obtain rfl:=oi hp;exact hq _ d.ext'
  refine⟨_,_,_,_,_,_,_,_,a.bk.ra,_,_,_,_,_,_,_,_,i.bk.ra,?_⟩;refine gdi hp fun Wb hp=>?_;refine gdi hp fun Xb hp=>?_;refine gdi hp fun Yb hp=>?_;refine gdi hp fun Zb hp=>?_;refine gdi hp fun ac hp=>?_;refine gdi hp fun bc hp=>?_;refine gdi hp fun cc hp=>?_;refine gdi hp fun dc hp=>?_;refine gdi hp fun ec hp=>?_;refine gdi hp fun fc hp=>?_;refine gdi hp fun gc hp=>?_;refine gdi hp fun hc hp=>?_;refine gdi hp fun ic hp=>?_;refine gdi hp fun jc hp=>?_;refine gdi hp fun kc hp=>?_;refine gdi hp fun nc hp=>?_;obtain rfl:=oi hp;exact hq _ d.ext'
 refine⟨trivial,_,a.bk.rc rfl,trivial,?_⟩;obtain⟨oc,pc,ma,na,A⟩:=i.sto1 d 2 (Il e.Other) (by simp) rfl
 replace A:Lb _ _ _ _ _ _ _ [Il e.Kind,Il e.Parcel,Il e.Other,Il 0,Il 0,Il 0,Il e.Day.Lo,Il e.Day.Hi]:=A
 have qc:=Z.k na;have oa:=a.k na;refine⟨oc,pc,?_⟩;refine⟨_,_,_,_,_,_,_,_,_,_,_,_,_,_,_,_,_,qc.bk.ra,trivial,_,oa.bk.rc rfl,?_⟩;obtain⟨Yc,sc,hp⟩:=zrH hp;refine zvK (w:=w) (n:=e.Other) ma.pre ha102 ha103 sc fun cd tc=>?_;obtain⟨B,pa⟩:=ma.call tc h;have D:=oa.k pa;have uc:=A.k pa;refine⟨_,rfl,?_⟩;refine zr7 hp (fun vc hp=>?_) fun vc hp=>?_; rotate_left
 ·obtain rfl:=oi hp;exact hq _ B.ext'
 refine⟨trivial,_,D.bk.rc rfl,trivial,_,D.bk.rc rfl,?_⟩;refine zr6 hp (fun wc hp=>?_) fun wc hp=>?_; rotate_left
 ·obtain rfl:=oi hp;exact hq _ B.ext'
 refine⟨_,_,_,_,_,_,_,_,D.bk.ra,_,_,_,_,_,_,_,_,uc.bk.ra,?_⟩;refine gdi hp fun xc hp=>?_;refine gdi hp fun yc hp=>?_;refine gdi hp fun zc hp=>?_;refine gdi hp fun Ac hp=>?_;refine gdi hp fun Bc hp=>?_;refine gdi hp fun Cc hp=>?_;refine gdi hp fun Dc hp=>?_;refine gdi hp fun Ec hp=>?_;refine gdi hp fun Fc hp=>?_;refine gdi hp fun Gc hp=>?_;refine gdi hp fun Hc hp=>?_;refine gdi hp fun Ic hp=>?_;refine gdi hp fun Jc hp=>?_;refine gdi hp fun Kc hp=>?_;refine gdi hp fun Nc hp=>?_;refine gdi hp fun Oc hp=>?_;obtain rfl:=oi hp;exact hq _ B.ext'
theorem zvP{w:Wk}{p:Pc}{ca102 ca103:C}{m f:M}{Q:V->M->Prop}{rz:Bool}(hS:Pre f m)(ha102:Sl f ca102 w.b.Parcels)(ha103:Sl f ca103 w.b.Entries)(hp:ztI w p=some rz)(hq:∀m',Ext m m'->Q (.c (.bool rz)) m'):Wc prog tbl 102 [.agg 17 [Il w.b.Last,Il w.b.Owners,ca102,ca103,Il w.numbers,Il w.makes.m0,Il w.makes.m1,Il w.makes.m2,Il w.makes.m3,Il w.makes.m4,Il w.makes.m5,.bool w.out.o0,.bool w.out.o1,.bool w.out.o2,.bool w.out.o3,.bool w.out.o4,.bool w.out.o5],.agg 4 [Il p.Owner,Il p.Value,Il p.Sown.Lo,Il p.Sown.Hi]] m Q:=by
 have S0:=hS.st;obtain⟨τ0,_⟩:=zsR;refine zuX ?_;unfold ztI at hp;intro m0 s;obtain⟨t,u,Z,y⟩:=S0.blk s τ0 1;intro m1 z;obtain⟨a,g,A,h⟩:=u.blk z t 2;have i:=y.k A;refine⟨_,_,_,_,_,_,_,_,_,_,_,_,_,_,_,_,_,i.bk.ra,trivial,_,h.bk.rc rfl,?_⟩;obtain⟨aa,B,hp⟩:=zrH hp;refine zvL (w:=w) (n:=p.Owner) g.pre ha102 ha103 B fun ga D=>?_;obtain⟨d,l⟩:=g.call D a;have F:=i.k l;have o:=h.k l;refine⟨_,rfl,?_⟩;refine zr7 hp (fun G hp=>?_) fun G hp=>?_; rotate_left
 ·obtain rfl:=oi hp;exact hq _ d.ext'
 refine⟨trivial,_,o.bk.rc rfl,?_⟩;obtain⟨ba,I,hp⟩:=zrH hp;refine zvJ (n:=p.Value) (low:=(0:Int)) (high:=(1000:Int)) d.pre  I fun ha J=>?_;obtain⟨e,q⟩:=d.call J a;have N:=F.k q;have O:=o.k q;refine⟨_,rfl,?_⟩;refine zr7 hp (fun P hp=>?_) fun P hp=>?_; rotate_left
 ·obtain rfl:=oi hp;exact hq _ e.ext'
 refine⟨_,_,_,_,_,_,_,_,_,_,_,_,_,_,_,_,_,N.bk.ra,trivial,_,_,O.bk.rp (k:=2) (j:=2) rfl (by omega),?_⟩;obtain⟨ca,S,hp⟩:=zrH hp;refine zvN (w:=w) (r:=p.Sown) e.pre ha102 ha103 S fun ia T=>?_;obtain⟨Y,da⟩:=e.call T a;refine⟨_,rfl,?_⟩;obtain rfl:=oi hp;exact hq _ Y.ext'
theorem zvQ{x:Pc}{passes:Pc->Option (Bool)}{bq0:Nat}{cb000:C}{m f:M}{Q:V->M->Prop}{rz:Bool}(hS:Pre f m)(hb0:Bk f bq0 1 [cb000])(hb000:zvg f cb000 passes)(hp:ztJ x passes=some rz)(hq:∀m',Ext m m'->Q (.c (.bool rz)) m'):Wc prog tbl 126 [.agg 4 [Il x.Owner,Il x.Value,Il x.Sown.Lo,Il x.Sown.Hi],.c (.ptr bq0 0)] m Q:=by
 have p:=hS.st;obtain⟨q,_⟩:=zsR;refine zuQ ?_;unfold ztJ at hp;intro r d;obtain⟨e,a,l,g⟩:=p.blk d q 1;refine⟨_,(hb0.sub a.sub).rc rfl,_,_,_,_,g.bk.ra,?_⟩;obtain⟨n,h,hp⟩:=zrH hp;refine hb000 _ _ _ _ _ (Sub.refl _) a.pre  h fun s i=>?_;obtain⟨j,o⟩:=a.call i e;refine⟨_,rfl,?_⟩;obtain rfl:=oi hp;exact hq _ j.ext'
theorem zvR{l:List Pc}{p:Pc->Option (Bool)}{ca100 ca200:C}{m f:M}{Q:V->M->Prop}{rz:Int}(hS:Pre f m)(ha100:Sl f ca100 l)(ha200:zvg f ca200 p)(hp:ztL l p=some rz)(hq:∀m',Ext m m'->Q (.c (Il rz)) m'):Wc prog tbl 147 [.c ca100,.c ca200] m Q:=by
 have G:=hS.st;obtain⟨I,_⟩:=zsR;refine zu0 ?_;unfold ztL at hp;refine⟨ha100.isSl,?_⟩;intro J A
 have hgo:∀(d:Nat) (y:Int) (n:Int) (o:M) (e:Nat->Nat),St (Fm.of m) f f o->ztK l p d n=some rz->J [.c (Il y),.c (Il n)] o:=by
  intro d
  induction d with
  | zero=>intro y n o e a hp; cases hp
  | succ d z=>
   intro y n o e a hp;refine A _ _ _ ?_;rw[ztK] at hp
   try rw[ha100.slLen]
   refine ifd hp (fun q hp=>?_) fun q hp=>?_; rotate_left
   ·obtain rfl:=oi hp;exact hq _ a.ext'
   obtain⟨B,g,hp⟩:=zrH hp;obtain⟨N,j,h,g⟩:=zrB g;obtain⟨_,r⟩:=zsV ha100 g;refine⟨N,j,(by first|exact h|(rw[ha100.slLen];exact h)),_,_,_,_,(r _ a.sub).1,?_⟩;obtain⟨D,s,hp⟩:=zrH hp;refine ha200 _ _ _ _ _ (Sub.refl _) a.pre  s fun O t=>?_;obtain⟨i,F⟩:=a.call t e;refine⟨_,rfl,?_⟩;refine zr7 hp (fun u hp=>?_) fun u hp=>?_
   ·obtain rfl:=oi hp;exact hq _ i.ext'
   refine gdi hp fun w hp=>?_;exact z _ _ _ e i hp
 exact hgo _ _ _ _ I G hp
theorem zvS{l:List Pc}{p:Pc->Option (Bool)}{ca100 ca200:C}{m f:M}{Q:V->M->Prop}{rz:Bool}(hS:Pre f m)(ha100:Sl f ca100 l)(ha200:zvg f ca200 p)(hp:ztM l p=some rz)(hq:∀m',Ext m m'->Q (.c (.bool rz)) m'):Wc prog tbl 125 [.c ca100,.c ca200] m Q:=by
 have g:=hS.st;obtain⟨j,_⟩:=zsR;refine zvd ?_;unfold ztM at hp;obtain⟨h,a,hp⟩:=zrH hp;refine zvR (l:=l) (p:=p) g.pre ha100 ha200 a fun n d=>?_;obtain⟨e,i⟩:=g.call d j;refine⟨_,rfl,?_⟩;obtain rfl:=oi hp;exact hq _ e.ext'
theorem zvT{l:List Pc}{passes:Pc->Option (Bool)}{ca100 ca200:C}{m f:M}{Q:V->M->Prop}{rz:Bool}(hS:Pre f m)(ha100:Sl f ca100 l)(ha200:zvg f ca200 passes)(hp:ztN l passes=some rz)(hq:∀m',Ext m m'->Q (.c (.bool rz)) m'):Wc prog tbl 101 [.c ca100,.c ca200] m Q:=by
 have A:=hS.st;obtain⟨B,_⟩:=zsR;refine zvb ?_;unfold ztN at hp;intro D i;obtain⟨j,n,w,o⟩:=A.blk i B 1;obtain⟨q,d,e,g⟩:=o.freeze n
 have h:zvg q ((C.fn (Fn.func 126) [] [(W.c (C0.ptr m.nxt 0))])) (fun a=>ztJ a passes):=by
  intro f' m' a r Q hs hpre  hg hq;exact zvQ hpre (g.sub hs) ((ha200.sub e.fs).sub hs) hg hq
 obtain⟨y,s,hp⟩:=zrH hp;refine zvS (l:=l) (p:=(fun a=>ztJ a passes)) d.pre (ha100.sub e.fs) h s fun F t=>?_;obtain⟨u,z⟩:=d.call t j;refine⟨_,rfl,?_⟩;obtain rfl:=oi hp;exact hq _ u.ext'
theorem zvU{x:En}{passes:En->Option (Bool)}{bq0:Nat}{cb000:C}{m f:M}{Q:V->M->Prop}{rz:Bool}(hS:Pre f m)(hb0:Bk f bq0 1 [cb000])(hb000:zvh f cb000 passes)(hp:ztO x passes=some rz)(hq:∀m',Ext m m'->Q (.c (.bool rz)) m'):Wc prog tbl 129 [.agg 8 [Il x.Kind,Il x.Parcel,Il x.Other,Il x.From,Il x.To,Il x.Part,Il x.Day.Lo,Il x.Day.Hi],.c (.ptr bq0 0)] m Q:=by
 have p:=hS.st;obtain⟨q,_⟩:=zsR;refine zuR ?_;unfold ztO at hp;intro s d;obtain⟨e,a,l,g⟩:=p.blk d q 1;refine⟨_,(hb0.sub a.sub).rc rfl,_,_,_,_,_,_,_,_,g.bk.ra,?_⟩;obtain⟨n,h,hp⟩:=zrH hp;refine hb000 _ _ _ _ _ (Sub.refl _) a.pre  h fun r i=>?_;obtain⟨j,o⟩:=a.call i e;refine⟨_,rfl,?_⟩;obtain rfl:=oi hp;exact hq _ j.ext'
theorem zvV{l:List En}{p:En->Option (Bool)}{ca100 ca200:C}{m f:M}{Q:V->M->Prop}{rz:Int}(hS:Pre f m)(ha100:Sl f ca100 l)(ha200:zvh f ca200 p)(hp:ztQ l p=some rz)(hq:∀m',Ext m m'->Q (.c (Il rz)) m'):Wc prog tbl 148 [.c ca100,.c ca200] m Q:=by
 have G:=hS.st;obtain⟨I,_⟩:=zsR;refine zu5 ?_;unfold ztQ at hp;refine⟨ha100.isSl,?_⟩;intro J A
 have hgo:∀(d:Nat) (y:Int) (n:Int) (o:M) (e:Nat->Nat),St (Fm.of m) f f o->ztP l p d n=some rz->J [.c (Il y),.c (Il n)] o:=by
  intro d
  induction d with
  | zero=>intro y n o e a hp; cases hp
  | succ d z=>
   intro y n o e a hp;refine A _ _ _ ?_;rw[ztP] at hp
   try rw[ha100.slLen]
   refine ifd hp (fun q hp=>?_) fun q hp=>?_; rotate_left
   ·obtain rfl:=oi hp;exact hq _ a.ext'
   obtain⟨B,g,hp⟩:=zrH hp;obtain⟨N,j,h,g⟩:=zrB g;obtain⟨_,r⟩:=zsX ha100 g;refine⟨N,j,(by first|exact h|(rw[ha100.slLen];exact h)),_,_,_,_,_,_,_,_,(r _ a.sub).1,?_⟩;obtain⟨D,s,hp⟩:=zrH hp;refine ha200 _ _ _ _ _ (Sub.refl _) a.pre  s fun O t=>?_;obtain⟨i,F⟩:=a.call t e;refine⟨_,rfl,?_⟩;refine zr7 hp (fun u hp=>?_) fun u hp=>?_
   ·obtain rfl:=oi hp;exact hq _ i.ext'
   refine gdi hp fun w hp=>?_;exact z _ _ _ e i hp
 exact hgo _ _ _ _ I G hp
theorem zvW{l:List En}{p:En->Option (Bool)}{ca100 ca200:C}{m f:M}{Q:V->M->Prop}{rz:Bool}(hS:Pre f m)(ha100:Sl f ca100 l)(ha200:zvh f ca200 p)(hp:ztR l p=some rz)(hq:∀m',Ext m m'->Q (.c (.bool rz)) m'):Wc prog tbl 128 [.c ca100,.c ca200] m Q:=by
 have g:=hS.st;obtain⟨j,_⟩:=zsR;refine zu4 ?_;unfold ztR at hp;obtain⟨h,a,hp⟩:=zrH hp;refine zvV (l:=l) (p:=p) g.pre ha100 ha200 a fun n d=>?_;obtain⟨e,i⟩:=g.call d j;refine⟨_,rfl,?_⟩;obtain rfl:=oi hp;exact hq _ e.ext'
theorem zvX{l:List En}{passes:En->Option (Bool)}{ca100 ca200:C}{m f:M}{Q:V->M->Prop}{rz:Bool}(hS:Pre f m)(ha100:Sl f ca100 l)(ha200:zvh f ca200 passes)(hp:ztS l passes=some rz)(hq:∀m',Ext m m'->Q (.c (.bool rz)) m'):Wc prog tbl 103 [.c ca100,.c ca200] m Q:=by
 have A:=hS.st;obtain⟨B,_⟩:=zsR;refine zu1 ?_;unfold ztS at hp;intro D i;obtain⟨j,n,w,o⟩:=A.blk i B 1;obtain⟨q,d,e,g⟩:=o.freeze n
 have h:zvh q ((C.fn (Fn.func 129) [] [(W.c (C0.ptr m.nxt 0))])) (fun a=>ztO a passes):=by
  intro f' m' a r Q hs hpre  hg hq;exact zvU hpre (g.sub hs) ((ha200.sub e.fs).sub hs) hg hq
 obtain⟨y,s,hp⟩:=zrH hp;refine zvW (l:=l) (p:=(fun a=>ztO a passes)) d.pre (ha100.sub e.fs) h s fun F t=>?_;obtain⟨u,z⟩:=d.call t j;refine⟨_,rfl,?_⟩;obtain rfl:=oi hp;exact hq _ u.ext'
theorem zvY{w:Wk}{ca102 ca103:C}{m f:M}{Q:V->M->Prop}{rz:Bool}(hS:Pre f m)(ha102:Sl f ca102 w.b.Parcels)(ha103:Sl f ca103 w.b.Entries)(hp:ztT w=some rz)(hq:∀m',Ext m m'->Q (.c (.bool rz)) m'):Wc prog tbl 69 [.agg 17 [Il w.b.Last,Il w.b.Owners,ca102,ca103,Il w.numbers,Il w.makes.m0,Il w.makes.m1,Il w.makes.m2,Il w.makes.m3,Il w.makes.m4,Il w.makes.m5,.bool w.out.o0,.bool w.out.o1,.bool w.out.o2,.bool w.out.o3,.bool w.out.o4,.bool w.out.o5]] m Q:=by
 have S0:=hS.st;obtain⟨τ0,_⟩:=zsR;refine w69 ?_;unfold ztT at hp;intro m0 t;obtain⟨h,j,ba,o⟩:=S0.blk t τ0 1;refine⟨trivial,trivial,_,o.bk.rc rfl,?_⟩;obtain⟨ca,u,hp⟩:=zrH hp;refine zvJ (n:=w.b.Last) (low:=(0:Int)) (high:=(30:Int)) j.pre  u fun m3 y=>?_;obtain⟨a,z⟩:=j.call y h;have d:=o.k z;refine⟨_,rfl,?_⟩;refine zr7 hp (fun A hp=>?_) fun A hp=>?_; rotate_left
 ·obtain rfl:=oi hp;exact hq _ a.ext'
 refine⟨trivial,trivial,_,d.bk.rc rfl,?_⟩;refine ifd hp (fun B hp=>?_) fun B hp=>?_; rotate_left
 ·obtain rfl:=oi hp;exact hq _ a.ext'
 refine⟨trivial,trivial,_,d.bk.rc rfl,_,_,_,_,_,_,_,_,_,_,_,_,_,_,_,_,_,d.bk.ra,?_⟩;obtain⟨P,T,Y⟩:∃ws,zaE vW [.agg 17 [Il w.b.Last,Il w.b.Owners,ca102,ca103,Il w.numbers,Il w.makes.m0,Il w.makes.m1,Il w.makes.m2,Il w.makes.m3,Il w.makes.m4,Il w.makes.m5,.bool w.out.o0,.bool w.out.o1,.bool w.out.o2,.bool w.out.o3,.bool w.out.o4,.bool w.out.o5]]=some ws/\zbZ wV ws=[.agg 17 [Il w.b.Last,Il w.b.Owners,ca102,ca103,Il w.numbers,Il w.makes.m0,Il w.makes.m1,Il w.makes.m2,Il w.makes.m3,Il w.makes.m4,Il w.makes.m5,.bool w.out.o0,.bool w.out.o1,.bool w.out.o2,.bool w.out.o3,.bool w.out.o4,.bool w.out.o5]]:=(zrR (zrP (zrL rfl (zrL rfl (zrL ha102.noFn (zrL ha103.noFn (zrL rfl (zrL rfl (zrL rfl (zrL rfl (zrL rfl (zrL rfl (zrL rfl (zrL rfl (zrL rfl (zrL rfl (zrL rfl (zrL rfl (zrL rfl zrM)))))))))))))))))) zrQ);rw[T,zd6]
 have q:zvg f ((C.fn (Fn.func 102) P [])) (fun e=>ztI w e):=by
  intro f' m' e r Q hs hpre  hg hq
  show Wc prog tbl 102 (appS (zbZ wV P) _) m' Q
  rw[Y];exact zvP hpre (ha102.sub hs) (ha103.sub hs) hg hq
 obtain⟨da,D,hp⟩:=zrH hp;refine zvT (l:=w.b.Parcels) (passes:=(fun e=>ztI w e)) a.pre ha102 q D fun ia F=>?_;obtain⟨i,G⟩:=a.call F h;have p:=d.k G;refine⟨_,rfl,?_⟩;refine zr7 hp (fun I hp=>?_) fun I hp=>?_; rotate_left
 ·obtain rfl:=oi hp;exact hq _ i.ext'
 refine⟨trivial,trivial,_,p.bk.rc rfl,_,_,_,_,_,_,_,_,_,_,_,_,_,_,_,_,_,p.bk.ra,?_⟩;obtain⟨S,Z,aa⟩:∃ws,zaE vW [.agg 17 [Il w.b.Last,Il w.b.Owners,ca102,ca103,Il w.numbers,Il w.makes.m0,Il w.makes.m1,Il w.makes.m2,Il w.makes.m3,Il w.makes.m4,Il w.makes.m5,.bool w.out.o0,.bool w.out.o1,.bool w.out.o2,.bool w.out.o3,.bool w.out.o4,.bool w.out.o5]]=some ws/\zbZ wV ws=[.agg 17 [Il w.b.Last,Il w.b.Owners,ca102,ca103,Il w.numbers,Il w.makes.m0,Il w.makes.m1,Il w.makes.m2,Il w.makes.m3,Il w.makes.m4,Il w.makes.m5,.bool w.out.o0,.bool w.out.o1,.bool w.out.o2,.bool w.out.o3,.bool w.out.o4,.bool w.out.o5]]:=(zrR (zrP (zrL rfl (zrL rfl (zrL ha102.noFn (zrL ha103.noFn (zrL rfl (zrL rfl (zrL rfl (zrL rfl (zrL rfl (zrL rfl (zrL rfl (zrL rfl (zrL rfl (zrL rfl (zrL rfl (zrL rfl (zrL rfl zrM)))))))))))))))))) zrQ);rw[Z,zd6]
 have s:zvh f ((C.fn (Fn.func 104) S [])) (fun g=>ztH w g):=by
  intro f' m' g r Q hs hpre  hg hq
  show Wc prog tbl 104 (appS (zbZ wV S) _) m' Q
  rw[aa];exact zvO hpre (ha102.sub hs) (ha103.sub hs) hg hq
 obtain⟨ea,J,hp⟩:=zrH hp;refine zvX (l:=w.b.Entries) (passes:=(fun g=>ztH w g)) i.pre ha103 s J fun ja N=>?_;obtain⟨O,fa⟩:=i.call N h;refine⟨_,rfl,?_⟩;obtain rfl:=oi hp;exact hq _ O.ext'
theorem zvZ{b:Boo}{ca102 ca103:C}{m f:M}{Q:V->M->Prop}{rz:Bool}(hS:Pre f m)(ha102:Sl f ca102 b.Parcels)(ha103:Sl f ca103 b.Entries)(hp:ztU b=some rz)(hq:∀m',Ext m m'->Q (.c (.bool rz)) m'):Wc prog tbl 68 [.agg 4 [Il b.Last,Il b.Owners,ca102,ca103]] m Q:=by
 have l:=hS.st;obtain⟨n,_⟩:=zsR;refine w68 ?_;unfold ztU at hp;intro o e;obtain⟨i,a,j,d⟩:=l.blk e n 1;refine⟨trivial,_,d.bk.rc rfl,?_⟩;refine ifd hp (fun g hp=>?_) fun g hp=>?_
 ·obtain rfl:=oi hp;exact hq _ a.ext'
 refine⟨trivial,_,d.bk.rc rfl,ha102.isSl,?_⟩
 try rw[ha102.slLen]
 refine ifd hp (fun h hp=>?_) fun h hp=>?_
 ·obtain rfl:=oi hp;exact hq _ a.ext'
 refine⟨trivial,_,d.bk.rc rfl,ha103.isSl,?_⟩
 try rw[ha103.slLen]
 obtain rfl:=oi hp;exact hq _ a.ext'
theorem zv0{b:Boo}{ca102 ca103:C}{m f:M}{Q:V->M->Prop}{rz:Wk}(hS:Pre f m)(ha102:Sl f ca102 b.Parcels)(ha103:Sl f ca103 b.Entries)(hp:ztW b=some rz)(hq:∀m' f' c2 c3,Grw m f m' f'->Sl f' c2 rz.b.Parcels->Sl f' c3 rz.b.Entries->Q (.agg 17 [Il rz.b.Last,Il rz.b.Owners,c2,c3,Il rz.numbers,Il rz.makes.m0,Il rz.makes.m1,Il rz.makes.m2,Il rz.makes.m3,Il rz.makes.m4,Il rz.makes.m5,.bool rz.out.o0,.bool rz.out.o1,.bool rz.out.o2,.bool rz.out.o3,.bool rz.out.o4,.bool rz.out.o5]) m'):Wc prog tbl 61 [.agg 4 [Il b.Last,Il b.Owners,ca102,ca103]] m Q:=by
 have S0:=hS.st;obtain⟨τ0,_⟩:=zsR;refine w61 ?_;unfold ztW at hp;intro m0 ma;obtain⟨na,oa,pb,pa⟩:=S0.blk ma τ0 1;intro m1 qa;obtain⟨sa,ta,ua,va⟩:=oa.blk qa na 2;have N:=pa.k ua;refine⟨_,_,_,_,N.bk.ra,trivial,_,N.bk.rc rfl,ha102.isSl,?_⟩;intro m7 wa;obtain⟨xa,ya,ca,za⟩:=ta.blk wa sa 3;have Aa:=N.k ca;have Ba:=va.k ca
 try rw[ha102.slLen]
 obtain⟨Ca,Da,Ea,da,A⟩:=za.sto ya [Il b.Last,Il b.Owners,ca102,ca103,(Il (b.Parcels.length:Int)),Il 0,Il 0,Il 0,Il 0,Il 0,Il 0,.bool false,.bool false,.bool false,.bool false,.bool false,.bool false];have B:=Aa.k da;have D:=Ba.k da;refine⟨Ca,Da,?_⟩;refine⟨trivial,_,B.bk.rc rfl,ha103.isSl,?_⟩;intro kb jb
 have hgo:∀(F:Nat) (d:Int) (e:Int) (g:Int) (a:Int) (h:Int) (i:Int) (j:Int) (n:Int) (o:Int) (p:Int) (q:Bool) (r:Bool) (s:Bool) (t:Bool) (u:Bool) (w:Bool) (J:M) (z:Nat->Nat),St (Fm.of m) f f J->Lb (Fm.of m) f z J 1 m.nxt 4 [Il b.Last,Il b.Owners,ca102,ca103]->Lb (Fm.of m) f z J 2 m0.nxt 17 [Il 0,Il 0,.sl0,.sl0,Il 0,Il 0,Il 0,Il 0,Il 0,Il 0,Il 0,.bool false,.bool false,.bool false,.bool false,.bool false,.bool false]->Lb (Fm.of m) f z J 3 m1.nxt 17 [Il e,Il g,ca102,ca103,Il a,Il h,Il i,Il j,Il n,Il o,Il p,.bool q,.bool r,.bool s,.bool t,.bool u,.bool w]->ztV b F e g a h i j n o p q r s t u w d=some rz->kb [.c (Il d)] J:=by
  intro F
  induction F with
  | zero=>intro d e g a h i j n o p q r s t u w J z G B D A hp; cases hp
  | succ F ea=>
   intro d e g a h i j n o p q r s t u w J z G B D A hp;refine jb _ _ ?_;rw[ztV] at hp
   try rw[ha103.slLen]
   refine ifd hp (fun Fa hp=>?_) fun Fa hp=>?_; rotate_left
   ·refine⟨_,_,_,_,_,_,_,_,_,_,_,_,_,_,_,_,_,A.bk.ra,?_⟩;obtain⟨Ga,Ha,Ia,qb,Ja⟩:=D.sto G [Il e,Il g,ca102,ca103,Il a,Il h,Il i,Il j,Il n,Il o,Il p,.bool q,.bool r,.bool s,.bool t,.bool u,.bool w];refine⟨Ga,Ha,?_⟩;refine⟨_,_,_,_,_,_,_,_,_,_,_,_,_,_,_,_,_,Ja.bk.ra,?_⟩;obtain rfl:=oi hp;exact hq _ f ca102 ca103 Ia.grw ha102 ha103
   obtain⟨y,O,hp⟩:=zrH hp;obtain⟨mb,la,Z,O⟩:=zrB O;obtain⟨_,Ka⟩:=zsX ha103 O;refine⟨mb,la,(by first|exact Z|(rw[ha103.slLen];exact Z)),_,_,_,_,_,_,_,_,(Ka _ G.sub).1,?_⟩;intro tb La;obtain⟨fa,Ma,P,Na⟩:=G.blk La z 4;have Oa:=B.k P;have Pa:=D.k P;have Qa:=A.k P;obtain⟨Ra,Sa,ga,S,Ta⟩:=Na.sto Ma [Il y.Kind,Il y.Parcel,Il y.Other,Il y.From,Il y.To,Il y.Part,Il y.Day.Lo,Il y.Day.Hi];have ha:=Oa.k S;have ia:=Pa.k S;have T:=Qa.k S;refine⟨Ra,Sa,?_⟩;refine⟨trivial,_,Ta.bk.rc rfl,?_⟩;refine ifd hp (fun Ua hp=>?_) fun Ua hp=>?_; rotate_left
   ·refine gdi hp fun Va hp=>?_;exact ea _ _ _ _ _ _ _ _ _ _ _ _ _ _ _ _ _ fa ga ha ia T hp
   refine⟨trivial,_,T.bk.rc rfl,trivial,trivial,?_⟩;obtain⟨Wa,hp⟩:=zrI hp;obtain⟨ob,aa,ba⟩:=zr3 Wa;refine⟨ob,aa,ba,?_⟩;obtain⟨Xa,Ya,Za,ja,I⟩:=T.sta ga (pre:=[Il e,Il g,ca102,ca103,Il a]) (post:=[.bool q,.bool r,.bool s,.bool t,.bool u,.bool w]) (l:=([h,i,j,n,o,p]:List Int)) (enc:=(C.int .i64)) rfl rfl aa ba a
   replace I:Lb _ _ _ _ _ _ _ [Il e,Il g,ca102,ca103,Il a,(Il (sti d 0 a h)),(Il (sti d 1 a i)),(Il (sti d 2 a j)),(Il (sti d 3 a n)),(Il (sti d 4 a o)),(Il (sti d 5 a p)),.bool q,.bool r,.bool s,.bool t,.bool u,.bool w]:=I
   have ab:=ha.k ja;have bb:=ia.k ja;refine⟨Xa,Ya,?_⟩;refine⟨trivial,_,I.bk.rc rfl,?_⟩;obtain⟨cb,hp⟩:=zrI hp;refine⟨cb,trivial,?_⟩;obtain⟨db,eb,fb,ka,Y⟩:=I.sto1 Za 4 (Il (a+1)) (by simp) rfl
   replace Y:Lb _ _ _ _ _ _ _ [Il e,Il g,ca102,ca103,(Il (a+1)),(Il (sti d 0 a h)),(Il (sti d 1 a i)),(Il (sti d 2 a j)),(Il (sti d 3 a n)),(Il (sti d 4 a o)),(Il (sti d 5 a p)),.bool q,.bool r,.bool s,.bool t,.bool u,.bool w]:=Y
   have gb:=ab.k ka;have hb:=bb.k ka;refine⟨db,eb,?_⟩;refine gdi hp fun ib hp=>?_;exact ea _ _ _ _ _ _ _ _ _ _ _ _ _ _ _ _ _ fa fb gb hb Y hp
 exact hgo _ _ _ _ _ _ _ _ _ _ _ _ _ _ _ _ _ _ xa Ea B D A hp
theorem zv1{w:Wk}{ca102 ca103:C}{m f:M}{Q:V->M->Prop}{rz:List Rg}(hS:Pre f m)(ha102:Sl f ca102 w.b.Parcels)(ha103:Sl f ca103 w.b.Entries)(hp:ztZ w=some rz)(hq:∀m' f' c0,Grw m f m' f'->Sl f' c0 rz->Q (.c c0) m'):Wc prog tbl 71 [.agg 17 [Il w.b.Last,Il w.b.Owners,ca102,ca103,Il w.numbers,Il w.makes.m0,Il w.makes.m1,Il w.makes.m2,Il w.makes.m3,Il w.makes.m4,Il w.makes.m5,.bool w.out.o0,.bool w.out.o1,.bool w.out.o2,.bool w.out.o3,.bool w.out.o4,.bool w.out.o5]] m Q:=by
 have S0:=hS.st;obtain⟨τ0,_⟩:=zsR;refine w71 ?_;unfold ztZ at hp;intro m0 ga;obtain⟨ha,ia,Cb,e⟩:=S0.blk ga τ0 1;refine⟨trivial,trivial,_,e.bk.rc rfl,ha103.isSl,?_⟩;intro R2 yb
 have hgo:∀(p:Nat) (c3:C) (x4:Int) (q:List Rg) (m5:M) (i:Nat->Nat),St (Fm.of m) f f m5->Lb (Fm.of m) f i m5 1 m.nxt 17 [Il w.b.Last,Il w.b.Owners,ca102,ca103,Il w.numbers,Il w.makes.m0,Il w.makes.m1,Il w.makes.m2,Il w.makes.m3,Il w.makes.m4,Il w.makes.m5,.bool w.out.o0,.bool w.out.o1,.bool w.out.o2,.bool w.out.o3,.bool w.out.o4,.bool w.out.o5]->Ow (Fm.of m) f i m5 2 c3 q->ztY w p q x4=some rz->R2 [.c c3,.c (Il x4)] m5:=by
  intro p
  induction p with
  | zero=>intro c3 x4 q m5 i r e g hp; cases hp
  | succ p ba=>
   intro c3 x4 q m5 i r e g hp;refine yb _ _ _ ?_;rw[ztY] at hp
   try rw[ha103.slLen]
   refine ifd hp (fun la hp=>?_) fun la hp=>?_; rotate_left
   ·refine⟨trivial,trivial,_,e.bk.rc rfl,ha102.isSl,?_⟩;intro zb xb
    have hgo:∀(s:Nat) (I:C) (O:Int) (t:List Rg) (y:M) (o:Nat->Nat),St (Fm.of m) f f y->Lb (Fm.of m) f o y 1 m.nxt 17 [Il w.b.Last,Il w.b.Owners,ca102,ca103,Il w.numbers,Il w.makes.m0,Il w.makes.m1,Il w.makes.m2,Il w.makes.m3,Il w.makes.m4,Il w.makes.m5,.bool w.out.o0,.bool w.out.o1,.bool w.out.o2,.bool w.out.o3,.bool w.out.o4,.bool w.out.o5]->Ow (Fm.of m) f o y 2 I t->ztX w s t O=some rz->zb [.c I,.c (Il O)] y:=by
     intro s
     induction s with
     | zero=>intro I O t y o u e h hp; cases hp
     | succ s ma=>
      intro I O t y o u e h hp;refine xb _ _ _ ?_;rw[ztX] at hp
      try rw[ha102.slLen]
      refine ifd hp (fun na hp=>?_) fun na hp=>?_; rotate_left
      ·obtain⟨oa,pa,Db,qa⟩:=h.freeze u;obtain rfl:=oi hp;exact hq _ oa I pa.grw qa
      obtain⟨n,z,hp⟩:=zrH hp;obtain⟨Ab,ca,J,z⟩:=zrB z;obtain⟨_,sa⟩:=zsV ha102 z;refine⟨Ab,ca,(by first|exact J|(rw[ha102.slLen];exact J)),_,_,_,_,(sa _ u.sub).1,?_⟩;intro Mb ta;obtain⟨Eb,ua,P,va⟩:=u.blk ta o 4;have wa:=e.k P;have h:=h.k P;obtain⟨xa,ya,za,S,Aa⟩:=va.sto ua [Il n.Owner,Il n.Value,Il n.Sown.Lo,Il n.Sown.Hi];have Ba:=wa.k S;have h:=h.k S;refine⟨xa,ya,?_⟩;refine⟨trivial,_,_,Aa.bk.rp (k:=2) (j:=2) rfl (by omega),?_⟩;obtain⟨Ca,hp⟩:=zrI hp;intro Nb Da;obtain⟨Ea,Fa,Ga,Ha,Ia,Ja,Ka⟩:=h.app' zvp za (a:=n.Sown) (show Rp.rep (α:=Rg) f _ n.Sown from rfl) Ca Da;have La:=Ba.k Ja;refine⟨Ea,Fa,Ha,?_⟩;refine gdi hp fun Ma hp=>?_;exact ma _ _ _ _ Ga Ia La Ka hp
    exact hgo _ _ _ _ _ i r e g hp
   obtain⟨d,A,hp⟩:=zrH hp;obtain⟨n6,da,N,A⟩:=zrB A;obtain⟨_,Na⟩:=zsX ha103 A;refine⟨n6,da,(by first|exact N|(rw[ha103.slLen];exact N)),_,_,_,_,_,_,_,_,(Na _ r.sub).1,?_⟩;intro Ob Oa;obtain⟨Fb,Pa,T,Qa⟩:=r.blk Oa i 3;have Ra:=e.k T;have g:=g.k T;obtain⟨Sa,Ta,Y,Z,B⟩:=Qa.sto Pa [Il d.Kind,Il d.Parcel,Il d.Other,Il d.From,Il d.To,Il d.Part,Il d.Day.Lo,Il d.Day.Hi];have D:=Ra.k Z;have g:=g.k Z;refine⟨Sa,Ta,?_⟩;refine⟨trivial,trivial,?_⟩;obtain⟨Gb,F,hp⟩:=zrH hp;obtain⟨Bb,ea,fa,F⟩:=zrB F;refine⟨Bb,ea,fa,_,(D.bk.rc (zr2 (l:=([w.out.o0,w.out.o1,w.out.o2,w.out.o3,w.out.o4,w.out.o5]:List Bool)) (enc:=C.bool) 11 rfl F)),?_⟩;refine zr7 hp (fun Ua hp=>?_) fun Ua hp=>?_; rotate_left
   ·refine⟨trivial,_,_,B.bk.rp (k:=6) (j:=2) rfl (by omega),?_⟩;obtain⟨Va,hp⟩:=zrI hp;intro Pb Wa;obtain⟨Xa,Ya,Za,ab,bb,cb,db⟩:=g.app' zvp Y (a:=d.Day) (show Rp.rep (α:=Rg) f _ d.Day from rfl) Va Wa;have eb:=D.k cb;refine⟨Xa,Ya,ab,?_⟩;refine gdi hp fun fb hp=>?_;exact ba _ _ _ _ Za bb eb db hp
   refine⟨trivial,trivial,_,B.bk.rc rfl,trivial,trivial,?_⟩;obtain⟨gb,hb,ib,aa,G⟩:=B.sto1 Y 7 (Il d.Day.Lo) (by simp) rfl
   replace G:Lb _ _ _ _ _ _ _ [Il d.Kind,Il d.Parcel,Il d.Other,Il d.From,Il d.To,Il d.Part,Il d.Day.Lo,Il d.Day.Lo]:=G
   have jb:=D.k aa;have g:=g.k aa;refine⟨gb,hb,?_⟩;refine⟨trivial,_,_,G.bk.rp (k:=6) (j:=2) rfl (by omega),?_⟩;obtain⟨kb,hp⟩:=zrI hp;intro Qb mb;obtain⟨ob,pb,qb,rb,sb,tb,ub⟩:=g.app' zvp ib (a:=({ Lo:=d.Day.Lo,Hi:=d.Day.Lo }:Rg)) (show Rp.rep (α:=Rg) f _ ({ Lo:=d.Day.Lo,Hi:=d.Day.Lo }:Rg) from rfl) kb mb;have vb:=jb.k tb;refine⟨ob,pb,rb,?_⟩;refine gdi hp fun wb hp=>?_;exact ba _ _ _ _ qb sb vb ub hp
 exact hgo _ _ _ _ _ ha ia e (Ow.nil _ _ _ _ _) hp
theorem zv2{r:Rg}{m f:M}{Q:V->M->Prop}{rz:Int}(hS:Pre f m)(hp:zt0 r=some rz)(hq:∀m',Ext m m'->Q (.c (Il rz)) m'):Wc prog tbl 105 [.agg 2 [Il r.Lo,Il r.Hi]] m Q:=by
 have l:=hS.st;obtain⟨n,_⟩:=zsR;refine zvc ?_;unfold zt0 at hp;intro o d;obtain⟨i,e,j,a⟩:=l.blk d n 1;refine⟨trivial,_,a.bk.rc rfl,trivial,_,a.bk.rc rfl,?_⟩;refine gdi hp fun g hp=>?_;refine gdi hp fun h hp=>?_;obtain rfl:=oi hp;exact hq _ e.ext'
theorem zv3{l:List Rg}{ca100:C}{m f:M}{Q:V->M->Prop}{rz:Int}(hS:Pre f m)(ha100:Sl f ca100 l)(hp:zt2 l=some rz)(hq:∀m',Ext m m'->Q (.c (Il rz)) m'):Wc prog tbl 70 [.c ca100] m Q:=by
 have S0:=hS.st;obtain⟨τ0,_⟩:=zsR;refine w70 ?_;unfold zt2 at hp;refine⟨ha100.isSl,?_⟩;intro R0 T
 have hgo:∀(a:Nat) (p:Int) (q:Int) (s:M) (e:Nat->Nat),St (Fm.of m) f f s->zt1 l a p q=some rz->R0 [.c (Il p),.c (Il q)] s:=by
  intro a
  induction a with
  | zero=>intro p q s e d hp; cases hp
  | succ a S=>
   intro p q s e d hp;refine T _ _ _ ?_;rw[zt1] at hp
   try rw[ha100.slLen]
   refine ifd hp (fun t hp=>?_) fun t hp=>?_; rotate_left
   ·obtain rfl:=oi hp;exact hq _ d.ext'
   obtain⟨g,h,hp⟩:=zrH hp;obtain⟨n4,o,i,h⟩:=zrB h;obtain⟨_,u⟩:=zsT ha100 h;refine⟨n4,o,(by first|exact i|(rw[ha100.slLen];exact i)),_,_,(u _ d.sub).1,?_⟩;intro m7 w;obtain⟨j,y,Y,z⟩:=d.blk w e 1;obtain⟨A,B,n,Z,D⟩:=z.sto y [Il g.Lo,Il g.Hi];refine⟨A,B,?_⟩;refine⟨_,_,D.bk.ra,?_⟩;obtain⟨aa,F,hp⟩:=zrH hp;refine zv2 (r:=g) n.pre  F fun ga G=>?_;obtain⟨I,ba⟩:=n.call G j;refine⟨_,rfl,?_⟩;refine gdi hp fun J hp=>?_;refine gdi hp fun N hp=>?_;refine gdi hp fun O hp=>?_;refine gdi hp fun P hp=>?_;exact S _ _ _ j I hp
 exact hgo _ _ _ _ τ0 S0 hp
theorem zv4{b:Boo}{ca102 ca103:C}{m f:M}{Q:V->M->Prop}{rz:Int}(hS:Pre f m)(ha102:Sl f ca102 b.Parcels)(ha103:Sl f ca103 b.Entries)(hp:zt3 b=some rz)(hq:∀m',Ext m m'->Q (.c (Il rz)) m'):Wc prog tbl 24 [.agg 4 [Il b.Last,Il b.Owners,ca102,ca103]] m Q:=by
 have S0:=hS.st;obtain⟨τ0,_⟩:=zsR;refine w24 ?_;unfold zt3 at hp;intro m0 t;obtain⟨d,i,ka,j⟩:=S0.blk t τ0 1;refine⟨_,_,_,_,j.bk.ra,?_⟩;obtain⟨la,u,hp⟩:=zrH hp;refine zvZ (b:=b) i.pre ha102 ha103 u fun m6 y=>?_;obtain⟨e,z⟩:=i.call y d;have A:=j.k z;refine⟨_,rfl,?_⟩;refine zr7 hp (fun B hp=>?_) fun B hp=>?_
 ·obtain rfl:=oi hp;exact hq _ e.ext'
 refine⟨_,_,_,_,A.bk.ra,?_⟩;obtain⟨a,D,hp⟩:=zrH hp;refine zv0 (b:=b) e.pre ha102 ha103 D fun za ma F G I n o=>?_;obtain⟨J,na⟩:=e.callG I d;refine⟨_,_,_,_,_,_,_,_,_,_,_,_,_,_,_,_,_,rfl,?_⟩;intro Aa N;obtain⟨g,O,oa,P⟩:=J.blk N d 2;obtain⟨S,T,p,pa,q⟩:=P.sto O [Il a.b.Last,Il a.b.Owners,F,G,Il a.numbers,Il a.makes.m0,Il a.makes.m1,Il a.makes.m2,Il a.makes.m3,Il a.makes.m4,Il a.makes.m5,.bool a.out.o0,.bool a.out.o1,.bool a.out.o2,.bool a.out.o3,.bool a.out.o4,.bool a.out.o5];refine⟨S,T,?_⟩;refine⟨_,_,_,_,_,_,_,_,_,_,_,_,_,_,_,_,_,q.bk.ra,?_⟩;obtain⟨qa,Y,hp⟩:=zrH hp;refine zvY (w:=a) p.pre n o Y fun Ba Z=>?_;obtain⟨h,aa⟩:=p.call Z g;have ba:=q.k aa;refine⟨_,rfl,?_⟩;refine zr8 hp (fun ca hp=>?_) fun ca hp=>?_
 ·obtain rfl:=oi hp;exact hq _ h.ext'
 refine⟨_,_,_,_,_,_,_,_,_,_,_,_,_,_,_,_,_,ba.bk.ra,?_⟩;obtain⟨da,ea,hp⟩:=zrH hp;refine zv1 (w:=a) h.pre n o ea fun Ca sa ta fa ga=>?_;obtain⟨r,ua⟩:=h.callG fa g;refine⟨_,rfl,?_⟩;obtain⟨va,ha,hp⟩:=zrH hp;refine zv3 (l:=da) r.pre ga ha fun Da ia=>?_;obtain⟨s,wa⟩:=r.call ia g;refine⟨_,rfl,?_⟩;refine ifd hp (fun ja hp=>?_) fun ja hp=>?_
 ·obtain rfl:=oi hp;exact hq _ s.ext'
 obtain rfl:=oi hp;exact hq _ s.ext'
theorem zv5{w:Wk}{t:Tr}{ca102 ca103 ca200 ca201:C}{m f:M}{Q:V->M->Prop}{rz:Bool}(hS:Pre f m)(ha102:Sl f ca102 w.b.Parcels)(ha103:Sl f ca103 w.b.Entries)(ha200:Sl f ca200 t.Days)(ha201:Sl f ca201 t.Sown)(hp:zt6 w t=some rz)(hq:∀m',Ext m m'->Q (.c (.bool rz)) m'):Wc prog tbl 62 [.agg 17 [Il w.b.Last,Il w.b.Owners,ca102,ca103,Il w.numbers,Il w.makes.m0,Il w.makes.m1,Il w.makes.m2,Il w.makes.m3,Il w.makes.m4,Il w.makes.m5,.bool w.out.o0,.bool w.out.o1,.bool w.out.o2,.bool w.out.o3,.bool w.out.o4,.bool w.out.o5],.agg 2 [ca200,ca201]] m Q:=by
 have S0:=hS.st;obtain⟨τ0,_⟩:=zsR;refine w62 ?_;unfold zt6 at hp;intro m0 la;obtain⟨ma,na,sb,oa⟩:=S0.blk la τ0 1;intro m1 pa;obtain⟨qa,y,sa,a⟩:=na.blk pa ma 2;have d:=oa.k sa;refine⟨trivial,_,a.bk.rc rfl,ha200.isSl,trivial,trivial,_,d.bk.rc rfl,ha103.isSl,?_⟩
 try rw[ha200.slLen]
 try rw[ha103.slLen]
 refine zr6 hp (fun ta hp=>?_) fun ta hp=>?_
 ·obtain rfl:=oi hp;exact hq _ y.ext'
 refine⟨trivial,_,a.bk.rc rfl,ha201.isSl,trivial,trivial,_,d.bk.rc rfl,ha102.isSl,?_⟩
 try rw[ha201.slLen]
 try rw[ha102.slLen]
 refine zr6 hp (fun ua hp=>?_) fun ua hp=>?_
 ·obtain rfl:=oi hp;exact hq _ y.ext'
 refine⟨trivial,_,a.bk.rc rfl,ha200.isSl,?_⟩;intro R7 kb
 have hgo:∀(j:Nat) (b8:Bool) (x9:Int) (s:M) (e:Nat->Nat),St (Fm.of m) f f s->Lb (Fm.of m) f e s 1 m.nxt 17 [Il w.b.Last,Il w.b.Owners,ca102,ca103,Il w.numbers,Il w.makes.m0,Il w.makes.m1,Il w.makes.m2,Il w.makes.m3,Il w.makes.m4,Il w.makes.m5,.bool w.out.o0,.bool w.out.o1,.bool w.out.o2,.bool w.out.o3,.bool w.out.o4,.bool w.out.o5]->Lb (Fm.of m) f e s 2 m0.nxt 2 [ca200,ca201]->zt5 w t j b8 x9=some rz->R7 [.c (.bool b8),.c (Il x9)] s:=by
  intro j
  induction j with
  | zero=>intro b8 x9 s e g d a hp; cases hp
  | succ j ib=>
   intro b8 x9 s e g d a hp;refine kb _ _ _ ?_;rw[zt5] at hp
   try rw[ha200.slLen]
   refine ifd hp (fun xa hp=>?_) fun xa hp=>?_
   ·obtain⟨ya,z,hp⟩:=zrH hp;obtain⟨mb,ga,B,z⟩:=zrB z;refine⟨mb,ga,(by first|exact B|(rw[ha200.slLen];exact B)),_,(ha200.rdI z g.sub),trivial,trivial,_,d.bk.rc rfl,?_⟩;obtain⟨l,o,hp⟩:=zrH hp;obtain⟨ob,ha,D,o⟩:=zrB o;obtain⟨_,za⟩:=zsX ha103 o;refine⟨ob,ha,(by first|exact D|(rw[ha103.slLen];exact D)),(ha103.isPt o _),_,_,((za _ g.sub).2.2 6 2 (by omega) (by decide)),?_⟩;intro yb Aa;obtain⟨I,Ba,J,Ca⟩:=g.blk Aa e 3;have Da:=d.k J;have Ea:=a.k J;obtain⟨Fa,Ga,N,O,P⟩:=Ca.sto Ba [Il l.Day.Lo,Il l.Day.Hi];have Ha:=Da.k O;have Ia:=Ea.k O;refine⟨Fa,Ga,?_⟩;refine⟨trivial,_,P.bk.rc rfl,trivial,_,P.bk.rc rfl,?_⟩;obtain⟨tb,Ja,hp⟩:=zrH hp;refine zvJ (n:=ya) (low:=l.Day.Lo) (high:=l.Day.Hi) N.pre  Ja fun zb Ka=>?_;obtain⟨S,T⟩:=N.call Ka I;have La:=Ha.k T;have Ma:=Ia.k T;refine⟨_,rfl,?_⟩;refine zr8 hp (fun Na hp=>?_) fun Na hp=>?_
    ·obtain rfl:=oi hp;exact hq _ S.ext'
    refine gdi hp fun Oa hp=>?_;exact ib _ _ _ I S La Ma hp
   refine⟨trivial,_,a.bk.rc rfl,ha201.isSl,?_⟩;intro pb jb
   have hgo:∀(p:Nat) (ia:Bool) (Y:Int) (u:M) (h:Nat->Nat),St (Fm.of m) f f u->Lb (Fm.of m) f h u 1 m.nxt 17 [Il w.b.Last,Il w.b.Owners,ca102,ca103,Il w.numbers,Il w.makes.m0,Il w.makes.m1,Il w.makes.m2,Il w.makes.m3,Il w.makes.m4,Il w.makes.m5,.bool w.out.o0,.bool w.out.o1,.bool w.out.o2,.bool w.out.o3,.bool w.out.o4,.bool w.out.o5]->Lb (Fm.of m) f h u 2 m0.nxt 2 [ca200,ca201]->zt4 w t p Y=some rz->pb [.c (.bool ia),.c (Il Y)] u:=by
    intro p
    induction p with
    | zero=>intro ia Y u h i d a hp; cases hp
    | succ p Pa=>
     intro ia Y u h i d a hp;refine jb _ _ _ ?_;rw[zt4] at hp
     try rw[ha201.slLen]
     refine ifd hp (fun Qa hp=>?_) fun Qa hp=>?_; rotate_left
     ·obtain rfl:=oi hp;exact hq _ i.ext'
     obtain⟨Ra,A,hp⟩:=zrH hp;obtain⟨qb,ja,F,A⟩:=zrB A;refine⟨qb,ja,(by first|exact F|(rw[ha201.slLen];exact F)),_,(ha201.rdI A i.sub),trivial,trivial,_,d.bk.rc rfl,?_⟩;obtain⟨q,r,hp⟩:=zrH hp;obtain⟨rb,ka,G,r⟩:=zrB r;obtain⟨_,Sa⟩:=zsV ha102 r;refine⟨rb,ka,(by first|exact G|(rw[ha102.slLen];exact G)),(ha102.isPt r _),_,_,((Sa _ i.sub).2.2 2 2 (by omega) (by decide)),?_⟩;intro Ab Ta;obtain⟨Z,Ua,aa,Va⟩:=i.blk Ta h 4;have Wa:=d.k aa;have Xa:=a.k aa;obtain⟨Ya,Za,ba,ca,da⟩:=Va.sto Ua [Il q.Sown.Lo,Il q.Sown.Hi];have ab:=Wa.k ca;have bb:=Xa.k ca;refine⟨Ya,Za,?_⟩;refine⟨trivial,_,da.bk.rc rfl,trivial,_,da.bk.rc rfl,?_⟩;obtain⟨ub,cb,hp⟩:=zrH hp;refine zvJ (n:=Ra) (low:=q.Sown.Lo) (high:=q.Sown.Hi) ba.pre  cb fun Bb db=>?_;obtain⟨ea,fa⟩:=ba.call db Z;have eb:=ab.k fa;have fb:=bb.k fa;refine⟨_,rfl,?_⟩;refine zr8 hp (fun gb hp=>?_) fun gb hp=>?_
     ·obtain rfl:=oi hp;exact hq _ ea.ext'
     refine gdi hp fun hb hp=>?_;exact Pa _ _ _ Z ea eb fb hp
   exact hgo _ _ _ _ e g d a hp
 exact hgo _ _ _ _ qa y d a hp
theorem zv6{p:Pl}{m f:M}{Q:V->M->Prop}{rz:Bool}(hS:Pre f m)(hp:zt7 p=some rz)(hq:∀m',Ext m m'->Q (.c (.bool rz)) m'):Wc prog tbl 109 [.agg 5 [Il p.owner,Il p.value,.bool p.there,.bool p.harvested,Il p.sown]] m Q:=by
 have j:=hS.st;obtain⟨l,_⟩:=zsR;refine zu2 ?_;unfold zt7 at hp;intro n e;obtain⟨h,a,i,d⟩:=j.blk e l 1;refine⟨trivial,_,d.bk.rc rfl,?_⟩;refine zr7 hp (fun g hp=>?_) fun g hp=>?_; rotate_left
 ·obtain rfl:=oi hp;exact hq _ a.ext'
 refine⟨trivial,_,d.bk.rc rfl,?_⟩;obtain rfl:=oi hp;exact hq _ a.ext'
theorem zv7{p:Pl}{day:Int}{m f:M}{Q:V->M->Prop}{rz:Bool}(hS:Pre f m)(hp:zt8 p day=some rz)(hq:∀m',Ext m m'->Q (.c (.bool rz)) m'):Wc prog tbl 79 [.agg 5 [Il p.owner,Il p.value,.bool p.there,.bool p.harvested,Il p.sown],.c (Il day)] m Q:=by
 have s:=hS.st;obtain⟨t,_⟩:=zsR;refine w79 ?_;unfold zt8 at hp;intro u g;obtain⟨h,a,q,d⟩:=s.blk g t 1;refine⟨_,_,_,_,_,d.bk.ra,?_⟩;obtain⟨r,i,hp⟩:=zrH hp;refine zv6 (p:=p) a.pre  i fun w j=>?_;obtain⟨e,l⟩:=a.call j h;have n:=d.k l;refine⟨_,rfl,?_⟩;refine zr7 hp (fun o hp=>?_) fun o hp=>?_; rotate_left
 ·obtain rfl:=oi hp;exact hq _ e.ext'
 refine⟨trivial,_,n.bk.rc rfl,?_⟩;obtain rfl:=oi hp;exact hq _ e.ext'
theorem zv8{p:Pl}{day:Int}{m f:M}{Q:V->M->Prop}{rz:Hd}(hS:Pre f m)(hp:zt9 p day=some rz)(hq:∀m',Ext m m'->Q (.agg 4 [.bool rz.There,.bool rz.Covered,Il rz.Owner,Il rz.Value]) m'):Wc prog tbl 65 [.agg 5 [Il p.owner,Il p.value,.bool p.there,.bool p.harvested,Il p.sown],.c (Il day)] m Q:=by
 have T:=hS.st;obtain⟨Y,_⟩:=zsR;refine w65 ?_;unfold zt9 at hp;intro m0 i;obtain⟨j,l,O,n⟩:=T.blk i Y 1;intro m1 o;obtain⟨q,d,r,e⟩:=l.blk o j 2;have a:=n.k r;refine⟨trivial,_,a.bk.rc rfl,?_⟩;refine zr8 hp (fun s hp=>?_) fun s hp=>?_
 ·obtain⟨t,u,w,P,y⟩:=e.sto d [.bool false,.bool false,Il 0,Il 0];refine⟨t,u,?_⟩;refine⟨_,_,_,_,y.bk.ra,?_⟩;obtain rfl:=oi hp;exact hq _ w.ext'
 refine⟨_,_,_,_,_,a.bk.ra,?_⟩;obtain⟨z,A,hp⟩:=zrH hp;refine zv7 (p:=p) (day:=day) d.pre  A fun Z B=>?_;obtain⟨D,g⟩:=d.call B q;have h:=a.k g;have F:=e.k g;refine⟨_,rfl,trivial,trivial,_,h.bk.rc rfl,(a.bk.rc rfl),trivial,trivial,_,h.bk.rc rfl,(a.bk.rc rfl),?_⟩;obtain⟨G,I,J,S,N⟩:=F.sto D [.bool true,.bool z,Il p.owner,Il p.value];refine⟨G,I,?_⟩;refine⟨_,_,_,_,N.bk.ra,?_⟩;obtain rfl:=oi hp;exact hq _ J.ext'
theorem zv9{s:List Pl}{bp0:Nat}{e:Evt}{m f:M}{Q:V->M->Prop}{rz:Bool × List Pl}(hS:Pre f m)(hbp0:Lc f m bp0 50 (zs3 s))(hp:zua s e=some rz)(hq:∀m',zsf (isB bp0) m m'->Bk m' bp0 50 (zs3 rz.2)->Q (.c (.bool rz.1)) m'):Wc prog tbl 121 [.c (.ptr bp0 0),.agg 10 [Il e.e.Kind,Il e.e.Parcel,Il e.e.Other,Il e.e.From,Il e.e.To,Il e.e.Part,Il e.e.Day.Lo,Il e.e.Day.Hi,Il e.on,Il e.makes]] m Q:=by
 have S0:=hS.stL hbp0;obtain⟨τ0,L0⟩:∃τ,Lb ⟨m,isB bp0⟩ f τ m 1 bp0 50 (zs3 s):=⟨_,hbp0.lb 1⟩;refine zuS ?_;unfold zua at hp;intro m0 F;obtain⟨G,n,I,q⟩:=S0.blk F τ0 2;have r:=L0.k I;refine⟨trivial,trivial,_,q.bk.rc rfl,trivial,trivial,?_⟩;obtain⟨J,hp⟩:=zrI hp;obtain⟨y,z,A⟩:=zr3 J;obtain⟨N,hp⟩:=zrI hp
 have h:s.length * 5=50:=by rw[N]
 obtain⟨a,d,hp⟩:=zrH hp;obtain⟨B,ba,ca,d⟩:=zrB d
 have D:B=y:=by omega
 rw[D] at d;refine⟨y,z,A,trivial,_,_,_,_,_,(r.bk.rs zs4 h d),?_⟩;obtain⟨ea,O,hp⟩:=zrH hp;refine zv6 (p:=a) n.pre  O fun m9 P=>?_;obtain⟨i,t⟩:=n.call P G;have g:=r.k t;have u:=q.k t;refine⟨_,rfl,?_⟩;refine zr8 hp (fun S hp=>?_) fun S hp=>?_
 ·obtain rfl:=oi hp;exact hq _ i.extX g.bk
 refine⟨trivial,trivial,trivial,_,(g.bk.rs1 zs4 d (j:=0) rfl (by omega)),trivial,trivial,_,u.bk.rc rfl,?_⟩;refine zr6 hp (fun T hp=>?_) fun T hp=>?_
 ·obtain rfl:=oi hp;exact hq _ i.extX g.bk
 refine⟨trivial,trivial,_,u.bk.rc rfl,trivial,trivial,trivial,?_⟩
 have l:Int.toNat e.e.Parcel=y:=by omega
 obtain⟨Y,Z,aa,fa,w⟩:=g.stS i zs4 h d (a':=({ owner:=e.e.To,value:=a.value,there:=a.there,harvested:=a.harvested,sown:=a.sown }:Pl)) 0 [Il e.e.To] (Nat.le_of_ble_eq_true rfl) rfl (o:=(((0+(y * 5))+0)+0)) (by omega) rfl;rw[<- l] at w;have ga:(s.set (Int.toNat e.e.Parcel) ({ owner:=e.e.To,value:=a.value,there:=a.there,harvested:=a.harvested,sown:=a.sown }:Pl))[y]? = some ({ owner:=e.e.To,value:=a.value,there:=a.there,harvested:=a.harvested,sown:=a.sown }:Pl):=(congrArg (fun z9_=>(s.set z9_ ({ owner:=e.e.To,value:=a.value,there:=a.there,harvested:=a.harvested,sown:=a.sown }:Pl))[y]?) l).trans (List.getElem?_set_self (List.getElem?_eq_some_iff.1 d).1)
 have da:(s.set (Int.toNat e.e.Parcel) ({ owner:=e.e.To,value:=a.value,there:=a.there,harvested:=a.harvested,sown:=a.sown }:Pl)).length * 5=50:=by rw[List.length_set]; exact h
 refine⟨Y,Z,?_⟩;obtain rfl:=oi hp;exact hq _ aa.extX w.bk
theorem zwa{s:List Pl}{bp0:Nat}{e:Evt}{m f:M}{Q:V->M->Prop}{rz:Bool × List Pl}(hS:Pre f m)(hbp0:Lc f m bp0 50 (zs3 s))(hp:zub s e=some rz)(hq:∀m',zsf (isB bp0) m m'->Bk m' bp0 50 (zs3 rz.2)->Q (.c (.bool rz.1)) m'):Wc prog tbl 122 [.c (.ptr bp0 0),.agg 10 [Il e.e.Kind,Il e.e.Parcel,Il e.e.Other,Il e.e.From,Il e.e.To,Il e.e.Part,Il e.e.Day.Lo,Il e.e.Day.Hi,Il e.on,Il e.makes]] m Q:=by
 have S0:=hS.stL hbp0;obtain⟨τ0,L0⟩:∃τ,Lb ⟨m,isB bp0⟩ f τ m 1 bp0 50 (zs3 s):=⟨_,hbp0.lb 1⟩;refine zuT ?_;unfold zub at hp;intro m0 ea;obtain⟨z,A,fa,B⟩:=S0.blk ea τ0 2;have D:=L0.k fa;refine⟨trivial,trivial,_,B.bk.rc rfl,trivial,trivial,?_⟩;obtain⟨ga,hp⟩:=zrI hp;obtain⟨P,S,T⟩:=zr3 ga;obtain⟨ha,hp⟩:=zrI hp
 have i:s.length * 5=50:=by rw[ha]
 obtain⟨a,d,hp⟩:=zrH hp;obtain⟨Y,Na,Oa,d⟩:=zrB d
 have Z:Y=P:=by omega
 rw[Z] at d;refine⟨P,S,T,trivial,_,_,_,_,_,(D.bk.rs zs4 i d),?_⟩;obtain⟨Sa,ia,hp⟩:=zrH hp;refine zv6 (p:=a) A.pre  ia fun m9 ja=>?_;obtain⟨q,F⟩:=A.call ja z;have g:=D.k F;have r:=B.k F;refine⟨_,rfl,?_⟩;refine zr8 hp (fun ka hp=>?_) fun ka hp=>?_
 ·obtain rfl:=oi hp;exact hq _ q.extX g.bk
 refine⟨trivial,trivial,trivial,_,(g.bk.rs1 zs4 d (j:=1) rfl (by omega)),trivial,trivial,_,r.bk.rc rfl,?_⟩;refine ifd hp (fun la hp=>?_) fun la hp=>?_
 ·obtain rfl:=oi hp;exact hq _ q.extX g.bk
 refine⟨trivial,trivial,trivial,_,(g.bk.rs1 zs4 d (j:=1) rfl (by omega)),trivial,trivial,_,r.bk.rc rfl,?_⟩;obtain⟨ma,hp⟩:=zrI hp;refine⟨ma,trivial,trivial,trivial,?_⟩
 have w:Int.toNat e.e.Parcel=P:=by omega
 obtain⟨na,oa,pa,qa,t⟩:=g.stS q zs4 i d (a':=({ owner:=a.owner,value:=(a.value - e.e.Part),there:=a.there,harvested:=a.harvested,sown:=a.sown }:Pl)) 1 [(Il (a.value - e.e.Part))] (Nat.le_of_ble_eq_true rfl) rfl (o:=(((0+(P * 5))+0)+1)) (by omega) rfl;rw[<- w] at t;have sa:(s.set (Int.toNat e.e.Parcel) ({ owner:=a.owner,value:=(a.value - e.e.Part),there:=a.there,harvested:=a.harvested,sown:=a.sown }:Pl))[P]? = some ({ owner:=a.owner,value:=(a.value - e.e.Part),there:=a.there,harvested:=a.harvested,sown:=a.sown }:Pl):=(congrArg (fun z9_=>(s.set z9_ ({ owner:=a.owner,value:=(a.value - e.e.Part),there:=a.there,harvested:=a.harvested,sown:=a.sown }:Pl))[P]?) w).trans (List.getElem?_set_self (List.getElem?_eq_some_iff.1 d).1)
 have l:(s.set (Int.toNat e.e.Parcel) ({ owner:=a.owner,value:=(a.value - e.e.Part),there:=a.there,harvested:=a.harvested,sown:=a.sown }:Pl)).length * 5=50:=by rw[List.length_set]; exact i
 have ta:=r.k qa;refine⟨na,oa,?_⟩;refine⟨trivial,_,_,_,_,_,(t.bk.rs zs4 l sa),?_⟩;intro ab ua;obtain⟨Ta,va,G,wa⟩:=pa.blk ua z 3;have xa:=t.k G;have ya:=ta.k G;obtain⟨za,Aa,Ba,I,Ca⟩:=wa.sto va [Il a.owner,(Il (a.value - e.e.Part)),.bool a.there,.bool a.harvested,Il a.sown];have Da:=xa.k I;have J:=ya.k I;refine⟨za,Aa,?_⟩;refine⟨trivial,trivial,_,J.bk.rc rfl,trivial,trivial,?_⟩;obtain⟨Ea,Fa,Ga,N,u⟩:=Ca.sto1 Ba 1 (Il e.e.Part) (by simp) rfl
 replace u:Lb _ _ _ _ _ _ _ [Il a.owner,Il e.e.Part,.bool a.there,.bool a.harvested,Il a.sown]:=u
 have Ha:=Da.k N;have Ia:=J.k N;refine⟨Ea,Fa,?_⟩;refine⟨trivial,_,Ia.bk.rc rfl,_,_,_,_,_,u.bk.ra,trivial,trivial,?_⟩;obtain⟨Ja,hp⟩:=zrI hp;obtain⟨n,aa,ba⟩:=zr3 Ja;obtain⟨Ua,h,hp⟩:=zrH hp;obtain⟨ca,Pa,Qa,h⟩:=zrB h
 have da:ca=n:=by omega
 rw[da] at h;refine⟨n,aa,ba,?_⟩
 have y:Int.toNat e.makes=n:=by omega
 obtain⟨Ka,La,Ma,Va,O⟩:=Ha.stS Ga zs4 l h (a':=({ owner:=a.owner,value:=e.e.Part,there:=a.there,harvested:=a.harvested,sown:=a.sown }:Pl)) 0 [Il a.owner,Il e.e.Part,.bool a.there,.bool a.harvested,Il a.sown] (Nat.le_of_ble_eq_true rfl) rfl (o:=(0+(n * 5))) (by omega) rfl;rw[<- y] at O;have Wa:((s.set (Int.toNat e.e.Parcel) ({ owner:=a.owner,value:=(a.value - e.e.Part),there:=a.there,harvested:=a.harvested,sown:=a.sown }:Pl)).set (Int.toNat e.makes) ({ owner:=a.owner,value:=e.e.Part,there:=a.there,harvested:=a.harvested,sown:=a.sown }:Pl))[n]? = some ({ owner:=a.owner,value:=e.e.Part,there:=a.there,harvested:=a.harvested,sown:=a.sown }:Pl):=(congrArg (fun z9_=>((s.set (Int.toNat e.e.Parcel) ({ owner:=a.owner,value:=(a.value - e.e.Part),there:=a.there,harvested:=a.harvested,sown:=a.sown }:Pl)).set z9_ ({ owner:=a.owner,value:=e.e.Part,there:=a.there,harvested:=a.harvested,sown:=a.sown }:Pl))[n]?) y).trans (List.getElem?_set_self (List.getElem?_eq_some_iff.1 h).1)
 have Ra:((s.set (Int.toNat e.e.Parcel) ({ owner:=a.owner,value:=(a.value - e.e.Part),there:=a.there,harvested:=a.harvested,sown:=a.sown }:Pl)).set (Int.toNat e.makes) ({ owner:=a.owner,value:=e.e.Part,there:=a.there,harvested:=a.harvested,sown:=a.sown }:Pl)).length * 5=50:=by rw[List.length_set]; exact l
 refine⟨Ka,La,?_⟩;obtain rfl:=oi hp;exact hq _ Ma.extX O.bk
theorem zwb{s:List Pl}{bp0:Nat}{e:Evt}{m f:M}{Q:V->M->Prop}{rz:Bool × List Pl}(hS:Pre f m)(hbp0:Lc f m bp0 50 (zs3 s))(hp:zuc s e=some rz)(hq:∀m',zsf (isB bp0) m m'->Bk m' bp0 50 (zs3 rz.2)->Q (.c (.bool rz.1)) m'):Wc prog tbl 123 [.c (.ptr bp0 0),.agg 10 [Il e.e.Kind,Il e.e.Parcel,Il e.e.Other,Il e.e.From,Il e.e.To,Il e.e.Part,Il e.e.Day.Lo,Il e.e.Day.Hi,Il e.on,Il e.makes]] m Q:=by
 have S0:=hS.stL hbp0;obtain⟨τ0,L0⟩:∃τ,Lb ⟨m,isB bp0⟩ f τ m 1 bp0 50 (zs3 s):=⟨_,hbp0.lb 1⟩;refine zuU ?_;unfold zuc at hp;intro m0 ea;obtain⟨B,D,fa,F⟩:=S0.blk ea τ0 2;have G:=L0.k fa;refine⟨trivial,trivial,_,F.bk.rc rfl,trivial,trivial,?_⟩;obtain⟨ga,hp⟩:=zrI hp;obtain⟨N,O,P⟩:=zr3 ga;refine⟨N,O,P,trivial,trivial,_,F.bk.rc rfl,trivial,trivial,?_⟩;obtain⟨ha,hp⟩:=zrI hp;obtain⟨A,S,T⟩:=zr3 ha;obtain⟨ia,hp⟩:=zrI hp
 have n:s.length * 5=50:=by rw[ia]
 obtain⟨a,h,hp⟩:=zrH hp;obtain⟨Y,za,Aa,h⟩:=zrB h
 have Z:Y=N:=by omega
 rw[Z] at h;refine⟨A,S,T,trivial,_,_,_,_,_,(G.bk.rs zs4 n h),?_⟩;obtain⟨Ga,ja,hp⟩:=zrH hp;refine zv6 (p:=a) D.pre  ja fun Pa ka=>?_;obtain⟨r,la⟩:=D.call ka B;have t:=G.k la;refine⟨_,rfl,?_⟩;refine zr8 hp (fun ma hp=>?_) fun ma hp=>?_
 ·obtain rfl:=oi hp;exact hq _ r.extX t.bk
 obtain⟨g,l,hp⟩:=zrH hp;obtain⟨aa,Ba,Ca,l⟩:=zrB l
 have ba:aa=A:=by omega
 rw[ba] at l;refine⟨trivial,_,_,_,_,_,(t.bk.rs zs4 n l),?_⟩;obtain⟨Ha,na,hp⟩:=zrH hp;refine zv6 (p:=g) r.pre  na fun Qa oa=>?_;obtain⟨u,pa⟩:=r.call oa B;have i:=t.k pa;refine⟨_,rfl,?_⟩;refine zr8 hp (fun qa hp=>?_) fun qa hp=>?_
 ·obtain rfl:=oi hp;exact hq _ u.extX i.bk
 refine⟨trivial,trivial,trivial,_,(i.bk.rs1 zs4 h (j:=0) rfl (by omega)),trivial,trivial,trivial,_,(i.bk.rs1 zs4 l (j:=0) rfl (by omega)),?_⟩;refine ifd hp (fun sa hp=>?_) fun sa hp=>?_
 ·obtain rfl:=oi hp;exact hq _ u.extX i.bk
 refine⟨trivial,trivial,trivial,_,(i.bk.rs1 zs4 l (j:=0) rfl (by omega)),trivial,trivial,trivial,_,(i.bk.rs1 zs4 h (j:=0) rfl (by omega)),trivial,trivial,trivial,?_⟩
 have w:Int.toNat e.e.Parcel=N:=by omega
 obtain⟨ta,ua,va,Ia,I⟩:=i.stS u zs4 n h (a':=({ owner:=g.owner,value:=a.value,there:=a.there,harvested:=a.harvested,sown:=a.sown }:Pl)) 0 [Il g.owner] (Nat.le_of_ble_eq_true rfl) rfl (o:=(((0+(N * 5))+0)+0)) (by omega) rfl;rw[<- w] at I;have Ja:(s.set (Int.toNat e.e.Parcel) ({ owner:=g.owner,value:=a.value,there:=a.there,harvested:=a.harvested,sown:=a.sown }:Pl))[N]? = some ({ owner:=g.owner,value:=a.value,there:=a.there,harvested:=a.harvested,sown:=a.sown }:Pl):=(congrArg (fun z9_=>(s.set z9_ ({ owner:=g.owner,value:=a.value,there:=a.there,harvested:=a.harvested,sown:=a.sown }:Pl))[N]?) w).trans (List.getElem?_set_self (List.getElem?_eq_some_iff.1 h).1)
 have y:(s.set (Int.toNat e.e.Parcel) ({ owner:=g.owner,value:=a.value,there:=a.there,harvested:=a.harvested,sown:=a.sown }:Pl)).length * 5=50:=by rw[List.length_set]; exact n
 refine⟨ta,ua,?_⟩;obtain⟨d,q,hp⟩:=zrH hp;obtain⟨ca,Da,Ea,q⟩:=zrB q
 have da:ca=A:=by omega
 rw[da] at q;refine⟨trivial,trivial,trivial,?_⟩
 have z:Int.toNat e.e.Other=A:=by omega
 obtain⟨wa,xa,ya,Ka,J⟩:=I.stS va zs4 y q (a':=({ owner:=a.owner,value:=d.value,there:=d.there,harvested:=d.harvested,sown:=d.sown }:Pl)) 0 [Il a.owner] (Nat.le_of_ble_eq_true rfl) rfl (o:=(((0+(A * 5))+0)+0)) (by omega) rfl;rw[<- z] at J;have La:((s.set (Int.toNat e.e.Parcel) ({ owner:=g.owner,value:=a.value,there:=a.there,harvested:=a.harvested,sown:=a.sown }:Pl)).set (Int.toNat e.e.Other) ({ owner:=a.owner,value:=d.value,there:=d.there,harvested:=d.harvested,sown:=d.sown }:Pl))[A]? = some ({ owner:=a.owner,value:=d.value,there:=d.there,harvested:=d.harvested,sown:=d.sown }:Pl):=(congrArg (fun z9_=>((s.set (Int.toNat e.e.Parcel) ({ owner:=g.owner,value:=a.value,there:=a.there,harvested:=a.harvested,sown:=a.sown }:Pl)).set z9_ ({ owner:=a.owner,value:=d.value,there:=d.there,harvested:=d.harvested,sown:=d.sown }:Pl))[A]?) z).trans (List.getElem?_set_self (List.getElem?_eq_some_iff.1 q).1)
 have Fa:((s.set (Int.toNat e.e.Parcel) ({ owner:=g.owner,value:=a.value,there:=a.there,harvested:=a.harvested,sown:=a.sown }:Pl)).set (Int.toNat e.e.Other) ({ owner:=a.owner,value:=d.value,there:=d.there,harvested:=d.harvested,sown:=d.sown }:Pl)).length * 5=50:=by rw[List.length_set]; exact y
 refine⟨wa,xa,?_⟩;obtain rfl:=oi hp;exact hq _ ya.extX J.bk
theorem zwc{s:List Pl}{bp0:Nat}{e:Evt}{m f:M}{Q:V->M->Prop}{rz:Bool × List Pl}(hS:Pre f m)(hbp0:Lc f m bp0 50 (zs3 s))(hp:zud s e=some rz)(hq:∀m',zsf (isB bp0) m m'->Bk m' bp0 50 (zs3 rz.2)->Q (.c (.bool rz.1)) m'):Wc prog tbl 124 [.c (.ptr bp0 0),.agg 10 [Il e.e.Kind,Il e.e.Parcel,Il e.e.Other,Il e.e.From,Il e.e.To,Il e.e.Part,Il e.e.Day.Lo,Il e.e.Day.Hi,Il e.on,Il e.makes]] m Q:=by
 have S0:=hS.stL hbp0;obtain⟨τ0,L0⟩:∃τ,Lb ⟨m,isB bp0⟩ f τ m 1 bp0 50 (zs3 s):=⟨_,hbp0.lb 1⟩;refine zuV ?_;unfold zud at hp;intro m0 D;obtain⟨F,n,G,q⟩:=S0.blk D τ0 2;have r:=L0.k G;refine⟨trivial,trivial,_,q.bk.rc rfl,trivial,trivial,?_⟩;obtain⟨I,hp⟩:=zrI hp;obtain⟨w,y,z⟩:=zr3 I;obtain⟨J,hp⟩:=zrI hp
 have h:s.length * 5=50:=by rw[J]
 obtain⟨a,d,hp⟩:=zrH hp;obtain⟨A,ba,ca,d⟩:=zrB d
 have B:A=w:=by omega
 rw[B] at d;refine⟨w,y,z,trivial,_,_,_,_,_,(r.bk.rs zs4 h d),?_⟩;obtain⟨ea,N,hp⟩:=zrH hp;refine zv6 (p:=a) n.pre  N fun m9 O=>?_;obtain⟨i,t⟩:=n.call O F;have g:=r.k t;have P:=q.k t;refine⟨_,rfl,?_⟩;refine zr8 hp (fun S hp=>?_) fun S hp=>?_
 ·obtain rfl:=oi hp;exact hq _ i.extX g.bk
 refine⟨trivial,trivial,_,(g.bk.rs1 zs4 d (j:=4) rfl (by omega)),trivial,_,P.bk.rc rfl,?_⟩;refine ifd hp (fun T hp=>?_) fun T hp=>?_
 ·obtain rfl:=oi hp;exact hq _ i.extX g.bk
 refine⟨trivial,trivial,?_⟩
 have l:Int.toNat e.e.Parcel=w:=by omega
 obtain⟨Y,Z,aa,fa,u⟩:=g.stS i zs4 h d (a':=({ owner:=a.owner,value:=a.value,there:=a.there,harvested:=true,sown:=a.sown }:Pl)) 3 [.bool true] (Nat.le_of_ble_eq_true rfl) rfl (o:=((0+(w * 5))+3)) (by omega) rfl;rw[<- l] at u;have ga:(s.set (Int.toNat e.e.Parcel) ({ owner:=a.owner,value:=a.value,there:=a.there,harvested:=true,sown:=a.sown }:Pl))[w]? = some ({ owner:=a.owner,value:=a.value,there:=a.there,harvested:=true,sown:=a.sown }:Pl):=(congrArg (fun z9_=>(s.set z9_ ({ owner:=a.owner,value:=a.value,there:=a.there,harvested:=true,sown:=a.sown }:Pl))[w]?) l).trans (List.getElem?_set_self (List.getElem?_eq_some_iff.1 d).1)
 have da:(s.set (Int.toNat e.e.Parcel) ({ owner:=a.owner,value:=a.value,there:=a.there,harvested:=true,sown:=a.sown }:Pl)).length * 5=50:=by rw[List.length_set]; exact h
 refine⟨Y,Z,?_⟩;obtain rfl:=oi hp;exact hq _ aa.extX u.bk
theorem zwd{w:Wk}{sown:List Int}{ca102 ca103 ca200:C}{m f:M}{Q:V->M->Prop}{rz:List Pl}(hS:Pre f m)(ha102:Sl f ca102 w.b.Parcels)(_ha103:Sl f ca103 w.b.Entries)(ha200:Sl f ca200 sown)(hp:zuf w sown=some rz)(hq:∀m',Ext m m'->Q (.agg 50 (zs3 rz)) m'):Wc prog tbl 96 [.agg 17 [Il w.b.Last,Il w.b.Owners,ca102,ca103,Il w.numbers,Il w.makes.m0,Il w.makes.m1,Il w.makes.m2,Il w.makes.m3,Il w.makes.m4,Il w.makes.m5,.bool w.out.o0,.bool w.out.o1,.bool w.out.o2,.bool w.out.o3,.bool w.out.o4,.bool w.out.o5],.c ca200] m Q:=by
 have S0:=hS.st;obtain⟨τ0,_⟩:=zsR;refine w96 ?_;unfold zuf at hp;intro m0 ca;obtain⟨da,ea,Va,fa⟩:=S0.blk ca τ0 1;intro m1 ga;obtain⟨ha,ia,ja,r⟩:=ea.blk ga da 2
 replace r:Lb _ _ _ _ _ _ _ (zs3 (List.replicate 10 ({ owner:=(0:Int),value:=(0:Int),there:=false,harvested:=false,sown:=(0:Int) }:Pl))):=r
 have ka:=fa.k ja;intro m2 la;obtain⟨ma,na,I,e⟩:=ia.blk la ha 3
 replace e:Lb _ _ _ _ _ _ _ (zs3 (List.replicate 10 ({ owner:=(0:Int),value:=(0:Int),there:=false,harvested:=false,sown:=(0:Int) }:Pl))):=e
 have i:=ka.k I;have j:=r.k I;refine⟨trivial,trivial,_,i.bk.rc rfl,ha102.isSl,?_⟩;intro R4 Qa
 have hgo:∀(n:Nat) (F:Int) (d:List Pl) (G:M) (g:Nat->Nat),St (Fm.of m) f f G->Lb (Fm.of m) f g G 1 m.nxt 17 [Il w.b.Last,Il w.b.Owners,ca102,ca103,Il w.numbers,Il w.makes.m0,Il w.makes.m1,Il w.makes.m2,Il w.makes.m3,Il w.makes.m4,Il w.makes.m5,.bool w.out.o0,.bool w.out.o1,.bool w.out.o2,.bool w.out.o3,.bool w.out.o4,.bool w.out.o5]->Lb (Fm.of m) f g G 2 m0.nxt 50 (zs3 (List.replicate 10 ({ owner:=(0:Int),value:=(0:Int),there:=false,harvested:=false,sown:=(0:Int) }:Pl)))->Lb (Fm.of m) f g G 3 m1.nxt 50 (zs3 d)->zue w sown n d F=some rz->R4 [.c (Il F)] G:=by
  intro n
  induction n with
  | zero=>intro F d G g p i j e hp; cases hp
  | succ n Pa=>
   intro F d G g p i j e hp;refine Qa _ _ ?_;rw[zue] at hp
   try rw[ha102.slLen]
   refine ifd hp (fun oa hp=>?_) fun oa hp=>?_; rotate_left
   ·refine⟨_,e.bk.ra,?_⟩;obtain⟨pa,qa,sa,Wa,ta⟩:=j.sto p (zs3 d);refine⟨pa,qa,?_⟩;refine⟨_,ta.bk.ra,?_⟩;obtain rfl:=oi hp;exact hq _ sa.ext'
   obtain⟨a,s,hp⟩:=zrH hp;obtain⟨n7,S,z,s⟩:=zrB s;obtain⟨_,ua⟩:=zsV ha102 s;refine⟨n7,S,(by first|exact z|(rw[ha102.slLen];exact z)),_,_,_,_,(ua _ p.sub).1,?_⟩;intro db va;obtain⟨wa,xa,t,ya⟩:=p.blk va g 4;have za:=i.k t;have Aa:=j.k t;have Ba:=e.k t;obtain⟨Ca,Da,J,u,N⟩:=ya.sto xa [Il a.Owner,Il a.Value,Il a.Sown.Lo,Il a.Sown.Hi];have Ea:=za.k u;have Fa:=Aa.k u;have Ga:=Ba.k u;refine⟨Ca,Da,?_⟩;refine⟨trivial,_,N.bk.rc rfl,trivial,_,N.bk.rc rfl,?_⟩;obtain⟨h,y,hp⟩:=zrH hp;obtain⟨Ra,T,A,y⟩:=zrB y;refine⟨Ra,T,(by first|exact A|(rw[ha200.slLen];exact A)),_,(ha200.rdI y J.sub),trivial,?_⟩;obtain⟨Ha,hp⟩:=zrI hp;obtain⟨q,Y,Z⟩:=zr3 Ha;obtain⟨Ia,hp⟩:=zrI hp
   have B:d.length * 5=50:=by rw[Ia]
   obtain⟨Xa,l,hp⟩:=zrH hp;obtain⟨aa,Sa,Ta,l⟩:=zrB l
   have ba:aa=q:=by omega
   rw[ba] at l;refine⟨q,Y,Z,?_⟩
   have D:Int.toNat F=q:=by omega
   obtain⟨Ja,Ka,La,O,P⟩:=Ga.stS J zs4 B l (a':=({ owner:=a.Owner,value:=a.Value,there:=true,harvested:=false,sown:=h }:Pl)) 0 [Il a.Owner,Il a.Value,.bool true,.bool false,Il h] (Nat.le_of_ble_eq_true rfl) rfl (o:=(0+(q * 5))) (by omega) rfl;rw[<- D] at P;have Ya:(d.set (Int.toNat F) ({ owner:=a.Owner,value:=a.Value,there:=true,harvested:=false,sown:=h }:Pl))[q]? = some ({ owner:=a.Owner,value:=a.Value,there:=true,harvested:=false,sown:=h }:Pl):=(congrArg (fun z9_=>(d.set z9_ ({ owner:=a.Owner,value:=a.Value,there:=true,harvested:=false,sown:=h }:Pl))[q]?) D).trans (List.getElem?_set_self (List.getElem?_eq_some_iff.1 l).1)
   have Ua:(d.set (Int.toNat F) ({ owner:=a.Owner,value:=a.Value,there:=true,harvested:=false,sown:=h }:Pl)).length * 5=50:=by rw[List.length_set]; exact B
   have Ma:=Ea.k O;have Na:=Fa.k O;refine⟨Ja,Ka,?_⟩;refine gdi hp fun Oa hp=>?_;exact Pa _ _ _ wa La Ma Na P hp
 exact hgo _ _ _ _ ma na i j e hp
theorem zwe{x:Int}{m f:M}{Q:V->M->Prop}{rz:Bool}(hS:Pre f m)(hp:zug x=some rz)(hq:∀m',Ext m m'->Q (.c (.bool rz)) m'):Wc prog tbl 146 [.c (Il x)] m Q:=by
 have a:=hS.st;obtain⟨d,_⟩:=zsR;refine zve ?_;unfold zug at hp;obtain rfl:=oi hp;exact hq _ a.ext'
theorem zwf{x:Int}{y:Int}{m f:M}{Q:V->M->Prop}{rz:Int}(hS:Pre f m)(hp:zuh x y=some rz)(hq:∀m',Ext m m'->Q (.c (Il rz)) m'):Wc prog tbl 120 [.c (Il x),.c (Il y)] m Q:=by
 have q:=hS.st;obtain⟨r,_⟩:=zsR;refine zu8 ?_;unfold zuh at hp;obtain⟨s,e,hp⟩:=zrH hp;refine zwe (x:=x) q.pre  e fun z g=>?_;obtain⟨d,t⟩:=q.call g r;refine⟨_,rfl,?_⟩;obtain⟨u,h,hp⟩:=zrH hp;refine zwe (x:=y) d.pre  h fun A i=>?_;obtain⟨a,w⟩:=d.call i r;refine⟨_,rfl,?_⟩;refine zr7 hp (fun j hp=>?_) fun j hp=>?_
 ·refine zr7 hp (fun l hp=>?_) fun l hp=>?_
  ·obtain rfl:=oi hp;exact hq _ a.ext'
  obtain rfl:=oi hp;exact hq _ a.ext'
 refine zr7 hp (fun n hp=>?_) fun n hp=>?_
 ·obtain rfl:=oi hp;exact hq _ a.ext'
 refine ifd hp (fun o hp=>?_) fun o hp=>?_
 ·obtain rfl:=oi hp;exact hq _ a.ext'
 refine ifd hp (fun p hp=>?_) fun p hp=>?_
 ·obtain rfl:=oi hp;exact hq _ a.ext'
 obtain rfl:=oi hp;exact hq _ a.ext'
theorem zwg{a:Evt}{b:Evt}{m f:M}{Q:V->M->Prop}{rz:Int}(hS:Pre f m)(hp:zui a b=some rz)(hq:∀m',Ext m m'->Q (.c (Il rz)) m'):Wc prog tbl 119 [.agg 10 [Il a.e.Kind,Il a.e.Parcel,Il a.e.Other,Il a.e.From,Il a.e.To,Il a.e.Part,Il a.e.Day.Lo,Il a.e.Day.Hi,Il a.on,Il a.makes],.agg 10 [Il b.e.Kind,Il b.e.Parcel,Il b.e.Other,Il b.e.From,Il b.e.To,Il b.e.Part,Il b.e.Day.Lo,Il b.e.Day.Hi,Il b.on,Il b.makes]] m Q:=by
 have A:=hS.st;obtain⟨B,_⟩:=zsR;refine zuW ?_;unfold zui at hp;intro D g;obtain⟨h,i,u,j⟩:=A.blk g B 1;intro F l;obtain⟨n,d,o,p⟩:=i.blk l h 2;have q:=j.k o;refine⟨trivial,_,q.bk.rc rfl,trivial,_,p.bk.rc rfl,?_⟩;obtain⟨w,r,hp⟩:=zrH hp;refine zwf (x:=a.on) (y:=b.on) d.pre  r fun G s=>?_;obtain⟨t,z⟩:=d.call s n;refine⟨_,rfl,?_⟩;obtain rfl:=oi hp;exact hq _ t.ext'
theorem zwh{l:List Evt}{a:Int}{b:Int}{cmp:Evt->Evt->Option (Int)}{ca100 ca400:C}{m f:M}{Q:V->M->Prop}{rz:(Unit) × List Evt}(hS:Pre f m)(ha100:Wg f m ca100 l)(ha400:zvi f ca400 cmp)(hp:zul l a b cmp=some rz)(hq:∀m',zsf (zr1 ca100) m m'->Wn m m' ca100 rz.2->Q (.tup []) m'):Wc prog tbl 154 [.c ca100,.c (Il a),.c (Il b),.c ca400] m Q:=by
 have S0:=hS.stW ha100;obtain⟨τ0,n⟩:∃τ,Wo ⟨m,zr1 ca100⟩ f τ m 1 ca100 l:=⟨_,ha100.wo 1⟩;refine zva ?_;unfold zul at hp;refine gdi hp fun ua hp=>?_;intro R0 Qa
 have hgo:∀(q:Nat) (x1:Int) (t:List Evt) (m2:M) (u:Nat->Nat),St ⟨m,zr1 ca100⟩ f f m2->Wo ⟨m,zr1 ca100⟩ f u m2 1 ca100 t->zuk a b cmp q x1 t=some rz->R0 [.c (Il x1)] m2:=by
  intro q
  induction q with
  | zero=>intro x1 t m2 u F n hp; cases hp
  | succ q ia=>
   intro x1 t m2 u F n hp;refine Qa _ _ ?_;rw[zuk] at hp;refine ifd hp (fun va hp=>?_) fun va hp=>?_; rotate_left
   ·obtain rfl:=oi hp;exact hq _ F.extX n.wn
   intro R3 Ra
   have hgo:∀(w:Nat) (D:Int) (o:List Evt) (m5:M) (p:Nat->Nat),St ⟨m,zr1 ca100⟩ f f m5->Wo ⟨m,zr1 ca100⟩ f p m5 1 ca100 o->zuj a cmp x1 (zuk a b cmp q) w D o=some rz->R3 [.c (Il D)] m5:=by
    intro w
    induction w with
    | zero=>intro D o m5 p y n hp; cases hp
    | succ w Pa=>
     intro D o m5 p y n hp;refine Ra _ _ ?_;rw[zuj] at hp;refine ifd hp (fun wa hp=>?_) fun wa hp=>?_; rotate_left
     ·refine gdi hp fun xa hp=>?_;exact ia _ _ _ p y n hp
     obtain⟨Za,G,hp⟩:=zrH hp;obtain⟨n6,ka,O,G⟩:=zrB G;have la:=(zvj (n.rdP G));refine⟨n6,ka,(by first|exact O|(rw[n.slLen];exact O)),_,_,_,_,_,_,_,_,_,_,(la).1,?_⟩;refine gdi hp fun ya hp=>?_;obtain⟨ab,I,hp⟩:=zrH hp;obtain⟨Sa,ma,P,I⟩:=zrB I;have na:=(zvj (n.rdP I));refine⟨Sa,ma,(by first|exact P|(rw[n.slLen];exact P)),_,_,_,_,_,_,_,_,_,_,(na).1,?_⟩;obtain⟨bb,za,hp⟩:=zrH hp;refine ha400 _ _ _ _ _ _ (Sub.refl _) y.pre  za fun jb Aa=>?_;obtain⟨ca,Ba⟩:=y.call Aa p;have n:=n.k Ba;refine⟨_,rfl,?_⟩;refine ifd hp (fun Ca hp=>?_) fun Ca hp=>?_; rotate_left
     ·refine gdi hp fun Da hp=>?_;exact ia _ _ _ p ca n hp
     refine gdi hp fun Ea hp=>?_;refine gdi hp fun Fa hp=>?_;obtain⟨d,J,hp⟩:=zrH hp;obtain⟨Ta,oa,S,J⟩:=zrB J;have pa:=(zvj (n.rdP J));refine⟨Ta,oa,(by first|exact S|(rw[n.slLen];exact S)),_,_,_,_,_,_,_,_,_,_,(pa).1,?_⟩;obtain⟨g,N,hp⟩:=zrH hp;obtain⟨Ua,qa,T,N⟩:=zrB N;have sa:=(zvj (n.rdP N));refine⟨Ua,qa,(by first|exact T|(rw[n.slLen];exact T)),_,_,_,_,_,_,_,_,_,_,(sa).1,?_⟩;obtain⟨i,r,hp⟩:=zrH hp;obtain⟨da,A,Y,r⟩:=zrB r;refine⟨da,A,(by first|exact Y|(rw[n.slLen];exact Y)),?_⟩;obtain⟨Ga,Ha,Ia,cb,z⟩:=n.setP ca (a':=d) r [Il i.e.Kind,Il i.e.Parcel,Il i.e.Other,Il i.e.From,Il i.e.To,Il i.e.Part,Il i.e.Day.Lo,Il i.e.Day.Hi,Il i.on,Il i.makes] (fun _ h=>h) 0 [Il d.e.Kind,Il d.e.Parcel,Il d.e.Other,Il d.e.From,Il d.e.To,Il d.e.Part,Il d.e.Day.Lo,Il d.e.Day.Hi,Il d.on,Il d.makes] (Nat.le_of_ble_eq_true rfl) rfl
     have Z:Int.toNat D=da:=by rw[A]; rfl
     rw[<- Z] at z;have Va:=A;have Ja:(o.set (Int.toNat D) d)[da]? = some d:=(congrArg (fun z9_=>(o.set z9_ d)[da]?) Z).trans (List.getElem?_set_self (List.getElem?_eq_some_iff.1 r).1);have Wa:=(List.getElem?_eq_some_iff.1 Ja).1;refine⟨Ga,(by have h9:=Ha; rw[n.add0 r] at h9; exact h9),?_⟩;obtain⟨j,s,hp⟩:=zrH hp;obtain⟨ea,B,aa,s⟩:=zrB s;refine⟨ea,B,(by first|exact aa|(rw[z.slLen];exact aa)),?_⟩;obtain⟨Ka,La,Ma,db,fa⟩:=z.setP Ia (a':=g) s [Il j.e.Kind,Il j.e.Parcel,Il j.e.Other,Il j.e.From,Il j.e.To,Il j.e.Part,Il j.e.Day.Lo,Il j.e.Day.Hi,Il j.on,Il j.makes] (fun _ h=>h) 0 [Il g.e.Kind,Il g.e.Parcel,Il g.e.Other,Il g.e.From,Il g.e.To,Il g.e.Part,Il g.e.Day.Lo,Il g.e.Day.Hi,Il g.on,Il g.makes] (Nat.le_of_ble_eq_true rfl) rfl
     have ba:Int.toNat (D - (1:Int))=ea:=by rw[B]; rfl
     rw[<- ba] at fa;have Xa:=B;have Na:((o.set (Int.toNat D) d).set (Int.toNat (D - (1:Int))) g)[ea]? = some g:=(congrArg (fun z9_=>((o.set (Int.toNat D) d).set z9_ g)[ea]?) ba).trans (List.getElem?_set_self (List.getElem?_eq_some_iff.1 s).1);have Ya:=(List.getElem?_eq_some_iff.1 Na).1;refine⟨Ka,(by have h9:=La; rw[z.add0 s] at h9; exact h9),?_⟩;refine gdi hp fun Oa hp=>?_;exact Pa _ _ _ p Ma fa hp
   exact hgo _ _ _ _ u F n hp
 exact hgo _ _ _ _ τ0 S0 n hp
theorem zwi{l:List Evt}{a m b:Int}{cmp:Evt->Evt->Option Int}{ca100 ca500:C}{m' f:M}{Q:V->M->Prop}{rz:Unit × List Evt}(__hS:Pre f m')(__h:Wg f m' ca100 l)(__hc:zvi f ca500 cmp)(hp:zuo l a m b cmp=some rz)(__hq:∀m2,zsf (zr1 ca100) m' m2->Wn m' m2 ca100 rz.2->Q (.tup []) m2):Wc prog tbl 155 [.c ca100,.c (Il a),.c (Il m),.c (Il b),.c ca500] m' Q:=by cases hp
theorem zwj{n:Int}{m f:M}{Q:V->M->Prop}{rz:Kd}(hS:Pre f m)(hp:zun n=some rz)(hq:∀m' f' c0,Grw m f m' f'->zvf f' c0 rz.happen->Q (.agg 1 [c0]) m'):Wc prog tbl 98 [.c (Il n)] m Q:=by
 refine w98 fun z A T B=>?_;obtain⟨D,F,Y,d⟩:=hS.st.blk A (fun _=>0) 1;obtain⟨Z,G,I,e⟩:=F.blk B D 2;have d:=d.k I
 let fs:List C:=[(C.fn (Fn.func 121) [] []),(C.fn (Fn.func 122) [] []),(C.fn (Fn.func 123) [] []),(C.fn (Fn.func 124) [] [])]
 obtain⟨g,J,N,O,e⟩:=e.sto G fs;have d:=d.k O;refine⟨g,J,trivial,?_⟩
 have key:∀(k:Nat) (c:C),n=(k:Int)->k < 4->fs[k]? = some c->zvf f c rz.happen->∃h:Nat,n=(h:Int)/\h < 4/\∃t,ldA g (.ptr z.nxt (0+h * 1)) 1=some [t]/\∃a,stC g (.ptr m.nxt 0) 1 [t]=some a/\∃u,ldA a (.ptr m.nxt 0) 1=some [u]/\Q (.agg 1 [u]) a:=fun k c hk w hc hF=>by
  obtain⟨a,e5,S5,k5,P⟩:=d.sto N [c];refine⟨k,hk,w,c,?_,a,e5,c,P.bk.ra,hq a f c S5.grw hF⟩;have:=e.bk.rp (k:=0+k * 1) (j:=1) rfl (by omega);rw[this]
  have y:0+k * 1=k:=by omega
  rw[y,List.drop_eq_getElem_cons (by show k < 4; omega),List.take_succ_cons,List.take_zero];have S:=(List.getElem?_eq_some_iff.1 hc).2;rw[S]
 unfold zun at hp
 by_cases i:n=0
 ·rw[if_pos i] at hp; cases hp
  exact key 0 _ i (by omega) rfl fun f' m' bp l o r Q' hs hpre hL hg hq'=>zv9 hpre hL hg hq'
 rw[if_neg i] at hp
 by_cases p:n=1
 ·rw[if_pos p] at hp; cases hp
  exact key 1 _ p (by omega) rfl fun f' m' bp l o r Q' hs hpre hL hg hq'=>zwa hpre hL hg hq'
 rw[if_neg p] at hp
 by_cases q:n=2
 ·rw[if_pos q] at hp; cases hp
  exact key 2 _ q (by omega) rfl fun f' m' bp l o r Q' hs hpre hL hg hq'=>zwb hpre hL hg hq'
 rw[if_neg q] at hp
 by_cases s:n=3
 ·rw[if_pos s] at hp; cases hp
  exact key 3 _ s (by omega) rfl fun f' m' bp l o r Q' hs hpre hL hg hq'=>zwc hpre hL hg hq'
 ·rw[if_neg s] at hp; cases hp
def hdP(bl N:Nat):C:=.sl bl 0 N 0 (some N)
def flP(br k bd cv:Nat):C:=.fn (.func 142) [] [.c (.ptr br 0),.c (.ptr k 0),.c (.ptr bd 0),.c (.ptr cv 0)]
structure CkF (f:M) (l br k bd cv bl N:Nat) (cR:C) (S:Nat->Prop) (m:M) (P:List Int):Prop where
 sb:Sub f m
 rr:Bk m br 1 [cR]
 kk:Bk m k 1 [.fn (.yield l) [] []]
 dd:Bk m bd 1 [hdP bl N]
 cc:Bk m cv 1 [flP br k bd cv]
 ll:Bk m bl N (zru P)
 ss:∀b',S b'->b' ≠ br/\b' ≠ k/\b' ≠ bd/\b' ≠ cv/\b' ≠ bl/\f.g b'=none/\f.vw b'=none
 ne:br ≠ bl/\k ≠ bl/\bd ≠ bl/\cv ≠ bl
variable {f:M} {l br k bd cv bl N:Nat} {cR:C}
theorem CkF.chg{S S':Nat->Prop}{m m':M}{P:List Int}(hz:∀b,f.nxt<=b->f.g b=none)(hv:∀b,f.nxt<=b->f.vw b=none)(h:CkF f l br k bd cv bl N cR S m P)(hc:Chg S m m')(ho:Own S m S'):CkF f l br k bd cv bl N cR S' m' P:=by
 have tr:∀{b' j:Nat} {vs:List C},Bk m b' j vs->¬ S b'->Bk m' b' j vs:=fun hb hS=>⟨(hc.g _ hb.lt hS).trans hb.g,Nat.lt_of_lt_of_le hb.lt hc.nxt⟩;refine⟨⟨Nat.le_trans h.sb.nxt hc.nxt,hc.vw.trans h.sb.vw,fun b' hb hd=>?_⟩,tr h.rr fun hs=>(h.ss _ hs).1 rfl,tr h.kk fun hs=>(h.ss _ hs).2.1 rfl,tr h.dd fun hs=>(h.ss _ hs).2.2.1 rfl,tr h.cc fun hs=>(h.ss _ hs).2.2.2.1 rfl,tr h.ll fun hs=>(h.ss _ hs).2.2.2.2.1 rfl,fun b' hb=>?_,h.ne⟩
 ·rw[hc.g b' (Nat.lt_of_lt_of_le hb h.sb.nxt) fun hs=>hd.elim (fun h1=>h1 (h.ss b' hs).2.2.2.2.2.1) fun h1=>h1 (h.ss b' hs).2.2.2.2.2.2];exact h.sb.g b' hb hd
 ·rcases ho b' hb with hs | hs
  ·exact h.ss b' hs
  ·have:=h.rr.lt; have:=h.kk.lt; have:=h.dd.lt; have:=h.cc.lt; have:=h.ll.lt; have:=h.sb.nxt;exact⟨by omega,by omega,by omega,by omega,by omega,hz b' (by omega),hv b' (by omega)⟩
theorem CkF.ext{S:Nat->Prop}{m m':M}{P:List Int}(hz:∀b,f.nxt<=b->f.g b=none)(hv:∀b,f.nxt<=b->f.vw b=none)(h:CkF f l br k bd cv bl N cR S m P)(x:Ext m m'):CkF f l br k bd cv bl N cR S m' P:=
 h.chg hz hv ⟨x.nxt,fun b' hb _=>x.g b' hb,x.vw⟩ fun _ hb=>.inl hb
theorem CkF.set{S:Nat->Prop}{m:M}{P:List Int}(h:CkF f l br k bd cv bl N cR S m P)(hb:f.g bl=none/\f.vw bl=none)(P':List Int):CkF f l br k bd cv bl N cR S (m.set bl (.cells N (zru P') false)) P':=
 ⟨⟨h.sb.nxt,h.sb.vw,fun b' hb' hd=>by
  rw[M.g_set,if_neg fun he=>by subst he; exact hd.elim (fun q=>q hb.1) fun q=>q hb.2]
  exact h.sb.g b' hb' hd⟩,h.rr.setNe h.ne.1 _,h.kk.setNe h.ne.2.1 _,h.dd.setNe h.ne.2.2.1 _,h.cc.setNe h.ne.2.2.2 _,h.ll.set _,h.ss,h.ne⟩
end
end Go.Proofs.YtlkgdadfbfafcaaGreat

namespace Go.Proofs.YtlkgdadfbfafcaaGreat
open _root_.Go.Proofs.Tryz
open Go.Abs
set_option maxRecDepth 100000
noncomputable section
theorem _root_.Go.Abs.Chg.trans{S S1:Nat->Prop}{T:Nat->Prop}{m m1 m2:M}(h1:Chg (fun b=>S b\/T b) m m1)(h2:Chg (fun b=>S1 b\/T b) m1 m2)(ho:Own S m S1):Chg (fun b=>S b\/T b) m m2:=
 ⟨Nat.le_trans h1.nxt h2.nxt,fun b hb hS=>by
  rw[h2.g b (Nat.lt_of_lt_of_le hb h1.nxt) fun h=>h.elim (fun h3=>(ho b h3).elim (fun h4=>hS (.inl h4)) fun h4=>by omega) fun h3=>hS (.inr h3)]
  exact h1.g b hb hS,h2.vw.trans h1.vw⟩
theorem _root_.Go.Abs.Own.refl(S:Nat->Prop)(m:M):Own S m S:=fun _ hb=>.inl hb
theorem _root_.Go.Abs.Own.trans{S S1 S2:Nat->Prop}{m m1:M}(h1:Own S m S1)(h2:Own S1 m1 S2)(hn:m.nxt<=m1.nxt):Own S m S2:=fun b hb=>(h2 b hb).elim (h1 b) fun h=>.inr (by omega)
def hdr(bl size:Nat):C:=.sl bl 0 size 0 (some size)
def flC(b k h2 b2 cv:Nat):C:=.fn (.func 144) [] [.c (.ptr b 0),.c (.ptr k 0),.c (.ptr h2 0),.c (.ptr b2 0),.c (.ptr cv 0)]
structure SlF (n size b b2 l k h2 bl cv:Nat) (S:Nat->Prop) (m:M) (P:List Int):Prop where
 bb:Bk m b 1 [.int .i64 (size:Int)]
 nn:Bk m b2 1 [.int .i64 (n:Int)]
 kk:Bk m k 1 [.fn (.yield l) [] []]
 hh:Bk m h2 1 [hdr bl size]
 ll:Bk m bl size (zru P)
 cc:Bk m cv 1 [flC b k h2 b2 cv]
 ss:∀b',S b'->b' ≠ b/\b' ≠ b2/\b' ≠ k/\b' ≠ h2/\b' ≠ bl/\b' ≠ cv
 ne:b ≠ bl/\b2 ≠ bl/\k ≠ bl/\h2 ≠ bl/\cv ≠ bl
variable {n size b b2 l k h2 bl cv:Nat}
theorem SlF.to{S S':Nat->Prop}{m m':M}{P:List Int}(h:SlF n size b b2 l k h2 bl cv S m P)(hn:Chg S m m')(ho:Own S m S'):SlF n size b b2 l k h2 bl cv S' m' P:=by
 have tr:∀{b' j:Nat} {vs:List C},Bk m b' j vs->¬ S b'->Bk m' b' j vs:=fun hb hS=>⟨(hn.g _ hb.lt hS).trans hb.g,Nat.lt_of_lt_of_le hb.lt hn.nxt⟩;refine⟨tr h.bb fun h1=>(h.ss _ h1).1 rfl,tr h.nn fun h1=>(h.ss _ h1).2.1 rfl,tr h.kk fun h1=>(h.ss _ h1).2.2.1 rfl,tr h.hh fun h1=>(h.ss _ h1).2.2.2.1 rfl,tr h.ll fun h1=>(h.ss _ h1).2.2.2.2.1 rfl,tr h.cc fun h1=>(h.ss _ h1).2.2.2.2.2 rfl,fun b' hb=>?_,h.ne⟩
 rcases ho b' hb with h1 | h1
 ·exact h.ss b' h1
 ·have:=h.bb.lt; have:=h.nn.lt; have:=h.kk.lt; have:=h.hh.lt; have:=h.ll.lt; have:=h.cc.lt
  omega
theorem SlF.set{S:Nat->Prop}{m:M}{P:List Int}(h:SlF n size b b2 l k h2 bl cv S m P)(P':List Int):SlF n size b b2 l k h2 bl cv S (m.set bl (.cells size (zru P') false)) P':=
 ⟨h.bb.setNe h.ne.1 _,h.nn.setNe h.ne.2.1 _,h.kk.setNe h.ne.2.2.1 _,h.hh.setNe h.ne.2.2.2.1 _,h.ll.set _,h.cc.setNe h.ne.2.2.2.2 _,h.ss,h.ne⟩
theorem SlF.li{S:Nat->Prop}{m:M}{P:List Int}(h:SlF n size b b2 l k h2 bl cv S m P)(hP:P.length=size):Li m (hdr bl size) P:=by
 refine⟨by rw[zrv]; omega,.inr ⟨bl,0,0,some size,by rw[hP]; rfl,h.ll.lt,fun _=>.inl ⟨size,zru P,false,h.ll.g,by rw[zrv]; exact hP,by rw[zrv]; omega,by rw[List.drop_zero,List.take_length]⟩⟩⟩
end
end Go.Proofs.YtlkgdadfbfafcaaGreat

namespace Go.Proofs.YtlkgdadfbfafcaaGreat
open _root_.Go.Proofs.Tryz
open Go.Abs
set_option maxRecDepth 100000
noncomputable section
def zwk(f:M)(x:C)(g:List Int->Option (Bool)):Prop:=∀(f' m:M) (a0:List Int) (c0:C) (r:Bool) (Q:V->M->Prop),Sub f f'->Pre f' m->Sl f' c0 a0->g a0=some r->(∀m',Ext m m'->Q (.c (.bool r)) m')->znQ prog tbl [.c c0] x m Q
theorem zwk.sub{f m:M}{x:C}{g:List Int->Option (Bool)}(h:zwk f x g)(s:Sub f m):zwk m x g:=fun f' m' a0 c0 r Q hs=>h f' m' a0 c0 r Q (s.trans hs)
theorem zsp{f:M}:∀(l:List Int),Cat f (zru l) l
 | []=>rfl
 | a::l=>⟨[.int .i64 a],zru l,rfl,rfl,zsp l⟩
theorem zwl:TC prog 156 5:=⟨124,by kernel_rfl,by kernel_rfl,by kernel_rfl⟩
theorem zwm:TA prog 157 10:=⟨160,by kernel_rfl,by kernel_rfl,by kernel_rfl⟩
theorem zwn{l:List Evt}{n:Int}{cmp:Evt->Evt->Option (Int)}{ca100 ca300:C}{m f:M}{Q:V->M->Prop}{rz:(Unit) × List Evt}(hS:Pre f m)(ha100:Wg f m ca100 l)(ha300:zvi f ca300 cmp)(hp:zus l n cmp=some rz)(hq:∀m',zsf (zr1 ca100) m m'->Wn m m' ca100 rz.2->Q (.tup []) m'):Wc prog tbl 145 [.c ca100,.c (Il n),.c ca300] m Q:=by
 have S0:=hS.stW ha100;obtain⟨τ0,B⟩:∃τ,Wo ⟨m,zr1 ca100⟩ f τ m 1 ca100 l:=⟨_,ha100.wo 1⟩;refine zu9 ?_;unfold zus at hp;intro R0 Oa
 have hgo:∀(s:Nat) (F:Int) (G:Int) (h:List Evt) (I:M) (p:Nat->Nat),St ⟨m,zr1 ca100⟩ f f I->Wo ⟨m,zr1 ca100⟩ f p I 1 ca100 h->zur n cmp s F G h=some rz->R0 [.c (Il F),.c (Il G)] I:=by
  intro s
  induction s with
  | zero=>intro F G h I p g B hp; cases hp
  | succ s ba=>
   intro F G h I p g B hp;refine Oa _ _ _ ?_;rw[zur] at hp;refine ifd hp (fun ca hp=>?_) fun ca hp=>?_
   ·obtain⟨Ua,da,hp⟩:=zrH hp;refine zwh (l:=h) (a:=F) (b:=G) (cmp:=cmp) g.pre (B.wg g) ha300 da fun m5 ea S=>?_;obtain⟨fa,Va,ga⟩:=B.callX g ea S;refine⟨rfl,?_⟩;refine gdi hp fun ha hp=>?_;exact ba _ _ _ _ p fa ga hp
   obtain⟨Wa,ia,hp⟩:=zrH hp;refine zwh (l:=h) (a:=F) (b:=n) (cmp:=cmp) g.pre (B.wg g) ha300 ia fun m7 ja T=>?_;obtain⟨ka,Xa,d⟩:=B.callX g ja T;refine⟨rfl,?_⟩;intro R8 Pa
   have hgo:∀(q:Nat) (x9:Int) (J:Int) (N:Int) (O:Int) (r:Int) (t:List Evt) (y:M) (u:Nat->Nat),St ⟨m,zr1 ca100⟩ f f y->Wo ⟨m,zr1 ca100⟩ f u y 1 ca100 t->zuq n cmp q r t=some rz->R8 [.c (Il x9),.c (Il J),.c (Il N),.c (Il O),.c (Il r)] y:=by
    intro q
    induction q with
    | zero=>intro x9 J N O r t y u D d hp; cases hp
    | succ q P=>
     intro x9 J N O r t y u D d hp;refine Pa _ _ _ _ _ _ ?_;rw[zuq] at hp;refine ifd hp (fun ma hp=>?_) fun ma hp=>?_; rotate_left
     ·obtain rfl:=oi hp;exact hq _ D.extX d.wn
     refine gdi hp fun na hp=>?_;refine gdi hp fun oa hp=>?_;refine gdi hp fun pa hp=>?_;intro Qa qa
     have hgo:∀(w:Nat) (o:Int) (z:Int) (i:List Evt) (A:M) (j:Nat->Nat),St ⟨m,zr1 ca100⟩ f f A->Wo ⟨m,zr1 ca100⟩ f j A 1 ca100 i->zup n cmp r (zuq n cmp q) w o z i=some rz->Qa [.c (Il o),.c (Il z)] A:=by
      intro w
      induction w with
      | zero=>intro o z i A j e d hp; cases hp
      | succ w Y=>
       intro o z i A j e d hp;refine qa _ _ _ ?_;rw[zup] at hp;refine ifd hp (fun sa hp=>?_) fun sa hp=>?_
       ·refine gdi hp fun ta hp=>?_;obtain⟨Za,ua,hp⟩:=zrH hp;refine zwi (l:=i) (a:=o) (m:=(o+r)) (b:=z) (cmp:=cmp) e.pre (d.wg e) ha300 ua fun db va Z=>?_;obtain⟨wa,ab,xa⟩:=d.callX e va Z;refine⟨rfl,?_⟩;refine gdi hp fun ya hp=>?_;refine gdi hp fun za hp=>?_;refine gdi hp fun Aa hp=>?_;refine gdi hp fun Ba hp=>?_;exact Y _ _ _ _ j wa xa hp
       refine gdi hp fun Ca hp=>?_;refine ifd hp (fun Da hp=>?_) fun Da hp=>?_; rotate_left
       ·refine gdi hp fun Ea hp=>?_;refine gdi hp fun Fa hp=>?_;refine gdi hp fun Ga hp=>?_;exact P _ _ _ _ _ _ _ j e d hp
       obtain⟨bb,Ha,hp⟩:=zrH hp;refine zwi (l:=i) (a:=o) (m:=(o+r)) (b:=n) (cmp:=cmp) e.pre (d.wg e) ha300 Ha fun eb Ia aa=>?_;obtain⟨Ja,cb,Ka⟩:=d.callX e Ia aa;refine⟨rfl,?_⟩;refine gdi hp fun La hp=>?_;refine gdi hp fun Ma hp=>?_;refine gdi hp fun Na hp=>?_;exact P _ _ _ _ _ _ _ j Ja Ka hp
     exact hgo _ _ _ _ _ u D d hp
   exact hgo _ _ _ _ _ _ _ _ p ka d hp
 exact hgo _ _ _ _ _ τ0 S0 B hp
theorem zwo{l:List Evt}{cmp:Evt->Evt->Option (Int)}{ca100 ca200:C}{m f:M}{Q:V->M->Prop}{rz:(Unit) × List Evt}(hS:Pre f m)(ha100:Wg f m ca100 l)(ha200:zvi f ca200 cmp)(hp:zut l cmp=some rz)(hq:∀m',zsf (zr1 ca100) m m'->Wn m m' ca100 rz.2->Q (.tup []) m'):Wc prog tbl 118 [.c ca100,.c ca200] m Q:=by
 have e:=hS.stW ha100;obtain⟨q,a⟩:∃τ,Wo ⟨m,zr1 ca100⟩ f τ m 1 ca100 l:=⟨_,ha100.wo 1⟩;refine zu3 ?_;unfold zut at hp;refine⟨a.isSl,?_⟩
 try rw[a.slLen]
 obtain⟨o,g,hp⟩:=zrH hp;refine zwn (l:=l) (n:=(l.length:Int)) (cmp:=cmp) e.pre (a.wg e) ha200 g fun r h d=>?_;obtain⟨i,p,j⟩:=a.callX e h d;refine⟨rfl,?_⟩;obtain rfl:=oi hp;exact hq _ i.extX j.wn
theorem zwp{w:Wk}{days:List Int}{ca102 ca103 ca200:C}{m f:M}{Q:V->M->Prop}{rz:List Evt}(hS:Pre f m)(_ha102:Sl f ca102 w.b.Parcels)(ha103:Sl f ca103 w.b.Entries)(ha200:Sl f ca200 days)(hp:zuv w days=some rz)(hq:∀m' f' c0,Grw m f m' f'->Sl f' c0 rz->Q (.c c0) m'):Wc prog tbl 97 [.agg 17 [Il w.b.Last,Il w.b.Owners,ca102,ca103,Il w.numbers,Il w.makes.m0,Il w.makes.m1,Il w.makes.m2,Il w.makes.m3,Il w.makes.m4,Il w.makes.m5,.bool w.out.o0,.bool w.out.o1,.bool w.out.o2,.bool w.out.o3,.bool w.out.o4,.bool w.out.o5],.c ca200] m Q:=by
 have S0:=hS.st;obtain⟨τ0,_⟩:=zsR;refine w97 ?_;unfold zuv at hp;intro m0 ja;obtain⟨ka,la,fb,J⟩:=S0.blk ja τ0 1;refine⟨trivial,trivial,_,J.bk.rc rfl,ha103.isSl,?_⟩
 try rw[ha103.slLen]
 obtain⟨gb,hp⟩:=zrI hp;obtain⟨n3,D⟩:∃n:Nat,(w.b.Entries.length:Int)=(n:Int):=⟨Int.toNat (w.b.Entries.length:Int),by omega⟩
 have Z:Int.toNat (w.b.Entries.length:Int)=n3:=by omega
 refine⟨0,n3,rfl,(by first|exact D|(rw[ha103.slLen];exact D)),Nat.zero_le _,(by omega),?_⟩;intro m4 ma;obtain⟨na,oa,pa,qa⟩:=la.blk ma ka 2;have sa:=Lb.mkQ (β:=Evt) (a:=({ e:=({ Kind:=(0:Int),Parcel:=(0:Int),Other:=(0:Int),From:=(0:Int),To:=(0:Int),Part:=(0:Int),Day:=({ Lo:=(0:Int),Hi:=(0:Int) }:Rg) }:En),on:=(0:Int),makes:=(0:Int) }:Evt)) qa rfl Z;have i:=J.k pa;refine⟨trivial,trivial,_,i.bk.rc rfl,ha103.isSl,?_⟩;intro R6 Ya
 have hgo:∀(p:Nat) (N:C) (x8:Int) (j:List Evt) (I:M) (o:Nat->Nat),St (Fm.of m) f f I->Lb (Fm.of m) f o I 1 m.nxt 17 [Il w.b.Last,Il w.b.Owners,ca102,ca103,Il w.numbers,Il w.makes.m0,Il w.makes.m1,Il w.makes.m2,Il w.makes.m3,Il w.makes.m4,Il w.makes.m5,.bool w.out.o0,.bool w.out.o1,.bool w.out.o2,.bool w.out.o3,.bool w.out.o4,.bool w.out.o5]->Oq (Fm.of m) f o I 2 N j (Int.toNat (w.b.Entries.length:Int))->zuu w days p j x8=some rz->R6 [.c N,.c (Il x8)] I:=by
  intro p
  induction p with
  | zero=>intro N x8 j I o h i g hp; cases hp
  | succ p O=>
   intro N x8 j I o h i g hp;refine Ya _ _ _ ?_;rw[zuu] at hp
   try rw[ha103.slLen]
   refine ifd hp (fun ta hp=>?_) fun ta hp=>?_; rotate_left
   ·have ba:zvi f ((C.fn (Fn.func 119) [] [])) (fun q s=>zui q s):=by
     intro f' m' q s r Q hs hpre  hg hq;exact zwg hpre  hg hq
    obtain⟨ib,ua,hp⟩:=zrH hp;refine zwo (l:=j) (cmp:=(fun q s=>zui q s)) h.pre (g.wg h) ba ua fun ob va ca=>?_;obtain⟨wa,jb,xa⟩:=g.callX h va ca;refine⟨rfl,?_⟩;obtain⟨ya,za,kb,Aa⟩:=xa.freeze wa;obtain rfl:=oi hp;exact hq _ ya N za.grw Aa
   obtain⟨d,u,hp⟩:=zrH hp;obtain⟨Za,da,F,u⟩:=zrB u;obtain⟨_,Ba⟩:=zsX ha103 u;refine⟨Za,da,(by first|exact F|(rw[ha103.slLen];exact F)),_,_,_,_,_,_,_,_,(Ba _ h.sub).1,?_⟩;intro pb Ca;obtain⟨Da,Ea,P,Fa⟩:=h.blk Ca o 3;have Ga:=i.k P;have g:=g.k P;obtain⟨Ha,Ia,y,S,Ja⟩:=Fa.sto Ea [Il d.Kind,Il d.Parcel,Il d.Other,Il d.From,Il d.To,Il d.Part,Il d.Day.Lo,Il d.Day.Hi];have t:=Ga.k S;have g:=g.k S;refine⟨Ha,Ia,?_⟩;refine⟨trivial,trivial,?_⟩;obtain⟨mb,z,hp⟩:=zrH hp;obtain⟨ab,ea,fa,z⟩:=zrB z;refine⟨ab,ea,fa,_,(t.bk.rc (zr2 (l:=([w.out.o0,w.out.o1,w.out.o2,w.out.o3,w.out.o4,w.out.o5]:List Bool)) (enc:=C.bool) 11 rfl z)),?_⟩;refine zr8 hp (fun Ka hp=>?_) fun Ka hp=>?_; rotate_left
   ·refine gdi hp fun La hp=>?_;exact O _ _ _ _ Da y t g hp
   refine⟨_,_,_,_,_,_,_,_,Ja.bk.ra,?_⟩;obtain⟨T,A,hp⟩:=zrH hp;obtain⟨bb,ga,G,A⟩:=zrB A;refine⟨bb,ga,(by first|exact G|(rw[ha200.slLen];exact G)),_,(ha200.rdI A y.sub),trivial,trivial,?_⟩;obtain⟨Y,B,hp⟩:=zrH hp;obtain⟨cb,ha,ia,B⟩:=zrB B;refine⟨cb,ha,ia,_,(t.bk.rc (zr2 (l:=([w.makes.m0,w.makes.m1,w.makes.m2,w.makes.m3,w.makes.m4,w.makes.m5]:List Int)) (enc:=(C.int .i64)) 5 rfl B)),?_⟩;obtain⟨Ma,hp⟩:=zrI hp;intro qb Na;obtain⟨Oa,Pa,Qa,Ra,Sa,Ta,Ua⟩:=g.app' zwm y (a:=({ e:=d,on:=T,makes:=Y }:Evt)) (show Rp.rep (α:=Evt) f _ ({ e:=d,on:=T,makes:=Y }:Evt) from rfl) Ma Na;have Va:=t.k Ta;refine⟨Oa,Pa,Ra,?_⟩;refine gdi hp fun Wa hp=>?_;exact O _ _ _ _ Qa Sa Va Ua hp
 exact hgo _ _ _ _ _ na oa i sa hp
theorem zwq{w:Wk}{t:Tr}{day:Int}{ca102 ca103 ca200 ca201:C}{m f:M}{Q:V->M->Prop}{rz:List Pl × Bool}(hS:Pre f m)(ha102:Sl f ca102 w.b.Parcels)(ha103:Sl f ca103 w.b.Entries)(ha200:Sl f ca200 t.Days)(ha201:Sl f ca201 t.Sown)(hp:zux w t day=some rz)(hq:∀m',Ext m m'->Q (.tup [.agg 50 (zs3 rz.1),.c (.bool rz.2)]) m'):Wc prog tbl 64 [.agg 17 [Il w.b.Last,Il w.b.Owners,ca102,ca103,Il w.numbers,Il w.makes.m0,Il w.makes.m1,Il w.makes.m2,Il w.makes.m3,Il w.makes.m4,Il w.makes.m5,.bool w.out.o0,.bool w.out.o1,.bool w.out.o2,.bool w.out.o3,.bool w.out.o4,.bool w.out.o5],.agg 2 [ca200,ca201],.c (Il day)] m Q:=by
 have S0:=hS.st;obtain⟨τ0,_⟩:=zsR;refine w64 ?_;unfold zux at hp;intro m0 Ea;obtain⟨Fa,Ga,pc,Ha⟩:=S0.blk Ea τ0 1;intro m1 Ia;obtain⟨Ja,Ka,La,Ma⟩:=Ga.blk Ia Fa 2;have Na:=Ha.k La;intro m2 Oa;obtain⟨ha,ia,ja,G⟩:=Ka.blk Oa Ja 3
 replace G:Lb _ _ _ _ _ _ _ (zs3 (List.replicate 10 ({ owner:=(0:Int),value:=(0:Int),there:=false,harvested:=false,sown:=(0:Int) }:Pl))):=G
 have ka:=Na.k ja;have la:=Ma.k ja;refine⟨_,_,_,_,_,_,_,_,_,_,_,_,_,_,_,_,_,ka.bk.ra,trivial,_,la.bk.rc rfl,?_⟩;obtain⟨Pa,Qa,hp⟩:=zrH hp;refine zwd (w:=w) (sown:=t.Sown) ia.pre ha102 ha103 ha201 Qa fun ic Ra=>?_;obtain⟨Sa,I⟩:=ia.call Ra ha;have Ta:=ka.k I;have Ua:=la.k I;have Va:=G.k I;refine⟨_,rfl,?_⟩;intro zc Wa;obtain⟨ma,Xa,J,N⟩:=Sa.blk Wa ha 4
 replace N:Lb _ _ _ _ _ _ _ (zs3 (List.replicate 10 ({ owner:=(0:Int),value:=(0:Int),there:=false,harvested:=false,sown:=(0:Int) }:Pl))):=N
 have Ya:=Ta.k J;have Za:=Ua.k J;have ab:=Va.k J;obtain⟨bb,cb,db,O,na⟩:=N.sto Xa (zs3 Pa);have eb:=Ya.k O;have fb:=Za.k O;have gb:=ab.k O;refine⟨bb,cb,?_⟩;refine⟨0,10,rfl,rfl,_,zsn (by decide),0,10,rfl,rfl,_,zsn (by decide),?_⟩;obtain⟨qc,hp⟩:=zrI hp;obtain⟨hb,Aa,oa,P,ib⟩:=gb.cpA zwl db na.bk (by rw[zs5]; omega) (by rw[zs5]; omega) (n:=10) (by decide) (by decide);refine⟨_,hb,Aa,?_⟩;have pa:=eb.k P;have qa:=fb.k P;have jb:=na.k P;refine⟨_,_,_,_,_,_,_,_,_,_,_,_,_,_,_,_,_,pa.bk.ra,trivial,_,qa.bk.rc rfl,?_⟩;obtain⟨kb,mb,hp⟩:=zrH hp;refine zwp (w:=w) (days:=t.Days) oa.pre ha102 ha103 ha200 mb fun Ac sa sc ob p=>?_;obtain⟨pb,q⟩:=oa.callG ob ma;have r:=pa.k q;have s:=qa.k q;have i:=ib.k q;have u:=jb.k q;refine⟨_,rfl,p.isSl,?_⟩;intro jc qb
 have hgo:∀(y:Nat) (ta:Bool) (ea:Int) (o:List Pl) (z:List Pl) (j:M) (d:M) (g:Nat->Nat),St (Fm.of m) f d j->Sub sa d->Lb (Fm.of m) d g j 1 m.nxt 17 [Il w.b.Last,Il w.b.Owners,ca102,ca103,Il w.numbers,Il w.makes.m0,Il w.makes.m1,Il w.makes.m2,Il w.makes.m3,Il w.makes.m4,Il w.makes.m5,.bool w.out.o0,.bool w.out.o1,.bool w.out.o2,.bool w.out.o3,.bool w.out.o4,.bool w.out.o5]->Lb (Fm.of m) d g j 2 m0.nxt 2 [ca200,ca201]->Lb (Fm.of m) d g j 3 m1.nxt 50 (zs3 o)->Lb (Fm.of m) d g j 4 ic.nxt 50 (zs3 z)->zuw day kb y o z ea=some rz->jc [.c (.bool ta),.c (Il ea)] j:=by
  intro y
  induction y with
  | zero=>intro ta ea o z j d g A l r s i u hp; cases hp
  | succ y fa=>
   intro ta ea o z j d g A l r s i u hp;refine qb _ _ _ ?_;rw[zuw] at hp
   try rw[p.slLen]
   refine ifd hp (fun rb hp=>?_) fun rb hp=>?_; rotate_left
   ·refine⟨_,i.bk.ra,?_⟩;obtain⟨sb,tb,ub,tc,vb⟩:=i.sto A (zs3 o);refine⟨sb,tb,?_⟩;refine⟨_,vb.bk.ra,?_⟩;obtain rfl:=oi hp;exact hq _ ub.ext'
   obtain⟨a,S,hp⟩:=zrH hp;obtain⟨kc,Ba,ga,S⟩:=zrB S;obtain⟨_,wb⟩:=zs6 p S;refine⟨kc,Ba,(by first|exact ga|(rw[p.slLen];exact ga)),_,_,_,_,_,_,_,_,_,_,(wb _ (Sub.trans l A.sub)).1,?_⟩;intro Bc xb;obtain⟨T,yb,B,zb⟩:=A.blk xb g 5;have Ab:=r.k B;have Bb:=s.k B;have Cb:=i.k B;have Db:=u.k B;obtain⟨Eb,Fb,ua,D,Y⟩:=zb.sto yb [Il a.e.Kind,Il a.e.Parcel,Il a.e.Other,Il a.e.From,Il a.e.To,Il a.e.Part,Il a.e.Day.Lo,Il a.e.Day.Hi,Il a.on,Il a.makes];have Gb:=Ab.k D;have Hb:=Bb.k D;have Ib:=Cb.k D;have Jb:=Db.k D;refine⟨Eb,Fb,?_⟩;refine⟨trivial,trivial,_,Y.bk.rc rfl,?_⟩;obtain⟨uc,Kb,hp⟩:=zrH hp;refine zwj (n:=a.e.Kind) ua.pre  Kb fun Cc va vc Mb Nb=>?_;obtain⟨Z,h⟩:=ua.callG Mb T;have Ob:=Gb.k h;have Pb:=Hb.k h;have Qb:=Ib.k h;have wa:=Jb.k h;have xa:=Y.k h;refine⟨_,rfl,_,_,_,_,_,_,_,_,_,_,xa.bk.ra,(Y.bk.ra),?_⟩;obtain⟨wc,Rb,hp⟩:=zrH hp;refine Nb _ _ _ _ _ _ _ (Sub.refl _) Z.pre (wa.lc Z)  Rb fun Dc Sb Ca=>?_;obtain⟨aa,F,ba⟩:=wa.callX Z Sb Ca;have ya:=Ob.k F;have za:=Pb.k F;have ca:=Qb.k F;have Tb:=xa.k F;refine⟨_,rfl,?_⟩;refine zr8 hp (fun Ub hp=>?_) fun Ub hp=>?_
   ·obtain⟨Vb,Wb,Xb,xc,Yb⟩:=ca.sto aa (zs3 (List.replicate 10 ({ owner:=(0:Int),value:=(0:Int),there:=false,harvested:=false,sown:=(0:Int) }:Pl)));refine⟨Vb,Wb,?_⟩;refine⟨_,Yb.bk.ra,?_⟩;obtain rfl:=oi hp;exact hq _ Xb.ext'
   refine⟨trivial,_,Tb.bk.rc rfl,?_⟩;refine ifd hp (fun Zb hp=>?_) fun Zb hp=>?_; rotate_left
   ·refine gdi hp fun ac hp=>?_;exact fa _ _ _ _ _ va T aa (Sub.trans l h.fs) ya za ca ba hp
   refine⟨0,10,rfl,rfl,_,zsn (by decide),0,10,rfl,rfl,_,zsn (by decide),?_⟩;obtain⟨yc,hp⟩:=zrI hp;obtain⟨bc,Da,cc,da,dc⟩:=ca.cpA zwl aa ba.bk (by rw[zs5]; omega) (by rw[zs5]; omega) (n:=10) (by decide) (by decide);refine⟨_,bc,Da,?_⟩;have ec:=ya.k da;have fc:=za.k da;have gc:=ba.k da;refine gdi hp fun hc hp=>?_;exact fa _ _ _ _ _ va T cc (Sub.trans l h.fs) ec fc dc gc hp
 exact hgo _ _ _ _ _ _ sa ma pb (Sub.refl _) r s i u hp
theorem zwr{b:Boo}{t:Tr}{day:Int}{ca102 ca103 ca200 ca201:C}{m f:M}{Q:V->M->Prop}{rz:List Hd × Int}(hS:Pre f m)(ha102:Sl f ca102 b.Parcels)(ha103:Sl f ca103 b.Entries)(ha200:Sl f ca200 t.Days)(ha201:Sl f ca201 t.Sown)(hp:zuz b t day=some rz)(hq:∀m' f' c0,Grw m f m' f'->Sl f' c0 rz.1->Q (.tup [.c c0,.c (Il rz.2)]) m'):Wc prog tbl 19 [.agg 4 [Il b.Last,Il b.Owners,ca102,ca103],.agg 2 [ca200,ca201],.c (Il day)] m Q:=by
 have S0:=hS.st;obtain⟨τ0,_⟩:=zsR;refine w19 ?_;unfold zuz at hp;intro m0 Qa;obtain⟨Ra,Sa,Gc,Ta⟩:=S0.blk Qa τ0 1;intro m1 Ua;obtain⟨Z,pa,Va,Wa⟩:=Sa.blk Ua Ra 2;have qa:=Ta.k Va;refine⟨_,_,_,_,qa.bk.ra,?_⟩;obtain⟨Hc,Xa,hp⟩:=zrH hp;refine zv4 (b:=b) pa.pre ha102 ha103 Xa fun m7 Ya=>?_;obtain⟨aa,sa⟩:=pa.call Ya Z;have ta:=qa.k sa;have Za:=Wa.k sa;refine⟨_,rfl,?_⟩;refine zr6 hp (fun ab hp=>?_) fun ab hp=>?_
 ·obtain rfl:=oi hp;exact hq _ f .sl0 aa.grw (Sl.nil _)
 refine⟨_,_,_,_,ta.bk.ra,?_⟩;obtain⟨d,bb,hp⟩:=zrH hp;refine zv0 (b:=b) aa.pre ha102 ha103 bb fun wc g ua va cb ba ca=>?_;obtain⟨db,q⟩:=aa.callG cb Z;have eb:=ta.k q;have fb:=Za.k q;refine⟨_,_,_,_,_,_,_,_,_,_,_,_,_,_,_,_,_,rfl,?_⟩;intro Rc gb;obtain⟨A,hb,wa,ib⟩:=db.blk gb Z 3;have jb:=eb.k wa;have kb:=fb.k wa;obtain⟨mb,ob,xa,ya,za⟩:=ib.sto hb [Il d.b.Last,Il d.b.Owners,ua,va,Il d.numbers,Il d.makes.m0,Il d.makes.m1,Il d.makes.m2,Il d.makes.m3,Il d.makes.m4,Il d.makes.m5,.bool d.out.o0,.bool d.out.o1,.bool d.out.o2,.bool d.out.o3,.bool d.out.o4,.bool d.out.o5];have pb:=jb.k ya;have Aa:=kb.k ya;refine⟨mb,ob,?_⟩;refine⟨_,_,_,_,_,_,_,_,_,_,_,_,_,_,_,_,_,za.bk.ra,_,_,Aa.bk.ra,?_⟩;obtain⟨Ic,qb,hp⟩:=zrH hp;refine zv5 (w:=d) (t:=t) xa.pre ba ca (ha200.sub q.fs) (ha201.sub q.fs) qb fun Tc rb=>?_;obtain⟨da,ea⟩:=xa.call rb A;have sb:=pb.k ea;have tb:=Aa.k ea;have Ba:=za.k ea;refine⟨_,rfl,?_⟩;refine zr8 hp (fun ub hp=>?_) fun ub hp=>?_
 ·obtain rfl:=oi hp;exact hq _ g .sl0 da.grw (Sl.nil _)
 refine⟨_,_,_,_,_,_,_,_,_,_,_,_,_,_,_,_,_,Ba.bk.ra,?_⟩;obtain⟨Jc,vb,hp⟩:=zrH hp;refine zvM (w:=d) (n:=day) da.pre ba ca vb fun Uc wb=>?_;obtain⟨fa,ga⟩:=da.call wb A;have xb:=sb.k ga;have Ca:=tb.k ga;have Da:=Ba.k ga;refine⟨_,rfl,?_⟩;refine zr8 hp (fun yb hp=>?_) fun yb hp=>?_
 ·obtain rfl:=oi hp;exact hq _ g .sl0 fa.grw (Sl.nil _)
 refine⟨_,_,_,_,_,_,_,_,_,_,_,_,_,_,_,_,_,Da.bk.ra,_,_,Ca.bk.ra,?_⟩;obtain⟨B,zb,hp⟩:=zrH hp;refine zwq (w:=d) (t:=t) (day:=day) fa.pre ba ca (ha200.sub q.fs) (ha201.sub q.fs) zb fun xc Ab=>?_;obtain⟨Bb,ha⟩:=fa.call Ab A;have Cb:=xb.k ha;have Db:=Ca.k ha;have Eb:=Da.k ha;refine⟨_,_,rfl,?_⟩;intro Vc Fb;obtain⟨Gb,Hb,ia,ja⟩:=Bb.blk Fb A 4
 replace ja:Lb _ _ _ _ _ _ _ (zs3 (List.replicate 10 ({ owner:=(0:Int),value:=(0:Int),there:=false,harvested:=false,sown:=(0:Int) }:Pl))):=ja
 have Ib:=Cb.k ia;have Jb:=Db.k ia;have Kb:=Eb.k ia;obtain⟨ka,Mb,Ea,la,Nb⟩:=ja.sto Hb (zs3 B.1);have Ob:=Ib.k la;have Pb:=Jb.k la;have Fa:=Kb.k la;refine⟨ka,Mb,?_⟩;refine zr8 hp (fun Qb hp=>?_) fun Qb hp=>?_
 ·obtain rfl:=oi hp;exact hq _ g .sl0 Ea.grw (Sl.nil _)
 refine⟨trivial,_,Fa.bk.rc rfl,?_⟩;obtain⟨Kc,hp⟩:=zrI hp;obtain⟨o,ma⟩:∃n:Nat,d.numbers=(n:Int):=⟨Int.toNat d.numbers,by omega⟩
 have Ja:Int.toNat d.numbers=o:=by omega
 refine⟨o,o,ma,ma,Nat.le_refl _,(by omega),?_⟩;intro Nc Rb;obtain⟨Sb,Tb,D,Ub⟩:=Ea.blk Rb Gb 5;have e:=Lb.mkS (β:=Hd) (a:=({ There:=false,Covered:=false,Owner:=(0:Int),Value:=(0:Int) }:Hd)) Ub rfl Ja;have F:=Ob.k D;have G:=Pb.k D;have I:=Fa.k D;have u:=Nb.k D;refine⟨e.isSl,?_⟩;intro Vb Ka
 have hgo:∀(J:Nat) (r:Int) (s:List Hd) (i:M) (j:Nat->Nat),St (Fm.of m) f g i->Lb (Fm.of m) g j i 1 m.nxt 4 [Il b.Last,Il b.Owners,ca102,ca103]->Lb (Fm.of m) g j i 2 m0.nxt 2 [ca200,ca201]->Lb (Fm.of m) g j i 3 wc.nxt 17 [Il d.b.Last,Il d.b.Owners,ua,va,Il d.numbers,Il d.makes.m0,Il d.makes.m1,Il d.makes.m2,Il d.makes.m3,Il d.makes.m4,Il d.makes.m5,.bool d.out.o0,.bool d.out.o1,.bool d.out.o2,.bool d.out.o3,.bool d.out.o4,.bool d.out.o5]->Lb (Fm.of m) g j i 4 xc.nxt 50 (zs3 B.1)->Ow (Fm.of m) g j i 5 (.sl ka.nxt 0 o 0 (some o)) s->zuy day B J r s=some rz->Vb [.c (Il r)] i:=by
  intro J
  induction J with
  | zero=>intro r s i j N F G I u e hp; cases hp
  | succ J Ga=>
   intro r s i j N F G I u e hp;refine Ka _ _ ?_;rw[zuy] at hp
   try rw[e.slLen]
   refine ifd hp (fun Wb hp=>?_) fun Wb hp=>?_; rotate_left
   ·obtain⟨Xb,Yb,Oc,Zb⟩:=e.freeze N;obtain rfl:=oi hp;exact hq _ Xb (.sl ka.nxt 0 o 0 (some o)) Yb.grw Zb
   refine⟨trivial,?_⟩;obtain⟨ac,hp⟩:=zrI hp;obtain⟨Ha,La,Ma⟩:=zr3 ac;obtain⟨bc,hp⟩:=zrI hp
   have Na:B.1.length * 5=50:=by rw[bc]
   obtain⟨cc,O,hp⟩:=zrH hp;obtain⟨Oa,zc,Ac,O⟩:=zrB O
   have Pa:Oa=Ha:=by omega
   rw[Pa] at O;refine⟨Ha,La,Ma,_,_,_,_,_,(u.bk.rs zs4 Na O),?_⟩;obtain⟨l,dc,hp⟩:=zrH hp;refine zv8 (p:=cc) (day:=day) N.pre  dc fun Qc ec=>?_;obtain⟨fc,y⟩:=N.call ec j;have gc:=F.k y;have hc:=G.k y;have ic:=I.k y;have jc:=u.k y;have e:=e.k y;refine⟨_,_,_,_,rfl,?_⟩;obtain⟨P,z,hp⟩:=zrH hp;obtain⟨S,T,na,z⟩:=zrB z;refine⟨S,T,(by first|exact na|(rw[e.slLen];exact na)),?_⟩;obtain⟨kc,nc,oc,Y,Ia⟩:=e.setP fc (a':=l) z [.bool P.There,.bool P.Covered,Il P.Owner,Il P.Value] (fun _ h=>h) 0 [.bool l.There,.bool l.Covered,Il l.Owner,Il l.Value] (Nat.le_of_ble_eq_true rfl) rfl
   have oa:Int.toNat r=S:=by rw[T]; rfl
   rw[<- oa] at Ia;have Bc:=T;have pc:(s.set (Int.toNat r) l)[S]? = some l:=(congrArg (fun z9_=>(s.set z9_ l)[S]?) oa).trans (List.getElem?_set_self (List.getElem?_eq_some_iff.1 z).1);have Cc:=(List.getElem?_eq_some_iff.1 pc).1;have qc:=gc.k Y;have sc:=hc.k Y;have tc:=ic.k Y;have uc:=jc.k Y;refine⟨kc,(by have h9:=nc; rw[e.add0 z] at h9; exact h9),?_⟩;refine gdi hp fun vc hp=>?_;exact Ga _ _ _ j oc qc sc tc uc Ia hp
 exact hgo _ _ _ _ Sb Tb F G I u e hp
theorem zws{w:Wk}{t:Tr}{ca102 ca103 ca200 ca201:C}{m f:M}{Q:V->M->Prop}{rz:Bool}(hS:Pre f m)(ha102:Sl f ca102 w.b.Parcels)(ha103:Sl f ca103 w.b.Entries)(ha200:Sl f ca200 t.Days)(ha201:Sl f ca201 t.Sown)(hp:zuD w t=some rz)(hq:∀m',Ext m m'->Q (.c (.bool rz)) m'):Wc prog tbl 66 [.agg 17 [Il w.b.Last,Il w.b.Owners,ca102,ca103,Il w.numbers,Il w.makes.m0,Il w.makes.m1,Il w.makes.m2,Il w.makes.m3,Il w.makes.m4,Il w.makes.m5,.bool w.out.o0,.bool w.out.o1,.bool w.out.o2,.bool w.out.o3,.bool w.out.o4,.bool w.out.o5],.agg 2 [ca200,ca201]] m Q:=by
 have F:=hS.st;obtain⟨G,_⟩:=zsR;refine w66 ?_;unfold zuD at hp;intro m0 h;obtain⟨i,j,I,l⟩:=F.blk h G 1;intro m1 n;obtain⟨d,e,o,p⟩:=j.blk n i 2;have g:=l.k o;refine⟨_,_,_,_,_,_,_,_,_,_,_,_,_,_,_,_,_,g.bk.ra,_,_,p.bk.ra,trivial,trivial,_,g.bk.rc rfl,?_⟩;obtain⟨q,r,hp⟩:=zrH hp;refine zwq (w:=w) (t:=t) (day:=w.b.Last) e.pre ha102 ha103 ha200 ha201 r fun T s=>?_;obtain⟨u,J⟩:=e.call s d;refine⟨_,_,rfl,?_⟩;intro Y y;obtain⟨N,z,O,a⟩:=u.blk y d 3
 replace a:Lb _ _ _ _ _ _ _ (zs3 (List.replicate 10 ({ owner:=(0:Int),value:=(0:Int),there:=false,harvested:=false,sown:=(0:Int) }:Pl))):=a
 obtain⟨A,B,D,P,S⟩:=a.sto z (zs3 q.1);refine⟨A,B,?_⟩;obtain rfl:=oi hp;exact hq _ D.ext'
theorem zwt{b:Boo}{t:Tr}{ca102 ca103 ca200 ca201:C}{m f:M}{Q:V->M->Prop}{rz:Bool}(hS:Pre f m)(ha102:Sl f ca102 b.Parcels)(ha103:Sl f ca103 b.Entries)(ha200:Sl f ca200 t.Days)(ha201:Sl f ca201 t.Sown)(hp:zuK b t=some rz)(hq:∀m',Ext m m'->Q (.c (.bool rz)) m'):Wc prog tbl 22 [.agg 4 [Il b.Last,Il b.Owners,ca102,ca103],.agg 2 [ca200,ca201]] m Q:=by
 have S0:=hS.st;obtain⟨τ0,_⟩:=zsR;refine w22 ?_;unfold zuK at hp;intro m0 y;obtain⟨z,A,ta,B⟩:=S0.blk y τ0 1;intro m1 D;obtain⟨e,i,F,G⟩:=A.blk D z 2;have j:=B.k F;refine⟨_,_,_,_,j.bk.ra,?_⟩;obtain⟨ua,I,hp⟩:=zrH hp;refine zv4 (b:=b) i.pre ha102 ha103 I fun m7 J=>?_;obtain⟨g,l⟩:=i.call J e;have N:=j.k l;have O:=G.k l;refine⟨_,rfl,?_⟩;refine zr6 hp (fun P hp=>?_) fun P hp=>?_
 ·obtain rfl:=oi hp;exact hq _ g.ext'
 refine⟨_,_,_,_,N.bk.ra,?_⟩;obtain⟨a,S,hp⟩:=zrH hp;refine zv0 (b:=b) g.pre ha102 ha103 S fun Ba va T Y Z n o=>?_;obtain⟨aa,d⟩:=g.callG Z e;have ba:=O.k d;refine⟨_,_,_,_,_,_,_,_,_,_,_,_,_,_,_,_,_,rfl,?_⟩;intro Ca ca;obtain⟨p,da,ea,fa⟩:=aa.blk ca e 3;have ga:=ba.k ea;obtain⟨ha,ia,q,ja,r⟩:=fa.sto da [Il a.b.Last,Il a.b.Owners,T,Y,Il a.numbers,Il a.makes.m0,Il a.makes.m1,Il a.makes.m2,Il a.makes.m3,Il a.makes.m4,Il a.makes.m5,.bool a.out.o0,.bool a.out.o1,.bool a.out.o2,.bool a.out.o3,.bool a.out.o4,.bool a.out.o5];have s:=ga.k ja;refine⟨ha,ia,?_⟩;refine⟨_,_,_,_,_,_,_,_,_,_,_,_,_,_,_,_,_,r.bk.ra,_,_,s.bk.ra,?_⟩;obtain⟨wa,ka,hp⟩:=zrH hp;refine zv5 (w:=a) (t:=t) q.pre n o (ha200.sub d.fs) (ha201.sub d.fs) ka fun Da la=>?_;obtain⟨h,u⟩:=q.call la p;have ma:=s.k u;have na:=r.k u;refine⟨_,rfl,?_⟩;refine zr7 hp (fun oa hp=>?_) fun oa hp=>?_; rotate_left
 ·obtain rfl:=oi hp;exact hq _ h.ext'
 refine⟨_,_,_,_,_,_,_,_,_,_,_,_,_,_,_,_,_,na.bk.ra,_,_,ma.bk.ra,?_⟩;obtain⟨xa,pa,hp⟩:=zrH hp;refine zws (w:=a) (t:=t) h.pre n o (ha200.sub d.fs) (ha201.sub d.fs) pa fun Ea qa=>?_;obtain⟨sa,ya⟩:=h.call qa p;refine⟨_,rfl,?_⟩;obtain rfl:=oi hp;exact hq _ sa.ext'
theorem zwu{b:Boo}{ca102 ca103:C}{m f:M}{Q:V->M->Prop}{rz:Int}(hS:Pre f m)(ha102:Sl f ca102 b.Parcels)(ha103:Sl f ca103 b.Entries)(hp:zuL b=some rz)(hq:∀m',Ext m m'->Q (.c (Il rz)) m'):Wc prog tbl 23 [.agg 4 [Il b.Last,Il b.Owners,ca102,ca103]] m Q:=by
 have p:=hS.st;obtain⟨q,_⟩:=zsR;refine w23 ?_;unfold zuL at hp;intro r d;obtain⟨e,a,l,g⟩:=p.blk d q 1;refine⟨_,_,_,_,g.bk.ra,?_⟩;obtain⟨n,h,hp⟩:=zrH hp;refine zvx (b:=b) a.pre ha102 ha103 h fun s i=>?_;obtain⟨j,o⟩:=a.call i e;refine⟨_,rfl,?_⟩;obtain rfl:=oi hp;exact hq _ j.ext'
theorem zwv{b:Boo}{ca102 ca103:C}{m f:M}{Q:V->M->Prop}{rz:Bool}(hS:Pre f m)(ha102:Sl f ca102 b.Parcels)(ha103:Sl f ca103 b.Entries)(hp:zuM b=some rz)(hq:∀m',Ext m m'->Q (.c (.bool rz)) m'):Wc prog tbl 49 [.agg 4 [Il b.Last,Il b.Owners,ca102,ca103]] m Q:=by
 have y:=hS.st;obtain⟨z,_⟩:=zsR;refine w49 ?_;unfold zuM at hp;intro B h;obtain⟨d,e,s,g⟩:=y.blk h z 1;refine⟨_,_,_,_,g.bk.ra,?_⟩;obtain⟨t,i,hp⟩:=zrH hp;refine zvI (b:=b) e.pre ha102 ha103 i fun D j=>?_;obtain⟨a,l⟩:=e.call j d;have n:=g.k l;refine⟨_,rfl,?_⟩;refine zr7 hp (fun o hp=>?_) fun o hp=>?_; rotate_left
 ·obtain rfl:=oi hp;exact hq _ a.ext'
 refine⟨_,_,_,_,n.bk.ra,?_⟩;obtain⟨u,p,hp⟩:=zrH hp;refine zwu (b:=b) a.pre ha102 ha103 p fun A q=>?_;obtain⟨r,w⟩:=a.call q d;refine⟨_,rfl,?_⟩;obtain rfl:=oi hp;exact hq _ r.ext'
theorem zww{b:Boo}{n:Int}{ca102 ca103:C}{m f:M}{Q:V->M->Prop}{rz:Tr × Bool}(hS:Pre f m)(ha102:Sl f ca102 b.Parcels)(ha103:Sl f ca103 b.Entries)(hp:zuN b n=some rz)(hq:∀m' f' c0 c1,Grw m f m' f'->Sl f' c0 rz.1.Days->Sl f' c1 rz.1.Sown->Q (.tup [.agg 2 [c0,c1],.c (.bool rz.2)]) m'):Wc prog tbl 50 [.agg 4 [Il b.Last,Il b.Owners,ca102,ca103],.c (Il n)] m Q:=by
 have S0:=hS.st;obtain⟨τ0,_⟩:=zsR;refine w50 ?_;unfold zuN at hp;intro m0 D;obtain⟨F,G,Ja,I⟩:=S0.blk D τ0 1;intro m1 J;obtain⟨N,O,P,S⟩:=G.blk J F 2;have T:=I.k P;intro m2 Y;obtain⟨e,o,p,B⟩:=O.growK Y N 3;have g:=T.k p;have Z:=S.k p;have aa:=B 0 (by decide);refine⟨_,_,_,_,g.bk.ra,_,_,_,_,g.bk.ra,?_⟩;obtain⟨ba,ca,hp⟩:=zrH hp;refine zvw (b:=b) o.pre ha102 ha103 ca fun Ra da=>?_;obtain⟨q,h⟩:=o.call da e;have r:=g.k h;have ea:=Z.k h;have fa:=aa.k h;refine⟨_,rfl,(by rw[show zaL cmC _=true from zqg (zrL rfl (zrL rfl (zrL ha102.noFn (zrL ha103.noFn zrM))))]; exact(r.bk.ra)),?_⟩;refine gdi hp fun ga hp=>?_;refine gdi hp fun ha hp=>?_;refine gdi hp fun ia hp=>?_;obtain⟨ja,ka,hp⟩:=zrH hp;refine zvy (b:=b) (n:=(n % ba)) q.pre ha102 ha103 ka fun Sa Ka i j la s u=>?_;obtain⟨ma,a⟩:=q.callG la e;have na:=r.k a;have oa:=ea.k a;have pa:=fa.k a;refine⟨_,_,rfl,?_⟩;intro Ta qa;obtain⟨sa,w,ta⟩:=pa.set ma qa;have l:=na.k w;have ua:=oa.k w;refine⟨(by rw[show zaL cmC _=true from zqg (zrL rfl (zrL rfl (zrL ha102.noFn (zrL ha103.noFn zrM))))]; exact(l.bk.ra)),(by rw[show zaL cmC _=true from zqg (zrL rfl (zrL rfl (zrL ha102.noFn (zrL ha103.noFn zrM))))]; exact(l.bk.ra)),?_⟩;obtain⟨va,wa,y,z,A⟩:=ta.sto sa [i,j];have xa:=l.k z;have ya:=ua.k z;refine⟨va,wa,?_⟩;refine⟨_,_,_,_,xa.bk.ra,_,_,A.bk.ra,?_⟩;obtain⟨La,za,hp⟩:=zrH hp;refine zvC (b:=b) (t:=ja) (day:=(0:Int)) (out_:=(0:Int)) y.pre (ha102.sub a.fs) (ha103.sub a.fs) s u za fun Ua Aa Ma Ba Na=>?_
 obtain⟨Ca,d⟩:=y.callG Ba e;have Da:=ya.k d;have Ea:=A.k d;refine⟨_,_,rfl,_,_,Ea.bk.ra,?_⟩;obtain⟨Fa,Ga,Ha,Oa,Ia⟩:=Da.sto Ca [i,j];refine⟨Fa,Ga,?_⟩;refine⟨_,_,Ia.bk.ra,?_⟩;obtain rfl:=oi hp;exact hq _ Aa i j Ha.grw (s.sub d.fs) (u.sub d.fs)
theorem zwx{b:Boo}{t:Tr}{day:Int}{ca102 ca103 ca200 ca201:C}{m f:M}{Q:V->M->Prop}{rz:Bool}(hS:Pre f m)(ha102:Sl f ca102 b.Parcels)(ha103:Sl f ca103 b.Entries)(ha200:Sl f ca200 t.Days)(ha201:Sl f ca201 t.Sown)(hp:zuP b t day=some rz)(hq:∀m',Ext m m'->Q (.c (.bool rz)) m'):Wc prog tbl 3 [.agg 4 [Il b.Last,Il b.Owners,ca102,ca103],.agg 2 [ca200,ca201],.c (Il day)] m Q:=by
 have S0:=hS.st;obtain⟨τ0,_⟩:=zsR;refine w3 ?_;unfold zuP at hp;intro m0 db;obtain⟨eb,fb,ue,gb⟩:=S0.blk db τ0 1;intro m1 hb;obtain⟨e,ma,ib,jb⟩:=fb.blk hb eb 2;have na:=gb.k ib;refine⟨_,_,_,_,na.bk.ra,?_⟩;obtain⟨ve,kb,hp⟩:=zrH hp;refine zvI (b:=b) ma.pre ha102 ha103 kb fun m7 mb=>?_;obtain⟨u,oa⟩:=ma.call mb e;have pa:=na.k oa;have I:=jb.k oa;refine⟨_,rfl,?_⟩;refine zr8 hp (fun ob hp=>?_) fun ob hp=>?_
 ·obtain⟨we,pb,hp⟩:=zrH hp;refine zvq u.pre  pb fun Uf qb=>?_;obtain⟨rb,xe⟩:=u.call qb e;refine⟨_,rfl,?_⟩;obtain rfl:=oi hp;exact hq _ rb.ext'
 refine⟨trivial,_,I.bk.rc rfl,ha200.isSl,?_⟩
 try rw[ha200.slLen]
 refine ifd hp (fun sb hp=>?_) fun sb hp=>?_
 ·obtain⟨ye,tb,hp⟩:=zrH hp;refine zvq u.pre  tb fun Vf ub=>?_;obtain⟨vb,ze⟩:=u.call ub e;refine⟨_,rfl,?_⟩;obtain rfl:=oi hp;exact hq _ vb.ext'
 refine⟨trivial,_,I.bk.rc rfl,ha201.isSl,?_⟩
 try rw[ha201.slLen]
 refine ifd hp (fun wb hp=>?_) fun wb hp=>?_
 ·obtain⟨Ae,xb,hp⟩:=zrH hp;refine zvq u.pre  xb fun Wf yb=>?_;obtain⟨zb,Be⟩:=u.call yb e;refine⟨_,rfl,?_⟩;obtain rfl:=oi hp;exact hq _ zb.ext'
 refine⟨_,_,_,_,pa.bk.ra,?_⟩;obtain⟨Ab,Bb,hp⟩:=zrH hp;refine zvG (b:=b) u.pre ha102 ha103 Bb fun Xf Ce De Ee Cb Db Eb=>?_;obtain⟨qa,a⟩:=u.callG Cb e;have Fb:=pa.k a;have sa:=I.k a;refine⟨_,_,_,_,rfl,_,_,sa.bk.ra,(by rw[show zaL cmC _=true from zqg (zrL ha200.noFn (zrL ha201.noFn zrM))]; exact(I.bk.ra)),?_⟩;obtain⟨Gb,Hb,hp⟩:=zrH hp;refine zvH (t:=t) qa.pre (ha200.sub a.fs) (ha201.sub a.fs) Hb fun Yf Fe Ge He Ib Jb Kb=>?_;obtain⟨ta,d⟩:=qa.callG Ib e;have Mb:=Fb.k d;have Nb:=sa.k d;refine⟨_,_,rfl,?_⟩;obtain⟨Ob,Pb,hp⟩:=zrH hp;refine zwr (b:=Ab) (t:=Gb) (day:=day) ta.pre (Db.sub d.fs) (Eb.sub d.fs) Jb Kb Pb fun Zf Ie Je Qb j=>?_;obtain⟨ua,g⟩:=ta.callG Qb e;have va:=Mb.k g;have wa:=Nb.k g;refine⟨_,_,rfl,_,_,_,_,va.bk.ra,?_⟩;obtain⟨Rb,Sb,hp⟩:=zrH hp;refine zvG (b:=b) ua.pre (ha102.sub (Sub.trans (Sub.trans a.fs d.fs) g.fs)) (ha103.sub (Sub.trans (Sub.trans a.fs d.fs) g.fs)) Sb fun ag Ke Me Ne Tb Ub Vb=>?_;obtain⟨xa,h⟩:=ua.callG Tb e;have Wb:=va.k h;have ya:=wa.k h;refine⟨_,_,_,_,rfl,_,_,ya.bk.ra,(by rw[show zaL cmC _=true from zqg (zrL ha200.noFn (zrL ha201.noFn zrM))]; exact(wa.bk.ra)),?_⟩;obtain⟨Xb,Yb,hp⟩:=zrH hp;refine zvH (t:=t) xa.pre (ha200.sub (Sub.trans (Sub.trans (Sub.trans a.fs d.fs) g.fs) h.fs)) (ha201.sub (Sub.trans (Sub.trans (Sub.trans a.fs d.fs) g.fs) h.fs)) Yb fun bg Oe Pe Qe Zb ac bc=>?_;obtain⟨za,i⟩:=xa.callG Zb e;have cc:=Wb.k i;have dc:=ya.k i;refine⟨_,_,rfl,?_⟩;obtain⟨Re,ec,hp⟩:=zrH hp;refine zwt (b:=Rb) (t:=Xb) za.pre (Ub.sub i.fs) (Vb.sub i.fs) ac bc ec fun cg fc=>?_
 obtain⟨Aa,Ba⟩:=za.call fc e;have Ca:=cc.k Ba;have gc:=dc.k Ba;refine⟨_,rfl,_,_,_,_,Ca.bk.ra,?_⟩;obtain⟨Se,hc,hp⟩:=zrH hp;refine zwu (b:=b) Aa.pre (ha102.sub (Sub.trans (Sub.trans (Sub.trans (Sub.trans a.fs d.fs) g.fs) h.fs) i.fs)) (ha103.sub (Sub.trans (Sub.trans (Sub.trans (Sub.trans a.fs d.fs) g.fs) h.fs) i.fs)) hc fun dg ic=>?_;obtain⟨Da,Ea⟩:=Aa.call ic e;have Fa:=Ca.k Ea;have jc:=gc.k Ea;refine⟨_,rfl,_,_,_,_,Fa.bk.ra,?_⟩;obtain⟨kc,nc,hp⟩:=zrH hp;refine zvG (b:=b) Da.pre (ha102.sub (Sub.trans (Sub.trans (Sub.trans (Sub.trans a.fs d.fs) g.fs) h.fs) i.fs)) (ha103.sub (Sub.trans (Sub.trans (Sub.trans (Sub.trans a.fs d.fs) g.fs) h.fs) i.fs)) nc fun eg Te Ue Ve oc pc qc=>?_;obtain⟨Ga,l⟩:=Da.callG oc e;have sc:=Fa.k l;have tc:=jc.k l;refine⟨_,_,_,_,rfl,?_⟩;obtain⟨We,uc,hp⟩:=zrH hp;refine zv4 (b:=kc) Ga.pre pc qc uc fun fg vc=>?_;obtain⟨w,Ha⟩:=Ga.call vc e;have Ia:=sc.k Ha;have Ja:=tc.k Ha;refine⟨_,rfl,?_⟩;refine zr6 hp (fun wc hp=>?_) fun wc hp=>?_
 ·obtain rfl:=oi hp;exact hq _ w.ext'
 refine ifd hp (fun s hp=>?_) fun s hp=>?_; rotate_left
 ·refine zr8 hp (fun xc hp=>?_) fun xc hp=>?_
  ·obtain rfl:=oi hp;exact hq _ w.ext'
  refine zsa s ?_;refine zsa s ?_;refine zsc s ?_;refine ifd hp (fun yc hp=>?_) fun yc hp=>?_; rotate_left
  ·obtain rfl:=oi hp;exact hq _ w.ext'
  refine⟨j.isSl,?_⟩
  try rw[j.slLen]
  refine ifd hp (fun zc hp=>?_) fun zc hp=>?_; rotate_left
  ·obtain rfl:=oi hp;exact hq _ w.ext'
  obtain⟨Xe,Ac,hp⟩:=zrH hp;refine zvq w.pre  Ac fun Gf Bc=>?_;obtain⟨Cc,Ye⟩:=w.call Bc e;refine⟨_,rfl,?_⟩;obtain rfl:=oi hp;exact hq _ Cc.ext'
 refine⟨_,_,_,_,Ia.bk.ra,_,_,Ja.bk.ra,?_⟩;obtain⟨Ze,Dc,hp⟩:=zrH hp;refine zvz (b:=b) (t:=t) w.pre (ha102.sub (Sub.trans (Sub.trans (Sub.trans (Sub.trans (Sub.trans a.fs d.fs) g.fs) h.fs) i.fs) l.fs)) (ha103.sub (Sub.trans (Sub.trans (Sub.trans (Sub.trans (Sub.trans a.fs d.fs) g.fs) h.fs) i.fs) l.fs)) (ha200.sub (Sub.trans (Sub.trans (Sub.trans (Sub.trans (Sub.trans a.fs d.fs) g.fs) h.fs) i.fs) l.fs)) (ha201.sub (Sub.trans (Sub.trans (Sub.trans (Sub.trans (Sub.trans a.fs d.fs) g.fs) h.fs) i.fs) l.fs)) Dc fun gg Ec=>?_;obtain⟨F,Ka⟩:=w.call Ec e;have J:=Ia.k Ka;have Z:=Ja.k Ka;refine⟨_,rfl,?_⟩;refine zr7 hp (fun Fc hp=>?_) fun Fc hp=>?_; rotate_left
 ·refine zr8 hp (fun Gc hp=>?_) fun Gc hp=>?_
  ·obtain rfl:=oi hp;exact hq _ F.ext'
  refine zr9 s ?_;refine⟨_,_,_,_,J.bk.ra,_,_,Z.bk.ra,?_⟩;obtain⟨af,Hc,hp⟩:=zrH hp;refine zvz (b:=b) (t:=t) F.pre (ha102.sub (Sub.trans (Sub.trans (Sub.trans (Sub.trans (Sub.trans a.fs d.fs) g.fs) h.fs) i.fs) l.fs)) (ha103.sub (Sub.trans (Sub.trans (Sub.trans (Sub.trans (Sub.trans a.fs d.fs) g.fs) h.fs) i.fs) l.fs)) (ha200.sub (Sub.trans (Sub.trans (Sub.trans (Sub.trans (Sub.trans a.fs d.fs) g.fs) h.fs) i.fs) l.fs)) (ha201.sub (Sub.trans (Sub.trans (Sub.trans (Sub.trans (Sub.trans a.fs d.fs) g.fs) h.fs) i.fs) l.fs)) Hc fun Hf Ic=>?_;obtain⟨A,Jc⟩:=F.call Ic e;have Kc:=J.k Jc;refine⟨_,rfl,?_⟩;refine zr8 hp (fun Nc hp=>?_) fun Nc hp=>?_
  ·refine ifd hp (fun Oc hp=>?_) fun Oc hp=>?_; rotate_left
   ·obtain rfl:=oi hp;exact hq _ A.ext'
   refine⟨j.isSl,?_⟩
   try rw[j.slLen]
   refine ifd hp (fun Qc hp=>?_) fun Qc hp=>?_; rotate_left
   ·obtain rfl:=oi hp;exact hq _ A.ext'
   obtain⟨bf,Rc,hp⟩:=zrH hp;refine zvq A.pre  Rc fun If Tc=>?_;obtain⟨Uc,cf⟩:=A.call Tc e;refine⟨_,rfl,?_⟩;obtain rfl:=oi hp;exact hq _ Uc.ext'
  refine⟨trivial,_,Kc.bk.rc rfl,?_⟩;obtain⟨df,Vc,hp⟩:=zrH hp;refine zvr (n:=day) (low:=(0:Int)) (high:=b.Last) A.pre  Vc fun Jf Xc=>?_;obtain⟨y,ef⟩:=A.call Xc e;refine⟨_,rfl,?_⟩;refine zr8 hp (fun Yc hp=>?_) fun Yc hp=>?_
  ·refine ifd hp (fun Zc hp=>?_) fun Zc hp=>?_; rotate_left
   ·obtain rfl:=oi hp;exact hq _ y.ext'
   refine⟨j.isSl,?_⟩
   try rw[j.slLen]
   refine ifd hp (fun ad hp=>?_) fun ad hp=>?_; rotate_left
   ·obtain rfl:=oi hp;exact hq _ y.ext'
   obtain⟨gf,bd,hp⟩:=zrH hp;refine zvq y.pre  bd fun Kf cd=>?_;obtain⟨dd,hf⟩:=y.call cd e;refine⟨_,rfl,?_⟩;obtain rfl:=oi hp;exact hq _ dd.ext'
  refine zr9 s ?_;refine ifd hp (fun ed hp=>?_) fun ed hp=>?_; rotate_left
  ·obtain rfl:=oi hp;exact hq _ y.ext'
  refine⟨j.isSl,?_⟩
  try rw[j.slLen]
  refine ifd hp (fun fd hp=>?_) fun fd hp=>?_; rotate_left
  ·obtain rfl:=oi hp;exact hq _ y.ext'
  obtain⟨jf,hd,hp⟩:=zrH hp;refine zvq y.pre  hd fun Lf id=>?_;obtain⟨jd,kf⟩:=y.call id e;refine⟨_,rfl,?_⟩;obtain rfl:=oi hp;exact hq _ jd.ext'
 refine⟨_,_,_,_,J.bk.ra,_,_,Z.bk.ra,?_⟩;obtain⟨kd,ld,hp⟩:=zrH hp;refine zvC (b:=b) (t:=t) (day:=day) (out_:=(0:Int)) F.pre (ha102.sub (Sub.trans (Sub.trans (Sub.trans (Sub.trans (Sub.trans a.fs d.fs) g.fs) h.fs) i.fs) l.fs)) (ha103.sub (Sub.trans (Sub.trans (Sub.trans (Sub.trans (Sub.trans a.fs d.fs) g.fs) h.fs) i.fs) l.fs)) (ha200.sub (Sub.trans (Sub.trans (Sub.trans (Sub.trans (Sub.trans a.fs d.fs) g.fs) h.fs) i.fs) l.fs)) (ha201.sub (Sub.trans (Sub.trans (Sub.trans (Sub.trans (Sub.trans a.fs d.fs) g.fs) h.fs) i.fs) l.fs)) ld fun hg aa lf md o=>?_;obtain⟨ba,q⟩:=F.callG md e;have La:=J.k q;have Ma:=Z.k q;refine⟨_,_,rfl,?_⟩;refine zr8 hp (fun nd hp=>?_) fun nd hp=>?_
 ·obtain rfl:=oi hp;exact hq _ ba.ext'
 refine zr9 s ?_;refine⟨_,_,_,_,La.bk.ra,_,_,Ma.bk.ra,?_⟩;obtain⟨mf,od,hp⟩:=zrH hp;refine zvz (b:=b) (t:=t) ba.pre (ha102.sub (Sub.trans (Sub.trans (Sub.trans (Sub.trans (Sub.trans (Sub.trans a.fs d.fs) g.fs) h.fs) i.fs) l.fs) q.fs)) (ha103.sub (Sub.trans (Sub.trans (Sub.trans (Sub.trans (Sub.trans (Sub.trans a.fs d.fs) g.fs) h.fs) i.fs) l.fs) q.fs)) (ha200.sub (Sub.trans (Sub.trans (Sub.trans (Sub.trans (Sub.trans (Sub.trans a.fs d.fs) g.fs) h.fs) i.fs) l.fs) q.fs)) (ha201.sub (Sub.trans (Sub.trans (Sub.trans (Sub.trans (Sub.trans (Sub.trans a.fs d.fs) g.fs) h.fs) i.fs) l.fs) q.fs)) od fun Mf pd=>?_;obtain⟨B,Na⟩:=ba.call pd e;have Oa:=La.k Na;have qd:=Ma.k Na;refine⟨_,rfl,?_⟩;refine zr8 hp (fun sd hp=>?_) fun sd hp=>?_
 ·refine ifd hp (fun td hp=>?_) fun td hp=>?_; rotate_left
  ·obtain rfl:=oi hp;exact hq _ B.ext'
  refine⟨j.isSl,?_⟩
  try rw[j.slLen]
  refine ifd hp (fun ud hp=>?_) fun ud hp=>?_; rotate_left
  ·obtain rfl:=oi hp;exact hq _ B.ext'
  obtain⟨nf,vd,hp⟩:=zrH hp;refine zvq B.pre  vd fun Nf wd=>?_;obtain⟨xd,pf⟩:=B.call wd e;refine⟨_,rfl,?_⟩;obtain rfl:=oi hp;exact hq _ xd.ext'
 refine⟨trivial,_,Oa.bk.rc rfl,?_⟩;obtain⟨qf,yd,hp⟩:=zrH hp;refine zvr (n:=day) (low:=(0:Int)) (high:=b.Last) B.pre  yd fun Of zd=>?_;obtain⟨p,Pa⟩:=B.call zd e;have Qa:=Oa.k Pa;have Ad:=qd.k Pa;refine⟨_,rfl,?_⟩;refine zr8 hp (fun Bd hp=>?_) fun Bd hp=>?_
 ·refine ifd hp (fun Cd hp=>?_) fun Cd hp=>?_; rotate_left
  ·obtain rfl:=oi hp;exact hq _ p.ext'
  refine⟨j.isSl,?_⟩
  try rw[j.slLen]
  refine ifd hp (fun Dd hp=>?_) fun Dd hp=>?_; rotate_left
  ·obtain rfl:=oi hp;exact hq _ p.ext'
  obtain⟨rf,Ed,hp⟩:=zrH hp;refine zvq p.pre  Ed fun Pf Gd=>?_;obtain⟨Id,sf⟩:=p.call Gd e;refine⟨_,rfl,?_⟩;obtain rfl:=oi hp;exact hq _ Id.ext'
 refine zr9 s ?_;refine zr8 hp (fun Jd hp=>?_) fun Jd hp=>?_
 ·refine ifd hp (fun Ld hp=>?_) fun Ld hp=>?_; rotate_left
  ·obtain rfl:=oi hp;exact hq _ p.ext'
  refine⟨j.isSl,?_⟩
  try rw[j.slLen]
  refine ifd hp (fun Md hp=>?_) fun Md hp=>?_; rotate_left
  ·obtain rfl:=oi hp;exact hq _ p.ext'
  obtain⟨tf,Nd,hp⟩:=zrH hp;refine zvq p.pre  Nd fun Qf Od=>?_;obtain⟨Pd,uf⟩:=p.call Od e;refine⟨_,rfl,?_⟩;obtain rfl:=oi hp;exact hq _ Pd.ext'
 refine zsb s ?_;refine zr6 hp (fun Qd hp=>?_) fun Qd hp=>?_
 ·obtain rfl:=oi hp;exact hq _ p.ext'
 refine⟨j.isSl,_,_,_,_,Qa.bk.ra,?_⟩;obtain⟨vf,Rd,hp⟩:=zrH hp;refine zvu (b:=b) p.pre (ha102.sub (Sub.trans (Sub.trans (Sub.trans (Sub.trans (Sub.trans (Sub.trans a.fs d.fs) g.fs) h.fs) i.fs) l.fs) q.fs)) (ha103.sub (Sub.trans (Sub.trans (Sub.trans (Sub.trans (Sub.trans (Sub.trans a.fs d.fs) g.fs) h.fs) i.fs) l.fs) q.fs)) Rd fun Rf Sd=>?_;obtain⟨ca,Ra⟩:=p.call Sd e;have N:=Qa.k Ra;have O:=Ad.k Ra;refine⟨_,rfl,?_⟩
 try rw[j.slLen]
 refine zr6 hp (fun Td hp=>?_) fun Td hp=>?_
 ·obtain rfl:=oi hp;exact hq _ ca.ext'
 refine⟨o.isSl,j.isSl,?_⟩
 try rw[o.slLen]
 try rw[j.slLen]
 refine zr6 hp (fun Ud hp=>?_) fun Ud hp=>?_
 ·obtain rfl:=oi hp;exact hq _ ca.ext'
 intro oe Vd
 have hgo:∀(P:Nat) (la:Bool) (da:Int) (G:M) (z:Nat->Nat),St (Fm.of m) f aa G->Lb (Fm.of m) aa z G 1 m.nxt 4 [Il b.Last,Il b.Owners,ca102,ca103]->Lb (Fm.of m) aa z G 2 m0.nxt 2 [ca200,ca201]->zuO day Ob kd P da=some rz->oe [.c (.bool la),.c (Il da)] G:=by
  intro P
  induction P with
  | zero=>intro la da G z r N O hp; cases hp
  | succ P Xa=>
   intro la da G z r N O hp;refine Vd _ _ _ ?_;rw[zuO] at hp;refine⟨j.isSl,?_⟩
   try rw[j.slLen]
   refine ifd hp (fun Wd hp=>?_) fun Wd hp=>?_; rotate_left
   ·obtain⟨wf,Xd,hp⟩:=zrH hp;refine zvq r.pre  Xd fun Sf Yd=>?_;obtain⟨Zd,xf⟩:=r.call Yd z;refine⟨_,rfl,?_⟩;obtain rfl:=oi hp;exact hq _ Zd.ext'
   obtain⟨yf,ea,hp⟩:=zrH hp;obtain⟨pe,Ya,ga,ea⟩:=zrB ea;obtain⟨_,Sa⟩:=zs0 j ea;refine⟨pe,Ya,(by first|exact ga|(rw[j.slLen];exact ga)),_,_,_,_,(Sa _ (Sub.trans (Sub.trans (Sub.trans (Sub.trans h.fs i.fs) l.fs) q.fs) r.sub)).1,?_⟩;obtain⟨zf,S,hp⟩:=zrH hp;obtain⟨qe,Za,ha,S⟩:=zrB S;obtain⟨_,Ta⟩:=zs1 o S;refine⟨qe,Za,(by first|exact ha|(rw[o.slLen];exact ha)),(o.isPt S _),_,((Ta _ r.sub).2.1 0 _ rfl),?_⟩;obtain⟨ae,fa,hp⟩:=zrH hp;obtain⟨re,ab,ia,fa⟩:=zrB fa;obtain⟨_,be⟩:=zs1 o fa;refine⟨re,ab,(by first|exact ia|(rw[o.slLen];exact ia)),_,_,_,_,_,(be _ r.sub).1,?_⟩;obtain⟨Af,ce,hp⟩:=zrH hp;refine zvD (x:=ae) (day:=day) r.pre  ce fun Tf de=>?_;obtain⟨D,Ua⟩:=r.call de z;have ee:=N.k Ua;have fe:=O.k Ua;refine⟨_,rfl,((Ta _ D.sub).2.1 0 _ rfl),(Sa _ (Sub.trans (Sub.trans (Sub.trans (Sub.trans h.fs i.fs) l.fs) q.fs) D.sub)).1,?_⟩;obtain⟨Bf,T,hp⟩:=zrH hp;obtain⟨se,bb,ja,T⟩:=zrB T;obtain⟨_,Va⟩:=zs1 o T;refine⟨se,bb,(by first|exact ja|(rw[o.slLen];exact ja)),(o.isPt T _),_,((Va _ D.sub).2.1 2 _ rfl),((Va _ r.sub).2.1 2 _ rfl),?_⟩;obtain⟨Cf,Y,hp⟩:=zrH hp;obtain⟨te,cb,ka,Y⟩:=zrB Y;obtain⟨_,Wa⟩:=zs1 o Y;refine⟨te,cb,(by first|exact ka|(rw[o.slLen];exact ka)),(o.isPt Y _),_,((Wa _ D.sub).2.1 3 _ rfl),((Wa _ r.sub).2.1 3 _ rfl),?_⟩;refine gdi hp fun ge hp=>?_;refine gdi hp fun he hp=>?_;refine gdi hp fun ie hp=>?_;refine gdi hp fun je hp=>?_;refine zr8 hp (fun ke hp=>?_) fun ke hp=>?_
   ·obtain rfl:=oi hp;exact hq _ D.ext'
   refine gdi hp fun me hp=>?_;exact Xa _ _ _ z D ee fe hp
 exact hgo _ _ _ _ e ca N O hp
def zwy(l:List Int):Option (List Int):=(gd (([]:List Int).length+l.length<=1048576) (some ([]++l)))
def zwz(f:List Hd × Int)(e:List Hd × Int):Nat->Int->Option (Bool)
 | 0,_=>none
 | g+1,d=>(if d < (e.1.length:Int) then ((idx f.1 d).bind fun a=>((idx e.1 d).bind fun c=>(gd (znq .i64 a.Owner) (gd (znq .i64 c.Owner) (gd (znq .i64 a.Value) (gd (znq .i64 c.Value) (if ((a.There == c.There) && ((a.Covered == c.Covered) && ((decide (a.Owner=c.Owner)) && (decide (a.Value=c.Value)))))=true then (gd (znq .i64 (d+1)) (zwz f e g (d+1))) else (some false)))))))) else ((zs7).bind fun h=>(some h)))
def zwA(f:List Hd × Int)(e:List Hd × Int):Nat->Int->Option (Bool)
 | 0,_=>none
 | g+1,d=>(if d < (e.1.length:Int) then ((idx f.1 d).bind fun a=>((idx e.1 d).bind fun c=>(gd (znq .i64 a.Owner) (gd (znq .i64 c.Owner) (gd (znq .i64 a.Value) (gd (znq .i64 c.Value) (if ((a.There == c.There) && ((a.Covered == c.Covered) && ((decide (a.Owner=c.Owner)) && (decide (a.Value=c.Value)))))=true then (gd (znq .i64 (d+1)) (zwA f e g (d+1))) else (some false)))))))) else ((zs7).bind fun h=>(some h)))
def zwB(b:Boo)(on:Int)(c:Tr × Bool)(e:Tr × Bool):Nat->(List Int)->Int->Option (Bool)
 | 0,_,_=>none
 | h+1,f,a=>(if a < (c.1.Days.length:Int) then ((idx c.1.Days a).bind fun i=>(if ((znv .i64 on) % (b.Last+(1:Int))) < i then ((idx e.1.Days a).bind fun j=>(if ((znv .i64 on) % (b.Last+(1:Int))) < j then ((idx e.1.Days a).bind fun l=>((idx f a).bind fun _=>(gd (znq .i64 (a+1)) (zwB b on c e h (f.set (Int.toNat a) l) (a+1))))) else (gd (znq .i64 (a+1)) (zwB b on c e h f (a+1))))) else (gd (znq .i64 (a+1)) (zwB b on c e h f (a+1))))) else ((ztz b).bind fun m=>((ztA c.1).bind fun n=>((zuz m n ((znv .i64 on) % (b.Last+(1:Int)))).bind fun g=>((ztz b).bind fun o=>((ztA ({ Days:=f,Sown:=c.1.Sown }:Tr)).bind fun p=>((zuz o p ((znv .i64 on) % (b.Last+(1:Int)))).bind fun d=>(if c.2=true then (if g.2=(0:Int) then (if d.2=(0:Int) then (if (g.1.length:Int)=(d.1.length:Int) then (zwA g d (d.1.length+1) (0:Int)) else (some false)) else (if d.2=(11:Int) then (zwz g d (d.1.length+1) (0:Int)) else (some false))) else (some false)) else (if g.2=(11:Int) then ((zs7).bind fun q=>(some q)) else (some false))))))))))
def zwC(b:Boo)(which:Int)(other:Int)(on:Int):Option (Bool):=((zuM b).bind fun c=>(if c=true then ((zuN b (znv .i64 which)).bind fun a=>((zuN b (znv .i64 other)).bind fun d=>(gd (znq .i64 (b.Last+(1:Int))) (gd ((0:Int)<=(znv .i64 on)) (gd ((0:Int) < (b.Last+(1:Int))) (gd (znq .i64 ((znv .i64 on) % (b.Last+(1:Int)))) ((zwy a.1.Days).bind fun e=>(zwB b on a d 1000000 e (0:Int))))))))) else ((zs7).bind fun f=>(some f))))
end
end Go.Proofs.YtlkgdadfbfafcaaGreat

