/- An evaluator of code, its soundness, and what functions of the program do. Condition: none; a lemma text. -/
import Derived.Test.YtlkgdadfbfafcaaGreatPaG

namespace Go.Proofs.YtlkgdadfbfafcaaGreat
open _root_.Go.Proofs.Tryz
open Go.Abs
set_option maxRecDepth 100000
noncomputable section
def zvw(f:M)(x:C)(g:(List Pl)->Evt->Option (Bool × List Pl)):Prop:=∀(f' m:M) (bp:Nat) (s0:List Pl) (a0:Evt) (r:Bool × List Pl) (Q:V->M->Prop),Sub f f'->Pre f' m->Lc f' m bp 50 (zta s0)->g s0 a0=some r->(∀m',zsk (isB bp) m m'->Bk m' bp 50 (zta r.2)->Q (.c (.bool r.1)) m')->znQ prog tbl [.c (.ptr bp 0),.agg 10 [(.int .i64 a0.e.Kind),(.int .i64 a0.e.Parcel),(.int .i64 a0.e.Other),(.int .i64 a0.e.From),(.int .i64 a0.e.To),(.int .i64 a0.e.Part),(.int .i64 a0.e.Day.Lo),(.int .i64 a0.e.Day.Hi),(.int .i64 a0.on),(.int .i64 a0.makes)]] x m Q
theorem zvw.sub{f m:M}{x:C}{g:(List Pl)->Evt->Option (Bool × List Pl)}(h:zvw f x g)(s:Sub f m):zvw m x g:=fun f' m' bp s0 a0 r Q hs=>h f' m' bp s0 a0 r Q (s.trans hs)
def zvx(f:M)(x:C)(g:Pc->Option (Bool)):Prop:=∀(f' m:M) (a0:Pc) (r:Bool) (Q:V->M->Prop),Sub f f'->Pre f' m->g a0=some r->(∀m',Ext m m'->Q (.c (.bool r)) m')->znQ prog tbl [.agg 4 [(.int .i64 a0.Owner),(.int .i64 a0.Value),(.int .i64 a0.Sown.Lo),(.int .i64 a0.Sown.Hi)]] x m Q
theorem zvx.sub{f m:M}{x:C}{g:Pc->Option (Bool)}(h:zvx f x g)(s:Sub f m):zvx m x g:=fun f' m' a0 r Q hs=>h f' m' a0 r Q (s.trans hs)
def zvy(f:M)(x:C)(g:En->Option (Bool)):Prop:=∀(f' m:M) (a0:En) (r:Bool) (Q:V->M->Prop),Sub f f'->Pre f' m->g a0=some r->(∀m',Ext m m'->Q (.c (.bool r)) m')->znQ prog tbl [.agg 8 [(.int .i64 a0.Kind),(.int .i64 a0.Parcel),(.int .i64 a0.Other),(.int .i64 a0.From),(.int .i64 a0.To),(.int .i64 a0.Part),(.int .i64 a0.Day.Lo),(.int .i64 a0.Day.Hi)]] x m Q
theorem zvy.sub{f m:M}{x:C}{g:En->Option (Bool)}(h:zvy f x g)(s:Sub f m):zvy m x g:=fun f' m' a0 r Q hs=>h f' m' a0 r Q (s.trans hs)
def zvz(f:M)(x:C)(g:Evt->Evt->Option (Int)):Prop:=∀(f' m:M) (a0:Evt) (a1:Evt) (r:Int) (Q:V->M->Prop),Sub f f'->Pre f' m->g a0 a1=some r->(∀m',Ext m m'->Q (.c (.int .i64 r)) m')->znQ prog tbl [.agg 10 [(.int .i64 a0.e.Kind),(.int .i64 a0.e.Parcel),(.int .i64 a0.e.Other),(.int .i64 a0.e.From),(.int .i64 a0.e.To),(.int .i64 a0.e.Part),(.int .i64 a0.e.Day.Lo),(.int .i64 a0.e.Day.Hi),(.int .i64 a0.on),(.int .i64 a0.makes)],.agg 10 [(.int .i64 a1.e.Kind),(.int .i64 a1.e.Parcel),(.int .i64 a1.e.Other),(.int .i64 a1.e.From),(.int .i64 a1.e.To),(.int .i64 a1.e.Part),(.int .i64 a1.e.Day.Lo),(.int .i64 a1.e.Day.Hi),(.int .i64 a1.on),(.int .i64 a1.makes)]] x m Q
theorem zvz.sub{f m:M}{x:C}{g:Evt->Evt->Option (Int)}(h:zvz f x g)(s:Sub f m):zvz m x g:=fun f' m' a0 a1 r Q hs=>h f' m' a0 a1 r Q (s.trans hs)
theorem zvA{f m:M}{x:C}{n:Nat}{a:Evt}(h:∃cs,(ldA m (zns x (n * Rp.k Evt)) (Rp.k Evt)=some cs/\(∀j c,cs[j]? = some c->ldC m (znr (zns x (n * Rp.k Evt)) j)=some c)/\∀j i,0 < i->j+i<=Rp.k Evt->ldA m (znr (zns x (n * Rp.k Evt)) j) i=some ((cs.drop j).take i))/\Rp.rep f cs a):ldA m (zns x (n * 10)) 10=some [.int .i64 a.e.Kind,.int .i64 a.e.Parcel,.int .i64 a.e.Other,.int .i64 a.e.From,.int .i64 a.e.To,.int .i64 a.e.Part,.int .i64 a.e.Day.Lo,.int .i64 a.e.Day.Hi,.int .i64 a.on,.int .i64 a.makes]/\(∀j c,([.int .i64 a.e.Kind,.int .i64 a.e.Parcel,.int .i64 a.e.Other,.int .i64 a.e.From,.int .i64 a.e.To,.int .i64 a.e.Part,.int .i64 a.e.Day.Lo,.int .i64 a.e.Day.Hi,.int .i64 a.on,.int .i64 a.makes]:List C)[j]? = some c->ldC m (znr (zns x (n * 10)) j)=some c)/\∀j i,0 < i->j+i<=10->ldA m (znr (zns x (n * 10)) j) i=some ((([.int .i64 a.e.Kind,.int .i64 a.e.Parcel,.int .i64 a.e.Other,.int .i64 a.e.From,.int .i64 a.e.To,.int .i64 a.e.Part,.int .i64 a.e.Day.Lo,.int .i64 a.e.Day.Hi,.int .i64 a.on,.int .i64 a.makes]:List C).drop j).take i):=by
 obtain⟨cs,q1,q2⟩:=h;have q2:cs=_:=q2;subst q2;exact q1
theorem zvB{f m:M}{x:C}{n:Nat}{a:Fd}(h:∃cs,(ldA m (zns x (n * Rp.k Fd)) (Rp.k Fd)=some cs/\(∀j c,cs[j]? = some c->ldC m (znr (zns x (n * Rp.k Fd)) j)=some c)/\∀j i,0 < i->j+i<=Rp.k Fd->ldA m (znr (zns x (n * Rp.k Fd)) j) i=some ((cs.drop j).take i))/\Rp.rep f cs a):ldA m (zns x (n * 5)) 5=some [.bool a.There,.bool a.Gone,.int .i64 a.Owner,.int .i64 a.Value,.int .i64 a.Sown]/\(∀j c,([.bool a.There,.bool a.Gone,.int .i64 a.Owner,.int .i64 a.Value,.int .i64 a.Sown]:List C)[j]? = some c->ldC m (znr (zns x (n * 5)) j)=some c)/\∀j i,0 < i->j+i<=5->ldA m (znr (zns x (n * 5)) j) i=some ((([.bool a.There,.bool a.Gone,.int .i64 a.Owner,.int .i64 a.Value,.int .i64 a.Sown]:List C).drop j).take i):=by
 obtain⟨cs,q1,q2⟩:=h;have q2:cs=_:=q2;subst q2;exact q1
theorem zvC:TA prog 26 1:=⟨3,by kernel_rfl,by kernel_rfl,by kernel_rfl⟩
theorem zvD:TA prog 35 4:=⟨88,by kernel_rfl,by kernel_rfl,by kernel_rfl⟩
theorem zvE:TA prog 36 8:=⟨85,by kernel_rfl,by kernel_rfl,by kernel_rfl⟩
theorem zvF:TA prog 45 5:=⟨54,by kernel_rfl,by kernel_rfl,by kernel_rfl⟩
theorem zvG:TA prog 132 2:=⟨172,by kernel_rfl,by kernel_rfl,by kernel_rfl⟩
theorem zvH{m f:M}{Q:V->M->Prop}{rz:Bool}(_hS:Pre f m)(hp:zte=some rz)(hq:∀m',Ext m m'->Q (.c (.bool rz)) m'):Wc prog tbl 18 [] m Q:=by
 obtain rfl:=oi hp;exact zq3 (show zlB tbl 18=some true from rfl) (hq _ (.refl m))
theorem zvI{n:Int}{low:Int}{high:Int}{m f:M}{Q:V->M->Prop}{rz:Bool}(hS:Pre f m)(hp:ztf n low high=some rz)(hq:∀m',Ext m m'->Q (.c (.bool rz)) m'):Wc prog tbl 27 [.c (Il n),.c (Il low),.c (Il high)] m Q:=by
 have d:=hS.st;obtain⟨e,_⟩:=zs1;refine w27 ?_;unfold ztf at hp;refine ifd hp (fun a hp=>?_) fun a hp=>?_
 ·obtain rfl:=oi hp;exact hq _ d.ext'
 obtain rfl:=oi hp;exact hq _ d.ext'
theorem zvJ{b:Boo}{r:Rg}{ca102 ca103:C}{m f:M}{Q:V->M->Prop}{rz:Bool}(hS:Pre f m)(_ha102:Sl f ca102 b.Parcels)(_ha103:Sl f ca103 b.Entries)(hp:ztg b r=some rz)(hq:∀m',Ext m m'->Q (.c (.bool rz)) m'):Wc prog tbl 99 [.agg 4 [Il b.Last,Il b.Owners,ca102,ca103],.agg 2 [Il r.Lo,Il r.Hi]] m Q:=by
 have q:=hS.st;obtain⟨s,_⟩:=zs1;refine w99 ?_;unfold ztg at hp;intro w e;obtain⟨g,h,t,i⟩:=q.blk e s 1;intro y j;obtain⟨u,d,l,a⟩:=h.blk j g 2;have n:=i.k l;refine⟨trivial,_,a.bk.rc rfl,?_⟩;refine ifd hp (fun o hp=>?_) fun o hp=>?_; rotate_left
 ·obtain rfl:=oi hp;exact hq _ d.ext'
 refine⟨trivial,_,a.bk.rc rfl,trivial,_,a.bk.rc rfl,?_⟩;refine ifd hp (fun p hp=>?_) fun p hp=>?_; rotate_left
 ·obtain rfl:=oi hp;exact hq _ d.ext'
 refine⟨trivial,_,a.bk.rc rfl,trivial,_,n.bk.rc rfl,?_⟩;obtain rfl:=oi hp;exact hq _ d.ext'
theorem zvK{b:Boo}{entry:Int}{ca102 ca103:C}{m f:M}{Q:V->M->Prop}{rz:Int}(hS:Pre f m)(ha102:Sl f ca102 b.Parcels)(ha103:Sl f ca103 b.Entries)(hp:zth b entry=some rz)(hq:∀m',Ext m m'->Q (.c (Il rz)) m'):Wc prog tbl 74 [.agg 4 [Il b.Last,Il b.Owners,ca102,ca103],.c (Il entry)] m Q:=by
 have D:=hS.st;obtain⟨F,_⟩:=zs1;refine w74 ?_;unfold zth at hp;intro O q;obtain⟨r,s,G,a⟩:=D.blk q F 1;refine⟨trivial,_,a.bk.rc rfl,ha102.isSl,?_⟩;intro I B
 try rw[ha102.slLen]
 have hgo:∀(g:Nat) (n:Int) (o:Int) (j:M) (d:Nat->Nat),St (Fm.of m) f f j->Lb (Fm.of m) f d j 1 m.nxt 4 [Il b.Last,Il b.Owners,ca102,ca103]->prNumbers_L0 b entry g n o=some rz->I [.c (Il n),.c (Il o)] j:=by
  intro g
  induction g with
  | zero=>intro n o j d e a hp; cases hp
  | succ g l=>
   intro n o j d e a hp;refine B _ _ _ ?_;rw[prNumbers_L0] at hp;refine ifd hp (fun t hp=>?_) fun t hp=>?_; rotate_left
   ·obtain rfl:=oi hp;exact hq _ e.ext'
   refine⟨trivial,_,a.bk.rc rfl,?_⟩;obtain⟨J,h,hp⟩:=zrK hp;obtain⟨N,p,i,h⟩:=zrE h;obtain⟨_,u⟩:=zs7 ha103 h;refine⟨N,p,(by first|exact i|(rw[ha103.slLen];exact i)),(ha103.isPt h _),_,((u _ e.sub).2.1 0 _ rfl),?_⟩;refine ifd hp (fun w hp=>?_) fun w hp=>?_; rotate_left
   ·refine gdi hp fun y hp=>?_;exact l _ _ _ d e a hp
   refine gdi hp fun z hp=>?_;refine gdi hp fun A hp=>?_;exact l _ _ _ d e a hp
 exact hgo _ _ _ _ r s a hp
theorem zvL{b:Boo}{ca102 ca103:C}{m f:M}{Q:V->M->Prop}{rz:Int}(hS:Pre f m)(ha102:Sl f ca102 b.Parcels)(ha103:Sl f ca103 b.Entries)(hp:zti b=some rz)(hq:∀m',Ext m m'->Q (.c (Il rz)) m'):Wc prog tbl 28 [.agg 4 [Il b.Last,Il b.Owners,ca102,ca103]] m Q:=by
 have l:=hS.st;obtain⟨n,_⟩:=zs1;refine w28 ?_;unfold zti at hp;intro r e;obtain⟨g,a,o,d⟩:=l.blk e n 1;refine⟨_,_,_,_,d.bk.ra,trivial,_,d.bk.rc rfl,ha103.isSl,?_⟩
 try rw[ha103.slLen]
 obtain⟨p,h,hp⟩:=zrK hp;refine zvK (b:=b) (entry:=(b.Entries.length:Int)) a.pre ha102 ha103 h fun s i=>?_;obtain⟨j,q⟩:=a.call i g;refine⟨_,rfl,?_⟩;obtain rfl:=oi hp;exact hq _ j.ext'
theorem zvM{b:Boo}{e:En}{ca102 ca103:C}{m f:M}{Q:V->M->Prop}{rz:Bool}(hS:Pre f m)(ha102:Sl f ca102 b.Parcels)(ha103:Sl f ca103 b.Entries)(hp:ztj b e=some rz)(hq:∀m',Ext m m'->Q (.c (.bool rz)) m'):Wc prog tbl 100 [.agg 4 [Il b.Last,Il b.Owners,ca102,ca103],.agg 8 [Il e.Kind,Il e.Parcel,Il e.Other,Il e.From,Il e.To,Il e.Part,Il e.Day.Lo,Il e.Day.Hi]] m Q:=by
 have S0:=hS.st;obtain⟨τ0,_⟩:=zs1;refine zvl ?_;unfold ztj at hp;intro m0 aa;obtain⟨ba,ca,vb,da⟩:=S0.blk aa τ0 1;intro m1 ea;obtain⟨g,u,fa,w⟩:=ca.blk ea ba 2;have y:=da.k fa;refine⟨_,_,_,_,y.bk.ra,trivial,_,_,w.bk.rp (k:=6) (j:=2) rfl (by omega),?_⟩;obtain⟨wb,ga,hp⟩:=zrK hp;refine zvJ (b:=b) (r:=e.Day) u.pre ha102 ha103 ga fun m9 ha=>?_;obtain⟨q,z⟩:=u.call ha g;have A:=y.k z;have B:=w.k z;refine⟨_,rfl,?_⟩;refine zsb hp (fun ia hp=>?_) fun ia hp=>?_
 ·obtain rfl:=oi hp;exact hq _ q.ext'
 refine⟨trivial,_,B.bk.rc rfl,_,_,_,_,A.bk.ra,?_⟩;obtain⟨ja,ka,hp⟩:=zrK hp;refine zvL (b:=b) q.pre ha102 ha103 ka fun Fb la=>?_;obtain⟨D,F⟩:=q.call la g;have ma:=A.k F;have G:=B.k F;refine⟨_,rfl,(G.bk.rc rfl),?_⟩;refine gdi hp fun na hp=>?_;obtain⟨xb,oa,hp⟩:=zrK hp;refine zvI (n:=e.Parcel) (low:=(0:Int)) (high:=(ja - 1)) D.pre  oa fun Gb pa=>?_;obtain⟨a,I⟩:=D.call pa g;have h:=ma.k I;have d:=G.k I;refine⟨_,rfl,?_⟩;refine zsb hp (fun qa hp=>?_) fun qa hp=>?_
 ·obtain rfl:=oi hp;exact hq _ a.ext'
 refine⟨trivial,_,d.bk.rc rfl,?_⟩;refine ifd hp (fun sa hp=>?_) fun sa hp=>?_; rotate_left
 ·refine⟨trivial,_,d.bk.rc rfl,?_⟩;refine ifd hp (fun ta hp=>?_) fun ta hp=>?_; rotate_left
  ·refine ifd hp (fun ua hp=>?_) fun ua hp=>?_
   ·obtain rfl:=oi hp;exact hq _ a.ext'
   refine ifd hp (fun va hp=>?_) fun va hp=>?_
   ·obtain rfl:=oi hp;exact hq _ a.ext'
   refine ifd hp (fun wa hp=>?_) fun wa hp=>?_
   ·obtain rfl:=oi hp;exact hq _ a.ext'
   obtain rfl:=oi hp;exact hq _ a.ext'
  refine⟨trivial,_,d.bk.rc rfl,trivial,_,h.bk.rc rfl,?_⟩;refine gdi hp fun xa hp=>?_;obtain⟨yb,ya,hp⟩:=zrK hp;refine zvI (n:=e.From) (low:=(0:Int)) (high:=(b.Owners - (1:Int))) a.pre  ya fun Hb za=>?_;obtain⟨s,J⟩:=a.call za g;have Aa:=h.k J;have N:=d.k J;refine⟨_,rfl,?_⟩;refine zsa hp (fun Ba hp=>?_) fun Ba hp=>?_; rotate_left
  ·obtain rfl:=oi hp;exact hq _ s.ext'
  refine⟨trivial,_,N.bk.rc rfl,trivial,_,Aa.bk.rc rfl,?_⟩;refine gdi hp fun Ca hp=>?_;obtain⟨zb,Da,hp⟩:=zrK hp;refine zvI (n:=e.To) (low:=(0:Int)) (high:=(b.Owners - (1:Int))) s.pre  Da fun Ib Ea=>?_;obtain⟨i,Fa⟩:=s.call Ea g;have l:=N.k Fa;refine⟨_,rfl,?_⟩;refine zsa hp (fun Ga hp=>?_) fun Ga hp=>?_; rotate_left
  ·obtain rfl:=oi hp;exact hq _ i.ext'
  refine⟨trivial,_,l.bk.rc rfl,trivial,_,l.bk.rc rfl,?_⟩;refine zr9 hp (fun Ha hp=>?_) fun Ha hp=>?_; rotate_left
  ·obtain rfl:=oi hp;exact hq _ i.ext'
  refine⟨trivial,_,l.bk.rc rfl,?_⟩;refine ifd hp (fun Ia hp=>?_) fun Ia hp=>?_; rotate_left
  ·obtain rfl:=oi hp;exact hq _ i.ext'
  refine⟨trivial,_,l.bk.rc rfl,?_⟩;obtain rfl:=oi hp;exact hq _ i.ext'
 refine⟨trivial,_,d.bk.rc rfl,trivial,_,d.bk.rc rfl,?_⟩;refine ifd hp (fun Ja hp=>?_) fun Ja hp=>?_
 ·refine⟨trivial,_,d.bk.rc rfl,trivial,_,h.bk.rc rfl,?_⟩;refine gdi hp fun Ka hp=>?_;obtain⟨Ab,La,hp⟩:=zrK hp;refine zvI (n:=e.From) (low:=(0:Int)) (high:=(b.Owners - (1:Int))) a.pre  La fun Jb Ma=>?_;obtain⟨t,O⟩:=a.call Ma g;have Na:=h.k O;have P:=d.k O;refine⟨_,rfl,?_⟩;refine zsa hp (fun Oa hp=>?_) fun Oa hp=>?_; rotate_left
  ·obtain rfl:=oi hp;exact hq _ t.ext'
  refine⟨trivial,_,P.bk.rc rfl,trivial,_,Na.bk.rc rfl,?_⟩;refine gdi hp fun Pa hp=>?_;obtain⟨Bb,Qa,hp⟩:=zrK hp;refine zvI (n:=e.To) (low:=(0:Int)) (high:=(b.Owners - (1:Int))) t.pre  Qa fun Kb Ra=>?_;obtain⟨o,Sa⟩:=t.call Ra g;have p:=P.k Sa;refine⟨_,rfl,?_⟩;refine zsa hp (fun Ta hp=>?_) fun Ta hp=>?_; rotate_left
  ·obtain rfl:=oi hp;exact hq _ o.ext'
  refine⟨trivial,_,p.bk.rc rfl,trivial,_,p.bk.rc rfl,?_⟩;refine zr9 hp (fun Ua hp=>?_) fun Ua hp=>?_; rotate_left
  ·obtain rfl:=oi hp;exact hq _ o.ext'
  refine⟨trivial,_,p.bk.rc rfl,?_⟩;refine ifd hp (fun Va hp=>?_) fun Va hp=>?_; rotate_left
  ·obtain rfl:=oi hp;exact hq _ o.ext'
  refine⟨trivial,_,p.bk.rc rfl,?_⟩;obtain rfl:=oi hp;exact hq _ o.ext'
 refine ifd hp (fun Wa hp=>?_) fun Wa hp=>?_
 ·refine ifd hp (fun Xa hp=>?_) fun Xa hp=>?_; rotate_left
  ·obtain rfl:=oi hp;exact hq _ a.ext'
  refine⟨trivial,_,d.bk.rc rfl,?_⟩;refine ifd hp (fun Ya hp=>?_) fun Ya hp=>?_; rotate_left
  ·obtain rfl:=oi hp;exact hq _ a.ext'
  refine⟨trivial,_,d.bk.rc rfl,?_⟩;obtain⟨Cb,Za,hp⟩:=zrK hp;refine zvI (n:=e.Part) (low:=(1:Int)) (high:=(1000:Int)) a.pre  Za fun Mb ab=>?_;obtain⟨bb,Db⟩:=a.call ab g;refine⟨_,rfl,?_⟩;obtain rfl:=oi hp;exact hq _ bb.ext'
 refine ifd hp (fun cb hp=>?_) fun cb hp=>?_; rotate_left
 ·refine ifd hp (fun db hp=>?_) fun db hp=>?_; rotate_left
  ·obtain rfl:=oi hp;exact hq _ a.ext'
  refine ifd hp (fun eb hp=>?_) fun eb hp=>?_; rotate_left
  ·obtain rfl:=oi hp;exact hq _ a.ext'
  refine⟨trivial,_,d.bk.rc rfl,?_⟩;refine ifd hp (fun fb hp=>?_) fun fb hp=>?_; rotate_left
  ·obtain rfl:=oi hp;exact hq _ a.ext'
  refine⟨trivial,_,d.bk.rc rfl,?_⟩;obtain rfl:=oi hp;exact hq _ a.ext'
 refine ifd hp (fun gb hp=>?_) fun gb hp=>?_; rotate_left
 ·obtain rfl:=oi hp;exact hq _ a.ext'
 refine⟨trivial,_,d.bk.rc rfl,?_⟩;refine ifd hp (fun hb hp=>?_) fun hb hp=>?_; rotate_left
 ·obtain rfl:=oi hp;exact hq _ a.ext'
 refine⟨trivial,_,d.bk.rc rfl,_,_,_,_,h.bk.ra,?_⟩;obtain⟨ib,jb,hp⟩:=zrK hp;refine zvL (b:=b) a.pre ha102 ha103 jb fun Nb kb=>?_;obtain⟨S,mb⟩:=a.call kb g;have T:=d.k mb;refine⟨_,rfl,(T.bk.rc rfl),?_⟩;refine gdi hp fun ob hp=>?_;obtain⟨Eb,pb,hp⟩:=zrK hp;refine zvI (n:=e.Other) (low:=(0:Int)) (high:=(ib - 1)) S.pre  pb fun Ob qb=>?_;obtain⟨Y,rb⟩:=S.call qb g;have Z:=T.k rb;refine⟨_,rfl,?_⟩;refine zsa hp (fun sb hp=>?_) fun sb hp=>?_; rotate_left
 ·obtain rfl:=oi hp;exact hq _ Y.ext'
 refine⟨trivial,_,Z.bk.rc rfl,trivial,_,Z.bk.rc rfl,?_⟩;obtain rfl:=oi hp;exact hq _ Y.ext'
theorem zvN{b:Boo}{ca102 ca103:C}{m f:M}{Q:V->M->Prop}{rz:Int}(hS:Pre f m)(ha102:Sl f ca102 b.Parcels)(ha103:Sl f ca103 b.Entries)(hp:ztm b=some rz)(hq:∀m',Ext m m'->Q (.c (Il rz)) m'):Wc prog tbl 53 [.agg 4 [Il b.Last,Il b.Owners,ca102,ca103]] m Q:=by
 have S0:=hS.st;obtain⟨τ0,_⟩:=zs1;refine w53 ?_;unfold ztm at hp;intro m0 N;obtain⟨O,P,ya,a⟩:=S0.blk N τ0 1;intro R1 qa
 have hgo:∀(n:Nat) (A:Int) (B:Int) (z:M) (d:Nat->Nat),St (Fm.of m) f f z->Lb (Fm.of m) f d z 1 m.nxt 4 [Il b.Last,Il b.Owners,ca102,ca103]->ztl b n A B=some rz->R1 [.c (Il A),.c (Il B)] z:=by
  intro n
  induction n with
  | zero=>intro A B z d e a hp; cases hp
  | succ n S=>
   intro A B z d e a hp;refine qa _ _ _ ?_;rw[ztl] at hp;refine⟨trivial,_,a.bk.rc rfl,ha103.isSl,?_⟩
   try rw[ha103.slLen]
   refine ifd hp (fun T hp=>?_) fun T hp=>?_
   ·refine⟨trivial,_,a.bk.rc rfl,?_⟩;obtain⟨Aa,g,hp⟩:=zrK hp;obtain⟨n7,D,r,g⟩:=zrE g;obtain⟨_,Y⟩:=zs7 ha103 g;refine⟨n7,D,(by first|exact r|(rw[ha103.slLen];exact r)),(ha103.isPt g _),(ha103.isPt' g _ _),_,(by rw[zsI]; exact(Y _ e.sub).2.1 7 _ rfl),trivial,_,a.bk.rc rfl,?_⟩;obtain⟨Ca,h,hp⟩:=zrK hp;obtain⟨sa,F,s,h⟩:=zrE h;obtain⟨_,Z⟩:=zs7 ha103 h;refine⟨sa,F,(by first|exact s|(rw[ha103.slLen];exact s)),(ha103.isPt h _),(ha103.isPt' h _ _),_,(by rw[zsI]; exact(Z _ e.sub).2.1 6 _ rfl),?_⟩;refine gdi hp fun aa hp=>?_;refine gdi hp fun ba hp=>?_;refine gdi hp fun ca hp=>?_;refine gdi hp fun da hp=>?_;refine gdi hp fun ea hp=>?_;refine gdi hp fun fa hp=>?_;exact S _ _ _ d e a hp
   intro ta ga
   have hgo:∀(o:Nat) (t:Int) (u:Int) (q:M) (p:Nat->Nat),St (Fm.of m) f f q->Lb (Fm.of m) f p q 1 m.nxt 4 [Il b.Last,Il b.Owners,ca102,ca103]->ztk b o t u=some rz->ta [.c (Il t),.c (Il u)] q:=by
    intro o
    induction o with
    | zero=>intro t u q p i a hp; cases hp
    | succ o G=>
     intro t u q p i a hp;refine ga _ _ _ ?_;rw[ztk] at hp;refine⟨trivial,_,a.bk.rc rfl,ha102.isSl,?_⟩
     try rw[ha102.slLen]
     refine ifd hp (fun ha hp=>?_) fun ha hp=>?_; rotate_left
     ·obtain rfl:=oi hp;exact hq _ i.ext'
     refine⟨trivial,_,a.bk.rc rfl,?_⟩;obtain⟨Da,j,hp⟩:=zrK hp;obtain⟨ua,I,w,j⟩:=zrE j;obtain⟨_,ia⟩:=zs5 ha102 j;refine⟨ua,I,(by first|exact w|(rw[ha102.slLen];exact w)),(ha102.isPt j _),(ha102.isPt' j _ _),_,(by rw[zsI]; exact(ia _ i.sub).2.1 3 _ rfl),trivial,_,a.bk.rc rfl,?_⟩;obtain⟨Ea,l,hp⟩:=zrK hp;obtain⟨va,J,y,l⟩:=zrE l;obtain⟨_,ja⟩:=zs5 ha102 l;refine⟨va,J,(by first|exact y|(rw[ha102.slLen];exact y)),(ha102.isPt l _),(ha102.isPt' l _ _),_,(by rw[zsI]; exact(ja _ i.sub).2.1 2 _ rfl),?_⟩;refine gdi hp fun ka hp=>?_;refine gdi hp fun la hp=>?_;refine gdi hp fun ma hp=>?_;refine gdi hp fun na hp=>?_;refine gdi hp fun oa hp=>?_;refine gdi hp fun pa hp=>?_;exact G _ _ _ p i a hp
   exact hgo _ _ _ _ d e a hp
 exact hgo _ _ _ _ O P a hp
theorem zvO{b:Boo}{ca102 ca103:C}{m f:M}{Q:V->M->Prop}{rz:Int}(hS:Pre f m)(ha102:Sl f ca102 b.Parcels)(ha103:Sl f ca103 b.Entries)(hp:zto b=some rz)(hq:∀m',Ext m m'->Q (.c (Il rz)) m'):Wc prog tbl 67 [.agg 4 [Il b.Last,Il b.Owners,ca102,ca103]] m Q:=by
 have S0:=hS.st;obtain⟨τ0,_⟩:=zs1;refine w67 ?_;unfold zto at hp;intro m0 ja;obtain⟨O,i,ob,l⟩:=S0.blk ja τ0 1;refine⟨trivial,_,l.bk.rc rfl,?_⟩;refine ifd hp (fun ka hp=>?_) fun ka hp=>?_
 ·obtain rfl:=oi hp;exact hq _ i.ext'
 refine⟨trivial,_,l.bk.rc rfl,ha102.isSl,?_⟩
 try rw[ha102.slLen]
 refine ifd hp (fun la hp=>?_) fun la hp=>?_
 ·obtain rfl:=oi hp;exact hq _ i.ext'
 refine⟨trivial,_,l.bk.rc rfl,ha103.isSl,?_⟩
 try rw[ha103.slLen]
 refine ifd hp (fun ma hp=>?_) fun ma hp=>?_
 ·obtain rfl:=oi hp;exact hq _ i.ext'
 refine⟨trivial,_,l.bk.rc rfl,?_⟩;obtain⟨pb,na,hp⟩:=zrK hp;refine zvI (n:=b.Last) (low:=(0:Int)) (high:=(30:Int)) i.pre  na fun m6 oa=>?_;obtain⟨y,pa⟩:=i.call oa O;have a:=l.k pa;refine⟨_,rfl,?_⟩;refine zsb hp (fun qa hp=>?_) fun qa hp=>?_
 ·obtain rfl:=oi hp;exact hq _ y.ext'
 refine⟨trivial,_,a.bk.rc rfl,?_⟩;refine ifd hp (fun sa hp=>?_) fun sa hp=>?_
 ·obtain rfl:=oi hp;exact hq _ y.ext'
 intro R9 gb
 have hgo:∀(p:Nat) (F:Int) (G:Int) (u:M) (o:Nat->Nat),St (Fm.of m) f f u->Lb (Fm.of m) f o u 1 m.nxt 4 [Il b.Last,Il b.Owners,ca102,ca103]->ztn b p F G=some rz->R9 [.c (Il F),.c (Il G)] u:=by
  intro p
  induction p with
  | zero=>intro F G u o q a hp; cases hp
  | succ p ta=>
   intro F G u o q a hp;refine gb _ _ _ ?_;rw[ztn] at hp;refine⟨trivial,_,a.bk.rc rfl,ha102.isSl,?_⟩
   try rw[ha102.slLen]
   refine ifd hp (fun ua hp=>?_) fun ua hp=>?_; rotate_left
   ·intro hb va
    have hgo:∀(s:Nat) (P:Int) (I:Int) (w:M) (g:Nat->Nat),St (Fm.of m) f f w->Lb (Fm.of m) f g w 1 m.nxt 4 [Il b.Last,Il b.Owners,ca102,ca103]->prFault_L1 b s I=some rz->hb [.c (Il P),.c (Il I)] w:=by
     intro s
     induction s with
     | zero=>intro P I w g h a hp; cases hp
     | succ s ga=>
      intro P I w g h a hp;refine va _ _ _ ?_;rw[prFault_L1] at hp;refine⟨trivial,_,a.bk.rc rfl,ha103.isSl,?_⟩
      try rw[ha103.slLen]
      refine ifd hp (fun wa hp=>?_) fun wa hp=>?_; rotate_left
      ·refine⟨_,_,_,_,a.bk.ra,?_⟩;obtain⟨rb,xa,hp⟩:=zrK hp;refine zvN (b:=b) h.pre ha102 ha103 xa fun xb ya=>?_;obtain⟨S,sb⟩:=h.call ya g;refine⟨_,rfl,?_⟩;refine ifd hp (fun za hp=>?_) fun za hp=>?_
       ·obtain rfl:=oi hp;exact hq _ S.ext'
       obtain rfl:=oi hp;exact hq _ S.ext'
      refine⟨_,_,_,_,a.bk.ra,trivial,_,a.bk.rc rfl,?_⟩;obtain⟨Aa,z,hp⟩:=zrK hp;obtain⟨ib,ha,J,z⟩:=zrE z;obtain⟨_,Ba⟩:=zs7 ha103 z;refine⟨ib,ha,(by first|exact J|(rw[ha103.slLen];exact J)),_,_,_,_,_,_,_,_,(Ba _ h.sub).1,?_⟩;obtain⟨tb,Ca,hp⟩:=zrK hp;refine zvM (b:=b) (e:=Aa) h.pre ha102 ha103 Ca fun yb Da=>?_;obtain⟨T,Ea⟩:=h.call Da g;have Fa:=a.k Ea;refine⟨_,rfl,?_⟩;refine zsb hp (fun Ga hp=>?_) fun Ga hp=>?_
      ·obtain rfl:=oi hp;exact hq _ T.ext'
      refine gdi hp fun Ha hp=>?_;exact ga _ _ _ g T Fa hp
    exact hgo _ _ _ _ o q a hp
   refine⟨trivial,_,a.bk.rc rfl,?_⟩;obtain⟨d,A,hp⟩:=zrK hp;obtain⟨jb,ia,N,A⟩:=zrE A;obtain⟨_,Ia⟩:=zs5 ha102 A;refine⟨jb,ia,(by first|exact N|(rw[ha102.slLen];exact N)),_,_,_,_,(Ia _ q.sub).1,?_⟩;intro zb Ja;obtain⟨t,Ka,La,Ma⟩:=q.blk Ja o 2;have Na:=a.k La;obtain⟨Oa,Pa,Y,Qa,Z⟩:=Ma.sto Ka [Il d.Owner,Il d.Value,Il d.Sown.Lo,Il d.Sown.Hi];have aa:=Na.k Qa;refine⟨Oa,Pa,?_⟩;refine⟨trivial,_,Z.bk.rc rfl,trivial,_,aa.bk.rc rfl,?_⟩;refine gdi hp fun Ra hp=>?_;obtain⟨ub,Sa,hp⟩:=zrK hp;refine zvI (n:=d.Owner) (low:=(0:Int)) (high:=(b.Owners - (1:Int))) Y.pre  Sa fun Ab Ta=>?_;obtain⟨B,ba⟩:=Y.call Ta t;have Ua:=aa.k ba;have ca:=Z.k ba;refine⟨_,rfl,?_⟩;refine zsb hp (fun Va hp=>?_) fun Va hp=>?_
   ·obtain rfl:=oi hp;exact hq _ B.ext'
   refine⟨trivial,_,ca.bk.rc rfl,?_⟩;obtain⟨vb,Wa,hp⟩:=zrK hp;refine zvI (n:=d.Value) (low:=(0:Int)) (high:=(1000:Int)) B.pre  Wa fun Bb Xa=>?_;obtain⟨D,da⟩:=B.call Xa t;have ea:=Ua.k da;have Ya:=ca.k da;refine⟨_,rfl,?_⟩;refine zsb hp (fun Za hp=>?_) fun Za hp=>?_
   ·obtain rfl:=oi hp;exact hq _ D.ext'
   refine⟨_,_,_,_,ea.bk.ra,trivial,_,_,Ya.bk.rp (k:=2) (j:=2) rfl (by omega),?_⟩;obtain⟨wb,ab,hp⟩:=zrK hp;refine zvJ (b:=b) (r:=d.Sown) D.pre ha102 ha103 ab fun Cb bb=>?_;obtain⟨fa,cb⟩:=D.call bb t;have db:=ea.k cb;refine⟨_,rfl,?_⟩;refine zsb hp (fun eb hp=>?_) fun eb hp=>?_
   ·obtain rfl:=oi hp;exact hq _ fa.ext'
   refine gdi hp fun fb hp=>?_;exact ta _ _ _ t fa db hp
 exact hgo _ _ _ _ O y a hp
theorem zvP{b:Boo}{n:Int}{ca102 ca103:C}{m f:M}{Q:V->M->Prop}{rz:Tr}(hS:Pre f m)(ha102:Sl f ca102 b.Parcels)(ha103:Sl f ca103 b.Entries)(hp:ztr b n=some rz)(hq:∀m' f' c0 c1,Grw m f m' f'->Sl f' c0 rz.Days->Sl f' c1 rz.Sown->Q (.agg 2 [c0,c1]) m'):Wc prog tbl 83 [.agg 4 [Il b.Last,Il b.Owners,ca102,ca103],.c (Il n)] m Q:=by
 have S0:=hS.st;obtain⟨τ0,_⟩:=zs1;refine w83 ?_;unfold ztr at hp;intro m0 Ba;obtain⟨Ca,Da,Rc,Ea⟩:=S0.blk Ba τ0 1;intro m1 Fa;obtain⟨Ga,Ha,Ia,Ja⟩:=Da.blk Fa Ca 2;have Ka:=Ea.k Ia;intro m2 La;obtain⟨Ma,Na,qa,i⟩:=Ha.blk La Ga 3;have e:=Ka.k qa;have j:=Ja.k qa;intro R3 Jc
 have hgo:∀(N:Nat) (x4:Int) (x5:Int) (l:C) (w:C) (t:List Int) (O:List Int) (P:M) (o:Nat->Nat),St (Fm.of m) f f P->Lb (Fm.of m) f o P 1 m.nxt 4 [Il b.Last,Il b.Owners,ca102,ca103]->Lb (Fm.of m) f o P 2 m0.nxt 2 [.sl0,.sl0]->Lb (Fm.of m) f o P 3 m1.nxt 2 [l,w]->Ow (Fm.of m) f o P 4 l t->Ow (Fm.of m) f o P 5 w O->ztq b N t O x4 x5=some rz->R3 [.c (Il x4),.c (Il x5)] P:=by
  intro N
  induction N with
  | zero=>intro x4 x5 l w t O P o S e j i d h hp; cases hp
  | succ N Oa=>
   intro x4 x5 l w t O P o S e j i d h hp;refine Jc _ _ _ ?_;rw[ztq] at hp;refine⟨trivial,_,e.bk.rc rfl,ha103.isSl,?_⟩
   try rw[ha103.slLen]
   refine ifd hp (fun Pa hp=>?_) fun Pa hp=>?_
   ·refine⟨trivial,_,e.bk.rc rfl,?_⟩;obtain⟨p,T,hp⟩:=zrK hp;obtain⟨n9,ya,ma,T⟩:=zrE T;obtain⟨_,Qa⟩:=zs7 ha103 T;refine⟨n9,ya,(by first|exact ma|(rw[ha103.slLen];exact ma)),(ha103.isPt T _),_,_,((Qa _ S.sub).2.2 6 2 (by omega) (by decide)),?_⟩;intro Zc Ra;obtain⟨Vc,Sa,y,Ta⟩:=S.blk Ra o 6;have Ua:=e.k y;have Va:=j.k y;have Wa:=i.k y;have d:=d.k y;have h:=h.k y;obtain⟨Xa,Ya,Za,z,Y⟩:=Ta.sto Sa [Il p.Day.Lo,Il p.Day.Hi];have ab:=Ua.k z;have bb:=Va.k z;have ea:=Wa.k z;have d:=d.k z;have h:=h.k z;refine⟨Xa,Ya,?_⟩;refine⟨trivial,_,ea.bk.rc rfl,trivial,_,Y.bk.rc rfl,trivial,_,Y.bk.rc rfl,trivial,_,Y.bk.rc rfl,?_⟩;refine gdi hp fun cb hp=>?_;refine gdi hp fun db hp=>?_;refine gdi hp fun eb hp=>?_;refine gdi hp fun fb hp=>?_;refine gdi hp fun gb hp=>?_;refine gdi hp fun hb hp=>?_;obtain⟨ib,hp⟩:=zrL hp;intro ad sa;refine⟨(by rw[show cmC _=true from zqf (d.noFn)]; exact(ea.bk.ext (Bk.new sa).2).rc rfl),?_⟩;obtain⟨fa,jb,kb,mb,ob,A,ga⟩:=d.app' zvC Za (a:=(p.Day.Lo+(x4 % ((p.Day.Hi - p.Day.Lo)+(1:Int))))) (show Rp.rep (α:=Int) f _ (p.Day.Lo+(x4 % ((p.Day.Hi - p.Day.Lo)+(1:Int)))) from rfl) ib sa;have pb:=ab.k A;have qb:=bb.k A;have rb:=ea.k A;have sb:=Y.k A;have h:=h.k A;refine⟨fa,jb,mb,?_⟩;refine⟨trivial,?_⟩;obtain⟨tb,ub,vb,B,ha⟩:=rb.sto1 ob 0 fa (by simp) rfl
    replace ha:Lb _ _ _ _ _ _ _ [fa,w]:=ha
    have wb:=pb.k B;have xb:=qb.k B;have ta:=sb.k B;have h:=h.k B;have ga:=ga.k B;refine⟨tb,ub,?_⟩;refine⟨trivial,_,ta.bk.rc rfl,trivial,_,ta.bk.rc rfl,?_⟩;refine gdi hp fun yb hp=>?_;refine gdi hp fun zb hp=>?_;refine gdi hp fun Ab hp=>?_;refine gdi hp fun Bb hp=>?_;refine gdi hp fun Cb hp=>?_;refine gdi hp fun Db hp=>?_;exact Oa _ _ _ _ _ _ _ kb vb wb xb ha ga h hp
   intro Kc Eb
   have hgo:∀(Z:Nat) (J:Int) (na:Int) (u:C) (aa:List Int) (s:M) (q:Nat->Nat),St (Fm.of m) f f s->Lb (Fm.of m) f q s 1 m.nxt 4 [Il b.Last,Il b.Owners,ca102,ca103]->Lb (Fm.of m) f q s 2 m0.nxt 2 [.sl0,.sl0]->Lb (Fm.of m) f q s 3 m1.nxt 2 [l,u]->Ow (Fm.of m) f q s 5 u aa->Ow (Fm.of m) f q s 4 l t->ztp b t Z aa J na=some rz->Kc [.c (Il J),.c (Il na)] s:=by
    intro Z
    induction Z with
    | zero=>intro J na u aa s q ba e j i g d hp; cases hp
    | succ Z za=>
     intro J na u aa s q ba e j i g d hp;refine Eb _ _ _ ?_;rw[ztp] at hp;refine⟨trivial,_,e.bk.rc rfl,ha102.isSl,?_⟩
     try rw[ha102.slLen]
     refine ifd hp (fun Fb hp=>?_) fun Fb hp=>?_; rotate_left
     ·refine⟨_,_,i.bk.ra,?_⟩;obtain⟨Gb,Hb,Ib,ua,Jb⟩:=j.sto ba [l,u];have d:=d.k ua;have g:=g.k ua;refine⟨Gb,Hb,?_⟩;refine⟨_,_,Jb.bk.ra,?_⟩;obtain⟨Xc,Kb,Mb,Nb⟩:=d.freeze Ib;have g:=g.k Mb;obtain⟨Ob,Pb,Qb,Rb⟩:=g.freeze Kb;obtain rfl:=oi hp;exact hq _ Ob l u Pb.grw (Nb.sub Qb.fs) Rb
     refine⟨trivial,_,e.bk.rc rfl,?_⟩;obtain⟨r,ca,hp⟩:=zrK hp;obtain⟨Nc,Aa,oa,ca⟩:=zrE ca;obtain⟨_,Sb⟩:=zs5 ha102 ca;refine⟨Nc,Aa,(by first|exact oa|(rw[ha102.slLen];exact oa)),(ha102.isPt ca _),_,_,((Sb _ ba.sub).2.2 2 2 (by omega) (by decide)),?_⟩;intro bd Tb;obtain⟨Yc,Ub,D,Vb⟩:=ba.blk Tb q 7;have Wb:=e.k D;have Xb:=j.k D;have Yb:=i.k D;have d:=d.k D;have g:=g.k D;obtain⟨Zb,ac,bc,F,da⟩:=Vb.sto Ub [Il r.Sown.Lo,Il r.Sown.Hi];have cc:=Wb.k F;have dc:=Xb.k F;have ia:=Yb.k F;have d:=d.k F;have g:=g.k F;refine⟨Zb,ac,?_⟩;refine⟨trivial,_,ia.bk.rc rfl,trivial,_,da.bk.rc rfl,trivial,_,da.bk.rc rfl,trivial,_,da.bk.rc rfl,?_⟩;refine gdi hp fun ec hp=>?_;refine gdi hp fun fc hp=>?_;refine gdi hp fun gc hp=>?_;refine gdi hp fun hc hp=>?_;refine gdi hp fun ic hp=>?_;refine gdi hp fun jc hp=>?_;obtain⟨kc,hp⟩:=zrL hp;intro cd va;refine⟨(by rw[show cmC _=true from zqf (g.noFn)]; exact(ia.bk.ext (Bk.new va).2).rc rfl),?_⟩;obtain⟨ja,nc,oc,pc,qc,G,ka⟩:=g.app' zvC bc (a:=(r.Sown.Lo+(J % ((r.Sown.Hi - r.Sown.Lo)+(1:Int))))) (show Rp.rep (α:=Int) f _ (r.Sown.Lo+(J % ((r.Sown.Hi - r.Sown.Lo)+(1:Int)))) from rfl) kc va;have sc:=cc.k G;have tc:=dc.k G;have uc:=ia.k G;have vc:=da.k G;have d:=d.k G;refine⟨ja,nc,pc,?_⟩;refine⟨trivial,?_⟩;obtain⟨wc,xc,yc,I,la⟩:=uc.sto1 qc 1 ja (by simp) rfl
     replace la:Lb _ _ _ _ _ _ _ [l,ja]:=la
     have zc:=sc.k I;have Ac:=tc.k I;have wa:=vc.k I;have d:=d.k I;have ka:=ka.k I;refine⟨wc,xc,?_⟩;refine⟨trivial,_,wa.bk.rc rfl,trivial,_,wa.bk.rc rfl,?_⟩;refine gdi hp fun Bc hp=>?_;refine gdi hp fun Cc hp=>?_;refine gdi hp fun Dc hp=>?_;refine gdi hp fun Ec hp=>?_;refine gdi hp fun Fc hp=>?_;refine gdi hp fun Gc hp=>?_;exact za _ _ _ _ _ oc yc zc Ac la ka d hp
   exact hgo _ _ _ _ _ _ o S e j i h d hp
 exact hgo _ _ _ _ _ _ _ _ Ma Na e j i (Ow.nil _ _ _ _ _) (Ow.nil _ _ _ _ _) hp
theorem zvQ{b:Boo}{t:Tr}{ca102 ca103 ca200 ca201:C}{m f:M}{Q:V->M->Prop}{rz:List Fd}(hS:Pre f m)(ha102:Sl f ca102 b.Parcels)(ha103:Sl f ca103 b.Entries)(_ha200:Sl f ca200 t.Days)(ha201:Sl f ca201 t.Sown)(hp:ztt b t=some rz)(hq:∀m' f' c0,Grw m f m' f'->On m f' m' c0 rz->Q (.c c0) m'):Wc prog tbl 72 [.agg 4 [Il b.Last,Il b.Owners,ca102,ca103],.agg 2 [ca200,ca201]] m Q:=by
 have S0:=hS.st;obtain⟨τ0,_⟩:=zs1;refine w72 ?_;unfold ztt at hp;intro m0 ka;obtain⟨la,ma,Xa,na⟩:=S0.blk ka τ0 1;intro m1 oa;obtain⟨Y,Z,pa,qa⟩:=ma.blk oa la 2;have aa:=na.k pa;refine⟨_,_,_,_,aa.bk.ra,?_⟩;obtain⟨D,sa,hp⟩:=zrK hp;refine zvL (b:=b) Z.pre ha102 ha103 sa fun m7 ta=>?_;obtain⟨ua,ba⟩:=Z.call ta Y;have va:=aa.k ba;have wa:=qa.k ba;refine⟨_,rfl,?_⟩;obtain⟨Ya,hp⟩:=zrL hp;obtain⟨F,I⟩:∃n:Nat,D=(n:Int):=⟨Int.toNat D,by omega⟩
 have fa:Int.toNat D=F:=by omega
 refine⟨F,F,I,I,Nat.le_refl _,(by omega),?_⟩;intro Za xa;obtain⟨ya,za,ca,Aa⟩:=ua.blk xa Y 3;have d:=Lb.mkS (β:=Fd) (a:=({ There:=false,Gone:=false,Owner:=(0:Int),Value:=(0:Int),Sown:=(0:Int) }:Fd)) Aa rfl fa;have e:=va.k ca;have l:=wa.k ca;intro Na Ba
 have hgo:∀(y:Nat) (w:Int) (g:List Fd) (o:M) (i:Nat->Nat),St (Fm.of m) f f o->Lb (Fm.of m) f i o 1 m.nxt 4 [Il b.Last,Il b.Owners,ca102,ca103]->Lb (Fm.of m) f i o 2 m0.nxt 2 [ca200,ca201]->Ow (Fm.of m) f i o 3 (.sl m7.nxt 0 F 0 (some F)) g->zts b t y w g=some rz->Na [.c (Il w)] o:=by
  intro y
  induction y with
  | zero=>intro w g o i j e l d hp; cases hp
  | succ y ga=>
   intro w g o i j e l d hp;refine Ba _ _ ?_;rw[zts] at hp;refine⟨trivial,_,e.bk.rc rfl,ha102.isSl,?_⟩
   try rw[ha102.slLen]
   refine ifd hp (fun Ca hp=>?_) fun Ca hp=>?_; rotate_left
   ·obtain rfl:=oi hp;exact hq _ f (.sl m7.nxt 0 F 0 (some F)) j.grw d.on
   refine⟨trivial,_,e.bk.rc rfl,?_⟩;obtain⟨p,z,hp⟩:=zrK hp;obtain⟨Oa,ha,J,z⟩:=zrE z;obtain⟨_,Da⟩:=zs5 ha102 z;refine⟨Oa,ha,(by first|exact J|(rw[ha102.slLen];exact J)),(ha102.isPt z _),_,((Da _ j.sub).2.1 0 _ rfl),trivial,_,e.bk.rc rfl,?_⟩;obtain⟨q,A,hp⟩:=zrK hp;obtain⟨Pa,ia,N,A⟩:=zrE A;obtain⟨_,Ea⟩:=zs5 ha102 A;refine⟨Pa,ia,(by first|exact N|(rw[ha102.slLen];exact N)),(ha102.isPt A _),_,((Ea _ j.sub).2.1 1 _ rfl),trivial,_,l.bk.rc rfl,?_⟩;obtain⟨r,G,hp⟩:=zrK hp;obtain⟨Qa,ja,O,G⟩:=zrE G;refine⟨Qa,ja,(by first|exact O|(rw[ha201.slLen];exact O)),_,(ha201.rdI G j.sub),?_⟩;obtain⟨s,u,hp⟩:=zrK hp;obtain⟨P,B,S,u⟩:=zrE u;refine⟨P,B,(by first|exact S|(rw[d.slLen];exact S)),?_⟩;obtain⟨Fa,Ga,Ha,da,ea⟩:=d.setP j (a':=({ There:=true,Gone:=false,Owner:=p.Owner,Value:=q.Value,Sown:=r }:Fd)) u [.bool s.There,.bool s.Gone,Il s.Owner,Il s.Value,Il s.Sown] (fun _ h=>h) 0 [.bool true,.bool false,Il p.Owner,Il q.Value,Il r] (Nat.le_of_ble_eq_true rfl) rfl
   have T:Int.toNat w=P:=by rw[B]; rfl
   rw[<- T] at ea;have Sa:=B;have Ia:(g.set (Int.toNat w) ({ There:=true,Gone:=false,Owner:=p.Owner,Value:=q.Value,Sown:=r }:Fd))[P]? = some ({ There:=true,Gone:=false,Owner:=p.Owner,Value:=q.Value,Sown:=r }:Fd):=(congrArg (fun z9_=>(g.set z9_ ({ There:=true,Gone:=false,Owner:=p.Owner,Value:=q.Value,Sown:=r }:Fd))[P]?) T).trans (List.getElem?_set_self (List.getElem?_eq_some_iff.1 u).1);have Ta:=(List.getElem?_eq_some_iff.1 Ia).1;have Ja:=e.k da;have Ka:=l.k da;refine⟨Fa,(by have h9:=Ga; rw[d.add0 u] at h9; exact h9),?_⟩;refine gdi hp fun La hp=>?_;exact ga _ _ _ i Ha Ja Ka ea hp
 exact hgo _ _ _ _ ya za e l d hp
theorem zvR{b:Boo}{l:List Fd}{entry:Int}{day:Int}{ca102 ca103 ca200:C}{m f:M}{Q:V->M->Prop}{rz:Bool × List Fd}(hS:Pre f m)(ha102:Sl f ca102 b.Parcels)(ha103:Sl f ca103 b.Entries)(ha200:Wg f m ca200 l)(hp:ztu b l entry day=some rz)(hq:∀m',zsk (zr4 ca200) m m'->Wn m m' ca200 rz.2->Q (.c (.bool rz.1)) m'):Wc prog tbl 73 [.agg 4 [Il b.Last,Il b.Owners,ca102,ca103],.c ca200,.c (Il entry),.c (Il day)] m Q:=by
 have S0:=hS.stW ha200;obtain⟨τ0,o⟩:∃τ,Wo ⟨m,zr4 ca200⟩ f τ m 1 ca200 l:=⟨_,ha200.wo 1⟩;refine w73 ?_;unfold ztu at hp;intro m0 Za;obtain⟨ab,Fa,bb,Ga⟩:=S0.blk Za τ0 2;have o:=o.k bb;refine⟨trivial,_,Ga.bk.rc rfl,?_⟩;obtain⟨a,Z,hp⟩:=zrK hp;obtain⟨n2,Ua,ja,Z⟩:=zrE Z;obtain⟨_,cb⟩:=zs7 ha103 Z;refine⟨n2,Ua,(by first|exact ja|(rw[ha103.slLen];exact ja)),_,_,_,_,_,_,_,_,(cb _ Fa.sub).1,?_⟩;intro hd db;obtain⟨eb,fb,Ha,gb⟩:=Fa.blk db ab 3;have hb:=Ga.k Ha;have o:=o.k Ha;obtain⟨ib,jb,kb,Ia,Ja⟩:=gb.sto fb [Il a.Kind,Il a.Parcel,Il a.Other,Il a.From,Il a.To,Il a.Part,Il a.Day.Lo,Il a.Day.Hi];have mb:=hb.k Ia;have o:=o.k Ia;refine⟨ib,jb,?_⟩;refine⟨trivial,_,Ja.bk.rc rfl,?_⟩;obtain⟨d,aa,hp⟩:=zrK hp;obtain⟨Ec,Va,ka,aa⟩:=zrE aa;have Wa:=(zvB (o.rdP aa));refine⟨Ec,Va,(by first|exact ka|(rw[o.slLen];exact ka)),_,_,_,_,_,(Wa).1,?_⟩;intro id ob;obtain⟨Ka,pb,ba,qb⟩:=kb.blk ob eb 4;have rb:=mb.k ba;have sb:=Ja.k ba;have o:=o.k ba;obtain⟨tb,ub,r,ca,s⟩:=qb.sto pb [.bool d.There,.bool d.Gone,Il d.Owner,Il d.Value,Il d.Sown];have vb:=rb.k ca;have q:=sb.k ca;have o:=o.k ca;refine⟨tb,ub,?_⟩;refine⟨trivial,_,s.bk.rc rfl,?_⟩;refine zsb hp (fun wb hp=>?_) fun wb hp=>?_
 ·obtain rfl:=oi hp;exact hq _ r.extX o.wn
 refine⟨trivial,_,s.bk.rc rfl,?_⟩;refine zsa hp (fun xb hp=>?_) fun xb hp=>?_
 ·obtain rfl:=oi hp;exact hq _ r.extX o.wn
 refine⟨trivial,_,q.bk.rc rfl,?_⟩;refine ifd hp (fun yb hp=>?_) fun yb hp=>?_
 ·refine⟨trivial,_,s.bk.rc rfl,trivial,_,q.bk.rc rfl,?_⟩;refine zr9 hp (fun zb hp=>?_) fun zb hp=>?_
  ·obtain rfl:=oi hp;exact hq _ r.extX o.wn
  refine⟨trivial,_,q.bk.rc rfl,trivial,_,q.bk.rc rfl,?_⟩;obtain⟨i,u,hp⟩:=zrK hp;obtain⟨la,F,ma,u⟩:=zrE u;refine⟨la,F,(by first|exact ma|(rw[o.slLen];exact ma)),(o.isPt u _),?_⟩;obtain⟨Ab,Bb,Cb,bd,La⟩:=o.setP r (a':=({ There:=i.There,Gone:=i.Gone,Owner:=a.To,Value:=i.Value,Sown:=i.Sown }:Fd)) u [.bool i.There,.bool i.Gone,Il i.Owner,Il i.Value,Il i.Sown] (fun _ h=>h) 2 [Il a.To] (Nat.le_of_ble_eq_true rfl) rfl
  have na:Int.toNat a.Parcel=la:=by rw[F]; rfl
  rw[<- na] at La;have Hc:=F;have Db:(l.set (Int.toNat a.Parcel) ({ There:=i.There,Gone:=i.Gone,Owner:=a.To,Value:=i.Value,Sown:=i.Sown }:Fd))[la]? = some ({ There:=i.There,Gone:=i.Gone,Owner:=a.To,Value:=i.Value,Sown:=i.Sown }:Fd):=(congrArg (fun z9_=>(l.set z9_ ({ There:=i.There,Gone:=i.Gone,Owner:=a.To,Value:=i.Value,Sown:=i.Sown }:Fd))[la]?) na).trans (List.getElem?_set_self (List.getElem?_eq_some_iff.1 u).1);have Ic:=(List.getElem?_eq_some_iff.1 Db).1;refine⟨Ab,Bb,?_⟩;obtain rfl:=oi hp;exact hq _ Cb.extX La.wn
 refine ifd hp (fun Eb hp=>?_) fun Eb hp=>?_
 ·refine⟨trivial,_,s.bk.rc rfl,trivial,_,q.bk.rc rfl,?_⟩;refine ifd hp (fun Fb hp=>?_) fun Fb hp=>?_
  ·obtain rfl:=oi hp;exact hq _ r.extX o.wn
  refine⟨trivial,_,q.bk.rc rfl,trivial,_,s.bk.rc rfl,trivial,_,q.bk.rc rfl,?_⟩;refine gdi hp fun Gb hp=>?_;obtain⟨e,w,hp⟩:=zrK hp;obtain⟨oa,G,pa,w⟩:=zrE w;refine⟨oa,G,(by first|exact pa|(rw[o.slLen];exact pa)),(o.isPt w _),?_⟩;obtain⟨Hb,Ib,Jb,da,t⟩:=o.setP r (a':=({ There:=e.There,Gone:=e.Gone,Owner:=e.Owner,Value:=(d.Value - a.Part),Sown:=e.Sown }:Fd)) w [.bool e.There,.bool e.Gone,Il e.Owner,Il e.Value,Il e.Sown] (fun _ h=>h) 3 [(Il (d.Value - a.Part))] (Nat.le_of_ble_eq_true rfl) rfl
  have qa:Int.toNat a.Parcel=oa:=by rw[G]; rfl
  rw[<- qa] at t;have Jc:=G;have Kb:(l.set (Int.toNat a.Parcel) ({ There:=e.There,Gone:=e.Gone,Owner:=e.Owner,Value:=(d.Value - a.Part),Sown:=e.Sown }:Fd))[oa]? = some ({ There:=e.There,Gone:=e.Gone,Owner:=e.Owner,Value:=(d.Value - a.Part),Sown:=e.Sown }:Fd):=(congrArg (fun z9_=>(l.set z9_ ({ There:=e.There,Gone:=e.Gone,Owner:=e.Owner,Value:=(d.Value - a.Part),Sown:=e.Sown }:Fd))[oa]?) qa).trans (List.getElem?_set_self (List.getElem?_eq_some_iff.1 w).1);have Kc:=(List.getElem?_eq_some_iff.1 Kb).1;have Mb:=vb.k da;have Nb:=q.k da;have Ob:=s.k da;refine⟨Hb,Ib,?_⟩;refine⟨trivial,_,Nb.bk.rc rfl,trivial,?_⟩;obtain⟨Pb,Qb,Ma,Na,I⟩:=Ob.sto1 Jb 3 (Il a.Part) (by simp) rfl
  replace I:Lb _ _ _ _ _ _ _ [.bool d.There,.bool d.Gone,Il d.Owner,Il a.Part,Il d.Sown]:=I
  have Rb:=Mb.k Na;have t:=t.k Na;refine⟨Pb,Qb,?_⟩;refine⟨_,_,_,_,Rb.bk.ra,?_⟩;obtain⟨Oa,Sb,hp⟩:=zrK hp;refine zvK (b:=b) (entry:=entry) Ma.pre ha102 ha103 Sb fun jd Tb=>?_;obtain⟨Ub,Pa⟩:=Ma.call Tb Ka;have Vb:=I.k Pa;have t:=t.k Pa;refine⟨_,rfl,_,_,_,_,_,Vb.bk.ra,(I.bk.ra),?_⟩;obtain⟨y,z,hp⟩:=zrK hp;obtain⟨sa,J,ta,z⟩:=zrE z;refine⟨sa,J,(by first|exact ta|(rw[t.slLen];exact ta)),?_⟩;obtain⟨Wb,Xb,Yb,cd,Qa⟩:=t.setP Ub (a':=({ There:=d.There,Gone:=d.Gone,Owner:=d.Owner,Value:=a.Part,Sown:=d.Sown }:Fd)) z [.bool y.There,.bool y.Gone,Il y.Owner,Il y.Value,Il y.Sown] (fun _ h=>h) 0 [.bool d.There,.bool d.Gone,Il d.Owner,Il a.Part,Il d.Sown] (Nat.le_of_ble_eq_true rfl) rfl
  have ua:Int.toNat Oa=sa:=by rw[J]; rfl
  rw[<- ua] at Qa;have Nc:=J;have Zb:((l.set (Int.toNat a.Parcel) ({ There:=e.There,Gone:=e.Gone,Owner:=e.Owner,Value:=(d.Value - a.Part),Sown:=e.Sown }:Fd)).set (Int.toNat Oa) ({ There:=d.There,Gone:=d.Gone,Owner:=d.Owner,Value:=a.Part,Sown:=d.Sown }:Fd))[sa]? = some ({ There:=d.There,Gone:=d.Gone,Owner:=d.Owner,Value:=a.Part,Sown:=d.Sown }:Fd):=(congrArg (fun z9_=>((l.set (Int.toNat a.Parcel) ({ There:=e.There,Gone:=e.Gone,Owner:=e.Owner,Value:=(d.Value - a.Part),Sown:=e.Sown }:Fd)).set z9_ ({ There:=d.There,Gone:=d.Gone,Owner:=d.Owner,Value:=a.Part,Sown:=d.Sown }:Fd))[sa]?) ua).trans (List.getElem?_set_self (List.getElem?_eq_some_iff.1 z).1);have Oc:=(List.getElem?_eq_some_iff.1 Zb).1;refine⟨Wb,(by have h9:=Xb; rw[t.add0 z] at h9; exact h9),?_⟩;obtain rfl:=oi hp;exact hq _ Yb.extX Qa.wn
 refine ifd hp (fun ac hp=>?_) fun ac hp=>?_; rotate_left
 ·refine ifd hp (fun bc hp=>?_) fun bc hp=>?_; rotate_left
  ·obtain rfl:=oi hp;exact hq _ r.extX o.wn
  refine⟨trivial,_,s.bk.rc rfl,?_⟩;refine ifd hp (fun cc hp=>?_) fun cc hp=>?_
  ·obtain rfl:=oi hp;exact hq _ r.extX o.wn
  refine⟨trivial,_,q.bk.rc rfl,?_⟩;obtain⟨j,A,hp⟩:=zrK hp;obtain⟨va,N,wa,A⟩:=zrE A;refine⟨va,N,(by first|exact wa|(rw[o.slLen];exact wa)),(o.isPt A _),?_⟩;obtain⟨dc,ec,fc,dd,Ra⟩:=o.setP r (a':=({ There:=j.There,Gone:=true,Owner:=j.Owner,Value:=j.Value,Sown:=j.Sown }:Fd)) A [.bool j.There,.bool j.Gone,Il j.Owner,Il j.Value,Il j.Sown] (fun _ h=>h) 1 [.bool true] (Nat.le_of_ble_eq_true rfl) rfl
  have xa:Int.toNat a.Parcel=va:=by rw[N]; rfl
  rw[<- xa] at Ra;have Qc:=N;have gc:(l.set (Int.toNat a.Parcel) ({ There:=j.There,Gone:=true,Owner:=j.Owner,Value:=j.Value,Sown:=j.Sown }:Fd))[va]? = some ({ There:=j.There,Gone:=true,Owner:=j.Owner,Value:=j.Value,Sown:=j.Sown }:Fd):=(congrArg (fun z9_=>(l.set z9_ ({ There:=j.There,Gone:=true,Owner:=j.Owner,Value:=j.Value,Sown:=j.Sown }:Fd))[va]?) xa).trans (List.getElem?_set_self (List.getElem?_eq_some_iff.1 A).1);have Rc:=(List.getElem?_eq_some_iff.1 gc).1;refine⟨dc,ec,?_⟩;obtain rfl:=oi hp;exact hq _ fc.extX Ra.wn
 refine⟨trivial,_,q.bk.rc rfl,?_⟩;obtain⟨p,ea,hp⟩:=zrK hp;obtain⟨Gc,Xa,ya,ea⟩:=zrE ea;have Ya:=(zvB (o.rdP ea));refine⟨Gc,Xa,(by first|exact ya|(rw[o.slLen];exact ya)),_,_,_,_,_,(Ya).1,?_⟩;intro kd hc;obtain⟨ed,ic,fa,jc⟩:=r.blk hc Ka 5;have kc:=q.k fa;have nc:=s.k fa;have o:=o.k fa;obtain⟨oc,pc,O,ga,P⟩:=jc.sto ic [.bool p.There,.bool p.Gone,Il p.Owner,Il p.Value,Il p.Sown];have ha:=kc.k ga;have ia:=nc.k ga;have o:=o.k ga;refine⟨oc,pc,?_⟩;refine⟨trivial,_,P.bk.rc rfl,?_⟩;refine zsb hp (fun qc hp=>?_) fun qc hp=>?_
 ·obtain rfl:=oi hp;exact hq _ O.extX o.wn
 refine⟨trivial,_,P.bk.rc rfl,?_⟩;refine zsa hp (fun sc hp=>?_) fun sc hp=>?_
 ·obtain rfl:=oi hp;exact hq _ O.extX o.wn
 refine⟨trivial,_,P.bk.rc rfl,trivial,_,ia.bk.rc rfl,?_⟩;refine ifd hp (fun tc hp=>?_) fun tc hp=>?_
 ·obtain rfl:=oi hp;exact hq _ O.extX o.wn
 refine⟨trivial,_,ha.bk.rc rfl,trivial,_,ha.bk.rc rfl,trivial,_,P.bk.rc rfl,trivial,_,ia.bk.rc rfl,?_⟩;obtain⟨g,B,hp⟩:=zrK hp;obtain⟨za,S,Aa,B⟩:=zrE B;refine⟨za,S,(by first|exact Aa|(rw[o.slLen];exact Aa)),(o.isPt B _),?_⟩;obtain⟨uc,vc,wc,Sa,T⟩:=o.setP O (a':=({ There:=g.There,Gone:=g.Gone,Owner:=p.Owner,Value:=g.Value,Sown:=g.Sown }:Fd)) B [.bool g.There,.bool g.Gone,Il g.Owner,Il g.Value,Il g.Sown] (fun _ h=>h) 2 [Il p.Owner] (Nat.le_of_ble_eq_true rfl) rfl
 have Ba:Int.toNat a.Parcel=za:=by rw[S]; rfl
 rw[<- Ba] at T;have Tc:=S;have xc:(l.set (Int.toNat a.Parcel) ({ There:=g.There,Gone:=g.Gone,Owner:=p.Owner,Value:=g.Value,Sown:=g.Sown }:Fd))[za]? = some ({ There:=g.There,Gone:=g.Gone,Owner:=p.Owner,Value:=g.Value,Sown:=g.Sown }:Fd):=(congrArg (fun z9_=>(l.set z9_ ({ There:=g.There,Gone:=g.Gone,Owner:=p.Owner,Value:=g.Value,Sown:=g.Sown }:Fd))[za]?) Ba).trans (List.getElem?_set_self (List.getElem?_eq_some_iff.1 B).1);have Uc:=(List.getElem?_eq_some_iff.1 xc).1;have yc:=ha.k Sa;have zc:=ia.k Sa;refine⟨uc,vc,?_⟩;refine⟨(zc.bk.rc rfl),(yc.bk.rc rfl),?_⟩;obtain⟨n,D,hp⟩:=zrK hp;obtain⟨Ca,Y,Da,D⟩:=zrE D;refine⟨Ca,Y,(by first|exact Da|(rw[T.slLen];exact Da)),(T.isPt D _),?_⟩;obtain⟨Ac,Bc,Cc,fd,Ta⟩:=T.setP wc (a':=({ There:=n.There,Gone:=n.Gone,Owner:=d.Owner,Value:=n.Value,Sown:=n.Sown }:Fd)) D [.bool n.There,.bool n.Gone,Il n.Owner,Il n.Value,Il n.Sown] (fun _ h=>h) 2 [Il d.Owner] (Nat.le_of_ble_eq_true rfl) rfl
 have Ea:Int.toNat a.Other=Ca:=by rw[Y]; rfl
 rw[<- Ea] at Ta;have Vc:=Y;have Dc:((l.set (Int.toNat a.Parcel) ({ There:=g.There,Gone:=g.Gone,Owner:=p.Owner,Value:=g.Value,Sown:=g.Sown }:Fd)).set (Int.toNat a.Other) ({ There:=n.There,Gone:=n.Gone,Owner:=d.Owner,Value:=n.Value,Sown:=n.Sown }:Fd))[Ca]? = some ({ There:=n.There,Gone:=n.Gone,Owner:=d.Owner,Value:=n.Value,Sown:=n.Sown }:Fd):=(congrArg (fun z9_=>((l.set (Int.toNat a.Parcel) ({ There:=g.There,Gone:=g.Gone,Owner:=p.Owner,Value:=g.Value,Sown:=g.Sown }:Fd)).set z9_ ({ There:=n.There,Gone:=n.Gone,Owner:=d.Owner,Value:=n.Value,Sown:=n.Sown }:Fd))[Ca]?) Ea).trans (List.getElem?_set_self (List.getElem?_eq_some_iff.1 D).1);have Xc:=(List.getElem?_eq_some_iff.1 Dc).1;refine⟨Ac,Bc,?_⟩;obtain rfl:=oi hp;exact hq _ Cc.extX Ta.wn
theorem zvS{b:Boo}{t:Tr}{day:Int}{out_:Int}{ca102 ca103 ca200 ca201:C}{m f:M}{Q:V->M->Prop}{rz:List Fd × Bool}(hS:Pre f m)(ha102:Sl f ca102 b.Parcels)(ha103:Sl f ca103 b.Entries)(ha200:Sl f ca200 t.Days)(ha201:Sl f ca201 t.Sown)(hp:ztx b t day out_=some rz)(hq:∀m' f' c0,Grw m f m' f'->Sl f' c0 rz.1->Q (.tup [.c c0,.c (.bool rz.2)]) m'):Wc prog tbl 26 [.agg 4 [Il b.Last,Il b.Owners,ca102,ca103],.agg 2 [ca200,ca201],.c (Il day),.c (Il out_)] m Q:=by
 have S0:=hS.st;obtain⟨τ0,_⟩:=zs1;refine w26 ?_;unfold ztx at hp;intro m0 oa;obtain⟨pa,qa,zb,sa⟩:=S0.blk oa τ0 1;intro m1 ta;obtain⟨ua,Z,va,aa⟩:=qa.blk ta pa 2;have ba:=sa.k va;refine⟨_,_,_,_,ba.bk.ra,_,_,aa.bk.ra,?_⟩;obtain⟨Ab,wa,hp⟩:=zrK hp;refine zvQ (b:=b) (t:=t) Z.pre ha102 ha103 ha200 ha201 wa fun m9 ca da xa ya=>?_;obtain⟨za,Aa,p,a⟩:=Z.callO xa ya ua 3;have e:=ba.k p;have g:=aa.k p;refine⟨_,rfl,?_⟩;intro wb tb
 have hgo:∀(q:Nat) (ea:C) (fa:Bool) (S:C) (F:Int) (w:List Fd) (r:List Fd) (y:List Fd) (B:M) (d:M) (n:Nat->Nat),St (Fm.of m) f d B->Sub ca d->Lb (Fm.of m) d n B 1 m.nxt 4 [Il b.Last,Il b.Owners,ca102,ca103]->Lb (Fm.of m) d n B 2 m0.nxt 2 [ca200,ca201]->Sl d ea w->Sl d S r->Ow (Fm.of m) d n B 3 da y->ztw b t day out_ q w fa r F y=some rz->wb [.c ea,.c (.bool fa),.c S,.c (Il F)] B:=by
  intro q
  induction q with
  | zero=>intro ea fa S F w r y B d n G j e g ga I a hp; cases hp
  | succ q ha=>
   intro ea fa S F w r y B d n G j e g ga I a hp;refine tb _ _ _ _ _ ?_;rw[ztw] at hp;refine⟨trivial,_,e.bk.rc rfl,?_⟩;refine ifd hp (fun Ba hp=>?_) fun Ba hp=>?_; rotate_left
   ·obtain rfl:=oi hp;exact hq _ d S G.grw I
   intro xb ub
   have hgo:∀(z:Nat) (ia:C) (ja:Bool) (T:Int) (A:List Fd) (s:List Fd) (D:M) (h:Nat->Nat),St (Fm.of m) f d D->Lb (Fm.of m) d h D 1 m.nxt 4 [Il b.Last,Il b.Owners,ca102,ca103]->Lb (Fm.of m) d h D 2 m0.nxt 2 [ca200,ca201]->Sl d ia A->Ow (Fm.of m) d h D 3 da s->ztv b t day out_ r F (ztw b t day out_ q) z A ja T s=some rz->xb [.c ia,.c (.bool ja),.c (Il T)] D:=by
    intro z
    induction z with
    | zero=>intro ia ja T A s D h i e g o a hp; cases hp
    | succ z J=>
     intro ia ja T A s D h i e g o a hp;refine ub _ _ _ _ ?_;rw[ztv] at hp;refine⟨trivial,_,e.bk.rc rfl,ha103.isSl,?_⟩
     try rw[ha103.slLen]
     refine ifd hp (fun Ca hp=>?_) fun Ca hp=>?_; rotate_left
     ·refine ifd hp (fun Da hp=>?_) fun Da hp=>?_; rotate_left
      ·refine gdi hp fun Ea hp=>?_;exact ha _ _ _ _ _ _ _ _ d h i j e g o I a hp
      intro Gb Fa;obtain⟨Bb,Ga,N,Ha⟩:=Ow.lit0 (α:=Fd) i h 4 Fa;have Ia:=e.k N;have Ja:=g.k N;have a:=a.k N;obtain⟨Ka,hp⟩:=zrL hp;obtain⟨La,Ma,Na,Oa,Pa,O,Qa⟩:=Ha.appO zvF Ga a Ka;have Ra:=Ia.k O;have Sa:=Ja.k O;have a:=a.k O;refine⟨La,Ma,Oa,?_⟩;refine gdi hp fun Ta hp=>?_;obtain⟨Ua,Va,u,Wa⟩:=Qa.freeze Pa;have Xa:=Ra.k u;have Ya:=Sa.k u;have a:=a.k u;exact ha _ _ _ _ _ _ _ _ Ua Na Va (Sub.trans j u.fs) Xa Ya (o.sub u.fs) Wa a hp
     refine⟨trivial,_,g.bk.rc rfl,?_⟩;obtain⟨Cb,P,hp⟩:=zrK hp;obtain⟨yb,ma,Y,P⟩:=zrE P;refine⟨yb,ma,(by first|exact Y|(rw[ha200.slLen];exact Y)),_,(ha200.rdI P (Sub.trans (Sub.trans p.fs j) i.sub)),?_⟩;refine ifd hp (fun Za hp=>?_) fun Za hp=>?_; rotate_left
     ·refine gdi hp fun ab hp=>?_;exact J _ _ _ _ _ _ h i e g o a hp
     refine gdi hp fun bb hp=>?_;refine gdi hp fun cb hp=>?_;refine gdi hp fun db hp=>?_;refine gdi hp fun eb hp=>?_;refine gdi hp fun fb hp=>?_;refine gdi hp fun gb hp=>?_;refine gdi hp fun hb hp=>?_;refine ifd hp (fun ib hp=>?_) fun ib hp=>?_; rotate_left
     ·refine gdi hp fun jb hp=>?_;exact J _ _ _ _ _ _ h i e g o a hp
     refine⟨_,_,_,_,e.bk.ra,?_⟩;obtain⟨Db,kb,hp⟩:=zrK hp;refine zvR (b:=b) (l:=s) (entry:=T) (day:=F) i.pre (ha102.sub (Sub.trans p.fs j)) (ha103.sub (Sub.trans p.fs j)) (a.wg i) kb fun Hb mb na=>?_;obtain⟨ka,la,ob⟩:=a.callX i mb na;have pb:=e.k la;have qb:=g.k la;refine⟨_,rfl,?_⟩;refine zsb hp (fun rb hp=>?_) fun rb hp=>?_
     ·obtain rfl:=oi hp;exact hq _ d .sl0 ka.grw (Sl.nil _)
     refine gdi hp fun sb hp=>?_;exact J _ _ _ _ _ _ h ka pb qb o ob hp
   exact hgo _ _ _ _ _ _ _ n G e g ga a hp
 exact hgo _ _ _ _ _ _ _ _ _ ca za Aa (Sub.refl _) e g (Sl.nil _) (Sl.nil _) a hp
theorem zvT{bits:Int}{m f:M}{Q:V->M->Prop}{rz:List Int}(hS:Pre f m)(hp:ztz bits=some rz)(hq:∀m' f' c0,Grw m f m' f'->Sl f' c0 rz->Q (.c c0) m'):Wc prog tbl 60 [.c (Il bits)] m Q:=by
 have S0:=hS.st;obtain⟨τ0,_⟩:=zs1;refine w60 ?_;unfold ztz at hp;intro R0 da
 have hgo:∀(d:Nat) (l:C) (j:Int) (e:List Int) (n:M) (g:Nat->Nat),St (Fm.of m) f f n->Ow (Fm.of m) f g n 1 l e->zty bits d e j=some rz->R0 [.c l,.c (Il j)] n:=by
  intro d
  induction d with
  | zero=>intro l j e n g h i hp; cases hp
  | succ d o=>
   intro l j e n g h i hp;refine da _ _ _ ?_;rw[zty] at hp;refine gdi hp fun p hp=>?_;refine gdi hp fun q hp=>?_;refine gdi hp fun r hp=>?_;refine gdi hp fun s hp=>?_;refine ifd hp (fun t hp=>?_) fun t hp=>?_; rotate_left
   ·obtain⟨u,w,ea,y⟩:=i.freeze h;obtain rfl:=oi hp;exact hq _ u l w.grw y
   refine gdi hp fun z hp=>?_;refine gdi hp fun A hp=>?_;refine gdi hp fun B hp=>?_;refine gdi hp fun D hp=>?_;refine gdi hp fun F hp=>?_;refine gdi hp fun G hp=>?_;refine gdi hp fun I hp=>?_;refine ifd hp (fun J hp=>?_) fun J hp=>?_; rotate_left
   ·refine gdi hp fun N hp=>?_;exact o _ _ _ _ g h i hp
   obtain⟨O,hp⟩:=zrL hp;intro m4 P;obtain⟨S,T,Y,Z,aa,fa,ba⟩:=i.app' zvC h (a:=j) (show Rp.rep (α:=Int) f _ j from rfl) O P;refine⟨S,T,Z,?_⟩;refine gdi hp fun ca hp=>?_;exact o _ _ _ _ Y aa ba hp
 exact hgo _ _ _ _ _ τ0 S0 (Ow.nil _ _ _ _ _) hp
theorem zvU{a:List Int}{b:List Int}{ca100 ca200:C}{m f:M}{Q:V->M->Prop}{rz:Bool}(hS:Pre f m)(ha100:Sl f ca100 a)(ha200:Sl f ca200 b)(hp:ztB a b=some rz)(hq:∀m',Ext m m'->Q (.c (.bool rz)) m'):Wc prog tbl 84 [.c ca100,.c ca200] m Q:=by
 have T:=hS.st;obtain⟨Y,_⟩:=zs1;refine w84 ?_;unfold ztB at hp;intro Z I
 have hgo:∀(e:Nat) (F:Bool) (w:Int) (y:M) (g:Nat->Nat),St (Fm.of m) f f y->ztA a b e w=some rz->Z [.c (.bool F),.c (Il w)] y:=by
  intro e
  induction e with
  | zero=>intro F w y g d hp; cases hp
  | succ e G=>
   intro F w y g d hp;refine I _ _ _ ?_;rw[ztA] at hp;refine⟨ha100.isSl,?_⟩
   try rw[ha100.slLen]
   refine ifd hp (fun z hp=>?_) fun z hp=>?_; rotate_left
   ·refine⟨ha100.isSl,ha200.isSl,?_⟩
    try rw[ha100.slLen]
    try rw[ha200.slLen]
    obtain rfl:=oi hp;exact hq _ d.ext'
   refine⟨ha200.isSl,?_⟩
   try rw[ha200.slLen]
   refine ifd hp (fun A hp=>?_) fun A hp=>?_; rotate_left
   ·refine⟨ha100.isSl,ha200.isSl,?_⟩
    try rw[ha100.slLen]
    try rw[ha200.slLen]
    obtain rfl:=oi hp;exact hq _ d.ext'
   obtain⟨N,h,hp⟩:=zrK hp;obtain⟨n4,r,n,h⟩:=zrE h;refine⟨n4,r,(by first|exact n|(rw[ha100.slLen];exact n)),_,(ha100.rdI h d.sub),?_⟩;obtain⟨O,i,hp⟩:=zrK hp;obtain⟨n6,s,o,i⟩:=zrE i;refine⟨n6,s,(by first|exact o|(rw[ha200.slLen];exact o)),_,(ha200.rdI i d.sub),?_⟩;refine zr9 hp (fun B hp=>?_) fun B hp=>?_; rotate_left
   ·refine gdi hp fun D hp=>?_;exact G _ _ _ g d hp
   obtain⟨P,j,hp⟩:=zrK hp;obtain⟨n8,t,p,j⟩:=zrE j;refine⟨n8,t,(by first|exact p|(rw[ha100.slLen];exact p)),_,(ha100.rdI j d.sub),?_⟩;obtain⟨S,l,hp⟩:=zrK hp;obtain⟨J,u,q,l⟩:=zrE l;refine⟨J,u,(by first|exact q|(rw[ha200.slLen];exact q)),_,(ha200.rdI l d.sub),?_⟩;obtain rfl:=oi hp;exact hq _ d.ext'
 exact hgo _ _ _ _ Y T hp
theorem zvV{a:List Int}{b:List Int}{ca100 ca200:C}{m f:M}{Q:V->M->Prop}{rz:Bool}(hS:Pre f m)(ha100:Sl f ca100 a)(ha200:Sl f ca200 b)(hp:ztC a b=some rz)(hq:∀m',Ext m m'->Q (.c (.bool rz)) m'):Wc prog tbl 59 [.c ca100,.c ca200] m Q:=by
 have d:=hS.st;obtain⟨o,_⟩:=zs1;refine w59 ?_;unfold ztC at hp;refine⟨ha100.isSl,ha200.isSl,?_⟩
 try rw[ha100.slLen]
 try rw[ha200.slLen]
 refine ifd hp (fun e hp=>?_) fun e hp=>?_
 ·obtain rfl:=oi hp;exact hq _ d.ext'
 refine⟨ha100.isSl,ha200.isSl,?_⟩
 try rw[ha100.slLen]
 try rw[ha200.slLen]
 refine ifd hp (fun g hp=>?_) fun g hp=>?_; rotate_left
 ·obtain rfl:=oi hp;exact hq _ d.ext'
 obtain⟨l,h,hp⟩:=zrK hp;refine zvU (a:=a) (b:=b) d.pre ha100 ha200 h fun p i=>?_;obtain⟨j,n⟩:=d.call i o;refine⟨_,rfl,?_⟩;obtain rfl:=oi hp;exact hq _ j.ext'
theorem zvW{r:Rg}{m f:M}{Q:V->M->Prop}{rz:Rg}(hS:Pre f m)(hp:ztD r=some rz)(hq:∀m',Ext m m'->Q (.agg 2 [Il rz.Lo,Il rz.Hi]) m'):Wc prog tbl 39 [.agg 2 [Il r.Lo,Il r.Hi]] m Q:=by
 have w:=hS.st;obtain⟨y,_⟩:=zs1;refine w39 ?_;unfold ztD at hp;intro z c;obtain⟨d,e,s,g⟩:=w.blk c y 1;intro A h;obtain⟨t,i,j,l⟩:=e.blk h d 2;have a:=g.k j;refine⟨trivial,_,a.bk.rc rfl,trivial,_,a.bk.rc rfl,?_⟩;obtain⟨n,o,p,u,q⟩:=l.sto i [Il r.Lo,Il r.Hi];refine⟨n,o,?_⟩;refine⟨_,_,q.bk.ra,?_⟩;obtain rfl:=oi hp;exact hq _ p.ext'
theorem zvX{b:Boo}{ca102 ca103:C}{m f:M}{Q:V->M->Prop}{rz:Boo}(hS:Pre f m)(ha102:Sl f ca102 b.Parcels)(ha103:Sl f ca103 b.Entries)(hp:ztG b=some rz)(hq:∀m' f' c2 c3,Grw m f m' f'->Sl f' c2 rz.Parcels->Sl f' c3 rz.Entries->Q (.agg 4 [Il rz.Last,Il rz.Owners,c2,c3]) m'):Wc prog tbl 20 [.agg 4 [Il b.Last,Il b.Owners,ca102,ca103]] m Q:=by
 have S0:=hS.st;obtain⟨τ0,_⟩:=zs1;refine w20 ?_;unfold ztG at hp;intro m0 Ma;obtain⟨Na,Oa,Vc,Pa⟩:=S0.blk Ma τ0 1;intro m1 Qa;obtain⟨Ra,Sa,Ta,Ua⟩:=Oa.blk Qa Na 2;have ia:=Pa.k Ta;refine⟨trivial,_,ia.bk.rc rfl,trivial,_,ia.bk.rc rfl,?_⟩;intro m4 Va;obtain⟨Wa,Xa,xa,Ya⟩:=Sa.blk Va Ra 3;have Za:=ia.k xa;have ab:=Ua.k xa;obtain⟨bb,cb,db,ya,l⟩:=Ya.sto Xa [Il b.Last,Il b.Owners,.sl0,.sl0];have i:=Za.k ya;have n:=ab.k ya;refine⟨bb,cb,?_⟩;intro R6 Qc
 have hgo:∀(T:Nat) (x7:Int) (o:C) (F:C) (G:Int) (I:Int) (u:List Pc) (Y:List En) (m8:M) (p:Nat->Nat),St (Fm.of m) f f m8->Lb (Fm.of m) f p m8 1 m.nxt 4 [Il b.Last,Il b.Owners,ca102,ca103]->Lb (Fm.of m) f p m8 2 m0.nxt 4 [Il 0,Il 0,.sl0,.sl0]->Lb (Fm.of m) f p m8 3 m1.nxt 4 [Il G,Il I,o,F]->Ow (Fm.of m) f p m8 4 o u->Ow (Fm.of m) f p m8 5 F Y->ztF b T G I u Y x7=some rz->R6 [.c (Il x7)] m8:=by
  intro T
  induction T with
  | zero=>intro x7 o F G I u Y m8 p Z i n l d h hp; cases hp
  | succ T Jc=>
   intro x7 o F G I u Y m8 p Z i n l d h hp;refine Qc _ _ ?_;rw[ztF] at hp;refine⟨trivial,_,i.bk.rc rfl,ha102.isSl,?_⟩
   try rw[ha102.slLen]
   refine ifd hp (fun fb hp=>?_) fun fb hp=>?_
   ·refine⟨trivial,_,i.bk.rc rfl,?_⟩;obtain⟨q,ka,hp⟩:=zrK hp;obtain⟨Rc,Ka,va,ka⟩:=zrE ka;obtain⟨_,gb⟩:=zs5 ha102 ka;refine⟨Rc,Ka,(by first|exact va|(rw[ha102.slLen];exact va)),_,_,_,_,(gb _ Z.sub).1,?_⟩;intro bd hb;obtain⟨ib,jb,J,kb⟩:=Z.blk hb p 6;have mb:=i.k J;have ob:=n.k J;have pb:=l.k J;have d:=d.k J;have h:=h.k J;obtain⟨qb,rb,za,N,aa⟩:=kb.sto jb [Il q.Owner,Il q.Value,Il q.Sown.Lo,Il q.Sown.Hi];have sb:=mb.k N;have tb:=ob.k N;have Aa:=pb.k N;have d:=d.k N;have h:=h.k N;refine⟨qb,rb,?_⟩;refine⟨trivial,_,Aa.bk.rc rfl,trivial,_,aa.bk.rc rfl,trivial,_,aa.bk.rc rfl,trivial,_,_,aa.bk.rp (k:=2) (j:=2) rfl (by omega),?_⟩;obtain⟨Ba,ub,hp⟩:=zrK hp;refine zvW (r:=q.Sown) za.pre  ub fun cd vb=>?_;obtain⟨wb,w⟩:=za.call vb ib;have xb:=sb.k w;have yb:=tb.k w;have la:=Aa.k w;have Ca:=aa.k w;have d:=d.k w;have h:=h.k w;refine⟨_,_,rfl,(Ca.bk.rc rfl),(Ca.bk.rc rfl),(by rw[show cmC _=true from zqf (d.noFn)]; exact(la.bk.rc rfl)),?_⟩;obtain⟨zb,hp⟩:=zrL hp;intro dd Da;refine⟨(by rw[show cmC _=true from zqf (d.noFn)]; exact(la.bk.ext (Bk.new Da).2).rc rfl),?_⟩;obtain⟨ma,Ab,Bb,Cb,Db,ba,na⟩:=d.app' zvD wb (a:=({ Owner:=q.Owner,Value:=q.Value,Sown:=Ba }:Pc)) (show Rp.rep (α:=Pc) f _ ({ Owner:=q.Owner,Value:=q.Value,Sown:=Ba }:Pc) from rfl) zb Da;have Eb:=xb.k ba;have Fb:=yb.k ba;have Gb:=la.k ba;have h:=h.k ba;refine⟨ma,Ab,Cb,?_⟩;refine⟨trivial,?_⟩;obtain⟨Hb,Ib,Jb,ca,oa⟩:=Gb.sto1 Db 2 ma (by simp) rfl
    replace oa:Lb _ _ _ _ _ _ _ [Il G,Il I,ma,F]:=oa
    have Kb:=Eb.k ca;have Mb:=Fb.k ca;have h:=h.k ca;have na:=na.k ca;refine⟨Hb,Ib,?_⟩;refine gdi hp fun Nb hp=>?_;exact Jc _ _ _ _ _ _ _ _ Bb Jb Kb Mb oa na h hp
   intro Tc Kc
   have hgo:∀(da:Nat) (Ea:Int) (y:C) (z:Int) (A:Int) (ea:List En) (O:M) (s:Nat->Nat),St (Fm.of m) f f O->Lb (Fm.of m) f s O 1 m.nxt 4 [Il b.Last,Il b.Owners,ca102,ca103]->Lb (Fm.of m) f s O 2 m0.nxt 4 [Il 0,Il 0,.sl0,.sl0]->Lb (Fm.of m) f s O 3 m1.nxt 4 [Il z,Il A,o,y]->Ow (Fm.of m) f s O 5 y ea->Ow (Fm.of m) f s O 4 o u->ztE b u da z A ea Ea=some rz->Tc [.c (Il Ea)] O:=by
    intro da
    induction da with
    | zero=>intro Ea y z A ea O s fa i n l g d hp; cases hp
    | succ da Ob=>
     intro Ea y z A ea O s fa i n l g d hp;refine Kc _ _ ?_;rw[ztE] at hp;refine⟨trivial,_,i.bk.rc rfl,ha103.isSl,?_⟩
     try rw[ha103.slLen]
     refine ifd hp (fun Pb hp=>?_) fun Pb hp=>?_; rotate_left
     ·refine⟨_,_,_,_,l.bk.ra,?_⟩;obtain⟨Qb,Rb,Sb,Fa,Tb⟩:=n.sto fa [Il z,Il A,o,y];have d:=d.k Fa;have g:=g.k Fa;refine⟨Qb,Rb,?_⟩;refine⟨_,_,_,_,Tb.bk.ra,?_⟩;obtain⟨Xc,Ub,Vb,Wb⟩:=d.freeze Sb;have g:=g.k Vb;obtain⟨Xb,Yb,Zb,ac⟩:=g.freeze Ub;obtain rfl:=oi hp;exact hq _ Xb o y Yb.grw (Wb.sub Zb.fs) ac
     refine⟨trivial,_,i.bk.rc rfl,?_⟩;obtain⟨e,pa,hp⟩:=zrK hp;obtain⟨Uc,La,wa,pa⟩:=zrE pa;obtain⟨_,bc⟩:=zs7 ha103 pa;refine⟨Uc,La,(by first|exact wa|(rw[ha103.slLen];exact wa)),_,_,_,_,_,_,_,_,(bc _ fa.sub).1,?_⟩;intro ed cc;obtain⟨dc,ec,P,fc⟩:=fa.blk cc s 7;have gc:=i.k P;have hc:=n.k P;have ic:=l.k P;have d:=d.k P;have g:=g.k P;obtain⟨jc,kc,Ga,S,t⟩:=fc.sto ec [Il e.Kind,Il e.Parcel,Il e.Other,Il e.From,Il e.To,Il e.Part,Il e.Day.Lo,Il e.Day.Hi];have nc:=gc.k S;have oc:=hc.k S;have Ha:=ic.k S;have d:=d.k S;have g:=g.k S;refine⟨jc,kc,?_⟩;refine⟨trivial,_,Ha.bk.rc rfl,trivial,_,t.bk.rc rfl,trivial,_,t.bk.rc rfl,trivial,_,t.bk.rc rfl,trivial,_,t.bk.rc rfl,trivial,_,t.bk.rc rfl,trivial,_,t.bk.rc rfl,trivial,_,_,t.bk.rp (k:=6) (j:=2) rfl (by omega),?_⟩;obtain⟨Ia,pc,hp⟩:=zrK hp;refine zvW (r:=e.Day) Ga.pre  pc fun fd qc=>?_;obtain⟨sc,B⟩:=Ga.call qc dc;have tc:=nc.k B;have uc:=oc.k B;have qa:=Ha.k B;have D:=t.k B;have d:=d.k B;have g:=g.k B;refine⟨_,_,rfl,(D.bk.rc rfl),(D.bk.rc rfl),(D.bk.rc rfl),(D.bk.rc rfl),(D.bk.rc rfl),(D.bk.rc rfl),(by rw[show cmC _=true from zqf (g.noFn)]; exact(qa.bk.rc rfl)),?_⟩;obtain⟨vc,hp⟩:=zrL hp;intro hd Ja;refine⟨(by rw[show cmC _=true from zqf (g.noFn)]; exact(qa.bk.ext (Bk.new Ja).2).rc rfl),?_⟩;obtain⟨sa,wc,xc,yc,zc,ga,ta⟩:=g.app' zvE sc (a:=({ Kind:=e.Kind,Parcel:=e.Parcel,Other:=e.Other,From:=e.From,To:=e.To,Part:=e.Part,Day:=Ia }:En)) (show Rp.rep (α:=En) f _ ({ Kind:=e.Kind,Parcel:=e.Parcel,Other:=e.Other,From:=e.From,To:=e.To,Part:=e.Part,Day:=Ia }:En) from rfl) vc Ja
     have Ac:=tc.k ga;have Bc:=uc.k ga;have Cc:=qa.k ga;have d:=d.k ga;refine⟨sa,wc,yc,?_⟩;refine⟨trivial,?_⟩;obtain⟨Dc,Ec,Fc,ha,ua⟩:=Cc.sto1 zc 3 sa (by simp) rfl
     replace ua:Lb _ _ _ _ _ _ _ [Il z,Il A,o,sa]:=ua
     have Gc:=Ac.k ha;have Hc:=Bc.k ha;have d:=d.k ha;have ta:=ta.k ha;refine⟨Dc,Ec,?_⟩;refine gdi hp fun Ic hp=>?_;exact Ob _ _ _ _ _ _ xc Fc Gc Hc ua ta d hp
   exact hgo _ _ _ _ _ _ _ p Z i n l h d hp
 exact hgo _ _ _ _ _ _ _ _ _ Wa db i n l (Ow.nil _ _ _ _ _) (Ow.nil _ _ _ _ _) hp
theorem zvY{b:Boo}{ca102 ca103:C}{m f:M}{Q:V->M->Prop}{rz:Bool}(hS:Pre f m)(ha102:Sl f ca102 b.Parcels)(ha103:Sl f ca103 b.Entries)(hp:ztH b=some rz)(hq:∀m',Ext m m'->Q (.c (.bool rz)) m'):Wc prog tbl 17 [.agg 4 [Il b.Last,Il b.Owners,ca102,ca103]] m Q:=by
 have j:=hS.st;obtain⟨l,_⟩:=zs1;refine w17 ?_;unfold ztH at hp;intro n e;obtain⟨h,a,i,d⟩:=j.blk e l 1;refine⟨trivial,_,d.bk.rc rfl,ha102.isSl,?_⟩
 try rw[ha102.slLen]
 refine ifd hp (fun g hp=>?_) fun g hp=>?_; rotate_left
 ·obtain rfl:=oi hp;exact hq _ a.ext'
 refine⟨trivial,_,d.bk.rc rfl,ha103.isSl,?_⟩
 try rw[ha103.slLen]
 obtain rfl:=oi hp;exact hq _ a.ext'
theorem zvZ{n:Int}{low:Int}{high:Int}{m f:M}{Q:V->M->Prop}{rz:Bool}(hS:Pre f m)(hp:ztI n low high=some rz)(hq:∀m',Ext m m'->Q (.c (.bool rz)) m'):Wc prog tbl 95 [.c (Il n),.c (Il low),.c (Il high)] m Q:=by
 have d:=hS.st;obtain⟨e,_⟩:=zs1;refine w95 ?_;unfold ztI at hp;refine ifd hp (fun a hp=>?_) fun a hp=>?_
 ·obtain rfl:=oi hp;exact hq _ d.ext'
 obtain rfl:=oi hp;exact hq _ d.ext'
theorem zv0{w:Wk}{n:Int}{ca102 ca103:C}{m f:M}{Q:V->M->Prop}{rz:Bool}(hS:Pre f m)(_ha102:Sl f ca102 w.b.Parcels)(_ha103:Sl f ca103 w.b.Entries)(hp:ztJ w n=some rz)(hq:∀m',Ext m m'->Q (.c (.bool rz)) m'):Wc prog tbl 106 [.agg 17 [Il w.b.Last,Il w.b.Owners,ca102,ca103,Il w.numbers,Il w.makes.m0,Il w.makes.m1,Il w.makes.m2,Il w.makes.m3,Il w.makes.m4,Il w.makes.m5,.bool w.out.o0,.bool w.out.o1,.bool w.out.o2,.bool w.out.o3,.bool w.out.o4,.bool w.out.o5],.c (Il n)] m Q:=by
 have r:=hS.st;obtain⟨s,_⟩:=zs1;refine zvc ?_;unfold ztJ at hp;intro m0 d;obtain⟨e,a,o,g⟩:=r.blk d s 1;refine⟨trivial,_,g.bk.rc rfl,?_⟩;refine gdi hp fun h hp=>?_;obtain⟨p,i,hp⟩:=zrK hp;refine zvZ (n:=n) (low:=(0:Int)) (high:=(w.numbers - (1:Int))) a.pre  i fun m3 j=>?_;obtain⟨l,q⟩:=a.call j e;refine⟨_,rfl,?_⟩;obtain rfl:=oi hp;exact hq _ l.ext'
theorem zv1{w:Wk}{n:Int}{ca102 ca103:C}{m f:M}{Q:V->M->Prop}{rz:Bool}(hS:Pre f m)(_ha102:Sl f ca102 w.b.Parcels)(_ha103:Sl f ca103 w.b.Entries)(hp:ztK w n=some rz)(hq:∀m',Ext m m'->Q (.c (.bool rz)) m'):Wc prog tbl 85 [.agg 17 [Il w.b.Last,Il w.b.Owners,ca102,ca103,Il w.numbers,Il w.makes.m0,Il w.makes.m1,Il w.makes.m2,Il w.makes.m3,Il w.makes.m4,Il w.makes.m5,.bool w.out.o0,.bool w.out.o1,.bool w.out.o2,.bool w.out.o3,.bool w.out.o4,.bool w.out.o5],.c (Il n)] m Q:=by
 have r:=hS.st;obtain⟨s,_⟩:=zs1;refine w85 ?_;unfold ztK at hp;intro m0 d;obtain⟨e,a,o,g⟩:=r.blk d s 1;refine⟨trivial,trivial,_,g.bk.rc rfl,?_⟩;refine gdi hp fun h hp=>?_;obtain⟨p,i,hp⟩:=zrK hp;refine zvZ (n:=n) (low:=(0:Int)) (high:=(w.b.Owners - (1:Int))) a.pre  i fun m3 j=>?_;obtain⟨l,q⟩:=a.call j e;refine⟨_,rfl,?_⟩;obtain rfl:=oi hp;exact hq _ l.ext'
theorem zv2{w:Wk}{n:Int}{ca102 ca103:C}{m f:M}{Q:V->M->Prop}{rz:Bool}(hS:Pre f m)(_ha102:Sl f ca102 w.b.Parcels)(_ha103:Sl f ca103 w.b.Entries)(hp:ztL w n=some rz)(hq:∀m',Ext m m'->Q (.c (.bool rz)) m'):Wc prog tbl 63 [.agg 17 [Il w.b.Last,Il w.b.Owners,ca102,ca103,Il w.numbers,Il w.makes.m0,Il w.makes.m1,Il w.makes.m2,Il w.makes.m3,Il w.makes.m4,Il w.makes.m5,.bool w.out.o0,.bool w.out.o1,.bool w.out.o2,.bool w.out.o3,.bool w.out.o4,.bool w.out.o5],.c (Il n)] m Q:=by
 have q:=hS.st;obtain⟨r,_⟩:=zs1;refine w63 ?_;unfold ztL at hp;intro m0 d;obtain⟨e,a,l,g⟩:=q.blk d r 1;refine⟨trivial,trivial,_,g.bk.rc rfl,?_⟩;obtain⟨o,h,hp⟩:=zrK hp;refine zvZ (n:=n) (low:=(0:Int)) (high:=w.b.Last) a.pre  h fun m3 i=>?_;obtain⟨j,p⟩:=a.call i e;refine⟨_,rfl,?_⟩;obtain rfl:=oi hp;exact hq _ j.ext'
theorem zv3{w:Wk}{r:Rg}{ca102 ca103:C}{m f:M}{Q:V->M->Prop}{rz:Bool}(hS:Pre f m)(ha102:Sl f ca102 w.b.Parcels)(ha103:Sl f ca103 w.b.Entries)(hp:ztM w r=some rz)(hq:∀m',Ext m m'->Q (.c (.bool rz)) m'):Wc prog tbl 127 [.agg 17 [Il w.b.Last,Il w.b.Owners,ca102,ca103,Il w.numbers,Il w.makes.m0,Il w.makes.m1,Il w.makes.m2,Il w.makes.m3,Il w.makes.m4,Il w.makes.m5,.bool w.out.o0,.bool w.out.o1,.bool w.out.o2,.bool w.out.o3,.bool w.out.o4,.bool w.out.o5],.agg 2 [Il r.Lo,Il r.Hi]] m Q:=by
 have P:=hS.st;obtain⟨S,_⟩:=zs1;refine zve ?_;unfold ztM at hp;intro m0 j;obtain⟨l,o,I,p⟩:=P.blk j S 1;intro m1 q;obtain⟨g,d,s,a⟩:=o.blk q l 2;have h:=p.k s;refine⟨trivial,_,a.bk.rc rfl,trivial,_,a.bk.rc rfl,?_⟩;refine ifd hp (fun t hp=>?_) fun t hp=>?_; rotate_left
 ·obtain rfl:=oi hp;exact hq _ d.ext'
 refine⟨_,_,_,_,_,_,_,_,_,_,_,_,_,_,_,_,_,h.bk.ra,trivial,_,a.bk.rc rfl,?_⟩;obtain⟨J,u,hp⟩:=zrK hp;refine zv2 (w:=w) (n:=r.Lo) d.pre ha102 ha103 u fun T y=>?_;obtain⟨e,i⟩:=d.call y g;have z:=h.k i;have A:=a.k i;refine⟨_,rfl,?_⟩;refine zsa hp (fun B hp=>?_) fun B hp=>?_; rotate_left
 ·obtain rfl:=oi hp;exact hq _ e.ext'
 refine⟨_,_,_,_,_,_,_,_,_,_,_,_,_,_,_,_,_,z.bk.ra,trivial,_,A.bk.rc rfl,?_⟩;obtain⟨N,D,hp⟩:=zrK hp;refine zv2 (w:=w) (n:=r.Hi) e.pre ha102 ha103 D fun Y F=>?_;obtain⟨G,O⟩:=e.call F g;refine⟨_,rfl,?_⟩;obtain rfl:=oi hp;exact hq _ G.ext'
theorem zv4{w:Wk}{e:En}{ca102 ca103:C}{m f:M}{Q:V->M->Prop}{rz:Bool}(hS:Pre f m)(ha102:Sl f ca102 w.b.Parcels)(ha103:Sl f ca103 w.b.Entries)(hp:ztN w e=some rz)(hq:∀m',Ext m m'->Q (.c (.bool rz)) m'):Wc prog tbl 104 [.agg 17 [Il w.b.Last,Il w.b.Owners,ca102,ca103,Il w.numbers,Il w.makes.m0,Il w.makes.m1,Il w.makes.m2,Il w.makes.m3,Il w.makes.m4,Il w.makes.m5,.bool w.out.o0,.bool w.out.o1,.bool w.out.o2,.bool w.out.o3,.bool w.out.o4,.bool w.out.o5],.agg 8 [Il e.Kind,Il e.Parcel,Il e.Other,Il e.From,Il e.To,Il e.Part,Il e.Day.Lo,Il e.Day.Hi]] m Q:=by
 have S0:=hS.st;obtain⟨τ0,_⟩:=zs1;refine zvm ?_;unfold ztN at hp;intro m0 qa;obtain⟨sa,ta,Qc,ua⟩:=S0.blk qa τ0 1;intro m1 va;obtain⟨l,F,wa,G⟩:=ta.blk va sa 2;have I:=ua.k wa;refine⟨_,_,_,_,_,_,_,_,_,_,_,_,_,_,_,_,_,I.bk.ra,trivial,_,G.bk.rc rfl,?_⟩;obtain⟨Rc,xa,hp⟩:=zrK hp;refine zv0 (w:=w) (n:=e.Parcel) F.pre ha102 ha103 xa fun dd ya=>?_;obtain⟨o,J⟩:=F.call ya l;have N:=I.k J;have O:=G.k J;refine⟨_,rfl,?_⟩;refine zsb hp (fun za hp=>?_) fun za hp=>?_
 ·obtain rfl:=oi hp;exact hq _ o.ext'
 refine⟨_,_,_,_,_,_,_,_,_,_,_,_,_,_,_,_,_,N.bk.ra,trivial,_,_,O.bk.rp (k:=6) (j:=2) rfl (by omega),?_⟩;obtain⟨Tc,Aa,hp⟩:=zrK hp;refine zv3 (w:=w) (r:=e.Day) o.pre ha102 ha103 Aa fun ed Ba=>?_;obtain⟨P,S⟩:=o.call Ba l;have Ca:=N.k S;have g:=O.k S;refine⟨_,rfl,?_⟩;refine zsb hp (fun Da hp=>?_) fun Da hp=>?_
 ·obtain rfl:=oi hp;exact hq _ P.ext'
 refine⟨trivial,_,g.bk.rc rfl,trivial,_,g.bk.rc rfl,trivial,_,_,g.bk.rp (k:=6) (j:=2) rfl (by omega),?_⟩;intro fd Ea;obtain⟨h,Fa,T,Ga⟩:=P.blk Ea l 3;have Ha:=Ca.k T;have Ia:=g.k T;obtain⟨Ja,Ka,d,Y,i⟩:=Ga.sto Fa [Il e.Kind,Il e.Parcel,Il 0,Il 0,Il 0,Il 0,Il e.Day.Lo,Il e.Day.Hi];have Z:=Ha.k Y;have a:=Ia.k Y;refine⟨Ja,Ka,?_⟩;refine⟨trivial,_,a.bk.rc rfl,?_⟩;refine ifd hp (fun La hp=>?_) fun La hp=>?_
 ·refine⟨trivial,_,a.bk.rc rfl,trivial,_,a.bk.rc rfl,trivial,?_⟩;obtain⟨Ma,Na,Oa,aa,p⟩:=i.sto1 d 3 (Il e.From) (by simp) rfl
  replace p:Lb _ _ _ _ _ _ _ [Il e.Kind,Il e.Parcel,Il 0,Il e.From,Il 0,Il 0,Il e.Day.Lo,Il e.Day.Hi]:=p
  have Pa:=Z.k aa;have ba:=a.k aa;refine⟨Ma,Na,?_⟩;refine⟨(ba.bk.rc rfl),trivial,?_⟩;obtain⟨Qa,Ra,ca,da,q⟩:=p.sto1 Oa 4 (Il e.To) (by simp) rfl
  replace q:Lb _ _ _ _ _ _ _ [Il e.Kind,Il e.Parcel,Il 0,Il e.From,Il e.To,Il 0,Il e.Day.Lo,Il e.Day.Hi]:=q
  have ea:=Pa.k da;have fa:=ba.k da;refine⟨Qa,Ra,?_⟩;refine⟨_,_,_,_,_,_,_,_,_,_,_,_,_,_,_,_,_,ea.bk.ra,trivial,_,fa.bk.rc rfl,?_⟩;obtain⟨Uc,Sa,hp⟩:=zrK hp;refine zv1 (w:=w) (n:=e.From) ca.pre ha102 ha103 Sa fun hd Ta=>?_;obtain⟨s,t⟩:=ca.call Ta h;have Ua:=ea.k t;have ga:=fa.k t;have Va:=q.k t;refine⟨_,rfl,?_⟩;refine zsa hp (fun Wa hp=>?_) fun Wa hp=>?_; rotate_left
  ·obtain rfl:=oi hp;exact hq _ s.ext'
  refine⟨_,_,_,_,_,_,_,_,_,_,_,_,_,_,_,_,_,Ua.bk.ra,trivial,_,ga.bk.rc rfl,?_⟩;obtain⟨Vc,Xa,hp⟩:=zrK hp;refine zv1 (w:=w) (n:=e.To) s.pre ha102 ha103 Xa fun id Ya=>?_;obtain⟨u,ha⟩:=s.call Ya h;have y:=ga.k ha;have Za:=Va.k ha;refine⟨_,rfl,?_⟩;refine zsa hp (fun ab hp=>?_) fun ab hp=>?_; rotate_left
  ·obtain rfl:=oi hp;exact hq _ u.ext'
  refine⟨trivial,_,y.bk.rc rfl,trivial,_,y.bk.rc rfl,?_⟩;refine zr9 hp (fun bb hp=>?_) fun bb hp=>?_; rotate_left
  ·obtain rfl:=oi hp;exact hq _ u.ext'
  refine⟨_,_,_,_,_,_,_,_,y.bk.ra,_,_,_,_,_,_,_,_,Za.bk.ra,?_⟩;refine gdi hp fun cb hp=>?_;refine gdi hp fun db hp=>?_;refine gdi hp fun eb hp=>?_;refine gdi hp fun fb hp=>?_;refine gdi hp fun gb hp=>?_;refine gdi hp fun hb hp=>?_;refine gdi hp fun ib hp=>?_;refine gdi hp fun jb hp=>?_;refine gdi hp fun kb hp=>?_;refine gdi hp fun mb hp=>?_;refine gdi hp fun ob hp=>?_;refine gdi hp fun pb hp=>?_;refine gdi hp fun qb hp=>?_;refine gdi hp fun rb hp=>?_;refine gdi hp fun sb hp=>?_;refine gdi hp fun tb hp=>?_;obtain rfl:=oi hp;exact hq _ u.ext'
 refine ifd hp (fun ub hp=>?_) fun ub hp=>?_
 ·refine⟨trivial,_,a.bk.rc rfl,trivial,?_⟩;obtain⟨vb,wb,ia,xb,z⟩:=i.sto1 d 5 (Il e.Part) (by simp) rfl
  replace z:Lb _ _ _ _ _ _ _ [Il e.Kind,Il e.Parcel,Il 0,Il 0,Il 0,Il e.Part,Il e.Day.Lo,Il e.Day.Hi]:=z
  have ja:=a.k xb;refine⟨vb,wb,?_⟩;refine⟨trivial,_,ja.bk.rc rfl,?_⟩;obtain⟨Xc,yb,hp⟩:=zrK hp;refine zvZ (n:=e.Part) (low:=(1:Int)) (high:=(1000:Int)) ia.pre  yb fun bd zb=>?_;obtain⟨ka,la⟩:=ia.call zb h;have Ab:=ja.k la;have Bb:=z.k la;refine⟨_,rfl,?_⟩;refine zsa hp (fun Cb hp=>?_) fun Cb hp=>?_; rotate_left
  ·obtain rfl:=oi hp;exact hq _ ka.ext'
  refine⟨_,_,_,_,_,_,_,_,Ab.bk.ra,_,_,_,_,_,_,_,_,Bb.bk.ra,?_⟩;refine gdi hp fun Db hp=>?_;refine gdi hp fun Eb hp=>?_;refine gdi hp fun Fb hp=>?_;refine gdi hp fun Gb hp=>?_;refine gdi hp fun Hb hp=>?_;refine gdi hp fun Ib hp=>?_;refine gdi hp fun Jb hp=>?_;refine gdi hp fun Kb hp=>?_;refine gdi hp fun Mb hp=>?_;refine gdi hp fun Nb hp=>?_;refine gdi hp fun Ob hp=>?_;refine gdi hp fun Pb hp=>?_;refine gdi hp fun Qb hp=>?_;refine gdi hp fun Rb hp=>?_;refine gdi hp fun Sb hp=>?_;refine gdi hp fun Tb hp=>?_;obtain rfl:=oi hp;exact hq _ ka.ext'
 refine ifd hp (fun Ub hp=>?_) fun Ub hp=>?_; rotate_left
 ·refine ifd hp (fun Vb hp=>?_) fun Vb hp=>?_; rotate_left
  ·obtain rfl:=oi hp;exact hq _ d.ext'
  refine⟨_,_,_,_,_,_,_,_,a.bk.ra,_,_,_,_,_,_,_,_,i.bk.ra,?_⟩;refine gdi hp fun Wb hp=>?_;refine gdi hp fun Xb hp=>?_;refine gdi hp fun Yb hp=>?_;refine gdi hp fun Zb hp=>?_;refine gdi hp fun ac hp=>?_;refine gdi hp fun bc hp=>?_;refine gdi hp fun cc hp=>?_;refine gdi hp fun dc hp=>?_;refine gdi hp fun ec hp=>?_;refine gdi hp fun fc hp=>?_;refine gdi hp fun gc hp=>?_;refine gdi hp fun hc hp=>?_;refine gdi hp fun ic hp=>?_;refine gdi hp fun jc hp=>?_;refine gdi hp fun kc hp=>?_;refine gdi hp fun nc hp=>?_;obtain rfl:=oi hp;exact hq _ d.ext'
 refine⟨trivial,_,a.bk.rc rfl,trivial,?_⟩;obtain⟨oc,pc,ma,na,A⟩:=i.sto1 d 2 (Il e.Other) (by simp) rfl
 replace A:Lb _ _ _ _ _ _ _ [Il e.Kind,Il e.Parcel,Il e.Other,Il 0,Il 0,Il 0,Il e.Day.Lo,Il e.Day.Hi]:=A
 have qc:=Z.k na;have oa:=a.k na;refine⟨oc,pc,?_⟩;refine⟨_,_,_,_,_,_,_,_,_,_,_,_,_,_,_,_,_,qc.bk.ra,trivial,_,oa.bk.rc rfl,?_⟩;obtain⟨Yc,sc,hp⟩:=zrK hp;refine zv0 (w:=w) (n:=e.Other) ma.pre ha102 ha103 sc fun cd tc=>?_;obtain⟨B,pa⟩:=ma.call tc h;have D:=oa.k pa;have uc:=A.k pa;refine⟨_,rfl,?_⟩;refine zsa hp (fun vc hp=>?_) fun vc hp=>?_; rotate_left
 ·obtain rfl:=oi hp;exact hq _ B.ext'
 refine⟨trivial,_,D.bk.rc rfl,trivial,_,D.bk.rc rfl,?_⟩;refine zr9 hp (fun wc hp=>?_) fun wc hp=>?_; rotate_left
 ·obtain rfl:=oi hp;exact hq _ B.ext'
 refine⟨_,_,_,_,_,_,_,_,D.bk.ra,_,_,_,_,_,_,_,_,uc.bk.ra,?_⟩;refine gdi hp fun xc hp=>?_;refine gdi hp fun yc hp=>?_;refine gdi hp fun zc hp=>?_;refine gdi hp fun Ac hp=>?_;refine gdi hp fun Bc hp=>?_;refine gdi hp fun Cc hp=>?_;refine gdi hp fun Dc hp=>?_;refine gdi hp fun Ec hp=>?_;refine gdi hp fun Fc hp=>?_;refine gdi hp fun Gc hp=>?_;refine gdi hp fun Hc hp=>?_;refine gdi hp fun Ic hp=>?_;refine gdi hp fun Jc hp=>?_;refine gdi hp fun Kc hp=>?_;refine gdi hp fun Nc hp=>?_;refine gdi hp fun Oc hp=>?_;obtain rfl:=oi hp;exact hq _ B.ext'
theorem zv5{w:Wk}{p:Pc}{ca102 ca103:C}{m f:M}{Q:V->M->Prop}{rz:Bool}(hS:Pre f m)(ha102:Sl f ca102 w.b.Parcels)(ha103:Sl f ca103 w.b.Entries)(hp:ztO w p=some rz)(hq:∀m',Ext m m'->Q (.c (.bool rz)) m'):Wc prog tbl 102 [.agg 17 [Il w.b.Last,Il w.b.Owners,ca102,ca103,Il w.numbers,Il w.makes.m0,Il w.makes.m1,Il w.makes.m2,Il w.makes.m3,Il w.makes.m4,Il w.makes.m5,.bool w.out.o0,.bool w.out.o1,.bool w.out.o2,.bool w.out.o3,.bool w.out.o4,.bool w.out.o5],.agg 4 [Il p.Owner,Il p.Value,Il p.Sown.Lo,Il p.Sown.Hi]] m Q:=by
 have S0:=hS.st;obtain⟨τ0,_⟩:=zs1;refine zvb ?_;unfold ztO at hp;intro m0 s;obtain⟨t,u,Z,y⟩:=S0.blk s τ0 1;intro m1 z;obtain⟨a,g,A,h⟩:=u.blk z t 2;have i:=y.k A;refine⟨_,_,_,_,_,_,_,_,_,_,_,_,_,_,_,_,_,i.bk.ra,trivial,_,h.bk.rc rfl,?_⟩;obtain⟨aa,B,hp⟩:=zrK hp;refine zv1 (w:=w) (n:=p.Owner) g.pre ha102 ha103 B fun ga D=>?_;obtain⟨d,l⟩:=g.call D a;have F:=i.k l;have o:=h.k l;refine⟨_,rfl,?_⟩;refine zsa hp (fun G hp=>?_) fun G hp=>?_; rotate_left
 ·obtain rfl:=oi hp;exact hq _ d.ext'
 refine⟨trivial,_,o.bk.rc rfl,?_⟩;obtain⟨ba,I,hp⟩:=zrK hp;refine zvZ (n:=p.Value) (low:=(0:Int)) (high:=(1000:Int)) d.pre  I fun ha J=>?_;obtain⟨e,q⟩:=d.call J a;have N:=F.k q;have O:=o.k q;refine⟨_,rfl,?_⟩;refine zsa hp (fun P hp=>?_) fun P hp=>?_; rotate_left
 ·obtain rfl:=oi hp;exact hq _ e.ext'
 refine⟨_,_,_,_,_,_,_,_,_,_,_,_,_,_,_,_,_,N.bk.ra,trivial,_,_,O.bk.rp (k:=2) (j:=2) rfl (by omega),?_⟩;obtain⟨ca,S,hp⟩:=zrK hp;refine zv3 (w:=w) (r:=p.Sown) e.pre ha102 ha103 S fun ia T=>?_;obtain⟨Y,da⟩:=e.call T a;refine⟨_,rfl,?_⟩;obtain rfl:=oi hp;exact hq _ Y.ext'
theorem zv6{x:Pc}{passes:Pc->Option (Bool)}{bq0:Nat}{cb000:C}{m f:M}{Q:V->M->Prop}{rz:Bool}(hS:Pre f m)(hb0:Bk f bq0 1 [cb000])(hb000:zvx f cb000 passes)(hp:ztP x passes=some rz)(hq:∀m',Ext m m'->Q (.c (.bool rz)) m'):Wc prog tbl 126 [.agg 4 [Il x.Owner,Il x.Value,Il x.Sown.Lo,Il x.Sown.Hi],.c (.ptr bq0 0)] m Q:=by
 have p:=hS.st;obtain⟨q,_⟩:=zs1;refine zu4 ?_;unfold ztP at hp;intro r d;obtain⟨e,a,l,g⟩:=p.blk d q 1;refine⟨_,(hb0.sub a.sub).rc rfl,_,_,_,_,g.bk.ra,?_⟩;obtain⟨n,h,hp⟩:=zrK hp;refine hb000 _ _ _ _ _ (Sub.refl _) a.pre  h fun s i=>?_;obtain⟨j,o⟩:=a.call i e;refine⟨_,rfl,?_⟩;obtain rfl:=oi hp;exact hq _ j.ext'
theorem zv7{l:List Pc}{p:Pc->Option (Bool)}{ca100 ca200:C}{m f:M}{Q:V->M->Prop}{rz:Int}(hS:Pre f m)(ha100:Sl f ca100 l)(ha200:zvx f ca200 p)(hp:ztR l p=some rz)(hq:∀m',Ext m m'->Q (.c (Il rz)) m'):Wc prog tbl 147 [.c ca100,.c ca200] m Q:=by
 have G:=hS.st;obtain⟨I,_⟩:=zs1;refine zvf ?_;unfold ztR at hp;refine⟨ha100.isSl,?_⟩;intro J A
 have hgo:∀(d:Nat) (y:Int) (n:Int) (o:M) (e:Nat->Nat),St (Fm.of m) f f o->ztQ l p d n=some rz->J [.c (Il y),.c (Il n)] o:=by
  intro d
  induction d with
  | zero=>intro y n o e a hp; cases hp
  | succ d z=>
   intro y n o e a hp;refine A _ _ _ ?_;rw[ztQ] at hp
   try rw[ha100.slLen]
   refine ifd hp (fun q hp=>?_) fun q hp=>?_; rotate_left
   ·obtain rfl:=oi hp;exact hq _ a.ext'
   obtain⟨B,g,hp⟩:=zrK hp;obtain⟨N,j,h,g⟩:=zrE g;obtain⟨_,r⟩:=zs5 ha100 g;refine⟨N,j,(by first|exact h|(rw[ha100.slLen];exact h)),_,_,_,_,(r _ a.sub).1,?_⟩;obtain⟨D,s,hp⟩:=zrK hp;refine ha200 _ _ _ _ _ (Sub.refl _) a.pre  s fun O t=>?_;obtain⟨i,F⟩:=a.call t e;refine⟨_,rfl,?_⟩;refine zsa hp (fun u hp=>?_) fun u hp=>?_
   ·obtain rfl:=oi hp;exact hq _ i.ext'
   refine gdi hp fun w hp=>?_;exact z _ _ _ e i hp
 exact hgo _ _ _ _ I G hp
theorem zv8{l:List Pc}{p:Pc->Option (Bool)}{ca100 ca200:C}{m f:M}{Q:V->M->Prop}{rz:Bool}(hS:Pre f m)(ha100:Sl f ca100 l)(ha200:zvx f ca200 p)(hp:ztS l p=some rz)(hq:∀m',Ext m m'->Q (.c (.bool rz)) m'):Wc prog tbl 125 [.c ca100,.c ca200] m Q:=by
 have g:=hS.st;obtain⟨j,_⟩:=zs1;refine zvu ?_;unfold ztS at hp;obtain⟨h,a,hp⟩:=zrK hp;refine zv7 (l:=l) (p:=p) g.pre ha100 ha200 a fun n d=>?_;obtain⟨e,i⟩:=g.call d j;refine⟨_,rfl,?_⟩;obtain rfl:=oi hp;exact hq _ e.ext'
theorem zv9{l:List Pc}{passes:Pc->Option (Bool)}{ca100 ca200:C}{m f:M}{Q:V->M->Prop}{rz:Bool}(hS:Pre f m)(ha100:Sl f ca100 l)(ha200:zvx f ca200 passes)(hp:ztT l passes=some rz)(hq:∀m',Ext m m'->Q (.c (.bool rz)) m'):Wc prog tbl 101 [.c ca100,.c ca200] m Q:=by
 have A:=hS.st;obtain⟨B,_⟩:=zs1;refine zvr ?_;unfold ztT at hp;intro D i;obtain⟨j,n,w,o⟩:=A.blk i B 1;obtain⟨q,d,e,g⟩:=o.freeze n
 have h:zvx q ((C.fn (Fn.func 126) [] [(W.c (C0.ptr m.nxt 0))])) (fun a=>ztP a passes):=by
  intro f' m' a r Q hs hpre  hg hq;exact zv6 hpre (g.sub hs) ((ha200.sub e.fs).sub hs) hg hq
 obtain⟨y,s,hp⟩:=zrK hp;refine zv8 (l:=l) (p:=(fun a=>ztP a passes)) d.pre (ha100.sub e.fs) h s fun F t=>?_;obtain⟨u,z⟩:=d.call t j;refine⟨_,rfl,?_⟩;obtain rfl:=oi hp;exact hq _ u.ext'
theorem zwa{x:En}{passes:En->Option (Bool)}{bq0:Nat}{cb000:C}{m f:M}{Q:V->M->Prop}{rz:Bool}(hS:Pre f m)(hb0:Bk f bq0 1 [cb000])(hb000:zvy f cb000 passes)(hp:ztU x passes=some rz)(hq:∀m',Ext m m'->Q (.c (.bool rz)) m'):Wc prog tbl 129 [.agg 8 [Il x.Kind,Il x.Parcel,Il x.Other,Il x.From,Il x.To,Il x.Part,Il x.Day.Lo,Il x.Day.Hi],.c (.ptr bq0 0)] m Q:=by
 have p:=hS.st;obtain⟨q,_⟩:=zs1;refine zu5 ?_;unfold ztU at hp;intro s d;obtain⟨e,a,l,g⟩:=p.blk d q 1;refine⟨_,(hb0.sub a.sub).rc rfl,_,_,_,_,_,_,_,_,g.bk.ra,?_⟩;obtain⟨n,h,hp⟩:=zrK hp;refine hb000 _ _ _ _ _ (Sub.refl _) a.pre  h fun r i=>?_;obtain⟨j,o⟩:=a.call i e;refine⟨_,rfl,?_⟩;obtain rfl:=oi hp;exact hq _ j.ext'
theorem zwb{l:List En}{p:En->Option (Bool)}{ca100 ca200:C}{m f:M}{Q:V->M->Prop}{rz:Int}(hS:Pre f m)(ha100:Sl f ca100 l)(ha200:zvy f ca200 p)(hp:ztW l p=some rz)(hq:∀m',Ext m m'->Q (.c (Il rz)) m'):Wc prog tbl 148 [.c ca100,.c ca200] m Q:=by
 have G:=hS.st;obtain⟨I,_⟩:=zs1;refine zvk ?_;unfold ztW at hp;refine⟨ha100.isSl,?_⟩;intro J A
 have hgo:∀(d:Nat) (y:Int) (n:Int) (o:M) (e:Nat->Nat),St (Fm.of m) f f o->ztV l p d n=some rz->J [.c (Il y),.c (Il n)] o:=by
  intro d
  induction d with
  | zero=>intro y n o e a hp; cases hp
  | succ d z=>
   intro y n o e a hp;refine A _ _ _ ?_;rw[ztV] at hp
   try rw[ha100.slLen]
   refine ifd hp (fun q hp=>?_) fun q hp=>?_; rotate_left
   ·obtain rfl:=oi hp;exact hq _ a.ext'
   obtain⟨B,g,hp⟩:=zrK hp;obtain⟨N,j,h,g⟩:=zrE g;obtain⟨_,r⟩:=zs7 ha100 g;refine⟨N,j,(by first|exact h|(rw[ha100.slLen];exact h)),_,_,_,_,_,_,_,_,(r _ a.sub).1,?_⟩;obtain⟨D,s,hp⟩:=zrK hp;refine ha200 _ _ _ _ _ (Sub.refl _) a.pre  s fun O t=>?_;obtain⟨i,F⟩:=a.call t e;refine⟨_,rfl,?_⟩;refine zsa hp (fun u hp=>?_) fun u hp=>?_
   ·obtain rfl:=oi hp;exact hq _ i.ext'
   refine gdi hp fun w hp=>?_;exact z _ _ _ e i hp
 exact hgo _ _ _ _ I G hp
theorem zwc{l:List En}{p:En->Option (Bool)}{ca100 ca200:C}{m f:M}{Q:V->M->Prop}{rz:Bool}(hS:Pre f m)(ha100:Sl f ca100 l)(ha200:zvy f ca200 p)(hp:ztX l p=some rz)(hq:∀m',Ext m m'->Q (.c (.bool rz)) m'):Wc prog tbl 128 [.c ca100,.c ca200] m Q:=by
 have g:=hS.st;obtain⟨j,_⟩:=zs1;refine zvj ?_;unfold ztX at hp;obtain⟨h,a,hp⟩:=zrK hp;refine zwb (l:=l) (p:=p) g.pre ha100 ha200 a fun n d=>?_;obtain⟨e,i⟩:=g.call d j;refine⟨_,rfl,?_⟩;obtain rfl:=oi hp;exact hq _ e.ext'
theorem zwd{l:List En}{passes:En->Option (Bool)}{ca100 ca200:C}{m f:M}{Q:V->M->Prop}{rz:Bool}(hS:Pre f m)(ha100:Sl f ca100 l)(ha200:zvy f ca200 passes)(hp:ztY l passes=some rz)(hq:∀m',Ext m m'->Q (.c (.bool rz)) m'):Wc prog tbl 103 [.c ca100,.c ca200] m Q:=by
 have A:=hS.st;obtain⟨B,_⟩:=zs1;refine zvg ?_;unfold ztY at hp;intro D i;obtain⟨j,n,w,o⟩:=A.blk i B 1;obtain⟨q,d,e,g⟩:=o.freeze n
 have h:zvy q ((C.fn (Fn.func 129) [] [(W.c (C0.ptr m.nxt 0))])) (fun a=>ztU a passes):=by
  intro f' m' a r Q hs hpre  hg hq;exact zwa hpre (g.sub hs) ((ha200.sub e.fs).sub hs) hg hq
 obtain⟨y,s,hp⟩:=zrK hp;refine zwc (l:=l) (p:=(fun a=>ztU a passes)) d.pre (ha100.sub e.fs) h s fun F t=>?_;obtain⟨u,z⟩:=d.call t j;refine⟨_,rfl,?_⟩;obtain rfl:=oi hp;exact hq _ u.ext'
theorem zwe{w:Wk}{ca102 ca103:C}{m f:M}{Q:V->M->Prop}{rz:Bool}(hS:Pre f m)(ha102:Sl f ca102 w.b.Parcels)(ha103:Sl f ca103 w.b.Entries)(hp:ztZ w=some rz)(hq:∀m',Ext m m'->Q (.c (.bool rz)) m'):Wc prog tbl 69 [.agg 17 [Il w.b.Last,Il w.b.Owners,ca102,ca103,Il w.numbers,Il w.makes.m0,Il w.makes.m1,Il w.makes.m2,Il w.makes.m3,Il w.makes.m4,Il w.makes.m5,.bool w.out.o0,.bool w.out.o1,.bool w.out.o2,.bool w.out.o3,.bool w.out.o4,.bool w.out.o5]] m Q:=by
 have S0:=hS.st;obtain⟨τ0,_⟩:=zs1;refine w69 ?_;unfold ztZ at hp;intro m0 t;obtain⟨h,j,ba,o⟩:=S0.blk t τ0 1;refine⟨trivial,trivial,_,o.bk.rc rfl,?_⟩;obtain⟨ca,u,hp⟩:=zrK hp;refine zvZ (n:=w.b.Last) (low:=(0:Int)) (high:=(30:Int)) j.pre  u fun m3 y=>?_;obtain⟨a,z⟩:=j.call y h;have d:=o.k z;refine⟨_,rfl,?_⟩;refine zsa hp (fun A hp=>?_) fun A hp=>?_; rotate_left
 ·obtain rfl:=oi hp;exact hq _ a.ext'
 refine⟨trivial,trivial,_,d.bk.rc rfl,?_⟩;refine ifd hp (fun B hp=>?_) fun B hp=>?_; rotate_left
 ·obtain rfl:=oi hp;exact hq _ a.ext'
 refine⟨trivial,trivial,_,d.bk.rc rfl,_,_,_,_,_,_,_,_,_,_,_,_,_,_,_,_,_,d.bk.ra,?_⟩;obtain⟨P,T,Y⟩:∃ws,zaE vW [.agg 17 [Il w.b.Last,Il w.b.Owners,ca102,ca103,Il w.numbers,Il w.makes.m0,Il w.makes.m1,Il w.makes.m2,Il w.makes.m3,Il w.makes.m4,Il w.makes.m5,.bool w.out.o0,.bool w.out.o1,.bool w.out.o2,.bool w.out.o3,.bool w.out.o4,.bool w.out.o5]]=some ws/\zbZ wV ws=[.agg 17 [Il w.b.Last,Il w.b.Owners,ca102,ca103,Il w.numbers,Il w.makes.m0,Il w.makes.m1,Il w.makes.m2,Il w.makes.m3,Il w.makes.m4,Il w.makes.m5,.bool w.out.o0,.bool w.out.o1,.bool w.out.o2,.bool w.out.o3,.bool w.out.o4,.bool w.out.o5]]:=(zrU (zrS (zrO rfl (zrO rfl (zrO ha102.noFn (zrO ha103.noFn (zrO rfl (zrO rfl (zrO rfl (zrO rfl (zrO rfl (zrO rfl (zrO rfl (zrO rfl (zrO rfl (zrO rfl (zrO rfl (zrO rfl (zrO rfl zrP)))))))))))))))))) zrT);rw[T,zd6]
 have q:zvx f ((C.fn (Fn.func 102) P [])) (fun e=>ztO w e):=by
  intro f' m' e r Q hs hpre  hg hq
  show Wc prog tbl 102 (appS (zbZ wV P) _) m' Q
  rw[Y];exact zv5 hpre (ha102.sub hs) (ha103.sub hs) hg hq
 obtain⟨da,D,hp⟩:=zrK hp;refine zv9 (l:=w.b.Parcels) (passes:=(fun e=>ztO w e)) a.pre ha102 q D fun ia F=>?_;obtain⟨i,G⟩:=a.call F h;have p:=d.k G;refine⟨_,rfl,?_⟩;refine zsa hp (fun I hp=>?_) fun I hp=>?_; rotate_left
 ·obtain rfl:=oi hp;exact hq _ i.ext'
 refine⟨trivial,trivial,_,p.bk.rc rfl,_,_,_,_,_,_,_,_,_,_,_,_,_,_,_,_,_,p.bk.ra,?_⟩;obtain⟨S,Z,aa⟩:∃ws,zaE vW [.agg 17 [Il w.b.Last,Il w.b.Owners,ca102,ca103,Il w.numbers,Il w.makes.m0,Il w.makes.m1,Il w.makes.m2,Il w.makes.m3,Il w.makes.m4,Il w.makes.m5,.bool w.out.o0,.bool w.out.o1,.bool w.out.o2,.bool w.out.o3,.bool w.out.o4,.bool w.out.o5]]=some ws/\zbZ wV ws=[.agg 17 [Il w.b.Last,Il w.b.Owners,ca102,ca103,Il w.numbers,Il w.makes.m0,Il w.makes.m1,Il w.makes.m2,Il w.makes.m3,Il w.makes.m4,Il w.makes.m5,.bool w.out.o0,.bool w.out.o1,.bool w.out.o2,.bool w.out.o3,.bool w.out.o4,.bool w.out.o5]]:=(zrU (zrS (zrO rfl (zrO rfl (zrO ha102.noFn (zrO ha103.noFn (zrO rfl (zrO rfl (zrO rfl (zrO rfl (zrO rfl (zrO rfl (zrO rfl (zrO rfl (zrO rfl (zrO rfl (zrO rfl (zrO rfl (zrO rfl zrP)))))))))))))))))) zrT);rw[Z,zd6]
 have s:zvy f ((C.fn (Fn.func 104) S [])) (fun g=>ztN w g):=by
  intro f' m' g r Q hs hpre  hg hq
  show Wc prog tbl 104 (appS (zbZ wV S) _) m' Q
  rw[aa];exact zv4 hpre (ha102.sub hs) (ha103.sub hs) hg hq
 obtain⟨ea,J,hp⟩:=zrK hp;refine zwd (l:=w.b.Entries) (passes:=(fun g=>ztN w g)) i.pre ha103 s J fun ja N=>?_;obtain⟨O,fa⟩:=i.call N h;refine⟨_,rfl,?_⟩;obtain rfl:=oi hp;exact hq _ O.ext'
theorem zwf{b:Boo}{ca102 ca103:C}{m f:M}{Q:V->M->Prop}{rz:Bool}(hS:Pre f m)(ha102:Sl f ca102 b.Parcels)(ha103:Sl f ca103 b.Entries)(hp:zt0 b=some rz)(hq:∀m',Ext m m'->Q (.c (.bool rz)) m'):Wc prog tbl 68 [.agg 4 [Il b.Last,Il b.Owners,ca102,ca103]] m Q:=by
 have l:=hS.st;obtain⟨n,_⟩:=zs1;refine w68 ?_;unfold zt0 at hp;intro o e;obtain⟨i,a,j,d⟩:=l.blk e n 1;refine⟨trivial,_,d.bk.rc rfl,?_⟩;refine ifd hp (fun g hp=>?_) fun g hp=>?_
 ·obtain rfl:=oi hp;exact hq _ a.ext'
 refine⟨trivial,_,d.bk.rc rfl,ha102.isSl,?_⟩
 try rw[ha102.slLen]
 refine ifd hp (fun h hp=>?_) fun h hp=>?_
 ·obtain rfl:=oi hp;exact hq _ a.ext'
 refine⟨trivial,_,d.bk.rc rfl,ha103.isSl,?_⟩
 try rw[ha103.slLen]
 obtain rfl:=oi hp;exact hq _ a.ext'
theorem zwg{b:Boo}{ca102 ca103:C}{m f:M}{Q:V->M->Prop}{rz:Wk}(hS:Pre f m)(ha102:Sl f ca102 b.Parcels)(ha103:Sl f ca103 b.Entries)(hp:zt2 b=some rz)(hq:∀m' f' c2 c3,Grw m f m' f'->Sl f' c2 rz.b.Parcels->Sl f' c3 rz.b.Entries->Q (.agg 17 [Il rz.b.Last,Il rz.b.Owners,c2,c3,Il rz.numbers,Il rz.makes.m0,Il rz.makes.m1,Il rz.makes.m2,Il rz.makes.m3,Il rz.makes.m4,Il rz.makes.m5,.bool rz.out.o0,.bool rz.out.o1,.bool rz.out.o2,.bool rz.out.o3,.bool rz.out.o4,.bool rz.out.o5]) m'):Wc prog tbl 61 [.agg 4 [Il b.Last,Il b.Owners,ca102,ca103]] m Q:=by
 have S0:=hS.st;obtain⟨τ0,_⟩:=zs1;refine w61 ?_;unfold zt2 at hp;intro m0 ma;obtain⟨na,oa,pb,pa⟩:=S0.blk ma τ0 1;intro m1 qa;obtain⟨sa,ta,ua,va⟩:=oa.blk qa na 2;have N:=pa.k ua;refine⟨_,_,_,_,N.bk.ra,trivial,_,N.bk.rc rfl,ha102.isSl,?_⟩;intro m7 wa;obtain⟨xa,ya,ca,za⟩:=ta.blk wa sa 3;have Aa:=N.k ca;have Ba:=va.k ca
 try rw[ha102.slLen]
 obtain⟨Ca,Da,Ea,da,A⟩:=za.sto ya [Il b.Last,Il b.Owners,ca102,ca103,(Il (b.Parcels.length:Int)),Il 0,Il 0,Il 0,Il 0,Il 0,Il 0,.bool false,.bool false,.bool false,.bool false,.bool false,.bool false];have B:=Aa.k da;have D:=Ba.k da;refine⟨Ca,Da,?_⟩;refine⟨trivial,_,B.bk.rc rfl,ha103.isSl,?_⟩;intro kb jb
 have hgo:∀(F:Nat) (d:Int) (e:Int) (g:Int) (a:Int) (h:Int) (i:Int) (j:Int) (n:Int) (o:Int) (p:Int) (q:Bool) (r:Bool) (s:Bool) (t:Bool) (u:Bool) (w:Bool) (J:M) (z:Nat->Nat),St (Fm.of m) f f J->Lb (Fm.of m) f z J 1 m.nxt 4 [Il b.Last,Il b.Owners,ca102,ca103]->Lb (Fm.of m) f z J 2 m0.nxt 17 [Il 0,Il 0,.sl0,.sl0,Il 0,Il 0,Il 0,Il 0,Il 0,Il 0,Il 0,.bool false,.bool false,.bool false,.bool false,.bool false,.bool false]->Lb (Fm.of m) f z J 3 m1.nxt 17 [Il e,Il g,ca102,ca103,Il a,Il h,Il i,Il j,Il n,Il o,Il p,.bool q,.bool r,.bool s,.bool t,.bool u,.bool w]->zt1 b F e g a h i j n o p q r s t u w d=some rz->kb [.c (Il d)] J:=by
  intro F
  induction F with
  | zero=>intro d e g a h i j n o p q r s t u w J z G B D A hp; cases hp
  | succ F ea=>
   intro d e g a h i j n o p q r s t u w J z G B D A hp;refine jb _ _ ?_;rw[zt1] at hp
   try rw[ha103.slLen]
   refine ifd hp (fun Fa hp=>?_) fun Fa hp=>?_; rotate_left
   ·refine⟨_,_,_,_,_,_,_,_,_,_,_,_,_,_,_,_,_,A.bk.ra,?_⟩;obtain⟨Ga,Ha,Ia,qb,Ja⟩:=D.sto G [Il e,Il g,ca102,ca103,Il a,Il h,Il i,Il j,Il n,Il o,Il p,.bool q,.bool r,.bool s,.bool t,.bool u,.bool w];refine⟨Ga,Ha,?_⟩;refine⟨_,_,_,_,_,_,_,_,_,_,_,_,_,_,_,_,_,Ja.bk.ra,?_⟩;obtain rfl:=oi hp;exact hq _ f ca102 ca103 Ia.grw ha102 ha103
   obtain⟨y,O,hp⟩:=zrK hp;obtain⟨mb,la,Z,O⟩:=zrE O;obtain⟨_,Ka⟩:=zs7 ha103 O;refine⟨mb,la,(by first|exact Z|(rw[ha103.slLen];exact Z)),_,_,_,_,_,_,_,_,(Ka _ G.sub).1,?_⟩;intro tb La;obtain⟨fa,Ma,P,Na⟩:=G.blk La z 4;have Oa:=B.k P;have Pa:=D.k P;have Qa:=A.k P;obtain⟨Ra,Sa,ga,S,Ta⟩:=Na.sto Ma [Il y.Kind,Il y.Parcel,Il y.Other,Il y.From,Il y.To,Il y.Part,Il y.Day.Lo,Il y.Day.Hi];have ha:=Oa.k S;have ia:=Pa.k S;have T:=Qa.k S;refine⟨Ra,Sa,?_⟩;refine⟨trivial,_,Ta.bk.rc rfl,?_⟩;refine ifd hp (fun Ua hp=>?_) fun Ua hp=>?_; rotate_left
   ·refine gdi hp fun Va hp=>?_;exact ea _ _ _ _ _ _ _ _ _ _ _ _ _ _ _ _ _ fa ga ha ia T hp
   refine⟨trivial,_,T.bk.rc rfl,trivial,trivial,?_⟩;obtain⟨Wa,hp⟩:=zrL hp;obtain⟨ob,aa,ba⟩:=zr6 Wa;refine⟨ob,aa,ba,?_⟩;obtain⟨Xa,Ya,Za,ja,I⟩:=T.sta ga (pre:=[Il e,Il g,ca102,ca103,Il a]) (post:=[.bool q,.bool r,.bool s,.bool t,.bool u,.bool w]) (l:=([h,i,j,n,o,p]:List Int)) (enc:=(C.int .i64)) rfl rfl aa ba a
   replace I:Lb _ _ _ _ _ _ _ [Il e,Il g,ca102,ca103,Il a,(Il (sti d 0 a h)),(Il (sti d 1 a i)),(Il (sti d 2 a j)),(Il (sti d 3 a n)),(Il (sti d 4 a o)),(Il (sti d 5 a p)),.bool q,.bool r,.bool s,.bool t,.bool u,.bool w]:=I
   have ab:=ha.k ja;have bb:=ia.k ja;refine⟨Xa,Ya,?_⟩;refine⟨trivial,_,I.bk.rc rfl,?_⟩;obtain⟨cb,hp⟩:=zrL hp;refine⟨cb,trivial,?_⟩;obtain⟨db,eb,fb,ka,Y⟩:=I.sto1 Za 4 (Il (a+1)) (by simp) rfl
   replace Y:Lb _ _ _ _ _ _ _ [Il e,Il g,ca102,ca103,(Il (a+1)),(Il (sti d 0 a h)),(Il (sti d 1 a i)),(Il (sti d 2 a j)),(Il (sti d 3 a n)),(Il (sti d 4 a o)),(Il (sti d 5 a p)),.bool q,.bool r,.bool s,.bool t,.bool u,.bool w]:=Y
   have gb:=ab.k ka;have hb:=bb.k ka;refine⟨db,eb,?_⟩;refine gdi hp fun ib hp=>?_;exact ea _ _ _ _ _ _ _ _ _ _ _ _ _ _ _ _ _ fa fb gb hb Y hp
 exact hgo _ _ _ _ _ _ _ _ _ _ _ _ _ _ _ _ _ _ xa Ea B D A hp
theorem zwh{w:Wk}{ca102 ca103:C}{m f:M}{Q:V->M->Prop}{rz:List Rg}(hS:Pre f m)(ha102:Sl f ca102 w.b.Parcels)(ha103:Sl f ca103 w.b.Entries)(hp:zt5 w=some rz)(hq:∀m' f' c0,Grw m f m' f'->Sl f' c0 rz->Q (.c c0) m'):Wc prog tbl 71 [.agg 17 [Il w.b.Last,Il w.b.Owners,ca102,ca103,Il w.numbers,Il w.makes.m0,Il w.makes.m1,Il w.makes.m2,Il w.makes.m3,Il w.makes.m4,Il w.makes.m5,.bool w.out.o0,.bool w.out.o1,.bool w.out.o2,.bool w.out.o3,.bool w.out.o4,.bool w.out.o5]] m Q:=by
 have S0:=hS.st;obtain⟨τ0,_⟩:=zs1;refine w71 ?_;unfold zt5 at hp;intro m0 ga;obtain⟨ha,ia,Cb,e⟩:=S0.blk ga τ0 1;refine⟨trivial,trivial,_,e.bk.rc rfl,ha103.isSl,?_⟩;intro R2 yb
 have hgo:∀(p:Nat) (c3:C) (x4:Int) (q:List Rg) (m5:M) (i:Nat->Nat),St (Fm.of m) f f m5->Lb (Fm.of m) f i m5 1 m.nxt 17 [Il w.b.Last,Il w.b.Owners,ca102,ca103,Il w.numbers,Il w.makes.m0,Il w.makes.m1,Il w.makes.m2,Il w.makes.m3,Il w.makes.m4,Il w.makes.m5,.bool w.out.o0,.bool w.out.o1,.bool w.out.o2,.bool w.out.o3,.bool w.out.o4,.bool w.out.o5]->Ow (Fm.of m) f i m5 2 c3 q->zt4 w p q x4=some rz->R2 [.c c3,.c (Il x4)] m5:=by
  intro p
  induction p with
  | zero=>intro c3 x4 q m5 i r e g hp; cases hp
  | succ p ba=>
   intro c3 x4 q m5 i r e g hp;refine yb _ _ _ ?_;rw[zt4] at hp
   try rw[ha103.slLen]
   refine ifd hp (fun la hp=>?_) fun la hp=>?_; rotate_left
   ·refine⟨trivial,trivial,_,e.bk.rc rfl,ha102.isSl,?_⟩;intro zb xb
    have hgo:∀(s:Nat) (I:C) (O:Int) (t:List Rg) (y:M) (o:Nat->Nat),St (Fm.of m) f f y->Lb (Fm.of m) f o y 1 m.nxt 17 [Il w.b.Last,Il w.b.Owners,ca102,ca103,Il w.numbers,Il w.makes.m0,Il w.makes.m1,Il w.makes.m2,Il w.makes.m3,Il w.makes.m4,Il w.makes.m5,.bool w.out.o0,.bool w.out.o1,.bool w.out.o2,.bool w.out.o3,.bool w.out.o4,.bool w.out.o5]->Ow (Fm.of m) f o y 2 I t->zt3 w s t O=some rz->zb [.c I,.c (Il O)] y:=by
     intro s
     induction s with
     | zero=>intro I O t y o u e h hp; cases hp
     | succ s ma=>
      intro I O t y o u e h hp;refine xb _ _ _ ?_;rw[zt3] at hp
      try rw[ha102.slLen]
      refine ifd hp (fun na hp=>?_) fun na hp=>?_; rotate_left
      ·obtain⟨oa,pa,Db,qa⟩:=h.freeze u;obtain rfl:=oi hp;exact hq _ oa I pa.grw qa
      obtain⟨n,z,hp⟩:=zrK hp;obtain⟨Ab,ca,J,z⟩:=zrE z;obtain⟨_,sa⟩:=zs5 ha102 z;refine⟨Ab,ca,(by first|exact J|(rw[ha102.slLen];exact J)),_,_,_,_,(sa _ u.sub).1,?_⟩;intro Mb ta;obtain⟨Eb,ua,P,va⟩:=u.blk ta o 4;have wa:=e.k P;have h:=h.k P;obtain⟨xa,ya,za,S,Aa⟩:=va.sto ua [Il n.Owner,Il n.Value,Il n.Sown.Lo,Il n.Sown.Hi];have Ba:=wa.k S;have h:=h.k S;refine⟨xa,ya,?_⟩;refine⟨trivial,_,_,Aa.bk.rp (k:=2) (j:=2) rfl (by omega),?_⟩;obtain⟨Ca,hp⟩:=zrL hp;intro Nb Da;obtain⟨Ea,Fa,Ga,Ha,Ia,Ja,Ka⟩:=h.app' zvG za (a:=n.Sown) (show Rp.rep (α:=Rg) f _ n.Sown from rfl) Ca Da;have La:=Ba.k Ja;refine⟨Ea,Fa,Ha,?_⟩;refine gdi hp fun Ma hp=>?_;exact ma _ _ _ _ Ga Ia La Ka hp
    exact hgo _ _ _ _ _ i r e g hp
   obtain⟨d,A,hp⟩:=zrK hp;obtain⟨n6,da,N,A⟩:=zrE A;obtain⟨_,Na⟩:=zs7 ha103 A;refine⟨n6,da,(by first|exact N|(rw[ha103.slLen];exact N)),_,_,_,_,_,_,_,_,(Na _ r.sub).1,?_⟩;intro Ob Oa;obtain⟨Fb,Pa,T,Qa⟩:=r.blk Oa i 3;have Ra:=e.k T;have g:=g.k T;obtain⟨Sa,Ta,Y,Z,B⟩:=Qa.sto Pa [Il d.Kind,Il d.Parcel,Il d.Other,Il d.From,Il d.To,Il d.Part,Il d.Day.Lo,Il d.Day.Hi];have D:=Ra.k Z;have g:=g.k Z;refine⟨Sa,Ta,?_⟩;refine⟨trivial,trivial,?_⟩;obtain⟨Gb,F,hp⟩:=zrK hp;obtain⟨Bb,ea,fa,F⟩:=zrE F;refine⟨Bb,ea,fa,_,(D.bk.rc (zr5 (l:=([w.out.o0,w.out.o1,w.out.o2,w.out.o3,w.out.o4,w.out.o5]:List Bool)) (enc:=C.bool) 11 rfl F)),?_⟩;refine zsa hp (fun Ua hp=>?_) fun Ua hp=>?_; rotate_left
   ·refine⟨trivial,_,_,B.bk.rp (k:=6) (j:=2) rfl (by omega),?_⟩;obtain⟨Va,hp⟩:=zrL hp;intro Pb Wa;obtain⟨Xa,Ya,Za,ab,bb,cb,db⟩:=g.app' zvG Y (a:=d.Day) (show Rp.rep (α:=Rg) f _ d.Day from rfl) Va Wa;have eb:=D.k cb;refine⟨Xa,Ya,ab,?_⟩;refine gdi hp fun fb hp=>?_;exact ba _ _ _ _ Za bb eb db hp
   refine⟨trivial,trivial,_,B.bk.rc rfl,trivial,trivial,?_⟩;obtain⟨gb,hb,ib,aa,G⟩:=B.sto1 Y 7 (Il d.Day.Lo) (by simp) rfl
   replace G:Lb _ _ _ _ _ _ _ [Il d.Kind,Il d.Parcel,Il d.Other,Il d.From,Il d.To,Il d.Part,Il d.Day.Lo,Il d.Day.Lo]:=G
   have jb:=D.k aa;have g:=g.k aa;refine⟨gb,hb,?_⟩;refine⟨trivial,_,_,G.bk.rp (k:=6) (j:=2) rfl (by omega),?_⟩;obtain⟨kb,hp⟩:=zrL hp;intro Qb mb;obtain⟨ob,pb,qb,rb,sb,tb,ub⟩:=g.app' zvG ib (a:=({ Lo:=d.Day.Lo,Hi:=d.Day.Lo }:Rg)) (show Rp.rep (α:=Rg) f _ ({ Lo:=d.Day.Lo,Hi:=d.Day.Lo }:Rg) from rfl) kb mb;have vb:=jb.k tb;refine⟨ob,pb,rb,?_⟩;refine gdi hp fun wb hp=>?_;exact ba _ _ _ _ qb sb vb ub hp
 exact hgo _ _ _ _ _ ha ia e (Ow.nil _ _ _ _ _) hp
theorem zwi{r:Rg}{m f:M}{Q:V->M->Prop}{rz:Int}(hS:Pre f m)(hp:zt6 r=some rz)(hq:∀m',Ext m m'->Q (.c (Il rz)) m'):Wc prog tbl 105 [.agg 2 [Il r.Lo,Il r.Hi]] m Q:=by
 have l:=hS.st;obtain⟨n,_⟩:=zs1;refine zvs ?_;unfold zt6 at hp;intro o d;obtain⟨i,e,j,a⟩:=l.blk d n 1;refine⟨trivial,_,a.bk.rc rfl,trivial,_,a.bk.rc rfl,?_⟩;refine gdi hp fun g hp=>?_;refine gdi hp fun h hp=>?_;obtain rfl:=oi hp;exact hq _ e.ext'
theorem zwj{l:List Rg}{ca100:C}{m f:M}{Q:V->M->Prop}{rz:Int}(hS:Pre f m)(ha100:Sl f ca100 l)(hp:zt8 l=some rz)(hq:∀m',Ext m m'->Q (.c (Il rz)) m'):Wc prog tbl 70 [.c ca100] m Q:=by
 have S0:=hS.st;obtain⟨τ0,_⟩:=zs1;refine w70 ?_;unfold zt8 at hp;refine⟨ha100.isSl,?_⟩;intro R0 T
 have hgo:∀(a:Nat) (p:Int) (q:Int) (s:M) (e:Nat->Nat),St (Fm.of m) f f s->zt7 l a p q=some rz->R0 [.c (Il p),.c (Il q)] s:=by
  intro a
  induction a with
  | zero=>intro p q s e d hp; cases hp
  | succ a S=>
   intro p q s e d hp;refine T _ _ _ ?_;rw[zt7] at hp
   try rw[ha100.slLen]
   refine ifd hp (fun t hp=>?_) fun t hp=>?_; rotate_left
   ·obtain rfl:=oi hp;exact hq _ d.ext'
   obtain⟨g,h,hp⟩:=zrK hp;obtain⟨n4,o,i,h⟩:=zrE h;obtain⟨_,u⟩:=zs3 ha100 h;refine⟨n4,o,(by first|exact i|(rw[ha100.slLen];exact i)),_,_,(u _ d.sub).1,?_⟩;intro m7 w;obtain⟨j,y,Y,z⟩:=d.blk w e 1;obtain⟨A,B,n,Z,D⟩:=z.sto y [Il g.Lo,Il g.Hi];refine⟨A,B,?_⟩;refine⟨_,_,D.bk.ra,?_⟩;obtain⟨aa,F,hp⟩:=zrK hp;refine zwi (r:=g) n.pre  F fun ga G=>?_;obtain⟨I,ba⟩:=n.call G j;refine⟨_,rfl,?_⟩;refine gdi hp fun J hp=>?_;refine gdi hp fun N hp=>?_;refine gdi hp fun O hp=>?_;refine gdi hp fun P hp=>?_;exact S _ _ _ j I hp
 exact hgo _ _ _ _ τ0 S0 hp
theorem zwk{b:Boo}{ca102 ca103:C}{m f:M}{Q:V->M->Prop}{rz:Int}(hS:Pre f m)(ha102:Sl f ca102 b.Parcels)(ha103:Sl f ca103 b.Entries)(hp:zt9 b=some rz)(hq:∀m',Ext m m'->Q (.c (Il rz)) m'):Wc prog tbl 24 [.agg 4 [Il b.Last,Il b.Owners,ca102,ca103]] m Q:=by
 have S0:=hS.st;obtain⟨τ0,_⟩:=zs1;refine w24 ?_;unfold zt9 at hp;intro m0 t;obtain⟨d,i,ka,j⟩:=S0.blk t τ0 1;refine⟨_,_,_,_,j.bk.ra,?_⟩;obtain⟨la,u,hp⟩:=zrK hp;refine zwf (b:=b) i.pre ha102 ha103 u fun m6 y=>?_;obtain⟨e,z⟩:=i.call y d;have A:=j.k z;refine⟨_,rfl,?_⟩;refine zsa hp (fun B hp=>?_) fun B hp=>?_
 ·obtain rfl:=oi hp;exact hq _ e.ext'
 refine⟨_,_,_,_,A.bk.ra,?_⟩;obtain⟨a,D,hp⟩:=zrK hp;refine zwg (b:=b) e.pre ha102 ha103 D fun za ma F G I n o=>?_;obtain⟨J,na⟩:=e.callG I d;refine⟨_,_,_,_,_,_,_,_,_,_,_,_,_,_,_,_,_,rfl,?_⟩;intro Aa N;obtain⟨g,O,oa,P⟩:=J.blk N d 2;obtain⟨S,T,p,pa,q⟩:=P.sto O [Il a.b.Last,Il a.b.Owners,F,G,Il a.numbers,Il a.makes.m0,Il a.makes.m1,Il a.makes.m2,Il a.makes.m3,Il a.makes.m4,Il a.makes.m5,.bool a.out.o0,.bool a.out.o1,.bool a.out.o2,.bool a.out.o3,.bool a.out.o4,.bool a.out.o5];refine⟨S,T,?_⟩;refine⟨_,_,_,_,_,_,_,_,_,_,_,_,_,_,_,_,_,q.bk.ra,?_⟩;obtain⟨qa,Y,hp⟩:=zrK hp;refine zwe (w:=a) p.pre n o Y fun Ba Z=>?_;obtain⟨h,aa⟩:=p.call Z g;have ba:=q.k aa;refine⟨_,rfl,?_⟩;refine zsb hp (fun ca hp=>?_) fun ca hp=>?_
 ·obtain rfl:=oi hp;exact hq _ h.ext'
 refine⟨_,_,_,_,_,_,_,_,_,_,_,_,_,_,_,_,_,ba.bk.ra,?_⟩;obtain⟨da,ea,hp⟩:=zrK hp;refine zwh (w:=a) h.pre n o ea fun Ca sa ta fa ga=>?_;obtain⟨r,ua⟩:=h.callG fa g;refine⟨_,rfl,?_⟩;obtain⟨va,ha,hp⟩:=zrK hp;refine zwj (l:=da) r.pre ga ha fun Da ia=>?_;obtain⟨s,wa⟩:=r.call ia g;refine⟨_,rfl,?_⟩;refine ifd hp (fun ja hp=>?_) fun ja hp=>?_
 ·obtain rfl:=oi hp;exact hq _ s.ext'
 obtain rfl:=oi hp;exact hq _ s.ext'
theorem zwl{p:Pl}{m f:M}{Q:V->M->Prop}{rz:Bool}(hS:Pre f m)(hp:zua p=some rz)(hq:∀m',Ext m m'->Q (.c (.bool rz)) m'):Wc prog tbl 109 [.agg 5 [Il p.owner,Il p.value,.bool p.there,.bool p.harvested,Il p.sown]] m Q:=by
 have j:=hS.st;obtain⟨l,_⟩:=zs1;refine zvh ?_;unfold zua at hp;intro n e;obtain⟨h,a,i,d⟩:=j.blk e l 1;refine⟨trivial,_,d.bk.rc rfl,?_⟩;refine zsa hp (fun g hp=>?_) fun g hp=>?_; rotate_left
 ·obtain rfl:=oi hp;exact hq _ a.ext'
 refine⟨trivial,_,d.bk.rc rfl,?_⟩;obtain rfl:=oi hp;exact hq _ a.ext'
theorem zwm{s:List Pl}{bp0:Nat}{e:Evt}{m f:M}{Q:V->M->Prop}{rz:Bool × List Pl}(hS:Pre f m)(hbp0:Lc f m bp0 50 (zta s))(hp:zub s e=some rz)(hq:∀m',zsk (isB bp0) m m'->Bk m' bp0 50 (zta rz.2)->Q (.c (.bool rz.1)) m'):Wc prog tbl 121 [.c (.ptr bp0 0),.agg 10 [Il e.e.Kind,Il e.e.Parcel,Il e.e.Other,Il e.e.From,Il e.e.To,Il e.e.Part,Il e.e.Day.Lo,Il e.e.Day.Hi,Il e.on,Il e.makes]] m Q:=by
 have S0:=hS.stL hbp0;obtain⟨τ0,L0⟩:∃τ,Lb ⟨m,isB bp0⟩ f τ m 1 bp0 50 (zta s):=⟨_,hbp0.lb 1⟩;refine zu6 ?_;unfold zub at hp;intro m0 F;obtain⟨G,n,I,q⟩:=S0.blk F τ0 2;have r:=L0.k I;refine⟨trivial,trivial,_,q.bk.rc rfl,trivial,trivial,?_⟩;obtain⟨J,hp⟩:=zrL hp;obtain⟨y,z,A⟩:=zr6 J;obtain⟨N,hp⟩:=zrL hp
 have h:s.length * 5=50:=by rw[N]
 obtain⟨a,d,hp⟩:=zrK hp;obtain⟨B,ba,ca,d⟩:=zrE d
 have D:B=y:=by omega
 rw[D] at d;refine⟨y,z,A,trivial,_,_,_,_,_,(r.bk.rs ztb h d),?_⟩;obtain⟨ea,O,hp⟩:=zrK hp;refine zwl (p:=a) n.pre  O fun m9 P=>?_;obtain⟨i,t⟩:=n.call P G;have g:=r.k t;have u:=q.k t;refine⟨_,rfl,?_⟩;refine zsb hp (fun S hp=>?_) fun S hp=>?_
 ·obtain rfl:=oi hp;exact hq _ i.extX g.bk
 refine⟨trivial,trivial,trivial,_,(g.bk.rs1 ztb d (j:=0) rfl (by omega)),trivial,trivial,_,u.bk.rc rfl,?_⟩;refine zr9 hp (fun T hp=>?_) fun T hp=>?_
 ·obtain rfl:=oi hp;exact hq _ i.extX g.bk
 refine⟨trivial,trivial,_,u.bk.rc rfl,trivial,trivial,trivial,?_⟩
 have l:Int.toNat e.e.Parcel=y:=by omega
 obtain⟨Y,Z,aa,fa,w⟩:=g.stS i ztb h d (a':=({ owner:=e.e.To,value:=a.value,there:=a.there,harvested:=a.harvested,sown:=a.sown }:Pl)) 0 [Il e.e.To] (Nat.le_of_ble_eq_true rfl) rfl (o:=(((0+(y * 5))+0)+0)) (by omega) rfl;rw[<- l] at w;have ga:(s.set (Int.toNat e.e.Parcel) ({ owner:=e.e.To,value:=a.value,there:=a.there,harvested:=a.harvested,sown:=a.sown }:Pl))[y]? = some ({ owner:=e.e.To,value:=a.value,there:=a.there,harvested:=a.harvested,sown:=a.sown }:Pl):=(congrArg (fun z9_=>(s.set z9_ ({ owner:=e.e.To,value:=a.value,there:=a.there,harvested:=a.harvested,sown:=a.sown }:Pl))[y]?) l).trans (List.getElem?_set_self (List.getElem?_eq_some_iff.1 d).1)
 have da:(s.set (Int.toNat e.e.Parcel) ({ owner:=e.e.To,value:=a.value,there:=a.there,harvested:=a.harvested,sown:=a.sown }:Pl)).length * 5=50:=by rw[List.length_set]; exact h
 refine⟨Y,Z,?_⟩;obtain rfl:=oi hp;exact hq _ aa.extX w.bk
theorem zwn{s:List Pl}{bp0:Nat}{e:Evt}{m f:M}{Q:V->M->Prop}{rz:Bool × List Pl}(hS:Pre f m)(hbp0:Lc f m bp0 50 (zta s))(hp:zuc s e=some rz)(hq:∀m',zsk (isB bp0) m m'->Bk m' bp0 50 (zta rz.2)->Q (.c (.bool rz.1)) m'):Wc prog tbl 122 [.c (.ptr bp0 0),.agg 10 [Il e.e.Kind,Il e.e.Parcel,Il e.e.Other,Il e.e.From,Il e.e.To,Il e.e.Part,Il e.e.Day.Lo,Il e.e.Day.Hi,Il e.on,Il e.makes]] m Q:=by
 have S0:=hS.stL hbp0;obtain⟨τ0,L0⟩:∃τ,Lb ⟨m,isB bp0⟩ f τ m 1 bp0 50 (zta s):=⟨_,hbp0.lb 1⟩;refine zu7 ?_;unfold zuc at hp;intro m0 ea;obtain⟨z,A,fa,B⟩:=S0.blk ea τ0 2;have D:=L0.k fa;refine⟨trivial,trivial,_,B.bk.rc rfl,trivial,trivial,?_⟩;obtain⟨ga,hp⟩:=zrL hp;obtain⟨P,S,T⟩:=zr6 ga;obtain⟨ha,hp⟩:=zrL hp
 have i:s.length * 5=50:=by rw[ha]
 obtain⟨a,d,hp⟩:=zrK hp;obtain⟨Y,Na,Oa,d⟩:=zrE d
 have Z:Y=P:=by omega
 rw[Z] at d;refine⟨P,S,T,trivial,_,_,_,_,_,(D.bk.rs ztb i d),?_⟩;obtain⟨Sa,ia,hp⟩:=zrK hp;refine zwl (p:=a) A.pre  ia fun m9 ja=>?_;obtain⟨q,F⟩:=A.call ja z;have g:=D.k F;have r:=B.k F;refine⟨_,rfl,?_⟩;refine zsb hp (fun ka hp=>?_) fun ka hp=>?_
 ·obtain rfl:=oi hp;exact hq _ q.extX g.bk
 refine⟨trivial,trivial,trivial,_,(g.bk.rs1 ztb d (j:=1) rfl (by omega)),trivial,trivial,_,r.bk.rc rfl,?_⟩;refine ifd hp (fun la hp=>?_) fun la hp=>?_
 ·obtain rfl:=oi hp;exact hq _ q.extX g.bk
 refine⟨trivial,trivial,trivial,_,(g.bk.rs1 ztb d (j:=1) rfl (by omega)),trivial,trivial,_,r.bk.rc rfl,?_⟩;obtain⟨ma,hp⟩:=zrL hp;refine⟨ma,trivial,trivial,trivial,?_⟩
 have w:Int.toNat e.e.Parcel=P:=by omega
 obtain⟨na,oa,pa,qa,t⟩:=g.stS q ztb i d (a':=({ owner:=a.owner,value:=(a.value - e.e.Part),there:=a.there,harvested:=a.harvested,sown:=a.sown }:Pl)) 1 [(Il (a.value - e.e.Part))] (Nat.le_of_ble_eq_true rfl) rfl (o:=(((0+(P * 5))+0)+1)) (by omega) rfl;rw[<- w] at t;have sa:(s.set (Int.toNat e.e.Parcel) ({ owner:=a.owner,value:=(a.value - e.e.Part),there:=a.there,harvested:=a.harvested,sown:=a.sown }:Pl))[P]? = some ({ owner:=a.owner,value:=(a.value - e.e.Part),there:=a.there,harvested:=a.harvested,sown:=a.sown }:Pl):=(congrArg (fun z9_=>(s.set z9_ ({ owner:=a.owner,value:=(a.value - e.e.Part),there:=a.there,harvested:=a.harvested,sown:=a.sown }:Pl))[P]?) w).trans (List.getElem?_set_self (List.getElem?_eq_some_iff.1 d).1)
 have l:(s.set (Int.toNat e.e.Parcel) ({ owner:=a.owner,value:=(a.value - e.e.Part),there:=a.there,harvested:=a.harvested,sown:=a.sown }:Pl)).length * 5=50:=by rw[List.length_set]; exact i
 have ta:=r.k qa;refine⟨na,oa,?_⟩;refine⟨trivial,_,_,_,_,_,(t.bk.rs ztb l sa),?_⟩;intro ab ua;obtain⟨Ta,va,G,wa⟩:=pa.blk ua z 3;have xa:=t.k G;have ya:=ta.k G;obtain⟨za,Aa,Ba,I,Ca⟩:=wa.sto va [Il a.owner,(Il (a.value - e.e.Part)),.bool a.there,.bool a.harvested,Il a.sown];have Da:=xa.k I;have J:=ya.k I;refine⟨za,Aa,?_⟩;refine⟨trivial,trivial,_,J.bk.rc rfl,trivial,trivial,?_⟩;obtain⟨Ea,Fa,Ga,N,u⟩:=Ca.sto1 Ba 1 (Il e.e.Part) (by simp) rfl
 replace u:Lb _ _ _ _ _ _ _ [Il a.owner,Il e.e.Part,.bool a.there,.bool a.harvested,Il a.sown]:=u
 have Ha:=Da.k N;have Ia:=J.k N;refine⟨Ea,Fa,?_⟩;refine⟨trivial,_,Ia.bk.rc rfl,_,_,_,_,_,u.bk.ra,trivial,trivial,?_⟩;obtain⟨Ja,hp⟩:=zrL hp;obtain⟨n,aa,ba⟩:=zr6 Ja;obtain⟨Ua,h,hp⟩:=zrK hp;obtain⟨ca,Pa,Qa,h⟩:=zrE h
 have da:ca=n:=by omega
 rw[da] at h;refine⟨n,aa,ba,?_⟩
 have y:Int.toNat e.makes=n:=by omega
 obtain⟨Ka,La,Ma,Va,O⟩:=Ha.stS Ga ztb l h (a':=({ owner:=a.owner,value:=e.e.Part,there:=a.there,harvested:=a.harvested,sown:=a.sown }:Pl)) 0 [Il a.owner,Il e.e.Part,.bool a.there,.bool a.harvested,Il a.sown] (Nat.le_of_ble_eq_true rfl) rfl (o:=(0+(n * 5))) (by omega) rfl;rw[<- y] at O;have Wa:((s.set (Int.toNat e.e.Parcel) ({ owner:=a.owner,value:=(a.value - e.e.Part),there:=a.there,harvested:=a.harvested,sown:=a.sown }:Pl)).set (Int.toNat e.makes) ({ owner:=a.owner,value:=e.e.Part,there:=a.there,harvested:=a.harvested,sown:=a.sown }:Pl))[n]? = some ({ owner:=a.owner,value:=e.e.Part,there:=a.there,harvested:=a.harvested,sown:=a.sown }:Pl):=(congrArg (fun z9_=>((s.set (Int.toNat e.e.Parcel) ({ owner:=a.owner,value:=(a.value - e.e.Part),there:=a.there,harvested:=a.harvested,sown:=a.sown }:Pl)).set z9_ ({ owner:=a.owner,value:=e.e.Part,there:=a.there,harvested:=a.harvested,sown:=a.sown }:Pl))[n]?) y).trans (List.getElem?_set_self (List.getElem?_eq_some_iff.1 h).1)
 have Ra:((s.set (Int.toNat e.e.Parcel) ({ owner:=a.owner,value:=(a.value - e.e.Part),there:=a.there,harvested:=a.harvested,sown:=a.sown }:Pl)).set (Int.toNat e.makes) ({ owner:=a.owner,value:=e.e.Part,there:=a.there,harvested:=a.harvested,sown:=a.sown }:Pl)).length * 5=50:=by rw[List.length_set]; exact l
 refine⟨Ka,La,?_⟩;obtain rfl:=oi hp;exact hq _ Ma.extX O.bk
theorem zwo{s:List Pl}{bp0:Nat}{e:Evt}{m f:M}{Q:V->M->Prop}{rz:Bool × List Pl}(hS:Pre f m)(hbp0:Lc f m bp0 50 (zta s))(hp:zud s e=some rz)(hq:∀m',zsk (isB bp0) m m'->Bk m' bp0 50 (zta rz.2)->Q (.c (.bool rz.1)) m'):Wc prog tbl 123 [.c (.ptr bp0 0),.agg 10 [Il e.e.Kind,Il e.e.Parcel,Il e.e.Other,Il e.e.From,Il e.e.To,Il e.e.Part,Il e.e.Day.Lo,Il e.e.Day.Hi,Il e.on,Il e.makes]] m Q:=by
 have S0:=hS.stL hbp0;obtain⟨τ0,L0⟩:∃τ,Lb ⟨m,isB bp0⟩ f τ m 1 bp0 50 (zta s):=⟨_,hbp0.lb 1⟩;refine zu8 ?_;unfold zud at hp;intro m0 ea;obtain⟨B,D,fa,F⟩:=S0.blk ea τ0 2;have G:=L0.k fa;refine⟨trivial,trivial,_,F.bk.rc rfl,trivial,trivial,?_⟩;obtain⟨ga,hp⟩:=zrL hp;obtain⟨N,O,P⟩:=zr6 ga;refine⟨N,O,P,trivial,trivial,_,F.bk.rc rfl,trivial,trivial,?_⟩;obtain⟨ha,hp⟩:=zrL hp;obtain⟨A,S,T⟩:=zr6 ha;obtain⟨ia,hp⟩:=zrL hp
 have n:s.length * 5=50:=by rw[ia]
 obtain⟨a,h,hp⟩:=zrK hp;obtain⟨Y,za,Aa,h⟩:=zrE h
 have Z:Y=N:=by omega
 rw[Z] at h;refine⟨A,S,T,trivial,_,_,_,_,_,(G.bk.rs ztb n h),?_⟩;obtain⟨Ga,ja,hp⟩:=zrK hp;refine zwl (p:=a) D.pre  ja fun Pa ka=>?_;obtain⟨r,la⟩:=D.call ka B;have t:=G.k la;refine⟨_,rfl,?_⟩;refine zsb hp (fun ma hp=>?_) fun ma hp=>?_
 ·obtain rfl:=oi hp;exact hq _ r.extX t.bk
 obtain⟨g,l,hp⟩:=zrK hp;obtain⟨aa,Ba,Ca,l⟩:=zrE l
 have ba:aa=A:=by omega
 rw[ba] at l;refine⟨trivial,_,_,_,_,_,(t.bk.rs ztb n l),?_⟩;obtain⟨Ha,na,hp⟩:=zrK hp;refine zwl (p:=g) r.pre  na fun Qa oa=>?_;obtain⟨u,pa⟩:=r.call oa B;have i:=t.k pa;refine⟨_,rfl,?_⟩;refine zsb hp (fun qa hp=>?_) fun qa hp=>?_
 ·obtain rfl:=oi hp;exact hq _ u.extX i.bk
 refine⟨trivial,trivial,trivial,_,(i.bk.rs1 ztb h (j:=0) rfl (by omega)),trivial,trivial,trivial,_,(i.bk.rs1 ztb l (j:=0) rfl (by omega)),?_⟩;refine ifd hp (fun sa hp=>?_) fun sa hp=>?_
 ·obtain rfl:=oi hp;exact hq _ u.extX i.bk
 refine⟨trivial,trivial,trivial,_,(i.bk.rs1 ztb l (j:=0) rfl (by omega)),trivial,trivial,trivial,_,(i.bk.rs1 ztb h (j:=0) rfl (by omega)),trivial,trivial,trivial,?_⟩
 have w:Int.toNat e.e.Parcel=N:=by omega
 obtain⟨ta,ua,va,Ia,I⟩:=i.stS u ztb n h (a':=({ owner:=g.owner,value:=a.value,there:=a.there,harvested:=a.harvested,sown:=a.sown }:Pl)) 0 [Il g.owner] (Nat.le_of_ble_eq_true rfl) rfl (o:=(((0+(N * 5))+0)+0)) (by omega) rfl;rw[<- w] at I;have Ja:(s.set (Int.toNat e.e.Parcel) ({ owner:=g.owner,value:=a.value,there:=a.there,harvested:=a.harvested,sown:=a.sown }:Pl))[N]? = some ({ owner:=g.owner,value:=a.value,there:=a.there,harvested:=a.harvested,sown:=a.sown }:Pl):=(congrArg (fun z9_=>(s.set z9_ ({ owner:=g.owner,value:=a.value,there:=a.there,harvested:=a.harvested,sown:=a.sown }:Pl))[N]?) w).trans (List.getElem?_set_self (List.getElem?_eq_some_iff.1 h).1)
 have y:(s.set (Int.toNat e.e.Parcel) ({ owner:=g.owner,value:=a.value,there:=a.there,harvested:=a.harvested,sown:=a.sown }:Pl)).length * 5=50:=by rw[List.length_set]; exact n
 refine⟨ta,ua,?_⟩;obtain⟨d,q,hp⟩:=zrK hp;obtain⟨ca,Da,Ea,q⟩:=zrE q
 have da:ca=A:=by omega
 rw[da] at q;refine⟨trivial,trivial,trivial,?_⟩
 have z:Int.toNat e.e.Other=A:=by omega
 obtain⟨wa,xa,ya,Ka,J⟩:=I.stS va ztb y q (a':=({ owner:=a.owner,value:=d.value,there:=d.there,harvested:=d.harvested,sown:=d.sown }:Pl)) 0 [Il a.owner] (Nat.le_of_ble_eq_true rfl) rfl (o:=(((0+(A * 5))+0)+0)) (by omega) rfl;rw[<- z] at J;have La:((s.set (Int.toNat e.e.Parcel) ({ owner:=g.owner,value:=a.value,there:=a.there,harvested:=a.harvested,sown:=a.sown }:Pl)).set (Int.toNat e.e.Other) ({ owner:=a.owner,value:=d.value,there:=d.there,harvested:=d.harvested,sown:=d.sown }:Pl))[A]? = some ({ owner:=a.owner,value:=d.value,there:=d.there,harvested:=d.harvested,sown:=d.sown }:Pl):=(congrArg (fun z9_=>((s.set (Int.toNat e.e.Parcel) ({ owner:=g.owner,value:=a.value,there:=a.there,harvested:=a.harvested,sown:=a.sown }:Pl)).set z9_ ({ owner:=a.owner,value:=d.value,there:=d.there,harvested:=d.harvested,sown:=d.sown }:Pl))[A]?) z).trans (List.getElem?_set_self (List.getElem?_eq_some_iff.1 q).1)
 have Fa:((s.set (Int.toNat e.e.Parcel) ({ owner:=g.owner,value:=a.value,there:=a.there,harvested:=a.harvested,sown:=a.sown }:Pl)).set (Int.toNat e.e.Other) ({ owner:=a.owner,value:=d.value,there:=d.there,harvested:=d.harvested,sown:=d.sown }:Pl)).length * 5=50:=by rw[List.length_set]; exact y
 refine⟨wa,xa,?_⟩;obtain rfl:=oi hp;exact hq _ ya.extX J.bk
theorem zwp{s:List Pl}{bp0:Nat}{e:Evt}{m f:M}{Q:V->M->Prop}{rz:Bool × List Pl}(hS:Pre f m)(hbp0:Lc f m bp0 50 (zta s))(hp:zue s e=some rz)(hq:∀m',zsk (isB bp0) m m'->Bk m' bp0 50 (zta rz.2)->Q (.c (.bool rz.1)) m'):Wc prog tbl 124 [.c (.ptr bp0 0),.agg 10 [Il e.e.Kind,Il e.e.Parcel,Il e.e.Other,Il e.e.From,Il e.e.To,Il e.e.Part,Il e.e.Day.Lo,Il e.e.Day.Hi,Il e.on,Il e.makes]] m Q:=by
 have S0:=hS.stL hbp0;obtain⟨τ0,L0⟩:∃τ,Lb ⟨m,isB bp0⟩ f τ m 1 bp0 50 (zta s):=⟨_,hbp0.lb 1⟩;refine zu9 ?_;unfold zue at hp;intro m0 D;obtain⟨F,n,G,q⟩:=S0.blk D τ0 2;have r:=L0.k G;refine⟨trivial,trivial,_,q.bk.rc rfl,trivial,trivial,?_⟩;obtain⟨I,hp⟩:=zrL hp;obtain⟨w,y,z⟩:=zr6 I;obtain⟨J,hp⟩:=zrL hp
 have h:s.length * 5=50:=by rw[J]
 obtain⟨a,d,hp⟩:=zrK hp;obtain⟨A,ba,ca,d⟩:=zrE d
 have B:A=w:=by omega
 rw[B] at d;refine⟨w,y,z,trivial,_,_,_,_,_,(r.bk.rs ztb h d),?_⟩;obtain⟨ea,N,hp⟩:=zrK hp;refine zwl (p:=a) n.pre  N fun m9 O=>?_;obtain⟨i,t⟩:=n.call O F;have g:=r.k t;have P:=q.k t;refine⟨_,rfl,?_⟩;refine zsb hp (fun S hp=>?_) fun S hp=>?_
 ·obtain rfl:=oi hp;exact hq _ i.extX g.bk
 refine⟨trivial,trivial,_,(g.bk.rs1 ztb d (j:=4) rfl (by omega)),trivial,_,P.bk.rc rfl,?_⟩;refine ifd hp (fun T hp=>?_) fun T hp=>?_
 ·obtain rfl:=oi hp;exact hq _ i.extX g.bk
 refine⟨trivial,trivial,?_⟩
 have l:Int.toNat e.e.Parcel=w:=by omega
 obtain⟨Y,Z,aa,fa,u⟩:=g.stS i ztb h d (a':=({ owner:=a.owner,value:=a.value,there:=a.there,harvested:=true,sown:=a.sown }:Pl)) 3 [.bool true] (Nat.le_of_ble_eq_true rfl) rfl (o:=((0+(w * 5))+3)) (by omega) rfl;rw[<- l] at u;have ga:(s.set (Int.toNat e.e.Parcel) ({ owner:=a.owner,value:=a.value,there:=a.there,harvested:=true,sown:=a.sown }:Pl))[w]? = some ({ owner:=a.owner,value:=a.value,there:=a.there,harvested:=true,sown:=a.sown }:Pl):=(congrArg (fun z9_=>(s.set z9_ ({ owner:=a.owner,value:=a.value,there:=a.there,harvested:=true,sown:=a.sown }:Pl))[w]?) l).trans (List.getElem?_set_self (List.getElem?_eq_some_iff.1 d).1)
 have da:(s.set (Int.toNat e.e.Parcel) ({ owner:=a.owner,value:=a.value,there:=a.there,harvested:=true,sown:=a.sown }:Pl)).length * 5=50:=by rw[List.length_set]; exact h
 refine⟨Y,Z,?_⟩;obtain rfl:=oi hp;exact hq _ aa.extX u.bk
theorem zwq{w:Wk}{sown:List Int}{ca102 ca103 ca200:C}{m f:M}{Q:V->M->Prop}{rz:List Pl}(hS:Pre f m)(ha102:Sl f ca102 w.b.Parcels)(_ha103:Sl f ca103 w.b.Entries)(ha200:Sl f ca200 sown)(hp:zug w sown=some rz)(hq:∀m',Ext m m'->Q (.agg 50 (zta rz)) m'):Wc prog tbl 96 [.agg 17 [Il w.b.Last,Il w.b.Owners,ca102,ca103,Il w.numbers,Il w.makes.m0,Il w.makes.m1,Il w.makes.m2,Il w.makes.m3,Il w.makes.m4,Il w.makes.m5,.bool w.out.o0,.bool w.out.o1,.bool w.out.o2,.bool w.out.o3,.bool w.out.o4,.bool w.out.o5],.c ca200] m Q:=by
 have S0:=hS.st;obtain⟨τ0,_⟩:=zs1;refine w96 ?_;unfold zug at hp;intro m0 ca;obtain⟨da,ea,Va,fa⟩:=S0.blk ca τ0 1;intro m1 ga;obtain⟨ha,ia,ja,r⟩:=ea.blk ga da 2
 replace r:Lb _ _ _ _ _ _ _ (zta (List.replicate 10 ({ owner:=(0:Int),value:=(0:Int),there:=false,harvested:=false,sown:=(0:Int) }:Pl))):=r
 have ka:=fa.k ja;intro m2 la;obtain⟨ma,na,I,e⟩:=ia.blk la ha 3
 replace e:Lb _ _ _ _ _ _ _ (zta (List.replicate 10 ({ owner:=(0:Int),value:=(0:Int),there:=false,harvested:=false,sown:=(0:Int) }:Pl))):=e
 have i:=ka.k I;have j:=r.k I;refine⟨trivial,trivial,_,i.bk.rc rfl,ha102.isSl,?_⟩;intro R4 Qa
 have hgo:∀(n:Nat) (F:Int) (d:List Pl) (G:M) (g:Nat->Nat),St (Fm.of m) f f G->Lb (Fm.of m) f g G 1 m.nxt 17 [Il w.b.Last,Il w.b.Owners,ca102,ca103,Il w.numbers,Il w.makes.m0,Il w.makes.m1,Il w.makes.m2,Il w.makes.m3,Il w.makes.m4,Il w.makes.m5,.bool w.out.o0,.bool w.out.o1,.bool w.out.o2,.bool w.out.o3,.bool w.out.o4,.bool w.out.o5]->Lb (Fm.of m) f g G 2 m0.nxt 50 (zta (List.replicate 10 ({ owner:=(0:Int),value:=(0:Int),there:=false,harvested:=false,sown:=(0:Int) }:Pl)))->Lb (Fm.of m) f g G 3 m1.nxt 50 (zta d)->zuf w sown n d F=some rz->R4 [.c (Il F)] G:=by
  intro n
  induction n with
  | zero=>intro F d G g p i j e hp; cases hp
  | succ n Pa=>
   intro F d G g p i j e hp;refine Qa _ _ ?_;rw[zuf] at hp
   try rw[ha102.slLen]
   refine ifd hp (fun oa hp=>?_) fun oa hp=>?_; rotate_left
   ·refine⟨_,e.bk.ra,?_⟩;obtain⟨pa,qa,sa,Wa,ta⟩:=j.sto p (zta d);refine⟨pa,qa,?_⟩;refine⟨_,ta.bk.ra,?_⟩;obtain rfl:=oi hp;exact hq _ sa.ext'
   obtain⟨a,s,hp⟩:=zrK hp;obtain⟨n7,S,z,s⟩:=zrE s;obtain⟨_,ua⟩:=zs5 ha102 s;refine⟨n7,S,(by first|exact z|(rw[ha102.slLen];exact z)),_,_,_,_,(ua _ p.sub).1,?_⟩;intro db va;obtain⟨wa,xa,t,ya⟩:=p.blk va g 4;have za:=i.k t;have Aa:=j.k t;have Ba:=e.k t;obtain⟨Ca,Da,J,u,N⟩:=ya.sto xa [Il a.Owner,Il a.Value,Il a.Sown.Lo,Il a.Sown.Hi];have Ea:=za.k u;have Fa:=Aa.k u;have Ga:=Ba.k u;refine⟨Ca,Da,?_⟩;refine⟨trivial,_,N.bk.rc rfl,trivial,_,N.bk.rc rfl,?_⟩;obtain⟨h,y,hp⟩:=zrK hp;obtain⟨Ra,T,A,y⟩:=zrE y;refine⟨Ra,T,(by first|exact A|(rw[ha200.slLen];exact A)),_,(ha200.rdI y J.sub),trivial,?_⟩;obtain⟨Ha,hp⟩:=zrL hp;obtain⟨q,Y,Z⟩:=zr6 Ha;obtain⟨Ia,hp⟩:=zrL hp
   have B:d.length * 5=50:=by rw[Ia]
   obtain⟨Xa,l,hp⟩:=zrK hp;obtain⟨aa,Sa,Ta,l⟩:=zrE l
   have ba:aa=q:=by omega
   rw[ba] at l;refine⟨q,Y,Z,?_⟩
   have D:Int.toNat F=q:=by omega
   obtain⟨Ja,Ka,La,O,P⟩:=Ga.stS J ztb B l (a':=({ owner:=a.Owner,value:=a.Value,there:=true,harvested:=false,sown:=h }:Pl)) 0 [Il a.Owner,Il a.Value,.bool true,.bool false,Il h] (Nat.le_of_ble_eq_true rfl) rfl (o:=(0+(q * 5))) (by omega) rfl;rw[<- D] at P;have Ya:(d.set (Int.toNat F) ({ owner:=a.Owner,value:=a.Value,there:=true,harvested:=false,sown:=h }:Pl))[q]? = some ({ owner:=a.Owner,value:=a.Value,there:=true,harvested:=false,sown:=h }:Pl):=(congrArg (fun z9_=>(d.set z9_ ({ owner:=a.Owner,value:=a.Value,there:=true,harvested:=false,sown:=h }:Pl))[q]?) D).trans (List.getElem?_set_self (List.getElem?_eq_some_iff.1 l).1)
   have Ua:(d.set (Int.toNat F) ({ owner:=a.Owner,value:=a.Value,there:=true,harvested:=false,sown:=h }:Pl)).length * 5=50:=by rw[List.length_set]; exact B
   have Ma:=Ea.k O;have Na:=Fa.k O;refine⟨Ja,Ka,?_⟩;refine gdi hp fun Oa hp=>?_;exact Pa _ _ _ wa La Ma Na P hp
 exact hgo _ _ _ _ ma na i j e hp
theorem zwr{x:Int}{m f:M}{Q:V->M->Prop}{rz:Bool}(hS:Pre f m)(hp:zuh x=some rz)(hq:∀m',Ext m m'->Q (.c (.bool rz)) m'):Wc prog tbl 146 [.c (Il x)] m Q:=by
 have a:=hS.st;obtain⟨d,_⟩:=zs1;refine zvv ?_;unfold zuh at hp;obtain rfl:=oi hp;exact hq _ a.ext'
theorem zws{x:Int}{y:Int}{m f:M}{Q:V->M->Prop}{rz:Int}(hS:Pre f m)(hp:zui x y=some rz)(hq:∀m',Ext m m'->Q (.c (Il rz)) m'):Wc prog tbl 120 [.c (Il x),.c (Il y)] m Q:=by
 have q:=hS.st;obtain⟨r,_⟩:=zs1;refine zvo ?_;unfold zui at hp;obtain⟨s,e,hp⟩:=zrK hp;refine zwr (x:=x) q.pre  e fun z g=>?_;obtain⟨d,t⟩:=q.call g r;refine⟨_,rfl,?_⟩;obtain⟨u,h,hp⟩:=zrK hp;refine zwr (x:=y) d.pre  h fun A i=>?_;obtain⟨a,w⟩:=d.call i r;refine⟨_,rfl,?_⟩;refine zsa hp (fun j hp=>?_) fun j hp=>?_
 ·refine zsa hp (fun l hp=>?_) fun l hp=>?_
  ·obtain rfl:=oi hp;exact hq _ a.ext'
  obtain rfl:=oi hp;exact hq _ a.ext'
 refine zsa hp (fun n hp=>?_) fun n hp=>?_
 ·obtain rfl:=oi hp;exact hq _ a.ext'
 refine ifd hp (fun o hp=>?_) fun o hp=>?_
 ·obtain rfl:=oi hp;exact hq _ a.ext'
 refine ifd hp (fun p hp=>?_) fun p hp=>?_
 ·obtain rfl:=oi hp;exact hq _ a.ext'
 obtain rfl:=oi hp;exact hq _ a.ext'
theorem zwt{a:Evt}{b:Evt}{m f:M}{Q:V->M->Prop}{rz:Int}(hS:Pre f m)(hp:zuj a b=some rz)(hq:∀m',Ext m m'->Q (.c (Il rz)) m'):Wc prog tbl 119 [.agg 10 [Il a.e.Kind,Il a.e.Parcel,Il a.e.Other,Il a.e.From,Il a.e.To,Il a.e.Part,Il a.e.Day.Lo,Il a.e.Day.Hi,Il a.on,Il a.makes],.agg 10 [Il b.e.Kind,Il b.e.Parcel,Il b.e.Other,Il b.e.From,Il b.e.To,Il b.e.Part,Il b.e.Day.Lo,Il b.e.Day.Hi,Il b.on,Il b.makes]] m Q:=by
 have A:=hS.st;obtain⟨B,_⟩:=zs1;refine zva ?_;unfold zuj at hp;intro D g;obtain⟨h,i,u,j⟩:=A.blk g B 1;intro F l;obtain⟨n,d,o,p⟩:=i.blk l h 2;have q:=j.k o;refine⟨trivial,_,q.bk.rc rfl,trivial,_,p.bk.rc rfl,?_⟩;obtain⟨w,r,hp⟩:=zrK hp;refine zws (x:=a.on) (y:=b.on) d.pre  r fun G s=>?_;obtain⟨t,z⟩:=d.call s n;refine⟨_,rfl,?_⟩;obtain rfl:=oi hp;exact hq _ t.ext'
theorem zwu{l:List Evt}{a:Int}{b:Int}{cmp:Evt->Evt->Option (Int)}{ca100 ca400:C}{m f:M}{Q:V->M->Prop}{rz:(Unit) × List Evt}(hS:Pre f m)(ha100:Wg f m ca100 l)(ha400:zvz f ca400 cmp)(hp:zum l a b cmp=some rz)(hq:∀m',zsk (zr4 ca100) m m'->Wn m m' ca100 rz.2->Q (.tup []) m'):Wc prog tbl 154 [.c ca100,.c (Il a),.c (Il b),.c ca400] m Q:=by
 have S0:=hS.stW ha100;obtain⟨τ0,n⟩:∃τ,Wo ⟨m,zr4 ca100⟩ f τ m 1 ca100 l:=⟨_,ha100.wo 1⟩;refine zvq ?_;unfold zum at hp;refine gdi hp fun ua hp=>?_;intro R0 Qa
 have hgo:∀(q:Nat) (x1:Int) (t:List Evt) (m2:M) (u:Nat->Nat),St ⟨m,zr4 ca100⟩ f f m2->Wo ⟨m,zr4 ca100⟩ f u m2 1 ca100 t->zul a b cmp q x1 t=some rz->R0 [.c (Il x1)] m2:=by
  intro q
  induction q with
  | zero=>intro x1 t m2 u F n hp; cases hp
  | succ q ia=>
   intro x1 t m2 u F n hp;refine Qa _ _ ?_;rw[zul] at hp;refine ifd hp (fun va hp=>?_) fun va hp=>?_; rotate_left
   ·obtain rfl:=oi hp;exact hq _ F.extX n.wn
   intro R3 Ra
   have hgo:∀(w:Nat) (D:Int) (o:List Evt) (m5:M) (p:Nat->Nat),St ⟨m,zr4 ca100⟩ f f m5->Wo ⟨m,zr4 ca100⟩ f p m5 1 ca100 o->zuk a cmp x1 (zul a b cmp q) w D o=some rz->R3 [.c (Il D)] m5:=by
    intro w
    induction w with
    | zero=>intro D o m5 p y n hp; cases hp
    | succ w Pa=>
     intro D o m5 p y n hp;refine Ra _ _ ?_;rw[zuk] at hp;refine ifd hp (fun wa hp=>?_) fun wa hp=>?_; rotate_left
     ·refine gdi hp fun xa hp=>?_;exact ia _ _ _ p y n hp
     obtain⟨Za,G,hp⟩:=zrK hp;obtain⟨n6,ka,O,G⟩:=zrE G;have la:=(zvA (n.rdP G));refine⟨n6,ka,(by first|exact O|(rw[n.slLen];exact O)),_,_,_,_,_,_,_,_,_,_,(la).1,?_⟩;refine gdi hp fun ya hp=>?_;obtain⟨ab,I,hp⟩:=zrK hp;obtain⟨Sa,ma,P,I⟩:=zrE I;have na:=(zvA (n.rdP I));refine⟨Sa,ma,(by first|exact P|(rw[n.slLen];exact P)),_,_,_,_,_,_,_,_,_,_,(na).1,?_⟩;obtain⟨bb,za,hp⟩:=zrK hp;refine ha400 _ _ _ _ _ _ (Sub.refl _) y.pre  za fun jb Aa=>?_;obtain⟨ca,Ba⟩:=y.call Aa p;have n:=n.k Ba;refine⟨_,rfl,?_⟩;refine ifd hp (fun Ca hp=>?_) fun Ca hp=>?_; rotate_left
     ·refine gdi hp fun Da hp=>?_;exact ia _ _ _ p ca n hp
     refine gdi hp fun Ea hp=>?_;refine gdi hp fun Fa hp=>?_;obtain⟨d,J,hp⟩:=zrK hp;obtain⟨Ta,oa,S,J⟩:=zrE J;have pa:=(zvA (n.rdP J));refine⟨Ta,oa,(by first|exact S|(rw[n.slLen];exact S)),_,_,_,_,_,_,_,_,_,_,(pa).1,?_⟩;obtain⟨g,N,hp⟩:=zrK hp;obtain⟨Ua,qa,T,N⟩:=zrE N;have sa:=(zvA (n.rdP N));refine⟨Ua,qa,(by first|exact T|(rw[n.slLen];exact T)),_,_,_,_,_,_,_,_,_,_,(sa).1,?_⟩;obtain⟨i,r,hp⟩:=zrK hp;obtain⟨da,A,Y,r⟩:=zrE r;refine⟨da,A,(by first|exact Y|(rw[n.slLen];exact Y)),?_⟩;obtain⟨Ga,Ha,Ia,cb,z⟩:=n.setP ca (a':=d) r [Il i.e.Kind,Il i.e.Parcel,Il i.e.Other,Il i.e.From,Il i.e.To,Il i.e.Part,Il i.e.Day.Lo,Il i.e.Day.Hi,Il i.on,Il i.makes] (fun _ h=>h) 0 [Il d.e.Kind,Il d.e.Parcel,Il d.e.Other,Il d.e.From,Il d.e.To,Il d.e.Part,Il d.e.Day.Lo,Il d.e.Day.Hi,Il d.on,Il d.makes] (Nat.le_of_ble_eq_true rfl) rfl
     have Z:Int.toNat D=da:=by rw[A]; rfl
     rw[<- Z] at z;have Va:=A;have Ja:(o.set (Int.toNat D) d)[da]? = some d:=(congrArg (fun z9_=>(o.set z9_ d)[da]?) Z).trans (List.getElem?_set_self (List.getElem?_eq_some_iff.1 r).1);have Wa:=(List.getElem?_eq_some_iff.1 Ja).1;refine⟨Ga,(by have h9:=Ha; rw[n.add0 r] at h9; exact h9),?_⟩;obtain⟨j,s,hp⟩:=zrK hp;obtain⟨ea,B,aa,s⟩:=zrE s;refine⟨ea,B,(by first|exact aa|(rw[z.slLen];exact aa)),?_⟩;obtain⟨Ka,La,Ma,db,fa⟩:=z.setP Ia (a':=g) s [Il j.e.Kind,Il j.e.Parcel,Il j.e.Other,Il j.e.From,Il j.e.To,Il j.e.Part,Il j.e.Day.Lo,Il j.e.Day.Hi,Il j.on,Il j.makes] (fun _ h=>h) 0 [Il g.e.Kind,Il g.e.Parcel,Il g.e.Other,Il g.e.From,Il g.e.To,Il g.e.Part,Il g.e.Day.Lo,Il g.e.Day.Hi,Il g.on,Il g.makes] (Nat.le_of_ble_eq_true rfl) rfl
     have ba:Int.toNat (D - (1:Int))=ea:=by rw[B]; rfl
     rw[<- ba] at fa;have Xa:=B;have Na:((o.set (Int.toNat D) d).set (Int.toNat (D - (1:Int))) g)[ea]? = some g:=(congrArg (fun z9_=>((o.set (Int.toNat D) d).set z9_ g)[ea]?) ba).trans (List.getElem?_set_self (List.getElem?_eq_some_iff.1 s).1);have Ya:=(List.getElem?_eq_some_iff.1 Na).1;refine⟨Ka,(by have h9:=La; rw[z.add0 s] at h9; exact h9),?_⟩;refine gdi hp fun Oa hp=>?_;exact Pa _ _ _ p Ma fa hp
   exact hgo _ _ _ _ u F n hp
 exact hgo _ _ _ _ τ0 S0 n hp
theorem zwv{l:List Evt}{a m b:Int}{cmp:Evt->Evt->Option Int}{ca100 ca500:C}{m' f:M}{Q:V->M->Prop}{rz:Unit × List Evt}(__hS:Pre f m')(__h:Wg f m' ca100 l)(__hc:zvz f ca500 cmp)(hp:zup l a m b cmp=some rz)(__hq:∀m2,zsk (zr4 ca100) m' m2->Wn m' m2 ca100 rz.2->Q (.tup []) m2):Wc prog tbl 155 [.c ca100,.c (Il a),.c (Il m),.c (Il b),.c ca500] m' Q:=by cases hp
theorem zww{n:Int}{m f:M}{Q:V->M->Prop}{rz:Kd}(hS:Pre f m)(hp:zuo n=some rz)(hq:∀m' f' c0,Grw m f m' f'->zvw f' c0 rz.happen->Q (.agg 1 [c0]) m'):Wc prog tbl 98 [.c (Il n)] m Q:=by
 refine w98 fun z A T B=>?_;obtain⟨D,F,Y,d⟩:=hS.st.blk A (fun _=>0) 1;obtain⟨Z,G,I,e⟩:=F.blk B D 2;have d:=d.k I
 let fs:List C:=[(C.fn (Fn.func 121) [] []),(C.fn (Fn.func 122) [] []),(C.fn (Fn.func 123) [] []),(C.fn (Fn.func 124) [] [])]
 obtain⟨g,J,N,O,e⟩:=e.sto G fs;have d:=d.k O;refine⟨g,J,trivial,?_⟩
 have key:∀(k:Nat) (c:C),n=(k:Int)->k < 4->fs[k]? = some c->zvw f c rz.happen->∃h:Nat,n=(h:Int)/\h < 4/\∃t,ldA g (.ptr z.nxt (0+h * 1)) 1=some [t]/\∃a,stC g (.ptr m.nxt 0) 1 [t]=some a/\∃u,ldA a (.ptr m.nxt 0) 1=some [u]/\Q (.agg 1 [u]) a:=fun k c hk w hc hF=>by
  obtain⟨a,e5,S5,k5,P⟩:=d.sto N [c];refine⟨k,hk,w,c,?_,a,e5,c,P.bk.ra,hq a f c S5.grw hF⟩;have:=e.bk.rp (k:=0+k * 1) (j:=1) rfl (by omega);rw[this]
  have y:0+k * 1=k:=by omega
  rw[y,List.drop_eq_getElem_cons (by show k < 4; omega),List.take_succ_cons,List.take_zero];have S:=(List.getElem?_eq_some_iff.1 hc).2;rw[S]
 unfold zuo at hp
 by_cases i:n=0
 ·rw[if_pos i] at hp; cases hp
  exact key 0 _ i (by omega) rfl fun f' m' bp l o r Q' hs hpre hL hg hq'=>zwm hpre hL hg hq'
 rw[if_neg i] at hp
 by_cases p:n=1
 ·rw[if_pos p] at hp; cases hp
  exact key 1 _ p (by omega) rfl fun f' m' bp l o r Q' hs hpre hL hg hq'=>zwn hpre hL hg hq'
 rw[if_neg p] at hp
 by_cases q:n=2
 ·rw[if_pos q] at hp; cases hp
  exact key 2 _ q (by omega) rfl fun f' m' bp l o r Q' hs hpre hL hg hq'=>zwo hpre hL hg hq'
 rw[if_neg q] at hp
 by_cases s:n=3
 ·rw[if_pos s] at hp; cases hp
  exact key 3 _ s (by omega) rfl fun f' m' bp l o r Q' hs hpre hL hg hq'=>zwp hpre hL hg hq'
 ·rw[if_neg s] at hp; cases hp
theorem zwx(y:C)(b:Nat){m:M}{Q:V->M->Prop}(h:(∀e:M,(e=M.new m (AO.cells 1 [y] false))->∃f,ldC e (.ptr b 0)=some f/\isSl f/\∃i:Nat,∃a:Nat,(slLen f:Int)=((i:Nat):Int)/\(slLen f:Int)=((a:Nat):Int)/\i<=a/\a<=4096/\∀g:M,(g=M.new e (AO.cells (a * 1) (zaJ [Il 0] a) false))->∀l:M,(l=M.new g (AO.cells 1 [C.sl0] false))->∃d:M,stC l (.ptr g.nxt 0) 1 [.sl e.nxt 0 i 0 (some a)]=some d/\∀o:M,(o=M.new d (AO.cells 1 [C.nilFn] false))->∃j:M,stC o (.ptr d.nxt 0) 1 [(C.fn (Fn.func 142) [] [(W.c (C0.ptr b 0)),(W.c (C0.ptr m.nxt 0)),(W.c (C0.ptr g.nxt 0)),(W.c (C0.ptr d.nxt 0))])]=some j/\∃p,ldC j (.ptr d.nxt 0)=some p/\znQ prog tbl [.c (Il 0)] p j (fun q r=>∃s,q=.c (.bool s)/\Q (.tup []) r))):Wc prog tbl 141 [.c y,.c (.ptr b 0)] m Q:=zq5 (n:=2) rfl (by kernel_rfl) (by kernel_rfl) h
theorem zwy(at':Int)(br k bd cv:Nat){m:M}{Q:V->M->Prop}(h:(∃u,ldC m (.ptr br 0)=some u/\isSl u/\ifB (decide (at'=(slLen u:Int))) (∃z,ldC m (.ptr k 0)=some z/\∃A,ldC m (.ptr bd 0)=some A/\znQ prog tbl [.c A] z m (fun N O=>∃B,N=.c (.bool B)/\Q (.c (.bool B)) O)) (∃w,ldC m (.ptr br 0)=some w/\∃y:Nat,at'=((y:Nat):Int)/\y < (slLen w)/\∃D F,ldA m (zns w (y * 2)) 2=some [Il D,Il F]/\Wc prog tbl 105 [.agg 2 [Il D,Il F]] m (fun G I=>∃p,G=.c (Il p)/\∀g:List V->M->Prop,(∀q:Bool,∀a:Int,∀d:M,(ifB (decide (a < p)) (∃i,ldC d (.ptr bd 0)=some i/\∃e,ldC d (.ptr br 0)=some e/\∃f:Nat,at'=((f:Nat):Int)/\f < (slLen e)/\isPt (zns e (f * 2))/\∃j,ldC d (znr (zns e (f * 2)) 0)=some (Il j)/\znq .i64 (j+a)/\∃l:Nat,at'=((l:Nat):Int)/\l < (slLen i)/\∃o:M,stC d (zns i (l * 1)) 1 [(Il (j+a))]=some o/\∃r,ldC o (.ptr cv 0)=some r/\znq .i64 (at'+(1:Int))/\znQ prog tbl [.c (Il (at'+(1:Int)))] r o (fun J s=>∃t,J=.c (.bool t)/\ifB (!t) (Q (.c (.bool false)) s) (znq .i64 (a+1)/\g [.c (.bool q),(.c (Il (a+1)))] s))) (Q (.c (.bool true)) d))->g [.c (.bool q),(.c (Il a))] d)->g [.c (.bool false),(.c (Il 0))] I)))):Wc prog tbl 142 [.c (Il at'),.c (.ptr br 0),.c (.ptr k 0),.c (.ptr bd 0),.c (.ptr cv 0)] m Q:=zq5 (n:=5) rfl (by kernel_rfl) (by kernel_rfl) h
theorem zwz{n:Int}(h1:-1000000<=n)(h2:n<=1000000):znq .i64 n:=by simp only[znq]; omega
theorem zwA{r:Rg}(h:okR r):zt6 r=some (szR r):=by
 unfold okR at h;unfold zt6 gd;rw[if_pos (zwz (by omega) (by omega)),if_pos (zwz (by omega) (by omega))]; rfl
def hdP(bl N:Nat):C:=.sl bl 0 N 0 (some N)
def flP(br k bd cv:Nat):C:=.fn (.func 142) [] [.c (.ptr br 0),.c (.ptr k 0),.c (.ptr bd 0),.c (.ptr cv 0)]
theorem zwB{P:List Int}{p:Nat}(hp:p < P.length)(n:Int):(P.set p n).take (p+1)=P.take p++[n]:=by
 rw[List.take_add_one,List.getElem?_set_self hp,List.take_set_of_le (Nat.le_refl _)]; rfl
theorem zwC(L:List Int)(i:Nat)(v:Int):(zrx L).set i (.int .i64 v)=zrx (L.set i v):=by unfold zrx; rw[List.map_set]
theorem zwD(n:Nat):zaJ [C.int .i64 0] n=zrx (List.replicate n 0):=by rw[zeB]; simp[zrx]
theorem zwE{m:M}{b n:Nat}{vs:List C}(h:Bk m b n vs){k:Nat}(c:C)(hk:k < vs.length)(hn:vs.length=n):stC m (.ptr b (0+k * 1)) 1 [c]=some (m.set b (.cells n (vs.set k c) false)):=by
 rw[show 0+k * 1=k by omega]
 by_cases h1:n=1
 ·subst h1
  have hk0:k=0:=by omega
  subst hk0
  have:vs.set 0 c=[c]:=by
   match vs,hn with
   | [a],_=>rfl
  rw[this];exact zrp h.g [c]
 ·exact zrq h.g c hk hn h1
structure CkF (f:M) (l br k bd cv bl N:Nat) (cR:C) (S:Nat->Prop) (m:M) (P:List Int):Prop where
 sb:Sub f m
 rr:Bk m br 1 [cR]
 kk:Bk m k 1 [.fn (.yield l) [] []]
 dd:Bk m bd 1 [hdP bl N]
 cc:Bk m cv 1 [flP br k bd cv]
 ll:Bk m bl N (zrx P)
 ss:∀b',S b'->b' ≠ br/\b' ≠ k/\b' ≠ bd/\b' ≠ cv/\b' ≠ bl/\f.g b'=none/\f.vw b'=none
 ne:br ≠ bl/\k ≠ bl/\bd ≠ bl/\cv ≠ bl
variable {f:M} {l br k bd cv bl N:Nat} {cR:C}
theorem CkF.chg{S S':Nat->Prop}{m m':M}{P:List Int}(hz:∀b,f.nxt<=b->f.g b=none)(hv:∀b,f.nxt<=b->f.vw b=none)(h:CkF f l br k bd cv bl N cR S m P)(hc:Chg S m m')(ho:Own S m S'):CkF f l br k bd cv bl N cR S' m' P:=by
 have tr:∀{b' j:Nat} {vs:List C},Bk m b' j vs->¬ S b'->Bk m' b' j vs:=fun hb hS=>⟨(hc.g _ hb.lt hS).trans hb.g,Nat.lt_of_lt_of_le hb.lt hc.nxt⟩;refine⟨⟨Nat.le_trans h.sb.nxt hc.nxt,hc.vw.trans h.sb.vw,fun b' hb hd=>?_⟩,tr h.rr fun hs=>(h.ss _ hs).1 rfl,tr h.kk fun hs=>(h.ss _ hs).2.1 rfl,tr h.dd fun hs=>(h.ss _ hs).2.2.1 rfl,tr h.cc fun hs=>(h.ss _ hs).2.2.2.1 rfl,tr h.ll fun hs=>(h.ss _ hs).2.2.2.2.1 rfl,fun b' hb=>?_,h.ne⟩
 ·rw[hc.g b' (Nat.lt_of_lt_of_le hb h.sb.nxt) fun hs=>hd.elim (fun h1=>h1 (h.ss b' hs).2.2.2.2.2.1) fun h1=>h1 (h.ss b' hs).2.2.2.2.2.2];exact h.sb.g b' hb hd
 ·rcases ho b' hb with hs | hs
  ·exact h.ss b' hs
  ·have:=h.rr.lt; have:=h.kk.lt; have:=h.dd.lt; have:=h.cc.lt; have:=h.ll.lt; have:=h.sb.nxt;exact⟨by omega,by omega,by omega,by omega,by omega,hz b' (by omega),hv b' (by omega)⟩
theorem CkF.ext{S:Nat->Prop}{m m':M}{P:List Int}(hz:∀b,f.nxt<=b->f.g b=none)(hv:∀b,f.nxt<=b->f.vw b=none)(h:CkF f l br k bd cv bl N cR S m P)(x:Ext m m'):CkF f l br k bd cv bl N cR S m' P:=
 h.chg hz hv ⟨x.nxt,fun b' hb _=>x.g b' hb,x.vw⟩ fun _ hb=>.inl hb
theorem CkF.set{S:Nat->Prop}{m:M}{P:List Int}(h:CkF f l br k bd cv bl N cR S m P)(hb:f.g bl=none/\f.vw bl=none)(P':List Int):CkF f l br k bd cv bl N cR S (m.set bl (.cells N (zrx P') false)) P':=
 ⟨⟨h.sb.nxt,h.sb.vw,fun b' hb' hd=>by
  rw[M.g_set,if_neg fun he=>by subst he; exact hd.elim (fun q=>q hb.1) fun q=>q hb.2]
  exact h.sb.g b' hb' hd⟩,h.rr.setNe h.ne.1 _,h.kk.setNe h.ne.2.1 _,h.dd.setNe h.ne.2.2.1 _,h.cc.setNe h.ne.2.2.2 _,h.ll.set _,h.ss,h.ne⟩
theorem slP{m:M}{P:List Int}(h:Bk m bl N (zrx P))(hP:P.length=N):SlX m (fun b'=>b'=bl) (hdP bl N) P:=by
 refine⟨⟨zrx P,⟨by rw[zry]; exact Nat.mul_one _,.inr ⟨bl,0,0,some N,by rw[hP]; rfl,h.lt,fun _=>.inl ⟨N,zrx P,false,h.g,by rw[zry]; exact hP,by rw[zry]; omega,by rw[List.drop_zero,List.take_of_length_le (Nat.le_refl _)]⟩⟩⟩,(by first | exact zsv m _ | exact zsv _),.inr (.inl ⟨bl,0,0,N,by rw[hP]; rfl,by omega⟩)⟩,fun b o' n s d he=>by cases he; rfl⟩
theorem zwF{ranges:List Rg}{n0 n1:Nat}{all:List (List Int)}{I:Nat->(Nat->Prop)->M->Prop}{E:(Nat->Prop)->M->Prop}(hz:∀b,f.nxt<=b->f.g b=none)(hv:∀b,f.nxt<=b->f.vw b=none)(hR:Sl f cR ranges)(hN:ranges.length=N)(hN1:N<=100)(hok:∀r∈ranges,okR r)(hfb:f.g bl=none/\f.vw bl=none)
  (hn0:n0<=bl) (hn1:n1<=bl) (hcl:zsh prog tbl n0 l (VsW all n1) I E) :
  ∀(rs:List Rg) (p:Nat),ranges.drop p=rs->p<=N->∀(i:Nat) (S:Nat->Prop) (m:M) (P:List Int) (Q:V->M->Prop),CkF f l br k bd cv bl N cR S m P->P.length=N ->
   (∀j L,(chW rs (P.take p))[j]? = some L->all[i+j]? = some L)->I i S m ->
   (∀S' m' P',Own S m S'->Chg (fun b'=>S b'\/b'=bl) m m'->CkF f l br k bd cv bl N cR S' m' P'->P'.length=N->P'.take p=P.take p->I (i+(chW rs (P.take p)).length) S' m'->Q (.c (.bool true)) m') ->
   (∀S' m',Own S m S'->Chg (fun b'=>S b'\/b'=bl) m m'->E S' m'->Q (.c (.bool false)) m') ->
   Wc prog tbl 142 [.c (.int .i64 (p:Int)),.c (.ptr br 0),.c (.ptr k 0),.c (.ptr bd 0),.c (.ptr cv 0)] m Q:=by
 intro rs
 have ctr:∀{S S1:Nat->Prop} {m m1 m2:M},Chg (fun b=>S b\/b=bl) m m1->Chg (fun b=>S1 b\/b=bl) m1 m2->Own S m S1->Chg (fun b=>S b\/b=bl) m m2:=fun {S S1 m m1 m2} h1 h2 ho=>
  ⟨Nat.le_trans h1.nxt h2.nxt,fun b hb hS=>by
   rw[h2.g b (Nat.lt_of_lt_of_le hb h1.nxt) fun h=>h.elim (fun h3=>(ho b h3).elim (fun h4=>hS (.inl h4)) fun h4=>by omega) fun h3=>hS (.inr h3)]
   exact h1.g b hb hS,h2.vw.trans h1.vw⟩
 have otr:∀{S S1 S2:Nat->Prop} {m m1:M},Own S m S1->Own S1 m1 S2->m.nxt<=m1.nxt->Own S m S2:=fun h1 h2 hn b' hb=>(h2 b' hb).elim (h1 b') fun h=>.inr (by omega);have cor:∀{S:Nat->Prop} {m m':M},Chg S m m'->Chg (fun b=>S b\/b=bl) m m':=fun h=>⟨h.nxt,fun b hb hS=>h.g b hb fun h2=>hS (.inl h2),h.vw⟩
 induction rs with
 | nil=>
  intro p hp hpN i S m P Q hst hP hxs hI hT hFl
  have hpe:p=N:=by have:=congrArg List.length hp; rw[List.length_drop,List.length_nil] at this; omega
  subst hpe;refine zwy (p:Int) br k bd cv ⟨_,hst.rr.rc rfl,hR.isSl,?_⟩;rw[hR.slLen,zra];refine⟨fun _=>?_,fun h1=>absurd (by omega) h1⟩;have hx0:=hxs 0 (P.take p) rfl;rw[Nat.add_zero] at hx0;have hPp:P.take p=P:=List.take_of_length_le (by omega);rw[hPp] at hx0;have s0:=slP hst.ll hP;refine⟨_,hst.kk.rc rfl,_,hst.dd.rc rfl,?_⟩
  show Wy prog tbl l [.c (hdP bl p)] m _
  refine hcl.yield i _ S m ⟨P,fun b'=>b'=bl,hx0,⟨_,rfl,s0⟩,fun b' hb'=>by subst hb'; exact⟨hn1,fun hs=>(hst.ss _ hs).2.2.2.2.1 rfl,hst.ll.lt⟩⟩ hI _ (fun S' m' ho hch hI'=>⟨_,rfl,?_⟩) fun S' m' ho hch hE=>⟨_,rfl,hFl S' m' ho (cor hch) hE⟩;exact hT S' m' P ho (cor hch) (hst.chg hz hv hch ho) hP rfl hI'
 | cons r rs ih=>
  intro p hp hpN i S m P Q hst hP hxs hI hT hFl
  have hpl:p < ranges.length:=by
   have:=congrArg List.length hp;rw[List.length_drop,List.length_cons] at this; omega
  have hpN':p < N:=by omega
  have hd:=List.drop_eq_getElem_cons hpl;rw[hp] at hd
  have hr:ranges[p]? = some r:=by rw[List.getElem?_eq_getElem hpl,(List.cons.inj hd).1]
  have hdrop:ranges.drop (p+1)=rs:=(List.cons.inj hd).2.symm;have hrk:=hok r (List.mem_of_getElem? hr);have hrk':=hrk;unfold okR at hrk';obtain⟨_,hrd⟩:=zs3 hR hr;have hSl:=(hcl.li i).lt _ _ hI;refine zwy (p:Int) br k bd cv ⟨_,hst.rr.rc rfl,hR.isSl,?_⟩;rw[hR.slLen,zra];refine⟨fun h1=>by omega,fun _=>⟨_,hst.rr.rc rfl,p,rfl,by rw[hR.slLen]; exact hpl,_,_,(hrd m hst.sb).1,?_⟩⟩;refine zwi (r:=r) ⟨hst.sb,hz,hv⟩ (zwA hrk) fun m20 e20=>⟨_,rfl,fun R22 hstep=>?_⟩;have hst20:=hst.ext hz hv e20;have hI20:I i S m20:=(hcl.li i).st _ _ _ hI e20.nxt e20.vw (fun b' hb=>e20.g b' (hSl b' hb)) fun b' hb=>e20.g b' (by have:=hst.ll.lt; omega)
  let g:Nat->List (List Int):=fun n=>chW rs (P.take p++[r.Lo+(n:Int)])
  have hex:chW (r::rs) (P.take p)=zsE g (szR r).toNat 0:=rfl;rw[hex] at hxs hT
  have hgo:∀(d n:Nat) (b7:Bool) (m9:M) (S1:Nat->Prop) (P1:List Int) (i1:Nat),n+d=(szR r).toNat->Own S m20 S1->Chg (fun b'=>S b'\/b'=bl) m20 m9->CkF f l br k bd cv bl N cR S1 m9 P1->P1.length=N->P1.take p=P.take p->I i1 S1 m9 ->
    i1+(zsE g d n).length=i+(zsE g (szR r).toNat 0).length->(∀j L,(zsE g d n)[j]? = some L->all[i1+j]? = some L)->R22 [.c (.bool b7),.c (.int .i64 (n:Int))] m9:=by
   intro d
   induction d with
   | zero=>
    intro n b7 m9 S1 P1 i1 hen ho hch hst1 hP1 htk hI1 hlen hxs1;refine hstep _ _ _ ?_;rw[zra];refine⟨fun h1=>by omega,fun _=>hT S1 m9 P1 (fun b' hb'=>(ho b' hb').imp id fun h=>Nat.le_trans e20.nxt h) (ctr (S1:=S) (cor ⟨e20.nxt,fun b' hb' _=>e20.g b' hb',e20.vw⟩) hch fun b' hb'=>.inl hb') hst1 hP1 htk ?_⟩;have h9:i1+0=_:=hlen;rw[<- h9,Nat.add_zero]; exact hI1
   | succ d ihe=>
    intro n b7 m9 S1 P1 i1 hen ho hch hst1 hP1 htk hI1 hlen hxs1;have hns:szR r=r.Hi - r.Lo+1:=rfl;refine hstep _ _ _ ?_;rw[zra];refine⟨fun _=>?_,fun h1=>absurd (by omega) h1⟩
    have hp9:p < P1.length:=by omega
    refine⟨_,hst1.dd.rc rfl,_,hst1.rr.rc rfl,p,rfl,by rw[hR.slLen]; exact hpl,hR.isPt hr _,_,(hrd m9 hst1.sb).2.1 0 _ rfl,zwz (by omega) (by omega),p,rfl,(by show p < N; omega),_,zwE hst1.ll _ (by rw[zry]; exact hp9) (by rw[zry]; exact hP1),?_⟩;rw[zwC];have hst2:=hst1.set hfb (P1.set p (r.Lo+(n:Int)));have hch2:Chg (fun b'=>S1 b'\/b'=bl) m9 (m9.set bl (.cells N (zrx (P1.set p (r.Lo+(n:Int)))) false)):=⟨Nat.le_refl _,fun b' _ hS=>by rw[M.g_set,if_neg fun h1=>hS (.inr h1)],rfl⟩;have hI2:I i1 S1 (m9.set bl (.cells N (zrx (P1.set p (r.Lo+(n:Int)))) false)):=(hcl.li i1).st _ _ _ hI1 (Nat.le_refl _) rfl (fun b' hb=>by rw[M.g_set,if_neg (hst1.ss b' hb).2.2.2.2.1]) (fun b' hb=>by rw[M.g_set,if_neg (by omega)]);have hchm:=ctr hch hch2 ho;generalize m9.set bl (.cells N (zrx (P1.set p (r.Lo+(n:Int)))) false)=m13 at hst2 hch2 hI2 hchm
    have hP2:(P1.set p (r.Lo+(n:Int))).length=N:=by rw[List.length_set]; exact hP1
    have htk2:(P1.set p (r.Lo+(n:Int))).take (p+1)=P.take p++[r.Lo+(n:Int)]:=by rw[zwB hp9,htk]
    have htk3:(P1.set p (r.Lo+(n:Int))).take p=P.take p:=by rw[List.take_set_of_le (Nat.le_refl _),htk]
    generalize P1.set p (r.Lo+(n:Int))=P2 at hst2 htk2 htk3 hP2;have hge:zsE g (d+1) n=g n++zsE g d (n+1):=rfl
    have hg:g n=chW rs (P2.take (p+1)):=by rw[htk2]
    rw[hge,hg] at hlen hxs1;rw[List.length_append] at hlen;refine⟨_,hst2.cc.rc rfl,zwz (by omega) (by omega),?_⟩
    show Wc prog tbl 142 [.c (.int .i64 ((p+1:Nat):Int)),.c (.ptr br 0),.c (.ptr k 0),.c (.ptr bd 0),.c (.ptr cv 0)] m13 _
    refine ih (p+1) hdrop (by omega) i1 S1 m13 P2 _ hst2 hP2 (fun j H hj=>hxs1 j H (by rw[List.getElem?_append_left (List.getElem?_eq_some_iff.1 hj).1]; exact hj)) hI2 (fun S' m' P' ho' hch' hst' hP' htk' hI'=>⟨_,rfl,?_⟩) fun S' m' ho' hch' hE=>⟨_,rfl,?_⟩
    ·have htk4:P'.take p=P.take p:=by
      have h1:=congrArg (List.take p) htk';rw[List.take_take,List.take_take,Nat.min_eq_left (by omega)] at h1;rw[h1,htk3]
     refine zsc ⟨zwz (by omega) (by omega),ihe (n+1) b7 m' S' P' _ (by omega) (otr ho ho' hchm.nxt) (ctr hchm hch' ho) hst' hP' htk4 hI' (by omega) fun j H hj=>?_⟩;rw[Nat.add_assoc];exact hxs1 _ H (by rw[List.getElem?_append_right (by omega),Nat.add_sub_cancel_left]; exact hj)
    ·refine zsd ?_;exact hFl S' m' (fun b' hb'=>(otr ho ho' hchm.nxt b' hb').imp id fun h=>Nat.le_trans e20.nxt h) (ctr (S1:=S) (cor ⟨e20.nxt,fun b' hb' _=>e20.g b' hb',e20.vw⟩) (ctr hchm hch' ho) fun b' hb'=>.inl hb') hE
  exact hgo (szR r).toNat 0 false m20 S P i (by omega) (fun b' hb'=>.inl hb') ⟨Nat.le_refl _,fun _ _ _=>rfl,rfl⟩ hst20 hP rfl hI20 rfl hxs
end
end Go.Proofs.YtlkgdadfbfafcaaGreat

namespace Go.Proofs.YtlkgdadfbfafcaaGreat
open _root_.Go.Proofs.Tryz
open Go.Abs
set_option maxRecDepth 100000
noncomputable section
theorem zwG{rs:List Rg}{cR:C}{f:M}{b:Nat}(hR0:Sl f cR rs)(hb:Bk f b 1 [cR])(hN1:rs.length<=100)(hok:∀r∈rs,okR r)
    (n0 l:Nat) (I:Nat->(Nat->Prop)->M->Prop) (E:(Nat->Prop)->M->Prop) (S:Nat->Prop) (m:M) (hc:zsh prog tbl n0 l (VsW (chW rs []) m.nxt) I E) (_hn:n0<=m.nxt) (hI:I 0 S m) (hS:Pre f m) (hSf:∀b,S b->f.g b=none/\f.vw b=none) (Q:V->M->Prop)
    (hQ:∀v S' m',Own S m S'->Chg S m m'->I (chW rs []).length S' m'\/E S' m'->Q v m'):Wc prog tbl 141 [.c (.fn (.yield l) [] []),.c (.ptr b 0)] m Q:=by
 have hSl:=(hc.li 0).lt _ _ hI;refine zwx _ b fun a w=>?_;obtain⟨O,p⟩:=Bk.new w
 have q0:a.nxt=m.nxt+1:=by rw[w]; rfl
 have y:Sub f a:=⟨Nat.le_trans hS.sub.nxt p.nxt,p.vw.trans hS.sub.vw,fun b' hb' hd=>(p.g b' (Nat.lt_of_lt_of_le hb' hS.sub.nxt)).trans (hS.sub.g b' hb' hd)⟩;refine⟨_,(hb.sub y).rc rfl,hR0.isSl,rs.length,rs.length,by rw[hR0.slLen],by rw[hR0.slLen],Nat.le_refl _,by omega,fun d s n e5=>?_⟩;rw[zwD,Nat.mul_one] at s;obtain⟨P,T⟩:=Bk.new s;obtain⟨z,A⟩:=Bk.new e5
 have q4:d.nxt=m.nxt+2:=by rw[s]; show a.nxt+1=_; omega
 have Y:n.nxt=m.nxt+3:=by rw[e5]; show d.nxt+1=_; omega
 refine⟨n.set d.nxt (.cells 1 [hdP a.nxt rs.length] false),z.st _,fun o t=>?_⟩;have B:=z.set [hdP a.nxt rs.length];have D:=(P.ext A).setNe (c:=d.nxt) (by omega) (.cells 1 [hdP a.nxt rs.length] false);have F:Ext a (n.set d.nxt (.cells 1 [hdP a.nxt rs.length] false)):=(T.trans A).setR (by omega) _;have Z:(n.set d.nxt (.cells 1 [hdP a.nxt rs.length] false)).nxt=m.nxt+3:=Y;generalize n.set d.nxt (.cells 1 [hdP a.nxt rs.length] false)=e at B D F Z t ⊢;obtain⟨G,x7⟩:=Bk.new t
 have q7:o.nxt=m.nxt+4:=by rw[t]; show e.nxt+1=_; omega
 refine⟨o.set e.nxt (.cells 1 [flP b m.nxt d.nxt e.nxt] false),G.st _,?_⟩;have u:=G.set [flP b m.nxt d.nxt e.nxt];have q:Ext e (o.set e.nxt (.cells 1 [flP b m.nxt d.nxt e.nxt] false)):=x7.setR (Nat.le_refl _) _;have q8:(o.set e.nxt (.cells 1 [flP b m.nxt d.nxt e.nxt] false)).nxt=m.nxt+4:=q7;generalize o.set e.nxt (.cells 1 [flP b m.nxt d.nxt e.nxt] false)=i at u q q8 ⊢;refine⟨_,u.rc rfl,?_⟩
 show Wc prog tbl 142 [.c (Il ((0:Nat):Int)),.c (.ptr b 0),.c (.ptr m.nxt 0),.c (.ptr d.nxt 0),.c (.ptr e.nxt 0)] i _
 have J:=F.trans q;have ym:=p.trans J;have subx:Sub f i:=⟨Nat.le_trans hS.sub.nxt ym.nxt,ym.vw.trans hS.sub.vw,fun b' hb' hd=>(ym.g b' (Nat.lt_of_lt_of_le hb' hS.sub.nxt)).trans (hS.sub.g b' hb' hd)⟩;have hff:=hS.sub.nxt;have hbf:=hb.lt
 have hbg:f.g b ≠ none:=by rw[hb.g]; exact Option.some_ne_none _
 have hst:CkF f l b m.nxt d.nxt e.nxt a.nxt rs.length cR S i (List.replicate rs.length 0):=
  ⟨subx,hb.sub subx,O.ext J,B.ext q,u,D.ext q,fun b' hb'=>by
   have h1:=hSl b' hb'
   exact⟨fun he=>hbg (he ▸ (hSf b' hb').1),by omega,by omega,by omega,by omega,hSf b' hb'⟩,by omega,by omega,by omega,by omega⟩
 have N:I 0 S i:=(hc.li 0).st _ _ _ hI ym.nxt ym.vw (fun b' hb'=>ym.g b' (hSl b' hb')) fun b' hb'=>ym.g b' (by omega)
 have fin:∀{m':M},Chg (fun b'=>S b'\/b'=a.nxt) i m'->Chg S m m':=fun {m'} h=>⟨Nat.le_trans ym.nxt h.nxt,fun b' hb' hs=>by
  rw[h.g b' (by have:=ym.nxt; omega) fun hY=>hY.elim hs fun h9=>by omega]
  exact ym.g b' hb',h.vw.trans ym.vw⟩
 have hfb:f.g a.nxt=none/\f.vw a.nxt=none:=⟨hS.fz _ (by omega),hS.fv _ (by omega)⟩;refine zwF hS.fz hS.fv hR0 rfl hN1 hok hfb (n0:=n0) (n1:=m.nxt) (by omega) (by omega) hc rs 0 List.drop_zero (Nat.zero_le _) 0 S i (List.replicate rs.length 0) _ hst (by rw[List.length_replicate]) (fun j L hj=>?_) N (fun S' m' P' ho hch hst' hP' htk hI'=>⟨_,rfl,?_⟩) fun S' m' ho hch hE=>⟨_,rfl,?_⟩
 ·rw[Nat.zero_add]; exact hj
 ·rw[Nat.zero_add] at hI';exact hQ _ S' m' (fun b' hb'=>(ho b' hb').imp id fun h=>Nat.le_trans ym.nxt h) (fin hch) (.inl hI')
 ·exact hQ _ S' m' (fun b' hb'=>(ho b' hb').imp id fun h=>Nat.le_trans ym.nxt h) (fin hch) (.inr hE)
theorem zwH{l:List Rg}{ca100:C}{m f:M}{Q:V->M->Prop}{rz:List (List Int)}(hS:Pre f m)(ha100:Sl f ca100 l)(hp:zun l=some rz)(hq:∀m' f' c0,Grw m f m' f'->ItW prog tbl f' c0 rz->Q (.c c0) m'):Wc prog tbl 115 [.c ca100] m Q:=by
 have e:=hS.st;obtain⟨g,_⟩:=zs1;refine zvn ?_;unfold zun at hp;intro r h;obtain⟨s,i,t,j⟩:=e.blk h g 1;obtain⟨d,a,n,hb⟩:=j.freeze i;obtain⟨⟨o,p⟩,hp⟩:=zrL hp;obtain rfl:=oi hp
 have hI:ItW prog tbl d (C.fn (Fn.func 141) [] [(W.c (C0.ptr m.nxt 0))]) (chW l []):=
  zsu a.fz a.fv fun q ly I E S m' hc hn hI hP hSf Q hQ=>zwG (ha100.sub n.fs) hb o p q ly I E S m' hc hn hI hP hSf Q hQ
 exact hq _ d _ a.grw hI
theorem zwI(y:C)(b b2:Nat){m:M}{Q:V->M->Prop}(h:(∀e:M,(e=M.new m (AO.cells 1 [y] false))->∃g,ldC e (.ptr b 0)=some (Il g)/\∃i:Nat,∃a:Nat,g=((i:Nat):Int)/\g=((a:Nat):Int)/\i<=a/\a<=4096/\∀f:M,(f=M.new e (AO.cells (a * 1) (zaJ [Il 0] a) false))->∀l:M,(l=M.new f (AO.cells 1 [C.sl0] false))->∃d:M,stC l (.ptr f.nxt 0) 1 [.sl e.nxt 0 i 0 (some a)]=some d/\∀o:M,(o=M.new d (AO.cells 1 [C.nilFn] false))->∃j:M,stC o (.ptr d.nxt 0) 1 [(C.fn (Fn.func 144) [] [(W.c (C0.ptr b 0)),(W.c (C0.ptr m.nxt 0)),(W.c (C0.ptr f.nxt 0)),(W.c (C0.ptr b2 0)),(W.c (C0.ptr d.nxt 0))])]=some j/\∃p,ldC j (.ptr d.nxt 0)=some p/\znQ prog tbl [.c (Il 0),(.c (Il 0))] p j (fun q r=>∃s,q=.c (.bool s)/\Q (.tup []) r))):Wc prog tbl 143 [.c y,.c (.ptr b 0),.c (.ptr b2 0)] m Q:=zq5 (n:=3) rfl (by kernel_rfl) (by kernel_rfl) h
theorem zwJ(at' from':Int)(b k h2 b2 cv:Nat){m:M}{Q:V->M->Prop}(h:(∃q,ldC m (.ptr b 0)=some (Il q)/\ifB (decide (at'=q)) (∃r,ldC m (.ptr k 0)=some r/\∃s,ldC m (.ptr h2 0)=some s/\znQ prog tbl [.c s] r m (fun y z=>∃t,y=.c (.bool t)/\Q (.c (.bool t)) z)) (∀p:List V->M->Prop,(∀u:Bool,∀a:Int,∀d:M,(∃i,ldC d (.ptr b2 0)=some (Il i)/\ifB (decide (a < i)) (∃e,ldC d (.ptr h2 0)=some e/\∃f:Nat,at'=((f:Nat):Int)/\f < (slLen e)/\∃g:M,stC d (zns e (f * 1)) 1 [Il a]=some g/\∃j,ldC g (.ptr cv 0)=some j/\znq .i64 (at'+(1:Int))/\znq .i64 (a+1)/\znQ prog tbl [.c (Il (at'+(1:Int))),(.c (Il (a+1)))] j g (fun w l=>∃o,w=.c (.bool o)/\ifB (!o) (Q (.c (.bool false)) l) (znq .i64 (a+1)/\p [.c (.bool u),(.c (Il (a+1)))] l))) (Q (.c (.bool true)) d))->p [.c (.bool u),(.c (Il a))] d)->p [.c (.bool false),(.c (Il from'))] m))):Wc prog tbl 144 [.c (Il at'),.c (Il from'),.c (.ptr b 0),.c (.ptr k 0),.c (.ptr h2 0),.c (.ptr b2 0),.c (.ptr cv 0)] m Q:=zq5 (n:=7) rfl (by kernel_rfl) (by kernel_rfl) h
theorem t22:tk prog 26=.sl 3:=by kernel_rfl
theorem g3:zcw prog 3=true:=by kernel_rfl
theorem z3:prog.cellsOf 3=1:=by kernel_rfl
theorem zwK{P:List Int}{p:Nat}(hp:p < P.length)(n:Int):(P.set p n).take (p+1)=P.take p++[n]:=by
 rw[List.take_add_one,List.getElem?_set_self hp,List.take_set_of_le (Nat.le_refl _)]; rfl
theorem _root_.Go.Abs.Chg.trans{S S1:Nat->Prop}{T:Nat->Prop}{m m1 m2:M}(h1:Chg (fun b=>S b\/T b) m m1)(h2:Chg (fun b=>S1 b\/T b) m1 m2)(ho:Own S m S1):Chg (fun b=>S b\/T b) m m2:=
 ⟨Nat.le_trans h1.nxt h2.nxt,fun b hb hS=>by
  rw[h2.g b (Nat.lt_of_lt_of_le hb h1.nxt) fun h=>h.elim (fun h3=>(ho b h3).elim (fun h4=>hS (.inl h4)) fun h4=>by omega) fun h3=>hS (.inr h3)]
  exact h1.g b hb hS,h2.vw.trans h1.vw⟩
theorem _root_.Go.Abs.Own.refl(S:Nat->Prop)(m:M):Own S m S:=fun _ hb=>.inl hb
theorem _root_.Go.Abs.Own.trans{S S1 S2:Nat->Prop}{m m1:M}(h1:Own S m S1)(h2:Own S1 m1 S2)(hn:m.nxt<=m1.nxt):Own S m S2:=fun b hb=>(h2 b hb).elim (h1 b) fun h=>.inr (by omega)
theorem _root_.Go.Abs.Chg.or{S T:Nat->Prop}{m m':M}(h:Chg S m m'):Chg (fun b=>S b\/T b) m m':=⟨h.nxt,fun b hb hS=>h.g b hb fun h2=>hS (.inl h2),h.vw⟩
theorem zwL(L:List Int)(i:Nat)(v:Int):(zrx L).set i (.int .i64 v)=zrx (L.set i v):=by unfold zrx; rw[List.map_set]
theorem zwM{n:Int}(h1:-1000000<=n)(h2:n<=1000000):znq .i64 n:=by simp only[znq]; omega
theorem zwN{α:Type}(g:Nat->List α)(a:α):∀(e n:Nat),a∈zsE g e n↔∃j,n<=j/\j < n+e/\a∈g j
 | 0,n=>⟨fun h=>(by cases h),fun⟨j,h1,h2,_⟩=>by omega⟩
 | e+1,n=>by
  show a∈g n++zsE g e (n+1)↔_
  rw[List.mem_append,zwN g a e (n+1)]
  constructor
  ·rintro (h | ⟨j,h1,h2,h3⟩)
   ·exact⟨n,Nat.le_refl _,by omega,h⟩
   ·exact⟨j,by omega,by omega,h3⟩
  ·rintro⟨j,h1,h2,h3⟩
   by_cases hj:j=n
   ·subst hj; exact .inl h3
   ·exact .inr ⟨j,by omega,by omega,h3⟩
def hdr(bl size:Nat):C:=.sl bl 0 size 0 (some size)
def flC(b k h2 b2 cv:Nat):C:=.fn (.func 144) [] [.c (.ptr b 0),.c (.ptr k 0),.c (.ptr h2 0),.c (.ptr b2 0),.c (.ptr cv 0)]
def VsL(all:List (List Int))(n1 i:Nat)(x:List V)(m:M):Prop:=∃L c,all[i]? = some L/\x=[.c c]/\Li m c L/\(znt c=false/\zrD c 1 L.length)/\∀b o n s d,c=.sl b o n s d->n1<=b
theorem _root_.Go.Abs.Bk.st1n{m:M}{b n:Nat}{vs:List C}(h:Bk m b n vs){k:Nat}(c:C)(hk:k < vs.length)(hn:vs.length=n):stC m (.ptr b (0+k * 1)) 1 [c]=some (m.set b (.cells n (vs.set k c) false)):=by
 rw[show 0+k * 1=k by omega]
 by_cases h1:n=1
 ·subst h1
  have hk0:k=0:=by omega
  subst hk0
  have:vs.set 0 c=[c]:=by
   match vs,hn with
   | [a],_=>rfl
  rw[this];exact zrp h.g [c]
 ·exact zrq h.g c hk hn h1
theorem zwO(n:Nat):zaJ [C.int .i64 0] n=zrx (List.replicate n 0):=by rw[zeB]; simp[zrx]
structure SlF (n size b b2 l k h2 bl cv:Nat) (S:Nat->Prop) (m:M) (P:List Int):Prop where
 bb:Bk m b 1 [.int .i64 (size:Int)]
 nn:Bk m b2 1 [.int .i64 (n:Int)]
 kk:Bk m k 1 [.fn (.yield l) [] []]
 hh:Bk m h2 1 [hdr bl size]
 ll:Bk m bl size (zrx P)
 cc:Bk m cv 1 [flC b k h2 b2 cv]
 ss:∀b',S b'->b' ≠ b/\b' ≠ b2/\b' ≠ k/\b' ≠ h2/\b' ≠ bl/\b' ≠ cv
 ne:b ≠ bl/\b2 ≠ bl/\k ≠ bl/\h2 ≠ bl/\cv ≠ bl
variable {n size b b2 l k h2 bl cv:Nat}
theorem SlF.to{S S':Nat->Prop}{m m':M}{P:List Int}(h:SlF n size b b2 l k h2 bl cv S m P)(hn:Chg S m m')(ho:Own S m S'):SlF n size b b2 l k h2 bl cv S' m' P:=by
 have tr:∀{b' j:Nat} {vs:List C},Bk m b' j vs->¬ S b'->Bk m' b' j vs:=fun hb hS=>⟨(hn.g _ hb.lt hS).trans hb.g,Nat.lt_of_lt_of_le hb.lt hn.nxt⟩;refine⟨tr h.bb fun h1=>(h.ss _ h1).1 rfl,tr h.nn fun h1=>(h.ss _ h1).2.1 rfl,tr h.kk fun h1=>(h.ss _ h1).2.2.1 rfl,tr h.hh fun h1=>(h.ss _ h1).2.2.2.1 rfl,tr h.ll fun h1=>(h.ss _ h1).2.2.2.2.1 rfl,tr h.cc fun h1=>(h.ss _ h1).2.2.2.2.2 rfl,fun b' hb=>?_,h.ne⟩
 rcases ho b' hb with h1 | h1
 ·exact h.ss b' h1
 ·have:=h.bb.lt; have:=h.nn.lt; have:=h.kk.lt; have:=h.hh.lt; have:=h.ll.lt; have:=h.cc.lt
  omega
theorem SlF.set{S:Nat->Prop}{m:M}{P:List Int}(h:SlF n size b b2 l k h2 bl cv S m P)(P':List Int):SlF n size b b2 l k h2 bl cv S (m.set bl (.cells size (zrx P') false)) P':=
 ⟨h.bb.setNe h.ne.1 _,h.nn.setNe h.ne.2.1 _,h.kk.setNe h.ne.2.2.1 _,h.hh.setNe h.ne.2.2.2.1 _,h.ll.set _,h.cc.setNe h.ne.2.2.2.2 _,h.ss,h.ne⟩
theorem SlF.li{S:Nat->Prop}{m:M}{P:List Int}(h:SlF n size b b2 l k h2 bl cv S m P)(hP:P.length=size):Li m (hdr bl size) P:=by
 refine⟨by rw[zry]; omega,.inr ⟨bl,0,0,some size,by rw[hP]; rfl,h.ll.lt,fun _=>.inl ⟨size,zrx P,false,h.ll.g,by rw[zry]; exact hP,by rw[zry]; omega,by rw[List.drop_zero,List.take_length]⟩⟩⟩
theorem zwP{n0 n1:Nat}(hn:n<=1000)(hsz:size<=1000)(hn0:n0<=bl)(hn1:n1<=bl){all:List (List Int)}{I:Nat->(Nat->Prop)->M->Prop}{E:(Nat->Prop)->M->Prop}(hcl:zse prog tbl n0 l (VsL all n1) I E) :
  ∀(d p:Nat),d+p=size->∀(i fr:Nat) (S:Nat->Prop) (m:M) (P:List Int) (Q:V->M->Prop),SlF n size b b2 l k h2 bl cv S m P->P.length=size ->
   (∀j L,(zsF n d (P.take p) fr)[j]? = some L->all[i+j]? = some L)->I i S m ->
   (∀S' m' P',Own S m S'->Chg (fun b'=>S b'\/b'=bl) m m'->SlF n size b b2 l k h2 bl cv S' m' P'->P'.length=size->P'.take p=P.take p->I (i+(zsF n d (P.take p) fr).length) S' m'->Q (.c (.bool true)) m') ->
   (∀S' m',Own S m S'->Chg (fun b'=>S b'\/b'=bl) m m'->E S' m'->Q (.c (.bool false)) m') ->
   Wc prog tbl 144 [.c (.int .i64 (p:Int)),.c (.int .i64 (fr:Int)),.c (.ptr b 0),.c (.ptr k 0),.c (.ptr h2 0),.c (.ptr b2 0),.c (.ptr cv 0)] m Q:=by
 intro d
 induction d with
 | zero=>
  intro p hp i fr S m P Q hst hP hxs hI hT hF;refine zwJ (p:Int) (fr:Int) b k h2 b2 cv ⟨_,hst.bb.rc rfl,?_⟩;rw[zra];refine⟨fun _=>⟨_,hst.kk.rc rfl,_,hst.hh.rc rfl,?_⟩,fun h1=>absurd (by omega) h1⟩;have hx0:=hxs 0 (P.take p) rfl;rw[List.take_of_length_le (by omega),Nat.add_zero] at hx0
  show Wy prog tbl l [.c (hdr bl size)] m _
  refine hcl.yield i _ S m ⟨P,hdr bl size,hx0,rfl,hst.li hP,⟨rfl,.inr (.inl ⟨bl,0,0,size,by rw[hP]; rfl,by omega⟩)⟩,fun b' o n' s d h=>by cases h; exact hn1⟩ hI _ (fun S' m' ho hch hI'=>⟨_,rfl,?_⟩) fun S' m' ho hch hE=>⟨_,rfl,hF S' m' ho (Chg.or hch) hE⟩;exact hT S' m' P ho (Chg.or hch) (hst.to hch ho) hP rfl hI'
 | succ d ih=>
  intro p hp i fr S m P Q hst hP hxs hI hT hF;refine zwJ (p:Int) (fr:Int) b k h2 b2 cv ⟨_,hst.bb.rc rfl,?_⟩;rw[zra];refine⟨fun h1=>by omega,fun _ R6 hstep=>?_⟩
  let g:Nat->List (List Int):=fun x=>zsF n d (P.take p++[(x:Int)]) (x+1)
  have hex:zsF n (d+1) (P.take p) fr=zsE g (n - fr) fr:=rfl;rw[hex] at hxs hT
  have hgo:∀(e x:Nat) (b7:Bool) (m9:M) (S1:Nat->Prop) (P1:List Int) (i1:Nat),n - x=e->Own S m S1->Chg (fun b'=>S b'\/b'=bl) m m9->SlF n size b b2 l k h2 bl cv S1 m9 P1->P1.length=size->P1.take p=P.take p->I i1 S1 m9 ->
    i1+(zsE g e x).length=i+(zsE g (n - fr) fr).length->(∀j L,(zsE g e x)[j]? = some L->all[i1+j]? = some L)->R6 [.c (.bool b7),.c (.int .i64 (x:Int))] m9:=by
   intro e
   induction e with
   | zero=>
    intro x b7 m9 S1 P1 i1 hen ho hch hst1 hP1 htk hI1 hlen hxs1;refine hstep _ _ _ ⟨_,hst1.nn.rc rfl,?_⟩;rw[zra];refine⟨fun h1=>by omega,fun _=>hT S1 m9 P1 ho hch hst1 hP1 htk ?_⟩;have:i1+0=_:=hlen;rw[<- this,Nat.add_zero]; exact hI1
   | succ e ihe=>
    intro x b7 m9 S1 P1 i1 hen ho hch hst1 hP1 htk hI1 hlen hxs1;refine hstep _ _ _ ⟨_,hst1.nn.rc rfl,?_⟩;rw[zra];refine⟨fun _=>?_,fun h1=>absurd (by omega) h1⟩
    have hp9:p < P1.length:=by omega
    refine⟨_,hst1.hh.rc rfl,p,rfl,(by show p < size; omega),_,hst1.ll.st1n _ (by rw[zry]; exact hp9) (by rw[zry]; exact hP1),?_⟩;rw[zwL];have hst2:=hst1.set (P1.set p (x:Int));have hch2:Chg (fun b'=>S1 b'\/b'=bl) m9 (m9.set bl (.cells size (zrx (P1.set p (x:Int))) false)):=⟨Nat.le_refl _,fun b' _ hS=>by rw[M.g_set,if_neg fun h1=>hS (.inr h1)],rfl⟩;have hI2:I i1 S1 (m9.set bl (.cells size (zrx (P1.set p (x:Int))) false)):=(hcl.li i1).st _ _ _ hI1 (Nat.le_refl _) rfl (fun b' hb=>by rw[M.g_set,if_neg (hst1.ss b' hb).2.2.2.2.1]) (fun b' hb=>by rw[M.g_set,if_neg (by omega)]);have hchm:=Chg.trans (T:=fun b'=>b'=bl) hch hch2 ho;generalize m9.set bl (.cells size (zrx (P1.set p (x:Int))) false)=m13 at hst2 hch2 hI2 hchm
    have hP2:(P1.set p (x:Int)).length=size:=by rw[List.length_set]; exact hP1
    have htk2:(P1.set p (x:Int)).take (p+1)=P.take p++[(x:Int)]:=by rw[zwK hp9,htk]
    have htk3:(P1.set p (x:Int)).take p=P.take p:=by rw[List.take_set_of_le (Nat.le_refl _),htk]
    generalize P1.set p (x:Int)=P2 at hst2 htk2 htk3 hP2;have hge:zsE g (e+1) x=g x++zsE g e (x+1):=rfl
    have hg:g x=zsF n d (P2.take (p+1)) (x+1):=by rw[htk2]
    rw[hge,hg] at hlen hxs1;rw[List.length_append] at hlen;refine⟨_,hst2.cc.rc rfl,zwM (by omega) (by omega),zwM (by omega) (by omega),?_⟩
    show Wc prog tbl 144 [.c (.int .i64 ((p+1:Nat):Int)),.c (.int .i64 ((x+1:Nat):Int)),.c (.ptr b 0),.c (.ptr k 0),.c (.ptr h2 0),.c (.ptr b2 0),.c (.ptr cv 0)] m13 _
    refine ih (p+1) (by omega) i1 (x+1) S1 m13 P2 _ hst2 hP2 (fun j H hj=>hxs1 j H (by rw[List.getElem?_append_left (List.getElem?_eq_some_iff.1 hj).1]; exact hj)) hI2 (fun S' m' P' ho' hch' hst' hP' htk' hI'=>⟨_,rfl,?_⟩) fun S' m' ho' hch' hE=>⟨_,rfl,?_⟩
    ·have htk4:P'.take p=P.take p:=by
      have h1:=congrArg (List.take p) htk';rw[List.take_take,List.take_take,Nat.min_eq_left (by omega)] at h1;rw[h1,htk3]
     refine⟨zwM (by omega) (by omega),ihe (x+1) b7 m' S' P' _ (by omega) (Own.trans ho ho' hchm.nxt) (Chg.trans (T:=fun b'=>b'=bl) hchm hch' ho) hst' hP' htk4 hI' (by omega) fun j H hj=>?_⟩;rw[Nat.add_assoc];exact hxs1 _ H (by rw[List.getElem?_append_right (by omega),Nat.add_sub_cancel_left]; exact hj)
    ·exact hF S' m' (Own.trans ho ho' hchm.nxt) (Chg.trans (T:=fun b'=>b'=bl) hchm hch' ho) hE
  exact hgo (n - fr) fr false m S P i rfl (Own.refl S m) ⟨Nat.le_refl _,fun _ _ _=>rfl,rfl⟩ hst hP rfl hI rfl hxs
theorem zwQ(hn:n<=1000)(hsz:size<=1000):zsf prog tbl (.fn (.func 143) [] [.c (.ptr b 0),.c (.ptr b2 0)]) (zsF n size [] 0).length (VsL (zsF n size [] 0)) (fun b'=>b'=b\/b'=b2) (fun m=>Bk m b 1 [.int .i64 (size:Int)]/\Bk m b2 1 [.int .i64 (n:Int)]):=by
 refine⟨fun m m' h hn' hv hg=>⟨⟨(hg b (.inl rfl)).trans h.1.g,Nat.lt_of_lt_of_le h.1.lt hn'⟩,⟨(hg b2 (.inr rfl)).trans h.2.g,Nat.lt_of_lt_of_le h.2.lt hn'⟩⟩,fun m h b' hb=>hb.elim (fun h1=>h1 ▸ h.1.lt) fun h1=>h1 ▸ h.2.lt,fun n0' l I E S m hcl hn0' hI hR hSD Q hQ=>?_⟩;have hSlt:=(hcl.li 0).lt _ _ hI;have hb:=hR.1.lt;have hb2:=hR.2.lt
 show Wc prog tbl 143 [.c (.fn (.yield l) [] []),.c (.ptr b 0),.c (.ptr b2 0)] m Q
 refine zwI _ b b2 fun m0 e0=>?_;obtain⟨b0,x0⟩:=Bk.new e0;refine⟨_,(hR.1.ext x0).rc rfl,size,size,rfl,rfl,Nat.le_refl _,by omega,fun m4 e4 m5 e5=>?_⟩;rw[zwO,Nat.mul_one] at e4;obtain⟨b4,x4⟩:=Bk.new e4;obtain⟨b5,x5⟩:=Bk.new e5
 have n0:m0.nxt=m.nxt+1:=by rw[e0]; rfl
 have n4:m4.nxt=m.nxt+2:=by rw[e4]; show m0.nxt+1=_; omega
 have n5:m5.nxt=m.nxt+3:=by rw[e5]; show m4.nxt+1=_; omega
 refine⟨_,b5.st _,fun m7 e7=>?_⟩;have k6:=b5.set [C.sl m0.nxt 0 size 0 (some size)];have x6:Ext m (m5.set m4.nxt (.cells 1 [C.sl m0.nxt 0 size 0 (some size)] false)):=((x0.trans x4).trans x5).setR (by omega) _;have k0:Bk (m5.set m4.nxt (.cells 1 [C.sl m0.nxt 0 size 0 (some size)] false)) m.nxt 1 [.fn (.yield l) [] []]:=((b0.ext x4).ext x5).setNe (by omega) _;have k4:Bk (m5.set m4.nxt (.cells 1 [C.sl m0.nxt 0 size 0 (some size)] false)) m0.nxt size (zrx (List.replicate size 0)):=(b4.ext x5).setNe (by omega) _;have n6:(m5.set m4.nxt (.cells 1 [C.sl m0.nxt 0 size 0 (some size)] false)).nxt=m.nxt+3:=n5;have e7':m7=(m5.set m4.nxt (.cells 1 [C.sl m0.nxt 0 size 0 (some size)] false)).new (.cells 1 [.nilFn] false):=e7
 clear e7
 generalize m5.set m4.nxt (.cells 1 [C.sl m0.nxt 0 size 0 (some size)] false)=m6 at k6 x6 k0 k4 n6 e7' ⊢;obtain⟨b7,x7⟩:=Bk.new e7'
 have n7:m7.nxt=m.nxt+4:=by rw[e7']; show m6.nxt+1=_; omega
 refine⟨_,b7.st _,_,(b7.set _).rc rfl,?_⟩;have k8:=b7.set [flC b m.nxt m4.nxt b2 m6.nxt];have x8:Ext m (m7.set m6.nxt (.cells 1 [flC b m.nxt m4.nxt b2 m6.nxt] false)):=(x6.trans x7).setR (by omega) _;have j0:=(k0.ext x7).setNe (c:=m6.nxt) (by omega) (.cells 1 [flC b m.nxt m4.nxt b2 m6.nxt] false);have j4:=(k4.ext x7).setNe (c:=m6.nxt) (by omega) (.cells 1 [flC b m.nxt m4.nxt b2 m6.nxt] false);have j6:=(k6.ext x7).setNe (c:=m6.nxt) (by omega) (.cells 1 [flC b m.nxt m4.nxt b2 m6.nxt] false)
 show znQ prog tbl _ (flC b m.nxt m4.nxt b2 m6.nxt) (m7.set m6.nxt (.cells 1 [flC b m.nxt m4.nxt b2 m6.nxt] false)) _
 generalize m7.set m6.nxt (.cells 1 [flC b m.nxt m4.nxt b2 m6.nxt] false)=m8 at k8 x8 j0 j4 j6;have hI8:I 0 S m8:=(hcl.li 0).st _ _ _ hI x8.nxt x8.vw (fun b' hb=>x8.g b' (hSlt b' hb)) (fun b' hb=>x8.g b' (by omega))
 have hSl:SlF n size b b2 l m.nxt m4.nxt m0.nxt m6.nxt S m8 (List.replicate size 0):=⟨hR.1.ext x8,hR.2.ext x8,j0,j6,j4,k8,fun b' hb'=>by
  have h1:=hSlt b' hb';have h2:=hSD b' hb'
  exact⟨fun h=>h2 (.inl h),fun h=>h2 (.inr h),by omega,by omega,by omega,by omega⟩,by omega⟩
 have hchg:∀{m':M},Chg (fun b'=>S b'\/b'=m0.nxt) m8 m'->Chg S m m':=fun {m'} h=>⟨Nat.le_trans x8.nxt h.nxt,fun b' hb hSb=>by
  rw[h.g b' (Nat.lt_of_lt_of_le hb x8.nxt) fun h3=>h3.elim hSb fun h4=>by omega]
  exact x8.g b' hb,h.vw.trans x8.vw⟩
 show Wc prog tbl 144 [.c (.int .i64 ((0:Nat):Int)),.c (.int .i64 ((0:Nat):Int)),.c (.ptr b 0),.c (.ptr m.nxt 0),.c (.ptr m4.nxt 0),.c (.ptr b2 0),.c (.ptr m6.nxt 0)] m8 _
 refine zwP hn hsz (n0:=n0') (n1:=m.nxt) (by omega) (by omega) hcl size 0 (by omega) 0 0 S m8 _ _ hSl (by simp) (fun j L hj=>by rw[Nat.zero_add]; exact hj) hI8 (fun S' m' P' ho hch hst' _ _ hI'=>⟨_,rfl,?_⟩) fun S' m' ho hch hE=>⟨_,rfl,?_⟩
 ·rw[Nat.zero_add] at hI';exact hQ _ S' m' (Own.trans (Own.refl S m) ho x8.nxt) (hchg hch) (.inl hI')
 ·exact hQ _ S' m' (Own.trans (Own.refl S m) ho x8.nxt) (hchg hch) (.inr hE)
theorem zwR{m:M}{z:C}{L:List Int}(hz:Li m z L)(hn:znt z=false):∃b o n s c,z=.sl b o n s c:=by
 rcases hz.val with ⟨rfl,_⟩ | ⟨b,o,s,c,rfl,_⟩
 ·cases hn
 ·exact⟨_,_,_,_,_,rfl⟩
theorem zwS{z:C}{L:List Int}{m:M}{Q:V->M->Prop}(hz:Li m z L)(hn:znt z=false)(hL:L.length<=1000)(h:∀z' m',Ext m m'->Li m' z' L->Fr m z'->zrD z' 1 L.length->Q (.c z') m'):Wc prog tbl 117 [.c z] m Q:=by
 obtain⟨b,o,n,s,c,rfl⟩:=zwR hz hn;refine zvd ⟨trivial,trivial,trivial,rfl,?_⟩
 show ∀m0:M,_
 intro m0 e0;obtain⟨b0,x0⟩:=Bk.new e0;have ho:zrs m0 1 (.sl m.nxt 0 0 0 (some 0)) [] 0:=⟨rfl,.lit _ b0.g b0.lt⟩
 by_cases h0:L.length=0
 ·have hL0:L=[]:=List.eq_nil_of_length_eq_zero h0;subst hL0;exact⟨_,_,zrw t22 g3 z3 ho (hz.ext x0),h _ _ x0 ho.ls (fun b o n s d hq=>by cases hq; exact Nat.le_refl _) (.inr (.inl ⟨_,_,_,_,rfl,Nat.le_refl _⟩))⟩
 ·obtain⟨m',q1,q2,q3,q4,q5⟩:=zrv t22 g3 z3 ho (hz.ext x0) (by omega) (by omega) (by omega)
  have n0:m0.nxt=m.nxt+1:=by rw[e0]; rfl
  refine⟨_,m',q1,h _ _ ⟨by omega,fun b' hb=>?_,q4.trans x0.vw⟩ ?_ (fun b o n s d hq=>by cases hq; omega) (.inr (.inr ⟨_,_,by rw[Nat.zero_add]⟩))⟩
  ·rw[q5 b' (by omega) (by intro hq; cases hq)]; exact x0.g b' hb
  ·have:=q2.ls;rw[List.nil_append] at this;have e:0+L.length=L.length:=Nat.zero_add _;rw[e] at this ⊢;exact this
theorem zwT{α:Type}(g:Nat->List α)(p:α->Bool):∀e x,(zsE g (e+1) x).find? p=((g x).find? p).or ((zsE g e (x+1)).find? p):=fun e x=>by
 show(g x++zsE g e (x+1)).find? p=_
 rw[List.find?_append]
def zwU(n:Nat)(m:M)(fnc:C)(t:List Int->Bool):Prop:=
 ∀m' z L,Ext m m'->Li m' z L->zrD z 1 L.length->L∈zpC n->∀Q:V->M->Prop,(∀m'',Ext m' m''->Q (.c (.bool (t L))) m'')->znQ prog tbl [.c z] fnc m' Q
theorem zwV{l:List (List Int)}{i:Nat}{a:List Int}(h:l[i]? = some a)(p:List Int->Bool):(l.drop i).find? p=if p a then some a else (l.drop (i+1)).find? p:=by
 obtain⟨hi,ha⟩:=List.getElem?_eq_some_iff.1 h;rw[List.drop_eq_getElem_cons hi,ha,List.find?_cons]
 cases p a <;> rfl
theorem zwW{n:Nat}{L:List Int}:∀{d:Nat} {pre:List Int} {fr:Nat},L∈zsF n d pre fr->L.length=pre.length+d
 | 0,pre,fr,h=>by
  have:L=pre:=List.mem_singleton.1 h;rw[this]; rfl
 | d+1,pre,fr,h=>by
  obtain⟨x,_,_,h3⟩:=(zwN _ _ _ _).1 h;have:=zwW h3;rw[List.length_append] at this
  simp only[List.length_cons,List.length_nil] at this
  omega
theorem zwX{n:Nat}{fnc:C}{t:List Int->Bool}{m:M}{Q:V->M->Prop}(hn:n<=100)(ht:zwU n m fnc t)(h:∀z m',Ext m m'->Li m' z (zsG n t)->zrD z 1 (zsG n t).length->(∀b o n' s d,z=.sl b o n' s d->m.nxt<=b)->Q (.c z) m'):Wc prog tbl 94 [.c (.int .i64 (n:Int)),.c fnc] m Q:=by
 refine w94 fun m0 e0 m1 e1=>?_;obtain⟨b0,x0⟩:=Bk.new e0;obtain⟨b1,x1⟩:=Bk.new e1;have x01:=x0.trans x1
 have n0:m0.nxt=m.nxt+1:=by rw[e0]; rfl
 refine⟨zwM (by omega) (by omega),fun R2 hstep=>?_⟩
 let G:Nat->List (List Int):=fun s=>zsF n s [] 0
 have hgo:∀(e s:Nat) (m4:M),e+s=n+1->Ext m m4->Bk m4 m.nxt 1 [fnc]->Bk m4 m0.nxt 1 [.sl0]->(zsE G e s).find? t=(zpC n).find? t->R2 [.c (.int .i64 (s:Int))] m4:=by
  intro e
  induction e with
  | zero=>
   intro s m4 hes x4 k0 k1 hfind;refine hstep _ _ ?_;rw[zra];refine⟨fun h1=>by omega,fun _=>⟨_,k1.rc rfl,?_⟩⟩
   have:zsG n t=[]:=by unfold zsG; rw[<- hfind]; rfl
   refine h _ _ x4 ?_ ?_ fun _ _ _ _ _ h9=>by cases h9
   ·rw[this]; exact Ls.nil m4 1
   ·rw[this]; exact .inl ⟨rfl,rfl⟩
  | succ e ih=>
   intro s m4 hes x4 k0 k1 hfind;refine hstep _ _ ?_;rw[zra];refine⟨fun _=>?_,fun h1=>absurd (by omega) h1⟩;refine zvt fun m5 e5 m6 e6=>?_;obtain⟨b5,x5⟩:=Bk.new e5;obtain⟨b6,x6⟩:=Bk.new e6;have x56:=x5.trans x6;refine⟨_,rfl,?_⟩;have hk0:=k0.lt;have hk1:=k1.lt
   have n5:m5.nxt=m4.nxt+1:=by rw[e5]; rfl
   have x46:=x4.trans x56;have k06:=k0.ext x56;have k16:=k1.ext x56;rw[zwT] at hfind
   refine zsg (zwQ (b:=m5.nxt) (b2:=m4.nxt) (n:=n) (size:=s) (by omega) (by omega)) ⟨b6,b5.ext x6⟩
    (J:=fun i S ma=>(∀b',S b'↔b'=m0.nxt)/\Bk ma m0.nxt 1 [.sl0]/\((G s).drop i).find? t=(G s).find? t/\m6.nxt<=ma.nxt/\ma.vw=m6.vw/\∀b',b' < m6.nxt->b' ≠ m0.nxt->ma.g b'=m6.g b')
    (X:=fun ex S ma=>ex=.exit 0/\∃z L,(∀b',S b'↔b'=m0.nxt\/∃o n s d,z=.sl b' o n s d)/\Bk ma m0.nxt 1 [z]/\Li ma z L/\(∀b' o n s d,z=.sl b' o n s d->m.nxt<=b'/\b' < ma.nxt)/\((G s).find? t=some L/\zrD z 1 L.length)/\m6.nxt<=ma.nxt/\ma.vw=m6.vw/\∀b',b' < m6.nxt->b' ≠ m0.nxt->ma.g b'=m6.g b')
    (fun i=>⟨fun S ma mb hj hn' hv hg hlow=>⟨hj.1,⟨(hg _ ((hj.1 _).2 rfl)).trans hj.2.1.g,Nat.lt_of_lt_of_le hj.2.1.lt hn'⟩,hj.2.2.1,Nat.le_trans hj.2.2.2.1 hn',hv.trans hj.2.2.2.2.1,fun b' hb' hne=>(hlow b' hb').trans (hj.2.2.2.2.2 b' hb' hne)⟩,fun S ma hj b' hb'=>by rw[(hj.1 b').1 hb']; exact hj.2.1.lt⟩)
    (fun ex=>⟨fun S ma mb hj hn' hv hg hlow=>?_,fun S ma hj b' hb'=>?_⟩) (S0:=fun b'=>b'=m0.nxt) ⟨fun _=>Iff.rfl,k16,rfl,Nat.le_refl _,rfl,fun _ _ _=>rfl⟩ (fun b' hb' hd=>by rcases hd with hd | hd <;> omega) ?_ ?_ ?_ ?_
   ·obtain⟨h1,z,L,h2,h3,h4,h5,h6,h7,h8,h9⟩:=hj;refine⟨h1,z,L,h2,⟨(hg _ ((h2 _).2 (.inl rfl))).trans h3.g,Nat.lt_of_lt_of_le h3.lt hn'⟩,h4.to hn' (fun b' _ hx'=>?_) hv,fun b' o n s d hz=>⟨(h5 b' o n s d hz).1,Nat.lt_of_lt_of_le (h5 b' o n s d hz).2 hn'⟩,h6,Nat.le_trans h7 hn',hv.trans h8,fun b' hb' hne=>(hlow b' hb').trans (h9 b' hb' hne)⟩;obtain⟨o,s',d,hx'⟩:=hx';exact hg b' ((h2 b').2 (.inr ⟨_,_,_,_,hx'⟩))
   ·obtain⟨h1,z,L,h2,h3,h4,h5,h6,_⟩:=hj
    rcases (h2 b').1 hb' with rfl | ⟨o,n',s',d,hz⟩
    ·exact h3.lt
    ·exact(h5 _ _ _ _ _ hz).2
   ·intro i xv S ma B' enter K hxv hj hlt hSl hown henter hK;obtain⟨L,z,hL,rfl,hz,hnil,hfr⟩:=hxv;obtain⟨hS,hkb,hf,hn6,hv6,hg6⟩:=hj;refine⟨z,rfl,henter ma _ rfl fun m15 hn15 hv15 hg15 hB15=>?_⟩
    have hne0:m0.nxt ≠ m6.nxt:=by have:=k16.lt; omega
    have hl15:Li m15 z L:=hz.to (by omega) (fun b' _ hx'=>by obtain⟨o,s',d,hx'⟩:=hx'; exact hg15 b' (by have:=hfr b' _ _ _ _ hx'; omega)) hv15;have kk15:Bk m15 m0.nxt 1 [.sl0]:=⟨(hg15 _ hne0).trans hkb.g,by rw[hn15]; exact hkb.lt⟩;have hold:∀b',b' < m6.nxt->b' ≠ m0.nxt->m15.g b'=m6.g b':=fun b' hb' hne=>(hg15 b' (by omega)).trans (hg6 b' hb' hne);have x15:Ext m m15:=⟨by rw[hn15]; exact Nat.le_trans x46.nxt hn6,fun b' hb'=>by rw[hold b' (Nat.lt_of_lt_of_le hb' x46.nxt) (by omega)]; exact x46.g b' hb',by rw[hv15,hv6]; exact x46.vw⟩;have kf15:Bk m15 m.nxt 1 [fnc]:=⟨(hold _ k06.lt (by omega)).trans k06.g,by rw[hn15]; exact Nat.lt_of_lt_of_le k06.lt hn6⟩;have hLm:L∈zsF n s [] 0:=List.mem_of_getElem? hL;have hmem:L∈zpC n:=(zwN _ _ _ _).2 ⟨s,Nat.zero_le _,by omega,hLm⟩;have hlen:=zwW hLm
    simp only[List.length_nil] at hlen
    refine⟨fnc,kf15.rc rfl,ht m15 z L x15 hl15 hnil.2 hmem _ fun m18 e18=>⟨_,rfl,?_⟩⟩;have kk18:=kk15.ext e18
    have hg18:∀b',b' < ma.nxt->b' ≠ m6.nxt->m18.g b'=ma.g b':=fun b' hb' hne=>by rw[e18.g b' (by omega)]; exact hg15 b' hne
    have hn18:ma.nxt<=m18.nxt:=by rw[<- hn15]; exact e18.nxt
    have hv18:m18.vw=ma.vw:=e18.vw.trans hv15;have hB18:m18.g m6.nxt=m15.g m6.nxt:=e18.g _ (by omega);rw[zrb];refine⟨fun htl=>?_,fun htl=>?_⟩
    ·refine zwS (hl15.ext e18) hnil.1 (by omega) fun z' m21 e21 hz' hfr' hok'=>⟨z',rfl,_,(kk18.ext e21).st _,?_⟩
     have hzne:∀b' o n s d,z'=.sl b' o n s d->b' ≠ m0.nxt:=fun b' o n s d hq=>by have:=hfr' b' o n s d hq; have:=kk18.lt; omega
     refine hK (.exit 0) (fun b'=>b'=m0.nxt\/∃o n s d,z'=.sl b' o n s d) _ (hB15 _ ?_) (Nat.le_trans hn18 e21.nxt) (e21.vw.trans hv18) (fun b' hb' hSb hbl=>?_) (fun b' hb'=>?_) ⟨rfl,z',L,fun _=>Iff.rfl,(kk18.ext e21).set _,hz'.setNe hzne _,fun b' o n s d hq=>?_,?_,?_,?_,fun b' hb' hne=>?_⟩
     ·rw[M.g_set,if_neg (by omega),e21.g _ (by omega)]; exact hB18
     ·rw[M.g_set,if_neg fun h0=>hSb ((hS b').2 h0),e21.g b' (by omega)]; exact hg18 b' hb' hbl
     ·rcases hb' with h0 | ⟨o,n',s',d,hq⟩
      ·exact .inl ((hS b').2 h0)
      ·exact .inr (by have:=hfr' _ _ _ _ _ hq; omega)
     ·have hmm:m.nxt<=b':=by have:=hfr' _ _ _ _ _ hq; have:=x15.nxt; have:=e18.nxt; omega
      refine⟨hmm,?_⟩;subst hq
      rcases hz'.val with ⟨h0,_⟩ | ⟨b3,o3,s3,c3,h0,h1,_⟩
      ·cases h0
      ·cases h0; exact h1
     ·exact⟨by rw[<- hf,zwV hL,if_pos htl],hok'⟩
     ·exact Nat.le_trans hn6 (Nat.le_trans hn18 e21.nxt)
     ·exact(e21.vw.trans hv18).trans hv6
     ·rw[M.g_set,if_neg hne,e21.g b' (by omega),hg18 b' (by omega) (by omega)]; exact hg6 b' hb' hne
    ·refine hK .nrm S _ (hB15 _ hB18) hn18 hv18 (fun b' hb' _ hbl=>hg18 b' hb' hbl) (Own.refl S ma) ⟨hS,kk18,?_,Nat.le_trans hn6 hn18,hv18.trans hv6,fun b' hb' hne=>by rw[hg18 b' (by omega) (by omega)]; exact hg6 b' hb' hne⟩;rw[<- hf,zwV hL,if_neg (by rw[htl]; decide)]
   ·intro S' m5' hown hlt hv hg hj;obtain⟨hS,hkb,hf,hn6,hv6,hg6⟩:=hj
    have hnone:(G s).find? t=none:=by rw[<- hf,List.drop_eq_nil_of_le (Nat.le_refl _)]; rfl
    rw[hnone] at hfind;refine⟨zwM (by omega) (by omega),ih (s+1) m5' (by omega) ⟨Nat.le_trans x46.nxt hn6,fun b' hb'=>by rw[hg6 b' (Nat.lt_of_lt_of_le hb' x46.nxt) (by omega)]; exact x46.g b' hb',hv6.trans x46.vw⟩ ⟨(hg6 _ k06.lt (by omega)).trans k06.g,Nat.lt_of_lt_of_le k06.lt hn6⟩ hkb hfind⟩
   ·intro id S' m5' hown hlt hv hg hj;obtain⟨h1,z,L,h2,h3,h4,h5,h6,hn6,hv6,hg6⟩:=hj
    cases h1
    refine⟨z,h3.rc rfl,h z m5' ⟨Nat.le_trans x46.nxt hn6,fun b' hb'=>by rw[hg6 b' (Nat.lt_of_lt_of_le hb' x46.nxt) (by omega)]; exact x46.g b' hb',hv6.trans x46.vw⟩ ?_ ?_ fun b o n' s d hz=>(h5 b o n' s d hz).1⟩ <;> rw[show zsG n t=L from by unfold zsG; rw[<- hfind,h6.1]; rfl]
    ·exact h4
    ·exact h6.2
   ·intro S' m5' hown hlt hv hg hj;exact absurd hj.1 (by intro h; cases h)
 exact hgo (n+1) 0 m1 (by omega) x01 (b0.ext x1) b1 rfl
end
end Go.Proofs.YtlkgdadfbfafcaaGreat

namespace Go.Proofs.YtlkgdadfbfafcaaGreat
open _root_.Go.Proofs.Tryz
open Go.Abs
set_option maxRecDepth 100000
noncomputable section
def zwY(f:M)(x:C)(g:List Int->Option (Bool)):Prop:=∀(f' m:M) (a0:List Int) (c0:C) (r:Bool) (Q:V->M->Prop),Sub f f'->Pre f' m->Sl f' c0 a0->g a0=some r->(∀m',Ext m m'->Q (.c (.bool r)) m')->znQ prog tbl [.c c0] x m Q
theorem zwY.sub{f m:M}{x:C}{g:List Int->Option (Bool)}(h:zwY f x g)(s:Sub f m):zwY m x g:=fun f' m' a0 c0 r Q hs=>h f' m' a0 c0 r Q (s.trans hs)
theorem zsv{f:M}:∀(l:List Int),Cat f (zrx l) l
 | []=>rfl
 | a::l=>⟨[.int .i64 a],zrx l,rfl,rfl,zsv l⟩
def asM(m:M):M:={ nxt:=m.nxt,g:=fun b=>if b < m.nxt then m.g b else none,vw:=m.vw }
theorem zwZ(m:M):Sub (asM m) m:=⟨Nat.le_refl _,rfl,fun _b hb _=>(if_pos hb).symm⟩
theorem zw0{f m m':M}(h:Sub f m)(e:Ext m m'):Sub f (asM m'):=⟨Nat.le_trans h.nxt e.nxt,e.vw.trans h.vw,fun b hb hd=>by
 have:=Nat.lt_of_lt_of_le hb h.nxt;have:=e.nxt
 show(if b < m'.nxt then m'.g b else none)=_
 rw[if_pos (by omega),e.g b (by omega)]
 exact h.g b hb hd⟩
theorem zw1{f m m':M}(h:Pre f m)(e:Ext m m'):Pre (asM m') m':=⟨zwZ m',fun b hb=>if_neg (by have hb:m'.nxt<=b:=hb; omega),fun b hb=>by
 have hb:m'.nxt<=b:=hb
 show m'.vw b=none
 rw[e.vw,h.sub.vw]
 exact h.fv b (Nat.le_trans h.sub.nxt (Nat.le_trans e.nxt hb))⟩
theorem zw2{m:M}{z:C}{L:List Int}(h:Li m z L)(hok:zrD z 1 L.length):Sl (asM m) z L:=by
 refine⟨zrx L,⟨h.len,?_⟩,zsv L,hok⟩
 rcases h.val with h1 | ⟨b,o,t,c,h1,h2,h3⟩
 ·exact .inl h1
 ·refine .inr ⟨b,o,t,c,h1,h2,fun h0=>(h3 h0).to' ?_ rfl⟩;exact if_pos h2
def grM(f m m':M):M:={ nxt:=m'.nxt,g:=fun b=>if b < m.nxt then f.g b else if b < m'.nxt then m'.g b else none,vw:=f.vw }
theorem zw3{f m m':M}(h:Pre f m)(e:Ext m m'):Pre (grM f m m') m':=by
 have hn:=h.sub.nxt;have he:=e.nxt;refine⟨⟨Nat.le_refl _,by show m'.vw=f.vw; rw[e.vw,h.sub.vw],fun b hb hd=>?_⟩,fun b hb=>?_,fun b hb=>h.fv b (by have hb:m'.nxt<=b:=hb; omega)⟩
 ·show m'.g b=(if b < m.nxt then f.g b else if b < m'.nxt then m'.g b else none)
  have hb:b < m'.nxt:=hb
  by_cases hbm:b < m.nxt
  ·rw[if_pos hbm];have hd:(if b < m.nxt then f.g b else if b < m'.nxt then m'.g b else none) ≠ none\/f.vw b ≠ none:=hd;rw[if_pos hbm] at hd
   have hbf:b < f.nxt:=by
    rcases Nat.lt_or_ge b f.nxt with h1 | h1
    ·exact h1
    ·exact(hd.elim (fun h2=>h2 (h.fz b h1)) fun h2=>h2 (h.fv b h1)).elim
   rw[e.g b hbm]; exact h.sub.g b hbf hd
  ·rw[if_neg hbm,if_pos hb]
 ·have hb:m'.nxt<=b:=hb
  show(if b < m.nxt then f.g b else if b < m'.nxt then m'.g b else none)=none
  rw[if_neg (by omega),if_neg (by omega)]
theorem zw4{n:Int}{passes:List Int->Option Bool}{c2:C}{m f:M}{Q:V->M->Prop}{rz:List Int}(hS:Pre f m)(hF:zwY f c2 passes)(hp:zsH n passes=some rz)(hq:∀m' f' c0,Grw m f m' f'->Sl f' c0 rz->Q (.c c0) m'):Wc prog tbl 94 [.c (Il n),.c c2] m Q:=by
 obtain⟨⟨p,q,i⟩,hp⟩:=zrL hp;obtain rfl:=oi hp
 have hn:n=((n.toNat:Nat):Int):=by omega
 rw[hn];refine zwX (n:=n.toNat) (t:=fun L=>(passes L).getD false) (by omega) (fun m' z L e hz hok hL Q' hQ'=>?_) fun z m' e hz hok hfr=>?_
 ·have hs:=i L hL
  cases hpl:passes L with
  | none=>rw[hpl] at hs; cases hs
  | some b=>
   refine hF (asM m') m' L z b Q' (zw0 hS.sub e) (zw1 hS e) (zw2 hz hok) hpl fun m'' e'=>?_;have d:Q' (V.c (C.bool ((passes L).getD false))) m'':=hQ' m'' e';rw[hpl] at d;exact d
 ·refine hq m' (grM f m m') z ⟨e,⟨Nat.le_trans hS.sub.nxt e.nxt,rfl,fun b hb _=>if_pos (Nat.lt_of_lt_of_le hb hS.sub.nxt)⟩,zw3 hS e,fun b hb=>if_pos hb⟩ ?_;refine⟨zrx _,⟨hz.len,?_⟩,zsv _,hok⟩
  rcases hz.val with a | ⟨b,o,t,c,a,h,j⟩
  ·exact .inl a
  ·refine .inr ⟨b,o,t,c,a,h,fun l=>(j l).to' ?_ ?_⟩
   ·have d:=hfr _ _ _ _ _ a
    show(if b < m.nxt then f.g b else if b < m'.nxt then m'.g b else none)=_
    rw[if_neg (by omega),if_pos h]
   ·show f.vw b=m'.vw b
    rw[e.vw,hS.sub.vw]
end
end Go.Proofs.YtlkgdadfbfafcaaGreat

