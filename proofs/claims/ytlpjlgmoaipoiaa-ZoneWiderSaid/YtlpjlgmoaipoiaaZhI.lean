/- An evaluator of code, its soundness, and what functions of the program do. Condition: none; a lemma text. -/
import Derived.Test.YtlpjlgmoaipoiaaZhH

namespace Go.Proofs.Ytlpjlgmoaipoiaa
open _root_.Go.Proofs.Try
open Go.Abs
set_option maxRecDepth 100000
noncomputable section
theorem zwo{f m:M}{x:C}{n:Nat}{a:Yr}(h:∃cs,(ldA m (zl8 x (n * Rp.k Yr)) (Rp.k Yr)=some cs/\(∀j c,cs[j]? = some c->ldC m (zl7 (zl8 x (n * Rp.k Yr)) j)=some c)/\∀j i,0 < i->j+i<=Rp.k Yr->ldA m (zl7 (zl8 x (n * Rp.k Yr)) j) i=some ((cs.drop j).take i))/\Rp.rep f cs a):ldA m (zl8 x (n * 6)) 6=some [.int .i64 a.Losses.Lo,.int .i64 a.Losses.Hi,.int .i64 a.Premiums.Lo,.int .i64 a.Premiums.Hi,.int .i64 a.Parcels,.bool a.Exempt]/\(∀j c,([.int .i64 a.Losses.Lo,.int .i64 a.Losses.Hi,.int .i64 a.Premiums.Lo,.int .i64 a.Premiums.Hi,.int .i64 a.Parcels,.bool a.Exempt]:List C)[j]? = some c->ldC m (zl7 (zl8 x (n * 6)) j)=some c)/\∀j i,0 < i->j+i<=6->ldA m (zl7 (zl8 x (n * 6)) j) i=some ((([.int .i64 a.Losses.Lo,.int .i64 a.Losses.Hi,.int .i64 a.Premiums.Lo,.int .i64 a.Premiums.Hi,.int .i64 a.Parcels,.bool a.Exempt]:List C).drop j).take i):=by
 obtain⟨cs,q1,q2⟩:=h;have q2:cs=_:=q2;subst q2;exact q1
theorem zwp:TA prog 25 6:=⟨75,by kernel_rfl,by kernel_rfl,by kernel_rfl⟩
theorem zwq:TA prog 37 6:=⟨104,by kernel_rfl,by kernel_rfl,by kernel_rfl⟩
theorem zwr{r:Rl}{y:Yr}{ca105:C}{m f:M}{Q:V->M->Prop}{rz:P4}(hS:Pre f m)(ha105:Sl f ca105 r.Price)(hp:ztR r y=some rz)(hq:∀m',Ext m m'->Q (.agg 4 [.bool rz.p0,.bool rz.p1,.bool rz.p2,.bool rz.p3]) m'):Wc prog tbl 77 [.agg 6 [Il r.Classes,Il r.Good,Il r.Bad,Il r.Rest,Il r.Fewest,ca105],.agg 6 [Il y.Losses.Lo,Il y.Losses.Hi,Il y.Premiums.Lo,Il y.Premiums.Hi,Il y.Parcels,.bool y.Exempt]] m Q:=by
 have S0:=hS.st;obtain⟨τ0,_⟩:=zr3;refine w77 ?_;unfold ztR at hp;intro m0 za;obtain⟨Aa,Ba,bc,Ca⟩:=S0.blk za τ0 1;intro m1 Ea;obtain⟨Fa,Ga,Ha,Ia⟩:=Ba.blk Ea Aa 2;have Ja:=Ca.k Ha;intro m2 La;obtain⟨Ma,Na,da,Oa⟩:=Ga.blk La Fa 3;have Pa:=Ja.k da;have Qa:=Ia.k da;intro m3 Ra;obtain⟨Sa,Ta,J,Ua⟩:=Na.blk Ra Ma 4;have Va:=Pa.k J;have N:=Qa.k J;have Wa:=Oa.k J;refine⟨trivial,_,_,N.bk.rp (k:=0) (j:=2) rfl (by omega),trivial,_,_,N.bk.rp (k:=2) (j:=2) rfl (by omega),?_⟩;intro m8 Xa;obtain⟨ea,Ya,u,Za⟩:=Ta.blk Xa Sa 5;have ab:=Va.k u;have cb:=N.k u;have db:=Wa.k u;have eb:=Ua.k u;obtain⟨fa,ga,p,na⟩:=Za.freeze Ya;have fb:=ab.k p;have gb:=cb.k p;have hb:=db.k p;have ib:=eb.k p;have jb:Sl fa (C.sl m3.nxt 0 2 0 (Option.some 2)) ([y.Losses,y.Premiums]:List Rg):=Bk.sl (α:=Rg) (l:=([y.Losses,y.Premiums]:List Rg)) na (show Cat (α:=Rg) fa [Il y.Losses.Lo,Il y.Losses.Hi,Il y.Premiums.Lo,Il y.Premiums.Hi] ([y.Losses,y.Premiums]:List Rg) from ⟨[Il y.Losses.Lo,Il y.Losses.Hi],_,rfl,rfl,⟨[Il y.Premiums.Lo,Il y.Premiums.Hi],_,rfl,rfl,rfl⟩⟩) rfl rfl _;obtain⟨dc,kb,hp⟩:=zqp hp;refine zwj (l:=([y.Losses,y.Premiums]:List Rg)) ga.pre jb kb fun nc ec fc mb ob=>?_;obtain⟨pb,q⟩:=ga.callG mb ea;have ha:=fb.k q;have ia:=gb.k q;have ja:=hb.k q;have ka:=ib.k q;refine⟨_,rfl,?_⟩;refine zrj (α:=List Int) pb ob (σ:=Bool × Bool × Bool × Bool) 6 (fun st bb=>(False\/(False\/(False\/False)))) (fun st gG gF gT gM=>(Lb gG gF gT gM 1 m.nxt 6 [Il r.Classes,Il r.Good,Il r.Bad,Il r.Rest,Il r.Fewest,ca105])/\(Lb gG gF gT gM 2 m0.nxt 6 [Il y.Losses.Lo,Il y.Losses.Hi,Il y.Premiums.Lo,Il y.Premiums.Hi,Il y.Parcels,.bool y.Exempt])/\(Lb gG gF gT gM 3 m1.nxt 4 [.bool false,.bool false,.bool false,.bool false])/\(Lb gG gF gT gM 4 m2.nxt 4 [.bool st.1,.bool st.2.1,.bool st.2.2.1,.bool st.2.2.2])) (fun rr_ st=>pwithin_L0 r y rr_ st.1 st.2.1 st.2.2.1 st.2.2.2=some rz) (fun ex st=>False) (fun st=>(Gux.and (Gux.lb ha.bk.lt (by decide)) (Gux.and (Gux.lb ia.bk.lt (by decide)) (Gux.and (Gux.lb ja.bk.lt (by decide)) (Gux.lb ka.bk.lt (by decide)))))) (st0:=(false,false,false,false)) (τ:=ea) ⟨ha,ia,ja,ka⟩ hp ?_ ?_ ?_ ?_
 ·intro qb rb st w s T z gc Vb Wb Xb _ _ sb tb hA oa hp hrep Yb pa qa;obtain⟨hc,rfl,⟨A,_⟩⟩:=hrep;obtain⟨a,c,d,e⟩:=st;obtain⟨n,o,h,i⟩:=hA
  replace n:Lb z w s T 1 m.nxt 6 [Il r.Classes,Il r.Good,Il r.Bad,Il r.Rest,Il r.Fewest,ca105]:=n
  replace o:Lb z w s T 2 m0.nxt 6 [Il y.Losses.Lo,Il y.Losses.Hi,Il y.Premiums.Lo,Il y.Premiums.Hi,Il y.Parcels,.bool y.Exempt]:=o
  replace h:Lb z w s T 3 m1.nxt 4 [.bool false,.bool false,.bool false,.bool false]:=h
  replace i:Lb z w s T 4 m2.nxt 4 [.bool a,.bool c,.bool d,.bool e]:=i
  replace hp:pwithin_L0 r y (qb::rb) a c d e=some rz:=hp
  rw[pwithin_L0] at hp;refine⟨_,rfl,?_⟩;refine pa _ _ _ _ sb oa fun oc ic B D sa ta=>?_;have la:=n.k D;have ma:=o.k D;have ub:=h.k D;have vb:=i.k D;refine⟨_,_,_,_,_,_,la.bk.ra,_,_,_,_,_,_,ma.bk.ra,?_⟩;obtain⟨wb,O,hp⟩:=zqp hp;obtain⟨Sb,ua,Y,O⟩:=zqj O;refine⟨Sb,ua,(by first|exact Y|(rw[A.slLen];exact Y)),_,(A.rdI O B.sub),?_⟩;obtain⟨xb,P,hp⟩:=zqp hp;obtain⟨Tb,va,Z,P⟩:=zqj P;refine⟨Tb,va,(by first|exact Z|(rw[A.slLen];exact Z)),_,(A.rdI P B.sub),?_⟩;obtain⟨g,yb,hp⟩:=zqp hp;refine zvv (r:=r) (y:=y) (losses:=wb) (premiums:=xb) B.pre (ha105.sub (Sub.trans (Sub.trans p.fs q.fs) tb)) yb fun pc zb=>?_;obtain⟨Ab,t⟩:=B.call zb s;have Bb:=la.k t;have Cb:=ma.k t;have Db:=ub.k t;have Eb:=vb.k t;have wa:=sa.k t;refine⟨_,rfl,trivial,?_⟩;obtain⟨Fb,hp⟩:=zqq hp;obtain⟨Ub,aa,ba⟩:=zqP Fb;refine⟨Ub,aa,ba,?_⟩;obtain⟨Gb,Hb,Ib,F,S⟩:=Eb.sta Ab (pre:=[]) (post:=[]) (l:=([a,c,d,e]:List Bool)) (enc:=C.bool) rfl rfl aa ba true
  replace S:Lb _ _ _ _ _ _ _ [(.bool (sti g 0 true a)),(.bool (sti g 1 true c)),(.bool (sti g 2 true d)),(.bool (sti g 3 true e))]:=S
  have Jb:=Bb.k F;have Kb:=Cb.k F;have Mb:=Db.k F;have xa:=wa.k F;refine⟨Gb,Hb,?_⟩;exact qa .nrm ((sti g 0 true a),(sti g 1 true c),(sti g 2 true d),(sti g 3 true e)) _ _ _ _ Ib ⟨Jb,Kb,Mb,S⟩ xa ta hp
 ·intro st G I ca Nb jc hA hp;obtain⟨a,c,d,e⟩:=st
  replace hp:pwithin_L0 r y [] a c d e=some rz:=hp
  obtain⟨n,o,h,i⟩:=hA
  replace n:Lb (Fm.of m) G I ca 1 m.nxt 6 [Il r.Classes,Il r.Good,Il r.Bad,Il r.Rest,Il r.Fewest,ca105]:=n
  replace o:Lb (Fm.of m) G I ca 2 m0.nxt 6 [Il y.Losses.Lo,Il y.Losses.Hi,Il y.Premiums.Lo,Il y.Premiums.Hi,Il y.Parcels,.bool y.Exempt]:=o
  replace h:Lb (Fm.of m) G I ca 3 m1.nxt 4 [.bool false,.bool false,.bool false,.bool false]:=h
  replace i:Lb (Fm.of m) G I ca 4 m2.nxt 4 [.bool a,.bool c,.bool d,.bool e]:=i
  rw[pwithin_L0] at hp;refine⟨_,_,_,_,i.bk.ra,?_⟩;obtain⟨Ob,Pb,Qb,kc,Rb⟩:=h.sto Nb [.bool a,.bool c,.bool d,.bool e];refine⟨Ob,Pb,?_⟩;refine⟨_,_,_,_,Rb.bk.ra,?_⟩;obtain rfl:=oi hp;exact hq _ Qb.ext'
 ·intro id st _ _ _ _ _ _ hn; first | exact hn.elim | (cases hn)
 ·intro st _ _ _ _ _ _ hn; first | exact hn.elim | (cases hn)
theorem zws{r:Rl}{z:Zn}{ca105 ca201:C}{m f:M}{Q:V->M->Prop}{rz:Wk × Int}(hS:Pre f m)(ha105:Sl f ca105 r.Price)(ha201:Sl f ca201 z.Years)(hp:ztT r z=some rz)(hq:∀m' f' c5 c7 c8 c9 c10 c11 c12,Grw m f m' f'->Sl f' c5 rz.1.r.Price->Sl f' c7 rz.1.zone.Years->zuN f' c8 rz.1.kinds.k0.lead->zuN f' c9 rz.1.kinds.k1.lead->zuN f' c10 rz.1.kinds.k2.lead->zuN f' c11 rz.1.kinds.k3.lead->Sl f' c12 rz.1.can->Q (.tup [.agg 13 [Il rz.1.r.Classes,Il rz.1.r.Good,Il rz.1.r.Bad,Il rz.1.r.Rest,Il rz.1.r.Fewest,c5,Il rz.1.zone.First,c7,c8,c9,c10,c11,c12],.c (Il rz.2)]) m'):Wc prog tbl 53 [.agg 6 [Il r.Classes,Il r.Good,Il r.Bad,Il r.Rest,Il r.Fewest,ca105],.agg 2 [Il z.First,ca201]] m Q:=by
 have S0:=hS.st;obtain⟨τ0,_⟩:=zr3;refine w53 ?_;unfold ztT at hp;intro m0 Ua;obtain⟨Va,Wa,Xc,Xa⟩:=S0.blk Ua τ0 1;intro m1 Ya;obtain⟨Za,ab,bb,cb⟩:=Wa.blk Ya Va 2;have db:=Xa.k bb;intro m2 eb;obtain⟨ta,ua,va,fb⟩:=ab.blk eb Za 3;have wa:=db.k va;have xa:=cb.k va;refine⟨_,_,_,_,_,_,wa.bk.ra,_,_,xa.bk.ra,?_⟩;obtain⟨Zc,gb,hp⟩:=zqp hp;refine zvo (r:=r) (z:=z) ua.pre ha105 ha201 gb fun Jc hb=>?_;obtain⟨ya,da⟩:=ua.call hb ta;have ib:=wa.k da;have jb:=xa.k da;have za:=fb.k da;refine⟨_,rfl,?_⟩;refine zqS hp (fun kb hp=>?_) fun kb hp=>?_
 ·obtain⟨mb,ob,pb,ad,qb⟩:=za.sto ya [Il 0,Il 0,Il 0,Il 0,Il 0,.sl0,Il 0,.sl0,C.nilFn,C.nilFn,C.nilFn,C.nilFn,.sl0];refine⟨mb,ob,?_⟩;refine⟨_,_,_,_,_,_,_,_,_,_,_,_,_,qb.bk.ra,?_⟩
  have Oc:zuN f .nilFn (fun _ _=>none):=by refine⟨rfl,?_⟩; intro f9 m9 _ _ _ r9 Q9 _ _ _ e; exact absurd e (by intro i; cases i)
  have Pc:zuN f .nilFn (fun _ _=>none):=by refine⟨rfl,?_⟩; intro f9 m9 _ _ _ r9 Q9 _ _ _ e; exact absurd e (by intro i; cases i)
  have Qc:zuN f .nilFn (fun _ _=>none):=by refine⟨rfl,?_⟩; intro f9 m9 _ _ _ r9 Q9 _ _ _ e; exact absurd e (by intro i; cases i)
  have Rc:zuN f .nilFn (fun _ _=>none):=by refine⟨rfl,?_⟩; intro f9 m9 _ _ _ r9 Q9 _ _ _ e; exact absurd e (by intro i; cases i)
  have Na:zuN f .nilFn (fun _ _=>none):=by refine⟨rfl,?_⟩; intro f9 m9 _ _ _ r9 Q9 _ _ _ e; exact absurd e (by intro i; cases i)
  have Oa:zuN f .nilFn (fun _ _=>none):=by refine⟨rfl,?_⟩; intro f9 m9 _ _ _ r9 Q9 _ _ _ e; exact absurd e (by intro i; cases i)
  have Pa:zuN f .nilFn (fun _ _=>none):=by refine⟨rfl,?_⟩; intro f9 m9 _ _ _ r9 Q9 _ _ _ e; exact absurd e (by intro i; cases i)
  have Qa:zuN f .nilFn (fun _ _=>none):=by refine⟨rfl,?_⟩; intro f9 m9 _ _ _ r9 Q9 _ _ _ e; exact absurd e (by intro i; cases i)
  obtain rfl:=oi hp;exact hq _ f .sl0 .sl0 C.nilFn C.nilFn C.nilFn C.nilFn .sl0 pb.grw (Sl.nil _) (Sl.nil _) Na Oa Pa Qa (Sl.nil _)
 intro bd rb;obtain⟨Aa,Ba,ia,Ra⟩:=ya.growK rb ta 4;have Ca:=ib.k ia;have Da:=jb.k ia;have sb:=za.k ia;have tb:=Ra 0 (by decide);refine⟨_,_,_,_,_,_,Ca.bk.ra,_,_,Da.bk.ra,?_⟩;obtain⟨ub,vb,hp⟩:=zqp hp;refine zvt Ba.pre  vb fun cd j B D F G wb xb yb zb Ab=>?_;obtain⟨Bb,g⟩:=Ba.callG wb Aa;have Ea:=Ca.k g;have Fa:=Da.k g;have Cb:=sb.k g;have Db:=tb.k g;refine⟨_,_,_,_,rfl,(by rw[show zaL cmC _=true from zoV (zqt rfl (zqt ha201.noFn zqu))]; exact(Fa.bk.ra)),(by rw[show zaL cmC _=true from zoV (zqt rfl (zqt rfl (zqt rfl (zqt rfl (zqt rfl (zqt ha105.noFn zqu))))))]; exact(Ea.bk.ra)),?_⟩;intro dd Eb;obtain⟨Fb,ja,Gb⟩:=Db.set Bb Eb;have Ga:=Ea.k ja;have Ha:=Fa.k ja;have Hb:=Cb.k ja;refine⟨(by rw[show zaL cmC _=true from zoV (zqt rfl (zqt ha201.noFn zqu))]; exact(Ha.bk.ra)),(by rw[show zaL cmC _=true from zoV (zqt rfl (zqt rfl (zqt rfl (zqt rfl (zqt rfl (zqt ha105.noFn zqu))))))]; exact(Ga.bk.ra)),?_⟩;obtain⟨Ib,Jb,Kb,ka,I⟩:=Gb.sto Fb [Il r.Classes,Il r.Good,Il r.Bad,Il r.Rest,Il r.Fewest,ca105,Il z.First,ca201,B,D,F,G,.sl0];have T:=Ga.k ka;have J:=Ha.k ka;have N:=Hb.k ka;refine⟨Ib,Jb,?_⟩;refine⟨trivial,_,J.bk.rc rfl,ha201.isSl,?_⟩;intro Kc Mb
 have hgo:∀(Y:Nat) (qa:Int) (o:C) (p:Int) (q:Int) (s:Int) (t:Int) (u:Int) (w:Int) (Z:List P4) (n:M) (h:Nat->Nat),St (Fm.of m) f j n->Lb (Fm.of m) j h n 1 m.nxt 6 [Il r.Classes,Il r.Good,Il r.Bad,Il r.Rest,Il r.Fewest,ca105]->Lb (Fm.of m) j h n 2 m0.nxt 2 [Il z.First,ca201]->Lb (Fm.of m) j h n 3 m1.nxt 13 [Il 0,Il 0,Il 0,Il 0,Il 0,.sl0,Il 0,.sl0,C.nilFn,C.nilFn,C.nilFn,C.nilFn,.sl0]->Lb (Fm.of m) j h n 4 (Jc.nxt+0) 13 [Il p,Il q,Il s,Il t,Il u,ca105,Il w,ca201,B,D,F,G,o]->Ow (Fm.of m) j h n 5 o Z->ztS r z ub Y p q s t u w Z qa=some rz->Kc [.c (Il qa)] n:=by
  intro Y
  induction Y with
  | zero=>intro qa o p q s t u w Z n h aa T J N I d hp; cases hp
  | succ Y Sa=>
   intro qa o p q s t u w Z n h aa T J N I d hp;refine Mb _ _ ?_;rw[ztS] at hp
   try rw[ha201.slLen]
   refine ifd hp (fun Nb hp=>?_) fun Nb hp=>?_; rotate_left
   ·refine⟨_,_,_,_,_,_,_,_,_,_,_,_,_,I.bk.ra,?_⟩;obtain⟨Ob,Pb,Qb,Rb,Sb⟩:=N.sto aa [Il p,Il q,Il s,Il t,Il u,ca105,Il w,ca201,B,D,F,G,o];have d:=d.k Rb;refine⟨Ob,Pb,?_⟩;refine⟨_,_,_,_,_,_,_,_,_,_,_,_,_,Sb.bk.ra,?_⟩;obtain⟨Tb,Ub,A,Vb⟩:=d.freeze Qb;obtain rfl:=oi hp;exact hq _ Tb ca105 ca201 B D F G o Ub.grw (ha105.sub (Sub.trans g.fs A.fs)) (ha201.sub (Sub.trans g.fs A.fs)) (xb.sub A.fs) (yb.sub A.fs) (zb.sub A.fs) (Ab.sub A.fs) Vb
   obtain⟨l,la,hp⟩:=zqp hp;obtain⟨Nc,Ta,sa,la⟩:=zqj la;obtain⟨_,Wb⟩:=zr8 ha201 la;refine⟨Nc,Ta,(by first|exact sa|(rw[ha201.slLen];exact sa)),_,_,_,_,_,_,(Wb _ (Sub.trans g.fs aa.sub)).1,?_⟩;intro ed Xb;obtain⟨Yb,Zb,O,ac⟩:=aa.blk Xb h 6;have bc:=T.k O;have cc:=J.k O;have dc:=N.k O;have ec:=I.k O;have d:=d.k O;obtain⟨fc,gc,Ia,P,hc⟩:=ac.sto Zb [Il l.Losses.Lo,Il l.Losses.Hi,Il l.Premiums.Lo,Il l.Premiums.Hi,Il l.Parcels,.bool l.Exempt];have Ja:=bc.k P;have ic:=cc.k P;have jc:=dc.k P;have Ka:=ec.k P;have d:=d.k P;refine⟨fc,gc,?_⟩;refine⟨trivial,_,Ka.bk.rc rfl,_,_,_,_,_,_,Ja.bk.ra,_,_,_,_,_,_,hc.bk.ra,?_⟩;obtain⟨La,kc,hp⟩:=zqp hp;refine zwr (r:=r) (y:=l) Ia.pre (ha105.sub g.fs) kc fun fd nc=>?_;obtain⟨oc,S⟩:=Ia.call nc Yb;have pc:=Ja.k S;have qc:=ic.k S;have sc:=jc.k S;have ma:=Ka.k S;have d:=d.k S;refine⟨_,_,_,_,rfl,(by rw[show cmC _=true from zoU (d.noFn)]; exact(ma.bk.rc rfl)),?_⟩;obtain⟨tc,hp⟩:=zqq hp;intro hd Ma;refine⟨(by rw[show cmC _=true from zoU (d.noFn)]; exact(ma.bk.ext (Bk.new Ma).2).rc rfl),?_⟩;obtain⟨na,uc,vc,wc,xc,ba,oa⟩:=d.app' zuT oc (a:=La) (show Rp.rep (α:=P4) j _ La from rfl) tc Ma;have yc:=pc.k ba;have zc:=qc.k ba;have Ac:=sc.k ba;have Bc:=ma.k ba;refine⟨na,uc,wc,?_⟩;refine⟨trivial,?_⟩;obtain⟨Cc,Dc,Ec,ca,pa⟩:=Bc.sto1 xc 12 na (by simp) rfl
   replace pa:Lb _ _ _ _ _ _ _ [Il p,Il q,Il s,Il t,Il u,ca105,Il w,ca201,B,D,F,G,na]:=pa
   have Fc:=yc.k ca;have Gc:=zc.k ca;have Hc:=Ac.k ca;have oa:=oa.k ca;refine⟨Cc,Dc,?_⟩;refine gdi hp fun Ic hp=>?_;exact Sa _ _ _ _ _ _ _ _ _ _ vc Ec Fc Gc Hc pa oa hp
 exact hgo _ _ _ _ _ _ _ _ _ _ _ Aa Kb T J N I (Ow.nil _ _ _ _ _) hp
theorem zwt{r:Rl}{z:Zn}{year:Int}{ca105 ca201:C}{m f:M}{Q:V->M->Prop}{rz:Wk × Int}(hS:Pre f m)(ha105:Sl f ca105 r.Price)(ha201:Sl f ca201 z.Years)(hp:ztU r z year=some rz)(hq:∀m' f' c5 c7 c8 c9 c10 c11 c12,Grw m f m' f'->Sl f' c5 rz.1.r.Price->Sl f' c7 rz.1.zone.Years->zuN f' c8 rz.1.kinds.k0.lead->zuN f' c9 rz.1.kinds.k1.lead->zuN f' c10 rz.1.kinds.k2.lead->zuN f' c11 rz.1.kinds.k3.lead->Sl f' c12 rz.1.can->Q (.tup [.agg 13 [Il rz.1.r.Classes,Il rz.1.r.Good,Il rz.1.r.Bad,Il rz.1.r.Rest,Il rz.1.r.Fewest,c5,Il rz.1.zone.First,c7,c8,c9,c10,c11,c12],.c (Il rz.2)]) m'):Wc prog tbl 61 [.agg 6 [Il r.Classes,Il r.Good,Il r.Bad,Il r.Rest,Il r.Fewest,ca105],.agg 2 [Il z.First,ca201],.c (Il year)] m Q:=by
 have S0:=hS.st;obtain⟨τ0,_⟩:=zr3;refine w61 ?_;unfold ztU at hp;intro m0 ia;obtain⟨ja,ka,hb,la⟩:=S0.blk ia τ0 1;intro m1 ma;obtain⟨na,oa,pa,qa⟩:=ka.blk ma ja 2;have sa:=la.k pa;intro m2 ta;obtain⟨A,B,D,ua⟩:=oa.blk ta na 3;have va:=sa.k D;have F:=qa.k D;refine⟨_,_,_,_,_,_,va.bk.ra,_,_,F.bk.ra,?_⟩;obtain⟨a,wa,hp⟩:=zqp hp;refine zws (r:=r) (z:=z) B.pre ha105 ha201 wa fun ob d h i j l n o p xa G I J N O P S=>?_;obtain⟨ya,q⟩:=B.callG xa A;have za:=F.k q;have Aa:=ua.k q;refine⟨_,_,_,_,_,_,_,_,_,_,_,_,_,_,rfl,?_⟩;intro pb Ba;obtain⟨Ca,Da,T,Ea⟩:=ya.blk Ba A 4;have Fa:=za.k T;have Ga:=Aa.k T;obtain⟨Ha,Ia,s,Y,Z⟩:=Ea.sto Da [Il a.1.r.Classes,Il a.1.r.Good,Il a.1.r.Bad,Il a.1.r.Rest,Il a.1.r.Fewest,h,Il a.1.zone.First,i,j,l,n,o,p];have Ja:=Fa.k Y;have aa:=Ga.k Y;refine⟨Ha,Ia,?_⟩;refine ifd hp (fun Ka hp=>?_) fun Ka hp=>?_; rotate_left
 ·refine⟨_,_,_,_,_,_,_,_,_,_,_,_,_,Z.bk.ra,?_⟩;obtain⟨La,Ma,Na,ib,Oa⟩:=aa.sto s [Il a.1.r.Classes,Il a.1.r.Good,Il a.1.r.Bad,Il a.1.r.Rest,Il a.1.r.Fewest,h,Il a.1.zone.First,i,j,l,n,o,p];refine⟨La,Ma,?_⟩;refine⟨_,_,_,_,_,_,_,_,_,_,_,_,_,Oa.bk.ra,?_⟩;obtain rfl:=oi hp;exact hq _ d h i j l n o p Na.grw G I J N O P S
 refine⟨_,_,Ja.bk.ra,?_⟩;obtain⟨jb,Pa,hp⟩:=zqp hp;refine zvm (z:=z) (year:=year) s.pre (ha201.sub q.fs) Pa fun qb Qa=>?_;obtain⟨ba,ca⟩:=s.call Qa Ca;have da:=aa.k ca;have Ra:=Z.k ca;refine⟨_,rfl,?_⟩;refine zqU hp (fun Sa hp=>?_) fun Sa hp=>?_; rotate_left
 ·refine⟨_,_,_,_,_,_,_,_,_,_,_,_,_,Ra.bk.ra,?_⟩;obtain⟨Ta,Ua,Va,kb,Wa⟩:=da.sto ba [Il a.1.r.Classes,Il a.1.r.Good,Il a.1.r.Bad,Il a.1.r.Rest,Il a.1.r.Fewest,h,Il a.1.zone.First,i,j,l,n,o,p];refine⟨Ta,Ua,?_⟩;refine⟨_,_,_,_,_,_,_,_,_,_,_,_,_,Wa.bk.ra,?_⟩;obtain rfl:=oi hp;exact hq _ d h i j l n o p Va.grw G I J N O P S
 obtain⟨Xa,Ya,Za,mb,ab⟩:=da.sto ba [Il 0,Il 0,Il 0,Il 0,Il 0,.sl0,Il 0,.sl0,C.nilFn,C.nilFn,C.nilFn,C.nilFn,.sl0];refine⟨Xa,Ya,?_⟩;refine⟨_,_,_,_,_,_,_,_,_,_,_,_,_,ab.bk.ra,?_⟩
 have bb:zuN d .nilFn (fun _ _=>none):=by refine⟨rfl,?_⟩; intro t u _ _ _ w y _ _ _ e; exact absurd e (by intro g; cases g)
 have cb:zuN d .nilFn (fun _ _=>none):=by refine⟨rfl,?_⟩; intro t u _ _ _ w y _ _ _ e; exact absurd e (by intro g; cases g)
 have db:zuN d .nilFn (fun _ _=>none):=by refine⟨rfl,?_⟩; intro t u _ _ _ w y _ _ _ e; exact absurd e (by intro g; cases g)
 have eb:zuN d .nilFn (fun _ _=>none):=by refine⟨rfl,?_⟩; intro t u _ _ _ w y _ _ _ e; exact absurd e (by intro g; cases g)
 have ea:zuN d .nilFn (fun _ _=>none):=by refine⟨rfl,?_⟩; intro t u _ _ _ w y _ _ _ e; exact absurd e (by intro g; cases g)
 have fa:zuN d .nilFn (fun _ _=>none):=by refine⟨rfl,?_⟩; intro t u _ _ _ w y _ _ _ e; exact absurd e (by intro g; cases g)
 have ga:zuN d .nilFn (fun _ _=>none):=by refine⟨rfl,?_⟩; intro t u _ _ _ w y _ _ _ e; exact absurd e (by intro g; cases g)
 have ha:zuN d .nilFn (fun _ _=>none):=by refine⟨rfl,?_⟩; intro t u _ _ _ w y _ _ _ e; exact absurd e (by intro g; cases g)
 obtain rfl:=oi hp;exact hq _ d .sl0 .sl0 C.nilFn C.nilFn C.nilFn C.nilFn .sl0 Za.grw (Sl.nil _) (Sl.nil _) ea fa ga ha (Sl.nil _)
theorem zwu{r:Rl}{z:Zn}{t:Tr}{ca105 ca201 ca300 ca301:C}{m f:M}{Q:V->M->Prop}{rz:List Int × Int}(hS:Pre f m)(ha105:Sl f ca105 r.Price)(ha201:Sl f ca201 z.Years)(ha300:Sl f ca300 t.Losses)(ha301:Sl f ca301 t.Premiums)(hp:ztV r z t=some rz)(hq:∀m' f' c0,Grw m f m' f'->Sl f' c0 rz.1->Q (.tup [.c c0,.c (Il rz.2)]) m'):Wc prog tbl 19 [.agg 6 [Il r.Classes,Il r.Good,Il r.Bad,Il r.Rest,Il r.Fewest,ca105],.agg 2 [Il z.First,ca201],.agg 2 [ca300,ca301]] m Q:=by
 have S0:=hS.st;obtain⟨τ0,_⟩:=zr3;refine w19 ?_;unfold ztV at hp;intro m0 y;obtain⟨A,B,Pa,D⟩:=S0.blk y τ0 1;intro m1 F;obtain⟨G,I,J,N⟩:=B.blk F A 2;have O:=D.k J;intro m2 P;obtain⟨h,i,j,S⟩:=I.blk P G 3;have T:=O.k j;have l:=N.k j;refine⟨_,_,_,_,_,_,T.bk.ra,_,_,l.bk.ra,?_⟩;obtain⟨a,Y,hp⟩:=zqp hp;refine zws (r:=r) (z:=z) i.pre ha105 ha201 Y fun Ta n Z aa ba ca da ea fa ga ha ia ja ka la ma na=>?_;obtain⟨oa,d⟩:=i.callG ga h;have pa:=l.k d;have qa:=S.k d;refine⟨_,_,_,_,_,_,_,_,_,_,_,_,_,_,rfl,?_⟩;intro Ua sa;obtain⟨o,ta,p,ua⟩:=oa.blk sa h 4;have va:=pa.k p;have wa:=qa.k p;obtain⟨xa,ya,e,q,za⟩:=ua.sto ta [Il a.1.r.Classes,Il a.1.r.Good,Il a.1.r.Bad,Il a.1.r.Rest,Il a.1.r.Fewest,Z,Il a.1.zone.First,aa,ba,ca,da,ea,fa];have Aa:=va.k q;have s:=wa.k q;refine⟨xa,ya,?_⟩;refine zqS hp (fun Ba hp=>?_) fun Ba hp=>?_
 ·obtain rfl:=oi hp;exact hq _ n .sl0 e.grw (Sl.nil _)
 refine⟨_,_,Aa.bk.ra,_,_,s.bk.ra,?_⟩;obtain⟨Qa,Ca,hp⟩:=zqp hp;refine zvn (z:=z) (t:=t) e.pre (ha201.sub d.fs) (ha300.sub d.fs) (ha301.sub d.fs) Ca fun Va Da=>?_;obtain⟨g,u⟩:=e.call Da o;have Ea:=s.k u;have Fa:=za.k u;refine⟨_,rfl,?_⟩;refine zqU hp (fun Ga hp=>?_) fun Ga hp=>?_
 ·obtain rfl:=oi hp;exact hq _ n .sl0 g.grw (Sl.nil _)
 refine⟨_,_,_,_,_,_,_,_,_,_,_,_,_,Fa.bk.ra,_,_,Ea.bk.ra,?_⟩;obtain⟨Ra,Ha,hp⟩:=zqp hp;refine zvF (w:=a.1) (t:=t) g.pre ha ia ja ka la ma na (ha300.sub d.fs) (ha301.sub d.fs) Ha fun Wa Ia Ja Ka La=>?_;obtain⟨Ma,Sa⟩:=g.callG Ka o;refine⟨_,rfl,?_⟩;obtain rfl:=oi hp;exact hq _ Ia Ja Ma.grw La
theorem zwv{r:Rl}{z:Zn}{year:Int}{ca105 ca201:C}{m f:M}{Q:V->M->Prop}{rz:List Int × Int}(hS:Pre f m)(ha105:Sl f ca105 r.Price)(ha201:Sl f ca201 z.Years)(hp:ztW r z year=some rz)(hq:∀m' f' c0,Grw m f m' f'->Sl f' c0 rz.1->Q (.tup [.c c0,.c (Il rz.2)]) m'):Wc prog tbl 29 [.agg 6 [Il r.Classes,Il r.Good,Il r.Bad,Il r.Rest,Il r.Fewest,ca105],.agg 2 [Il z.First,ca201],.c (Il year)] m Q:=by
 have S0:=hS.st;obtain⟨τ0,_⟩:=zr3;refine w29 ?_;unfold ztW at hp;intro m0 l;obtain⟨n,o,Ca,p⟩:=S0.blk l τ0 1;intro m1 q;obtain⟨g,h,t,u⟩:=o.blk q n 2;have y:=p.k t;refine⟨_,_,_,_,_,_,y.bk.ra,_,_,u.bk.ra,?_⟩;obtain⟨a,A,hp⟩:=zqp hp;refine zwt (r:=r) (z:=z) (year:=year) h.pre ha105 ha201 A fun Ma B D F G I J N O P S T Y Z aa ba ca=>?_;obtain⟨da,Da⟩:=h.callG P g;refine⟨_,_,_,_,_,_,_,_,_,_,_,_,_,_,rfl,?_⟩;intro Na ea;obtain⟨d,fa,Ea,ga⟩:=da.blk ea g 3;obtain⟨ha,ia,e,Fa,ja⟩:=ga.sto fa [Il a.1.r.Classes,Il a.1.r.Good,Il a.1.r.Bad,Il a.1.r.Rest,Il a.1.r.Fewest,D,Il a.1.zone.First,F,G,I,J,N,O];refine⟨ha,ia,?_⟩;refine zqS hp (fun ka hp=>?_) fun ka hp=>?_
 ·obtain rfl:=oi hp;exact hq _ B .sl0 e.grw (Sl.nil _)
 refine⟨_,_,_,_,_,_,_,_,_,_,_,_,_,ja.bk.ra,?_⟩;refine gdi hp fun la hp=>?_;obtain⟨ma,na,hp⟩:=zqp hp;refine zvH (w:=a.1) (years:=(year+1)) e.pre S T Y Z aa ba ca na fun Oa Ga Ha oa pa=>?_;obtain⟨i,Ia⟩:=e.callG oa d;refine⟨_,rfl,?_⟩;obtain⟨qa,sa,hp⟩:=zqp hp;refine zvD (s:=ma) i.pre pa sa fun Pa ta=>?_;obtain⟨j,Ja⟩:=i.call ta d;refine⟨_,_,_,_,_,_,rfl,?_⟩;obtain⟨Ka,ua,hp⟩:=zqp hp;refine zvy (c:=qa) j.pre  ua fun Qa va wa xa ya=>?_;obtain⟨za,La⟩:=j.callG xa d;refine⟨_,rfl,?_⟩;obtain rfl:=oi hp;exact hq _ va wa za.grw ya
theorem zww{r:Rl}{z:Zn}{year:Int}{ca105 ca201:C}{m f:M}{Q:V->M->Prop}{rz:Int × Int}(hS:Pre f m)(ha105:Sl f ca105 r.Price)(ha201:Sl f ca201 z.Years)(hp:ztX r z year=some rz)(hq:∀m',Ext m m'->Q (.tup [.c (Il rz.1),.c (Il rz.2)]) m'):Wc prog tbl 30 [.agg 6 [Il r.Classes,Il r.Good,Il r.Bad,Il r.Rest,Il r.Fewest,ca105],.agg 2 [Il z.First,ca201],.c (Il year)] m Q:=by
 have S0:=hS.st;obtain⟨τ0,_⟩:=zr3;refine w30 ?_;unfold ztX at hp;intro m0 h;obtain⟨i,j,ma,l⟩:=S0.blk h τ0 1;intro m1 n;obtain⟨e,g,o,p⟩:=j.blk n i 2;have q:=l.k o;refine⟨_,_,_,_,_,_,q.bk.ra,_,_,p.bk.ra,?_⟩;obtain⟨a,s,hp⟩:=zqp hp;refine zwt (r:=r) (z:=z) (year:=year) g.pre ha105 ha201 s fun ua na t u y A B D F G I J N O P S T=>?_;obtain⟨Y,oa⟩:=g.callG G e;refine⟨_,_,_,_,_,_,_,_,_,_,_,_,_,_,rfl,?_⟩;intro va Z;obtain⟨aa,ba,pa,ca⟩:=Y.blk Z e 3;obtain⟨da,ea,d,qa,fa⟩:=ca.sto ba [Il a.1.r.Classes,Il a.1.r.Good,Il a.1.r.Bad,Il a.1.r.Rest,Il a.1.r.Fewest,t,Il a.1.zone.First,u,y,A,B,D,F];refine⟨da,ea,?_⟩;refine zqS hp (fun ga hp=>?_) fun ga hp=>?_
 ·obtain rfl:=oi hp;exact hq _ d.ext'
 refine⟨_,_,_,_,_,_,_,_,_,_,_,_,_,fa.bk.ra,?_⟩;obtain⟨sa,ha,hp⟩:=zqp hp;refine zvI (w:=a.1) (year:=year) d.pre I J N O P S T ha fun wa ia=>?_;obtain⟨ja,ta⟩:=d.call ia aa;refine⟨_,rfl,?_⟩;obtain rfl:=oi hp;exact hq _ ja.ext'
theorem zwx{r:Rl}{z:Zn}{ca105 ca201:C}{m f:M}{Q:V->M->Prop}{rz:Rg × Int}(hS:Pre f m)(ha105:Sl f ca105 r.Price)(ha201:Sl f ca201 z.Years)(hp:ztY r z=some rz)(hq:∀m',Ext m m'->Q (.tup [.agg 2 [Il rz.1.Lo,Il rz.1.Hi],.c (Il rz.2)]) m'):Wc prog tbl 34 [.agg 6 [Il r.Classes,Il r.Good,Il r.Bad,Il r.Rest,Il r.Fewest,ca105],.agg 2 [Il z.First,ca201]] m Q:=by
 have S0:=hS.st;obtain⟨τ0,_⟩:=zr3;refine w34 ?_;unfold ztY at hp;intro m0 s;obtain⟨t,u,Za,y⟩:=S0.blk s τ0 1;intro m1 A;obtain⟨B,D,F,G⟩:=u.blk A t 2;have I:=y.k F;intro m2 J;obtain⟨g,h,i,N⟩:=D.blk J B 3;have O:=I.k i;have P:=G.k i;refine⟨_,_,_,_,_,_,O.bk.ra,_,_,P.bk.ra,?_⟩;obtain⟨a,S,hp⟩:=zqp hp;refine zws (r:=r) (z:=z) h.pre ha105 ha201 S fun fb ab T Y Z aa ba ca da ea fa ga ha ia ja ka la=>?_;obtain⟨ma,na⟩:=h.callG ea g;have oa:=N.k na;refine⟨_,_,_,_,_,_,_,_,_,_,_,_,_,_,rfl,?_⟩;intro gb pa;obtain⟨d,qa,sa,ta⟩:=ma.blk pa g 4;have ua:=oa.k sa;obtain⟨va,wa,e,xa,ya⟩:=ta.sto qa [Il a.1.r.Classes,Il a.1.r.Good,Il a.1.r.Bad,Il a.1.r.Rest,Il a.1.r.Fewest,T,Il a.1.zone.First,Y,Z,aa,ba,ca,da];have j:=ua.k xa;refine⟨va,wa,?_⟩;refine zqS hp (fun za hp=>?_) fun za hp=>?_
 ·obtain⟨Aa,Ba,Ca,bb,Da⟩:=j.sto e [Il 0,Il 0];refine⟨Aa,Ba,?_⟩;refine⟨_,_,Da.bk.ra,?_⟩;obtain rfl:=oi hp;exact hq _ Ca.ext'
 refine⟨_,_,_,_,_,_,_,_,_,_,_,_,_,ya.bk.ra,?_⟩;obtain⟨n,Ea,hp⟩:=zqp hp;refine zvK (w:=a.1) e.pre fa ga ha ia ja ka la Ea fun hb cb db Fa o=>?_;obtain⟨p,Ga⟩:=e.callG Fa d;have Ha:=j.k Ga;refine⟨_,rfl,?_⟩;obtain⟨Ia,Ja,hp⟩:=zqp hp;refine zu3 (l:=n) p.pre o Ja fun ib Ka=>?_;obtain⟨q,La⟩:=p.call Ka d;have Ma:=Ha.k La;refine⟨_,rfl,?_⟩;obtain⟨Na,Oa,hp⟩:=zqp hp;refine zu4 (l:=n) q.pre o Oa fun jb Pa=>?_;obtain⟨Qa,Ra⟩:=q.call Pa d;have Sa:=Ma.k Ra;refine⟨_,rfl,?_⟩;obtain⟨Ta,Ua,Va,eb,Wa⟩:=Sa.sto Qa [Il Ia,Il Na];refine⟨Ta,Ua,?_⟩;refine⟨_,_,Wa.bk.ra,?_⟩;obtain rfl:=oi hp;exact hq _ Va.ext'
theorem zwy{r:Rl}{z:Zn}{ca105 ca201:C}{m f:M}{Q:V->M->Prop}{rz:List Int × Int}(hS:Pre f m)(ha105:Sl f ca105 r.Price)(ha201:Sl f ca201 z.Years)(hp:ztZ r z=some rz)(hq:∀m' f' c0,Grw m f m' f'->Sl f' c0 rz.1->Q (.tup [.c c0,.c (Il rz.2)]) m'):Wc prog tbl 35 [.agg 6 [Il r.Classes,Il r.Good,Il r.Bad,Il r.Rest,Il r.Fewest,ca105],.agg 2 [Il z.First,ca201]] m Q:=by
 have S0:=hS.st;obtain⟨τ0,_⟩:=zr3;refine w35 ?_;unfold ztZ at hp;intro m0 h;obtain⟨i,j,qa,l⟩:=S0.blk h τ0 1;intro m1 n;obtain⟨e,g,o,p⟩:=j.blk n i 2;have q:=l.k o;refine⟨_,_,_,_,_,_,q.bk.ra,_,_,p.bk.ra,?_⟩;obtain⟨a,s,hp⟩:=zqp hp;refine zws (r:=r) (z:=z) g.pre ha105 ha201 s fun xa t u y A B D F G I J N O P S T Y=>?_;obtain⟨Z,sa⟩:=g.callG I e;refine⟨_,_,_,_,_,_,_,_,_,_,_,_,_,_,rfl,?_⟩;intro ya aa;obtain⟨ba,ca,ta,da⟩:=Z.blk aa e 3;obtain⟨ea,fa,d,ua,ga⟩:=da.sto ca [Il a.1.r.Classes,Il a.1.r.Good,Il a.1.r.Bad,Il a.1.r.Rest,Il a.1.r.Fewest,u,Il a.1.zone.First,y,A,B,D,F,G];refine⟨ea,fa,?_⟩;refine zqS hp (fun ha hp=>?_) fun ha hp=>?_
 ·obtain rfl:=oi hp;exact hq _ t .sl0 d.grw (Sl.nil _)
 refine⟨_,_,_,_,_,_,_,_,_,_,_,_,_,ga.bk.ra,?_⟩;obtain⟨va,ia,hp⟩:=zqp hp;refine zvL (w:=a.1) d.pre J N O P S T Y ia fun za ja ka la ma=>?_;obtain⟨na,wa⟩:=d.callG la ba;refine⟨_,rfl,?_⟩;obtain rfl:=oi hp;exact hq _ ja ka na.grw ma
theorem zwz{r:Rl}{z:Zn}{class_:Int}{ca105 ca201:C}{m f:M}{Q:V->M->Prop}{rz:List Int × Int}(hS:Pre f m)(ha105:Sl f ca105 r.Price)(ha201:Sl f ca201 z.Years)(hp:zt0 r z class_=some rz)(hq:∀m' f' c0,Grw m f m' f'->Sl f' c0 rz.1->Q (.tup [.c c0,.c (Il rz.2)]) m'):Wc prog tbl 39 [.agg 6 [Il r.Classes,Il r.Good,Il r.Bad,Il r.Rest,Il r.Fewest,ca105],.agg 2 [Il z.First,ca201],.c (Il class_)] m Q:=by
 have S0:=hS.st;obtain⟨τ0,_⟩:=zr3;refine w39 ?_;unfold zt0 at hp;intro m0 na;obtain⟨oa,pa,Ha,qa⟩:=S0.blk na τ0 1;intro m1 sa;obtain⟨j,l,ta,ua⟩:=pa.blk sa oa 2;have n:=qa.k ta;refine⟨_,_,_,_,_,_,n.bk.ra,_,_,ua.bk.ra,?_⟩;obtain⟨a,va,hp⟩:=zqp hp;refine zws (r:=r) (z:=z) l.pre ha105 ha201 va fun Ia o wa xa q s t u y ya za Aa A B D F G=>?_;obtain⟨Ba,p⟩:=l.callG ya j;have I:=n.k p;refine⟨_,_,_,_,_,_,_,_,_,_,_,_,_,_,rfl,?_⟩;intro Ja J;obtain⟨g,N,O,P⟩:=Ba.blk J j 3;have S:=I.k O;obtain⟨T,Y,d,Z,aa⟩:=P.sto N [Il a.1.r.Classes,Il a.1.r.Good,Il a.1.r.Bad,Il a.1.r.Rest,Il a.1.r.Fewest,wa,Il a.1.zone.First,xa,q,s,t,u,y];have ba:=S.k Z;refine⟨T,Y,?_⟩;refine zqS hp (fun ca hp=>?_) fun ca hp=>?_
 ·obtain rfl:=oi hp;exact hq _ o .sl0 d.grw (Sl.nil _)
 refine⟨_,_,_,_,_,_,ba.bk.ra,?_⟩;obtain⟨Ca,da,hp⟩:=zqp hp;refine zvk (r:=r) (class_:=class_) d.pre (ha105.sub p.fs) da fun Ka ea=>?_;obtain⟨e,fa⟩:=d.call ea g;have ga:=aa.k fa;refine⟨_,rfl,?_⟩;refine zqU hp (fun ha hp=>?_) fun ha hp=>?_
 ·obtain rfl:=oi hp;exact hq _ o .sl0 e.grw (Sl.nil _)
 refine⟨_,_,_,_,_,_,_,_,_,_,_,_,_,ga.bk.ra,?_⟩;obtain⟨Da,ia,hp⟩:=zqp hp;refine zwn (w:=a.1) (class_:=class_) e.pre za Aa A B D F G ia fun La h ja ka la=>?_;obtain⟨i,Ea⟩:=e.callG ka g;refine⟨_,_,rfl,?_⟩;refine zqU hp (fun ma hp=>?_) fun ma hp=>?_
 ·obtain rfl:=oi hp;exact hq _ h .sl0 i.grw (Sl.nil _)
 obtain rfl:=oi hp;exact hq _ h ja i.grw la
theorem zwA{l:List Int}{ca100:C}{m f:M}{Q:V->M->Prop}{rz:List Int}(hS:Pre f m)(ha100:Sl f ca100 l)(hp:zt1 l=some rz)(hq:∀m' f' c0,Grw m f m' f'->Sl f' c0 rz->Q (.c c0) m'):Wc prog tbl 50 [.c ca100] m Q:=by
 have z:=hS.st;obtain⟨A,_⟩:=zr3;refine w50 ?_;unfold zt1 at hp;intro B d;obtain⟨s,e,t,g⟩:=Ow.lit0 (α:=Int) z A 1 d;obtain⟨h,hp⟩:=zqq hp;obtain⟨a,i,u,j,n,w,o⟩:=g.appL zuS e ha100 h;refine⟨a,i,j,?_⟩;obtain⟨p,q,y,r⟩:=o.freeze n;obtain rfl:=oi hp;exact hq _ p a q.grw r
theorem zwB{r:Rg}{m f:M}{Q:V->M->Prop}{rz:Rg}(hS:Pre f m)(hp:zt2 r=some rz)(hq:∀m',Ext m m'->Q (.agg 2 [Il rz.Lo,Il rz.Hi]) m'):Wc prog tbl 36 [.agg 2 [Il r.Lo,Il r.Hi]] m Q:=by
 have w:=hS.st;obtain⟨y,_⟩:=zr3;refine w36 ?_;unfold zt2 at hp;intro z c;obtain⟨d,e,s,g⟩:=w.blk c y 1;intro A h;obtain⟨t,i,j,l⟩:=e.blk h d 2;have a:=g.k j;refine⟨trivial,_,a.bk.rc rfl,trivial,_,a.bk.rc rfl,?_⟩;obtain⟨n,o,p,u,q⟩:=l.sto i [Il r.Lo,Il r.Hi];refine⟨n,o,?_⟩;refine⟨_,_,q.bk.ra,?_⟩;obtain rfl:=oi hp;exact hq _ p.ext'
theorem zwC{r:Rl}{ca105:C}{m f:M}{Q:V->M->Prop}{rz:Rl}(hS:Pre f m)(ha105:Sl f ca105 r.Price)(hp:zt3 r=some rz)(hq:∀m' f' c5,Grw m f m' f'->Sl f' c5 rz.Price->Q (.agg 6 [Il rz.Classes,Il rz.Good,Il rz.Bad,Il rz.Rest,Il rz.Fewest,c5]) m'):Wc prog tbl 20 [.agg 6 [Il r.Classes,Il r.Good,Il r.Bad,Il r.Rest,Il r.Fewest,ca105]] m Q:=by
 have O:=hS.st;obtain⟨P,_⟩:=zr3;refine w20 ?_;unfold zt3 at hp;intro S h;obtain⟨i,j,I,n⟩:=O.blk h P 1;intro T o;obtain⟨p,d,q,s⟩:=j.blk o i 2;have a:=n.k q;refine⟨trivial,_,a.bk.rc rfl,trivial,_,a.bk.rc rfl,trivial,_,a.bk.rc rfl,trivial,_,a.bk.rc rfl,trivial,_,a.bk.rc rfl,trivial,_,a.bk.rc rfl,?_⟩;obtain⟨J,t,hp⟩:=zqp hp;refine zwA (l:=r.Price) d.pre ha105 t fun Y u e w y=>?_;obtain⟨z,g⟩:=d.callG w p;have c:=a.k g;have A:=s.k g;refine⟨_,rfl,(c.bk.rc rfl),(c.bk.rc rfl),(c.bk.rc rfl),(c.bk.rc rfl),(c.bk.rc rfl),?_⟩;obtain⟨B,D,F,N,G⟩:=A.sto z [Il r.Classes,Il r.Good,Il r.Bad,Il r.Rest,Il r.Fewest,e];refine⟨B,D,?_⟩;refine⟨_,_,_,_,_,_,G.bk.ra,?_⟩;obtain rfl:=oi hp;exact hq _ u e F.grw y
theorem zwD{z:Zn}{ca101:C}{m f:M}{Q:V->M->Prop}{rz:Zn}(hS:Pre f m)(ha101:Sl f ca101 z.Years)(hp:zt5 z=some rz)(hq:∀m' f' c1,Grw m f m' f'->Sl f' c1 rz.Years->Q (.agg 2 [Il rz.First,c1]) m'):Wc prog tbl 21 [.agg 2 [Il z.First,ca101]] m Q:=by
 have S0:=hS.st;obtain⟨τ0,_⟩:=zr3;refine w21 ?_;unfold zt5 at hp;intro m0 ka;obtain⟨la,ma,Ab,na⟩:=S0.blk ka τ0 1;intro m1 oa;obtain⟨pa,qa,sa,ta⟩:=ma.blk oa la 2;have T:=na.k sa;refine⟨trivial,_,T.bk.rc rfl,?_⟩;intro m3 ua;obtain⟨va,wa,Y,xa⟩:=qa.blk ua pa 3;have ya:=T.k Y;have za:=ta.k Y;obtain⟨Aa,Ba,Ca,Z,n⟩:=xa.sto wa [Il z.First,.sl0];have h:=ya.k Z;have o:=za.k Z;refine⟨Aa,Ba,?_⟩;intro R5 yb
 have hgo:∀(t:Nat) (x6:Int) (i:C) (l:Int) (u:List Yr) (P:M) (g:Nat->Nat),St (Fm.of m) f f P->Lb (Fm.of m) f g P 1 m.nxt 2 [Il z.First,ca101]->Lb (Fm.of m) f g P 2 m0.nxt 2 [Il 0,.sl0]->Lb (Fm.of m) f g P 3 m1.nxt 2 [Il l,i]->Ow (Fm.of m) f g P 4 i u->zt4 z t l u x6=some rz->R5 [.c (Il x6)] P:=by
  intro t
  induction t with
  | zero=>intro x6 i l u P g w h o n d hp; cases hp
  | succ t xb=>
   intro x6 i l u P g w h o n d hp;refine yb _ _ ?_;rw[zt4] at hp;refine⟨trivial,_,h.bk.rc rfl,ha101.isSl,?_⟩
   try rw[ha101.slLen]
   refine ifd hp (fun Ea hp=>?_) fun Ea hp=>?_; rotate_left
   ·refine⟨_,_,n.bk.ra,?_⟩;obtain⟨Fa,Ga,Ha,Ia,Ja⟩:=o.sto w [Il l,i];have d:=d.k Ia;refine⟨Fa,Ga,?_⟩;refine⟨_,_,Ja.bk.ra,?_⟩;obtain⟨Ka,La,Bb,Ma⟩:=d.freeze Ha;obtain rfl:=oi hp;exact hq _ Ka i La.grw Ma
   refine⟨trivial,_,h.bk.rc rfl,?_⟩;obtain⟨e,D,hp⟩:=zqp hp;obtain⟨zb,ja,S,D⟩:=zqj D;obtain⟨_,Na⟩:=zr8 ha101 D;refine⟨zb,ja,(by first|exact S|(rw[ha101.slLen];exact S)),_,_,_,_,_,_,(Na _ w.sub).1,?_⟩;intro Hb Oa;obtain⟨aa,Pa,y,Qa⟩:=w.blk Oa g 5;have Ra:=h.k y;have Sa:=o.k y;have Ta:=n.k y;have d:=d.k y;obtain⟨Ua,Va,ba,A,p⟩:=Qa.sto Pa [Il e.Losses.Lo,Il e.Losses.Hi,Il e.Premiums.Lo,Il e.Premiums.Hi,Il e.Parcels,.bool e.Exempt];have Wa:=Ra.k A;have Xa:=Sa.k A;have ca:=Ta.k A;have d:=d.k A;refine⟨Ua,Va,?_⟩;refine⟨trivial,_,ca.bk.rc rfl,trivial,_,_,p.bk.rp (k:=0) (j:=2) rfl (by omega),?_⟩;obtain⟨da,Ya,hp⟩:=zqp hp;refine zwB (r:=e.Losses) ba.pre  Ya fun Ib Za=>?_;obtain⟨ea,q⟩:=ba.call Za aa;have ab:=Wa.k q;have bb:=Xa.k q;have fa:=ca.k q;have B:=p.k q;have d:=d.k q;refine⟨_,_,rfl,(by rw[show cmC _=true from zoU (d.noFn)]; exact(fa.bk.rc rfl)),trivial,_,_,B.bk.rp (k:=2) (j:=2) rfl (by omega),(p.bk.rp (k:=2) (j:=2) rfl (by omega)),?_⟩;obtain⟨ga,cb,hp⟩:=zqp hp;refine zwB (r:=e.Premiums) ea.pre  cb fun Jb db=>?_;obtain⟨eb,s⟩:=ea.call db aa;have fb:=ab.k s;have gb:=bb.k s;have F:=fa.k s;have ha:=B.k s;have d:=d.k s;refine⟨_,_,rfl,(by rw[show cmC _=true from zoU (d.noFn)]; exact(F.bk.rc rfl)),trivial,_,ha.bk.rc rfl,(B.bk.rc rfl),(p.bk.rc rfl),trivial,_,ha.bk.rc rfl,(B.bk.rc rfl),(p.bk.rc rfl),?_⟩;obtain⟨hb,hp⟩:=zqq hp;intro Kb ia;refine⟨(by rw[show cmC _=true from zoU (d.noFn)]; exact(F.bk.ext (Bk.new ia).2).rc rfl),?_⟩;obtain⟨G,ib,jb,kb,mb,I,J⟩:=d.app' zwq eb (a:=({ Losses:=da,Premiums:=ga,Parcels:=e.Parcels,Exempt:=e.Exempt }:Yr)) (show Rp.rep (α:=Yr) f _ ({ Losses:=da,Premiums:=ga,Parcels:=e.Parcels,Exempt:=e.Exempt }:Yr) from rfl) hb ia
   have ob:=fb.k I;have pb:=gb.k I;have qb:=F.k I;refine⟨G,ib,kb,?_⟩;refine⟨trivial,?_⟩;obtain⟨rb,sb,tb,N,O⟩:=qb.sto1 mb 1 G (by simp) rfl
   replace O:Lb _ _ _ _ _ _ _ [Il l,G]:=O
   have ub:=ob.k N;have vb:=pb.k N;have J:=J.k N;refine⟨rb,sb,?_⟩;refine gdi hp fun wb hp=>?_;exact xb _ _ _ _ _ jb tb ub vb O J hp
 exact hgo _ _ _ _ _ _ va Ca h o n (Ow.nil _ _ _ _ _) hp
theorem zwE{t:Tr}{ca100 ca101:C}{m f:M}{Q:V->M->Prop}{rz:Tr}(hS:Pre f m)(ha100:Sl f ca100 t.Losses)(ha101:Sl f ca101 t.Premiums)(hp:zt6 t=some rz)(hq:∀m' f' c0 c1,Grw m f m' f'->Sl f' c0 rz.Losses->Sl f' c1 rz.Premiums->Q (.agg 2 [c0,c1]) m'):Wc prog tbl 22 [.agg 2 [ca100,ca101]] m Q:=by
 have S0:=hS.st;obtain⟨τ0,_⟩:=zr3;refine w22 ?_;unfold zt6 at hp;intro m0 n;obtain⟨o,p,Y,q⟩:=S0.blk n τ0 1;intro m1 r;obtain⟨d,e,s,u⟩:=p.blk r o 2;have a:=q.k s;refine⟨trivial,_,a.bk.rc rfl,?_⟩;obtain⟨Z,w,hp⟩:=zqp hp;refine zwA (l:=t.Losses) e.pre ha100 w fun m4 aa g y z=>?_;obtain⟨h,c⟩:=e.callG y d;have A:=a.k c;have B:=u.k c;refine⟨_,rfl,trivial,_,A.bk.rc rfl,(by rw[show cmC _=true from zoU (ha101.noFn)]; exact(a.bk.rc rfl)),?_⟩;obtain⟨ba,D,hp⟩:=zqp hp;refine zwA (l:=t.Premiums) h.pre (ha101.sub c.fs) D fun m8 F i G I=>?_;obtain⟨J,j⟩:=h.callG G d;have N:=B.k j;refine⟨_,rfl,?_⟩;obtain⟨O,P,S,ca,T⟩:=N.sto J [g,i];refine⟨O,P,?_⟩;refine⟨_,_,T.bk.ra,?_⟩;obtain rfl:=oi hp;exact hq _ F g i S.grw (z.sub j.fs) I
theorem zwF{r:Rl}{z:Zn}{ca105 ca201:C}{m f:M}{Q:V->M->Prop}{rz:Bool}(hS:Pre f m)(ha105:Sl f ca105 r.Price)(ha201:Sl f ca201 z.Years)(hp:zt7 r z=some rz)(hq:∀m',Ext m m'->Q (.c (.bool rz)) m'):Wc prog tbl 17 [.agg 6 [Il r.Classes,Il r.Good,Il r.Bad,Il r.Rest,Il r.Fewest,ca105],.agg 2 [Il z.First,ca201]] m Q:=by
 have s:=hS.st;obtain⟨t,_⟩:=zr3;refine w17 ?_;unfold zt7 at hp;intro u d;obtain⟨e,g,p,h⟩:=s.blk d t 1;intro w i;obtain⟨q,a,j,l⟩:=g.blk i e 2;have n:=h.k j;refine⟨trivial,_,n.bk.rc rfl,ha105.isSl,?_⟩
 try rw[ha105.slLen]
 refine ifd hp (fun o hp=>?_) fun o hp=>?_; rotate_left
 ·obtain rfl:=oi hp;exact hq _ a.ext'
 refine⟨trivial,_,l.bk.rc rfl,ha201.isSl,?_⟩
 try rw[ha201.slLen]
 obtain rfl:=oi hp;exact hq _ a.ext'
theorem zwG{r:Rl}{z:Zn}{ca105 ca201:C}{m f:M}{Q:V->M->Prop}{rz:Int}(hS:Pre f m)(ha105:Sl f ca105 r.Price)(ha201:Sl f ca201 z.Years)(hp:zt8 r z=some rz)(hq:∀m',Ext m m'->Q (.c (Il rz)) m'):Wc prog tbl 24 [.agg 6 [Il r.Classes,Il r.Good,Il r.Bad,Il r.Rest,Il r.Fewest,ca105],.agg 2 [Il z.First,ca201]] m Q:=by
 have y:=hS.st;obtain⟨A,_⟩:=zr3;refine w24 ?_;unfold zt8 at hp;intro D d;obtain⟨e,g,t,h⟩:=y.blk d A 1;intro F i;obtain⟨j,a,l,n⟩:=g.blk i e 2;have o:=h.k l;refine⟨_,_,_,_,_,_,o.bk.ra,_,_,n.bk.ra,?_⟩;obtain⟨u,p,hp⟩:=zqp hp;refine zuW (r:=r) (z:=z) a.pre ha105 ha201 p fun B q=>?_;obtain⟨s,w⟩:=a.call q j;refine⟨_,rfl,?_⟩;obtain rfl:=oi hp;exact hq _ s.ext'
theorem zwH{low:Int}{high:Int}{m f:M}{Q:V->M->Prop}{rz:Rg}(hS:Pre f m)(hp:zt9 low high=some rz)(hq:∀m',Ext m m'->Q (.agg 2 [Il rz.Lo,Il rz.Hi]) m'):Wc prog tbl 48 [.c (Il low),.c (Il high)] m Q:=by
 have p:=hS.st;obtain⟨q,_⟩:=zr3;refine w48 ?_;unfold zt9 at hp;intro r a;obtain⟨l,d,n,e⟩:=p.blk a q 1;obtain⟨g,h,i,o,j⟩:=e.sto d [Il low,Il high];refine⟨g,h,?_⟩;refine⟨_,_,j.bk.ra,?_⟩;obtain rfl:=oi hp;exact hq _ i.ext'
theorem zwI{m f:M}{Q:V->M->Prop}{rz:Rl}(hS:Pre f m)(hp:zua=some rz)(hq:∀m' f' c5,Grw m f m' f'->Sl f' c5 rz.Price->Q (.agg 6 [Il rz.Classes,Il rz.Good,Il rz.Bad,Il rz.Rest,Il rz.Fewest,c5]) m'):Wc prog tbl 42 [] m Q:=by
 have G:=hS.st;obtain⟨I,_⟩:=zr3;refine w42 ?_;unfold zua at hp;intro A d;obtain⟨e,g,B,h⟩:=G.blk d I 1;intro J i;obtain⟨D,j,n,o⟩:=g.blk i e 2;have p:=h.k n;obtain⟨q,r,s,t,u⟩:=p.sto j [(Il (4:Int)),(Il (40:Int)),(Il (120:Int)),(Il (1:Int)),(Il (5:Int)),(C.sl A.nxt 0 4 0 (Option.some 4))];have w:=o.k t;refine⟨q,r,?_⟩;refine⟨_,_,_,_,_,_,u.bk.ra,?_⟩;obtain⟨a,y,F,c⟩:=w.freeze s;have z:Sl a (C.sl A.nxt 0 4 0 (Option.some 4)) ([(10:Int),(20:Int),(40:Int),(80:Int)]:List Int):=Bk.sl (α:=Int) (l:=([(10:Int),(20:Int),(40:Int),(80:Int)]:List Int)) c (show Cat (α:=Int) a [(Il (10:Int)),(Il (20:Int)),(Il (40:Int)),(Il (80:Int))] ([(10:Int),(20:Int),(40:Int),(80:Int)]:List Int) from ⟨[(Il (10:Int))],_,rfl,rfl,⟨[(Il (20:Int))],_,rfl,rfl,⟨[(Il (40:Int))],_,rfl,rfl,⟨[(Il (80:Int))],_,rfl,rfl,rfl⟩⟩⟩⟩) rfl rfl _;obtain rfl:=oi hp;exact hq _ a (C.sl A.nxt 0 4 0 (Option.some 4)) y.grw z
theorem zwJ{m f:M}{Q:V->M->Prop}{rz:Zn}(hS:Pre f m)(hp:zub=some rz)(hq:∀m' f' c1,Grw m f m' f'->Sl f' c1 rz.Years->Q (.agg 2 [Il rz.First,c1]) m'):Wc prog tbl 43 [] m Q:=by
 have S0:=hS.st;obtain⟨τ0,_⟩:=zr3;refine w43 ?_;unfold zub at hp;intro m0 I;obtain⟨a,r,Wa,J⟩:=S0.blk I τ0 1;obtain⟨c,N,hp⟩:=zqp hp;refine zwH (low:=(50:Int)) (high:=(50:Int)) r.pre  N fun m2 O=>?_;obtain⟨s,P⟩:=r.call O a;have S:=J.k P;refine⟨_,_,rfl,?_⟩;obtain⟨d,T,hp⟩:=zqp hp;refine zwH (low:=(100:Int)) (high:=(102:Int)) s.pre  T fun m6 Y=>?_;obtain⟨t,Z⟩:=s.call Y a;have aa:=S.k Z;refine⟨_,_,rfl,?_⟩;obtain⟨e,ba,hp⟩:=zqp hp;refine zwH (low:=(130:Int)) (high:=(131:Int)) t.pre  ba fun bb ca=>?_;obtain⟨u,da⟩:=t.call ca a;have ea:=aa.k da;refine⟨_,_,rfl,?_⟩;obtain⟨g,fa,hp⟩:=zqp hp;refine zwH (low:=(108:Int)) (high:=(109:Int)) u.pre  fa fun cb ga=>?_;obtain⟨w,ha⟩:=u.call ga a;have ia:=ea.k ha;refine⟨_,_,rfl,?_⟩;obtain⟨h,ja,hp⟩:=zqp hp;refine zwH (low:=(10:Int)) (high:=(10:Int)) w.pre  ja fun db ka=>?_;obtain⟨y,la⟩:=w.call ka a;have ma:=ia.k la;refine⟨_,_,rfl,?_⟩;obtain⟨i,na,hp⟩:=zqp hp;refine zwH (low:=(100:Int)) (high:=(100:Int)) y.pre  na fun eb oa=>?_;obtain⟨z,pa⟩:=y.call oa a;have qa:=ma.k pa;refine⟨_,_,rfl,?_⟩;obtain⟨j,sa,hp⟩:=zqp hp;refine zwH (low:=(30:Int)) (high:=(30:Int)) z.pre  sa fun fb ta=>?_;obtain⟨A,ua⟩:=z.call ta a;have va:=qa.k ua;refine⟨_,_,rfl,?_⟩;obtain⟨n,wa,hp⟩:=zqp hp;refine zwH (low:=(100:Int)) (high:=(100:Int)) A.pre  wa fun gb xa=>?_;obtain⟨B,ya⟩:=A.call xa a;have za:=va.k ya;refine⟨_,_,rfl,?_⟩;obtain⟨o,Aa,hp⟩:=zqp hp;refine zwH (low:=(39:Int)) (high:=(41:Int)) B.pre  Aa fun hb Ba=>?_
 obtain⟨D,Ca⟩:=B.call Ba a;have Da:=za.k Ca;refine⟨_,_,rfl,?_⟩;obtain⟨p,Ea,hp⟩:=zqp hp;refine zwH (low:=(100:Int)) (high:=(100:Int)) D.pre  Ea fun F Fa=>?_;obtain⟨Ga,Ha⟩:=D.call Fa a;have Ia:=Da.k Ha;refine⟨_,_,rfl,?_⟩;intro ib Ja;obtain⟨Xa,Ka,La,Ma⟩:=Ga.blk Ja a 2;have Na:=Ia.k La;obtain⟨Oa,Pa,Qa,Ra,Sa⟩:=Na.sto Ka [(Il (1:Int)),(C.sl F.nxt 0 5 0 (Option.some 5))];have Ta:=Ma.k Ra;refine⟨Oa,Pa,?_⟩;refine⟨_,_,Sa.bk.ra,?_⟩;obtain⟨q,Ua,Ya,G⟩:=Ta.freeze Qa;have Va:Sl q (C.sl F.nxt 0 5 0 (Option.some 5)) ([({ Losses:=c,Premiums:=d,Parcels:=(9:Int),Exempt:=false }:Yr),({ Losses:=e,Premiums:=g,Parcels:=(9:Int),Exempt:=false }:Yr),({ Losses:=h,Premiums:=i,Parcels:=(3:Int),Exempt:=false }:Yr),({ Losses:=j,Premiums:=n,Parcels:=(9:Int),Exempt:=false }:Yr),({ Losses:=o,Premiums:=p,Parcels:=(9:Int),Exempt:=false }:Yr)]:List Yr):=Bk.sl (α:=Yr) (l:=([({ Losses:=c,Premiums:=d,Parcels:=(9:Int),Exempt:=false }:Yr),({ Losses:=e,Premiums:=g,Parcels:=(9:Int),Exempt:=false }:Yr),({ Losses:=h,Premiums:=i,Parcels:=(3:Int),Exempt:=false }:Yr),({ Losses:=j,Premiums:=n,Parcels:=(9:Int),Exempt:=false }:Yr),({ Losses:=o,Premiums:=p,Parcels:=(9:Int),Exempt:=false }:Yr)]:List Yr)) G (show Cat (α:=Yr) q [Il c.Lo,Il c.Hi,Il d.Lo,Il d.Hi,(Il (9:Int)),.bool false,Il e.Lo,Il e.Hi,Il g.Lo,Il g.Hi,(Il (9:Int)),.bool false,Il h.Lo,Il h.Hi,Il i.Lo,Il i.Hi,(Il (3:Int)),.bool false,Il j.Lo,Il j.Hi,Il n.Lo,Il n.Hi,(Il (9:Int)),.bool false,Il o.Lo,Il o.Hi,Il p.Lo,Il p.Hi,(Il (9:Int)),.bool false] ([({ Losses:=c,Premiums:=d,Parcels:=(9:Int),Exempt:=false }:Yr),({ Losses:=e,Premiums:=g,Parcels:=(9:Int),Exempt:=false }:Yr),({ Losses:=h,Premiums:=i,Parcels:=(3:Int),Exempt:=false }:Yr),({ Losses:=j,Premiums:=n,Parcels:=(9:Int),Exempt:=false }:Yr),({ Losses:=o,Premiums:=p,Parcels:=(9:Int),Exempt:=false }:Yr)]:List Yr) from ⟨[Il c.Lo,Il c.Hi,Il d.Lo,Il d.Hi,(Il (9:Int)),.bool false],_,rfl,rfl,⟨[Il e.Lo,Il e.Hi,Il g.Lo,Il g.Hi,(Il (9:Int)),.bool false],_,rfl,rfl,⟨[Il h.Lo,Il h.Hi,Il i.Lo,Il i.Hi,(Il (3:Int)),.bool false],_,rfl,rfl,⟨[Il j.Lo,Il j.Hi,Il n.Lo,Il n.Hi,(Il (9:Int)),.bool false],_,rfl,rfl,⟨[Il o.Lo,Il o.Hi,Il p.Lo,Il p.Hi,(Il (9:Int)),.bool false],_,rfl,rfl,rfl⟩⟩⟩⟩⟩) rfl rfl _
 obtain rfl:=oi hp;exact hq _ q (C.sl F.nxt 0 5 0 (Option.some 5)) Ua.grw Va
theorem zwK{m f:M}{Q:V->M->Prop}{rz:Bool}(hS:Pre f m)(hp:zuc=some rz)(hq:∀m',Ext m m'->Q (.c (.bool rz)) m'):Wc prog tbl 18 [] m Q:=by
 have S0:=hS.st;obtain⟨g,_⟩:=zr3;refine w18 ?_;unfold zuc at hp;obtain⟨Ga,Ha,hp⟩:=zqp hp;refine zwI S0.pre  Ha fun m1 Td Ud Ia Ja=>?_;obtain⟨F,Vd⟩:=S0.callG Ia g;refine⟨_,_,_,_,_,_,rfl,?_⟩;obtain⟨Ka,La,hp⟩:=zqp hp;refine zwJ F.pre  La fun m9 Wd Xd Ma Na=>?_;obtain⟨G,Oa⟩:=F.callG Ma g;refine⟨_,_,rfl,?_⟩;obtain⟨Pa,Qa,hp⟩:=zqp hp;refine zwv (r:=Ga) (z:=Ka) (year:=(3:Int)) G.pre (Ja.sub Oa.fs) Na Qa fun hf Yd Zd Ra Sa=>?_;obtain⟨I,ae⟩:=G.callG Ra g;refine⟨_,_,rfl,?_⟩;obtain⟨Ta,Ua,hp⟩:=zqp hp;refine zwI I.pre  Ua fun jf be ce Va Wa=>?_;obtain⟨J,Xa⟩:=I.callG Va g;refine⟨_,_,_,_,_,_,rfl,?_⟩;obtain⟨Ya,Za,hp⟩:=zqp hp;refine zwJ J.pre  Za fun kf de ee ab bb=>?_;obtain⟨N,O⟩:=J.callG ab g;refine⟨_,_,rfl,?_⟩;obtain⟨cb,db,hp⟩:=zqp hp;refine zwv (r:=Ta) (z:=Ya) (year:=(4:Int)) N.pre (Wa.sub O.fs) bb db fun lf fe ge eb fb=>?_;obtain⟨P,gb⟩:=N.callG eb g;refine⟨_,_,rfl,?_⟩;obtain⟨hb,ib,hp⟩:=zqp hp;refine zwI P.pre  ib fun mf he ie jb kb=>?_;obtain⟨S,T⟩:=P.callG jb g;refine⟨_,_,_,_,_,_,rfl,?_⟩;obtain⟨mb,ob,hp⟩:=zqp hp;refine zwJ S.pre  ob fun nf je ke pb qb=>?_;obtain⟨Y,q⟩:=S.callG pb g;refine⟨_,_,rfl,?_⟩;obtain⟨me,rb,hp⟩:=zqp hp;refine zww (r:=hb) (z:=mb) (year:=(0:Int)) Y.pre (kb.sub q.fs) qb rb fun pf sb=>?_;obtain⟨Z,oe⟩:=Y.call sb g;refine⟨_,_,rfl,?_⟩;obtain⟨tb,ub,hp⟩:=zqp hp;refine zwI Z.pre  ub fun qf pe qe vb wb=>?_;obtain⟨aa,ba⟩:=Z.callG vb g;refine⟨_,_,_,_,_,_,rfl,?_⟩;obtain⟨xb,yb,hp⟩:=zqp hp;refine zwJ aa.pre  yb fun rf re se zb Ab=>?_
 obtain⟨ca,s⟩:=aa.callG zb g;refine⟨_,_,rfl,?_⟩;obtain⟨te,Bb,hp⟩:=zqp hp;refine zww (r:=tb) (z:=xb) (year:=(3:Int)) ca.pre (wb.sub s.fs) Ab Bb fun sf Cb=>?_;obtain⟨da,ue⟩:=ca.call Cb g;refine⟨_,_,rfl,?_⟩;obtain⟨Db,Eb,hp⟩:=zqp hp;refine zwI da.pre  Eb fun tf ve we Fb Gb=>?_;obtain⟨ea,fa⟩:=da.callG Fb g;refine⟨_,_,_,_,_,_,rfl,?_⟩;obtain⟨Hb,Ib,hp⟩:=zqp hp;refine zwJ ea.pre  Ib fun uf xe ye Jb Kb=>?_;obtain⟨ga,t⟩:=ea.callG Jb g;refine⟨_,_,rfl,?_⟩;obtain⟨ha,Mb,hp⟩:=zqp hp;refine zwx (r:=Db) (z:=Hb) ga.pre (Gb.sub t.fs) Kb Mb fun vf Nb=>?_;obtain⟨Ob,ze⟩:=ga.call Nb g;refine⟨_,_,_,rfl,?_⟩;intro wf Pb;obtain⟨e,Qb,Ae,Rb⟩:=Ob.blk Pb g 1;obtain⟨Sb,Tb,ia,Be,Ub⟩:=Rb.sto Qb [Il ha.1.Lo,Il ha.1.Hi];refine⟨Sb,Tb,?_⟩;obtain⟨Vb,Wb,hp⟩:=zqp hp;refine zwI ia.pre  Wb fun xf Ce De Xb Yb=>?_;obtain⟨ja,u⟩:=ia.callG Xb e;have Zb:=Ub.k u;refine⟨_,_,_,_,_,_,rfl,?_⟩;obtain⟨ac,bc,hp⟩:=zqp hp;refine zwJ ja.pre  bc fun yf Ee Fe cc dc=>?_;obtain⟨ka,j⟩:=ja.callG cc e;have ec:=Zb.k j;refine⟨_,_,rfl,?_⟩;obtain⟨fc,gc,hp⟩:=zqp hp;refine zwy (r:=Vb) (z:=ac) ka.pre (Yb.sub j.fs) dc gc fun zf Ge He hc ic=>?_;obtain⟨la,w⟩:=ka.callG hc e;have jc:=ec.k w;refine⟨_,_,rfl,?_⟩;obtain⟨kc,nc,hp⟩:=zqp hp;refine zwI la.pre  nc fun Ye Ie Je oc pc=>?_;obtain⟨ma,n⟩:=la.callG oc e;have qc:=jc.k n;refine⟨_,_,_,_,_,_,rfl,?_⟩;obtain⟨sc,tc,hp⟩:=zqp hp;refine zwJ ma.pre  tc fun Ze Ke Me uc vc=>?_;obtain⟨na,h⟩:=ma.callG uc e;have wc:=qc.k h;refine⟨_,_,rfl,?_⟩;obtain⟨xc,yc,hp⟩:=zqp hp
 refine zwz (r:=kc) (z:=sc) (class_:=(3:Int)) na.pre (pc.sub h.fs) vc yc fun Od Ne Oe zc Ac=>?_;obtain⟨oa,o⟩:=na.callG zc e;have Bc:=wc.k o;refine⟨_,_,rfl,?_⟩;refine ifd hp (fun Cc hp=>?_) fun Cc hp=>?_; rotate_left
 ·obtain rfl:=oi hp;exact hq _ oa.ext'
 intro af Dc;obtain⟨pa,Ec,Fc,Gc⟩:=oa.blk Dc e 2;have Hc:=Bc.k Fc;obtain⟨qa,sa,i,Ca⟩:=Gc.freeze Ec;have Ic:=Hc.k i;have Jc:Sl qa (C.sl Od.nxt 0 2 0 (Option.some 2)) ([(0:Int),(2:Int)]:List Int):=Bk.sl (α:=Int) (l:=([(0:Int),(2:Int)]:List Int)) Ca (show Cat (α:=Int) qa [Il 0,(Il (2:Int))] ([(0:Int),(2:Int)]:List Int) from ⟨[Il 0],_,rfl,rfl,⟨[(Il (2:Int))],_,rfl,rfl,rfl⟩⟩) rfl rfl _;obtain⟨Pe,Kc,hp⟩:=zqp hp;refine zuZ (a:=Pa.1) (b:=([(0:Int),(2:Int)]:List Int)) sa.pre (Sa.sub (Sub.trans (Sub.trans (Sub.trans (Sub.trans (Sub.trans (Sub.trans (Sub.trans (Sub.trans (Sub.trans (Sub.trans (Sub.trans (Sub.trans (Sub.trans (Sub.trans (Sub.trans Xa.fs O.fs) gb.fs) T.fs) q.fs) ba.fs) s.fs) fa.fs) t.fs) u.fs) j.fs) w.fs) n.fs) h.fs) o.fs) i.fs)) Jc Kc fun Pd Nc=>?_;obtain⟨y,Oc⟩:=sa.call Nc pa;have Pc:=Ic.k Oc;refine⟨_,rfl,?_⟩;refine zqT hp (fun Qc hp=>?_) fun Qc hp=>?_; rotate_left
 ·obtain rfl:=oi hp;exact hq _ y.ext'
 refine ifd hp (fun Rc hp=>?_) fun Rc hp=>?_; rotate_left
 ·obtain rfl:=oi hp;exact hq _ y.ext'
 intro bf Tc;obtain⟨A,Uc,Vc,Xc⟩:=y.blk Tc pa 3;have Yc:=Pc.k Vc;obtain⟨ta,ua,p,Da⟩:=Xc.freeze Uc;have Zc:=Yc.k p;have ad:Sl ta (C.sl Pd.nxt 0 3 0 (Option.some 3)) ([(0:Int),(1:Int),(2:Int)]:List Int):=Bk.sl (α:=Int) (l:=([(0:Int),(1:Int),(2:Int)]:List Int)) Da (show Cat (α:=Int) ta [Il 0,(Il (1:Int)),(Il (2:Int))] ([(0:Int),(1:Int),(2:Int)]:List Int) from ⟨[Il 0],_,rfl,rfl,⟨[(Il (1:Int))],_,rfl,rfl,⟨[(Il (2:Int))],_,rfl,rfl,rfl⟩⟩⟩) rfl rfl _;obtain⟨Qe,bd,hp⟩:=zqp hp;refine zuZ (a:=cb.1) (b:=([(0:Int),(1:Int),(2:Int)]:List Int)) ua.pre (fb.sub (Sub.trans (Sub.trans (Sub.trans (Sub.trans (Sub.trans (Sub.trans (Sub.trans (Sub.trans (Sub.trans (Sub.trans (Sub.trans (Sub.trans (Sub.trans T.fs q.fs) ba.fs) s.fs) fa.fs) t.fs) u.fs) j.fs) w.fs) n.fs) h.fs) o.fs) i.fs) p.fs)) ad bd fun cf cd=>?_;obtain⟨d,dd⟩:=ua.call cd A;have va:=Zc.k dd;refine⟨_,rfl,?_⟩;refine zqT hp (fun ed hp=>?_) fun ed hp=>?_; rotate_left
 ·obtain rfl:=oi hp;exact hq _ d.ext'
 refine ifd hp (fun fd hp=>?_) fun fd hp=>?_; rotate_left
 ·obtain rfl:=oi hp;exact hq _ d.ext'
 refine ifd hp (fun hd hp=>?_) fun hd hp=>?_; rotate_left
 ·obtain rfl:=oi hp;exact hq _ d.ext'
 refine ifd hp (fun id hp=>?_) fun id hp=>?_; rotate_left
 ·obtain rfl:=oi hp;exact hq _ d.ext'
 refine ifd hp (fun jd hp=>?_) fun jd hp=>?_; rotate_left
 ·obtain rfl:=oi hp;exact hq _ d.ext'
 refine ifd hp (fun kd hp=>?_) fun kd hp=>?_; rotate_left
 ·obtain rfl:=oi hp;exact hq _ d.ext'
 refine⟨_,_,va.bk.ra,?_⟩;obtain⟨Re,ld,hp⟩:=zqp hp;refine zwH (low:=(10:Int)) (high:=(40:Int)) d.pre  ld fun Qd md=>?_;obtain⟨B,nd⟩:=d.call md A;have od:=va.k nd;refine⟨_,_,rfl,(od.bk.ra),?_⟩;refine gdi hp fun pd hp=>?_;refine gdi hp fun qd hp=>?_;refine gdi hp fun sd hp=>?_;refine gdi hp fun td hp=>?_;refine zqT hp (fun ud hp=>?_) fun ud hp=>?_; rotate_left
 ·obtain rfl:=oi hp;exact hq _ B.ext'
 refine ifd hp (fun vd hp=>?_) fun vd hp=>?_; rotate_left
 ·obtain rfl:=oi hp;exact hq _ B.ext'
 intro df wd;obtain⟨wa,xd,Se,yd⟩:=B.blk wd A 4;obtain⟨xa,ya,za,Ea⟩:=yd.freeze xd;have zd:Sl xa (C.sl Qd.nxt 0 2 0 (Option.some 2)) ([(1:Int),(4:Int)]:List Int):=Bk.sl (α:=Int) (l:=([(1:Int),(4:Int)]:List Int)) Ea (show Cat (α:=Int) xa [(Il (1:Int)),(Il (4:Int))] ([(1:Int),(4:Int)]:List Int) from ⟨[(Il (1:Int))],_,rfl,rfl,⟨[(Il (4:Int))],_,rfl,rfl,rfl⟩⟩) rfl rfl _;obtain⟨Te,Ad,hp⟩:=zqp hp;refine zuZ (a:=fc.1) (b:=([(1:Int),(4:Int)]:List Int)) ya.pre (ic.sub (Sub.trans (Sub.trans (Sub.trans (Sub.trans (Sub.trans n.fs h.fs) o.fs) i.fs) p.fs) za.fs)) zd Ad fun Rd Bd=>?_;obtain⟨D,Ue⟩:=ya.call Bd wa;refine⟨_,rfl,?_⟩;refine zqT hp (fun Cd hp=>?_) fun Cd hp=>?_; rotate_left
 ·obtain rfl:=oi hp;exact hq _ D.ext'
 refine ifd hp (fun Dd hp=>?_) fun Dd hp=>?_; rotate_left
 ·obtain rfl:=oi hp;exact hq _ D.ext'
 intro ef Ed;obtain⟨Fd,Gd,Ve,Hd⟩:=D.blk Ed wa 5;obtain⟨Aa,Ba,Id,Fa⟩:=Hd.freeze Gd;have Jd:Sl Aa (C.sl Rd.nxt 0 1 0 (Option.some 1)) ([(0:Int)]:List Int):=Bk.sl (α:=Int) (l:=([(0:Int)]:List Int)) Fa (show Cat (α:=Int) Aa [Il 0] ([(0:Int)]:List Int) from ⟨[Il 0],_,rfl,rfl,rfl⟩) rfl rfl _;obtain⟨We,Ld,hp⟩:=zqp hp;refine zuZ (a:=xc.1) (b:=([(0:Int)]:List Int)) Ba.pre (Ac.sub (Sub.trans (Sub.trans (Sub.trans i.fs p.fs) za.fs) Id.fs)) Jd Ld fun gf Md=>?_;obtain⟨Nd,Xe⟩:=Ba.call Md Fd;refine⟨_,rfl,?_⟩;obtain rfl:=oi hp;exact hq _ Nd.ext'
theorem zwL{r:Rl}{z:Zn}{ca105 ca201:C}{m f:M}{Q:V->M->Prop}{rz:Bool}(hS:Pre f m)(ha105:Sl f ca105 r.Price)(ha201:Sl f ca201 z.Years)(hp:zud r z=some rz)(hq:∀m',Ext m m'->Q (.c (.bool rz)) m'):Wc prog tbl 44 [.agg 6 [Il r.Classes,Il r.Good,Il r.Bad,Il r.Rest,Il r.Fewest,ca105],.agg 2 [Il z.First,ca201]] m Q:=by
 have N:=hS.st;obtain⟨O,_⟩:=zr3;refine w44 ?_;unfold zud at hp;intro T j;obtain⟨l,n,F,o⟩:=N.blk j O 1;intro Y p;obtain⟨d,e,q,g⟩:=n.blk p l 2;have h:=o.k q;refine⟨_,_,_,_,_,_,h.bk.ra,_,_,g.bk.ra,?_⟩;obtain⟨G,s,hp⟩:=zqp hp;refine zwF (r:=r) (z:=z) e.pre ha105 ha201 s fun P t=>?_;obtain⟨a,i⟩:=e.call t d;have u:=h.k i;have w:=g.k i;refine⟨_,rfl,?_⟩;refine zqT hp (fun y hp=>?_) fun y hp=>?_; rotate_left
 ·obtain rfl:=oi hp;exact hq _ a.ext'
 refine⟨_,_,_,_,_,_,u.bk.ra,_,_,w.bk.ra,?_⟩;obtain⟨I,A,hp⟩:=zqp hp;refine zwG (r:=r) (z:=z) a.pre ha105 ha201 A fun S B=>?_;obtain⟨D,J⟩:=a.call B d;refine⟨_,rfl,?_⟩;obtain rfl:=oi hp;exact hq _ D.ext'
theorem zwM{z:Zn}{words:List W8}{ca101 ca200:C}{m f:M}{Q:V->M->Prop}{rz:Tr}(hS:Pre f m)(ha101:Sl f ca101 z.Years)(ha200:Sl f ca200 words)(hp:zuf z words=some rz)(hq:∀m' f' c0 c1,Grw m f m' f'->Sl f' c0 rz.Losses->Sl f' c1 rz.Premiums->Q (.agg 2 [c0,c1]) m'):Wc prog tbl 45 [.agg 2 [Il z.First,ca101],.c ca200] m Q:=by
 have S0:=hS.st;obtain⟨τ0,_⟩:=zr3;refine w45 ?_;unfold zuf at hp;intro m0 Oa;obtain⟨Pa,Qa,Md,Ra⟩:=S0.blk Oa τ0 1;intro m1 Sa;obtain⟨Ta,Ua,Va,Wa⟩:=Qa.blk Sa Pa 2;have Xa:=Ra.k Va;intro m2 Ya;obtain⟨Za,ab,za,q⟩:=Ua.blk Ya Ta 3;have j:=Xa.k za;have r:=Wa.k za;intro R3 Id
 have hgo:∀(J:Nat) (x4:Int) (s:C) (l:C) (N:List Int) (O:List Int) (m5:M) (i:Nat->Nat),St (Fm.of m) f f m5->Lb (Fm.of m) f i m5 1 m.nxt 2 [Il z.First,ca101]->Lb (Fm.of m) f i m5 2 m0.nxt 2 [.sl0,.sl0]->Lb (Fm.of m) f i m5 3 m1.nxt 2 [s,l]->Ow (Fm.of m) f i m5 4 s N->Ow (Fm.of m) f i m5 5 l O->zue z words J N O x4=some rz->R3 [.c (Il x4)] m5:=by
  intro J
  induction J with
  | zero=>intro x4 s l N O m5 i n j r q h d hp; cases hp
  | succ J La=>
   intro x4 s l N O m5 i n j r q h d hp;refine Id _ _ ?_;rw[zue] at hp;refine⟨trivial,_,j.bk.rc rfl,ha101.isSl,?_⟩
   try rw[ha101.slLen]
   refine ifd hp (fun cb hp=>?_) fun cb hp=>?_; rotate_left
   ·refine⟨_,_,q.bk.ra,?_⟩;obtain⟨db,eb,fb,Aa,gb⟩:=r.sto n [s,l];have h:=h.k Aa;have d:=d.k Aa;refine⟨db,eb,?_⟩;refine⟨_,_,gb.bk.ra,?_⟩;obtain⟨Nd,hb,ib,jb⟩:=h.freeze fb;have d:=d.k ib;obtain⟨kb,mb,ob,pb⟩:=d.freeze hb;obtain rfl:=oi hp;exact hq _ kb s l mb.grw (jb.sub ob.fs) pb
   refine⟨ha200.isSl,?_⟩
   try rw[ha200.slLen]
   refine ifd hp (fun qb hp=>?_) fun qb hp=>?_; rotate_left
   ·refine⟨trivial,_,j.bk.rc rfl,?_⟩;obtain⟨e,ea,hp⟩:=zqp hp;obtain⟨Jd,Ma,ta,ea⟩:=zqj ea;obtain⟨_,rb⟩:=zr8 ha101 ea;refine⟨Jd,Ma,(by first|exact ta|(rw[ha101.slLen];exact ta)),_,_,_,_,_,_,(rb _ n.sub).1,?_⟩;intro Zd sb;obtain⟨Od,tb,t,ub⟩:=n.blk sb i 7;have vb:=j.k t;have wb:=r.k t;have xb:=q.k t;have h:=h.k t;have d:=d.k t;obtain⟨yb,zb,Ab,u,P⟩:=ub.sto tb [Il e.Losses.Lo,Il e.Losses.Hi,Il e.Premiums.Lo,Il e.Premiums.Hi,Il e.Parcels,.bool e.Exempt];have Bb:=vb.k u;have Cb:=wb.k u;have fa:=xb.k u;have h:=h.k u;have d:=d.k u;refine⟨yb,zb,?_⟩;refine⟨trivial,_,fa.bk.rc rfl,trivial,trivial,_,P.bk.rc rfl,trivial,trivial,_,P.bk.rc rfl,trivial,trivial,_,P.bk.rc rfl,?_⟩;refine gdi hp fun Db hp=>?_;refine gdi hp fun Eb hp=>?_;refine gdi hp fun Fb hp=>?_;refine gdi hp fun Gb hp=>?_;refine gdi hp fun Hb hp=>?_;refine gdi hp fun Ib hp=>?_;obtain⟨Jb,hp⟩:=zqq hp;intro ae Ba;refine⟨(by rw[show cmC _=true from zoU (h.noFn)]; exact(fa.bk.ext (Bk.new Ba).2).rc rfl),?_⟩;obtain⟨S,Kb,Pd,Mb,Nb,w,o⟩:=h.app' zuS Ab (a:=(e.Losses.Lo+((0:Int) % ((e.Losses.Hi - e.Losses.Lo)+(1:Int))))) (show Rp.rep (α:=Int) f _ (e.Losses.Lo+((0:Int) % ((e.Losses.Hi - e.Losses.Lo)+(1:Int)))) from rfl) Jb Ba;have Ob:=Bb.k w;have Pb:=Cb.k w;have Qb:=fa.k w;have Rb:=P.k w;have d:=d.k w;refine⟨S,Kb,Mb,?_⟩;refine⟨trivial,?_⟩;obtain⟨Sb,Tb,Ub,y,A⟩:=Qb.sto1 Nb 0 S (by simp) rfl
    replace A:Lb _ _ _ _ _ _ _ [S,l]:=A
    have Vb:=Ob.k y;have Wb:=Pb.k y;have ga:=Rb.k y;have d:=d.k y;have o:=o.k y;refine⟨Sb,Tb,?_⟩;refine⟨trivial,_,A.bk.rc rfl,trivial,trivial,_,ga.bk.rc rfl,trivial,trivial,_,ga.bk.rc rfl,trivial,trivial,_,ga.bk.rc rfl,?_⟩;refine gdi hp fun Xb hp=>?_;refine gdi hp fun Yb hp=>?_;refine gdi hp fun Zb hp=>?_;refine gdi hp fun ac hp=>?_;refine gdi hp fun bc hp=>?_;refine gdi hp fun cc hp=>?_;obtain⟨dc,hp⟩:=zqq hp;intro be Ca;refine⟨(by rw[show cmC _=true from zoU (d.noFn)]; exact(A.bk.ext (Bk.new Ca).2).rc rfl),?_⟩;obtain⟨ha,ec,fc,gc,hc,T,ia⟩:=d.app' zuS Ub (a:=(e.Premiums.Lo+((0:Int) % ((e.Premiums.Hi - e.Premiums.Lo)+(1:Int))))) (show Rp.rep (α:=Int) f _ (e.Premiums.Lo+((0:Int) % ((e.Premiums.Hi - e.Premiums.Lo)+(1:Int)))) from rfl) dc Ca;have ic:=Vb.k T;have jc:=Wb.k T;have kc:=A.k T;have o:=o.k T;refine⟨ha,ec,gc,?_⟩;refine⟨trivial,?_⟩;obtain⟨nc,oc,pc,Y,ja⟩:=kc.sto1 hc 1 ha (by simp) rfl
    replace ja:Lb _ _ _ _ _ _ _ [S,ha]:=ja
    have qc:=ic.k Y;have sc:=jc.k Y;have o:=o.k Y;have ia:=ia.k Y;refine⟨nc,oc,?_⟩;refine gdi hp fun tc hp=>?_;exact La _ _ _ _ _ _ fc pc qc sc ja o ia hp
   refine gdi hp fun uc hp=>?_;refine gdi hp fun vc hp=>?_;obtain⟨wc,hp⟩:=zqq hp;refine⟨wc,ha200.isSl,?_⟩;refine gdi hp fun xc hp=>?_;obtain⟨Da,hp⟩:=zqq hp;refine⟨(by first|exact Da|(rw[ha200.slLen];exact Da)),?_⟩;obtain⟨Ea,hp⟩:=zqq hp;refine⟨(by first|exact Ea|(rw[ha200.slLen];exact Ea)),?_⟩;obtain⟨Fa,ka,hp⟩:=zqp hp;obtain⟨n7,ua,va,ka⟩:=zqj ka;refine⟨n7,(by first|exact ua|(rw[ha200.slLen];exact ua)),(by first|exact va|(rw[ha200.slLen];exact va)),_,(zsc ha200 ka n.sub),?_⟩;refine gdi hp fun yc hp=>?_;refine gdi hp fun zc hp=>?_;refine gdi hp fun Ac hp=>?_;obtain⟨Bc,hp⟩:=zqq hp;refine⟨Bc,ha200.isSl,?_⟩;refine gdi hp fun Cc hp=>?_;obtain⟨Ga,hp⟩:=zqq hp;refine⟨(by first|exact Ga|(rw[ha200.slLen];exact Ga)),?_⟩;obtain⟨Ha,hp⟩:=zqq hp;refine⟨(by first|exact Ha|(rw[ha200.slLen];exact Ha)),?_⟩;obtain⟨Ia,la,hp⟩:=zqp hp;obtain⟨n9,wa,xa,la⟩:=zqj la;refine⟨n9,(by first|exact wa|(rw[ha200.slLen];exact wa)),(by first|exact xa|(rw[ha200.slLen];exact xa)),_,(zsc ha200 la n.sub),trivial,_,j.bk.rc rfl,?_⟩;obtain⟨g,ma,hp⟩:=zqp hp;obtain⟨Ld,Na,ya,ma⟩:=zqj ma;obtain⟨_,Dc⟩:=zr8 ha101 ma;refine⟨Ld,Na,(by first|exact ya|(rw[ha101.slLen];exact ya)),_,_,_,_,_,_,(Dc _ n.sub).1,?_⟩;intro ce Ec;obtain⟨Qd,Fc,B,Gc⟩:=n.blk Ec i 6;have Hc:=j.k B;have Ic:=r.k B;have Jc:=q.k B;have h:=h.k B;have d:=d.k B;obtain⟨Kc,Nc,Oc,D,Z⟩:=Gc.sto Fc [Il g.Losses.Lo,Il g.Losses.Hi,Il g.Premiums.Lo,Il g.Premiums.Hi,Il g.Parcels,.bool g.Exempt];have Pc:=Hc.k D;have Qc:=Ic.k D;have na:=Jc.k D;have h:=h.k D;have d:=d.k D
   refine⟨Kc,Nc,?_⟩;refine⟨trivial,_,na.bk.rc rfl,trivial,trivial,_,Z.bk.rc rfl,trivial,trivial,_,Z.bk.rc rfl,trivial,trivial,_,Z.bk.rc rfl,?_⟩;refine gdi hp fun Rc hp=>?_;refine gdi hp fun Tc hp=>?_;refine gdi hp fun Uc hp=>?_;refine gdi hp fun Vc hp=>?_;refine gdi hp fun Xc hp=>?_;refine gdi hp fun Yc hp=>?_;obtain⟨Zc,hp⟩:=zqq hp;intro de Ja;refine⟨(by rw[show cmC _=true from zoU (h.noFn)]; exact(na.bk.ext (Bk.new Ja).2).rc rfl),?_⟩;obtain⟨aa,ad,Rd,bd,cd,F,p⟩:=h.app' zuS Oc (a:=(g.Losses.Lo+((zma .i64 Fa.v) % ((g.Losses.Hi - g.Losses.Lo)+(1:Int))))) (show Rp.rep (α:=Int) f _ (g.Losses.Lo+((zma .i64 Fa.v) % ((g.Losses.Hi - g.Losses.Lo)+(1:Int)))) from rfl) Zc Ja;have dd:=Pc.k F;have ed:=Qc.k F;have fd:=na.k F;have hd:=Z.k F;have d:=d.k F;refine⟨aa,ad,bd,?_⟩;refine⟨trivial,?_⟩;obtain⟨id,jd,kd,G,I⟩:=fd.sto1 cd 0 aa (by simp) rfl
   replace I:Lb _ _ _ _ _ _ _ [aa,l]:=I
   have ld:=dd.k G;have md:=ed.k G;have oa:=hd.k G;have d:=d.k G;have p:=p.k G;refine⟨id,jd,?_⟩;refine⟨trivial,_,I.bk.rc rfl,trivial,trivial,_,oa.bk.rc rfl,trivial,trivial,_,oa.bk.rc rfl,trivial,trivial,_,oa.bk.rc rfl,?_⟩;refine gdi hp fun nd hp=>?_;refine gdi hp fun od hp=>?_;refine gdi hp fun pd hp=>?_;refine gdi hp fun qd hp=>?_;refine gdi hp fun sd hp=>?_;refine gdi hp fun td hp=>?_;obtain⟨ud,hp⟩:=zqq hp;intro ee Ka;refine⟨(by rw[show cmC _=true from zoU (d.noFn)]; exact(I.bk.ext (Bk.new Ka).2).rc rfl),?_⟩;obtain⟨pa,vd,wd,xd,yd,ba,qa⟩:=d.app' zuS kd (a:=(g.Premiums.Lo+((zma .i64 Ia.v) % ((g.Premiums.Hi - g.Premiums.Lo)+(1:Int))))) (show Rp.rep (α:=Int) f _ (g.Premiums.Lo+((zma .i64 Ia.v) % ((g.Premiums.Hi - g.Premiums.Lo)+(1:Int)))) from rfl) ud Ka;have zd:=ld.k ba;have Ad:=md.k ba;have Bd:=I.k ba;have p:=p.k ba;refine⟨pa,vd,xd,?_⟩;refine⟨trivial,?_⟩;obtain⟨Cd,Dd,Ed,ca,sa⟩:=Bd.sto1 yd 1 pa (by simp) rfl
   replace sa:Lb _ _ _ _ _ _ _ [aa,pa]:=sa
   have Fd:=zd.k ca;have Gd:=Ad.k ca;have p:=p.k ca;have qa:=qa.k ca;refine⟨Cd,Dd,?_⟩;refine gdi hp fun Hd hp=>?_;exact La _ _ _ _ _ _ wd Ed Fd Gd sa p qa hp
 exact hgo _ _ _ _ _ _ _ Za ab j r q (Ow.nil _ _ _ _ _) (Ow.nil _ _ _ _ _) hp
theorem zwN{r:Rl}{z:Zn}{ca105 ca201:C}{m f:M}{Q:V->M->Prop}{rz:Int × Int × Bool}(hS:Pre f m)(ha105:Sl f ca105 r.Price)(ha201:Sl f ca201 z.Years)(hp:zug r z=some rz)(hq:∀m',Ext m m'->Q (.tup [.c (Il rz.1),.c (Il rz.2.1),.c (.bool rz.2.2)]) m'):Wc prog tbl 51 [.agg 6 [Il r.Classes,Il r.Good,Il r.Bad,Il r.Rest,Il r.Fewest,ca105],.agg 2 [Il z.First,ca201]] m Q:=by
 have S0:=hS.st;obtain⟨τ0,_⟩:=zr3;refine w51 ?_;unfold zug at hp;intro m0 B;obtain⟨D,F,ja,G⟩:=S0.blk B τ0 1;intro m1 I;obtain⟨e,p,J,g⟩:=F.blk I D 2;have N:=G.k J;refine⟨_,_,_,_,_,_,N.bk.ra,?_⟩;obtain⟨O,P,hp⟩:=zqp hp;refine zwC (r:=r) p.pre ha105 P fun m9 ka la S T=>?_;obtain⟨q,s⟩:=p.callG S e;have h:=g.k s;refine⟨_,_,_,_,_,_,rfl,_,_,h.bk.ra,(by rw[show zaL cmC _=true from zoV (zqt rfl (zqt ha201.noFn zqu))]; exact(g.bk.ra)),?_⟩;obtain⟨Y,Z,hp⟩:=zqp hp;refine zwD (z:=z) q.pre (ha201.sub s.fs) Z fun xa ma na aa ba=>?_;obtain⟨t,u⟩:=q.callG aa e;have ca:=h.k u;refine⟨_,_,rfl,trivial,_,ca.bk.rc rfl,(by rw[show cmC _=true from zoU (ha201.noFn)]; exact(h.bk.rc rfl)),(by rw[show cmC _=true from zoU (ha201.noFn)]; exact(g.bk.rc rfl)),ha201.isSl,⟨ha201.isSl,rfl⟩,⟨ha201.isSl,rfl⟩,?_⟩;obtain⟨w,hp⟩:=zqq hp;refine⟨(by first|exact w|(rw[ha201.slLen];exact w)),?_⟩
 try rw[ha201.slLen]
 obtain⟨oa,da,hp⟩:=zqp hp;refine zwv (r:=O) (z:=Y) (year:=((z.Years.length:Int) - (1:Int))) t.pre (T.sub u.fs) ba da fun ya pa qa ea a=>?_;obtain⟨d,sa⟩:=t.callG ea e;refine⟨_,_,rfl,?_⟩;refine zqS hp (fun fa hp=>?_) fun fa hp=>?_
 ·obtain rfl:=oi hp;exact hq _ d.ext'
 refine⟨a.isSl,?_⟩
 try rw[a.slLen]
 refine ifd hp (fun ga hp=>?_) fun ga hp=>?_
 ·obtain rfl:=oi hp;exact hq _ d.ext'
 obtain⟨ta,i,hp⟩:=zqp hp;obtain⟨ha,A,l,i⟩:=zqj i;refine⟨ha,A,(by first|exact l|(rw[a.slLen];exact l)),_,(a.rdI i d.sub),a.isSl,?_⟩;obtain⟨y,hp⟩:=zqq hp;refine⟨(by first|exact y|(rw[a.slLen];exact y)),?_⟩;obtain⟨ua,j,hp⟩:=zqp hp;obtain⟨ia,n,o,j⟩:=zqj j;refine⟨ia,(by first|exact n|(rw[a.slLen];exact n)),(by first|exact o|(rw[a.slLen];exact o)),_,(a.rdI j d.sub),?_⟩;obtain rfl:=oi hp;exact hq _ d.ext'
theorem zwO{r:Rl}{z:Zn}{by_:Int}{ca105 ca201:C}{m f:M}{Q:V->M->Prop}{rz:Bool}(hS:Pre f m)(ha105:Sl f ca105 r.Price)(ha201:Sl f ca201 z.Years)(hp:zui r z by_=some rz)(hq:∀m',Ext m m'->Q (.c (.bool rz)) m'):Wc prog tbl 11 [.agg 6 [Il r.Classes,Il r.Good,Il r.Bad,Il r.Rest,Il r.Fewest,ca105],.agg 2 [Il z.First,ca201],.c (.int .u16 by_)] m Q:=by
 have S0:=hS.st;obtain⟨τ0,_⟩:=zr3;refine w11 ?_;unfold zui at hp;intro m0 Fb;obtain⟨Gb,Hb,pf,Ib⟩:=S0.blk Fb τ0 1;intro m1 Jb;obtain⟨ca,Za,Kb,ab⟩:=Hb.blk Jb Gb 2;have bb:=Ib.k Kb;refine⟨_,_,_,_,_,_,bb.bk.ra,_,_,ab.bk.ra,?_⟩;obtain⟨qf,Mb,hp⟩:=zqp hp;refine zwL (r:=r) (z:=z) Za.pre ha105 ha201 Mb fun bg Nb=>?_;obtain⟨t,cb⟩:=Za.call Nb ca;have Ob:=bb.k cb;have db:=ab.k cb;refine⟨_,rfl,?_⟩;refine zqU hp (fun Pb hp=>?_) fun Pb hp=>?_
 ·obtain⟨rf,Qb,hp⟩:=zqp hp;refine zwK t.pre  Qb fun cg Rb=>?_;obtain⟨Sb,sf⟩:=t.call Rb ca;refine⟨_,rfl,?_⟩;obtain rfl:=oi hp;exact hq _ Sb.ext'
 refine⟨trivial,_,db.bk.rc rfl,ha201.isSl,?_⟩
 try rw[ha201.slLen]
 refine ifd hp (fun Tb hp=>?_) fun Tb hp=>?_
 ·obtain⟨tf,Ub,hp⟩:=zqp hp;refine zwK t.pre  Ub fun dg Vb=>?_;obtain⟨Wb,uf⟩:=t.call Vb ca;refine⟨_,rfl,?_⟩;obtain rfl:=oi hp;exact hq _ Wb.ext'
 intro eg Xb;obtain⟨Yb,Zb,eb,Db⟩:=t.growK Xb ca 3;have ac:=Ob.k eb;have ma:=db.k eb;have bc:=Db 0 (by decide);refine⟨_,_,ma.bk.ra,_,_,ma.bk.ra,?_⟩;intro fg cc;obtain⟨dc,ec,na,fc⟩:=Zb.blk cc Yb 4;have gc:=ac.k na;have oa:=ma.k na;have hc:=bc.k na;refine⟨(by rw[show zaL cmC _=true from zoV (zqt rfl (zqt ha201.noFn zqu))]; exact(oa.bk.ra)),(by rw[show zaL cmC _=true from zoV (zqt rfl (zqt ha201.noFn zqu))]; exact(oa.bk.ra)),?_⟩;intro gg ic;obtain⟨jc,pa,kc⟩:=hc.set ec ic;have nc:=gc.k pa;have qa:=oa.k pa;have oc:=fc.k pa;refine⟨(by rw[show zaL cmC _=true from zoV (zqt rfl (zqt ha201.noFn zqu))]; exact(qa.bk.ra)),(by rw[show zaL cmC _=true from zoV (zqt rfl (zqt ha201.noFn zqu))]; exact(qa.bk.ra)),?_⟩;obtain⟨pc,qc,sc,sa,tc⟩:=oc.sto jc [Il z.First,ca201];have uc:=nc.k sa;have fb:=qa.k sa;have vc:=kc.k sa;refine⟨pc,qc,?_⟩;refine⟨(by rw[show zaL cmC _=true from zoV (zqt rfl (zqt ha201.noFn zqu))]; exact(fb.bk.ra)),?_⟩;obtain⟨wc,xc,yc,ta,zc⟩:=vc.sto sc [Il z.First,ca201];have Ac:=uc.k ta;have Bc:=fb.k ta;have Cc:=tc.k ta;refine⟨wc,xc,?_⟩;intro hg Dc;obtain⟨Ec,Fc,da,Eb⟩:=yc.growK Dc dc 5;have Gc:=Ac.k da;have ua:=Bc.k da;have Hc:=Cc.k da;have Ic:=zc.k da;have Jc:=Eb 0 (by decide);intro ig Kc;obtain⟨vf,Nc,u,Oc⟩:=Fc.blk Kc Ec 6;have Pc:=Gc.k u;have va:=ua.k u;have Qc:=Hc.k u;have Rc:=Ic.k u;have Tc:=Jc.k u;refine⟨trivial,_,va.bk.rc rfl,(by rw[show cmC _=true from zoU (ha201.noFn)]; exact(ua.bk.rc rfl)),?_⟩;have Uc:=Lb.ow0 (α:=Yr) Oc
 obtain⟨Vc,hp⟩:=zqq hp;obtain⟨wa,Xc,wf,Yc,Zc,w,e⟩:=Uc.appL zwp Nc ha201 Vc;have ad:=Pc.k w;have gb:=va.k w;have bd:=Qc.k w;have cd:=Rc.k w;have dd:=Tc.k w;refine⟨wa,Xc,Yc,?_⟩;intro jg ed;obtain⟨fd,y,hd⟩:=dd.set Zc ed;have id:=ad.k y;have xa:=gb.k y;have jd:=bd.k y;have kd:=cd.k y;have e:=e.k y;refine⟨(by rw[show cmC _=true from zoU (ha201.noFn)]; exact(xa.bk.rc rfl)),trivial,_,xa.bk.rc rfl,(by rw[show cmC _=true from zoU (ha201.noFn)]; exact(gb.bk.rc rfl)),(by rw[show cmC _=true from zoU (ha201.noFn)]; exact(va.bk.rc rfl)),(by rw[show cmC _=true from zoU (ha201.noFn)]; exact(ua.bk.rc rfl)),?_⟩;have ld:=Lb.ow0 (α:=Yr) hd;obtain⟨md,hp⟩:=zqq hp;obtain⟨ya,nd,g,od,pd,A,l⟩:=ld.appL zwp fd ha201 md;have qd:=id.k A;have sd:=xa.k A;have td:=jd.k A;have ud:=kd.k A;have e:=e.k A;refine⟨ya,nd,od,?_⟩;refine⟨trivial,?_⟩;obtain⟨vd,wd,xd,B,za⟩:=td.sto1 pd 1 wa (by simp) rfl
 replace za:Lb _ _ _ _ _ _ _ [Il z.First,wa]:=za
 have yd:=qd.k B;have zd:=sd.k B;have Ad:=ud.k B;have e:=e.k B;have l:=l.k B;refine⟨vd,wd,?_⟩;refine⟨trivial,?_⟩;obtain⟨Bd,Cd,Aa,D,Ba⟩:=Ad.sto1 xd 1 ya (by simp) rfl
 replace Ba:Lb _ _ _ _ _ _ _ [Il z.First,ya]:=Ba
 have Dd:=yd.k D;have ea:=zd.k D;have hb:=za.k D;have e:=e.k D;have l:=l.k D;refine⟨Bd,Cd,?_⟩;refine⟨trivial,_,ea.bk.rc rfl,ha201.isSl,?_⟩;obtain⟨ib,hp⟩:=zqq hp;refine⟨(by first|exact ib|(rw[ha201.slLen];exact ib)),?_⟩;refine gdi hp fun Ed hp=>?_;refine gdi hp fun Fd hp=>?_;obtain⟨Gd,hp⟩:=zqq hp;refine⟨Gd,trivial,_,hb.bk.rc rfl,trivial,_,ea.bk.rc rfl,?_⟩;obtain⟨p,F,hp⟩:=zqp hp;obtain⟨ef,Ha,Ia,F⟩:=zqj F;obtain⟨_,Hd⟩:=zr8 ha201 F;refine⟨ef,(by first|exact Ha|(rw[ha201.slLen];exact Ha)),(by first|exact Ia|(rw[ha201.slLen];exact Ia)),(ha201.isPt F _),(ha201.isPt' F _ _),_,(by rw[zrp]; exact(Hd _ Aa.sub).2.1 0 _ rfl),?_⟩;obtain⟨Id,hp⟩:=zqq hp;refine⟨Id,trivial,_,ea.bk.rc rfl,?_⟩;obtain⟨q,G,hp⟩:=zqp hp;obtain⟨gf,Ja,Ka,G⟩:=zqj G;obtain⟨_,Jd⟩:=zr8 ha201 G;refine⟨gf,(by first|exact Ja|(rw[ha201.slLen];exact Ja)),(by first|exact Ka|(rw[ha201.slLen];exact Ka)),(ha201.isPt G _),(ha201.isPt' G _ _),_,(by rw[zrp]; exact(Jd _ Aa.sub).2.1 1 _ rfl),?_⟩;refine gdi hp fun Ld hp=>?_;obtain⟨d,I,hp⟩:=zqp hp;obtain⟨jb,J,La,I⟩:=zqj I;refine⟨jb,(by first|exact J|(rw[ha201.slLen];exact J)),(by first|exact La|(rw[e.slLen];exact La)),(e.isPt I _),?_⟩;obtain⟨Md,Nd,Ca,N,s⟩:=e.setP Aa (a':=({ Losses:=({ Lo:=(p.Losses.Lo+((zma .i64 by_) % (2000:Int))),Hi:=(q.Losses.Hi+((zma .i64 by_) % (2000:Int))) }:Rg),Premiums:=d.Premiums,Parcels:=d.Parcels,Exempt:=d.Exempt }:Yr)) I [Il d.Losses.Lo,Il d.Losses.Hi,Il d.Premiums.Lo,Il d.Premiums.Hi,Il d.Parcels,.bool d.Exempt] (fun _ h=>h) 0 [(Il (p.Losses.Lo+((zma .i64 by_) % (2000:Int)))),(Il (q.Losses.Hi+((zma .i64 by_) % (2000:Int))))] (Nat.le_of_ble_eq_true rfl) rfl
 have Ma:Int.toNat ((z.Years.length:Int) - (1:Int))=jb:=by rw[J]; rfl
 rw[<- Ma] at s;have hf:=J;have Od:(([]++z.Years).set (Int.toNat ((z.Years.length:Int) - (1:Int))) ({ Losses:=({ Lo:=(p.Losses.Lo+((zma .i64 by_) % (2000:Int))),Hi:=(q.Losses.Hi+((zma .i64 by_) % (2000:Int))) }:Rg),Premiums:=d.Premiums,Parcels:=d.Parcels,Exempt:=d.Exempt }:Yr))[jb]? = some ({ Losses:=({ Lo:=(p.Losses.Lo+((zma .i64 by_) % (2000:Int))),Hi:=(q.Losses.Hi+((zma .i64 by_) % (2000:Int))) }:Rg),Premiums:=d.Premiums,Parcels:=d.Parcels,Exempt:=d.Exempt }:Yr):=(congrArg (fun z9_=>(([]++z.Years).set z9_ ({ Losses:=({ Lo:=(p.Losses.Lo+((zma .i64 by_) % (2000:Int))),Hi:=(q.Losses.Hi+((zma .i64 by_) % (2000:Int))) }:Rg),Premiums:=d.Premiums,Parcels:=d.Parcels,Exempt:=d.Exempt }:Yr))[jb]?) Ma).trans (List.getElem?_set_self (List.getElem?_eq_some_iff.1 I).1);have jf:=(List.getElem?_eq_some_iff.1 Od).1;have Pd:=Dd.k N;have Da:=ea.k N;have Qd:=hb.k N;have kb:=Ba.k N;have l:=l.k N;refine⟨Md,Nd,?_⟩;refine⟨trivial,_,kb.bk.rc rfl,trivial,_,Da.bk.rc rfl,?_⟩;obtain⟨n,O,hp⟩:=zqp hp;obtain⟨kf,Na,Oa,O⟩:=zqj O;obtain⟨_,Rd⟩:=zr8 ha201 O;refine⟨kf,(by first|exact Na|(rw[ha201.slLen];exact Na)),(by first|exact Oa|(rw[ha201.slLen];exact Oa)),(ha201.isPt O _),(ha201.isPt' O _ _),_,(by rw[zrp]; exact(Rd _ Ca.sub).2.1 2 _ rfl),?_⟩;obtain⟨Sd,hp⟩:=zqq hp;refine⟨Sd,trivial,_,Da.bk.rc rfl,?_⟩;obtain⟨o,P,hp⟩:=zqp hp;obtain⟨lf,Pa,Qa,P⟩:=zqj P;obtain⟨_,Td⟩:=zr8 ha201 P;refine⟨lf,(by first|exact Pa|(rw[ha201.slLen];exact Pa)),(by first|exact Qa|(rw[ha201.slLen];exact Qa)),(ha201.isPt P _),(ha201.isPt' P _ _),_,(by rw[zrp]; exact(Td _ Ca.sub).2.1 3 _ rfl),?_⟩
 refine gdi hp fun Ud hp=>?_;obtain⟨a,S,hp⟩:=zqp hp;obtain⟨mb,T,Ra,S⟩:=zqj S;refine⟨mb,(by first|exact T|(rw[ha201.slLen];exact T)),(by first|exact Ra|(rw[l.slLen];exact Ra)),(l.isPt S _),?_⟩;obtain⟨Vd,Wd,ob,Y,i⟩:=l.setP Ca (a':=({ Losses:=a.Losses,Premiums:=({ Lo:=(n.Premiums.Lo+((zma .i64 by_) % (2000:Int))),Hi:=(o.Premiums.Hi+((zma .i64 by_) % (2000:Int))) }:Rg),Parcels:=a.Parcels,Exempt:=a.Exempt }:Yr)) S [Il a.Losses.Lo,Il a.Losses.Hi,Il a.Premiums.Lo,Il a.Premiums.Hi,Il a.Parcels,.bool a.Exempt] (fun _ h=>h) 2 [(Il (n.Premiums.Lo+((zma .i64 by_) % (2000:Int)))),(Il (o.Premiums.Hi+((zma .i64 by_) % (2000:Int))))] (Nat.le_of_ble_eq_true rfl) rfl
 have Sa:Int.toNat ((z.Years.length:Int) - (1:Int))=mb:=by rw[T]; rfl
 rw[<- Sa] at i;have mf:=T;have Xd:(([]++z.Years).set (Int.toNat ((z.Years.length:Int) - (1:Int))) ({ Losses:=a.Losses,Premiums:=({ Lo:=(n.Premiums.Lo+((zma .i64 by_) % (2000:Int))),Hi:=(o.Premiums.Hi+((zma .i64 by_) % (2000:Int))) }:Rg),Parcels:=a.Parcels,Exempt:=a.Exempt }:Yr))[mb]? = some ({ Losses:=a.Losses,Premiums:=({ Lo:=(n.Premiums.Lo+((zma .i64 by_) % (2000:Int))),Hi:=(o.Premiums.Hi+((zma .i64 by_) % (2000:Int))) }:Rg),Parcels:=a.Parcels,Exempt:=a.Exempt }:Yr):=(congrArg (fun z9_=>(([]++z.Years).set z9_ ({ Losses:=a.Losses,Premiums:=({ Lo:=(n.Premiums.Lo+((zma .i64 by_) % (2000:Int))),Hi:=(o.Premiums.Hi+((zma .i64 by_) % (2000:Int))) }:Rg),Parcels:=a.Parcels,Exempt:=a.Exempt }:Yr))[mb]?) Sa).trans (List.getElem?_set_self (List.getElem?_eq_some_iff.1 S).1);have nf:=(List.getElem?_eq_some_iff.1 Xd).1;have pb:=Pd.k Y;have Yd:=Da.k Y;have Zd:=Qd.k Y;have ae:=kb.k Y;have s:=s.k Y;refine⟨Vd,Wd,?_⟩;refine⟨_,_,_,_,_,_,pb.bk.ra,_,_,Yd.bk.ra,?_⟩;obtain⟨xf,be,hp⟩:=zqp hp;refine zwN (r:=r) (z:=z) ob.pre ha105 ha201 be fun kg ce=>?_;obtain⟨qb,Z⟩:=ob.call ce g;have rb:=pb.k Z;have sb:=Zd.k Z;have de:=ae.k Z;have s:=s.k Z;have i:=i.k Z;refine⟨_,_,_,rfl,?_⟩;refine zqU hp (fun ee hp=>?_) fun ee hp=>?_
 ·obtain rfl:=oi hp;exact hq _ qb.ext'
 refine⟨_,_,_,_,_,_,rb.bk.ra,_,_,sb.bk.ra,?_⟩;obtain⟨yf,tb,j,ub⟩:=s.freeze qb;have fe:=rb.k j;have ge:=sb.k j;have he:=de.k j;have i:=i.k j;obtain⟨zf,ie,hp⟩:=zqp hp;have Ta:=@zwG r ({ First:=z.First,Years:=(([]++z.Years).set (Int.toNat ((z.Years.length:Int) - (1:Int))) ({ Losses:=({ Lo:=(p.Losses.Lo+((zma .i64 by_) % (2000:Int))),Hi:=(q.Losses.Hi+((zma .i64 by_) % (2000:Int))) }:Rg),Premiums:=d.Premiums,Parcels:=d.Parcels,Exempt:=d.Exempt }:Yr)) }:Zn)
 dsimp only at Ta
 refine Ta tb.pre (ha105.sub j.fs) ub ie fun lg je=>?_;obtain⟨Ea,fa⟩:=tb.call je g;have ga:=fe.k fa;have ke:=ge.k fa;have Fa:=he.k fa;have i:=i.k fa;refine⟨_,rfl,?_⟩;refine ifd hp (fun me hp=>?_) fun me hp=>?_; rotate_left
 ·refine⟨_,_,_,_,_,_,ga.bk.ra,_,_,Fa.bk.ra,?_⟩;obtain⟨Af,vb,ha,wb⟩:=i.freeze Ea;have oe:=ga.k ha;have pe:=Fa.k ha;obtain⟨Bf,qe,hp⟩:=zqp hp;have Ua:=@zwG r ({ First:=z.First,Years:=(([]++z.Years).set (Int.toNat ((z.Years.length:Int) - (1:Int))) ({ Losses:=a.Losses,Premiums:=({ Lo:=(n.Premiums.Lo+((zma .i64 by_) % (2000:Int))),Hi:=(o.Premiums.Hi+((zma .i64 by_) % (2000:Int))) }:Rg),Parcels:=a.Parcels,Exempt:=a.Exempt }:Yr)) }:Zn)
  dsimp only at Ua
  refine Ua vb.pre (ha105.sub (Sub.trans j.fs ha.fs)) wb qe fun Tf re=>?_;obtain⟨ia,xb⟩:=vb.call re g;have se:=oe.k xb;have te:=pe.k xb;refine⟨_,rfl,?_⟩;refine ifd hp (fun ue hp=>?_) fun ue hp=>?_; rotate_left
  ·obtain⟨Cf,ve,hp⟩:=zqp hp;refine zwK ia.pre  ve fun Uf we=>?_;obtain⟨xe,Df⟩:=ia.call we g;refine⟨_,rfl,?_⟩;obtain rfl:=oi hp;exact hq _ xe.ext'
  refine⟨_,_,_,_,_,_,se.bk.ra,_,_,te.bk.ra,?_⟩;obtain⟨Ef,ye,hp⟩:=zqp hp;have Va:=@zwN r ({ First:=z.First,Years:=(([]++z.Years).set (Int.toNat ((z.Years.length:Int) - (1:Int))) ({ Losses:=a.Losses,Premiums:=({ Lo:=(n.Premiums.Lo+((zma .i64 by_) % (2000:Int))),Hi:=(o.Premiums.Hi+((zma .i64 by_) % (2000:Int))) }:Rg),Parcels:=a.Parcels,Exempt:=a.Exempt }:Yr)) }:Zn)
  dsimp only at Va
  refine Va ia.pre (ha105.sub (Sub.trans j.fs ha.fs)) wb ye fun Vf ze=>?_;obtain⟨aa,Ff⟩:=ia.call ze g;refine⟨_,_,_,rfl,?_⟩;refine zqU hp (fun Ae hp=>?_) fun Ae hp=>?_
  ·obtain rfl:=oi hp;exact hq _ aa.ext'
  refine ifd hp (fun Be hp=>?_) fun Be hp=>?_
  ·obtain rfl:=oi hp;exact hq _ aa.ext'
  refine ifd hp (fun Ce hp=>?_) fun Ce hp=>?_
  ·obtain rfl:=oi hp;exact hq _ aa.ext'
  obtain⟨Gf,De,hp⟩:=zqp hp;refine zwK aa.pre  De fun Wf Ee=>?_;obtain⟨Fe,Hf⟩:=aa.call Ee g;refine⟨_,rfl,?_⟩;obtain rfl:=oi hp;exact hq _ Fe.ext'
 refine⟨_,_,_,_,_,_,ga.bk.ra,_,_,ke.bk.ra,?_⟩;obtain⟨If,Ge,hp⟩:=zqp hp;have Wa:=@zwN r ({ First:=z.First,Years:=(([]++z.Years).set (Int.toNat ((z.Years.length:Int) - (1:Int))) ({ Losses:=({ Lo:=(p.Losses.Lo+((zma .i64 by_) % (2000:Int))),Hi:=(q.Losses.Hi+((zma .i64 by_) % (2000:Int))) }:Rg),Premiums:=d.Premiums,Parcels:=d.Parcels,Exempt:=d.Exempt }:Yr)) }:Zn)
 dsimp only at Wa
 refine Wa Ea.pre (ha105.sub j.fs) ub Ge fun mg He=>?_;obtain⟨ja,Ga⟩:=Ea.call He g;have yb:=ga.k Ga;have zb:=Fa.k Ga;have i:=i.k Ga;refine⟨_,_,_,rfl,?_⟩;refine zqU hp (fun Ie hp=>?_) fun Ie hp=>?_
 ·obtain rfl:=oi hp;exact hq _ ja.ext'
 refine ifd hp (fun Je hp=>?_) fun Je hp=>?_
 ·obtain rfl:=oi hp;exact hq _ ja.ext'
 refine ifd hp (fun Ke hp=>?_) fun Ke hp=>?_
 ·obtain rfl:=oi hp;exact hq _ ja.ext'
 refine⟨_,_,_,_,_,_,yb.bk.ra,_,_,zb.bk.ra,?_⟩;obtain⟨Jf,Ab,ka,Bb⟩:=i.freeze ja;have Me:=yb.k ka;have Ne:=zb.k ka;obtain⟨Kf,Oe,hp⟩:=zqp hp;have Xa:=@zwG r ({ First:=z.First,Years:=(([]++z.Years).set (Int.toNat ((z.Years.length:Int) - (1:Int))) ({ Losses:=a.Losses,Premiums:=({ Lo:=(n.Premiums.Lo+((zma .i64 by_) % (2000:Int))),Hi:=(o.Premiums.Hi+((zma .i64 by_) % (2000:Int))) }:Rg),Parcels:=a.Parcels,Exempt:=a.Exempt }:Yr)) }:Zn)
 dsimp only at Xa
 refine Xa Ab.pre (ha105.sub (Sub.trans j.fs ka.fs)) Bb Oe fun Xf Pe=>?_;obtain⟨la,Cb⟩:=Ab.call Pe g;have Qe:=Me.k Cb;have Re:=Ne.k Cb;refine⟨_,rfl,?_⟩;refine ifd hp (fun Se hp=>?_) fun Se hp=>?_; rotate_left
 ·obtain⟨Lf,Te,hp⟩:=zqp hp;refine zwK la.pre  Te fun Yf Ue=>?_;obtain⟨Ve,Mf⟩:=la.call Ue g;refine⟨_,rfl,?_⟩;obtain rfl:=oi hp;exact hq _ Ve.ext'
 refine⟨_,_,_,_,_,_,Qe.bk.ra,_,_,Re.bk.ra,?_⟩;obtain⟨Nf,We,hp⟩:=zqp hp;have Ya:=@zwN r ({ First:=z.First,Years:=(([]++z.Years).set (Int.toNat ((z.Years.length:Int) - (1:Int))) ({ Losses:=a.Losses,Premiums:=({ Lo:=(n.Premiums.Lo+((zma .i64 by_) % (2000:Int))),Hi:=(o.Premiums.Hi+((zma .i64 by_) % (2000:Int))) }:Rg),Parcels:=a.Parcels,Exempt:=a.Exempt }:Yr)) }:Zn)
 dsimp only at Ya
 refine Ya la.pre (ha105.sub (Sub.trans j.fs ka.fs)) Bb We fun Zf Xe=>?_;obtain⟨ba,Of⟩:=la.call Xe g;refine⟨_,_,_,rfl,?_⟩;refine zqU hp (fun Ye hp=>?_) fun Ye hp=>?_
 ·obtain rfl:=oi hp;exact hq _ ba.ext'
 refine ifd hp (fun Ze hp=>?_) fun Ze hp=>?_
 ·obtain rfl:=oi hp;exact hq _ ba.ext'
 refine ifd hp (fun af hp=>?_) fun af hp=>?_
 ·obtain rfl:=oi hp;exact hq _ ba.ext'
 obtain⟨Pf,bf,hp⟩:=zqp hp;refine zwK ba.pre  bf fun ag cf=>?_;obtain⟨df,Qf⟩:=ba.call cf g;refine⟨_,rfl,?_⟩;obtain rfl:=oi hp;exact hq _ df.ext'
set_option maxHeartbeats 4000000 in
theorem zwP{r:Rl}{z:Zn}{which:Int}{by_:Int}{class_:Int}{ca105 ca201:C}{m f:M}{Q:V->M->Prop}{rz:Bool}(hS:Pre f m)(ha105:Sl f ca105 r.Price)(ha201:Sl f ca201 z.Years)(hp:zul r z which by_ class_=some rz)(hq:∀m',Ext m m'->Q (.c (.bool rz)) m'):Wc prog tbl 12 [.agg 6 [Il r.Classes,Il r.Good,Il r.Bad,Il r.Rest,Il r.Fewest,ca105],.agg 2 [Il z.First,ca201],.c (.int .u8 which),.c (.int .u8 by_),.c (.int .u8 class_)] m Q:=by
 have S0:=hS.st;obtain⟨τ0,_⟩:=zr3;refine w12 ?_;unfold zul at hp;intro m0 Cb;obtain⟨Db,Eb,Df,Fb⟩:=S0.blk Cb τ0 1;intro m1 Gb;obtain⟨ga,Na,Hb,Oa⟩:=Eb.blk Gb Db 2;have Pa:=Fb.k Hb;refine⟨_,_,_,_,_,_,Pa.bk.ra,_,_,Oa.bk.ra,?_⟩;obtain⟨Ef,Ib,hp⟩:=zqp hp;refine zwL (r:=r) (z:=z) Na.pre ha105 ha201 Ib fun uf Jb=>?_;obtain⟨J,Qa⟩:=Na.call Jb ga;have Kb:=Pa.k Qa;have oa:=Oa.k Qa;refine⟨_,rfl,?_⟩;refine zqU hp (fun Mb hp=>?_) fun Mb hp=>?_
 ·obtain⟨Ff,Nb,hp⟩:=zqp hp;refine zwK J.pre  Nb fun Kg Ob=>?_;obtain⟨Pb,Gf⟩:=J.call Ob ga;refine⟨_,rfl,?_⟩;obtain rfl:=oi hp;exact hq _ Pb.ext'
 refine⟨trivial,_,oa.bk.rc rfl,ha201.isSl,?_⟩
 try rw[ha201.slLen]
 refine ifd hp (fun Qb hp=>?_) fun Qb hp=>?_
 ·obtain⟨Hf,Rb,hp⟩:=zqp hp;refine zwK J.pre  Rb fun Lg Sb=>?_;obtain⟨Tb,If⟩:=J.call Sb ga;refine⟨_,rfl,?_⟩;obtain rfl:=oi hp;exact hq _ Tb.ext'
 refine⟨_,_,oa.bk.ra,?_⟩;intro Mg Ub;obtain⟨Vb,Wb,Ra,Xb⟩:=J.blk Ub ga 3;have Yb:=Kb.k Ra;have Zb:=oa.k Ra;obtain⟨ac,bc,cc,Sa,dc⟩:=Xb.sto Wb [Il z.First,ca201];have ec:=Yb.k Sa;have fc:=Zb.k Sa;refine⟨ac,bc,?_⟩;intro Ng gc;obtain⟨Jf,hc,pa,ic⟩:=cc.blk gc Vb 4;have jc:=ec.k pa;have Ta:=fc.k pa;have kc:=dc.k pa;refine⟨trivial,_,Ta.bk.rc rfl,?_⟩;have nc:=Lb.ow0 (α:=Yr) ic;obtain⟨oc,hp⟩:=zqq hp;obtain⟨N,pc,qa,qc,sc,sa,e⟩:=nc.appL zwp hc ha201 oc;have tc:=jc.k sa;have uc:=Ta.k sa;have vc:=kc.k sa;refine⟨N,pc,qc,?_⟩;refine⟨trivial,?_⟩;obtain⟨wc,xc,yc,ta,ha⟩:=vc.sto1 sc 1 N (by simp) rfl
 replace ha:Lb _ _ _ _ _ _ _ [Il z.First,N]:=ha
 have zc:=tc.k ta;have Ua:=uc.k ta;have e:=e.k ta;refine⟨wc,xc,?_⟩;refine⟨trivial,_,ha.bk.rc rfl,trivial,_,Ua.bk.rc rfl,ha201.isSl,?_⟩;refine gdi hp fun Ac hp=>?_;obtain⟨Va,hp⟩:=zqq hp;refine⟨(by first|exact Va|(rw[ha201.slLen];exact Va)),?_⟩;obtain⟨Wa,hp⟩:=zqq hp;refine⟨(by first|exact Wa|(rw[ha201.slLen];exact Wa)),?_⟩;obtain⟨a,g,hp⟩:=zqp hp;obtain⟨la,O,Da,g⟩:=zqj g;have Ea:=(zwo (e.rdP g));refine⟨la,(by first|exact O|(rw[ha201.slLen];exact O)),(by first|exact Da|(rw[e.slLen];exact Da)),(e.okNil g _),(e.isPt g _),(e.isPt' g _ _),_,(by rw[e.add2 g]; exact(Ea).2.1 0 _ rfl),?_⟩;refine gdi hp fun Bc hp=>?_;refine gdi hp fun Cc hp=>?_;refine gdi hp fun Dc hp=>?_;obtain⟨Ec,hp⟩:=zqq hp;refine⟨Ec,(e.okNil g _),(e.isPt g _),(e.isPt' g _ _),_,(by rw[e.add2 g]; exact(Ea).2.1 1 _ rfl),?_⟩;refine gdi hp fun Fc hp=>?_;refine gdi hp fun Gc hp=>?_;refine gdi hp fun Hc hp=>?_;refine gdi hp fun Ic hp=>?_;refine gdi hp fun Jc hp=>?_;refine gdi hp fun Kc hp=>?_;obtain⟨Nc,hp⟩:=zqq hp;refine⟨Nc,(e.okNil g _),(e.isPt g _),?_⟩;obtain⟨Oc,Pc,Qc,ua,j⟩:=e.setP yc (a':=({ Losses:=({ Lo:=(max (0:Int) (a.Losses.Lo - ((zma .i64 by_) % (4:Int)))),Hi:=(min (10000:Int) (a.Losses.Hi+(((zma .i64 by_) / (4:Int)) % (4:Int)))) }:Rg),Premiums:=a.Premiums,Parcels:=a.Parcels,Exempt:=a.Exempt }:Yr)) g [Il a.Losses.Lo,Il a.Losses.Hi,Il a.Premiums.Lo,Il a.Premiums.Hi,Il a.Parcels,.bool a.Exempt] (fun _ h=>h) 0 [(Il (max (0:Int) (a.Losses.Lo - ((zma .i64 by_) % (4:Int))))),(Il (min (10000:Int) (a.Losses.Hi+(((zma .i64 by_) / (4:Int)) % (4:Int)))))] (Nat.le_of_ble_eq_true rfl) rfl
 have Fa:Int.toNat ((zma .i64 which) % (z.Years.length:Int))=la:=by rw[O]; rfl
 rw[<- Fa] at j;have Ga:=O;have i:(([]++z.Years).set (Int.toNat ((zma .i64 which) % (z.Years.length:Int))) ({ Losses:=({ Lo:=(max (0:Int) (a.Losses.Lo - ((zma .i64 by_) % (4:Int)))),Hi:=(min (10000:Int) (a.Losses.Hi+(((zma .i64 by_) / (4:Int)) % (4:Int)))) }:Rg),Premiums:=a.Premiums,Parcels:=a.Parcels,Exempt:=a.Exempt }:Yr))[la]? = some ({ Losses:=({ Lo:=(max (0:Int) (a.Losses.Lo - ((zma .i64 by_) % (4:Int)))),Hi:=(min (10000:Int) (a.Losses.Hi+(((zma .i64 by_) / (4:Int)) % (4:Int)))) }:Rg),Premiums:=a.Premiums,Parcels:=a.Parcels,Exempt:=a.Exempt }:Yr):=(congrArg (fun z9_=>(([]++z.Years).set z9_ ({ Losses:=({ Lo:=(max (0:Int) (a.Losses.Lo - ((zma .i64 by_) % (4:Int)))),Hi:=(min (10000:Int) (a.Losses.Hi+(((zma .i64 by_) / (4:Int)) % (4:Int)))) }:Rg),Premiums:=a.Premiums,Parcels:=a.Parcels,Exempt:=a.Exempt }:Yr))[la]?) Fa).trans (List.getElem?_set_self (List.getElem?_eq_some_iff.1 g).1);have zf:=(List.getElem?_eq_some_iff.1 i).1;have Rc:=zc.k ua;have Tc:=Ua.k ua;have Uc:=ha.k ua;refine⟨Oc,Pc,?_⟩;have Ha:=(zwo (j.rdP i));refine⟨(j.okNil i _),(j.isPt i _),(j.isPt' i _ _),_,(by rw[j.add2 i]; exact(Ha).2.1 2 _ rfl),?_⟩;refine gdi hp fun Vc hp=>?_;refine gdi hp fun Xc hp=>?_;refine gdi hp fun Yc hp=>?_;refine gdi hp fun Zc hp=>?_;refine gdi hp fun ad hp=>?_;refine gdi hp fun bd hp=>?_;obtain⟨cd,hp⟩:=zqq hp;refine⟨cd,(j.okNil i _),(j.isPt i _),(j.isPt' i _ _),_,(by rw[j.add2 i]; exact(Ha).2.1 3 _ rfl),?_⟩;refine gdi hp fun dd hp=>?_;refine gdi hp fun ed hp=>?_;refine gdi hp fun fd hp=>?_
 obtain⟨hd,hp⟩:=zqq hp;refine⟨hd,(j.okNil i _),(j.isPt i _),?_⟩;obtain⟨id,jd,kd,va,Xa⟩:=j.setP Qc (a':=({ Losses:=({ Lo:=(max (0:Int) (a.Losses.Lo - ((zma .i64 by_) % (4:Int)))),Hi:=(min (10000:Int) (a.Losses.Hi+(((zma .i64 by_) / (4:Int)) % (4:Int)))) }:Rg),Premiums:=({ Lo:=(max (0:Int) (a.Premiums.Lo - (((zma .i64 by_) / (16:Int)) % (4:Int)))),Hi:=(min (10000:Int) (a.Premiums.Hi+((zma .i64 by_) / (64:Int)))) }:Rg),Parcels:=a.Parcels,Exempt:=a.Exempt }:Yr)) i [(Il (max (0:Int) (a.Losses.Lo - ((zma .i64 by_) % (4:Int))))),(Il (min (10000:Int) (a.Losses.Hi+(((zma .i64 by_) / (4:Int)) % (4:Int))))),Il a.Premiums.Lo,Il a.Premiums.Hi,Il a.Parcels,.bool a.Exempt] (fun _ h=>h) 2 [(Il (max (0:Int) (a.Premiums.Lo - (((zma .i64 by_) / (16:Int)) % (4:Int))))),(Il (min (10000:Int) (a.Premiums.Hi+((zma .i64 by_) / (64:Int)))))] (Nat.le_of_ble_eq_true rfl) rfl
 have Ia:Int.toNat ((zma .i64 which) % (z.Years.length:Int))=la:=by rw[Ga]; rfl
 rw[<- Ia] at Xa;have Af:=Ga;have ld:((([]++z.Years).set (Int.toNat ((zma .i64 which) % (z.Years.length:Int))) ({ Losses:=({ Lo:=(max (0:Int) (a.Losses.Lo - ((zma .i64 by_) % (4:Int)))),Hi:=(min (10000:Int) (a.Losses.Hi+(((zma .i64 by_) / (4:Int)) % (4:Int)))) }:Rg),Premiums:=a.Premiums,Parcels:=a.Parcels,Exempt:=a.Exempt }:Yr)).set (Int.toNat ((zma .i64 which) % (z.Years.length:Int))) ({ Losses:=({ Lo:=(max (0:Int) (a.Losses.Lo - ((zma .i64 by_) % (4:Int)))),Hi:=(min (10000:Int) (a.Losses.Hi+(((zma .i64 by_) / (4:Int)) % (4:Int)))) }:Rg),Premiums:=({ Lo:=(max (0:Int) (a.Premiums.Lo - (((zma .i64 by_) / (16:Int)) % (4:Int)))),Hi:=(min (10000:Int) (a.Premiums.Hi+((zma .i64 by_) / (64:Int)))) }:Rg),Parcels:=a.Parcels,Exempt:=a.Exempt }:Yr))[la]? = some ({ Losses:=({ Lo:=(max (0:Int) (a.Losses.Lo - ((zma .i64 by_) % (4:Int)))),Hi:=(min (10000:Int) (a.Losses.Hi+(((zma .i64 by_) / (4:Int)) % (4:Int)))) }:Rg),Premiums:=({ Lo:=(max (0:Int) (a.Premiums.Lo - (((zma .i64 by_) / (16:Int)) % (4:Int)))),Hi:=(min (10000:Int) (a.Premiums.Hi+((zma .i64 by_) / (64:Int)))) }:Rg),Parcels:=a.Parcels,Exempt:=a.Exempt }:Yr):=(congrArg (fun z9_=>((([]++z.Years).set (Int.toNat ((zma .i64 which) % (z.Years.length:Int))) ({ Losses:=({ Lo:=(max (0:Int) (a.Losses.Lo - ((zma .i64 by_) % (4:Int)))),Hi:=(min (10000:Int) (a.Losses.Hi+(((zma .i64 by_) / (4:Int)) % (4:Int)))) }:Rg),Premiums:=a.Premiums,Parcels:=a.Parcels,Exempt:=a.Exempt }:Yr)).set z9_ ({ Losses:=({ Lo:=(max (0:Int) (a.Losses.Lo - ((zma .i64 by_) % (4:Int)))),Hi:=(min (10000:Int) (a.Losses.Hi+(((zma .i64 by_) / (4:Int)) % (4:Int)))) }:Rg),Premiums:=({ Lo:=(max (0:Int) (a.Premiums.Lo - (((zma .i64 by_) / (16:Int)) % (4:Int)))),Hi:=(min (10000:Int) (a.Premiums.Hi+((zma .i64 by_) / (64:Int)))) }:Rg),Parcels:=a.Parcels,Exempt:=a.Exempt }:Yr))[la]?) Ia).trans (List.getElem?_set_self (List.getElem?_eq_some_iff.1 i).1)
 have Bf:=(List.getElem?_eq_some_iff.1 ld).1;have Ya:=Rc.k va;have md:=Tc.k va;have Za:=Uc.k va;refine⟨id,jd,?_⟩;refine⟨_,_,_,_,_,_,Ya.bk.ra,_,_,Za.bk.ra,?_⟩;obtain⟨ab,bb,p,P⟩:=Xa.freeze kd;have nd:=Ya.k p;have od:=md.k p;have pd:=Za.k p;obtain⟨Kf,qd,hp⟩:=zqp hp;have Ja:=@zwG r ({ First:=z.First,Years:=((([]++z.Years).set (Int.toNat ((zma .i64 which) % (z.Years.length:Int))) ({ Losses:=({ Lo:=(max (0:Int) (a.Losses.Lo - ((zma .i64 by_) % (4:Int)))),Hi:=(min (10000:Int) (a.Losses.Hi+(((zma .i64 by_) / (4:Int)) % (4:Int)))) }:Rg),Premiums:=a.Premiums,Parcels:=a.Parcels,Exempt:=a.Exempt }:Yr)).set (Int.toNat ((zma .i64 which) % (z.Years.length:Int))) ({ Losses:=({ Lo:=(max (0:Int) (a.Losses.Lo - ((zma .i64 by_) % (4:Int)))),Hi:=(min (10000:Int) (a.Losses.Hi+(((zma .i64 by_) / (4:Int)) % (4:Int)))) }:Rg),Premiums:=({ Lo:=(max (0:Int) (a.Premiums.Lo - (((zma .i64 by_) / (16:Int)) % (4:Int)))),Hi:=(min (10000:Int) (a.Premiums.Hi+((zma .i64 by_) / (64:Int)))) }:Rg),Parcels:=a.Parcels,Exempt:=a.Exempt }:Yr)) }:Zn)
 dsimp only at Ja
 refine Ja bb.pre (ha105.sub p.fs) P qd fun Og sd=>?_;obtain⟨wa,xa⟩:=bb.call sd qa;have s:=nd.k xa;have t:=od.k xa;have S:=pd.k xa;refine⟨_,rfl,?_⟩;refine zqS hp (fun td hp=>?_) fun td hp=>?_
 ·obtain⟨Lf,ud,hp⟩:=zqp hp;refine zwK wa.pre  ud fun Pg vd=>?_;obtain⟨wd,Mf⟩:=wa.call vd qa;refine⟨_,rfl,?_⟩;obtain rfl:=oi hp;exact hq _ wd.ext'
 refine⟨trivial,_,s.bk.rc rfl,?_⟩;refine gdi hp fun xd hp=>?_;refine gdi hp fun yd hp=>?_;refine gdi hp fun zd hp=>?_;intro Cf vf
 have hgo:∀(T:Nat) (cb:Bool) (zb:Bool) (ma:Int) (na:M) (w:M) (d:Nat->Nat),St (Fm.of m) f w na->Sub ab w->Lb (Fm.of m) w d na 1 m.nxt 6 [Il r.Classes,Il r.Good,Il r.Bad,Il r.Rest,Il r.Fewest,ca105]->Lb (Fm.of m) w d na 2 m0.nxt 2 [Il z.First,ca201]->Lb (Fm.of m) w d na 3 uf.nxt 2 [Il z.First,N]->zuk r z which by_ class_ a T cb ma=some rz->Cf [.c (.bool cb),.c (.bool zb),.c (Il ma)] na:=by
  intro T
  induction T with
  | zero=>intro cb zb ma na w d Y o s t S hp; cases hp
  | succ T Ad=>
   intro cb zb ma na w d Y o s t S hp;refine vf _ _ _ _ ?_;rw[zuk] at hp;refine⟨trivial,_,t.bk.rc rfl,ha201.isSl,?_⟩
   try rw[ha201.slLen]
   refine ifd hp (fun Bd hp=>?_) fun Bd hp=>?_
   ·refine⟨_,_,_,_,_,_,s.bk.ra,?_⟩;obtain⟨Cd,Dd,hp⟩:=zqp hp;refine zwC (r:=r) Y.pre (ha105.sub (Sub.trans p.fs o)) Dd fun Qg Nf Of Ed Fd=>?_;obtain⟨db,y⟩:=Y.callG Ed d;have Gd:=s.k y;have eb:=t.k y;have Hd:=S.k y;refine⟨_,_,_,_,_,_,rfl,_,_,eb.bk.ra,(by rw[show zaL cmC _=true from zoV (zqt rfl (zqt ha201.noFn zqu))]; exact(t.bk.ra)),?_⟩;obtain⟨Id,Jd,hp⟩:=zqp hp;refine zwD (z:=z) db.pre (ha201.sub (Sub.trans (Sub.trans p.fs o) y.fs)) Jd fun Sg Pf Qf Ld Md=>?_;obtain⟨fb,A⟩:=db.callG Ld d;have Nd:=Gd.k A;have Od:=eb.k A;have Pd:=Hd.k A;refine⟨_,_,rfl,?_⟩;obtain⟨Qd,Rd,hp⟩:=zqp hp;refine zwv (r:=Cd) (z:=Id) (year:=ma) fb.pre (Fd.sub A.fs) Md Rd fun Tg Rf Sf Sd ia=>?_;obtain⟨gb,B⟩:=fb.callG Sd d;have hb:=Nd.k B;have Td:=Od.k B;have ib:=Pd.k B;refine⟨_,_,rfl,_,_,_,_,_,_,hb.bk.ra,?_⟩;obtain⟨Ud,Vd,hp⟩:=zqp hp;refine zwC (r:=r) gb.pre (ha105.sub (Sub.trans (Sub.trans (Sub.trans (Sub.trans p.fs o) y.fs) A.fs) B.fs)) Vd fun Ug Tf Uf Wd Xd=>?_;obtain⟨jb,D⟩:=gb.callG Wd d;have Yd:=hb.k D;have Zd:=Td.k D;have kb:=ib.k D;refine⟨_,_,_,_,_,_,rfl,_,_,kb.bk.ra,(by rw[show zaL cmC _=true from zoV (zqt rfl (zqt P.noFn zqu))]; exact(ib.bk.ra)),?_⟩;obtain⟨ae,be,hp⟩:=zqp hp;have Ka:=@zwD ({ First:=z.First,Years:=((([]++z.Years).set (Int.toNat ((zma .i64 which) % (z.Years.length:Int))) ({ Losses:=({ Lo:=(max (0:Int) (a.Losses.Lo - ((zma .i64 by_) % (4:Int)))),Hi:=(min (10000:Int) (a.Losses.Hi+(((zma .i64 by_) / (4:Int)) % (4:Int)))) }:Rg),Premiums:=a.Premiums,Parcels:=a.Parcels,Exempt:=a.Exempt }:Yr)).set (Int.toNat ((zma .i64 which) % (z.Years.length:Int))) ({ Losses:=({ Lo:=(max (0:Int) (a.Losses.Lo - ((zma .i64 by_) % (4:Int)))),Hi:=(min (10000:Int) (a.Losses.Hi+(((zma .i64 by_) / (4:Int)) % (4:Int)))) }:Rg),Premiums:=({ Lo:=(max (0:Int) (a.Premiums.Lo - (((zma .i64 by_) / (16:Int)) % (4:Int)))),Hi:=(min (10000:Int) (a.Premiums.Hi+((zma .i64 by_) / (64:Int)))) }:Rg),Parcels:=a.Parcels,Exempt:=a.Exempt }:Yr)) }:Zn)
    dsimp only at Ka
    refine Ka jb.pre (P.sub (Sub.trans (Sub.trans (Sub.trans (Sub.trans o y.fs) A.fs) B.fs) D.fs)) be fun xg Vf Wf ce de=>?_;obtain⟨mb,F⟩:=jb.callG ce d;have ee:=Yd.k F;have fe:=Zd.k F;have ge:=kb.k F;refine⟨_,_,rfl,?_⟩;obtain⟨ob,he,hp⟩:=zqp hp;refine zwv (r:=Ud) (z:=ae) (year:=ma) mb.pre (Xd.sub F.fs) de he fun zg Z Xf ie je=>?_;obtain⟨ya,aa⟩:=mb.callG ie d;have ba:=ee.k aa;have ca:=fe.k aa;have da:=ge.k aa;refine⟨_,_,rfl,?_⟩;refine zqS hp (fun ke hp=>?_) fun ke hp=>?_
    ·obtain rfl:=oi hp;exact hq _ ya.ext'
    refine zqS hp (fun me hp=>?_) fun me hp=>?_
    ·obtain rfl:=oi hp;exact hq _ ya.ext'
    intro wf oe
    have hgo:∀(ja:Nat) (za:Bool) (Aa:Int) (I:M) (u:Nat->Nat),St (Fm.of m) f Z I->Lb (Fm.of m) Z u I 1 m.nxt 6 [Il r.Classes,Il r.Good,Il r.Bad,Il r.Rest,Il r.Fewest,ca105]->Lb (Fm.of m) Z u I 2 m0.nxt 2 [Il z.First,ca201]->Lb (Fm.of m) Z u I 3 uf.nxt 2 [Il z.First,N]->zuj ma Qd ob (zuk r z which by_ class_ a T) ja za Aa=some rz->wf [.c (.bool za),.c (Il Aa)] I:=by
     intro ja
     induction ja with
     | zero=>intro za Aa I u ea ba ca da hp; cases hp
     | succ ja Ab=>
      intro za Aa I u ea ba ca da hp;refine oe _ _ _ ?_;rw[zuj] at hp;refine⟨ia.isSl,?_⟩
      try rw[ia.slLen]
      refine ifd hp (fun pe hp=>?_) fun pe hp=>?_; rotate_left
      ·refine gdi hp fun qe hp=>?_;exact Ad _ _ _ _ Z u ea (Sub.trans (Sub.trans (Sub.trans (Sub.trans (Sub.trans (Sub.trans o y.fs) A.fs) B.fs) D.fs) F.fs) aa.fs) ba ca da hp
      obtain⟨re,Ba,hp⟩:=zqp hp;obtain⟨xf,Bb,La,Ba⟩:=zqj Ba;refine⟨xf,Bb,(by first|exact La|(rw[ia.slLen];exact La)),_,(ia.rdI Ba (Sub.trans (Sub.trans (Sub.trans D.fs F.fs) aa.fs) ea.sub)),?_⟩;obtain⟨Yf,se,hp⟩:=zqp hp;refine zuY (l:=ob.1) (n:=re) ea.pre je se fun Ag te=>?_;obtain⟨pb,Ca⟩:=ea.call te u;have ue:=ba.k Ca;have ve:=ca.k Ca;have we:=da.k Ca;refine⟨_,rfl,?_⟩;refine zqU hp (fun xe hp=>?_) fun xe hp=>?_
      ·obtain rfl:=oi hp;exact hq _ pb.ext'
      refine gdi hp fun ye hp=>?_;exact Ab _ _ _ u pb ue ve we hp
    exact hgo _ _ _ _ d ya ba ca da hp
   refine⟨_,_,_,_,_,_,s.bk.ra,?_⟩;obtain⟨ze,Ae,hp⟩:=zqp hp;refine zwC (r:=r) Y.pre (ha105.sub (Sub.trans p.fs o)) Ae fun Bg Zf ag Be Ce=>?_;obtain⟨qb,G⟩:=Y.callG Be d;have De:=s.k G;have Ee:=t.k G;have Fe:=S.k G;refine⟨_,_,_,_,_,_,rfl,_,_,Ee.bk.ra,(by rw[show zaL cmC _=true from zoV (zqt rfl (zqt ha201.noFn zqu))]; exact(t.bk.ra)),?_⟩;obtain⟨Ge,He,hp⟩:=zqp hp;refine zwD (z:=z) qb.pre (ha201.sub (Sub.trans (Sub.trans p.fs o) G.fs)) He fun Cg bg cg Ie Je=>?_;obtain⟨rb,fa⟩:=qb.callG Ie d;have Ke:=De.k fa;have Me:=Fe.k fa;refine⟨_,_,rfl,?_⟩;obtain⟨dg,Ne,hp⟩:=zqp hp;refine zwz (r:=ze) (z:=Ge) (class_:=((zma .i64 class_) % r.Classes)) rb.pre (Ce.sub fa.fs) Je Ne fun Dg eg fg Oe sb=>?_;obtain⟨tb,ka⟩:=rb.callG Oe d;have Pe:=Ke.k ka;have ub:=Me.k ka;refine⟨_,_,rfl,_,_,_,_,_,_,Pe.bk.ra,?_⟩;obtain⟨Qe,Re,hp⟩:=zqp hp;refine zwC (r:=r) tb.pre (ha105.sub (Sub.trans (Sub.trans (Sub.trans (Sub.trans p.fs o) G.fs) fa.fs) ka.fs)) Re fun Eg gg hg Se Te=>?_;obtain⟨vb,wb⟩:=tb.callG Se d;have Ue:=ub.k wb;refine⟨_,_,_,_,_,_,rfl,_,_,Ue.bk.ra,(by rw[show zaL cmC _=true from zoV (zqt rfl (zqt P.noFn zqu))]; exact(ub.bk.ra)),?_⟩;obtain⟨Ve,We,hp⟩:=zqp hp;have Ma:=@zwD ({ First:=z.First,Years:=((([]++z.Years).set (Int.toNat ((zma .i64 which) % (z.Years.length:Int))) ({ Losses:=({ Lo:=(max (0:Int) (a.Losses.Lo - ((zma .i64 by_) % (4:Int)))),Hi:=(min (10000:Int) (a.Losses.Hi+(((zma .i64 by_) / (4:Int)) % (4:Int)))) }:Rg),Premiums:=a.Premiums,Parcels:=a.Parcels,Exempt:=a.Exempt }:Yr)).set (Int.toNat ((zma .i64 which) % (z.Years.length:Int))) ({ Losses:=({ Lo:=(max (0:Int) (a.Losses.Lo - ((zma .i64 by_) % (4:Int)))),Hi:=(min (10000:Int) (a.Losses.Hi+(((zma .i64 by_) / (4:Int)) % (4:Int)))) }:Rg),Premiums:=({ Lo:=(max (0:Int) (a.Premiums.Lo - (((zma .i64 by_) / (16:Int)) % (4:Int)))),Hi:=(min (10000:Int) (a.Premiums.Hi+((zma .i64 by_) / (64:Int)))) }:Rg),Parcels:=a.Parcels,Exempt:=a.Exempt }:Yr)) }:Zn)
   dsimp only at Ma
   refine Ma vb.pre (P.sub (Sub.trans (Sub.trans (Sub.trans (Sub.trans o G.fs) fa.fs) ka.fs) wb.fs)) We fun Fg ig jg Xe Ye=>?_;obtain⟨xb,Ze⟩:=vb.callG Xe d;refine⟨_,_,rfl,?_⟩;obtain⟨kg,af,hp⟩:=zqp hp;refine zwz (r:=Qe) (z:=Ve) (class_:=((zma .i64 class_) % r.Classes)) xb.pre (Te.sub Ze.fs) Ye af fun Gg lg mg bf yb=>?_;obtain⟨q,ng⟩:=xb.callG bf d;refine⟨_,_,rfl,?_⟩;refine zqS hp (fun cf hp=>?_) fun cf hp=>?_; rotate_left
   ·refine ifd hp (fun df hp=>?_) fun df hp=>?_; rotate_left
    ·obtain rfl:=oi hp;exact hq _ q.ext'
    refine⟨yb.isSl,sb.isSl,?_⟩
    try rw[yb.slLen]
    try rw[sb.slLen]
    refine ifd hp (fun ef hp=>?_) fun ef hp=>?_; rotate_left
    ·obtain rfl:=oi hp;exact hq _ q.ext'
    obtain⟨og,gf,hp⟩:=zqp hp;refine zwK q.pre  gf fun Hg hf=>?_;obtain⟨jf,pg⟩:=q.call hf d;refine⟨_,rfl,?_⟩;obtain rfl:=oi hp;exact hq _ jf.ext'
   refine ifd hp (fun kf hp=>?_) fun kf hp=>?_; rotate_left
   ·obtain rfl:=oi hp;exact hq _ q.ext'
   refine ifd hp (fun lf hp=>?_) fun lf hp=>?_
   ·obtain⟨qg,mf,hp⟩:=zqp hp;refine zwK q.pre  mf fun Ig nf=>?_;obtain⟨pf,rg⟩:=q.call nf d;refine⟨_,rfl,?_⟩;obtain rfl:=oi hp;exact hq _ pf.ext'
   refine ifd hp (fun qf hp=>?_) fun qf hp=>?_; rotate_left
   ·obtain rfl:=oi hp;exact hq _ q.ext'
   obtain⟨sg,rf,hp⟩:=zqp hp;refine zwK q.pre  rf fun Jg sf=>?_;obtain⟨tf,tg⟩:=q.call sf d;refine⟨_,rfl,?_⟩;obtain rfl:=oi hp;exact hq _ tf.ext'
 exact hgo _ _ _ _ _ ab qa wa (Sub.refl _) s t S hp
set_option maxHeartbeats 4000000 in
theorem zwQ{r:Rl}{z:Zn}{words:List W8}{by_:Int}{ca105 ca201 ca300:C}{m f:M}{Q:V->M->Prop}{rz:Bool}(hS:Pre f m)(ha105:Sl f ca105 r.Price)(ha201:Sl f ca201 z.Years)(ha300:Sl f ca300 words)(hp:zuq r z words by_=some rz)(hq:∀m',Ext m m'->Q (.c (.bool rz)) m'):Wc prog tbl 14 [.agg 6 [Il r.Classes,Il r.Good,Il r.Bad,Il r.Rest,Il r.Fewest,ca105],.agg 2 [Il z.First,ca201],.c ca300,.c (.int .u8 by_)] m Q:=by
 have S0:=hS.st;obtain⟨τ0,_⟩:=zr3;refine w14 ?_;unfold zuq at hp;intro m0 ld;obtain⟨md,nd,Kk,od⟩:=S0.blk ld τ0 1;intro m1 pd;obtain⟨Za,dc,qd,ec⟩:=nd.blk pd md 2;have fc:=od.k qd;refine⟨_,_,_,_,_,_,fc.bk.ra,_,_,ec.bk.ra,?_⟩;obtain⟨Lk,sd,hp⟩:=zqp hp;refine zwL (r:=r) (z:=z) dc.pre ha105 ha201 sd fun bm td=>?_;obtain⟨ab,gc⟩:=dc.call td Za;have ud:=fc.k gc;have hc:=ec.k gc;refine⟨_,rfl,?_⟩;refine zqU hp (fun vd hp=>?_) fun vd hp=>?_
 ·obtain⟨Mk,wd,hp⟩:=zqp hp;refine zwK ab.pre  wd fun cm xd=>?_;obtain⟨yd,Nk⟩:=ab.call xd Za;refine⟨_,rfl,?_⟩;obtain rfl:=oi hp;exact hq _ yd.ext'
 refine gdi hp fun zd hp=>?_;refine gdi hp fun Ad hp=>?_;refine gdi hp fun Bd hp=>?_;obtain⟨Cd,hp⟩:=zqq hp;refine⟨Cd,_,_,hc.bk.ra,?_⟩;obtain⟨ic,Dd,hp⟩:=zqp hp;refine zwM (z:=z) (words:=words) ab.pre ha201 ha300 Dd fun wk jc kc nc Ed ta Ia=>?_;obtain⟨Fd,ma⟩:=ab.callG Ed Za;have Gd:=ud.k ma;have Hd:=hc.k ma;refine⟨_,_,rfl,?_⟩;intro dm Id;obtain⟨Jd,Ld,oc,Md⟩:=Fd.blk Id Za 3;have Nd:=Gd.k oc;have Od:=Hd.k oc;obtain⟨pc,Pd,Qd,qc,Rd⟩:=Md.sto Ld [kc,nc];have Sd:=Nd.k qc;have Td:=Od.k qc;refine⟨pc,Pd,?_⟩;intro xk Ud;obtain⟨Vd,Wd,ub,ed⟩:=Qd.growK Ud Jd 4;have Xd:=Sd.k ub;have vb:=Td.k ub;have Yd:=Rd.k ub;have Zd:=ed 0 (by decide);refine⟨_,_,vb.bk.ra,_,_,vb.bk.ra,?_⟩;intro em ae;obtain⟨be,ce,bb,de⟩:=Wd.blk ae Vd 5;have ee:=Xd.k bb;have wb:=vb.k bb;have fe:=Yd.k bb;have ge:=Zd.k bb;refine⟨(by rw[show zaL cmC _=true from zoV (zqt rfl (zqt ha201.noFn zqu))]; exact(wb.bk.ra)),(by rw[show zaL cmC _=true from zoV (zqt rfl (zqt ha201.noFn zqu))]; exact(wb.bk.ra)),?_⟩;intro fm he;obtain⟨ie,cb,je⟩:=ge.set ce he;have ke:=ee.k cb;have xb:=wb.k cb;have me:=fe.k cb;have oe:=de.k cb;refine⟨(by rw[show zaL cmC _=true from zoV (zqt rfl (zqt ha201.noFn zqu))]; exact(xb.bk.ra)),(by rw[show zaL cmC _=true from zoV (zqt rfl (zqt ha201.noFn zqu))]; exact(xb.bk.ra)),?_⟩;obtain⟨pe,qe,re,db,se⟩:=oe.sto ie [Il z.First,ca201];have te:=ke.k db;have sc:=xb.k db;have ue:=me.k db;have ve:=je.k db;refine⟨pe,qe,?_⟩;refine⟨(by rw[show zaL cmC _=true from zoV (zqt rfl (zqt ha201.noFn zqu))]; exact(sc.bk.ra)),?_⟩
 obtain⟨we,xe,ye,eb,ze⟩:=ve.sto re [Il z.First,ca201];have Ae:=te.k eb;have Be:=sc.k eb;have Ce:=ue.k eb;have De:=se.k eb;refine⟨we,xe,?_⟩;intro gm Ee;obtain⟨Fe,Ge,Ja,fd⟩:=ye.growK Ee be 6;have He:=Ae.k Ja;have yb:=Be.k Ja;have Ie:=Ce.k Ja;have Je:=De.k Ja;have Ke:=ze.k Ja;have Me:=fd 0 (by decide);intro hm Ne;obtain⟨Ok,Oe,ya,Pe⟩:=Ge.blk Ne Fe 7;have Qe:=He.k ya;have zb:=yb.k ya;have Re:=Ie.k ya;have Se:=Je.k ya;have Te:=Ke.k ya;have Ue:=Me.k ya;refine⟨trivial,_,zb.bk.rc rfl,(by rw[show cmC _=true from zoU (ha201.noFn)]; exact(yb.bk.rc rfl)),?_⟩;have Ve:=Lb.ow0 (α:=Yr) Pe;obtain⟨We,hp⟩:=zqq hp;obtain⟨Ab,Xe,Qk,Ye,Ze,za,J⟩:=Ve.appL zwp Oe (ha201.sub ma.fs) We;have af:=Qe.k za;have tc:=zb.k za;have bf:=Re.k za;have cf:=Se.k za;have df:=Te.k za;have ef:=Ue.k za;refine⟨Ab,Xe,Ye,?_⟩;intro im gf;obtain⟨hf,Aa,jf⟩:=ef.set Ze gf;have kf:=af.k Aa;have Bb:=tc.k Aa;have lf:=bf.k Aa;have mf:=cf.k Aa;have nf:=df.k Aa;have J:=J.k Aa;refine⟨(by rw[show cmC _=true from zoU (ha201.noFn)]; exact(Bb.bk.rc rfl)),trivial,_,Bb.bk.rc rfl,(by rw[show cmC _=true from zoU (ha201.noFn)]; exact(tc.bk.rc rfl)),(by rw[show cmC _=true from zoU (ha201.noFn)]; exact(zb.bk.rc rfl)),(by rw[show cmC _=true from zoU (ha201.noFn)]; exact(yb.bk.rc rfl)),?_⟩;have pf:=Lb.ow0 (α:=Yr) jf;obtain⟨qf,hp⟩:=zqq hp;obtain⟨Cb,rf,sf,tf,uf,Ba,ua⟩:=pf.appL zwp hf (ha201.sub ma.fs) qf;have vf:=kf.k Ba;have wf:=Bb.k Ba;have xf:=lf.k Ba;have yf:=mf.k Ba;have zf:=nf.k Ba;have J:=J.k Ba;refine⟨Cb,rf,tf,?_⟩;refine⟨trivial,?_⟩
 obtain⟨Af,Bf,Cf,Ca,Db⟩:=yf.sto1 uf 1 Ab (by simp) rfl
 replace Db:Lb _ _ _ _ _ _ _ [Il z.First,Ab]:=Db
 have Df:=vf.k Ca;have Ef:=wf.k Ca;have Ff:=xf.k Ca;have Gf:=zf.k Ca;have J:=J.k Ca;have ua:=ua.k Ca;refine⟨Af,Bf,?_⟩;refine⟨trivial,?_⟩;obtain⟨uc,Hf,If,Da,Eb⟩:=Gf.sto1 Cf 1 Cb (by simp) rfl
 replace Eb:Lb _ _ _ _ _ _ _ [Il z.First,Cb]:=Eb
 have Jf:=Df.k Da;have Kf:=Ef.k Da;have Lf:=Ff.k Da;have Mf:=Db.k Da;have J:=J.k Da;have ua:=ua.k Da;refine⟨uc,Hf,?_⟩;intro jm Nf;obtain⟨Of,Pf,va,Ka⟩:=If.blk Nf sf 8;have Ea:=Jf.k va;have fb:=Kf.k va;have na:=Lf.k va;have wa:=Mf.k va;have Fa:=Eb.k va;have J:=J.k va;have ua:=ua.k va;intro yk vk
 have hgo:∀(gb:Nat) (ca:Int) (hb:C) (ib:C) (jb:C) (La:C) (Ga:Int) (P:List Yr) (Ha:Int) (S:List Yr) (Ma:List Int) (Na:List Int) (oa:M) (w:M) (i:Nat->Nat),St (Fm.of m) f w oa->Sub jc w->Lb (Fm.of m) w i oa 1 m.nxt 6 [Il r.Classes,Il r.Good,Il r.Bad,Il r.Rest,Il r.Fewest,ca105]->Lb (Fm.of m) w i oa 2 m0.nxt 2 [Il z.First,ca201]->Lb (Fm.of m) w i oa 3 wk.nxt 2 [kc,nc]->Lb (Fm.of m) w i oa 5 xk.nxt 2 [Il Ga,hb]->Lb (Fm.of m) w i oa 4 (pc.nxt+0) 2 [Il Ha,ib]->Lb (Fm.of m) w i oa 8 uc.nxt 2 [jb,La]->Ow (Fm.of m) w i oa 7 hb P->Ow (Fm.of m) w i oa 6 ib S->Ow (Fm.of m) w i oa 9 jb Ma->Ow (Fm.of m) w i oa 10 La Na->zup r by_ ic gb Ga P Ha S Ma Na ca=some rz->yk [.c (Il ca)] oa:=by
  intro gb
  induction gb with
  | zero=>intro ca hb ib jb La Ga P Ha S Ma Na oa w i Oa G Ea fb na wa Fa Ka y da e d hp; cases hp
  | succ gb Qf=>
   intro ca hb ib jb La Ga P Ha S Ma Na oa w i Oa G Ea fb na wa Fa Ka y da e d hp;refine vk _ _ ?_;rw[zup] at hp;refine⟨trivial,_,na.bk.rc rfl,ta.isSl,?_⟩
   try rw[ta.slLen]
   refine ifd hp (fun Rf hp=>?_) fun Rf hp=>?_
   ·refine⟨trivial,_,na.bk.rc rfl,?_⟩;obtain⟨g,Fb,hp⟩:=zqp hp;obtain⟨zk,hd,Tb,Fb⟩:=zqj Fb;refine⟨zk,hd,(by first|exact Tb|(rw[ta.slLen];exact Tb)),_,(ta.rdI Fb (Sub.trans G Oa.sub)),trivial,_,na.bk.rc rfl,?_⟩;obtain⟨j,Gb,hp⟩:=zqp hp;obtain⟨Ak,id,Ub,Gb⟩:=zqj Gb;refine⟨Ak,id,(by first|exact Ub|(rw[Ia.slLen];exact Ub)),_,(Ia.rdI Gb (Sub.trans G Oa.sub)),trivial,_,wa.bk.rc rfl,trivial,_,wa.bk.rc rfl,?_⟩;obtain⟨n,Pa,hp⟩:=zqp hp;obtain⟨vc,qb,Vb,Pa⟩:=zqj Pa;refine⟨vc,qb,(by first|exact Vb|(rw[y.slLen];exact Vb)),(y.isPt Pa _),?_⟩;obtain⟨Sf,Tf,Uf,ea,Qa⟩:=y.setP Oa (a':=({ Losses:=({ Lo:=g,Hi:=g }:Rg),Premiums:=n.Premiums,Parcels:=n.Parcels,Exempt:=n.Exempt }:Yr)) Pa [Il n.Losses.Lo,Il n.Losses.Hi,Il n.Premiums.Lo,Il n.Premiums.Hi,Il n.Parcels,.bool n.Exempt] (fun _ h=>h) 0 [Il g,Il g] (Nat.le_of_ble_eq_true rfl) rfl
    have Wb:Int.toNat ca=vc:=by rw[qb]; rfl
    rw[<- Wb] at Qa;have Ck:=qb;have Vf:(P.set (Int.toNat ca) ({ Losses:=({ Lo:=g,Hi:=g }:Rg),Premiums:=n.Premiums,Parcels:=n.Parcels,Exempt:=n.Exempt }:Yr))[vc]? = some ({ Losses:=({ Lo:=g,Hi:=g }:Rg),Premiums:=n.Premiums,Parcels:=n.Parcels,Exempt:=n.Exempt }:Yr):=(congrArg (fun z9_=>(P.set z9_ ({ Losses:=({ Lo:=g,Hi:=g }:Rg),Premiums:=n.Premiums,Parcels:=n.Parcels,Exempt:=n.Exempt }:Yr))[vc]?) Wb).trans (List.getElem?_set_self (List.getElem?_eq_some_iff.1 Pa).1);have Dk:=(List.getElem?_eq_some_iff.1 Vf).1;have Wf:=Ea.k ea;have Xf:=fb.k ea;have Yf:=na.k ea;have wc:=wa.k ea;have Zf:=Fa.k ea;have ag:=Ka.k ea;have da:=da.k ea;have e:=e.k ea;have d:=d.k ea;refine⟨Sf,Tf,?_⟩;refine⟨(by rw[show cmC _=true from zoU (Qa.noFn)]; exact(wc.bk.rc rfl)),?_⟩;obtain⟨q,Ra,hp⟩:=zqp hp;obtain⟨xc,rb,Xb,Ra⟩:=zqj Ra;refine⟨xc,rb,(by first|exact Xb|(rw[Qa.slLen];exact Xb)),(Qa.isPt Ra _),?_⟩;obtain⟨bg,cg,dg,fa,p⟩:=Qa.setP Uf (a':=({ Losses:=q.Losses,Premiums:=({ Lo:=j,Hi:=j }:Rg),Parcels:=q.Parcels,Exempt:=q.Exempt }:Yr)) Ra [Il q.Losses.Lo,Il q.Losses.Hi,Il q.Premiums.Lo,Il q.Premiums.Hi,Il q.Parcels,.bool q.Exempt] (fun _ h=>h) 2 [Il j,Il j] (Nat.le_of_ble_eq_true rfl) rfl
    have Yb:Int.toNat ca=xc:=by rw[rb]; rfl
    rw[<- Yb] at p;have Ek:=rb;have eg:((P.set (Int.toNat ca) ({ Losses:=({ Lo:=g,Hi:=g }:Rg),Premiums:=n.Premiums,Parcels:=n.Parcels,Exempt:=n.Exempt }:Yr)).set (Int.toNat ca) ({ Losses:=q.Losses,Premiums:=({ Lo:=j,Hi:=j }:Rg),Parcels:=q.Parcels,Exempt:=q.Exempt }:Yr))[xc]? = some ({ Losses:=q.Losses,Premiums:=({ Lo:=j,Hi:=j }:Rg),Parcels:=q.Parcels,Exempt:=q.Exempt }:Yr):=(congrArg (fun z9_=>((P.set (Int.toNat ca) ({ Losses:=({ Lo:=g,Hi:=g }:Rg),Premiums:=n.Premiums,Parcels:=n.Parcels,Exempt:=n.Exempt }:Yr)).set z9_ ({ Losses:=q.Losses,Premiums:=({ Lo:=j,Hi:=j }:Rg),Parcels:=q.Parcels,Exempt:=q.Exempt }:Yr))[xc]?) Yb).trans (List.getElem?_set_self (List.getElem?_eq_some_iff.1 Ra).1);have Fk:=(List.getElem?_eq_some_iff.1 eg).1;have fg:=Wf.k fa;have gg:=Xf.k fa;have hg:=Yf.k fa;have ig:=wc.k fa;have Hb:=Zf.k fa;have jg:=ag.k fa;have da:=da.k fa;have e:=e.k fa;have d:=d.k fa;refine⟨bg,cg,?_⟩;refine⟨trivial,_,Hb.bk.rc rfl,trivial,_,Hb.bk.rc rfl,?_⟩;refine gdi hp fun kg hp=>?_;refine gdi hp fun lg hp=>?_;refine gdi hp fun mg hp=>?_;refine gdi hp fun ng hp=>?_;refine gdi hp fun og hp=>?_;refine gdi hp fun pg hp=>?_;refine gdi hp fun qg hp=>?_;refine gdi hp fun rg hp=>?_;refine gdi hp fun sg hp=>?_;refine gdi hp fun tg hp=>?_;refine gdi hp fun ug hp=>?_;refine gdi hp fun vg hp=>?_;obtain⟨o,Sa,hp⟩:=zqp hp;obtain⟨yc,sb,Zb,Sa⟩:=zqj Sa;refine⟨yc,sb,(by first|exact Zb|(rw[da.slLen];exact Zb)),(da.isPt Sa _),?_⟩;obtain⟨xg,zg,Ag,ga,Ta⟩:=da.setP dg (a':=({ Losses:=({ Lo:=(((1:Int)+((zma .i64 by_) % (5:Int))) * g),Hi:=(((1:Int)+((zma .i64 by_) % (5:Int))) * g) }:Rg),Premiums:=o.Premiums,Parcels:=o.Parcels,Exempt:=o.Exempt }:Yr)) Sa [Il o.Losses.Lo,Il o.Losses.Hi,Il o.Premiums.Lo,Il o.Premiums.Hi,Il o.Parcels,.bool o.Exempt] (fun _ h=>h) 0 [(Il (((1:Int)+((zma .i64 by_) % (5:Int))) * g)),(Il (((1:Int)+((zma .i64 by_) % (5:Int))) * g))] (Nat.le_of_ble_eq_true rfl) rfl
    have ac:Int.toNat ca=yc:=by rw[sb]; rfl
    rw[<- ac] at Ta;have Gk:=sb;have Bg:(S.set (Int.toNat ca) ({ Losses:=({ Lo:=(((1:Int)+((zma .i64 by_) % (5:Int))) * g),Hi:=(((1:Int)+((zma .i64 by_) % (5:Int))) * g) }:Rg),Premiums:=o.Premiums,Parcels:=o.Parcels,Exempt:=o.Exempt }:Yr))[yc]? = some ({ Losses:=({ Lo:=(((1:Int)+((zma .i64 by_) % (5:Int))) * g),Hi:=(((1:Int)+((zma .i64 by_) % (5:Int))) * g) }:Rg),Premiums:=o.Premiums,Parcels:=o.Parcels,Exempt:=o.Exempt }:Yr):=(congrArg (fun z9_=>(S.set z9_ ({ Losses:=({ Lo:=(((1:Int)+((zma .i64 by_) % (5:Int))) * g),Hi:=(((1:Int)+((zma .i64 by_) % (5:Int))) * g) }:Rg),Premiums:=o.Premiums,Parcels:=o.Parcels,Exempt:=o.Exempt }:Yr))[yc]?) ac).trans (List.getElem?_set_self (List.getElem?_eq_some_iff.1 Sa).1);have Hk:=(List.getElem?_eq_some_iff.1 Bg).1;have Cg:=fg.k ga;have Dg:=gg.k ga;have Eg:=hg.k ga;have Fg:=ig.k ga;have zc:=Hb.k ga;have Gg:=jg.k ga;have e:=e.k ga;have d:=d.k ga;have p:=p.k ga;refine⟨xg,zg,?_⟩;refine⟨(by rw[show cmC _=true from zoU (Ta.noFn)]; exact(zc.bk.rc rfl)),?_⟩;obtain⟨s,Ua,hp⟩:=zqp hp;obtain⟨Ac,tb,bc,Ua⟩:=zqj Ua;refine⟨Ac,tb,(by first|exact bc|(rw[Ta.slLen];exact bc)),(Ta.isPt Ua _),?_⟩;obtain⟨Bc,Hg,Ig,ha,u⟩:=Ta.setP Ag (a':=({ Losses:=s.Losses,Premiums:=({ Lo:=(((1:Int)+((zma .i64 by_) % (5:Int))) * j),Hi:=(((1:Int)+((zma .i64 by_) % (5:Int))) * j) }:Rg),Parcels:=s.Parcels,Exempt:=s.Exempt }:Yr)) Ua [Il s.Losses.Lo,Il s.Losses.Hi,Il s.Premiums.Lo,Il s.Premiums.Hi,Il s.Parcels,.bool s.Exempt] (fun _ h=>h) 2 [(Il (((1:Int)+((zma .i64 by_) % (5:Int))) * j)),(Il (((1:Int)+((zma .i64 by_) % (5:Int))) * j))] (Nat.le_of_ble_eq_true rfl) rfl
    have cc:Int.toNat ca=Ac:=by rw[tb]; rfl
    rw[<- cc] at u;have Ik:=tb;have Jg:((S.set (Int.toNat ca) ({ Losses:=({ Lo:=(((1:Int)+((zma .i64 by_) % (5:Int))) * g),Hi:=(((1:Int)+((zma .i64 by_) % (5:Int))) * g) }:Rg),Premiums:=o.Premiums,Parcels:=o.Parcels,Exempt:=o.Exempt }:Yr)).set (Int.toNat ca) ({ Losses:=s.Losses,Premiums:=({ Lo:=(((1:Int)+((zma .i64 by_) % (5:Int))) * j),Hi:=(((1:Int)+((zma .i64 by_) % (5:Int))) * j) }:Rg),Parcels:=s.Parcels,Exempt:=s.Exempt }:Yr))[Ac]? = some ({ Losses:=s.Losses,Premiums:=({ Lo:=(((1:Int)+((zma .i64 by_) % (5:Int))) * j),Hi:=(((1:Int)+((zma .i64 by_) % (5:Int))) * j) }:Rg),Parcels:=s.Parcels,Exempt:=s.Exempt }:Yr):=(congrArg (fun z9_=>((S.set (Int.toNat ca) ({ Losses:=({ Lo:=(((1:Int)+((zma .i64 by_) % (5:Int))) * g),Hi:=(((1:Int)+((zma .i64 by_) % (5:Int))) * g) }:Rg),Premiums:=o.Premiums,Parcels:=o.Parcels,Exempt:=o.Exempt }:Yr)).set z9_ ({ Losses:=s.Losses,Premiums:=({ Lo:=(((1:Int)+((zma .i64 by_) % (5:Int))) * j),Hi:=(((1:Int)+((zma .i64 by_) % (5:Int))) * j) }:Rg),Parcels:=s.Parcels,Exempt:=s.Exempt }:Yr))[Ac]?) cc).trans (List.getElem?_set_self (List.getElem?_eq_some_iff.1 Ua).1);have Jk:=(List.getElem?_eq_some_iff.1 Jg).1;have Kg:=Cg.k ha;have Lg:=Dg.k ha;have Mg:=Eg.k ha;have Ng:=Fg.k ha;have Og:=zc.k ha;have Pg:=Gg.k ha;have e:=e.k ha;have d:=d.k ha;have p:=p.k ha;refine⟨Bc,Hg,?_⟩;intro km Qg;obtain⟨Sk,Sg,T,jd⟩:=Ig.growK Qg i 11;have Tg:=Kg.k T;have Ug:=Lg.k T;have Vg:=Mg.k T;have Xg:=Ng.k T;have Zg:=Og.k T;have Va:=Pg.k T;have e:=e.k T;have d:=d.k T;have p:=p.k T;have u:=u.k T
    have ah:=jd 0 (by decide);refine⟨trivial,_,Va.bk.rc rfl,?_⟩;refine gdi hp fun bh hp=>?_;refine gdi hp fun ch hp=>?_;refine gdi hp fun dh hp=>?_;obtain⟨eh,hp⟩:=zqq hp;intro lm Ib;refine⟨(by rw[show cmC _=true from zoU (e.noFn)]; exact(Va.bk.ext (Bk.new Ib).2).rc rfl),?_⟩;obtain⟨kb,fh,Tk,gh,hh,Y,N⟩:=e.app' zuS Sg (a:=(((1:Int)+((zma .i64 by_) % (5:Int))) * g)) (show Rp.rep (α:=Int) w _ (((1:Int)+((zma .i64 by_) % (5:Int))) * g) from rfl) eh Ib;have ih:=Tg.k Y;have jh:=Ug.k Y;have kh:=Vg.k Y;have lh:=Xg.k Y;have mh:=Zg.k Y;have Cc:=Va.k Y;have nh:=ah.k Y;have d:=d.k Y;have p:=p.k Y;have u:=u.k Y;refine⟨kb,fh,gh,?_⟩;refine⟨trivial,_,Cc.bk.rc rfl,(by rw[show cmC _=true from zoU (d.noFn)]; exact((Va.nb Ib).bk.rc rfl)),(by rw[show cmC _=true from zoU (d.noFn)]; exact(Va.bk.rc rfl)),?_⟩;refine gdi hp fun oh hp=>?_;refine gdi hp fun ph hp=>?_;refine gdi hp fun qh hp=>?_;intro mm rh;obtain⟨th,Z,uh⟩:=nh.set hh rh;have vh:=ih.k Z;have wh:=jh.k Z;have xh:=kh.k Z;have yh:=lh.k Z;have zh:=mh.k Z;have Jb:=Cc.k Z;have d:=d.k Z;have p:=p.k Z;have u:=u.k Z;have N:=N.k Z;refine⟨(by rw[show cmC _=true from zoU (d.noFn)]; exact(Jb.bk.rc rfl)),(by rw[show cmC _=true from zoU (e.noFn)]; exact(Jb.bk.rc rfl)),?_⟩;obtain⟨Kb,Ah,O,kd⟩:=uh.freeze th;have Bh:=vh.k O;have Ch:=wh.k O;have Dh:=xh.k O;have Eh:=yh.k O;have Fh:=zh.k O;have Gh:=Jb.k O;have d:=d.k O;have p:=p.k O;have u:=u.k O;have N:=N.k O;have Hh:Sl Kb (C.sl (Bc.nxt+0) 0 1 0 (Option.some 1)) ([(((1:Int)+((zma .i64 by_) % (5:Int))) * j)]:List Int):=Bk.sl (α:=Int) (l:=([(((1:Int)+((zma .i64 by_) % (5:Int))) * j)]:List Int)) kd (show Cat (α:=Int) Kb [(Il (((1:Int)+((zma .i64 by_) % (5:Int))) * j))] ([(((1:Int)+((zma .i64 by_) % (5:Int))) * j)]:List Int) from ⟨[(Il (((1:Int)+((zma .i64 by_) % (5:Int))) * j))],_,rfl,rfl,rfl⟩) rfl rfl _
    obtain⟨Ih,hp⟩:=zqq hp;obtain⟨Mb,Jh,Kh,Lh,Mh,ia,Wa⟩:=d.appL zuS Ah Hh Ih;have Nh:=Bh.k ia;have Oh:=Ch.k ia;have Ph:=Dh.k ia;have Qh:=Eh.k ia;have Rh:=Fh.k ia;have Sh:=Gh.k ia;have p:=p.k ia;have u:=u.k ia;have N:=N.k ia;refine⟨Mb,Jh,Lh,?_⟩;refine⟨trivial,?_⟩;obtain⟨Th,Uh,Vh,ja,Nb⟩:=Sh.sto1 Mh 0 kb (by simp) rfl
    replace Nb:Lb _ _ _ _ _ _ _ [kb,La]:=Nb
    have Wh:=Nh.k ja;have Xh:=Oh.k ja;have Yh:=Ph.k ja;have Zh:=Qh.k ja;have ai:=Rh.k ja;have p:=p.k ja;have u:=u.k ja;have N:=N.k ja;have Wa:=Wa.k ja;refine⟨Th,Uh,?_⟩;refine⟨trivial,?_⟩;obtain⟨bi,ci,ei,ka,Ob⟩:=Nb.sto1 Vh 1 Mb (by simp) rfl
    replace Ob:Lb _ _ _ _ _ _ _ [kb,Mb]:=Ob
    have fi:=Wh.k ka;have gi:=Xh.k ka;have hi:=Yh.k ka;have ii:=Zh.k ka;have ji:=ai.k ka;have p:=p.k ka;have u:=u.k ka;have N:=N.k ka;have Wa:=Wa.k ka;refine⟨bi,ci,?_⟩;refine gdi hp fun ki hp=>?_;exact Qf _ _ _ _ _ _ _ _ _ _ _ _ Kb Kh ei (Sub.trans G O.fs) fi gi hi ii ji Ob p u N Wa hp
   refine⟨_,_,_,_,_,_,Ea.bk.ra,_,_,Fa.bk.ra,?_⟩;obtain⟨Uk,Dc,A,Pb⟩:=da.freeze Oa;have ni:=Ea.k A;have pi:=na.k A;have qi:=wa.k A;have ri:=Fa.k A;have si:=Ka.k A;have y:=y.k A;have e:=e.k A;have d:=d.k A;obtain⟨Vk,ti,hp⟩:=zqp hp;refine zwG (r:=r) (z:=({ First:=Ha,Years:=S }:Zn)) Dc.pre (ha105.sub (Sub.trans (Sub.trans ma.fs G) A.fs)) Pb ti fun nm ui=>?_;obtain⟨mb,pa⟩:=Dc.call ui i;have Ec:=ni.k pa;have Fc:=pi.k pa;have Gc:=qi.k pa;have vi:=ri.k pa;have wi:=si.k pa;have y:=y.k pa;have e:=e.k pa;have d:=d.k pa;refine⟨_,rfl,?_⟩;refine zqS hp (fun xi hp=>?_) fun xi hp=>?_
   ·obtain⟨Xk,yi,hp⟩:=zqp hp;refine zwK mb.pre  yi fun om zi=>?_;obtain⟨Ai,Qb⟩:=mb.call zi i;have y:=y.k Qb;have e:=e.k Qb;have d:=d.k Qb;refine⟨_,rfl,?_⟩;obtain rfl:=oi hp;exact hq _ Ai.ext'
   refine⟨_,_,_,_,_,_,Ec.bk.ra,?_⟩;obtain⟨Bi,Ci,hp⟩:=zqp hp;refine zwC (r:=r) mb.pre (ha105.sub (Sub.trans (Sub.trans ma.fs G) A.fs)) Ci fun pm Yk Zk Di Ei=>?_;obtain⟨Fi,D⟩:=mb.callG Di i;have Gi:=Ec.k D;have Ii:=Fc.k D;have Hc:=Gc.k D;have Ji:=vi.k D;have Ki:=wi.k D;have y:=y.k D;have e:=e.k D;have d:=d.k D;refine⟨_,_,_,_,_,_,rfl,_,_,Hc.bk.ra,(by rw[show zaL cmC _=true from zoV (zqt rfl (zqt y.noFn zqu))]; exact(Gc.bk.ra)),?_⟩;obtain⟨al,Ic,F,Rb⟩:=y.freeze Fi;have Ni:=Gi.k F;have Jc:=Ii.k F;have Oi:=Hc.k F;have Pi:=Ji.k F;have Qi:=Ki.k F;have e:=e.k F;have d:=d.k F;obtain⟨Ri,Si,hp⟩:=zqp hp;refine zwD (z:=({ First:=Ga,Years:=P }:Zn)) Ic.pre Rb Si fun Ml bl cl Ti Ui=>?_;obtain⟨Kc,B⟩:=Ic.callG Ti i;have Vi:=Ni.k B;have Wi:=Jc.k B;have Xi:=Oi.k B;have Yi:=Pi.k B;have Zi:=Qi.k B;have e:=e.k B;have d:=d.k B;refine⟨_,_,rfl,_,_,Wi.bk.ra,(by rw[show zaL cmC _=true from zoV (zqt ta.noFn (zqt Ia.noFn zqu))]; exact(Jc.bk.ra)),(by rw[show zaL cmC _=true from zoV (zqt ta.noFn (zqt Ia.noFn zqu))]; exact(Fc.bk.ra)),?_⟩;obtain⟨aj,bj,hp⟩:=zqp hp;refine zwE (t:=ic) Kc.pre (ta.sub (Sub.trans (Sub.trans (Sub.trans (Sub.trans G A.fs) D.fs) F.fs) B.fs)) (Ia.sub (Sub.trans (Sub.trans (Sub.trans (Sub.trans G A.fs) D.fs) F.fs) B.fs)) bj fun Nl dl el fl cj dj ej=>?_;obtain⟨Nc,I⟩:=Kc.callG cj i;have fj:=Vi.k I;have gj:=Xi.k I;have hj:=Yi.k I;have ij:=Zi.k I;have e:=e.k I;have d:=d.k I;refine⟨_,_,rfl,?_⟩;obtain⟨jj,kj,hp⟩:=zqp hp;refine zwu (r:=Bi) (z:=Ri) (t:=aj) Nc.pre (Ei.sub (Sub.trans (Sub.trans F.fs B.fs) I.fs)) (Ui.sub I.fs) dj ej kj fun Ol gl hl lj mj=>?_
   obtain⟨Oc,aa⟩:=Nc.callG lj i;have Pc:=fj.k aa;have nj:=gj.k aa;have Qc:=hj.k aa;have Rc:=ij.k aa;have e:=e.k aa;have d:=d.k aa;refine⟨_,_,rfl,_,_,_,_,_,_,Pc.bk.ra,?_⟩;obtain⟨oj,pj,hp⟩:=zqp hp;refine zwC (r:=r) Oc.pre (ha105.sub (Sub.trans (Sub.trans (Sub.trans (Sub.trans (Sub.trans (Sub.trans (Sub.trans ma.fs G) A.fs) D.fs) F.fs) B.fs) I.fs) aa.fs)) pj fun Pl il jl qj rj=>?_;obtain⟨Tc,ba⟩:=Oc.callG qj i;have sj:=Pc.k ba;have tj:=nj.k ba;have uj:=Qc.k ba;have Uc:=Rc.k ba;have e:=e.k ba;have d:=d.k ba;refine⟨_,_,_,_,_,_,rfl,_,_,uj.bk.ra,(by rw[show zaL cmC _=true from zoV (zqt rfl (zqt Pb.noFn zqu))]; exact(Qc.bk.ra)),?_⟩;obtain⟨vj,wj,hp⟩:=zqp hp;refine zwD (z:=({ First:=Ha,Years:=S }:Zn)) Tc.pre (Pb.sub (Sub.trans (Sub.trans (Sub.trans (Sub.trans (Sub.trans D.fs F.fs) B.fs) I.fs) aa.fs) ba.fs)) wj fun Ql ll ml xj yj=>?_;obtain⟨zj,la⟩:=Tc.callG xj i;have Aj:=sj.k la;have Bj:=tj.k la;have Cj:=Uc.k la;have e:=e.k la;have d:=d.k la;refine⟨_,_,rfl,_,_,Cj.bk.ra,(by rw[show zaL cmC _=true from zoV (zqt e.noFn (zqt d.noFn zqu))]; exact(Uc.bk.ra)),(by rw[show zaL cmC _=true from zoV (zqt e.noFn (zqt d.noFn zqu))]; exact(Rc.bk.ra)),?_⟩;obtain⟨ol,Dj,qa,Ej⟩:=e.freeze zj;have Fj:=Aj.k qa;have Gj:=Bj.k qa;have d:=d.k qa;obtain⟨ql,Vc,sa,Hj⟩:=d.freeze Dj;have Ij:=Fj.k sa;have Jj:=Gj.k sa;obtain⟨Kj,Lj,hp⟩:=zqp hp;refine zwE (t:=({ Losses:=Ma,Premiums:=Na }:Tr)) Vc.pre (Ej.sub sa.fs) Hj Lj fun Tl rl tl ul Mj Nj Oj=>?_;obtain⟨Xc,xa⟩:=Vc.callG Mj i
   have Pj:=Ij.k xa;have Qj:=Jj.k xa;refine⟨_,_,rfl,?_⟩;obtain⟨Rj,Sj,hp⟩:=zqp hp;refine zwu (r:=oj) (z:=vj) (t:=Kj) Xc.pre (rj.sub (Sub.trans (Sub.trans (Sub.trans la.fs qa.fs) sa.fs) xa.fs)) (yj.sub (Sub.trans (Sub.trans qa.fs sa.fs) xa.fs)) Nj Oj Sj fun Ul vl wl Tj Uj=>?_;obtain⟨Yc,Xa⟩:=Xc.callG Tj i;have Vj:=Pj.k Xa;have Zc:=Qj.k Xa;refine⟨_,_,rfl,_,_,_,_,_,_,Vj.bk.ra,?_⟩;obtain⟨Wj,Xj,hp⟩:=zqp hp;refine zwC (r:=r) Yc.pre (ha105.sub (Sub.trans (Sub.trans (Sub.trans (Sub.trans (Sub.trans (Sub.trans (Sub.trans (Sub.trans (Sub.trans (Sub.trans (Sub.trans (Sub.trans (Sub.trans ma.fs G) A.fs) D.fs) F.fs) B.fs) I.fs) aa.fs) ba.fs) la.fs) qa.fs) sa.fs) xa.fs) Xa.fs)) Xj fun Vl xl yl Yj Zj=>?_;obtain⟨ad,ob⟩:=Yc.callG Yj i;have ak:=Zc.k ob;refine⟨_,_,_,_,_,_,rfl,_,_,ak.bk.ra,(by rw[show zaL cmC _=true from zoV (zqt rfl (zqt Rb.noFn zqu))]; exact(Zc.bk.ra)),?_⟩;obtain⟨ck,dk,hp⟩:=zqp hp;refine zwD (z:=({ First:=Ga,Years:=P }:Zn)) ad.pre (Rb.sub (Sub.trans (Sub.trans (Sub.trans (Sub.trans (Sub.trans (Sub.trans (Sub.trans (Sub.trans (Sub.trans B.fs I.fs) aa.fs) ba.fs) la.fs) qa.fs) sa.fs) xa.fs) Xa.fs) ob.fs)) dk fun Xl zl Al ek fk=>?_;obtain⟨bd,Sb⟩:=ad.callG ek i;refine⟨_,_,rfl,?_⟩;obtain⟨Bl,gk,hp⟩:=zqp hp;refine zwy (r:=Wj) (z:=ck) bd.pre (Zj.sub Sb.fs) fk gk fun Yl Cl Dl hk cd=>?_;obtain⟨pb,dd⟩:=bd.callG hk i;refine⟨_,_,rfl,?_⟩;refine ifd hp (fun ik hp=>?_) fun ik hp=>?_; rotate_left
   ·obtain rfl:=oi hp;exact hq _ pb.ext'
   refine ifd hp (fun jk hp=>?_) fun jk hp=>?_; rotate_left
   ·obtain rfl:=oi hp;exact hq _ pb.ext'
   obtain⟨El,kk,hp⟩:=zqp hp;refine zuZ (a:=jj.1) (b:=Rj.1) pb.pre (mj.sub (Sub.trans (Sub.trans (Sub.trans (Sub.trans (Sub.trans (Sub.trans (Sub.trans (Sub.trans ba.fs la.fs) qa.fs) sa.fs) xa.fs) Xa.fs) ob.fs) Sb.fs) dd.fs)) (Uj.sub (Sub.trans (Sub.trans ob.fs Sb.fs) dd.fs)) kk fun Zl mk=>?_;obtain⟨Ya,Fl⟩:=pb.call mk i;refine⟨_,rfl,?_⟩;refine zqT hp (fun nk hp=>?_) fun nk hp=>?_; rotate_left
   ·obtain rfl:=oi hp;exact hq _ Ya.ext'
   refine ifd hp (fun ok hp=>?_) fun ok hp=>?_; rotate_left
   ·obtain rfl:=oi hp;exact hq _ Ya.ext'
   refine⟨cd.isSl,?_⟩
   try rw[cd.slLen]
   refine ifd hp (fun pk hp=>?_) fun pk hp=>?_; rotate_left
   ·obtain rfl:=oi hp;exact hq _ Ya.ext'
   obtain⟨Gl,qk,hp⟩:=zqp hp;refine zwK Ya.pre  qk fun am sk=>?_;obtain⟨uk,Hl⟩:=Ya.call sk i;refine⟨_,rfl,?_⟩;obtain rfl:=oi hp;exact hq _ uk.ext'
 exact hgo _ _ _ _ _ _ _ _ _ _ _ _ _ jc Of Pf (Sub.refl _) Ea fb na wa Fa Ka J ua (Ow.nil _ _ _ _ _) (Ow.nil _ _ _ _ _) hp
end
end Go.Proofs.Ytlpjlgmoaipoiaa

namespace Go.Proofs.Ytlpjlgmoaipoiaa
open _root_.Go.Proofs.Try
open Go.Abs
set_option maxRecDepth 100000
noncomputable section
def Inc(n fr:Nat)(T:List Int):Prop:=T.Pairwise (· < ·)/\∀v∈T,(fr:Int)<=v/\v < n
theorem Inc.cons{n fr:Nat}{x:Int}{T:List Int}:Inc n fr (x::T)↔((fr:Int)<=x/\x < n)/\Inc n (x+1).toNat T:=by
 unfold Inc;rw[List.pairwise_cons]
 constructor
 ·rintro⟨⟨h1,h2⟩,h3⟩
  have hx:=h3 x (List.mem_cons_self ..);exact⟨hx,h2,fun v hv=>by have:=h1 v hv; have:=h3 v (List.mem_cons_of_mem _ hv); omega⟩
 ·rintro⟨hx,h2,h3⟩
  refine⟨⟨fun v hv=>by have:=h3 v hv; omega,h2⟩,fun v hv=>?_⟩
  rcases List.mem_cons.1 hv with rfl | hv
  ·exact hx
  ·have:=h3 v hv; omega
theorem zwR{n:Nat}{D:List Int}:∀{d:Nat} {pre:List Int} {fr:Nat},D∈zrl n d pre fr↔∃T,D=pre++T/\T.length=d/\Inc n fr T
 | 0,pre,fr=>by
  show D∈[pre]↔_
  rw[List.mem_singleton]
  constructor
  ·rintro rfl; exact⟨[],by simp,rfl,.nil,fun v hv=>by cases hv⟩
  ·rintro⟨T,h1,h2,_⟩
   rw[List.eq_nil_of_length_eq_zero h2,List.append_nil] at h1; exact h1
 | d+1,pre,fr=>by
  show D∈zrk (fun x=>zrl n d (pre++[(x:Int)]) (x+1)) (n - fr) fr↔_
  rw[zvU]
  constructor
  ·rintro⟨x,h1,h2,h3⟩
   obtain⟨T,h4,h5,h6⟩:=zwR.1 h3;refine⟨(x:Int)::T,by rw[h4]; simp,by simp[h5],Inc.cons.2 ⟨by omega,?_⟩⟩;rw[show((x:Int)+1).toNat=x+1 by omega]; exact h6
  ·rintro⟨T,h1,h2,h3⟩
   cases T with
   | nil=>simp at h2
   | cons v T=>
    obtain⟨h4,h5⟩:=Inc.cons.1 h3;refine⟨v.toNat,by omega,by omega,zwR.2 ⟨T,?_,by simpa using h2,?_⟩⟩
    ·rw[show((v.toNat:Nat):Int)=v by omega,h1]; simp
    ·rw[show v.toNat+1=(v+1).toNat by omega]; exact h5
theorem zwS{n:Nat}:∀{T:List Int} {fr:Nat},Inc n fr T->T.length<=n - fr
 | [],_,_=>Nat.zero_le _
 | v::T,fr,h=>by
  obtain⟨h1,h2⟩:=Inc.cons.1 h;have:=zwS h2
  simp only[List.length_cons]
  omega
theorem zwT{n:Nat}{D:List Int}:D∈zoh n↔Inc n 0 D:=by
 unfold zoh;rw[zvU]
 constructor
 ·rintro⟨s,_,_,h⟩
  obtain⟨T,h1,_,h2⟩:=zwR.1 h;rw[h1]; exact h2
 ·intro h;have:=zwS h;exact⟨D.length,Nat.zero_le _,by omega,zwR.2 ⟨D,rfl,rfl,h⟩⟩
def inD(D:List Int)(j:Nat):Bool:=decide ((j:Int)∈D)
def bef:List Int->List Int->Bool
 | [],[]=>false
 | [],_::_=>true
 | _::_,[]=>false
 | x::a,y::b=>if x=y then bef a b else decide (x < y)
def shB(a b:List Int):Bool:=decide (a.length < b.length) || (decide (a.length=b.length) && bef a b)
theorem zwU:∀A:List Int,bef A A=false
 | []=>rfl
 | x::A=>by show(if x=x then bef A A else _)=_; rw[if_pos rfl,zwU A]
theorem zwV:∀{A B:List Int},bef A B=true->bef B A=false
 | [],[],h=>by cases h
 | [],_::_,_=>rfl
 | _::_,[],h=>by cases h
 | x::A,y::B,h=>by
  have h':(if x=y then bef A B else decide (x < y))=true:=h
  show(if y=x then bef B A else decide (y < x))=false
  by_cases hxy:x=y
  ·rw[if_pos hxy] at h'; rw[if_pos hxy.symm]; exact zwV h'
  ·rw[if_neg hxy] at h'; rw[if_neg fun h=>hxy h.symm];have:=of_decide_eq_true h';exact decide_eq_false (by omega)
theorem zwW:∀A B:List Int,A=B\/bef A B=true\/bef B A=true
 | [],[]=>.inl rfl
 | [],_::_=>.inr (.inl rfl)
 | _::_,[]=>.inr (.inr rfl)
 | x::A,y::B=>by
  show x::A=y::B\/(if x=y then bef A B else decide (x < y))=true\/(if y=x then bef B A else decide (y < x))=true
  by_cases hxy:x=y
  ·subst hxy;rw[if_pos rfl,if_pos rfl]
   rcases zwW A B with h | h | h
   ·exact .inl (by rw[h])
   ·exact .inr (.inl h)
   ·exact .inr (.inr h)
  ·rw[if_neg hxy,if_neg fun h=>hxy h.symm]
   by_cases h:x < y
   ·exact .inr (.inl (decide_eq_true h))
   ·exact .inr (.inr (decide_eq_true (by omega)))
theorem zwX{A B:List Int}:shB A B=true↔A.length < B.length\/(A.length=B.length/\bef A B=true):=by
 unfold shB;rw[Bool.or_eq_true,Bool.and_eq_true,decide_eq_true_eq,decide_eq_true_eq]
theorem zwY(x y:Int)(A B:List Int)(hxy:x < y):∀pre:List Int,bef (pre++x::A) (pre++y::B)=true
 | []=>by show(if x=y then _ else decide (x < y))=true; rw[if_neg (by omega),decide_eq_true hxy]
 | p::pre=>by show(if p=p then bef (pre++x::A) (pre++y::B) else _)=true; rw[if_pos rfl]; exact zwY x y A B hxy pre
theorem zwZ{α:Type}{R:α->α->Prop}(g:Nat->List α)(h1:∀x,(g x).Pairwise R)(h2:∀x y,x < y->∀a∈g x,∀b∈g y,R a b):∀e x,(zrk g e x).Pairwise R
 | 0,_=>.nil
 | e+1,x=>by
  show(g x++zrk g e (x+1)).Pairwise R
  rw[List.pairwise_append];refine⟨h1 x,zwZ g h1 h2 e (x+1),fun a ha b hb=>?_⟩;obtain⟨j,h3,_,h4⟩:=(zvU g b e (x+1)).1 hb;exact h2 x j (by omega) a ha b h4
theorem zw0{n:Nat}:∀(d:Nat) (pre:List Int) (fr:Nat),(zrl n d pre fr).Pairwise fun a b=>bef a b=true
 | 0,pre,fr=>List.pairwise_singleton _ _
 | d+1,pre,fr=>zwZ _ (fun x=>zw0 d _ _) (fun x y hxy a ha b hb=>by
  obtain⟨T,h1,_,_⟩:=zwR.1 ha;obtain⟨T',h2,_,_⟩:=zwR.1 hb;rw[h1,h2,List.append_assoc,List.append_assoc]
  exact zwY _ _ _ _ (by omega) pre) _ _
theorem zw1(n:Nat):(zoh n).Pairwise fun a b=>shB a b=true:=
 zwZ _ (fun s=>(zw0 s [] 0).imp_of_mem fun {a b} ha hb hab=>by
  have h1:=zv2 ha;have h2:=zv2 hb;unfold shB
  rw[hab,decide_eq_true (show a.length=b.length by omega)]; simp) (fun s s' hs a ha b hb=>by
  have h1:=zv2 ha;have h2:=zv2 hb;unfold shB
  rw[decide_eq_true (by omega)]; rfl) _ _
theorem zw2{t:List Int->Bool}:∀{l:List (List Int)},l.Pairwise (fun a b=>shB a b=true)->∀{D D':List Int},l.find? t=some D->D'∈l->t D'=true->D'=D\/shB D D'=true
 | [],_,_,_,h,_,_=>by cases h
 | a::l,hp,D,D',h,hm,ht=>by
  rw[List.pairwise_cons] at hp;rw[List.find?_cons] at h
  cases hta:t a with
  | true=>
   rw[hta] at h;have:a=D:=oi h;subst this
   rcases List.mem_cons.1 hm with rfl | h1
   ·exact .inl rfl
   ·exact .inr (hp.1 _ h1)
  | false=>
   rw[hta] at h
   rcases List.mem_cons.1 hm with rfl | h1
   ·rw[hta] at ht; cases ht
   ·exact zw2 hp.2 h h1 ht
theorem zw3{n:Nat}{t:List Int->Bool}(h:∃D,Inc n 0 D/\t D=true):Inc n 0 (zrm n t)/\t (zrm n t)=true/\∀D,Inc n 0 D->t D=true->D=zrm n t\/shB (zrm n t) D=true:=by
 obtain⟨D0,h1,h2⟩:=h;unfold zrm
 cases hf:(zoh n).find? t with
 | none=>exact absurd h2 (by have:=List.find?_eq_none.1 hf D0 (zwT.2 h1); simpa using this)
 | some D=>exact⟨zwT.1 (List.mem_of_find?_eq_some hf),List.find?_some hf,fun D' h3 h4=>zw2 (zw1 n) hf (zwT.2 h3) h4⟩
theorem zw4{S β:Type}{n:Nat}(F:Nat->S->Int->Option β)(st:Nat->S){fin:Option β}(hstep:∀d k,k < n->F (d+1) (st k) (k:Int)=F d (st (k+1)) ((k:Int)+1))(hend:∀d,F (d+1) (st n) (n:Int)=fin) :
  ∀d k,k<=n->n - k < d->F d (st k) (k:Int)=fin
 | 0,k,_,h=>by omega
 | d+1,k,hk,h=>by
  by_cases hkn:k=n
  ·subst hkn; exact hend d
  ·rw[hstep d k (by omega),show(k:Int)+1=((k+1:Nat):Int) by omega];exact zw4 F st hstep hend d (k+1) (by omega) (by omega)
def RgP(r:Rg):Prop:=0<=r.Lo/\r.Lo<=r.Hi/\r.Hi<=10000/\r.Hi - r.Lo<=5
def zw5(y:Yr):Prop:=RgP y.Losses/\RgP y.Premiums/\0<=y.Parcels/\y.Parcels<=100
def zw6(l:List Int)(j:Nat):Prop:=0 < j->∀x y,l[j]? = some x->l[j - 1]? = some y->¬ x < y
structure zw7 (r:Rl):Prop where
 c0:1<=r.Classes
 pl:(r.Price.length:Int)=r.Classes
 gb:0<=r.Good/\r.Good<=r.Bad/\r.Bad<=300
 rest:0<=r.Rest/\r.Rest<=4
 few:0<=r.Fewest/\r.Fewest<=100
 pr:∀x∈r.Price,1<=x/\x<=10000
 so:∀j,j < r.Price.length->zw6 r.Price j
structure zw8 (r:Rl) (z:Zn):Prop where
 rl:zw7 r
 first:0<=z.First/\z.First<=r.Classes - 1
 ys:∀y∈z.Years,zw5 y
def zw9(r:Rl)(z:Zn):Prop:=6 < r.Classes\/6 < z.Years.length
open Classical in
def zxa(r:Rl)(z:Zn):Int:=if zw9 r z then 3 else if zw8 r z then 0 else 1
structure VZ (r:Rl) (z:Zn):Prop where
 full:zw8 r z
 c6:r.Classes<=6
 y6:z.Years.length<=6
theorem zxb{r:Rl}{z:Zn}:zxa r z=0↔VZ r z:=by
 unfold zxa
 by_cases h:zw9 r z
 ·rw[if_pos h]; exact⟨fun h=>by omega,fun h2=>by have:=h2.c6; have:=h2.y6; unfold zw9 at h; omega⟩
 ·rw[if_neg h];unfold zw9 at h
  by_cases hf:zw8 r z
  ·rw[if_pos hf]; exact⟨fun _=>⟨hf,by omega,by omega⟩,fun _=>rfl⟩
  ·rw[if_neg hf]; exact⟨fun h=>by omega,fun h=>absurd h.full hf⟩
theorem zxc{r:Rg}{n:Int}:Ev (zsH r n) (r.Lo<=n/\n<=r.Hi):=Ev.ite fun _=>Ev.dec Iff.rfl
theorem zxd{a b:Int}{r:Rg}:Ev (zsI { Lo:=a,Hi:=b } r) (a<=r.Lo/\r.Lo<=r.Hi/\r.Hi<=b):=Ev.ite fun _=>Ev.ite fun _=>Ev.dec Iff.rfl
theorem gI{l:List Int}{p:Int->Option Bool}:∀{d:Nat} {x:Int},zsT l p d x=gIdx l p d x
 | 0,_=>rfl
 | d+1,x=>by unfold zsT gIdx; simp only[gI]
theorem gY{l:List Yr}{p:Yr->Option Bool}:∀{d:Nat} {x:Int},zsY l p d x=gIdx l p d x
 | 0,_=>rfl
 | d+1,x=>by unfold zsY gIdx; simp only[gY]
theorem zxe{l:Lm}{r:Rg}(h1:l.pence=⟨0,10000⟩)(h2:l.wide=⟨0,5⟩):Ev (zs2 l r) (RgP r):=by
 unfold zs2;rw[h1,h2];refine(zxd.and fun hc=>Ev.gd (fI (by omega)) zxc.ret).imp ?_;unfold RgP
 show(_/\_/\_)/\((0:Int)<=r.Hi - r.Lo/\r.Hi - r.Lo<=5)↔_
 omega
theorem zxf{y:Yr}:Ev (zs3 { pence:=⟨0,10000⟩,wide:=⟨0,5⟩,parcels:=⟨0,100⟩ } y) (zw5 y):=
 ((zxe rfl rfl).and fun _=>(zxe rfl rfl).and fun _=>zxc.ret).imp Iff.rfl
theorem zxg{x y:Int}:zsP x y=some (decide (x < y)):=by
 unfold zsP zsO;rw[obs,if_neg (by simp)]
theorem zxh{l:List Int}(hl:zrH l):∀(d i:Nat),i < l.length->i < d->Ev (zsQ l d (i:Int)) (∀j,j<=i->zw6 l j)
 | 0,_,_,h=>by omega
 | d+1,i,hi,hd=>by
  unfold zrH at hl;unfold zsQ
  cases i with
  | zero=>
   rw[if_neg (by omega)]
   exact Ev.tt fun j hj h0=>by omega
  | succ i=>
   have hg:=List.getElem?_eq_getElem hi;have hg0:=List.getElem?_eq_getElem (show i < l.length by omega)
   have e:((i+1:Nat):Int) - 1=(i:Int):=by omega
   rw[if_pos (by omega),zrx hg,obs,e,zqr (fI (by omega)),zrx hg0,obs,zxg,obs];have hso:zw6 l (i+1)↔¬ l[i+1] < l[i]:=⟨fun h=>h (by omega) _ _ hg hg0,fun h _ x y hx hy=>by rw[hg] at hx; have hy:l[i]? = some y:=hy; rw[hg0] at hy; cases hx; cases hy; exact h⟩
   by_cases hc:l[i+1] < l[i]
   ·rw[decide_eq_true hc,if_pos rfl];exact Ev.ff fun h=>(hso.1 (h _ (Nat.le_refl _))) hc
   ·rw[decide_eq_false hc,if_neg (by decide),zqr (fI (by omega))]
    exact(zxh hl d i (by omega) (by omega)).imp ⟨fun h j hj=>by
     rcases Nat.lt_or_eq_of_le hj with h1 | h1
     ·exact h j (by omega)
     ·subst h1; exact hso.2 hc,fun h j hj=>h j (by omega)⟩
theorem zxi{l:List Int}(hl:l.length<=1000):Ev (zsR l) (∀j,j < l.length->zw6 l j):=by
 unfold zsR;refine Ev.gd (fI (by omega)) ?_
 cases hn:l.length with
 | zero=>
  show Ev (zsQ l (999999+1) _) _
  rw[zsQ,if_neg (by omega)]
  exact Ev.tt fun j hj=>by omega
 | succ n=>
  rw[show((n+1:Nat):Int) - 1=(n:Int) by omega];exact(zxh (zrI hl (by omega)) 1000000 n (by omega) (by omega)).imp ⟨fun h j hj=>h j (by omega),fun h j hj=>h j (by omega)⟩
theorem zxj{r:Rl}(hl:r.Price.length<=1000):Ev (zs4 r) ((r.Price.length:Int)=r.Classes/\(∀x∈r.Price,1<=x/\x<=10000)/\∀j,j < r.Price.length->zw6 r.Price j):=by
 unfold zs4;exact Ev.ite fun _=>(Ev.each (q:=fun x=>1<=x/\x<=10000) (fun a _=>zxc) (by omega) gI).and fun _=>(zxi hl).ret
theorem zxk{r:Rl}(hl:r.Price.length<=1000):Ev (zs5 r) (zw7 r):=by
 unfold zs5;refine(Ev.ite fun _=>(zxd (a:=0) (b:=300) (r:=⟨r.Good,r.Bad⟩)).and fun _=>(zxc (r:=⟨0,4⟩) (n:=r.Rest)).and fun _=>(zxc (r:=⟨0,100⟩) (n:=r.Fewest)).and fun _=>(zxj hl).ret).imp ?_;exact⟨fun⟨a,b,c,d,e,f,g⟩=>⟨by omega,e,b,c,d,f,g⟩,fun⟨a,b,c,d,e,f,g⟩=>⟨by omega,c,d,e,b,f,g⟩⟩
theorem zxl{r:Rl}{z:Zn}(hz:z.Years.length<=1000)(hr:zw7 r)(hl:r.Price.length<=1000):Ev (zs7 r z) ((0<=z.First/\z.First<=r.Classes - 1)/\∀y∈z.Years,zw5 y):=by
 unfold zs7 zs6;have:=hr.pl;have:=hr.c0
 show Ev ((gd (zl6 .i64 (r.Classes - 1)) _).bind _) _
 rw[zqr (fI (by omega))];refine(show Ev ((zsH ⟨0,r.Classes - 1⟩ z.First).bind fun r=>some r) (0<=z.First/\z.First<=r.Classes - 1) from zxc.ret).and fun _=>(Ev.each (q:=zw5) (fun a _=>zxf) (by omega) gY).ret
theorem zxm{r:Rl}{z:Zn}(h1:r.Price.length<=1000)(h2:z.Years.length<=1000):ztb r z=some (zxa r z):=by
 unfold ztb zxa zw9
 by_cases c1:6 < r.Classes
 ·rw[if_pos c1,if_pos (.inl c1)]
 rw[if_neg c1]
 by_cases c2:6 < z.Years.length
 ·rw[if_pos (by omega),if_pos (.inr c2)]
 rw[if_neg (by omega),if_neg (show ¬ (6 < r.Classes\/6 < z.Years.length) by omega)]
 refine(zxk h1).pick (fun h=>?_) fun h=>by rw[if_neg (by decide),if_neg fun h'=>h h'.rl]
 rw[if_pos rfl]
 refine(zxl h2 h h1).pick (fun h'=>?_) fun h'=>by rw[if_neg (by decide),if_neg fun h9=>h' ⟨h9.first,h9.ys⟩]
 rw[if_pos rfl,if_pos ⟨h,h'.1,h'.2⟩]
theorem zxn{n lo hi:Int}:Ev (zsd n lo hi) (lo<=n/\n<=hi):=Ev.ite fun _=>Ev.dec Iff.rfl
theorem zxo{r:Rg}:Ev (zse r) (RgP r):=by
 unfold zse;exact Ev.ite fun _=>Ev.ite fun _=>Ev.ite fun _=>Ev.gd (fI (by omega)) (Ev.dec Iff.rfl)
theorem zxp{r:Rl}{z:Zn}(h1:r.Price.length<=1000)(h2:z.Years.length<=1000):zsg r z=some (zxa r z):=by
 unfold zsg zxa zw9
 by_cases c1:6 < r.Classes
 ·rw[if_pos c1,if_pos (.inl c1)]
 rw[if_neg c1]
 by_cases c2:6 < z.Years.length
 ·rw[if_pos (by omega),if_pos (.inr c2)]
 rw[if_neg (by omega),if_neg (show ¬ (6 < r.Classes\/6 < z.Years.length) by omega)]
 by_cases c3:r.Classes < 1
 ·rw[if_pos c3,if_neg fun h=>by have:=h.rl.c0; omega]
 rw[if_neg c3]
 by_cases c4:(r.Price.length:Int)=r.Classes
 rotate_left
 ·rw[if_neg c4,if_neg fun h=>c4 h.rl.pl]
 rw[if_pos c4]
 refine zxn.pick (fun c5=>?_) fun c5=>by rw[if_neg (by decide),if_neg fun h=>c5 ⟨h.rl.gb.1,h.rl.gb.2.1⟩]
 rw[if_pos rfl]
 by_cases c6:300 < r.Bad
 ·rw[if_pos c6,if_neg fun h=>by have:=h.rl.gb; omega]
 rw[if_neg c6]
 refine zxn.pick (fun c7=>?_) fun c7=>by rw[if_neg (by decide),if_neg fun h=>c7 h.rl.rest]
 rw[if_pos rfl]
 refine zxn.pick (fun c8=>?_) fun c8=>by rw[if_neg (by decide),if_neg fun h=>c8 h.rl.few]
 rw[if_pos rfl,zqr (fI (by omega))]
 refine zxn.pick (fun c9=>?_) fun c9=>by rw[if_neg (by decide),if_neg fun h=>c9 h.first]
 rw[if_pos rfl]
 have kY:=zrG (l:=z.Years) (F:=fun d x=>prFault_L1 z d x) (ok:=zw5) (bad:=some 1) (fin:=some 0) (fun d k a hk=>by
  have hkl:=(List.getElem?_eq_some_iff.1 hk).1
  show(zw5 a->prFault_L1 z (d+1) (k:Int)=_)/\(¬ zw5 a->prFault_L1 z (d+1) (k:Int)=_)
  rw[prFault_L1,if_pos (by omega),zrx hk,obs];refine⟨fun h=>?_,fun h=>?_⟩
  ·rw[zxo.some_of h.1,obs,if_pos rfl,zxo.some_of h.2.1,obs,if_pos rfl,zxn.some_of h.2.2,obs,if_pos rfl,zqr (fI (by omega))]
  ·refine zxo.pick (fun a1=>?_) fun _=>by rw[if_neg (by decide)]
   rw[if_pos rfl]
   refine zxo.pick (fun a2=>?_) fun _=>by rw[if_neg (by decide)]
   rw[if_pos rfl]
   refine zxn.pick (fun a3=>absurd ⟨a1,a2,a3⟩ h) fun _=>by rw[if_neg (by decide)]) (fun d=>by show prFault_L1 z (d+1) _=_; rw[prFault_L1,if_neg (Int.lt_irrefl _)]) (d:=1000000) (by omega)
 have kP:=zrB (n:=r.Price.length) (F:=fun d x=>zsf r z d 0 x) (ok:=fun j=>(∀x,r.Price[j]? = some x->1<=x/\x<=10000)/\zw6 r.Price j) (bad:=some 1) (fin:=prFault_L1 z 1000000 0) (fun d k hk=>by
  have hg:=List.getElem?_eq_getElem hk;have hk':=hk
  show(_->zsf r z (d+1) 0 (k:Int)=_)/\(_->zsf r z (d+1) 0 (k:Int)=_)
  rw[zsf,if_pos (by omega),zrx hg,obs];have e1:(∀x,r.Price[k]? = some x->1<=x/\x<=10000)↔(1<=r.Price[k]/\r.Price[k]<=10000):=⟨fun h=>h _ hg,fun h x hx=>by rw[hg] at hx; cases hx; exact h⟩;rw[e1]
  by_cases q1:1<=r.Price[k]/\r.Price[k]<=10000
  rotate_left
  ·rw[zxn.some_not q1,obs,if_neg (by decide)];exact⟨fun h=>absurd h.1 q1,fun _=>rfl⟩
  rw[zxn.some_of q1,obs,if_pos rfl]
  cases k with
  | zero=>
   rw[if_neg (by omega),zqr (fI (by omega))];exact⟨fun _=>rfl,fun h=>absurd ⟨q1,fun h0=>by omega⟩ h⟩
  | succ i=>
   have hg0:=List.getElem?_eq_getElem (show i < r.Price.length by omega)
   have e:((i+1:Nat):Int) - 1=(i:Int):=by omega
   rw[if_pos (by omega),obs,e,zqr (fI (by omega)),zrx hg0,obs];have hso:zw6 r.Price (i+1)↔¬ r.Price[i+1] < r.Price[i]:=⟨fun h=>h (by omega) _ _ hg hg0,fun h _ x y hx hy=>by rw[hg] at hx; have hy:r.Price[i]? = some y:=hy; rw[hg0] at hy; cases hx; cases hy; exact h⟩
   by_cases hc:r.Price[i+1] < r.Price[i]
   ·rw[if_pos hc]; exact⟨fun h=>absurd hc (hso.1 h.2),fun _=>rfl⟩
   ·rw[if_neg hc,zqr (fI (by omega))]; exact⟨fun _=>rfl,fun h=>absurd ⟨q1,hso.2 hc⟩ h⟩) (fun d=>by show zsf r z (d+1) 0 _=_; rw[zsf,if_neg (Int.lt_irrefl _)]) (d:=1000000) (by omega)
 by_cases q:∀j,j < r.Price.length->(∀x,r.Price[j]? = some x->1<=x/\x<=10000)/\zw6 r.Price j
 rotate_left
 ·have:=kP.2 q;have this:zsf r z 1000000 0 0=some 1:=this;rw[this,if_neg fun h=>q fun j hj=>⟨fun x hx=>h.rl.pr x (List.mem_of_getElem? hx),h.rl.so j hj⟩]
 have e:=kP.1 q;have e:zsf r z 1000000 0 0=prFault_L1 z 1000000 0:=e;rw[e]
 have hrl:zw7 r:=⟨by omega,c4,⟨c5.1,c5.2,by omega⟩,c7,c8,fun x hx=>by
  obtain⟨i,hi⟩:=List.mem_iff_getElem?.1 hx
  exact(q i (List.getElem?_eq_some_iff.1 hi).1).1 x hi,fun j hj=>(q j hj).2⟩
 by_cases qy:∀y∈z.Years,zw5 y
 ·rw[if_pos ⟨hrl,c9,qy⟩]; exact kY.1 qy
 ·rw[if_neg fun h=>qy h.ys]; exact kY.2 qy
end
end Go.Proofs.Ytlpjlgmoaipoiaa

namespace Go.Proofs.Ytlpjlgmoaipoiaa
open _root_.Go.Proofs.Try
open Go.Abs
set_option maxRecDepth 100000
noncomputable section
def zxq(r:Rl)(y:Yr):Bool:=!y.Exempt && decide (r.Fewest<=y.Parcels)
def kN(r:Rl)(y:Yr)(l p:Int):Int:=if zxq r y=true then (if l * 100 < p * r.Good then 1 else if p * r.Bad < l * 100 then 2 else 3) else 0
theorem zxr{r:Rl}{y:Yr}:zth r y=some (zxq r y):=by
 unfold zth zxq
 cases y.Exempt <;> simp
theorem zxs(r:Rl)(y:Yr)(l p:Int):0<=kN r y l p/\kN r y l p < 4:=by
 unfold kN
 split
 ·split
  ·omega
  ·split <;> omega
 ·omega
theorem zxt{r:Rl}{y:Yr}{l p:Int}:kN r y l p=0↔zxq r y=false:=by
 unfold kN
 cases zxq r y with
 | true=>
  rw[if_pos rfl]
  constructor
  ·intro h; split at h
   ·omega
   ·split at h <;> omega
  ·intro h; cases h
 | false=>simp
theorem zxu{a b:Int}(h1:0<=a/\a<=10000)(h2:0<=b/\b<=300):0<=a * b/\a * b<=3000000:=
 ⟨Int.mul_nonneg h1.1 h2.1,by have:a * b<=10000 * 300:=Int.mul_le_mul h1.2 h2.2 h2.1 (by omega); omega⟩
theorem zxv{r:Rl}(h:zw7 r){y:Yr}{l p:Int}(hl:0<=l/\l<=10000)(hp:0<=p/\p<=10000):zti r y l p=some (kN r y l p):=by
 have hg:=h.gb;have m1:=zxu hp (b:=r.Good) (by omega);have m2:=zxu hp (b:=r.Bad) (by omega);unfold zti kN;rw[zxr,obs]
 by_cases hc:zxq r y=true
 rotate_left
 ·rw[if_neg hc,if_neg hc]
 rw[if_pos hc,if_pos hc,zqr hl.1,zqr (by omega),zqr (fI (by omega)),zqr hp.1,zqr (by omega),zqr (fI (by omega))]
 by_cases h1:l * 100 < p * r.Good
 ·rw[if_pos h1,if_pos h1]
 ·rw[if_neg h1,if_neg h1,zqr hl.1,zqr (by omega),zqr (fI (by omega)),zqr hp.1,zqr (by omega),zqr (fI (by omega))]
  split <;> rfl
theorem zxw{r:Rl}(h:zw7 r){y:Yr}{l p:Int}(hl:0<=l/\l<=10000)(hp:0<=p/\p<=10000):zsi r y l p=some (kN r y l p):=zxv h hl hp
def mkP(f:Nat->Bool):P4:=⟨f 0,f 1,f 2,f 3⟩
def upF{α:Type}(f:Nat->α)(k:Nat)(a:α):Nat->α:=fun j=>if j=k then a else f j
theorem zxx{α:Type}(f:Nat->α){i:Int}(hi:0<=i)(a:α)(j:Nat):sti i j a (f j)=upF f i.toNat a j:=by
 unfold sti upF
 by_cases h:j=i.toNat
 ·rw[if_pos h,if_pos (by omega)]
 ·rw[if_neg h,if_neg (by omega)]
theorem zxy(f:Nat->Bool)(i k:Nat):upF f i true k=true↔f k=true\/i=k:=by
 unfold upF
 by_cases h:k=i
 ·rw[if_pos h]; exact⟨fun _=>.inr h.symm,fun _=>rfl⟩
 ·rw[if_neg h]; exact⟨.inl,fun h'=>h'.elim id fun h2=>absurd h2.symm h⟩
theorem zxz{f g:Nat->Bool}(h:∀k,k < 4->(f k=true↔g k=true)):mkP f=mkP g:=by
 have e:∀k,k < 4->f k=g k:=fun k hk=>Bool.eq_iff_iff.2 (h k hk);unfold mkP;rw[e 0 (by omega),e 1 (by omega),e 2 (by omega),e 3 (by omega)]
def zxA(r:Rg):List Int:=segI r.Lo (r.Hi - r.Lo+1).toNat
def kB(r:Rl)(y:Yr)(k:Nat):Bool:=(zxA y.Losses).any fun l=>(zxA y.Premiums).any fun p=>kN r y l p == (k:Int)
def zxB(r:Rl)(y:Yr)(k:Int):Prop:=∃l p,(y.Losses.Lo<=l/\l<=y.Losses.Hi)/\(y.Premiums.Lo<=p/\p<=y.Premiums.Hi)/\kN r y l p=k
theorem zxC{r:Rg}{x:Int}:x∈zxA r↔r.Lo<=x/\x<=r.Hi:=by
 unfold zxA;rw[zrQ]
 omega
theorem zxD{r:Rl}{y:Yr}{k:Nat}:kB r y k=true↔zxB r y (k:Int):=by
 unfold kB zxB;rw[List.any_eq_true]
 constructor
 ·rintro⟨l,hl,h⟩
  obtain⟨p,hp,h⟩:=List.any_eq_true.1 h;exact⟨l,p,zxC.1 hl,zxC.1 hp,of_decide_eq_true h⟩
 ·rintro⟨l,p,hl,hp,h⟩
  exact⟨l,zxC.2 hl,List.any_eq_true.2 ⟨p,zxC.2 hp,decide_eq_true h⟩⟩
theorem zxE{r:Rl}(h:zw7 r){y:Yr}:∀(l:List (List Int)) (f:Nat->Bool),(∀a∈l,∃x p,a=[x,p]/\(0<=x/\x<=10000)/\0<=p/\p<=10000) ->
  ∃g:Nat->Bool,pwithin_L0 r y l (f 0) (f 1) (f 2) (f 3)=some (mkP g)/\∀k,g k=true↔f k=true\/∃x p,[x,p]∈l/\kN r y x p=(k:Int)
 | [],f,_=>⟨f,rfl,fun k=>⟨.inl,fun h=>h.elim id fun⟨_,_,h,_⟩=>by cases h⟩⟩
 | a::l,f,hl=>by
  obtain⟨x,p,rfl,hx,hp⟩:=hl a (List.mem_cons_self ..);have hb:=zxs r y x p;obtain⟨g,h1,h2⟩:=zxE h (y:=y) l (upF f (kN r y x p).toNat true) fun b hb=>hl b (List.mem_cons_of_mem _ hb);refine⟨g,?_,fun k=>(h2 k).trans ?_⟩
  ·unfold pwithin_L0;rw[show idx [x,p] 0=some x from rfl,obs,show idx [x,p] 1=some p from rfl,obs,zxv h hx hp,obs,zqr ⟨hb.1,hb.2⟩,zxx f hb.1,zxx f hb.1,zxx f hb.1,zxx f hb.1];exact h1
  ·rw[zxy]
   constructor
   ·rintro ((h3 | h3) | ⟨x',p',h3,h4⟩)
    ·exact .inl h3
    ·exact .inr ⟨x,p,List.mem_cons_self ..,by omega⟩
    ·exact .inr ⟨x',p',List.mem_cons_of_mem _ h3,h4⟩
   ·rintro (h3 | ⟨x',p',h3,h4⟩)
    ·exact .inl (.inl h3)
    ·rcases List.mem_cons.1 h3 with h5 | h5
     ·injection h5 with e1 e2
      injection e2 with e2 _
      subst e1 e2;exact .inl (.inr (by omega))
     ·exact .inr ⟨x',p',h5,h4⟩
theorem zxF{a b:Rg}{x p:Int}:[x,p]∈chW [a,b] []↔(a.Lo<=x/\x<=a.Hi)/\b.Lo<=p/\p<=b.Hi:=by
 show[x,p]∈zrk (fun n=>zrk (fun m=>[([]++[a.Lo+(n:Int)])++[b.Lo+(m:Int)]]) (szR b).toNat 0) (szR a).toNat 0↔_
 rw[zvU];unfold szR
 constructor
 ·rintro⟨n,_,hn,h⟩
  rw[zvU] at h;obtain⟨m,_,hm,h⟩:=h;have h:=List.mem_singleton.1 h
  injection h with e1 e2
  injection e2 with e2 _
  omega
 ·intro h;refine⟨(x - a.Lo).toNat,by omega,by omega,(zvU _ _ _ _).2 ⟨(p - b.Lo).toNat,by omega,by omega,List.mem_singleton.2 ?_⟩⟩;rw[show a.Lo+((x - a.Lo).toNat:Int)=x by omega,show b.Lo+((p - b.Lo).toNat:Int)=p by omega]; rfl
theorem zxG{a b:Rg}{l:List Int}(h:l∈chW [a,b] []):∃x p,l=[x,p]:=by
 have h:l∈zrk (fun n=>zrk (fun m=>[([]++[a.Lo+(n:Int)])++[b.Lo+(m:Int)]]) (szR b).toNat 0) (szR a).toNat 0:=h;rw[zvU] at h;obtain⟨n,_,hn,h⟩:=h;rw[zvU] at h;obtain⟨m,_,hm,h⟩:=h;exact⟨_,_,List.mem_singleton.1 h⟩
theorem zxH{r:Rl}(h:zw7 r){y:Yr}(hy:zw5 y):ztR r y=some (mkP (kB r y)):=by
 obtain⟨h1,h2,_⟩:=hy;unfold RgP at h1 h2;unfold ztR ztO
 rw[zqr ⟨by simp,fun a ha=>by
  unfold okR
  rcases List.mem_cons.1 ha with rfl | ha
  ·omega
  ·rw[List.mem_singleton.1 ha]; omega⟩,obs]
 obtain⟨g,e1,e2⟩:=zxE h (y:=y) (chW [y.Losses,y.Premiums] []) (fun _=>false) fun a ha=>by
  obtain⟨x,p,rfl⟩:=zxG ha;have:=zxF.1 ha;exact⟨x,p,rfl,by omega,by omega⟩
 have e1:pwithin_L0 r y (chW [y.Losses,y.Premiums] []) false false false false=some (mkP g):=e1;rw[e1]
 congr 1
 refine zxz fun k _=>(e2 k).trans ?_;rw[zxD];unfold zxB
 constructor
 ·rintro (h3 | ⟨x,p,h3,h4⟩)
  ·cases h3
  ·exact⟨x,p,(zxF.1 h3).1,(zxF.1 h3).2,h4⟩
 ·rintro⟨x,p,h3,h4,h5⟩
  exact .inr ⟨x,p,zxF.2 ⟨h3,h4⟩,h5⟩
def step(r:Rl)(k:Int)(s:Stt):Stt:=if k=2 then ⟨min (s.cls+1) (r.Classes - 1),0⟩ else if k=1 then ⟨if s.since=r.Rest then max 0 (s.cls - 1) else s.cls,min (s.since+1) r.Rest⟩ else if k=3 then ⟨s.cls,min (s.since+1) r.Rest⟩ else s
def SOk(r:Rl)(s:Stt):Prop:=(0<=s.cls/\s.cls<=r.Classes - 1)/\0<=s.since/\s.since<=r.Rest
theorem zxI{r:Rl}(h:zw7 r)(k:Int){s:Stt}(hs:SOk r s):SOk r (step r k s):=by
 have h1:=h.rest;have h2:=h.c0;unfold SOk at hs;unfold step SOk
 split
 ·exact⟨⟨by show(0:Int)<=min _ _; omega,by show min _ _<=_; omega⟩,by show(0:Int)<=0; omega,by show(0:Int)<=_; omega⟩
 ·split
  ·refine⟨?_,by show(0:Int)<=min _ _; omega,by show min _ _<=_; omega⟩
   show 0<=(if s.since=r.Rest then max 0 (s.cls - 1) else s.cls)/\(if s.since=r.Rest then max 0 (s.cls - 1) else s.cls)<=r.Classes - 1
   split <;> omega
  ·split
   ·exact⟨hs.1,by show(0:Int)<=min _ _; omega,by show min _ _<=_; omega⟩
   ·exact hs
def zxJ(r:Rl)(s:Stt)(ks:List Int):Stt:=ks.foldl (fun s k=>step r k s) s
def zxK(r:Rl):Stt->List Int->List Int
 | _,[]=>[]
 | s,k::ks=>(step r k s).cls::zxK r (step r k s) ks
theorem zxL{r:Rl}(h:zw7 r):∀(ks:List Int) {s:Stt},SOk r s->SOk r (zxJ r s ks)
 | [],_,hs=>hs
 | k::ks,_,hs=>zxL h ks (zxI h k hs)
theorem zxM(r:Rl)(s:Stt)(a b:List Int):zxJ r s (a++b)=zxJ r (zxJ r s a) b:=List.foldl_append
theorem zxN(r:Rl)(s:Stt)(a:List Int)(k:Int):zxJ r s (a++[k])=step r k (zxJ r s a):=zxM r s a [k]
theorem zxO(r:Rl):∀(a b:List Int) (s:Stt),zxK r s (a++b)=zxK r s a++zxK r (zxJ r s a) b
 | [],_,_=>rfl
 | k::a,b,s=>congrArg ((step r k s).cls :: ·) (zxO r a b (step r k s))
theorem zxP(r:Rl):∀(a:List Int) (s:Stt),(zxK r s a).length=a.length
 | [],_=>rfl
 | k::a,s=>congrArg (· + 1) (zxP r a (step r k s))
theorem zxQ(r:Rl):∀(a:List Int) (s:Stt) (i:Nat),i < a.length->(zxK r s a)[i]? = some (zxJ r s (a.take (i+1))).cls
 | [],_,_,h=>by simp at h
 | k::a,s,0,_=>rfl
 | k::a,s,i+1,h=>zxQ r a (step r k s) i (by simp at h; omega)
theorem zxR{l:List Int}{k:Nat}{x:Int}(h:l[k]? = some x):l.take (k+1)=l.take k++[x]:=by rw[List.take_add_one,h]; rfl
def zxS:K4:={ k0:={ lead:=fun a b=>ztc a b },k1:={ lead:=fun a b=>zte a b },k2:={ lead:=fun a b=>ztf a b },k3:={ lead:=fun a b=>ztd a b } }
theorem zxT:ztg=some zxS:=rfl
theorem zxU{r:Rl}{s:Stt}:ztc r s=some (step r 0 s):=rfl
theorem zxV{r:Rl}(h:zw7 r){s:Stt}(hs:SOk r s):ztd r s=some (step r 3 s):=by
 have:=h.rest;unfold SOk at hs;unfold ztd;rw[zqr (fI (by omega))]; rfl
theorem zxW{r:Rl}(h:zw7 r)(hc:r.Classes<=6){s:Stt}(hs:SOk r s):zte r s=some (step r 1 s):=by
 have hs':=hs;unfold SOk at hs';unfold zte;rw[zxV h hs,obs];unfold step
 by_cases hr:s.since=r.Rest
 ·rw[if_pos hr,zqr (fI (by omega)),if_neg (by decide),if_pos rfl,if_pos hr]; rfl
 ·rw[if_neg hr,if_neg (by decide),if_pos rfl,if_neg hr]; rfl
theorem zxX{r:Rl}(h:zw7 r)(hc:r.Classes<=6){s:Stt}(hs:SOk r s):ztf r s=some (step r 2 s):=by
 have:=h.c0;unfold SOk at hs;unfold ztf;rw[zqr (fI (by omega)),zqr (fI (by omega))]; rfl
def zxY(r:Rl)(z:Zn):Wk:={ r:=r,zone:=z,kinds:=zxS,can:=z.Years.map fun y=>mkP (kB r y) }
theorem zxZ{r:Rl}{z:Zn}(h:VZ r z):ztT r z=some (zxY r z,0):=by
 have h6:=h.y6;have hpl:=h.full.rl.pl;have hc6:=h.c6;unfold ztT;rw[zxm (by omega) (by omega),obs,zxb.2 h,if_pos rfl,zxT,obs]
 exact zrD (l:=z.Years) (fun y=>mkP (kB r y)) (F:=fun d acc x=>ztS r z zxS d r.Classes r.Good r.Bad r.Rest r.Fewest z.First acc x) (fun acc=>some (({ r:=r,zone:=z,kinds:=zxS,can:=acc }:Wk),(0:Int))) (fun d k acc a hk ha=>by
  have hkl:=(List.getElem?_eq_some_iff.1 hk).1
  show ztS r z zxS (d+1) _ _ _ _ _ _ _ _=_
  rw[ztS,if_pos (by omega),zrx hk,obs,zxH h.full.rl (h.full.ys a (List.mem_of_getElem? hk)),obs,zqr (by omega),zqr (fI (by omega))]) (fun d acc=>by
  show ztS r z zxS (d+1) _ _ _ _ _ _ _ _=_
  rw[ztS,if_neg (Int.lt_irrefl _)]) (by omega)
theorem zx0{z:Zn}(h:z.Years.length<=1000){n:Int}:Ev (zs8 z n) (0<=n/\n<=(z.Years.length:Int) - 1):=by
 unfold zs8;refine Ev.gd (fI (by omega)) ?_;exact(show Ev (zsH { Lo:=0,Hi:=(z.Years.length:Int) - 1 } n) _ from zxc).ret
theorem zx1{r:Rl}{z:Zn}(h:VZ r z){n:Int}(hn:0<=n/\n<=(z.Years.length:Int) - 1):ztU r z n=some (zxY r z,0):=by
 have:=h.y6;unfold ztU;rw[zxZ h,obs,if_pos rfl,(zx0 (by omega)).some_of hn,obs,if_pos rfl]
def zx2(z:Zn)(t:Tr)(j:Nat):Prop:=∀(y:Yr) (a b:Int),z.Years[j]? = some y->t.Losses[j]? = some a->t.Premiums[j]? = some b->(y.Losses.Lo<=a/\a<=y.Losses.Hi)/\y.Premiums.Lo<=b/\b<=y.Premiums.Hi
structure zx3 (z:Zn) (t:Tr):Prop where
 l:t.Losses.length=z.Years.length
 p:t.Premiums.length=z.Years.length
 ok:∀j,zx2 z t j
theorem zx4{z:Zn}{t:Tr}(h:z.Years.length<=1000):Ev (zta z t) (zx3 z t):=by
 unfold zta;refine(Ev.ite (K:=t.Premiums.length=z.Years.length/\(∀j,j < z.Years.length->zx2 z t j)/\True) fun h1=>(Ev.ite fun h2=>Ev.loop (n:=z.Years.length) (F:=fun d x=>zs9 z t d x) (ok:=fun j=>zx2 z t j) (fin:=some true) (P:=True) (fun d k hk=>?_) (fun d=>?_) (by omega) fun _=>Ev.tt trivial).imp (and_congr_left fun _=>by omega)).imp ?_
 ·have hg:=List.getElem?_eq_getElem hk;have ha:=List.getElem?_eq_getElem (show k < t.Losses.length by omega);have hb:=List.getElem?_eq_getElem (show k < t.Premiums.length by omega)
  show(_->zs9 z t (d+1) (k:Int)=_)/\(_->zs9 z t (d+1) (k:Int)=_)
  rw[zs9,if_pos (by omega),zrx hg,obs,zrx ha,obs]
  have e:zx2 z t k↔((z.Years[k].Losses.Lo<=t.Losses[k]/\t.Losses[k]<=z.Years[k].Losses.Hi)/\z.Years[k].Premiums.Lo<=t.Premiums[k]/\t.Premiums[k]<=z.Years[k].Premiums.Hi):=by
   unfold zx2;rw[hg,ha,hb];exact⟨fun q=>q _ _ _ rfl rfl rfl,fun q y a b h1 h2 h3=>by cases h1; cases h2; cases h3; exact q⟩
  rw[e]
  by_cases c1:z.Years[k].Losses.Lo<=t.Losses[k]/\t.Losses[k]<=z.Years[k].Losses.Hi
  ·rw[zxc.some_of c1,obs,if_pos rfl,zrx hb,obs]
   by_cases c2:z.Years[k].Premiums.Lo<=t.Premiums[k]/\t.Premiums[k]<=z.Years[k].Premiums.Hi
   ·rw[zxc.some_of c2,obs,if_pos rfl,zqr (fI (by omega))];exact⟨fun _=>rfl,fun q=>absurd ⟨c1,c2⟩ q⟩
   ·rw[zxc.some_not c2,obs,if_neg (by decide)];exact⟨fun q=>absurd q.2 c2,fun _=>rfl⟩
  ·rw[zxc.some_not c1,obs,if_neg (by decide)];exact⟨fun q=>absurd q.1 c1,fun _=>rfl⟩
 ·show zs9 z t (d+1) _=_
  rw[zs9,if_neg (Int.lt_irrefl _)]
 ·exact⟨fun⟨h1,h2,h3,_⟩=>⟨by omega,h2,fun j y a b hy=>h3 j (List.getElem?_eq_some_iff.1 hy).1 y a b hy⟩,fun⟨h1,h2,h3⟩=>⟨by omega,h2,fun j _=>h3 j,trivial⟩⟩
def ktL(r:Rl):List Yr->List Int->List Int->List Int
 | y::ys,a::us,b::vs=>kN r y a b::ktL r ys us vs
 | [],_,_=>[]
 | _::_,[],_=>[]
 | _::_,_::_,[]=>[]
theorem zx5{r:Rl}:∀{ys:List Yr} {us vs:List Int},us.length=ys.length->vs.length=ys.length->(ktL r ys us vs).length=ys.length
 | [],_,_,_,_=>rfl
 | y::ys,a::us,b::vs,h1,h2=>by
  show(ktL r ys us vs).length+1=ys.length+1
  rw[zx5 (by simpa using h1) (by simpa using h2)]
 | y::ys,[],_,h1,_=>by simp at h1
 | y::ys,_::_,[],_,h2=>by simp at h2
theorem zx6{r:Rl}:∀{ys:List Yr} {us vs:List Int} {k:Nat} {y:Yr} {a b:Int},ys[k]? = some y->us[k]? = some a->vs[k]? = some b->(ktL r ys us vs)[k]? = some (kN r y a b)
 | [],_,_,_,_,_,_,h,_,_=>by simp at h
 | _::_,[],_,_,_,_,_,_,h,_=>by simp at h
 | _::_,_::_,[],_,_,_,_,_,_,h=>by simp at h
 | y::ys,a::us,b::vs,0,_,_,_,h1,h2,h3=>by cases h1; cases h2; cases h3; rfl
 | y::ys,a::us,b::vs,k+1,_,_,_,h1,h2,h3=>zx6 (ys:=ys) (us:=us) (vs:=vs) (k:=k) h1 h2 h3
def st0(r:Rl)(z:Zn):Stt:=⟨z.First,r.Rest⟩
def ktN(r:Rl)(z:Zn)(t:Tr):List Int:=ktL r z.Years t.Losses t.Premiums
def zx7(r:Rl)(z:Zn)(t:Tr):List Int:=zxK r (st0 r z) (ktN r z t)
theorem VZ.st0{r:Rl}{z:Zn}(h:VZ r z):SOk r (st0 r z):=by
 have h1:=h.full.first;have h2:=h.full.rl.rest;exact⟨h1,h2.1,Int.le_refl _⟩
theorem zx8{r:Rl}(h:zw7 r)(hc:r.Classes<=6){s:Stt}(hs:SOk r s){k:Int}(hk:0<=k/\k < 4){β:Type}{G:Stt->Option β} :
  (if k=0 then (zxS.k0.lead r s).bind G else if k=1 then (zxS.k1.lead r s).bind G else if k=2 then (zxS.k2.lead r s).bind G else if k=3 then (zxS.k3.lead r s).bind G else none)=G (step r k s):=by
 by_cases h0:k=0
 ·subst h0; rw[if_pos rfl,show zxS.k0.lead r s=some (step r 0 s) from zxU,obs]
 rw[if_neg h0]
 by_cases h1:k=1
 ·subst h1; rw[if_pos rfl,show zxS.k1.lead r s=some (step r 1 s) from zxW h hc hs,obs]
 rw[if_neg h1]
 by_cases h2:k=2
 ·subst h2; rw[if_pos rfl,show zxS.k2.lead r s=some (step r 2 s) from zxX h hc hs,obs]
 rw[if_neg h2]
 have h3:k=3:=by omega
 subst h3; rw[if_pos rfl,show zxS.k3.lead r s=some (step r 3 s) from zxV h hs,obs]
theorem zx9{r:Rl}{z:Zn}(h:VZ r z){t:Tr}(ht:zx3 z t){k:Nat}(hk:k < z.Years.length) :
  ∃y a b,z.Years[k]? = some y/\t.Losses[k]? = some a/\t.Premiums[k]? = some b/\((y.Losses.Lo<=a/\a<=y.Losses.Hi)/\y.Premiums.Lo<=b/\b<=y.Premiums.Hi)/\(0<=a/\a<=10000)/\0<=b/\b<=10000:=by
 have h1:=ht.l;have h2:=ht.p;have hg:=List.getElem?_eq_getElem hk;have ha:=List.getElem?_eq_getElem (show k < t.Losses.length by omega);have hb:=List.getElem?_eq_getElem (show k < t.Premiums.length by omega);have hr:=ht.ok k _ _ _ hg ha hb;have hy:=h.full.ys _ (List.getElem_mem hk);obtain⟨q1,q2,_⟩:=hy;unfold RgP at q1 q2;exact⟨_,_,_,hg,ha,hb,hr,by omega,by omega⟩
theorem zya{r:Rl}{z:Zn}{t:Tr}(ht:zx3 z t):(ktN r z t).length=z.Years.length:=zx5 ht.l ht.p
theorem zyb{r:Rl}{z:Zn}{t:Tr}{k:Nat}{y:Yr}{a b:Int}(h1:z.Years[k]? = some y)(h2:t.Losses[k]? = some a)(h3:t.Premiums[k]? = some b):(ktN r z t)[k]? = some (kN r y a b):=zx6 h1 h2 h3
theorem zyc{r:Rl}{s:Stt}{ks:List Int}{k:Nat}{x:Int}(h:ks[k]? = some x):zxK r s (ks.take (k+1))=zxK r s (ks.take k)++[(step r x (zxJ r s (ks.take k))).cls]:=by
 rw[zxR h,zxO]; rfl
theorem zyd{r:Rl}{s:Stt}{ks:List Int}{k:Nat}{x:Int}(h:ks[k]? = some x):zxJ r s (ks.take (k+1))=step r x (zxJ r s (ks.take k)):=by
 rw[zxR h,zxN]
theorem zye{r:Rl}{z:Zn}(h:VZ r z){t:Tr}(ht:zx3 z t):ztx (zxY r z) t=some (zx7 r z t):=by
 have h6:=h.y6;have hl:=zya (r:=r) ht;unfold ztx ztv;rw[obs];refine zw4 (n:=z.Years.length) (fun d (s:Stt × List Int) x=>ztw (zxY r z) t d s.1.cls s.1.since s.2 x) (fun k=>(zxJ r (st0 r z) ((ktN r z t).take k),zxK r (st0 r z) ((ktN r z t).take k))) (fun d k hk=>?_) (fun d=>?_) (z.Years.length+1) 0 (by omega) (by omega)
 ·obtain⟨y,a,b,hy,ha,hb,_,ha2,hb2⟩:=zx9 h ht hk;have hkt:=zyb (r:=r) hy ha hb;have hs:=zxL h.full.rl ((ktN r z t).take k) h.st0
  have hlen:(zxK r (st0 r z) ((ktN r z t).take k)).length < 1048576:=by rw[zxP,List.length_take]; omega
  show ztw (zxY r z) t (d+1) (zxJ r (st0 r z) ((ktN r z t).take k)).cls (zxJ r (st0 r z) ((ktN r z t).take k)).since (zxK r (st0 r z) ((ktN r z t).take k)) (k:Int)=ztw (zxY r z) t d (zxJ r (st0 r z) ((ktN r z t).take (k+1))).cls (zxJ r (st0 r z) ((ktN r z t).take (k+1))).since (zxK r (st0 r z) ((ktN r z t).take (k+1))) ((k:Int)+1)
  rw[zyd hkt,zyc hkt];generalize zxK r (st0 r z) ((ktN r z t).take k)=acc at hlen;generalize zxJ r (st0 r z) ((ktN r z t).take k)=s at hs;rw[ztw];refine(if_pos (show(k:Int) < ((zxY r z).zone.Years.length:Int) from by show(k:Int) < (z.Years.length:Int); omega)).trans ?_;rw[show idx (zxY r z).zone.Years (k:Int)=some y from zrx hy,obs,zrx ha,obs,zrx hb,obs,show zti (zxY r z).r y a b=_ from zxv h.full.rl ha2 hb2,obs];refine(zx8 (r:=r) h.full.rl h.c6 hs (zxs r y a b) (G:=fun s=>gd (acc.length < 1048576) (gd (zl6 .i64 ((k:Int)+1)) (ztw (zxY r z) t d s.cls s.since (acc++[s.cls]) ((k:Int)+1))))).trans ?_
  show gd _ (gd _ _)=_
  rw[zqr hlen,zqr (fI (by omega))]
 ·show ztw (zxY r z) t (d+1) _ _ _ _=_
  rw[ztw];refine(if_neg (show ¬ (z.Years.length:Int) < ((zxY r z).zone.Years.length:Int) from Int.lt_irrefl _)).trans ?_
  show some (zxK r (st0 r z) ((ktN r z t).take z.Years.length))=_
  rw[<- hl,List.take_length]; rfl
theorem zyf{r:Rl}{z:Zn}(h:VZ r z){t:Tr}(ht:zx3 z t):ztV r z t=some (zx7 r z t,0):=by
 have:=h.y6;unfold ztV;rw[zxZ h,obs,if_pos rfl,(zx4 (by omega)).some_of ht,obs,if_pos rfl,zye h ht,obs]
theorem zyg{r:Rl}{z:Zn}{t:Tr}(ht:zx3 z t):(zx7 r z t).length=z.Years.length:=by
 unfold zx7; rw[zxP,zya ht]
def zyh(ks:List Int):Prop:=∀k∈ks,0<=k/\k < 4
theorem zyi{r:Rl}{s:Stt}(hs:SOk r s)(x:Int):(step r x s).cls=if x=2 then min (s.cls+1) (r.Classes - 1) else if x=1 then (if s.since=r.Rest then max (s.cls - 1) 0 else s.cls) else s.cls:=by
 unfold step
 by_cases h2:x=2
 ·rw[if_pos h2,if_pos h2]
 rw[if_neg h2,if_neg h2]
 by_cases h1:x=1
 ·rw[if_pos h1,if_pos h1]
  show(if _ then _ else _)=_
  rw[Int.max_comm]
 rw[if_neg h1,if_neg h1]
 split <;> rfl
def kl(p:P4):List Int:=(if p.p0=true then [0] else [])++((if p.p1=true then [1] else [])++((if p.p2=true then [2] else [])++if p.p3=true then [3] else []))
theorem zyj{p:P4}{k:Int}(h:k∈kl p):0<=k/\k < 4:=by
 unfold kl at h
 simp only[List.mem_append] at h
 rcases h with h | h | h | h <;> split at h <;> first | cases h; done | (rw[List.mem_singleton] at h; omega)
theorem zyk{f:Nat->Bool}{k:Int}:k∈kl (mkP f)↔(0<=k/\k < 4)/\f k.toNat=true:=by
 constructor
 ·intro h;refine⟨zyj h,?_⟩;unfold kl mkP at h
  simp only[List.mem_append] at h
  rcases h with h | h | h | h <;> split at h <;> first | (cases h; done) | (rename_i q; rw[List.mem_singleton] at h; rw[h]; exact q)
 ·rintro⟨hk,h⟩
  unfold kl mkP
  simp only[List.mem_append]
  have:k=0\/k=1\/k=2\/k=3:=by omega
  rcases this with rfl | rfl | rfl | rfl
  ·exact .inl (by rw[if_pos (show f 0=true from h)]; exact List.mem_singleton.2 rfl)
  ·exact .inr (.inl (by rw[if_pos (show f 1=true from h)]; exact List.mem_singleton.2 rfl))
  ·exact .inr (.inr (.inl (by rw[if_pos (show f 2=true from h)]; exact List.mem_singleton.2 rfl)))
  ·exact .inr (.inr (.inr (by rw[if_pos (show f 3=true from h)]; exact List.mem_singleton.2 rfl)))
theorem zyl{p:P4}{d:Nat}{i:Nat}{b:Bool}{l:List Int}(hi:i < 4)(hb:([p.p0,p.p1,p.p2,p.p3]:List Bool)[i]? = some b)(h:ztn p d ((i:Int)+1)=some l):ztn p (d+1) (i:Int)=some ((if b=true then [(i:Int)] else [])++l):=by
 rw[ztn,if_pos (by omega),zrx hb,obs,zqr (fI (by omega)),h]
 cases b <;> rfl
theorem zym{p:P4}:ztp p=some (kl p):=by
 have h4:ztn p (0+1) (((3:Nat):Int)+1)=some []:=by rw[ztn,if_neg (by omega)]
 have h3:=zyl (i:=3) (by omega) rfl h4;have h2:=zyl (i:=2) (by omega) rfl h3;have h1:=zyl (i:=1) (by omega) rfl h2;have h0:=zyl (i:=0) (by omega) rfl h1;unfold ztp zto;have h0:ztn p (Int.toNat 4+1) 0=_:=h0;rw[h0,obs,List.append_nil]; rfl
def zyn(cs:List P4):List (List Int):=cs.foldl (fun all p=>all.flatMap fun l=>(kl p).map fun k=>l++[k]) [[]]
theorem zyo(cs:List P4)(p:P4):zyn (cs++[p])=(zyn cs).flatMap fun l=>(kl p).map fun k=>l++[k]:=by
 unfold zyn;rw[List.foldl_append]; rfl
theorem zyp{cs:List P4}{p:P4}{l:List Int}:l∈zyn (cs++[p])↔∃l' k,l'∈zyn cs/\k∈kl p/\l=l'++[k]:=by
 rw[zyo,List.mem_flatMap]
 constructor
 ·rintro⟨l',h1,h2⟩
  obtain⟨k,h3,h4⟩:=List.mem_map.1 h2;exact⟨l',k,h1,h3,h4.symm⟩
 ·rintro⟨l',k,h1,h2,rfl⟩
  exact⟨l',h1,List.mem_map.2 ⟨k,h2,rfl⟩⟩
theorem zyq{α:Type}{l:List α}{k:Nat}{x:α}(h:l[k]? = some x):l.take (k+1)=l.take k++[x]:=by rw[List.take_add_one,h]; rfl
def Fit(ks:List Int)(cs:List P4):Prop:=ks.length=cs.length/\∀(i:Nat) (k:Int) (p:P4),ks[i]? = some k->cs[i]? = some p->k∈kl p
theorem zyr{cs:List P4}{p:P4}{l:List Int}:Fit l (cs++[p])↔∃l' k,Fit l' cs/\k∈kl p/\l=l'++[k]:=by
 unfold Fit
 constructor
 ·rintro⟨h1,h2⟩
  rw[List.length_append] at h1
  simp only[List.length_cons,List.length_nil] at h1
  have hl:cs.length < l.length:=by omega
  have hg:=List.getElem?_eq_getElem hl;refine⟨l.take cs.length,l[cs.length],⟨by rw[List.length_take]; omega,fun i k q hi hq=>?_⟩,h2 cs.length _ p hg (by rw[List.getElem?_append_right (Nat.le_refl _),Nat.sub_self]; rfl),?_⟩
  ·have hi':=(List.getElem?_eq_some_iff.1 hq).1;rw[List.getElem?_take,if_pos hi'] at hi;exact h2 i k q hi (by rw[List.getElem?_append_left hi']; exact hq)
  ·rw[<- zyq hg,List.take_of_length_le (by omega)]
 ·rintro⟨l',k,⟨h1,h2⟩,h3,rfl⟩
  refine⟨by rw[List.length_append,List.length_append,h1]; rfl,fun i k' q hi hq=>?_⟩
  rcases Nat.lt_or_ge i cs.length with h4 | h4
  ·rw[List.getElem?_append_left (by omega)] at hi;rw[List.getElem?_append_left h4] at hq;exact h2 i k' q hi hq
  ·have h5:=(List.getElem?_eq_some_iff.1 hq).1;rw[List.length_append] at h5
   simp only[List.length_cons,List.length_nil] at h5
   have e:i=cs.length:=by omega
   subst e;rw[List.getElem?_append_right (Nat.le_refl _),Nat.sub_self] at hq;rw[<- h1,List.getElem?_append_right (Nat.le_refl _),Nat.sub_self] at hi
   cases hq; cases hi; exact h3
theorem zys:∀(cs:List P4) {l:List Int},l∈zyn cs↔Fit l cs:=by
 have key:∀(n:Nat) (cs:List P4),cs.length=n->∀{l:List Int},l∈zyn cs↔Fit l cs:=by
  intro n
  induction n with
  | zero=>
   intro cs h l;rw[List.eq_nil_of_length_eq_zero h]
   show l∈[[]]↔_
   rw[List.mem_singleton];exact⟨fun h=>by rw[h]; exact⟨rfl,fun i k p hi=>by simp at hi⟩,fun h=>List.eq_nil_of_length_eq_zero h.1⟩
  | succ n ih=>
   intro cs h l;have hg:=List.getElem?_eq_getElem (show n < cs.length by omega)
   have e:cs=cs.take n++[cs[n]]:=by rw[<- zyq hg,List.take_of_length_le (by omega)]
   rw[e,zyp,zyr];exact exists_congr fun l'=>exists_congr fun k=>and_congr_left fun _=>ih _ (by rw[List.length_take]; omega)
 intro cs;exact key cs.length cs rfl
def nx(r:Rl)(p:P4)(q:Stt):List Stt:=(kl p).map fun k=>step r k q
def zyt(r:Rl)(s:Stt)(cs:List P4):List Stt:=(zyn cs).map (zxJ r s)
theorem zyu{r:Rl}{s q:Stt}{cs:List P4}:q∈zyt r s cs↔∃ks,Fit ks cs/\zxJ r s ks=q:=by
 unfold zyt;rw[List.mem_map];exact exists_congr fun ks=>and_congr_left fun _=>zys cs
theorem zyv{r:Rl}{s q:Stt}{cs:List P4}{p:P4}:q∈zyt r s (cs++[p])↔∃q',q'∈zyt r s cs/\q∈nx r p q':=by
 rw[zyu]
 constructor
 ·rintro⟨ks,h1,h2⟩
  obtain⟨l',k,h3,h4,rfl⟩:=zyr.1 h1;rw[zxN] at h2;exact⟨_,zyu.2 ⟨l',h3,rfl⟩,List.mem_map.2 ⟨k,h4,h2⟩⟩
 ·rintro⟨q',h1,h2⟩
  obtain⟨l',h3,rfl⟩:=zyu.1 h1;obtain⟨k,h4,h5⟩:=List.mem_map.1 h2;exact⟨l'++[k],zyr.2 ⟨l',k,h3,h4,rfl⟩,by rw[zxN]; exact h5⟩
theorem zyw{r:Rl}(h:zw7 r){s:Stt}(hs:SOk r s){cs:List P4}:∀q∈zyt r s cs,SOk r q:=fun q hq=>by
 obtain⟨ks,_,rfl⟩:=zyu.1 hq;exact zxL h ks hs
open Classical in
def mL(l:List Stt):Option (Stt->Option Bool):=some fun q=>if q∈l then some true else none
theorem zyx{l l':List Stt}(h:∀q,q∈l↔q∈l'):mL l=mL l':=by
 unfold mL
 congr 1
 funext q
 by_cases hq:q∈l
 ·rw[if_pos hq,if_pos ((h q).1 hq)]
 ·rw[if_neg hq,if_neg fun h'=>hq ((h q).2 h')]
theorem zyy:mL []=some fun _=>none:=by
 unfold mL
 congr 1
theorem zyz{l:List Stt}{q:Stt}(h:q∈l):zqF (mL l) q=some true:=if_pos h
theorem zyA{l:List Stt}{q:Stt}:zqF (mL l) q ≠ none↔q∈l:=by
 constructor
 ·intro h
  by_cases hq:q∈l
  ·exact hq
  ·exact absurd (show zqF (mL l) q=none from if_neg hq) h
 ·intro h;rw[zyz h]; simp
open Classical in
theorem zyB{l:List Stt}{q:Stt}:zqG (mL l) q true=some (mL (l++[q])):=by
 show some (some _)=some (some _)
 congr 2
 funext j
 by_cases hj:j=q
 ·rw[if_pos hj,if_pos (by rw[hj]; simp)]
 ·rw[if_neg hj]
  show(if j∈l then some true else none)=if j∈l++[q] then some true else none
  by_cases h2:j∈l
  ·rw[if_pos h2,if_pos (List.mem_append_left _ h2)]
  ·rw[if_neg h2,if_neg fun h=>(List.mem_append.1 h).elim h2 fun h=>hj (List.mem_singleton.1 h)]
theorem SOk.fit{r:Rl}(h:zw7 r)(hc:r.Classes<=6){q:Stt}(hq:SOk r q):MK.fit q:=by
 have:=h.rest;unfold SOk at hq
 show zl6 .i64 q.cls/\zl6 .i64 q.since/\True
 exact⟨fI (by omega),fI (by omega),trivial⟩
theorem zyC{α:Type}:∀l:List α,∃ks:List α,ks.Nodup/\∀k,k∈ks↔k∈l
 | []=>⟨[],List.nodup_nil,fun _=>Iff.rfl⟩
 | a::l=>by
  obtain⟨ks,h1,h2⟩:=zyC l
  by_cases h:a∈ks
  ·refine⟨ks,h1,fun k=>?_⟩;rw[h2,List.mem_cons];exact⟨.inr,fun hk=>hk.elim (fun he=>by rw[he]; exact(h2 a).1 h) id⟩
  ·exact⟨a::ks,List.nodup_cons.2 ⟨h,h1⟩,fun k=>by rw[List.mem_cons,List.mem_cons,h2]⟩
theorem zyD{r:Rl}(h:zw7 r)(hc:r.Classes<=6){l:List Stt}(hl:∀q∈l,SOk r q){R:Type}{g:List Stt->Option R}{v:R}(hg:∀ks,(∀q,q∈ks↔q∈l)->g ks=some v):zra (mL l) g=some v:=by
 obtain⟨ks0,h1,h2⟩:=zyC l;have hk:∀ks:List Stt,zq9 (mL l) ks->∀q,q∈ks↔q∈l:=fun ks hks q=>(hks.2 q).trans ⟨fun hq=>zyA.1 hq.2,fun hq=>⟨(hl q hq).fit h hc,zyA.2 hq⟩⟩;exact zrc (ks0:=ks0) ⟨h1,fun q=>(h2 q).trans ⟨fun hq=>⟨(hl q hq).fit h hc,zyA.2 hq⟩,fun hq=>zyA.1 hq.2⟩⟩ fun ks hks=>hg ks (hk ks hks)
theorem zyE{w:Wk}(h:zw7 w.r)(hc:w.r.Classes<=6)(hw:w.kinds=zxS){q:Stt}(hq:SOk w.r q){rest:List Stt}{K:Option (Stt->Option Bool)->List Stt->Option (Option (Stt->Option Bool))}:∀(ks:List Int) (A:List Stt),zyh ks ->
  zty w q rest K ks (mL A)=K (mL (A++ks.map fun k=>step w.r k q)) rest
 | [],A,_=>by rw[zty,List.map_nil,List.append_nil]
 | k::ks,A,hk=>by
  rw[zty,hw];have hkb:=hk k (List.mem_cons_self ..);have ih:=zyE h hc hw hq (rest:=rest) (K:=K) ks (A++[step w.r k q]) fun x hx=>hk x (List.mem_cons_of_mem _ hx);refine(zx8 h hc hq hkb (G:=fun s=>gd (MK.fit s) ((zqG (mL A) s true).bind fun w'=>zty w q rest K ks w'))).trans ?_
  show gd (MK.fit (step w.r k q)) _=_
  rw[zqr ((zxI h k hq).fit h hc),zyB,obs,ih,List.append_assoc]; rfl
theorem zyF{w:Wk}(h:zw7 w.r)(hc:w.r.Classes<=6)(hw:w.kinds=zxS){l:List Stt}(hl:∀q∈l,SOk w.r q){i:Nat}{p:P4}(hi:w.can[i]? = some p):∀(n d:Nat) (rem A:List Stt),rem.length=n->n < d->(∀q∈rem,q∈l) ->
  ztz w (mL l) (i:Int) d (mL A) rem=some (mL (A++rem.flatMap (nx w.r p)))
 | n,0,_,_,_,h,_=>by omega
 | n,d+1,rem,A,hn,hd,hr=>by
  rw[ztz];refine zrg (fun l1 a l2 he=>?_) fun he=>?_
  ·have ha:=hr a (by rw[he]; simp);rw[zyz ha,obs,zrx hi,obs,zym,obs,zyE h hc hw (hl a ha) _ _ fun k hk=>zyj hk]
   have hlen:(l1++l2).length+1=n:=by rw[<- hn,he]; simp; omega
   rw[zyF h hc hw hl hi ((l1++l2).length) d (l1++l2) _ rfl (by omega) fun q hq=>hr q (by rw[he]; rcases List.mem_append.1 hq with h1 | h1 <;> simp[h1])]
   congr 1
   refine zyx fun q=>?_;rw[he]
   simp only[List.mem_append,List.mem_flatMap,List.mem_cons]
   show(q∈A\/q∈nx w.r p a)\/_↔_
   constructor
   ·rintro ((h1 | h1) | ⟨b,h1,h2⟩)
    ·exact .inl h1
    ·exact .inr ⟨a,.inr (.inl rfl),h1⟩
    ·exact .inr ⟨b,h1.elim .inl fun h=>.inr (.inr h),h2⟩
   ·rintro (h1 | ⟨b,h1,h2⟩)
    ·exact .inl (.inl h1)
    ·rcases h1 with h1 | rfl | h1
     ·exact .inr ⟨b,.inl h1,h2⟩
     ·exact .inl (.inr h2)
     ·exact .inr ⟨b,.inr h1,h2⟩
  ·subst he;rw[List.flatMap_nil,List.append_nil]
theorem zyG{w:Wk}(h:zw7 w.r)(hc:w.r.Classes<=6)(hw:w.kinds=zxS){l:List Stt}(hl:∀q∈l,SOk w.r q){i:Nat}{p:P4}(hi:w.can[i]? = some p):ztA w (mL l) (i:Int)=some (mL (l.flatMap (nx w.r p))):=by
 unfold ztA;refine zyD h hc hl fun ks hks=>?_;rw[<- zyy,zyF h hc hw hl hi ks.length (ks.length+1) ks [] rfl (by omega) fun q hq=>(hks q).1 hq,List.nil_append]
 congr 1
 refine zyx fun q=>?_
 simp only[List.mem_flatMap]
 exact exists_congr fun a=>and_congr_left fun _=>hks a
theorem zyH{w:Wk}(h:zw7 w.r)(hc:w.r.Classes<=6)(hw:w.kinds=zxS)(hf:SOk w.r ⟨w.zone.First,w.r.Rest⟩){n:Nat}(hn:n<=w.can.length)(hn2:n<=1000):ztC w (n:Int)=some (mL (zyt w.r ⟨w.zone.First,w.r.Rest⟩ (w.can.take n))):=by
 unfold ztC ztv;rw[obs,zqr (hf.fit h hc),<- zyy,zyB,obs];refine zw4 (n:=n) (fun d (s:Option (Stt->Option Bool)) x=>ztB w (n:Int) d s x) (fun k=>mL (zyt w.r ⟨w.zone.First,w.r.Rest⟩ (w.can.take k))) (fun d k hk=>?_) (fun d=>?_) (Int.toNat (n:Int)+1) 0 (by omega) (by omega)
 ·have hg:=List.getElem?_eq_getElem (show k < w.can.length by omega)
  show ztB w (n:Int) (d+1) _ _=_
  rw[ztB,if_pos (by omega),zyG h hc hw (zyw h hf) hg,obs,zqr (fI (by omega))]
  congr 1
  refine zyx fun q=>?_;rw[zyq hg,zyv,List.mem_flatMap]
 ·show ztB w (n:Int) (d+1) _ _=_
  rw[ztB,if_neg (Int.lt_irrefl _)]
def mkC(f:Nat->Bool):C6:=⟨f 0,f 1,f 2,f 3,f 4,f 5⟩
theorem zyI{f g:Nat->Bool}(h:∀k,k < 6->(f k=true↔g k=true)):mkC f=mkC g:=by
 have e:∀k,k < 6->f k=g k:=fun k hk=>Bool.eq_iff_iff.2 (h k hk);unfold mkC;rw[e 0 (by omega),e 1 (by omega),e 2 (by omega),e 3 (by omega),e 4 (by omega),e 5 (by omega)]
theorem zyJ{f:Nat->Bool}{k:Nat}(hk:k < 6):([(mkC f).c0,(mkC f).c1,(mkC f).c2,(mkC f).c3,(mkC f).c4,(mkC f).c5]:List Bool)[k]? = some (f k):=by
 match k,hk with
 | 0,_=>rfl
 | 1,_=>rfl
 | 2,_=>rfl
 | 3,_=>rfl
 | 4,_=>rfl
 | 5,_=>rfl
def clB(l:List Stt)(c:Nat):Bool:=l.any fun q=>q.cls == (c:Int)
theorem zyK{l:List Stt}{c:Nat}:clB l c=true↔∃q∈l,q.cls=(c:Int):=by
 unfold clB;rw[List.any_eq_true];exact exists_congr fun q=>and_congr_right fun _=>beq_iff_eq
theorem zyL{r:Rl}(hc:r.Classes<=6){l:List Stt}(hl:∀q∈l,SOk r q):∀(n d:Nat) (rem:List Stt) (f:Nat->Bool),rem.length=n->n < d->(∀q∈rem,q∈l) ->
  ztt (mL l) d (f 0) (f 1) (f 2) (f 3) (f 4) (f 5) rem=some (mkC fun c=>f c || clB rem c)
 | n,0,_,_,_,h,_=>by omega
 | n,d+1,rem,f,hn,hd,hr=>by
  rw[ztt];refine zrg (fun l1 a l2 he=>?_) fun he=>?_
  ·have ha:=hr a (by rw[he]; simp);have hb:=(hl a ha).1
   have hlen:(l1++l2).length+1=n:=by rw[<- hn,he]; simp; omega
   rw[zyz ha,obs,zqr ⟨hb.1,by omega⟩,zxx f hb.1,zxx f hb.1,zxx f hb.1,zxx f hb.1,zxx f hb.1,zxx f hb.1]
   rw[zyL hc hl ((l1++l2).length) d (l1++l2) (upF f a.cls.toNat true) rfl (by omega) fun q hq=>hr q (by rw[he]; rcases List.mem_append.1 hq with h1 | h1 <;> simp[h1])]
   congr 1
   refine zyI fun k _=>?_;rw[Bool.or_eq_true,Bool.or_eq_true,zxy,zyK,zyK,he]
   simp only[List.mem_append,List.mem_cons]
   constructor
   ·rintro ((h1 | h1) | ⟨b,h1,h2⟩)
    ·exact .inl h1
    ·exact .inr ⟨a,.inr (.inl rfl),by omega⟩
    ·exact .inr ⟨b,h1.elim .inl fun h=>.inr (.inr h),h2⟩
   ·rintro (h1 | ⟨b,h1,h2⟩)
    ·exact .inl (.inl h1)
    ·rcases h1 with h1 | rfl | h1
     ·exact .inr ⟨b,.inl h1,h2⟩
     ·exact .inl (.inr (by omega))
     ·exact .inr ⟨b,.inr h1,h2⟩
  ·subst he
   show some (mkC f)=_
   congr 1
   exact zyI fun k _=>by rw[Bool.or_eq_true]; exact⟨.inl,fun h=>h.elim id fun h=>by cases h⟩
theorem zyM{r:Rl}(h:zw7 r)(hc:r.Classes<=6){l:List Stt}(hl:∀q∈l,SOk r q):ztu (mL l)=some (mkC (clB l)):=by
 unfold ztu;refine zyD h hc hl fun ks hks=>?_;have e:=zyL hc hl ks.length (ks.length+1) ks (fun _=>false) rfl (by omega) fun q hq=>(hks q).1 hq;have e:ztt (mL l) (ks.length+1) false false false false false false ks=_:=e;rw[e]
 congr 1
 refine zyI fun k _=>?_;rw[Bool.or_eq_true,zyK,zyK];exact⟨fun h=>h.elim (fun h=>by cases h) fun⟨q,h1,h2⟩=>⟨q,(hks q).1 h1,h2⟩,fun⟨q,h1,h2⟩=>.inr ⟨q,(hks q).2 h1,h2⟩⟩
def zyN(f:Nat->Bool)(n:Nat):List Int:=((List.range n).filter f).map fun c:Nat=>(c:Int)
theorem zyO(f:Nat->Bool)(n:Nat):zyN f (n+1)=zyN f n++if f n=true then [(n:Int)] else []:=by
 unfold zyN;rw[List.range_succ,List.filter_append,List.map_append]
 congr 1
 cases h:f n <;> simp[h]
theorem zyP{f:Nat->Bool}{n:Nat}{x:Int}:x∈zyN f n↔0<=x/\x < n/\f x.toNat=true:=by
 unfold zyN;rw[List.mem_map]
 constructor
 ·rintro⟨c,hc,rfl⟩
  rw[List.mem_filter,List.mem_range] at hc;exact⟨by omega,by omega,hc.2⟩
 ·rintro⟨h1,h2,h3⟩
  exact⟨x.toNat,List.mem_filter.2 ⟨List.mem_range.2 (by omega),h3⟩,by omega⟩
theorem zyQ(f:Nat->Bool)(n:Nat):(zyN f n).length<=n:=by
 unfold zyN;rw[List.length_map];exact Nat.le_trans (List.length_filter_le _ _) (by rw[List.length_range]; exact Nat.le_refl _)
theorem zyR{f:Nat->Bool}:ztm (mkC f)=some (zyN f 6):=by
 unfold ztm;refine zw4 (n:=6) (fun d (s:List Int) x=>ztl (mkC f) d s x) (fun k=>zyN f k) (fun d k hk=>?_) (fun d=>?_) (Int.toNat 6+1) 0 (by omega) (by show 6 - 0 < 6+1; omega)
 ·show ztl (mkC f) (d+1) _ _=_
  have:=zyQ f k;rw[ztl,if_pos (by omega),zrx (zyJ hk),obs,zyO]
  cases f k with
  | true=>rw[if_pos rfl,if_pos rfl,zqr (by omega),zqr (fI (by omega))]
  | false=>rw[if_neg (by decide),if_neg (by decide),zqr (fI (by omega)),List.append_nil]
 ·show ztl (mkC f) (d+1) _ _=_
  rw[ztl,if_neg (by omega)]
def zyS(r:Rl)(z:Zn)(n:Nat):List Stt:=zyt r (st0 r z) ((zxY r z).can.take n)
theorem zyT{r:Rl}{z:Zn}(h:VZ r z){n:Nat}:∀q∈zyS r z n,SOk r q:=zyw h.full.rl h.st0
theorem zyU{r:Rl}{z:Zn}(h:VZ r z){i:Nat}(hi:i < z.Years.length):ztW r z (i:Int)=some (zyN (clB (zyS r z (i+1))) 6,0):=by
 have h6:=h.y6;unfold ztW;rw[zx1 h (by omega),obs,if_pos rfl,zqr (fI (by omega)),show(i:Int)+1=((i+1:Nat):Int) by omega];have e:ztC (zxY r z) ((i+1:Nat):Int)=some (mL (zyS r z (i+1))):=zyH (w:=zxY r z) h.full.rl h.c6 rfl h.st0 (n:=i+1) (by show i+1<=(z.Years.map _).length; rw[List.length_map]; omega) (by omega)
 show(ztC (zxY r z) _).bind _=_
 rw[e,obs,zyM (r:=r) (l:=zyS r z (i+1)) h.full.rl h.c6 (zyT h),obs,zyR,obs]
end
end Go.Proofs.Ytlpjlgmoaipoiaa

namespace Go.Proofs.Ytlpjlgmoaipoiaa
open _root_.Go.Proofs.Try
open Go.Abs
set_option maxRecDepth 100000
noncomputable section
theorem zyV{c:Int}(hc:0<=c/\c < 6):ztk c=some (mkC fun k=>decide ((k:Int)=c)):=by
 unfold ztk;rw[zqr hc]
 have e:∀k:Nat,sti c k true false=decide ((k:Int)=c):=fun k=>by
  unfold sti
  by_cases h:c=(k:Int)
  ·rw[if_pos h,decide_eq_true h.symm]
  ·rw[if_neg h,decide_eq_false fun h'=>h h'.symm]
 rw[e,e,e,e,e,e]; rfl
def mvB(l:List Stt)(c:Int):Bool:=l.any fun q=>q.cls != c
def syB(l:List Stt)(c:Int):Bool:=l.any fun q=>q.cls == c
theorem zyW{l:List Stt}{c:Int}:mvB l c=true↔∃q∈l,q.cls ≠ c:=by
 unfold mvB;rw[List.any_eq_true];exact exists_congr fun q=>and_congr_right fun _=>bne_iff_ne
theorem zyX{l:List Stt}{c:Int}:syB l c=true↔∃q∈l,q.cls=c:=by
 unfold syB;rw[List.any_eq_true];exact exists_congr fun q=>and_congr_right fun _=>beq_iff_eq
theorem zyY{r:Rl}(hc6:r.Classes<=6){l:List Stt}(hl:∀q∈l,SOk r q)(hne:l ≠ []){c:Int}(hc:0<=c/\c < 6) :
  (!(((mkC (clB l)).c0 == (mkC fun k=>decide ((k:Int)=c)).c0) && (((mkC (clB l)).c1 == (mkC fun k=>decide ((k:Int)=c)).c1) && (((mkC (clB l)).c2 == (mkC fun k=>decide ((k:Int)=c)).c2) && (((mkC (clB l)).c3 == (mkC fun k=>decide ((k:Int)=c)).c3) && (((mkC (clB l)).c4 == (mkC fun k=>decide ((k:Int)=c)).c4) && ((mkC (clB l)).c5 == (mkC fun k=>decide ((k:Int)=c)).c5)))))))=mvB l c:=by
 have e:(((mkC (clB l)).c0 == (mkC fun k=>decide ((k:Int)=c)).c0) && (((mkC (clB l)).c1 == (mkC fun k=>decide ((k:Int)=c)).c1) && (((mkC (clB l)).c2 == (mkC fun k=>decide ((k:Int)=c)).c2) && (((mkC (clB l)).c3 == (mkC fun k=>decide ((k:Int)=c)).c3) && (((mkC (clB l)).c4 == (mkC fun k=>decide ((k:Int)=c)).c4) && ((mkC (clB l)).c5 == (mkC fun k=>decide ((k:Int)=c)).c5))))))=true↔∀k:Nat,k < 6->clB l k=decide ((k:Int)=c):=by
  simp only[Bool.and_eq_true,beq_iff_eq]
  constructor
  ·rintro⟨h0,h1,h2,h3,h4,h5⟩ k hk
   match k,hk with
   | 0,_=>exact h0
   | 1,_=>exact h1
   | 2,_=>exact h2
   | 3,_=>exact h3
   | 4,_=>exact h4
   | 5,_=>exact h5
  ·intro h;exact⟨h 0 (by omega),h 1 (by omega),h 2 (by omega),h 3 (by omega),h 4 (by omega),h 5 (by omega)⟩
 rw[Bool.eq_iff_iff,Bool.not_eq_true',<- Bool.not_eq_true,e,zyW]
 constructor
 ·intro h;refine Classical.byContradiction fun hn=>h fun k hk=>?_;have hall:∀q∈l,q.cls=c:=fun q hq=>Classical.byContradiction fun h'=>hn ⟨q,hq,h'⟩;rw[Bool.eq_iff_iff,zyK,decide_eq_true_eq]
  constructor
  ·rintro⟨q,h1,h2⟩; rw[<- h2]; exact hall q h1
  ·intro h1;obtain⟨q,hq⟩:=List.exists_mem_of_ne_nil l hne;exact⟨q,hq,by rw[hall q hq,h1]⟩
 ·rintro⟨q,hq,hne⟩ h
  have hb:=(hl q hq).1;have h8:=h q.cls.toNat (by omega);rw[Bool.eq_iff_iff,zyK,decide_eq_true_eq] at h8;exact hne ((Int.toNat_of_nonneg hb.1).symm.trans (h8.1 ⟨q,hq,(Int.toNat_of_nonneg hb.1).symm⟩))
def zyZ(m s:Bool):Int:=if s=true then (if m=true then 3 else 2) else 1
theorem zy0{r:Rl}{y:Yr}(hy:zw5 y):kl (mkP (kB r y)) ≠ []:=by
 obtain⟨⟨h1,h2,h3,h4⟩,⟨h5,h6,h7,h8⟩,_⟩:=hy;have hb:=zxs r y y.Losses.Lo y.Premiums.Lo;have:kN r y y.Losses.Lo y.Premiums.Lo∈kl (mkP (kB r y)):=zyk.2 ⟨hb,zxD.2 ⟨_,_,⟨Int.le_refl _,h2⟩,⟨Int.le_refl _,h6⟩,by omega⟩⟩;intro h
 rw[h] at this; cases this
theorem zy1{w:Wk}(h:zw7 w.r)(hc:w.r.Classes<=6)(hw:w.kinds=zxS){l:List Stt}(hl:∀q∈l,SOk w.r q){i:Nat}{p:P4}(hi:w.can[i]? = some p)(hp:kl p ≠ []):∀(n d:Nat) (rem:List Stt) (b1 b2:Bool),rem.length=n->n < d->(∀q∈rem,q∈l) ->
  ztD w (i:Int) (mL l) d b1 b2 rem=some (zyZ (b1 || rem.any fun q=>mvB (nx w.r p q) q.cls) (b2 || rem.any fun q=>syB (nx w.r p q) q.cls))
 | n,0,_,_,_,_,h,_=>by omega
 | n,d+1,rem,b1,b2,hn,hd,hr=>by
  rw[ztD];refine zrg (fun l1 a l2 he=>?_) fun he=>?_
  ·have ha:=hr a (by rw[he]; simp);have hs:=hl a ha;have hb:=hs.1
   have hlen:(l1++l2).length+1=n:=by rw[<- hn,he]; simp; omega
   have hnx:∀q∈nx w.r p a,SOk w.r q:=fun q hq=>by
    obtain⟨k,_,rfl⟩:=List.mem_map.1 hq;exact zxI h k hs
   have hne:nx w.r p a ≠ []:=by
    unfold nx;intro h';exact hp (List.map_eq_nil_iff.1 h')
   have ih:=fun b1 b2=>zy1 h hc hw hl hi hp ((l1++l2).length) d (l1++l2) b1 b2 rfl (by omega) fun q hq=>hr q (by rw[he]; rcases List.mem_append.1 hq with h1 | h1 <;> simp[h1])
   have ef:ztA w (mL [a]) (i:Int)=some (mL (nx w.r p a)):=by
    have:=zyG h hc hw (l:=[a]) (fun q hq=>by rw[List.mem_singleton.1 hq]; exact hs) hi;rw[this]
    congr 1
    exact zyx fun q=>by simp
   rw[zyz ha,obs,zqr (hs.fit h hc),<- zyy,zyB,obs,List.nil_append,ef,obs,zyM h hc hnx,obs]
   have hsy:idx ([(mkC (clB (nx w.r p a))).c0,(mkC (clB (nx w.r p a))).c1,(mkC (clB (nx w.r p a))).c2,(mkC (clB (nx w.r p a))).c3,(mkC (clB (nx w.r p a))).c4,(mkC (clB (nx w.r p a))).c5]:List Bool) a.cls=some (syB (nx w.r p a) a.cls):=by
    have e0:a.cls=((a.cls.toNat:Nat):Int):=by omega
    rw[e0,zrx (zyJ (by omega)),<- e0]
    congr 1
    rw[Bool.eq_iff_iff,zyK,zyX,<- e0]
   have hm:(!(((mkC (clB (nx w.r p a))).c0 == (mkC fun k=>decide ((k:Int)=a.cls)).c0) && (((mkC (clB (nx w.r p a))).c1 == (mkC fun k=>decide ((k:Int)=a.cls)).c1) && (((mkC (clB (nx w.r p a))).c2 == (mkC fun k=>decide ((k:Int)=a.cls)).c2) && (((mkC (clB (nx w.r p a))).c3 == (mkC fun k=>decide ((k:Int)=a.cls)).c3) && (((mkC (clB (nx w.r p a))).c4 == (mkC fun k=>decide ((k:Int)=a.cls)).c4) && ((mkC (clB (nx w.r p a))).c5 == (mkC fun k=>decide ((k:Int)=a.cls)).c5)))))))=mvB (nx w.r p a) a.cls:=zyY hc hnx hne (by omega)
   have any_e:∀(g:Stt->Bool),rem.any g=(g a || (l1++l2).any g):=fun g=>by
    rw[he,List.any_append,List.any_cons,List.any_append]
    cases l1.any g <;> cases g a <;> cases l2.any g <;> rfl
   rw[any_e,any_e]
   cases b1 with
   | true=>
    rw[if_pos rfl]
    cases b2 with
    | true=>rw[if_pos rfl,ih,Bool.true_or,Bool.true_or,Bool.true_or,Bool.true_or]
    | false=>rw[if_neg (by decide),hsy,obs,ih,Bool.true_or,Bool.true_or,Bool.false_or]
   | false=>
    rw[if_neg (by decide),zyV (by omega),obs]
    cases b2 with
    | true=>rw[if_pos rfl,hm,ih,Bool.true_or,Bool.true_or,Bool.false_or]
    | false=>rw[if_neg (by decide),hsy,obs,hm,ih,Bool.false_or,Bool.false_or]
  ·subst he;rw[List.any_nil,List.any_nil,Bool.or_false,Bool.or_false];unfold zyZ
   cases b1 <;> cases b2 <;> rfl
def zy2(r:Rl)(z:Zn)(i:Nat)(p:P4):Int:=zyZ ((zyS r z i).any fun q=>mvB (nx r p q) q.cls) ((zyS r z i).any fun q=>syB (nx r p q) q.cls)
theorem zy3{r:Rl}{z:Zn}{i:Nat}{y:Yr}(h:z.Years[i]? = some y):(zxY r z).can[i]? = some (mkP (kB r y)):=by
 show(z.Years.map _)[i]? = _
 rw[List.getElem?_map,h]; rfl
theorem zy4{l l':List Stt}(h:∀q,q∈l↔q∈l')(g:Stt->Bool):l.any g=l'.any g:=by
 rw[Bool.eq_iff_iff,List.any_eq_true,List.any_eq_true];exact exists_congr fun q=>and_congr_left fun _=>h q
theorem zy5{r:Rl}{z:Zn}(h:VZ r z){i:Nat}{y:Yr}(hi:z.Years[i]? = some y):ztX r z (i:Int)=some (zy2 r z i (mkP (kB r y)),0):=by
 have h6:=h.y6;have hil:=(List.getElem?_eq_some_iff.1 hi).1;unfold ztX;rw[zx1 h (by omega),obs,if_pos rfl];have e:ztC (zxY r z) (i:Int)=some (mL (zyS r z i)):=zyH (w:=zxY r z) h.full.rl h.c6 rfl h.st0 (n:=i) (by show i<=(z.Years.map _).length; rw[List.length_map]; omega) (by omega)
 show(ztE (zxY r z) _).bind _=_
 unfold ztE;rw[e,obs]
 have e2:zra (mL (zyS r z i)) (fun ks=>ztD (zxY r z) (i:Int) (mL (zyS r z i)) (ks.length+1) false false ks)=some (zy2 r z i (mkP (kB r y))):=by
  refine zyD h.full.rl h.c6 (zyT h) fun ks hks=>?_;rw[zy1 (w:=zxY r z) h.full.rl h.c6 rfl (zyT h) (zy3 hi) (zy0 (h.full.ys y (List.mem_of_getElem? hi))) ks.length (ks.length+1) ks false false rfl (by omega) fun q hq=>(hks q).1 hq,Bool.false_or,Bool.false_or,zy4 hks,zy4 hks]; rfl
 rw[e2,obs]
theorem zy6{l:List Int}(h:l ≠ [])(hl:l.length<=1048577):zsL l=some (zrK l):=by
 unfold zsL
 cases l with
 | nil=>exact absurd rfl h
 | cons x l=>
  rw[if_neg (by rw[List.length_cons]; omega),zrz rfl,obs];refine(zrJ (l:=x::l) (fun s a=>min s a) (fun d s k=>zsK (x::l) d s k) (fun s=>some s) (fun d k s a hk=>?_) (fun d s=>?_) _ 0 x (Nat.zero_le _) (by omega)).trans ?_
  ·have hkl:=(List.getElem?_eq_some_iff.1 hk).1
   show zsK (x::l) (d+1) s (k:Int)=_
   rw[zsK,if_pos (by omega),zrx hk,obs]
   by_cases hc:a < s
   ·rw[if_pos hc,zqr (fI (by omega)),Int.min_eq_right (by omega)]
   ·rw[if_neg hc,zqr (fI (by omega)),Int.min_eq_left (by omega)]
  ·show zsK (x::l) (d+1) s _=_
   rw[zsK,if_neg (Int.lt_irrefl _)]
  ·rw[List.drop_zero]
   show some (l.foldl min (min x x))=_
   rw[Int.min_self]; rfl
theorem zy7{l:List Int}(h:l ≠ [])(hl:l.length<=1048577):zsN l=some (zrL l):=by
 unfold zsN
 cases l with
 | nil=>exact absurd rfl h
 | cons x l=>
  rw[if_neg (by rw[List.length_cons]; omega),zrz rfl,obs];refine(zrJ (l:=x::l) (fun s a=>max s a) (fun d s k=>zsM (x::l) d s k) (fun s=>some s) (fun d k s a hk=>?_) (fun d s=>?_) _ 1 x (by rw[List.length_cons]; omega) (by rw[List.length_cons]; omega)).trans ?_
  ·have hkl:=(List.getElem?_eq_some_iff.1 hk).1
   show zsM (x::l) (d+1) s (k:Int)=_
   rw[zsM,if_pos (by omega),zrx hk,obs,zqr (fI (by omega))]
  ·show zsM (x::l) (d+1) s _=_
   rw[zsM,if_neg (Int.lt_irrefl _)]
  ·rfl
theorem zy8(f:Nat->Bool)(n:Nat):(zyN f n).Pairwise (· < ·):=by
 unfold zyN;rw[List.pairwise_map]
 exact(List.pairwise_lt_range.filter _).imp fun h=>by omega
theorem zy9{L:List Int}(h:L.Pairwise (· < ·)){i j:Nat}{a c:Int}(hi:L[i]? = some a)(hj:L[j]? = some c)(hij:i<=j):a<=c:=by
 obtain⟨h1,rfl⟩:=List.getElem?_eq_some_iff.1 hi;obtain⟨h2,rfl⟩:=List.getElem?_eq_some_iff.1 hj
 rcases Nat.lt_or_eq_of_le hij with h3 | rfl
 ·exact Int.le_of_lt (List.pairwise_iff_getElem.1 h i j h1 h2 h3)
 ·exact Int.le_refl _
def zza(r:Rl)(c:Int):Int:=(r.Price[c.toNat]?).getD 0
theorem zzb{r:Rl}(h:zw7 r){c:Int}(hc:0<=c/\c<=r.Classes - 1):idx r.Price c=some (zza r c):=by
 have:=h.pl;unfold zza;rw[show idx r.Price c=r.Price[c.toNat]? from if_pos hc.1,List.getElem?_eq_getElem (by omega)]; rfl
theorem zzc{r:Rl}(h:zw7 r):∀(j i:Nat),i<=j->j < r.Price.length->zza r (i:Int)<=zza r (j:Int)
 | 0,i,hi,_=>by rw[show i=0 by omega]; exact Int.le_refl _
 | j+1,i,hi,hj=>by
  rcases Nat.lt_or_eq_of_le hi with h1 | rfl
  ·have h2:=zzc h j i (by omega) (by omega);have g1:=List.getElem?_eq_getElem hj;have g0:=List.getElem?_eq_getElem (show j < r.Price.length by omega);have h3:=h.so (j+1) hj (by omega) _ _ g1 g0;unfold zza at h2 ⊢;rw[Int.toNat_natCast,Int.toNat_natCast] at h2 ⊢;rw[g0] at h2;rw[g1]
   show _<=r.Price[j+1]
   have h2:_<=r.Price[j]:=h2
   omega
  ·exact Int.le_refl _
theorem zzd{r:Rl}(h:zw7 r){a b:Int}(ha:0<=a)(hab:a<=b)(hb:b<=r.Classes - 1):zza r a<=zza r b:=by
 have:=h.pl;have:=zzc h b.toNat a.toNat (by omega) (by omega)
 rwa [show(a.toNat:Int)=a by omega,show(b.toNat:Int)=b by omega] at this
theorem zze{r:Rl}(hc:r.Classes<=6){l:List Stt}(hl:∀q∈l,SOk r q){c:Int}:c∈zyN (clB l) 6↔∃q∈l,q.cls=c:=by
 rw[zyP]
 constructor
 ·rintro⟨h1,h2,h3⟩
  obtain⟨q,hq,h4⟩:=zyK.1 h3;exact⟨q,hq,by omega⟩
 ·rintro⟨q,hq,rfl⟩
  have:=(hl q hq).1;exact⟨this.1,by omega,zyK.2 ⟨q,hq,by omega⟩⟩
theorem zzf{r:Rl}{s:Stt}:∀(n:Nat) (cs:List P4),cs.length=n->(∀p∈cs,kl p ≠ [])->∃q,q∈zyt r s cs
 | 0,cs,h,_=>by
  rw[List.eq_nil_of_length_eq_zero h];exact⟨s,List.mem_singleton.2 rfl⟩
 | n+1,cs,h,hc=>by
  have hg:=List.getElem?_eq_getElem (show n < cs.length by omega)
  have e:cs=cs.take n++[cs[n]]:=by rw[<- zyq hg,List.take_of_length_le (by omega)]
  obtain⟨q,hq⟩:=zzf (r:=r) (s:=s) n (cs.take n) (by rw[List.length_take]; omega) fun p hp=>hc p (List.mem_of_mem_take hp);obtain⟨k,hk⟩:=List.exists_mem_of_ne_nil _ (hc _ (List.getElem_mem (show n < cs.length by omega)));exact⟨step r k q,by rw[e,zyv]; exact⟨q,hq,List.mem_map.2 ⟨k,hk,rfl⟩⟩⟩
theorem zzg{r:Rl}{z:Zn}(h:VZ r z):∀p∈(zxY r z).can,kl p ≠ []:=fun p hp=>by
 obtain⟨y,hy,rfl⟩:=List.mem_map.1 (show p∈z.Years.map _ from hp);exact zy0 (h.full.ys y hy)
theorem zzh{r:Rl}{z:Zn}(h:VZ r z)(n:Nat):∃q,q∈zyS r z n:=zzf _ _ rfl fun p hp=>zzg h p (List.mem_of_mem_take hp)
def zzi(r:Rl)(z:Zn)(n:Nat):List Int:=zyN (clB (zyS r z n)) 6
theorem zzj{r:Rl}{z:Zn}(h:VZ r z){n:Nat}{c:Int}:c∈zzi r z n↔∃q∈zyS r z n,q.cls=c:=zze h.c6 (zyT h)
theorem zzk{r:Rl}{z:Zn}(h:VZ r z){n:Nat}{c:Int}(hc:c∈zzi r z n):0<=c/\c<=r.Classes - 1:=by
 obtain⟨q,hq,rfl⟩:=(zzj h).1 hc;exact(zyT h q hq).1
theorem zzl{r:Rl}{z:Zn}(h:VZ r z)(n:Nat):zzi r z n ≠ []:=fun he=>by
 obtain⟨q,hq⟩:=zzh h n;have:q.cls∈zzi r z n:=(zzj h).2 ⟨q,hq,rfl⟩
 rw[he] at this; cases this
theorem zzm{r:Rl}{z:Zn}:(zxY r z).can.length=z.Years.length:=List.length_map _
theorem zzn{r:Rl}{z:Zn}(h:VZ r z):ztH (zxY r z)=some ((zzi r z z.Years.length).map (zza r)):=by
 have h6:=h.y6;have e:ztC (zxY r z) (z.Years.length:Int)=some (mL (zyS r z z.Years.length)):=zyH (w:=zxY r z) h.full.rl h.c6 rfl h.st0 (n:=z.Years.length) (by rw[zzm]; exact Nat.le_refl _) (by omega);unfold ztH ztF;rw[zzm,e,obs,zyM (r:=r) h.full.rl h.c6 (zyT h),obs,obs,zyR,obs]
 show ztG (zxY r z) (zzi r z z.Years.length) _ _ _=_
 have hl:(zzi r z z.Years.length).length<=6:=zyQ _ _
 exact zrD (l:=zzi r z z.Years.length) (zza r) (F:=fun d acc x=>ztG (zxY r z) (zzi r z z.Years.length) d acc x) (fun acc=>some acc) (fun d k acc a hk ha=>by
  have hkl:=(List.getElem?_eq_some_iff.1 hk).1
  show ztG _ _ (d+1) _ _=_
  rw[ztG,if_pos (by omega),zrx hk,obs,show idx (zxY r z).r.Price a=_ from zzb h.full.rl (zzk h (List.mem_of_getElem? hk)),obs,zqr (by omega),zqr (fI (by omega))]) (fun d acc=>by
  show ztG _ _ (d+1) _ _=_
  rw[ztG,if_neg (Int.lt_irrefl _)]) (Nat.lt_succ_self _)
theorem zzo{r:Rl}{z:Zn}(h:VZ r z){a b:Int}(ha:(zzi r z z.Years.length)[0]? = some a)(hb:(zzi r z z.Years.length)[(zzi r z z.Years.length).length - 1]? = some b):ztY r z=some (⟨zza r a,zza r b⟩,0):=by
 unfold ztY;have hl:(zzi r z z.Years.length).length<=6:=zyQ _ _;have hs:(zzi r z z.Years.length).Pairwise (· < ·):=zy8 _ _;have hbd:∀c∈zzi r z z.Years.length,0<=c/\c<=r.Classes - 1:=fun c hc=>zzk h hc;rw[zxZ h,obs,if_pos rfl,zzn h,obs];generalize zzi r z z.Years.length=L at ha hb hl hs hbd
 have hne:L.map (zza r) ≠ []:=fun he=>by
  rw[List.map_eq_nil_iff.1 he] at ha; cases ha
 rw[zy6 hne (by rw[List.length_map]; omega),obs,zy7 hne (by rw[List.length_map]; omega),obs];obtain⟨m1,m2⟩:=zrO hne;obtain⟨m3,m4⟩:=zrP hne;have ham:=List.mem_of_getElem? ha;have hbm:=List.mem_of_getElem? hb
 have e1:zrK (L.map (zza r))=zza r a:=by
  obtain⟨c,hc,he⟩:=List.mem_map.1 m1;obtain⟨i,hi⟩:=List.mem_iff_getElem?.1 hc;have h1:=zzd h.full.rl (hbd a ham).1 (zy9 hs ha hi (Nat.zero_le _)) (hbd c hc).2;have h2:=m2 _ (List.mem_map.2 ⟨a,ham,rfl⟩)
  omega
 have e2:zrL (L.map (zza r))=zza r b:=by
  obtain⟨c,hc,he⟩:=List.mem_map.1 m3;obtain⟨i,hi⟩:=List.mem_iff_getElem?.1 hc;have hil:=(List.getElem?_eq_some_iff.1 hi).1;have h1:=zzd h.full.rl (hbd c hc).1 (zy9 hs hi hb (by omega)) (hbd b hbm).2;have h2:=m4 _ (List.mem_map.2 ⟨b,hbm,rfl⟩)
  omega
 rw[e1,e2]
def zzp(r:Rl)(z:Zn)(i:Nat):Bool:=match z.Years[i]? with | some y=>decide (1 < (kl (mkP (kB r y))).length) | none=>false
theorem zzq{l:List Int}(hl:l.length<=1000):zts l=some l:=by
 have key:∀(l acc:List Int),l.length+acc.length<=1000->ztq l acc=some (acc++l):=by
  intro l
  induction l with
  | nil=>intro acc _; rw[ztq,List.append_nil]
  | cons a l ih=>
   intro acc h;rw[List.length_cons] at h;rw[ztq,zqr (by omega),ih (acc++[a]) (by rw[List.length_append]; show _+(acc.length+1)<=_; omega),List.append_assoc]; rfl
 unfold zts ztr;rw[key l [] (by simpa using hl),obs]; rfl
theorem zzr(p:P4):(kl p).length<=4:=by
 unfold kl
 cases p with
 | mk a b c d=>cases a <;> cases b <;> cases c <;> cases d <;> decide
theorem zzs{r:Rl}{z:Zn}(h:VZ r z):ztJ (zxY r z)=some (zyN (zzp r z) z.Years.length):=by
 have h6:=h.y6;unfold ztJ;rw[zzm];refine zw4 (n:=z.Years.length) (fun d (s:List Int) x=>ztI (zxY r z) d s x) (fun k=>zyN (zzp r z) k) (fun d k hk=>?_) (fun d=>?_) (z.Years.length+1) 0 (by omega) (by omega)
 ·have hg:=List.getElem?_eq_getElem hk;have hk4:=zzr (mkP (kB r z.Years[k]));have hn:=zyQ (zzp r z) k
  show ztI (zxY r z) (d+1) _ _=_
  rw[ztI,zzm,if_pos (by omega),zrx (zy3 hg),obs,zym,obs,zzq (by omega),obs,zyO]
  have e:zzp r z k=decide (1 < (kl (mkP (kB r z.Years[k]))).length):=by unfold zzp; rw[hg]
  by_cases hc:1 < (kl (mkP (kB r z.Years[k]))).length
  ·rw[if_pos (by omega),zqr (by omega),zqr (fI (by omega)),if_pos (by rw[e]; exact decide_eq_true hc)]
  ·rw[if_neg (by omega),zqr (fI (by omega)),if_neg (by rw[e,decide_eq_false hc]; decide),List.append_nil]
 ·show ztI (zxY r z) (d+1) _ _=_
  rw[ztI,zzm,if_neg (Int.lt_irrefl _)]
theorem zzt{r:Rl}{z:Zn}(h:VZ r z):ztZ r z=some (zyN (zzp r z) z.Years.length,0):=by
 unfold ztZ;rw[zxZ h,obs,if_pos rfl,zzs h,obs]
end
end Go.Proofs.Ytlpjlgmoaipoiaa

