/- An evaluator of code, its soundness, and what functions of the program do. Condition: none; a lemma text. -/
import Derived.Test.YtlpjlgmoaipoiaaZjH

namespace Go.Proofs.Ytlpjlgmoaipoiaa
open _root_.Go.Proofs.Try
open Go.Abs
set_option maxRecDepth 100000
noncomputable section
theorem zvT:TA prog 25 6:=⟨75,by kernel_rfl,by kernel_rfl,by kernel_rfl⟩
theorem zvU:TA prog 37 6:=⟨104,by kernel_rfl,by kernel_rfl,by kernel_rfl⟩
theorem zvV{r:Rl}{y:Yr}{ca105:C}{m f:M}{Q:V->M->Prop}{rz:P4}(hS:Pre f m)(ha105:Sl f ca105 r.Price)(hp:zty r y=some rz)(hq:∀m',Ext m m'->Q (.agg 4 [.bool rz.p0,.bool rz.p1,.bool rz.p2,.bool rz.p3]) m'):Wc prog tbl 77 [.agg 6 [Il r.Classes,Il r.Good,Il r.Bad,Il r.Rest,Il r.Fewest,ca105],.agg 6 [Il y.Losses.Lo,Il y.Losses.Hi,Il y.Premiums.Lo,Il y.Premiums.Hi,Il y.Parcels,.bool y.Exempt]] m Q:=by
 have S0:=hS.st;obtain⟨τ0,_⟩:=zr0;refine w77 ?_;unfold zty at hp;intro m0 za;obtain⟨Aa,Ba,bc,Ca⟩:=S0.blk za τ0 1;intro m1 Ea;obtain⟨Fa,Ga,Ha,Ia⟩:=Ba.blk Ea Aa 2;have Ja:=Ca.k Ha;intro m2 La;obtain⟨Ma,Na,da,Oa⟩:=Ga.blk La Fa 3;have Pa:=Ja.k da;have Qa:=Ia.k da;intro m3 Ra;obtain⟨Sa,Ta,J,Ua⟩:=Na.blk Ra Ma 4;have Va:=Pa.k J;have N:=Qa.k J;have Wa:=Oa.k J;refine⟨trivial,_,_,N.bk.rp (k:=0) (j:=2) rfl (by omega),trivial,_,_,N.bk.rp (k:=2) (j:=2) rfl (by omega),?_⟩;intro m8 Xa;obtain⟨ea,Ya,u,Za⟩:=Ta.blk Xa Sa 5;have ab:=Va.k u;have cb:=N.k u;have db:=Wa.k u;have eb:=Ua.k u;obtain⟨fa,ga,p,na⟩:=Za.freeze Ya;have fb:=ab.k p;have gb:=cb.k p;have hb:=db.k p;have ib:=eb.k p;have jb:Sl fa (C.sl m3.nxt 0 2 0 (Option.some 2)) ([y.Losses,y.Premiums]:List Rg):=Bk.sl (α:=Rg) (l:=([y.Losses,y.Premiums]:List Rg)) na (show Cat (α:=Rg) fa [Il y.Losses.Lo,Il y.Losses.Hi,Il y.Premiums.Lo,Il y.Premiums.Hi] ([y.Losses,y.Premiums]:List Rg) from ⟨[Il y.Losses.Lo,Il y.Losses.Hi],_,rfl,rfl,⟨[Il y.Premiums.Lo,Il y.Premiums.Hi],_,rfl,rfl,rfl⟩⟩) rfl rfl _;obtain⟨dc,kb,hp⟩:=zqq hp;refine zvO (l:=([y.Losses,y.Premiums]:List Rg)) ga.pre jb kb fun nc ec fc mb ob=>?_;obtain⟨pb,q⟩:=ga.callG mb ea;have ha:=fb.k q;have ia:=gb.k q;have ja:=hb.k q;have ka:=ib.k q;refine⟨_,rfl,?_⟩;refine zrk (α:=List Int) pb ob (σ:=Bool × Bool × Bool × Bool) 6 (fun st bb=>(False\/(False\/(False\/False)))) (fun st gG gF gT gM=>(Lb gG gF gT gM 1 m.nxt 6 [Il r.Classes,Il r.Good,Il r.Bad,Il r.Rest,Il r.Fewest,ca105])/\(Lb gG gF gT gM 2 m0.nxt 6 [Il y.Losses.Lo,Il y.Losses.Hi,Il y.Premiums.Lo,Il y.Premiums.Hi,Il y.Parcels,.bool y.Exempt])/\(Lb gG gF gT gM 3 m1.nxt 4 [.bool false,.bool false,.bool false,.bool false])/\(Lb gG gF gT gM 4 m2.nxt 4 [.bool st.1,.bool st.2.1,.bool st.2.2.1,.bool st.2.2.2])) (fun rr_ st=>pwithin_L0 r y rr_ st.1 st.2.1 st.2.2.1 st.2.2.2=some rz) (fun ex st=>False) (fun st=>(Gux.and (Gux.lb ha.bk.lt (by decide)) (Gux.and (Gux.lb ia.bk.lt (by decide)) (Gux.and (Gux.lb ja.bk.lt (by decide)) (Gux.lb ka.bk.lt (by decide)))))) (st0:=(false,false,false,false)) (τ:=ea) ⟨ha,ia,ja,ka⟩ hp ?_ ?_ ?_ ?_
 ·intro qb rb st w s T z gc Vb Wb Xb _ _ sb tb hA oa hp hrep Yb pa qa;obtain⟨hc,rfl,⟨A,_⟩⟩:=hrep;obtain⟨a,c,d,e⟩:=st;obtain⟨n,o,h,i⟩:=hA
  replace n:Lb z w s T 1 m.nxt 6 [Il r.Classes,Il r.Good,Il r.Bad,Il r.Rest,Il r.Fewest,ca105]:=n
  replace o:Lb z w s T 2 m0.nxt 6 [Il y.Losses.Lo,Il y.Losses.Hi,Il y.Premiums.Lo,Il y.Premiums.Hi,Il y.Parcels,.bool y.Exempt]:=o
  replace h:Lb z w s T 3 m1.nxt 4 [.bool false,.bool false,.bool false,.bool false]:=h
  replace i:Lb z w s T 4 m2.nxt 4 [.bool a,.bool c,.bool d,.bool e]:=i
  replace hp:pwithin_L0 r y (qb::rb) a c d e=some rz:=hp
  rw[pwithin_L0] at hp;refine⟨_,rfl,?_⟩;refine pa _ _ _ _ sb oa fun oc ic B D sa ta=>?_;have la:=n.k D;have ma:=o.k D;have ub:=h.k D;have vb:=i.k D;refine⟨_,_,_,_,_,_,la.bk.ra,_,_,_,_,_,_,ma.bk.ra,?_⟩;obtain⟨wb,O,hp⟩:=zqq hp;obtain⟨Sb,ua,Y,O⟩:=zqk O;refine⟨Sb,ua,(by first|exact Y|(rw[A.slLen];exact Y)),_,(A.rdI O B.sub),?_⟩;obtain⟨xb,P,hp⟩:=zqq hp;obtain⟨Tb,va,Z,P⟩:=zqk P;refine⟨Tb,va,(by first|exact Z|(rw[A.slLen];exact Z)),_,(A.rdI P B.sub),?_⟩;obtain⟨g,yb,hp⟩:=zqq hp;refine zu0 (r:=r) (y:=y) (losses:=wb) (premiums:=xb) B.pre (ha105.sub (Sub.trans (Sub.trans p.fs q.fs) tb)) yb fun pc zb=>?_;obtain⟨Ab,t⟩:=B.call zb s;have Bb:=la.k t;have Cb:=ma.k t;have Db:=ub.k t;have Eb:=vb.k t;have wa:=sa.k t;refine⟨_,rfl,trivial,?_⟩;obtain⟨Fb,hp⟩:=zqr hp;obtain⟨Ub,aa,ba⟩:=zqQ Fb;refine⟨Ub,aa,ba,?_⟩;obtain⟨Gb,Hb,Ib,F,S⟩:=Eb.sta Ab (pre:=[]) (post:=[]) (l:=([a,c,d,e]:List Bool)) (enc:=C.bool) rfl rfl aa ba true
  replace S:Lb _ _ _ _ _ _ _ [(.bool (sti g 0 true a)),(.bool (sti g 1 true c)),(.bool (sti g 2 true d)),(.bool (sti g 3 true e))]:=S
  have Jb:=Bb.k F;have Kb:=Cb.k F;have Mb:=Db.k F;have xa:=wa.k F;refine⟨Gb,Hb,?_⟩;exact qa .nrm ((sti g 0 true a),(sti g 1 true c),(sti g 2 true d),(sti g 3 true e)) _ _ _ _ Ib ⟨Jb,Kb,Mb,S⟩ xa ta hp
 ·intro st G I ca Nb jc hA hp;obtain⟨a,c,d,e⟩:=st
  replace hp:pwithin_L0 r y [] a c d e=some rz:=hp
  obtain⟨n,o,h,i⟩:=hA
  replace n:Lb (Fm.of m) G I ca 1 m.nxt 6 [Il r.Classes,Il r.Good,Il r.Bad,Il r.Rest,Il r.Fewest,ca105]:=n
  replace o:Lb (Fm.of m) G I ca 2 m0.nxt 6 [Il y.Losses.Lo,Il y.Losses.Hi,Il y.Premiums.Lo,Il y.Premiums.Hi,Il y.Parcels,.bool y.Exempt]:=o
  replace h:Lb (Fm.of m) G I ca 3 m1.nxt 4 [.bool false,.bool false,.bool false,.bool false]:=h
  replace i:Lb (Fm.of m) G I ca 4 m2.nxt 4 [.bool a,.bool c,.bool d,.bool e]:=i
  rw[pwithin_L0] at hp;refine⟨_,_,_,_,i.bk.ra,?_⟩;obtain⟨Ob,Pb,Qb,kc,Rb⟩:=h.sto Nb [.bool a,.bool c,.bool d,.bool e];refine⟨Ob,Pb,?_⟩;refine⟨_,_,_,_,Rb.bk.ra,?_⟩;obtain rfl:=oi hp;exact hq _ Qb.ext'
 ·intro id st _ _ _ _ _ _ hn; first | exact hn.elim | (cases hn)
 ·intro st _ _ _ _ _ _ hn; first | exact hn.elim | (cases hn)
theorem zvW{r:Rl}{z:Zn}{ca105 ca201:C}{m f:M}{Q:V->M->Prop}{rz:Wk × Int}(hS:Pre f m)(ha105:Sl f ca105 r.Price)(ha201:Sl f ca201 z.Years)(hp:ztA r z=some rz)(hq:∀m' f' c5 c7 c8 c9 c10 c11 c12,Grw m f m' f'->Sl f' c5 rz.1.r.Price->Sl f' c7 rz.1.zone.Years->zuj f' c8 rz.1.kinds.k0.lead->zuj f' c9 rz.1.kinds.k1.lead->zuj f' c10 rz.1.kinds.k2.lead->zuj f' c11 rz.1.kinds.k3.lead->Sl f' c12 rz.1.can->Q (.tup [.agg 13 [Il rz.1.r.Classes,Il rz.1.r.Good,Il rz.1.r.Bad,Il rz.1.r.Rest,Il rz.1.r.Fewest,c5,Il rz.1.zone.First,c7,c8,c9,c10,c11,c12],.c (Il rz.2)]) m'):Wc prog tbl 53 [.agg 6 [Il r.Classes,Il r.Good,Il r.Bad,Il r.Rest,Il r.Fewest,ca105],.agg 2 [Il z.First,ca201]] m Q:=by
 have S0:=hS.st;obtain⟨τ0,_⟩:=zr0;refine w53 ?_;unfold ztA at hp;intro m0 Ua;obtain⟨Va,Wa,Xc,Xa⟩:=S0.blk Ua τ0 1;intro m1 Ya;obtain⟨Za,ab,bb,cb⟩:=Wa.blk Ya Va 2;have db:=Xa.k bb;intro m2 eb;obtain⟨ta,ua,va,fb⟩:=ab.blk eb Za 3;have wa:=db.k va;have xa:=cb.k va;refine⟨_,_,_,_,_,_,wa.bk.ra,_,_,xa.bk.ra,?_⟩;obtain⟨Zc,gb,hp⟩:=zqq hp;refine zuT (r:=r) (z:=z) ua.pre ha105 ha201 gb fun Jc hb=>?_;obtain⟨ya,da⟩:=ua.call hb ta;have ib:=wa.k da;have jb:=xa.k da;have za:=fb.k da;refine⟨_,rfl,?_⟩;refine zqT hp (fun kb hp=>?_) fun kb hp=>?_
 ·obtain⟨mb,ob,pb,ad,qb⟩:=za.sto ya [Il 0,Il 0,Il 0,Il 0,Il 0,.sl0,Il 0,.sl0,C.nilFn,C.nilFn,C.nilFn,C.nilFn,.sl0];refine⟨mb,ob,?_⟩;refine⟨_,_,_,_,_,_,_,_,_,_,_,_,_,qb.bk.ra,?_⟩
  have Oc:zuj f .nilFn (fun _ _=>none):=by refine⟨rfl,?_⟩; intro f9 m9 _ _ _ r9 Q9 _ _ _ e; exact absurd e (by intro i; cases i)
  have Pc:zuj f .nilFn (fun _ _=>none):=by refine⟨rfl,?_⟩; intro f9 m9 _ _ _ r9 Q9 _ _ _ e; exact absurd e (by intro i; cases i)
  have Qc:zuj f .nilFn (fun _ _=>none):=by refine⟨rfl,?_⟩; intro f9 m9 _ _ _ r9 Q9 _ _ _ e; exact absurd e (by intro i; cases i)
  have Rc:zuj f .nilFn (fun _ _=>none):=by refine⟨rfl,?_⟩; intro f9 m9 _ _ _ r9 Q9 _ _ _ e; exact absurd e (by intro i; cases i)
  have Na:zuj f .nilFn (fun _ _=>none):=by refine⟨rfl,?_⟩; intro f9 m9 _ _ _ r9 Q9 _ _ _ e; exact absurd e (by intro i; cases i)
  have Oa:zuj f .nilFn (fun _ _=>none):=by refine⟨rfl,?_⟩; intro f9 m9 _ _ _ r9 Q9 _ _ _ e; exact absurd e (by intro i; cases i)
  have Pa:zuj f .nilFn (fun _ _=>none):=by refine⟨rfl,?_⟩; intro f9 m9 _ _ _ r9 Q9 _ _ _ e; exact absurd e (by intro i; cases i)
  have Qa:zuj f .nilFn (fun _ _=>none):=by refine⟨rfl,?_⟩; intro f9 m9 _ _ _ r9 Q9 _ _ _ e; exact absurd e (by intro i; cases i)
  obtain rfl:=oi hp;exact hq _ f .sl0 .sl0 C.nilFn C.nilFn C.nilFn C.nilFn .sl0 pb.grw (Sl.nil _) (Sl.nil _) Na Oa Pa Qa (Sl.nil _)
 intro bd rb;obtain⟨Aa,Ba,ia,Ra⟩:=ya.growK rb ta 4;have Ca:=ib.k ia;have Da:=jb.k ia;have sb:=za.k ia;have tb:=Ra 0 (by decide);refine⟨_,_,_,_,_,_,Ca.bk.ra,_,_,Da.bk.ra,?_⟩;obtain⟨ub,vb,hp⟩:=zqq hp;refine zuY Ba.pre  vb fun cd j B D F G wb xb yb zb Ab=>?_;obtain⟨Bb,g⟩:=Ba.callG wb Aa;have Ea:=Ca.k g;have Fa:=Da.k g;have Cb:=sb.k g;have Db:=tb.k g;refine⟨_,_,_,_,rfl,(by rw[show zaL cmC _=true from zoW (zqu rfl (zqu ha201.noFn zqv))]; exact(Fa.bk.ra)),(by rw[show zaL cmC _=true from zoW (zqu rfl (zqu rfl (zqu rfl (zqu rfl (zqu rfl (zqu ha105.noFn zqv))))))]; exact(Ea.bk.ra)),?_⟩;intro dd Eb;obtain⟨Fb,ja,Gb⟩:=Db.set Bb Eb;have Ga:=Ea.k ja;have Ha:=Fa.k ja;have Hb:=Cb.k ja;refine⟨(by rw[show zaL cmC _=true from zoW (zqu rfl (zqu ha201.noFn zqv))]; exact(Ha.bk.ra)),(by rw[show zaL cmC _=true from zoW (zqu rfl (zqu rfl (zqu rfl (zqu rfl (zqu rfl (zqu ha105.noFn zqv))))))]; exact(Ga.bk.ra)),?_⟩;obtain⟨Ib,Jb,Kb,ka,I⟩:=Gb.sto Fb [Il r.Classes,Il r.Good,Il r.Bad,Il r.Rest,Il r.Fewest,ca105,Il z.First,ca201,B,D,F,G,.sl0];have T:=Ga.k ka;have J:=Ha.k ka;have N:=Hb.k ka;refine⟨Ib,Jb,?_⟩;refine⟨trivial,_,J.bk.rc rfl,ha201.isSl,?_⟩;intro Kc Mb
 have hgo:∀(Y:Nat) (qa:Int) (o:C) (p:Int) (q:Int) (s:Int) (t:Int) (u:Int) (w:Int) (Z:List P4) (n:M) (h:Nat->Nat),St (Fm.of m) f j n->Lb (Fm.of m) j h n 1 m.nxt 6 [Il r.Classes,Il r.Good,Il r.Bad,Il r.Rest,Il r.Fewest,ca105]->Lb (Fm.of m) j h n 2 m0.nxt 2 [Il z.First,ca201]->Lb (Fm.of m) j h n 3 m1.nxt 13 [Il 0,Il 0,Il 0,Il 0,Il 0,.sl0,Il 0,.sl0,C.nilFn,C.nilFn,C.nilFn,C.nilFn,.sl0]->Lb (Fm.of m) j h n 4 (Jc.nxt+0) 13 [Il p,Il q,Il s,Il t,Il u,ca105,Il w,ca201,B,D,F,G,o]->Ow (Fm.of m) j h n 5 o Z->ztz r z ub Y p q s t u w Z qa=some rz->Kc [.c (Il qa)] n:=by
  intro Y
  induction Y with
  | zero=>intro qa o p q s t u w Z n h aa T J N I d hp; cases hp
  | succ Y Sa=>
   intro qa o p q s t u w Z n h aa T J N I d hp;refine Mb _ _ ?_;rw[ztz] at hp
   try rw[ha201.slLen]
   refine ifd hp (fun Nb hp=>?_) fun Nb hp=>?_; rotate_left
   ·refine⟨_,_,_,_,_,_,_,_,_,_,_,_,_,I.bk.ra,?_⟩;obtain⟨Ob,Pb,Qb,Rb,Sb⟩:=N.sto aa [Il p,Il q,Il s,Il t,Il u,ca105,Il w,ca201,B,D,F,G,o];have d:=d.k Rb;refine⟨Ob,Pb,?_⟩;refine⟨_,_,_,_,_,_,_,_,_,_,_,_,_,Sb.bk.ra,?_⟩;obtain⟨Tb,Ub,A,Vb⟩:=d.freeze Qb;obtain rfl:=oi hp;exact hq _ Tb ca105 ca201 B D F G o Ub.grw (ha105.sub (Sub.trans g.fs A.fs)) (ha201.sub (Sub.trans g.fs A.fs)) (xb.sub A.fs) (yb.sub A.fs) (zb.sub A.fs) (Ab.sub A.fs) Vb
   obtain⟨l,la,hp⟩:=zqq hp;obtain⟨Nc,Ta,sa,la⟩:=zqk la;obtain⟨_,Wb⟩:=zr5 ha201 la;refine⟨Nc,Ta,(by first|exact sa|(rw[ha201.slLen];exact sa)),_,_,_,_,_,_,(Wb _ (Sub.trans g.fs aa.sub)).1,?_⟩;intro ed Xb;obtain⟨Yb,Zb,O,ac⟩:=aa.blk Xb h 6;have bc:=T.k O;have cc:=J.k O;have dc:=N.k O;have ec:=I.k O;have d:=d.k O;obtain⟨fc,gc,Ia,P,hc⟩:=ac.sto Zb [Il l.Losses.Lo,Il l.Losses.Hi,Il l.Premiums.Lo,Il l.Premiums.Hi,Il l.Parcels,.bool l.Exempt];have Ja:=bc.k P;have ic:=cc.k P;have jc:=dc.k P;have Ka:=ec.k P;have d:=d.k P;refine⟨fc,gc,?_⟩;refine⟨trivial,_,Ka.bk.rc rfl,_,_,_,_,_,_,Ja.bk.ra,_,_,_,_,_,_,hc.bk.ra,?_⟩;obtain⟨La,kc,hp⟩:=zqq hp;refine zvV (r:=r) (y:=l) Ia.pre (ha105.sub g.fs) kc fun fd nc=>?_;obtain⟨oc,S⟩:=Ia.call nc Yb;have pc:=Ja.k S;have qc:=ic.k S;have sc:=jc.k S;have ma:=Ka.k S;have d:=d.k S;refine⟨_,_,_,_,rfl,(by rw[show cmC _=true from zoV (d.noFn)]; exact(ma.bk.rc rfl)),?_⟩;obtain⟨tc,hp⟩:=zqr hp;intro hd Ma;refine⟨(by rw[show cmC _=true from zoV (d.noFn)]; exact(ma.bk.ext (Bk.new Ma).2).rc rfl),?_⟩;obtain⟨na,uc,vc,wc,xc,ba,oa⟩:=d.app' zup oc (a:=La) (show Rp.rep (α:=P4) j _ La from rfl) tc Ma;have yc:=pc.k ba;have zc:=qc.k ba;have Ac:=sc.k ba;have Bc:=ma.k ba;refine⟨na,uc,wc,?_⟩;refine⟨trivial,?_⟩;obtain⟨Cc,Dc,Ec,ca,pa⟩:=Bc.sto1 xc 12 na (by simp) rfl
   replace pa:Lb _ _ _ _ _ _ _ [Il p,Il q,Il s,Il t,Il u,ca105,Il w,ca201,B,D,F,G,na]:=pa
   have Fc:=yc.k ca;have Gc:=zc.k ca;have Hc:=Ac.k ca;have oa:=oa.k ca;refine⟨Cc,Dc,?_⟩;refine gdi hp fun Ic hp=>?_;exact Sa _ _ _ _ _ _ _ _ _ _ vc Ec Fc Gc Hc pa oa hp
 exact hgo _ _ _ _ _ _ _ _ _ _ _ Aa Kb T J N I (Ow.nil _ _ _ _ _) hp
theorem zvX{r:Rl}{z:Zn}{year:Int}{ca105 ca201:C}{m f:M}{Q:V->M->Prop}{rz:Wk × Int}(hS:Pre f m)(ha105:Sl f ca105 r.Price)(ha201:Sl f ca201 z.Years)(hp:ztB r z year=some rz)(hq:∀m' f' c5 c7 c8 c9 c10 c11 c12,Grw m f m' f'->Sl f' c5 rz.1.r.Price->Sl f' c7 rz.1.zone.Years->zuj f' c8 rz.1.kinds.k0.lead->zuj f' c9 rz.1.kinds.k1.lead->zuj f' c10 rz.1.kinds.k2.lead->zuj f' c11 rz.1.kinds.k3.lead->Sl f' c12 rz.1.can->Q (.tup [.agg 13 [Il rz.1.r.Classes,Il rz.1.r.Good,Il rz.1.r.Bad,Il rz.1.r.Rest,Il rz.1.r.Fewest,c5,Il rz.1.zone.First,c7,c8,c9,c10,c11,c12],.c (Il rz.2)]) m'):Wc prog tbl 61 [.agg 6 [Il r.Classes,Il r.Good,Il r.Bad,Il r.Rest,Il r.Fewest,ca105],.agg 2 [Il z.First,ca201],.c (Il year)] m Q:=by
 have S0:=hS.st;obtain⟨τ0,_⟩:=zr0;refine w61 ?_;unfold ztB at hp;intro m0 ia;obtain⟨ja,ka,hb,la⟩:=S0.blk ia τ0 1;intro m1 ma;obtain⟨na,oa,pa,qa⟩:=ka.blk ma ja 2;have sa:=la.k pa;intro m2 ta;obtain⟨A,B,D,ua⟩:=oa.blk ta na 3;have va:=sa.k D;have F:=qa.k D;refine⟨_,_,_,_,_,_,va.bk.ra,_,_,F.bk.ra,?_⟩;obtain⟨a,wa,hp⟩:=zqq hp;refine zvW (r:=r) (z:=z) B.pre ha105 ha201 wa fun ob d h i j l n o p xa G I J N O P S=>?_;obtain⟨ya,q⟩:=B.callG xa A;have za:=F.k q;have Aa:=ua.k q;refine⟨_,_,_,_,_,_,_,_,_,_,_,_,_,_,rfl,?_⟩;intro pb Ba;obtain⟨Ca,Da,T,Ea⟩:=ya.blk Ba A 4;have Fa:=za.k T;have Ga:=Aa.k T;obtain⟨Ha,Ia,s,Y,Z⟩:=Ea.sto Da [Il a.1.r.Classes,Il a.1.r.Good,Il a.1.r.Bad,Il a.1.r.Rest,Il a.1.r.Fewest,h,Il a.1.zone.First,i,j,l,n,o,p];have Ja:=Fa.k Y;have aa:=Ga.k Y;refine⟨Ha,Ia,?_⟩;refine ifd hp (fun Ka hp=>?_) fun Ka hp=>?_; rotate_left
 ·refine⟨_,_,_,_,_,_,_,_,_,_,_,_,_,Z.bk.ra,?_⟩;obtain⟨La,Ma,Na,ib,Oa⟩:=aa.sto s [Il a.1.r.Classes,Il a.1.r.Good,Il a.1.r.Bad,Il a.1.r.Rest,Il a.1.r.Fewest,h,Il a.1.zone.First,i,j,l,n,o,p];refine⟨La,Ma,?_⟩;refine⟨_,_,_,_,_,_,_,_,_,_,_,_,_,Oa.bk.ra,?_⟩;obtain rfl:=oi hp;exact hq _ d h i j l n o p Na.grw G I J N O P S
 refine⟨_,_,Ja.bk.ra,?_⟩;obtain⟨jb,Pa,hp⟩:=zqq hp;refine zuR (z:=z) (year:=year) s.pre (ha201.sub q.fs) Pa fun qb Qa=>?_;obtain⟨ba,ca⟩:=s.call Qa Ca;have da:=aa.k ca;have Ra:=Z.k ca;refine⟨_,rfl,?_⟩;refine zqV hp (fun Sa hp=>?_) fun Sa hp=>?_; rotate_left
 ·refine⟨_,_,_,_,_,_,_,_,_,_,_,_,_,Ra.bk.ra,?_⟩;obtain⟨Ta,Ua,Va,kb,Wa⟩:=da.sto ba [Il a.1.r.Classes,Il a.1.r.Good,Il a.1.r.Bad,Il a.1.r.Rest,Il a.1.r.Fewest,h,Il a.1.zone.First,i,j,l,n,o,p];refine⟨Ta,Ua,?_⟩;refine⟨_,_,_,_,_,_,_,_,_,_,_,_,_,Wa.bk.ra,?_⟩;obtain rfl:=oi hp;exact hq _ d h i j l n o p Va.grw G I J N O P S
 obtain⟨Xa,Ya,Za,mb,ab⟩:=da.sto ba [Il 0,Il 0,Il 0,Il 0,Il 0,.sl0,Il 0,.sl0,C.nilFn,C.nilFn,C.nilFn,C.nilFn,.sl0];refine⟨Xa,Ya,?_⟩;refine⟨_,_,_,_,_,_,_,_,_,_,_,_,_,ab.bk.ra,?_⟩
 have bb:zuj d .nilFn (fun _ _=>none):=by refine⟨rfl,?_⟩; intro t u _ _ _ w y _ _ _ e; exact absurd e (by intro g; cases g)
 have cb:zuj d .nilFn (fun _ _=>none):=by refine⟨rfl,?_⟩; intro t u _ _ _ w y _ _ _ e; exact absurd e (by intro g; cases g)
 have db:zuj d .nilFn (fun _ _=>none):=by refine⟨rfl,?_⟩; intro t u _ _ _ w y _ _ _ e; exact absurd e (by intro g; cases g)
 have eb:zuj d .nilFn (fun _ _=>none):=by refine⟨rfl,?_⟩; intro t u _ _ _ w y _ _ _ e; exact absurd e (by intro g; cases g)
 have ea:zuj d .nilFn (fun _ _=>none):=by refine⟨rfl,?_⟩; intro t u _ _ _ w y _ _ _ e; exact absurd e (by intro g; cases g)
 have fa:zuj d .nilFn (fun _ _=>none):=by refine⟨rfl,?_⟩; intro t u _ _ _ w y _ _ _ e; exact absurd e (by intro g; cases g)
 have ga:zuj d .nilFn (fun _ _=>none):=by refine⟨rfl,?_⟩; intro t u _ _ _ w y _ _ _ e; exact absurd e (by intro g; cases g)
 have ha:zuj d .nilFn (fun _ _=>none):=by refine⟨rfl,?_⟩; intro t u _ _ _ w y _ _ _ e; exact absurd e (by intro g; cases g)
 obtain rfl:=oi hp;exact hq _ d .sl0 .sl0 C.nilFn C.nilFn C.nilFn C.nilFn .sl0 Za.grw (Sl.nil _) (Sl.nil _) ea fa ga ha (Sl.nil _)
theorem zvY{r:Rl}{z:Zn}{t:Tr}{ca105 ca201 ca300 ca301:C}{m f:M}{Q:V->M->Prop}{rz:List Int × Int}(hS:Pre f m)(ha105:Sl f ca105 r.Price)(ha201:Sl f ca201 z.Years)(ha300:Sl f ca300 t.Losses)(ha301:Sl f ca301 t.Premiums)(hp:ztC r z t=some rz)(hq:∀m' f' c0,Grw m f m' f'->Sl f' c0 rz.1->Q (.tup [.c c0,.c (Il rz.2)]) m'):Wc prog tbl 19 [.agg 6 [Il r.Classes,Il r.Good,Il r.Bad,Il r.Rest,Il r.Fewest,ca105],.agg 2 [Il z.First,ca201],.agg 2 [ca300,ca301]] m Q:=by
 have S0:=hS.st;obtain⟨τ0,_⟩:=zr0;refine w19 ?_;unfold ztC at hp;intro m0 y;obtain⟨A,B,Pa,D⟩:=S0.blk y τ0 1;intro m1 F;obtain⟨G,I,J,N⟩:=B.blk F A 2;have O:=D.k J;intro m2 P;obtain⟨h,i,j,S⟩:=I.blk P G 3;have T:=O.k j;have l:=N.k j;refine⟨_,_,_,_,_,_,T.bk.ra,_,_,l.bk.ra,?_⟩;obtain⟨a,Y,hp⟩:=zqq hp;refine zvW (r:=r) (z:=z) i.pre ha105 ha201 Y fun Ta n Z aa ba ca da ea fa ga ha ia ja ka la ma na=>?_;obtain⟨oa,d⟩:=i.callG ga h;have pa:=l.k d;have qa:=S.k d;refine⟨_,_,_,_,_,_,_,_,_,_,_,_,_,_,rfl,?_⟩;intro Ua sa;obtain⟨o,ta,p,ua⟩:=oa.blk sa h 4;have va:=pa.k p;have wa:=qa.k p;obtain⟨xa,ya,e,q,za⟩:=ua.sto ta [Il a.1.r.Classes,Il a.1.r.Good,Il a.1.r.Bad,Il a.1.r.Rest,Il a.1.r.Fewest,Z,Il a.1.zone.First,aa,ba,ca,da,ea,fa];have Aa:=va.k q;have s:=wa.k q;refine⟨xa,ya,?_⟩;refine zqT hp (fun Ba hp=>?_) fun Ba hp=>?_
 ·obtain rfl:=oi hp;exact hq _ n .sl0 e.grw (Sl.nil _)
 refine⟨_,_,Aa.bk.ra,_,_,s.bk.ra,?_⟩;obtain⟨Qa,Ca,hp⟩:=zqq hp;refine zuS (z:=z) (t:=t) e.pre (ha201.sub d.fs) (ha300.sub d.fs) (ha301.sub d.fs) Ca fun Va Da=>?_;obtain⟨g,u⟩:=e.call Da o;have Ea:=s.k u;have Fa:=za.k u;refine⟨_,rfl,?_⟩;refine zqV hp (fun Ga hp=>?_) fun Ga hp=>?_
 ·obtain rfl:=oi hp;exact hq _ n .sl0 g.grw (Sl.nil _)
 refine⟨_,_,_,_,_,_,_,_,_,_,_,_,_,Fa.bk.ra,_,_,Ea.bk.ra,?_⟩;obtain⟨Ra,Ha,hp⟩:=zqq hp;refine zva (w:=a.1) (t:=t) g.pre ha ia ja ka la ma na (ha300.sub d.fs) (ha301.sub d.fs) Ha fun Wa Ia Ja Ka La=>?_;obtain⟨Ma,Sa⟩:=g.callG Ka o;refine⟨_,rfl,?_⟩;obtain rfl:=oi hp;exact hq _ Ia Ja Ma.grw La
theorem zvZ{r:Rl}{z:Zn}{year:Int}{ca105 ca201:C}{m f:M}{Q:V->M->Prop}{rz:List Int × Int}(hS:Pre f m)(ha105:Sl f ca105 r.Price)(ha201:Sl f ca201 z.Years)(hp:ztD r z year=some rz)(hq:∀m' f' c0,Grw m f m' f'->Sl f' c0 rz.1->Q (.tup [.c c0,.c (Il rz.2)]) m'):Wc prog tbl 29 [.agg 6 [Il r.Classes,Il r.Good,Il r.Bad,Il r.Rest,Il r.Fewest,ca105],.agg 2 [Il z.First,ca201],.c (Il year)] m Q:=by
 have S0:=hS.st;obtain⟨τ0,_⟩:=zr0;refine w29 ?_;unfold ztD at hp;intro m0 l;obtain⟨n,o,Ca,p⟩:=S0.blk l τ0 1;intro m1 q;obtain⟨g,h,t,u⟩:=o.blk q n 2;have y:=p.k t;refine⟨_,_,_,_,_,_,y.bk.ra,_,_,u.bk.ra,?_⟩;obtain⟨a,A,hp⟩:=zqq hp;refine zvX (r:=r) (z:=z) (year:=year) h.pre ha105 ha201 A fun Ma B D F G I J N O P S T Y Z aa ba ca=>?_;obtain⟨da,Da⟩:=h.callG P g;refine⟨_,_,_,_,_,_,_,_,_,_,_,_,_,_,rfl,?_⟩;intro Na ea;obtain⟨d,fa,Ea,ga⟩:=da.blk ea g 3;obtain⟨ha,ia,e,Fa,ja⟩:=ga.sto fa [Il a.1.r.Classes,Il a.1.r.Good,Il a.1.r.Bad,Il a.1.r.Rest,Il a.1.r.Fewest,D,Il a.1.zone.First,F,G,I,J,N,O];refine⟨ha,ia,?_⟩;refine zqT hp (fun ka hp=>?_) fun ka hp=>?_
 ·obtain rfl:=oi hp;exact hq _ B .sl0 e.grw (Sl.nil _)
 refine⟨_,_,_,_,_,_,_,_,_,_,_,_,_,ja.bk.ra,?_⟩;refine gdi hp fun la hp=>?_;obtain⟨ma,na,hp⟩:=zqq hp;refine zvc (w:=a.1) (years:=(year+1)) e.pre S T Y Z aa ba ca na fun Oa Ga Ha oa pa=>?_;obtain⟨i,Ia⟩:=e.callG oa d;refine⟨_,rfl,?_⟩;obtain⟨qa,sa,hp⟩:=zqq hp;refine zu8 (s:=ma) i.pre pa sa fun Pa ta=>?_;obtain⟨j,Ja⟩:=i.call ta d;refine⟨_,_,_,_,_,_,rfl,?_⟩;obtain⟨Ka,ua,hp⟩:=zqq hp;refine zu3 (c:=qa) j.pre  ua fun Qa va wa xa ya=>?_;obtain⟨za,La⟩:=j.callG xa d;refine⟨_,rfl,?_⟩;obtain rfl:=oi hp;exact hq _ va wa za.grw ya
theorem zv0{r:Rl}{z:Zn}{year:Int}{ca105 ca201:C}{m f:M}{Q:V->M->Prop}{rz:Int × Int}(hS:Pre f m)(ha105:Sl f ca105 r.Price)(ha201:Sl f ca201 z.Years)(hp:ztE r z year=some rz)(hq:∀m',Ext m m'->Q (.tup [.c (Il rz.1),.c (Il rz.2)]) m'):Wc prog tbl 30 [.agg 6 [Il r.Classes,Il r.Good,Il r.Bad,Il r.Rest,Il r.Fewest,ca105],.agg 2 [Il z.First,ca201],.c (Il year)] m Q:=by
 have S0:=hS.st;obtain⟨τ0,_⟩:=zr0;refine w30 ?_;unfold ztE at hp;intro m0 h;obtain⟨i,j,ma,l⟩:=S0.blk h τ0 1;intro m1 n;obtain⟨e,g,o,p⟩:=j.blk n i 2;have q:=l.k o;refine⟨_,_,_,_,_,_,q.bk.ra,_,_,p.bk.ra,?_⟩;obtain⟨a,s,hp⟩:=zqq hp;refine zvX (r:=r) (z:=z) (year:=year) g.pre ha105 ha201 s fun ua na t u y A B D F G I J N O P S T=>?_;obtain⟨Y,oa⟩:=g.callG G e;refine⟨_,_,_,_,_,_,_,_,_,_,_,_,_,_,rfl,?_⟩;intro va Z;obtain⟨aa,ba,pa,ca⟩:=Y.blk Z e 3;obtain⟨da,ea,d,qa,fa⟩:=ca.sto ba [Il a.1.r.Classes,Il a.1.r.Good,Il a.1.r.Bad,Il a.1.r.Rest,Il a.1.r.Fewest,t,Il a.1.zone.First,u,y,A,B,D,F];refine⟨da,ea,?_⟩;refine zqT hp (fun ga hp=>?_) fun ga hp=>?_
 ·obtain rfl:=oi hp;exact hq _ d.ext'
 refine⟨_,_,_,_,_,_,_,_,_,_,_,_,_,fa.bk.ra,?_⟩;obtain⟨sa,ha,hp⟩:=zqq hp;refine zvd (w:=a.1) (year:=year) d.pre I J N O P S T ha fun wa ia=>?_;obtain⟨ja,ta⟩:=d.call ia aa;refine⟨_,rfl,?_⟩;obtain rfl:=oi hp;exact hq _ ja.ext'
theorem zv1{r:Rl}{z:Zn}{ca105 ca201:C}{m f:M}{Q:V->M->Prop}{rz:Rg × Int}(hS:Pre f m)(ha105:Sl f ca105 r.Price)(ha201:Sl f ca201 z.Years)(hp:ztF r z=some rz)(hq:∀m',Ext m m'->Q (.tup [.agg 2 [Il rz.1.Lo,Il rz.1.Hi],.c (Il rz.2)]) m'):Wc prog tbl 34 [.agg 6 [Il r.Classes,Il r.Good,Il r.Bad,Il r.Rest,Il r.Fewest,ca105],.agg 2 [Il z.First,ca201]] m Q:=by
 have S0:=hS.st;obtain⟨τ0,_⟩:=zr0;refine w34 ?_;unfold ztF at hp;intro m0 s;obtain⟨t,u,Za,y⟩:=S0.blk s τ0 1;intro m1 A;obtain⟨B,D,F,G⟩:=u.blk A t 2;have I:=y.k F;intro m2 J;obtain⟨g,h,i,N⟩:=D.blk J B 3;have O:=I.k i;have P:=G.k i;refine⟨_,_,_,_,_,_,O.bk.ra,_,_,P.bk.ra,?_⟩;obtain⟨a,S,hp⟩:=zqq hp;refine zvW (r:=r) (z:=z) h.pre ha105 ha201 S fun fb ab T Y Z aa ba ca da ea fa ga ha ia ja ka la=>?_;obtain⟨ma,na⟩:=h.callG ea g;have oa:=N.k na;refine⟨_,_,_,_,_,_,_,_,_,_,_,_,_,_,rfl,?_⟩;intro gb pa;obtain⟨d,qa,sa,ta⟩:=ma.blk pa g 4;have ua:=oa.k sa;obtain⟨va,wa,e,xa,ya⟩:=ta.sto qa [Il a.1.r.Classes,Il a.1.r.Good,Il a.1.r.Bad,Il a.1.r.Rest,Il a.1.r.Fewest,T,Il a.1.zone.First,Y,Z,aa,ba,ca,da];have j:=ua.k xa;refine⟨va,wa,?_⟩;refine zqT hp (fun za hp=>?_) fun za hp=>?_
 ·obtain⟨Aa,Ba,Ca,bb,Da⟩:=j.sto e [Il 0,Il 0];refine⟨Aa,Ba,?_⟩;refine⟨_,_,Da.bk.ra,?_⟩;obtain rfl:=oi hp;exact hq _ Ca.ext'
 refine⟨_,_,_,_,_,_,_,_,_,_,_,_,_,ya.bk.ra,?_⟩;obtain⟨n,Ea,hp⟩:=zqq hp;refine zvf (w:=a.1) e.pre fa ga ha ia ja ka la Ea fun hb cb db Fa o=>?_;obtain⟨p,Ga⟩:=e.callG Fa d;have Ha:=j.k Ga;refine⟨_,rfl,?_⟩;obtain⟨Ia,Ja,hp⟩:=zqq hp;refine zuy (l:=n) p.pre o Ja fun ib Ka=>?_;obtain⟨q,La⟩:=p.call Ka d;have Ma:=Ha.k La;refine⟨_,rfl,?_⟩;obtain⟨Na,Oa,hp⟩:=zqq hp;refine zuz (l:=n) q.pre o Oa fun jb Pa=>?_;obtain⟨Qa,Ra⟩:=q.call Pa d;have Sa:=Ma.k Ra;refine⟨_,rfl,?_⟩;obtain⟨Ta,Ua,Va,eb,Wa⟩:=Sa.sto Qa [Il Ia,Il Na];refine⟨Ta,Ua,?_⟩;refine⟨_,_,Wa.bk.ra,?_⟩;obtain rfl:=oi hp;exact hq _ Va.ext'
theorem zv2{r:Rl}{z:Zn}{ca105 ca201:C}{m f:M}{Q:V->M->Prop}{rz:List Int × Int}(hS:Pre f m)(ha105:Sl f ca105 r.Price)(ha201:Sl f ca201 z.Years)(hp:ztG r z=some rz)(hq:∀m' f' c0,Grw m f m' f'->Sl f' c0 rz.1->Q (.tup [.c c0,.c (Il rz.2)]) m'):Wc prog tbl 35 [.agg 6 [Il r.Classes,Il r.Good,Il r.Bad,Il r.Rest,Il r.Fewest,ca105],.agg 2 [Il z.First,ca201]] m Q:=by
 have S0:=hS.st;obtain⟨τ0,_⟩:=zr0;refine w35 ?_;unfold ztG at hp;intro m0 h;obtain⟨i,j,qa,l⟩:=S0.blk h τ0 1;intro m1 n;obtain⟨e,g,o,p⟩:=j.blk n i 2;have q:=l.k o;refine⟨_,_,_,_,_,_,q.bk.ra,_,_,p.bk.ra,?_⟩;obtain⟨a,s,hp⟩:=zqq hp;refine zvW (r:=r) (z:=z) g.pre ha105 ha201 s fun xa t u y A B D F G I J N O P S T Y=>?_;obtain⟨Z,sa⟩:=g.callG I e;refine⟨_,_,_,_,_,_,_,_,_,_,_,_,_,_,rfl,?_⟩;intro ya aa;obtain⟨ba,ca,ta,da⟩:=Z.blk aa e 3;obtain⟨ea,fa,d,ua,ga⟩:=da.sto ca [Il a.1.r.Classes,Il a.1.r.Good,Il a.1.r.Bad,Il a.1.r.Rest,Il a.1.r.Fewest,u,Il a.1.zone.First,y,A,B,D,F,G];refine⟨ea,fa,?_⟩;refine zqT hp (fun ha hp=>?_) fun ha hp=>?_
 ·obtain rfl:=oi hp;exact hq _ t .sl0 d.grw (Sl.nil _)
 refine⟨_,_,_,_,_,_,_,_,_,_,_,_,_,ga.bk.ra,?_⟩;obtain⟨va,ia,hp⟩:=zqq hp;refine zvg (w:=a.1) d.pre J N O P S T Y ia fun za ja ka la ma=>?_;obtain⟨na,wa⟩:=d.callG la ba;refine⟨_,rfl,?_⟩;obtain rfl:=oi hp;exact hq _ ja ka na.grw ma
theorem zv3{r:Rl}{z:Zn}{class_:Int}{ca105 ca201:C}{m f:M}{Q:V->M->Prop}{rz:List Int × Int}(hS:Pre f m)(ha105:Sl f ca105 r.Price)(ha201:Sl f ca201 z.Years)(hp:ztH r z class_=some rz)(hq:∀m' f' c0,Grw m f m' f'->Sl f' c0 rz.1->Q (.tup [.c c0,.c (Il rz.2)]) m'):Wc prog tbl 39 [.agg 6 [Il r.Classes,Il r.Good,Il r.Bad,Il r.Rest,Il r.Fewest,ca105],.agg 2 [Il z.First,ca201],.c (Il class_)] m Q:=by
 have S0:=hS.st;obtain⟨τ0,_⟩:=zr0;refine w39 ?_;unfold ztH at hp;intro m0 na;obtain⟨oa,pa,Ha,qa⟩:=S0.blk na τ0 1;intro m1 sa;obtain⟨j,l,ta,ua⟩:=pa.blk sa oa 2;have n:=qa.k ta;refine⟨_,_,_,_,_,_,n.bk.ra,_,_,ua.bk.ra,?_⟩;obtain⟨a,va,hp⟩:=zqq hp;refine zvW (r:=r) (z:=z) l.pre ha105 ha201 va fun Ia o wa xa q s t u y ya za Aa A B D F G=>?_;obtain⟨Ba,p⟩:=l.callG ya j;have I:=n.k p;refine⟨_,_,_,_,_,_,_,_,_,_,_,_,_,_,rfl,?_⟩;intro Ja J;obtain⟨g,N,O,P⟩:=Ba.blk J j 3;have S:=I.k O;obtain⟨T,Y,d,Z,aa⟩:=P.sto N [Il a.1.r.Classes,Il a.1.r.Good,Il a.1.r.Bad,Il a.1.r.Rest,Il a.1.r.Fewest,wa,Il a.1.zone.First,xa,q,s,t,u,y];have ba:=S.k Z;refine⟨T,Y,?_⟩;refine zqT hp (fun ca hp=>?_) fun ca hp=>?_
 ·obtain rfl:=oi hp;exact hq _ o .sl0 d.grw (Sl.nil _)
 refine⟨_,_,_,_,_,_,ba.bk.ra,?_⟩;obtain⟨Ca,da,hp⟩:=zqq hp;refine zuP (r:=r) (class_:=class_) d.pre (ha105.sub p.fs) da fun Ka ea=>?_;obtain⟨e,fa⟩:=d.call ea g;have ga:=aa.k fa;refine⟨_,rfl,?_⟩;refine zqV hp (fun ha hp=>?_) fun ha hp=>?_
 ·obtain rfl:=oi hp;exact hq _ o .sl0 e.grw (Sl.nil _)
 refine⟨_,_,_,_,_,_,_,_,_,_,_,_,_,ga.bk.ra,?_⟩;obtain⟨Da,ia,hp⟩:=zqq hp;refine zvS (w:=a.1) (class_:=class_) e.pre za Aa A B D F G ia fun La h ja ka la=>?_;obtain⟨i,Ea⟩:=e.callG ka g;refine⟨_,_,rfl,?_⟩;refine zqV hp (fun ma hp=>?_) fun ma hp=>?_
 ·obtain rfl:=oi hp;exact hq _ h .sl0 i.grw (Sl.nil _)
 obtain rfl:=oi hp;exact hq _ h ja i.grw la
theorem zv4{l:List Int}{ca100:C}{m f:M}{Q:V->M->Prop}{rz:List Int}(hS:Pre f m)(ha100:Sl f ca100 l)(hp:ztI l=some rz)(hq:∀m' f' c0,Grw m f m' f'->Sl f' c0 rz->Q (.c c0) m'):Wc prog tbl 50 [.c ca100] m Q:=by
 have z:=hS.st;obtain⟨A,_⟩:=zr0;refine w50 ?_;unfold ztI at hp;intro B d;obtain⟨s,e,t,g⟩:=Ow.lit0 (α:=Int) z A 1 d;obtain⟨h,hp⟩:=zqr hp;obtain⟨a,i,u,j,n,w,o⟩:=g.appL zuo e ha100 h;refine⟨a,i,j,?_⟩;obtain⟨p,q,y,r⟩:=o.freeze n;obtain rfl:=oi hp;exact hq _ p a q.grw r
theorem zv5{r:Rg}{m f:M}{Q:V->M->Prop}{rz:Rg}(hS:Pre f m)(hp:ztJ r=some rz)(hq:∀m',Ext m m'->Q (.agg 2 [Il rz.Lo,Il rz.Hi]) m'):Wc prog tbl 36 [.agg 2 [Il r.Lo,Il r.Hi]] m Q:=by
 have w:=hS.st;obtain⟨y,_⟩:=zr0;refine w36 ?_;unfold ztJ at hp;intro z c;obtain⟨d,e,s,g⟩:=w.blk c y 1;intro A h;obtain⟨t,i,j,l⟩:=e.blk h d 2;have a:=g.k j;refine⟨trivial,_,a.bk.rc rfl,trivial,_,a.bk.rc rfl,?_⟩;obtain⟨n,o,p,u,q⟩:=l.sto i [Il r.Lo,Il r.Hi];refine⟨n,o,?_⟩;refine⟨_,_,q.bk.ra,?_⟩;obtain rfl:=oi hp;exact hq _ p.ext'
theorem zv6{r:Rl}{ca105:C}{m f:M}{Q:V->M->Prop}{rz:Rl}(hS:Pre f m)(ha105:Sl f ca105 r.Price)(hp:ztK r=some rz)(hq:∀m' f' c5,Grw m f m' f'->Sl f' c5 rz.Price->Q (.agg 6 [Il rz.Classes,Il rz.Good,Il rz.Bad,Il rz.Rest,Il rz.Fewest,c5]) m'):Wc prog tbl 20 [.agg 6 [Il r.Classes,Il r.Good,Il r.Bad,Il r.Rest,Il r.Fewest,ca105]] m Q:=by
 have O:=hS.st;obtain⟨P,_⟩:=zr0;refine w20 ?_;unfold ztK at hp;intro S h;obtain⟨i,j,I,n⟩:=O.blk h P 1;intro T o;obtain⟨p,d,q,s⟩:=j.blk o i 2;have a:=n.k q;refine⟨trivial,_,a.bk.rc rfl,trivial,_,a.bk.rc rfl,trivial,_,a.bk.rc rfl,trivial,_,a.bk.rc rfl,trivial,_,a.bk.rc rfl,trivial,_,a.bk.rc rfl,?_⟩;obtain⟨J,t,hp⟩:=zqq hp;refine zv4 (l:=r.Price) d.pre ha105 t fun Y u e w y=>?_;obtain⟨z,g⟩:=d.callG w p;have c:=a.k g;have A:=s.k g;refine⟨_,rfl,(c.bk.rc rfl),(c.bk.rc rfl),(c.bk.rc rfl),(c.bk.rc rfl),(c.bk.rc rfl),?_⟩;obtain⟨B,D,F,N,G⟩:=A.sto z [Il r.Classes,Il r.Good,Il r.Bad,Il r.Rest,Il r.Fewest,e];refine⟨B,D,?_⟩;refine⟨_,_,_,_,_,_,G.bk.ra,?_⟩;obtain rfl:=oi hp;exact hq _ u e F.grw y
theorem zv7{z:Zn}{ca101:C}{m f:M}{Q:V->M->Prop}{rz:Zn}(hS:Pre f m)(ha101:Sl f ca101 z.Years)(hp:ztM z=some rz)(hq:∀m' f' c1,Grw m f m' f'->Sl f' c1 rz.Years->Q (.agg 2 [Il rz.First,c1]) m'):Wc prog tbl 21 [.agg 2 [Il z.First,ca101]] m Q:=by
 have S0:=hS.st;obtain⟨τ0,_⟩:=zr0;refine w21 ?_;unfold ztM at hp;intro m0 ka;obtain⟨la,ma,Ab,na⟩:=S0.blk ka τ0 1;intro m1 oa;obtain⟨pa,qa,sa,ta⟩:=ma.blk oa la 2;have T:=na.k sa;refine⟨trivial,_,T.bk.rc rfl,?_⟩;intro m3 ua;obtain⟨va,wa,Y,xa⟩:=qa.blk ua pa 3;have ya:=T.k Y;have za:=ta.k Y;obtain⟨Aa,Ba,Ca,Z,n⟩:=xa.sto wa [Il z.First,.sl0];have h:=ya.k Z;have o:=za.k Z;refine⟨Aa,Ba,?_⟩;intro R5 yb
 have hgo:∀(t:Nat) (x6:Int) (i:C) (l:Int) (u:List Yr) (P:M) (g:Nat->Nat),St (Fm.of m) f f P->Lb (Fm.of m) f g P 1 m.nxt 2 [Il z.First,ca101]->Lb (Fm.of m) f g P 2 m0.nxt 2 [Il 0,.sl0]->Lb (Fm.of m) f g P 3 m1.nxt 2 [Il l,i]->Ow (Fm.of m) f g P 4 i u->ztL z t l u x6=some rz->R5 [.c (Il x6)] P:=by
  intro t
  induction t with
  | zero=>intro x6 i l u P g w h o n d hp; cases hp
  | succ t xb=>
   intro x6 i l u P g w h o n d hp;refine yb _ _ ?_;rw[ztL] at hp;refine⟨trivial,_,h.bk.rc rfl,ha101.isSl,?_⟩
   try rw[ha101.slLen]
   refine ifd hp (fun Ea hp=>?_) fun Ea hp=>?_; rotate_left
   ·refine⟨_,_,n.bk.ra,?_⟩;obtain⟨Fa,Ga,Ha,Ia,Ja⟩:=o.sto w [Il l,i];have d:=d.k Ia;refine⟨Fa,Ga,?_⟩;refine⟨_,_,Ja.bk.ra,?_⟩;obtain⟨Ka,La,Bb,Ma⟩:=d.freeze Ha;obtain rfl:=oi hp;exact hq _ Ka i La.grw Ma
   refine⟨trivial,_,h.bk.rc rfl,?_⟩;obtain⟨e,D,hp⟩:=zqq hp;obtain⟨zb,ja,S,D⟩:=zqk D;obtain⟨_,Na⟩:=zr5 ha101 D;refine⟨zb,ja,(by first|exact S|(rw[ha101.slLen];exact S)),_,_,_,_,_,_,(Na _ w.sub).1,?_⟩;intro Hb Oa;obtain⟨aa,Pa,y,Qa⟩:=w.blk Oa g 5;have Ra:=h.k y;have Sa:=o.k y;have Ta:=n.k y;have d:=d.k y;obtain⟨Ua,Va,ba,A,p⟩:=Qa.sto Pa [Il e.Losses.Lo,Il e.Losses.Hi,Il e.Premiums.Lo,Il e.Premiums.Hi,Il e.Parcels,.bool e.Exempt];have Wa:=Ra.k A;have Xa:=Sa.k A;have ca:=Ta.k A;have d:=d.k A;refine⟨Ua,Va,?_⟩;refine⟨trivial,_,ca.bk.rc rfl,trivial,_,_,p.bk.rp (k:=0) (j:=2) rfl (by omega),?_⟩;obtain⟨da,Ya,hp⟩:=zqq hp;refine zv5 (r:=e.Losses) ba.pre  Ya fun Ib Za=>?_;obtain⟨ea,q⟩:=ba.call Za aa;have ab:=Wa.k q;have bb:=Xa.k q;have fa:=ca.k q;have B:=p.k q;have d:=d.k q;refine⟨_,_,rfl,(by rw[show cmC _=true from zoV (d.noFn)]; exact(fa.bk.rc rfl)),trivial,_,_,B.bk.rp (k:=2) (j:=2) rfl (by omega),(p.bk.rp (k:=2) (j:=2) rfl (by omega)),?_⟩;obtain⟨ga,cb,hp⟩:=zqq hp;refine zv5 (r:=e.Premiums) ea.pre  cb fun Jb db=>?_;obtain⟨eb,s⟩:=ea.call db aa;have fb:=ab.k s;have gb:=bb.k s;have F:=fa.k s;have ha:=B.k s;have d:=d.k s;refine⟨_,_,rfl,(by rw[show cmC _=true from zoV (d.noFn)]; exact(F.bk.rc rfl)),trivial,_,ha.bk.rc rfl,(B.bk.rc rfl),(p.bk.rc rfl),trivial,_,ha.bk.rc rfl,(B.bk.rc rfl),(p.bk.rc rfl),?_⟩;obtain⟨hb,hp⟩:=zqr hp;intro Kb ia;refine⟨(by rw[show cmC _=true from zoV (d.noFn)]; exact(F.bk.ext (Bk.new ia).2).rc rfl),?_⟩;obtain⟨G,ib,jb,kb,mb,I,J⟩:=d.app' zvU eb (a:=({ Losses:=da,Premiums:=ga,Parcels:=e.Parcels,Exempt:=e.Exempt }:Yr)) (show Rp.rep (α:=Yr) f _ ({ Losses:=da,Premiums:=ga,Parcels:=e.Parcels,Exempt:=e.Exempt }:Yr) from rfl) hb ia
   have ob:=fb.k I;have pb:=gb.k I;have qb:=F.k I;refine⟨G,ib,kb,?_⟩;refine⟨trivial,?_⟩;obtain⟨rb,sb,tb,N,O⟩:=qb.sto1 mb 1 G (by simp) rfl
   replace O:Lb _ _ _ _ _ _ _ [Il l,G]:=O
   have ub:=ob.k N;have vb:=pb.k N;have J:=J.k N;refine⟨rb,sb,?_⟩;refine gdi hp fun wb hp=>?_;exact xb _ _ _ _ _ jb tb ub vb O J hp
 exact hgo _ _ _ _ _ _ va Ca h o n (Ow.nil _ _ _ _ _) hp
theorem zv8{t:Tr}{ca100 ca101:C}{m f:M}{Q:V->M->Prop}{rz:Tr}(hS:Pre f m)(ha100:Sl f ca100 t.Losses)(ha101:Sl f ca101 t.Premiums)(hp:ztN t=some rz)(hq:∀m' f' c0 c1,Grw m f m' f'->Sl f' c0 rz.Losses->Sl f' c1 rz.Premiums->Q (.agg 2 [c0,c1]) m'):Wc prog tbl 22 [.agg 2 [ca100,ca101]] m Q:=by
 have S0:=hS.st;obtain⟨τ0,_⟩:=zr0;refine w22 ?_;unfold ztN at hp;intro m0 n;obtain⟨o,p,Y,q⟩:=S0.blk n τ0 1;intro m1 r;obtain⟨d,e,s,u⟩:=p.blk r o 2;have a:=q.k s;refine⟨trivial,_,a.bk.rc rfl,?_⟩;obtain⟨Z,w,hp⟩:=zqq hp;refine zv4 (l:=t.Losses) e.pre ha100 w fun m4 aa g y z=>?_;obtain⟨h,c⟩:=e.callG y d;have A:=a.k c;have B:=u.k c;refine⟨_,rfl,trivial,_,A.bk.rc rfl,(by rw[show cmC _=true from zoV (ha101.noFn)]; exact(a.bk.rc rfl)),?_⟩;obtain⟨ba,D,hp⟩:=zqq hp;refine zv4 (l:=t.Premiums) h.pre (ha101.sub c.fs) D fun m8 F i G I=>?_;obtain⟨J,j⟩:=h.callG G d;have N:=B.k j;refine⟨_,rfl,?_⟩;obtain⟨O,P,S,ca,T⟩:=N.sto J [g,i];refine⟨O,P,?_⟩;refine⟨_,_,T.bk.ra,?_⟩;obtain rfl:=oi hp;exact hq _ F g i S.grw (z.sub j.fs) I
theorem zv9{r:Rl}{z:Zn}{ca105 ca201:C}{m f:M}{Q:V->M->Prop}{rz:Bool}(hS:Pre f m)(ha105:Sl f ca105 r.Price)(ha201:Sl f ca201 z.Years)(hp:ztO r z=some rz)(hq:∀m',Ext m m'->Q (.c (.bool rz)) m'):Wc prog tbl 17 [.agg 6 [Il r.Classes,Il r.Good,Il r.Bad,Il r.Rest,Il r.Fewest,ca105],.agg 2 [Il z.First,ca201]] m Q:=by
 have s:=hS.st;obtain⟨t,_⟩:=zr0;refine w17 ?_;unfold ztO at hp;intro u d;obtain⟨e,g,p,h⟩:=s.blk d t 1;intro w i;obtain⟨q,a,j,l⟩:=g.blk i e 2;have n:=h.k j;refine⟨trivial,_,n.bk.rc rfl,ha105.isSl,?_⟩
 try rw[ha105.slLen]
 refine ifd hp (fun o hp=>?_) fun o hp=>?_; rotate_left
 ·obtain rfl:=oi hp;exact hq _ a.ext'
 refine⟨trivial,_,l.bk.rc rfl,ha201.isSl,?_⟩
 try rw[ha201.slLen]
 obtain rfl:=oi hp;exact hq _ a.ext'
theorem zwa{r:Rl}{z:Zn}{ca105 ca201:C}{m f:M}{Q:V->M->Prop}{rz:Int}(hS:Pre f m)(ha105:Sl f ca105 r.Price)(ha201:Sl f ca201 z.Years)(hp:ztP r z=some rz)(hq:∀m',Ext m m'->Q (.c (Il rz)) m'):Wc prog tbl 24 [.agg 6 [Il r.Classes,Il r.Good,Il r.Bad,Il r.Rest,Il r.Fewest,ca105],.agg 2 [Il z.First,ca201]] m Q:=by
 have y:=hS.st;obtain⟨A,_⟩:=zr0;refine w24 ?_;unfold ztP at hp;intro D d;obtain⟨e,g,t,h⟩:=y.blk d A 1;intro F i;obtain⟨j,a,l,n⟩:=g.blk i e 2;have o:=h.k l;refine⟨_,_,_,_,_,_,o.bk.ra,_,_,n.bk.ra,?_⟩;obtain⟨u,p,hp⟩:=zqq hp;refine zus (r:=r) (z:=z) a.pre ha105 ha201 p fun B q=>?_;obtain⟨s,w⟩:=a.call q j;refine⟨_,rfl,?_⟩;obtain rfl:=oi hp;exact hq _ s.ext'
theorem zwb{low:Int}{high:Int}{m f:M}{Q:V->M->Prop}{rz:Rg}(hS:Pre f m)(hp:ztQ low high=some rz)(hq:∀m',Ext m m'->Q (.agg 2 [Il rz.Lo,Il rz.Hi]) m'):Wc prog tbl 48 [.c (Il low),.c (Il high)] m Q:=by
 have p:=hS.st;obtain⟨q,_⟩:=zr0;refine w48 ?_;unfold ztQ at hp;intro r a;obtain⟨l,d,n,e⟩:=p.blk a q 1;obtain⟨g,h,i,o,j⟩:=e.sto d [Il low,Il high];refine⟨g,h,?_⟩;refine⟨_,_,j.bk.ra,?_⟩;obtain rfl:=oi hp;exact hq _ i.ext'
theorem zwc{m f:M}{Q:V->M->Prop}{rz:Rl}(hS:Pre f m)(hp:ztR=some rz)(hq:∀m' f' c5,Grw m f m' f'->Sl f' c5 rz.Price->Q (.agg 6 [Il rz.Classes,Il rz.Good,Il rz.Bad,Il rz.Rest,Il rz.Fewest,c5]) m'):Wc prog tbl 42 [] m Q:=by
 have G:=hS.st;obtain⟨I,_⟩:=zr0;refine w42 ?_;unfold ztR at hp;intro A d;obtain⟨e,g,B,h⟩:=G.blk d I 1;intro J i;obtain⟨D,j,n,o⟩:=g.blk i e 2;have p:=h.k n;obtain⟨q,r,s,t,u⟩:=p.sto j [(Il (4:Int)),(Il (40:Int)),(Il (120:Int)),(Il (1:Int)),(Il (5:Int)),(C.sl A.nxt 0 4 0 (Option.some 4))];have w:=o.k t;refine⟨q,r,?_⟩;refine⟨_,_,_,_,_,_,u.bk.ra,?_⟩;obtain⟨a,y,F,c⟩:=w.freeze s;have z:Sl a (C.sl A.nxt 0 4 0 (Option.some 4)) ([(10:Int),(20:Int),(40:Int),(80:Int)]:List Int):=Bk.sl (α:=Int) (l:=([(10:Int),(20:Int),(40:Int),(80:Int)]:List Int)) c (show Cat (α:=Int) a [(Il (10:Int)),(Il (20:Int)),(Il (40:Int)),(Il (80:Int))] ([(10:Int),(20:Int),(40:Int),(80:Int)]:List Int) from ⟨[(Il (10:Int))],_,rfl,rfl,⟨[(Il (20:Int))],_,rfl,rfl,⟨[(Il (40:Int))],_,rfl,rfl,⟨[(Il (80:Int))],_,rfl,rfl,rfl⟩⟩⟩⟩) rfl rfl _;obtain rfl:=oi hp;exact hq _ a (C.sl A.nxt 0 4 0 (Option.some 4)) y.grw z
theorem zwd{m f:M}{Q:V->M->Prop}{rz:Zn}(hS:Pre f m)(hp:ztS=some rz)(hq:∀m' f' c1,Grw m f m' f'->Sl f' c1 rz.Years->Q (.agg 2 [Il rz.First,c1]) m'):Wc prog tbl 43 [] m Q:=by
 have S0:=hS.st;obtain⟨τ0,_⟩:=zr0;refine w43 ?_;unfold ztS at hp;intro m0 I;obtain⟨a,r,Wa,J⟩:=S0.blk I τ0 1;obtain⟨c,N,hp⟩:=zqq hp;refine zwb (low:=(50:Int)) (high:=(50:Int)) r.pre  N fun m2 O=>?_;obtain⟨s,P⟩:=r.call O a;have S:=J.k P;refine⟨_,_,rfl,?_⟩;obtain⟨d,T,hp⟩:=zqq hp;refine zwb (low:=(100:Int)) (high:=(102:Int)) s.pre  T fun m6 Y=>?_;obtain⟨t,Z⟩:=s.call Y a;have aa:=S.k Z;refine⟨_,_,rfl,?_⟩;obtain⟨e,ba,hp⟩:=zqq hp;refine zwb (low:=(130:Int)) (high:=(131:Int)) t.pre  ba fun bb ca=>?_;obtain⟨u,da⟩:=t.call ca a;have ea:=aa.k da;refine⟨_,_,rfl,?_⟩;obtain⟨g,fa,hp⟩:=zqq hp;refine zwb (low:=(108:Int)) (high:=(109:Int)) u.pre  fa fun cb ga=>?_;obtain⟨w,ha⟩:=u.call ga a;have ia:=ea.k ha;refine⟨_,_,rfl,?_⟩;obtain⟨h,ja,hp⟩:=zqq hp;refine zwb (low:=(10:Int)) (high:=(10:Int)) w.pre  ja fun db ka=>?_;obtain⟨y,la⟩:=w.call ka a;have ma:=ia.k la;refine⟨_,_,rfl,?_⟩;obtain⟨i,na,hp⟩:=zqq hp;refine zwb (low:=(100:Int)) (high:=(100:Int)) y.pre  na fun eb oa=>?_;obtain⟨z,pa⟩:=y.call oa a;have qa:=ma.k pa;refine⟨_,_,rfl,?_⟩;obtain⟨j,sa,hp⟩:=zqq hp;refine zwb (low:=(30:Int)) (high:=(30:Int)) z.pre  sa fun fb ta=>?_;obtain⟨A,ua⟩:=z.call ta a;have va:=qa.k ua;refine⟨_,_,rfl,?_⟩;obtain⟨n,wa,hp⟩:=zqq hp;refine zwb (low:=(100:Int)) (high:=(100:Int)) A.pre  wa fun gb xa=>?_;obtain⟨B,ya⟩:=A.call xa a;have za:=va.k ya;refine⟨_,_,rfl,?_⟩;obtain⟨o,Aa,hp⟩:=zqq hp;refine zwb (low:=(39:Int)) (high:=(41:Int)) B.pre  Aa fun hb Ba=>?_
 obtain⟨D,Ca⟩:=B.call Ba a;have Da:=za.k Ca;refine⟨_,_,rfl,?_⟩;obtain⟨p,Ea,hp⟩:=zqq hp;refine zwb (low:=(100:Int)) (high:=(100:Int)) D.pre  Ea fun F Fa=>?_;obtain⟨Ga,Ha⟩:=D.call Fa a;have Ia:=Da.k Ha;refine⟨_,_,rfl,?_⟩;intro ib Ja;obtain⟨Xa,Ka,La,Ma⟩:=Ga.blk Ja a 2;have Na:=Ia.k La;obtain⟨Oa,Pa,Qa,Ra,Sa⟩:=Na.sto Ka [(Il (1:Int)),(C.sl F.nxt 0 5 0 (Option.some 5))];have Ta:=Ma.k Ra;refine⟨Oa,Pa,?_⟩;refine⟨_,_,Sa.bk.ra,?_⟩;obtain⟨q,Ua,Ya,G⟩:=Ta.freeze Qa;have Va:Sl q (C.sl F.nxt 0 5 0 (Option.some 5)) ([({ Losses:=c,Premiums:=d,Parcels:=(9:Int),Exempt:=false }:Yr),({ Losses:=e,Premiums:=g,Parcels:=(9:Int),Exempt:=false }:Yr),({ Losses:=h,Premiums:=i,Parcels:=(3:Int),Exempt:=false }:Yr),({ Losses:=j,Premiums:=n,Parcels:=(9:Int),Exempt:=false }:Yr),({ Losses:=o,Premiums:=p,Parcels:=(9:Int),Exempt:=false }:Yr)]:List Yr):=Bk.sl (α:=Yr) (l:=([({ Losses:=c,Premiums:=d,Parcels:=(9:Int),Exempt:=false }:Yr),({ Losses:=e,Premiums:=g,Parcels:=(9:Int),Exempt:=false }:Yr),({ Losses:=h,Premiums:=i,Parcels:=(3:Int),Exempt:=false }:Yr),({ Losses:=j,Premiums:=n,Parcels:=(9:Int),Exempt:=false }:Yr),({ Losses:=o,Premiums:=p,Parcels:=(9:Int),Exempt:=false }:Yr)]:List Yr)) G (show Cat (α:=Yr) q [Il c.Lo,Il c.Hi,Il d.Lo,Il d.Hi,(Il (9:Int)),.bool false,Il e.Lo,Il e.Hi,Il g.Lo,Il g.Hi,(Il (9:Int)),.bool false,Il h.Lo,Il h.Hi,Il i.Lo,Il i.Hi,(Il (3:Int)),.bool false,Il j.Lo,Il j.Hi,Il n.Lo,Il n.Hi,(Il (9:Int)),.bool false,Il o.Lo,Il o.Hi,Il p.Lo,Il p.Hi,(Il (9:Int)),.bool false] ([({ Losses:=c,Premiums:=d,Parcels:=(9:Int),Exempt:=false }:Yr),({ Losses:=e,Premiums:=g,Parcels:=(9:Int),Exempt:=false }:Yr),({ Losses:=h,Premiums:=i,Parcels:=(3:Int),Exempt:=false }:Yr),({ Losses:=j,Premiums:=n,Parcels:=(9:Int),Exempt:=false }:Yr),({ Losses:=o,Premiums:=p,Parcels:=(9:Int),Exempt:=false }:Yr)]:List Yr) from ⟨[Il c.Lo,Il c.Hi,Il d.Lo,Il d.Hi,(Il (9:Int)),.bool false],_,rfl,rfl,⟨[Il e.Lo,Il e.Hi,Il g.Lo,Il g.Hi,(Il (9:Int)),.bool false],_,rfl,rfl,⟨[Il h.Lo,Il h.Hi,Il i.Lo,Il i.Hi,(Il (3:Int)),.bool false],_,rfl,rfl,⟨[Il j.Lo,Il j.Hi,Il n.Lo,Il n.Hi,(Il (9:Int)),.bool false],_,rfl,rfl,⟨[Il o.Lo,Il o.Hi,Il p.Lo,Il p.Hi,(Il (9:Int)),.bool false],_,rfl,rfl,rfl⟩⟩⟩⟩⟩) rfl rfl _
 obtain rfl:=oi hp;exact hq _ q (C.sl F.nxt 0 5 0 (Option.some 5)) Ua.grw Va
theorem zwe{m f:M}{Q:V->M->Prop}{rz:Bool}(hS:Pre f m)(hp:ztT=some rz)(hq:∀m',Ext m m'->Q (.c (.bool rz)) m'):Wc prog tbl 18 [] m Q:=by
 have S0:=hS.st;obtain⟨g,_⟩:=zr0;refine w18 ?_;unfold ztT at hp;obtain⟨Ga,Ha,hp⟩:=zqq hp;refine zwc S0.pre  Ha fun m1 Td Ud Ia Ja=>?_;obtain⟨F,Vd⟩:=S0.callG Ia g;refine⟨_,_,_,_,_,_,rfl,?_⟩;obtain⟨Ka,La,hp⟩:=zqq hp;refine zwd F.pre  La fun m9 Wd Xd Ma Na=>?_;obtain⟨G,Oa⟩:=F.callG Ma g;refine⟨_,_,rfl,?_⟩;obtain⟨Pa,Qa,hp⟩:=zqq hp;refine zvZ (r:=Ga) (z:=Ka) (year:=(3:Int)) G.pre (Ja.sub Oa.fs) Na Qa fun hf Yd Zd Ra Sa=>?_;obtain⟨I,ae⟩:=G.callG Ra g;refine⟨_,_,rfl,?_⟩;obtain⟨Ta,Ua,hp⟩:=zqq hp;refine zwc I.pre  Ua fun jf be ce Va Wa=>?_;obtain⟨J,Xa⟩:=I.callG Va g;refine⟨_,_,_,_,_,_,rfl,?_⟩;obtain⟨Ya,Za,hp⟩:=zqq hp;refine zwd J.pre  Za fun kf de ee ab bb=>?_;obtain⟨N,O⟩:=J.callG ab g;refine⟨_,_,rfl,?_⟩;obtain⟨cb,db,hp⟩:=zqq hp;refine zvZ (r:=Ta) (z:=Ya) (year:=(4:Int)) N.pre (Wa.sub O.fs) bb db fun lf fe ge eb fb=>?_;obtain⟨P,gb⟩:=N.callG eb g;refine⟨_,_,rfl,?_⟩;obtain⟨hb,ib,hp⟩:=zqq hp;refine zwc P.pre  ib fun mf he ie jb kb=>?_;obtain⟨S,T⟩:=P.callG jb g;refine⟨_,_,_,_,_,_,rfl,?_⟩;obtain⟨mb,ob,hp⟩:=zqq hp;refine zwd S.pre  ob fun nf je ke pb qb=>?_;obtain⟨Y,q⟩:=S.callG pb g;refine⟨_,_,rfl,?_⟩;obtain⟨me,rb,hp⟩:=zqq hp;refine zv0 (r:=hb) (z:=mb) (year:=(0:Int)) Y.pre (kb.sub q.fs) qb rb fun pf sb=>?_;obtain⟨Z,oe⟩:=Y.call sb g;refine⟨_,_,rfl,?_⟩;obtain⟨tb,ub,hp⟩:=zqq hp;refine zwc Z.pre  ub fun qf pe qe vb wb=>?_;obtain⟨aa,ba⟩:=Z.callG vb g;refine⟨_,_,_,_,_,_,rfl,?_⟩;obtain⟨xb,yb,hp⟩:=zqq hp;refine zwd aa.pre  yb fun rf re se zb Ab=>?_
 obtain⟨ca,s⟩:=aa.callG zb g;refine⟨_,_,rfl,?_⟩;obtain⟨te,Bb,hp⟩:=zqq hp;refine zv0 (r:=tb) (z:=xb) (year:=(3:Int)) ca.pre (wb.sub s.fs) Ab Bb fun sf Cb=>?_;obtain⟨da,ue⟩:=ca.call Cb g;refine⟨_,_,rfl,?_⟩;obtain⟨Db,Eb,hp⟩:=zqq hp;refine zwc da.pre  Eb fun tf ve we Fb Gb=>?_;obtain⟨ea,fa⟩:=da.callG Fb g;refine⟨_,_,_,_,_,_,rfl,?_⟩;obtain⟨Hb,Ib,hp⟩:=zqq hp;refine zwd ea.pre  Ib fun uf xe ye Jb Kb=>?_;obtain⟨ga,t⟩:=ea.callG Jb g;refine⟨_,_,rfl,?_⟩;obtain⟨ha,Mb,hp⟩:=zqq hp;refine zv1 (r:=Db) (z:=Hb) ga.pre (Gb.sub t.fs) Kb Mb fun vf Nb=>?_;obtain⟨Ob,ze⟩:=ga.call Nb g;refine⟨_,_,_,rfl,?_⟩;intro wf Pb;obtain⟨e,Qb,Ae,Rb⟩:=Ob.blk Pb g 1;obtain⟨Sb,Tb,ia,Be,Ub⟩:=Rb.sto Qb [Il ha.1.Lo,Il ha.1.Hi];refine⟨Sb,Tb,?_⟩;obtain⟨Vb,Wb,hp⟩:=zqq hp;refine zwc ia.pre  Wb fun xf Ce De Xb Yb=>?_;obtain⟨ja,u⟩:=ia.callG Xb e;have Zb:=Ub.k u;refine⟨_,_,_,_,_,_,rfl,?_⟩;obtain⟨ac,bc,hp⟩:=zqq hp;refine zwd ja.pre  bc fun yf Ee Fe cc dc=>?_;obtain⟨ka,j⟩:=ja.callG cc e;have ec:=Zb.k j;refine⟨_,_,rfl,?_⟩;obtain⟨fc,gc,hp⟩:=zqq hp;refine zv2 (r:=Vb) (z:=ac) ka.pre (Yb.sub j.fs) dc gc fun zf Ge He hc ic=>?_;obtain⟨la,w⟩:=ka.callG hc e;have jc:=ec.k w;refine⟨_,_,rfl,?_⟩;obtain⟨kc,nc,hp⟩:=zqq hp;refine zwc la.pre  nc fun Ye Ie Je oc pc=>?_;obtain⟨ma,n⟩:=la.callG oc e;have qc:=jc.k n;refine⟨_,_,_,_,_,_,rfl,?_⟩;obtain⟨sc,tc,hp⟩:=zqq hp;refine zwd ma.pre  tc fun Ze Ke Me uc vc=>?_;obtain⟨na,h⟩:=ma.callG uc e;have wc:=qc.k h;refine⟨_,_,rfl,?_⟩;obtain⟨xc,yc,hp⟩:=zqq hp
 refine zv3 (r:=kc) (z:=sc) (class_:=(3:Int)) na.pre (pc.sub h.fs) vc yc fun Od Ne Oe zc Ac=>?_;obtain⟨oa,o⟩:=na.callG zc e;have Bc:=wc.k o;refine⟨_,_,rfl,?_⟩;refine ifd hp (fun Cc hp=>?_) fun Cc hp=>?_; rotate_left
 ·obtain rfl:=oi hp;exact hq _ oa.ext'
 intro af Dc;obtain⟨pa,Ec,Fc,Gc⟩:=oa.blk Dc e 2;have Hc:=Bc.k Fc;obtain⟨qa,sa,i,Ca⟩:=Gc.freeze Ec;have Ic:=Hc.k i;have Jc:Sl qa (C.sl Od.nxt 0 2 0 (Option.some 2)) ([(0:Int),(2:Int)]:List Int):=Bk.sl (α:=Int) (l:=([(0:Int),(2:Int)]:List Int)) Ca (show Cat (α:=Int) qa [Il 0,(Il (2:Int))] ([(0:Int),(2:Int)]:List Int) from ⟨[Il 0],_,rfl,rfl,⟨[(Il (2:Int))],_,rfl,rfl,rfl⟩⟩) rfl rfl _;obtain⟨Pe,Kc,hp⟩:=zqq hp;refine zuu (a:=Pa.1) (b:=([(0:Int),(2:Int)]:List Int)) sa.pre (Sa.sub (Sub.trans (Sub.trans (Sub.trans (Sub.trans (Sub.trans (Sub.trans (Sub.trans (Sub.trans (Sub.trans (Sub.trans (Sub.trans (Sub.trans (Sub.trans (Sub.trans (Sub.trans Xa.fs O.fs) gb.fs) T.fs) q.fs) ba.fs) s.fs) fa.fs) t.fs) u.fs) j.fs) w.fs) n.fs) h.fs) o.fs) i.fs)) Jc Kc fun Pd Nc=>?_;obtain⟨y,Oc⟩:=sa.call Nc pa;have Pc:=Ic.k Oc;refine⟨_,rfl,?_⟩;refine zqU hp (fun Qc hp=>?_) fun Qc hp=>?_; rotate_left
 ·obtain rfl:=oi hp;exact hq _ y.ext'
 refine ifd hp (fun Rc hp=>?_) fun Rc hp=>?_; rotate_left
 ·obtain rfl:=oi hp;exact hq _ y.ext'
 intro bf Tc;obtain⟨A,Uc,Vc,Xc⟩:=y.blk Tc pa 3;have Yc:=Pc.k Vc;obtain⟨ta,ua,p,Da⟩:=Xc.freeze Uc;have Zc:=Yc.k p;have ad:Sl ta (C.sl Pd.nxt 0 3 0 (Option.some 3)) ([(0:Int),(1:Int),(2:Int)]:List Int):=Bk.sl (α:=Int) (l:=([(0:Int),(1:Int),(2:Int)]:List Int)) Da (show Cat (α:=Int) ta [Il 0,(Il (1:Int)),(Il (2:Int))] ([(0:Int),(1:Int),(2:Int)]:List Int) from ⟨[Il 0],_,rfl,rfl,⟨[(Il (1:Int))],_,rfl,rfl,⟨[(Il (2:Int))],_,rfl,rfl,rfl⟩⟩⟩) rfl rfl _;obtain⟨Qe,bd,hp⟩:=zqq hp;refine zuu (a:=cb.1) (b:=([(0:Int),(1:Int),(2:Int)]:List Int)) ua.pre (fb.sub (Sub.trans (Sub.trans (Sub.trans (Sub.trans (Sub.trans (Sub.trans (Sub.trans (Sub.trans (Sub.trans (Sub.trans (Sub.trans (Sub.trans (Sub.trans T.fs q.fs) ba.fs) s.fs) fa.fs) t.fs) u.fs) j.fs) w.fs) n.fs) h.fs) o.fs) i.fs) p.fs)) ad bd fun cf cd=>?_;obtain⟨d,dd⟩:=ua.call cd A;have va:=Zc.k dd;refine⟨_,rfl,?_⟩;refine zqU hp (fun ed hp=>?_) fun ed hp=>?_; rotate_left
 ·obtain rfl:=oi hp;exact hq _ d.ext'
 refine ifd hp (fun fd hp=>?_) fun fd hp=>?_; rotate_left
 ·obtain rfl:=oi hp;exact hq _ d.ext'
 refine ifd hp (fun hd hp=>?_) fun hd hp=>?_; rotate_left
 ·obtain rfl:=oi hp;exact hq _ d.ext'
 refine ifd hp (fun id hp=>?_) fun id hp=>?_; rotate_left
 ·obtain rfl:=oi hp;exact hq _ d.ext'
 refine ifd hp (fun jd hp=>?_) fun jd hp=>?_; rotate_left
 ·obtain rfl:=oi hp;exact hq _ d.ext'
 refine ifd hp (fun kd hp=>?_) fun kd hp=>?_; rotate_left
 ·obtain rfl:=oi hp;exact hq _ d.ext'
 refine⟨_,_,va.bk.ra,?_⟩;obtain⟨Re,ld,hp⟩:=zqq hp;refine zwb (low:=(10:Int)) (high:=(40:Int)) d.pre  ld fun Qd md=>?_;obtain⟨B,nd⟩:=d.call md A;have od:=va.k nd;refine⟨_,_,rfl,(od.bk.ra),?_⟩;refine gdi hp fun pd hp=>?_;refine gdi hp fun qd hp=>?_;refine gdi hp fun sd hp=>?_;refine gdi hp fun td hp=>?_;refine zqU hp (fun ud hp=>?_) fun ud hp=>?_; rotate_left
 ·obtain rfl:=oi hp;exact hq _ B.ext'
 refine ifd hp (fun vd hp=>?_) fun vd hp=>?_; rotate_left
 ·obtain rfl:=oi hp;exact hq _ B.ext'
 intro df wd;obtain⟨wa,xd,Se,yd⟩:=B.blk wd A 4;obtain⟨xa,ya,za,Ea⟩:=yd.freeze xd;have zd:Sl xa (C.sl Qd.nxt 0 2 0 (Option.some 2)) ([(1:Int),(4:Int)]:List Int):=Bk.sl (α:=Int) (l:=([(1:Int),(4:Int)]:List Int)) Ea (show Cat (α:=Int) xa [(Il (1:Int)),(Il (4:Int))] ([(1:Int),(4:Int)]:List Int) from ⟨[(Il (1:Int))],_,rfl,rfl,⟨[(Il (4:Int))],_,rfl,rfl,rfl⟩⟩) rfl rfl _;obtain⟨Te,Ad,hp⟩:=zqq hp;refine zuu (a:=fc.1) (b:=([(1:Int),(4:Int)]:List Int)) ya.pre (ic.sub (Sub.trans (Sub.trans (Sub.trans (Sub.trans (Sub.trans n.fs h.fs) o.fs) i.fs) p.fs) za.fs)) zd Ad fun Rd Bd=>?_;obtain⟨D,Ue⟩:=ya.call Bd wa;refine⟨_,rfl,?_⟩;refine zqU hp (fun Cd hp=>?_) fun Cd hp=>?_; rotate_left
 ·obtain rfl:=oi hp;exact hq _ D.ext'
 refine ifd hp (fun Dd hp=>?_) fun Dd hp=>?_; rotate_left
 ·obtain rfl:=oi hp;exact hq _ D.ext'
 intro ef Ed;obtain⟨Fd,Gd,Ve,Hd⟩:=D.blk Ed wa 5;obtain⟨Aa,Ba,Id,Fa⟩:=Hd.freeze Gd;have Jd:Sl Aa (C.sl Rd.nxt 0 1 0 (Option.some 1)) ([(0:Int)]:List Int):=Bk.sl (α:=Int) (l:=([(0:Int)]:List Int)) Fa (show Cat (α:=Int) Aa [Il 0] ([(0:Int)]:List Int) from ⟨[Il 0],_,rfl,rfl,rfl⟩) rfl rfl _;obtain⟨We,Ld,hp⟩:=zqq hp;refine zuu (a:=xc.1) (b:=([(0:Int)]:List Int)) Ba.pre (Ac.sub (Sub.trans (Sub.trans (Sub.trans i.fs p.fs) za.fs) Id.fs)) Jd Ld fun gf Md=>?_;obtain⟨Nd,Xe⟩:=Ba.call Md Fd;refine⟨_,rfl,?_⟩;obtain rfl:=oi hp;exact hq _ Nd.ext'
theorem zwf{r:Rl}{z:Zn}{ca105 ca201:C}{m f:M}{Q:V->M->Prop}{rz:Bool}(hS:Pre f m)(ha105:Sl f ca105 r.Price)(ha201:Sl f ca201 z.Years)(hp:ztU r z=some rz)(hq:∀m',Ext m m'->Q (.c (.bool rz)) m'):Wc prog tbl 44 [.agg 6 [Il r.Classes,Il r.Good,Il r.Bad,Il r.Rest,Il r.Fewest,ca105],.agg 2 [Il z.First,ca201]] m Q:=by
 have N:=hS.st;obtain⟨O,_⟩:=zr0;refine w44 ?_;unfold ztU at hp;intro T j;obtain⟨l,n,F,o⟩:=N.blk j O 1;intro Y p;obtain⟨d,e,q,g⟩:=n.blk p l 2;have h:=o.k q;refine⟨_,_,_,_,_,_,h.bk.ra,_,_,g.bk.ra,?_⟩;obtain⟨G,s,hp⟩:=zqq hp;refine zv9 (r:=r) (z:=z) e.pre ha105 ha201 s fun P t=>?_;obtain⟨a,i⟩:=e.call t d;have u:=h.k i;have w:=g.k i;refine⟨_,rfl,?_⟩;refine zqU hp (fun y hp=>?_) fun y hp=>?_; rotate_left
 ·obtain rfl:=oi hp;exact hq _ a.ext'
 refine⟨_,_,_,_,_,_,u.bk.ra,_,_,w.bk.ra,?_⟩;obtain⟨I,A,hp⟩:=zqq hp;refine zwa (r:=r) (z:=z) a.pre ha105 ha201 A fun S B=>?_;obtain⟨D,J⟩:=a.call B d;refine⟨_,rfl,?_⟩;obtain rfl:=oi hp;exact hq _ D.ext'
theorem zwg{z:Zn}{words:List W8}{ca101 ca200:C}{m f:M}{Q:V->M->Prop}{rz:Tr}(hS:Pre f m)(ha101:Sl f ca101 z.Years)(ha200:Sl f ca200 words)(hp:ztW z words=some rz)(hq:∀m' f' c0 c1,Grw m f m' f'->Sl f' c0 rz.Losses->Sl f' c1 rz.Premiums->Q (.agg 2 [c0,c1]) m'):Wc prog tbl 45 [.agg 2 [Il z.First,ca101],.c ca200] m Q:=by
 have S0:=hS.st;obtain⟨τ0,_⟩:=zr0;refine w45 ?_;unfold ztW at hp;intro m0 Oa;obtain⟨Pa,Qa,Md,Ra⟩:=S0.blk Oa τ0 1;intro m1 Sa;obtain⟨Ta,Ua,Va,Wa⟩:=Qa.blk Sa Pa 2;have Xa:=Ra.k Va;intro m2 Ya;obtain⟨Za,ab,za,q⟩:=Ua.blk Ya Ta 3;have j:=Xa.k za;have r:=Wa.k za;intro R3 Id
 have hgo:∀(J:Nat) (x4:Int) (s:C) (l:C) (N:List Int) (O:List Int) (m5:M) (i:Nat->Nat),St (Fm.of m) f f m5->Lb (Fm.of m) f i m5 1 m.nxt 2 [Il z.First,ca101]->Lb (Fm.of m) f i m5 2 m0.nxt 2 [.sl0,.sl0]->Lb (Fm.of m) f i m5 3 m1.nxt 2 [s,l]->Ow (Fm.of m) f i m5 4 s N->Ow (Fm.of m) f i m5 5 l O->ztV z words J N O x4=some rz->R3 [.c (Il x4)] m5:=by
  intro J
  induction J with
  | zero=>intro x4 s l N O m5 i n j r q h d hp; cases hp
  | succ J La=>
   intro x4 s l N O m5 i n j r q h d hp;refine Id _ _ ?_;rw[ztV] at hp;refine⟨trivial,_,j.bk.rc rfl,ha101.isSl,?_⟩
   try rw[ha101.slLen]
   refine ifd hp (fun cb hp=>?_) fun cb hp=>?_; rotate_left
   ·refine⟨_,_,q.bk.ra,?_⟩;obtain⟨db,eb,fb,Aa,gb⟩:=r.sto n [s,l];have h:=h.k Aa;have d:=d.k Aa;refine⟨db,eb,?_⟩;refine⟨_,_,gb.bk.ra,?_⟩;obtain⟨Nd,hb,ib,jb⟩:=h.freeze fb;have d:=d.k ib;obtain⟨kb,mb,ob,pb⟩:=d.freeze hb;obtain rfl:=oi hp;exact hq _ kb s l mb.grw (jb.sub ob.fs) pb
   refine⟨ha200.isSl,?_⟩
   try rw[ha200.slLen]
   refine ifd hp (fun qb hp=>?_) fun qb hp=>?_; rotate_left
   ·refine⟨trivial,_,j.bk.rc rfl,?_⟩;obtain⟨e,ea,hp⟩:=zqq hp;obtain⟨Jd,Ma,ta,ea⟩:=zqk ea;obtain⟨_,rb⟩:=zr5 ha101 ea;refine⟨Jd,Ma,(by first|exact ta|(rw[ha101.slLen];exact ta)),_,_,_,_,_,_,(rb _ n.sub).1,?_⟩;intro Zd sb;obtain⟨Od,tb,t,ub⟩:=n.blk sb i 7;have vb:=j.k t;have wb:=r.k t;have xb:=q.k t;have h:=h.k t;have d:=d.k t;obtain⟨yb,zb,Ab,u,P⟩:=ub.sto tb [Il e.Losses.Lo,Il e.Losses.Hi,Il e.Premiums.Lo,Il e.Premiums.Hi,Il e.Parcels,.bool e.Exempt];have Bb:=vb.k u;have Cb:=wb.k u;have fa:=xb.k u;have h:=h.k u;have d:=d.k u;refine⟨yb,zb,?_⟩;refine⟨trivial,_,fa.bk.rc rfl,trivial,trivial,_,P.bk.rc rfl,trivial,trivial,_,P.bk.rc rfl,trivial,trivial,_,P.bk.rc rfl,?_⟩;refine gdi hp fun Db hp=>?_;refine gdi hp fun Eb hp=>?_;refine gdi hp fun Fb hp=>?_;refine gdi hp fun Gb hp=>?_;refine gdi hp fun Hb hp=>?_;refine gdi hp fun Ib hp=>?_;obtain⟨Jb,hp⟩:=zqr hp;intro ae Ba;refine⟨(by rw[show cmC _=true from zoV (h.noFn)]; exact(fa.bk.ext (Bk.new Ba).2).rc rfl),?_⟩;obtain⟨S,Kb,Pd,Mb,Nb,w,o⟩:=h.app' zuo Ab (a:=(e.Losses.Lo+((0:Int) % ((e.Losses.Hi - e.Losses.Lo)+(1:Int))))) (show Rp.rep (α:=Int) f _ (e.Losses.Lo+((0:Int) % ((e.Losses.Hi - e.Losses.Lo)+(1:Int)))) from rfl) Jb Ba;have Ob:=Bb.k w;have Pb:=Cb.k w;have Qb:=fa.k w;have Rb:=P.k w;have d:=d.k w;refine⟨S,Kb,Mb,?_⟩;refine⟨trivial,?_⟩;obtain⟨Sb,Tb,Ub,y,A⟩:=Qb.sto1 Nb 0 S (by simp) rfl
    replace A:Lb _ _ _ _ _ _ _ [S,l]:=A
    have Vb:=Ob.k y;have Wb:=Pb.k y;have ga:=Rb.k y;have d:=d.k y;have o:=o.k y;refine⟨Sb,Tb,?_⟩;refine⟨trivial,_,A.bk.rc rfl,trivial,trivial,_,ga.bk.rc rfl,trivial,trivial,_,ga.bk.rc rfl,trivial,trivial,_,ga.bk.rc rfl,?_⟩;refine gdi hp fun Xb hp=>?_;refine gdi hp fun Yb hp=>?_;refine gdi hp fun Zb hp=>?_;refine gdi hp fun ac hp=>?_;refine gdi hp fun bc hp=>?_;refine gdi hp fun cc hp=>?_;obtain⟨dc,hp⟩:=zqr hp;intro be Ca;refine⟨(by rw[show cmC _=true from zoV (d.noFn)]; exact(A.bk.ext (Bk.new Ca).2).rc rfl),?_⟩;obtain⟨ha,ec,fc,gc,hc,T,ia⟩:=d.app' zuo Ub (a:=(e.Premiums.Lo+((0:Int) % ((e.Premiums.Hi - e.Premiums.Lo)+(1:Int))))) (show Rp.rep (α:=Int) f _ (e.Premiums.Lo+((0:Int) % ((e.Premiums.Hi - e.Premiums.Lo)+(1:Int)))) from rfl) dc Ca;have ic:=Vb.k T;have jc:=Wb.k T;have kc:=A.k T;have o:=o.k T;refine⟨ha,ec,gc,?_⟩;refine⟨trivial,?_⟩;obtain⟨nc,oc,pc,Y,ja⟩:=kc.sto1 hc 1 ha (by simp) rfl
    replace ja:Lb _ _ _ _ _ _ _ [S,ha]:=ja
    have qc:=ic.k Y;have sc:=jc.k Y;have o:=o.k Y;have ia:=ia.k Y;refine⟨nc,oc,?_⟩;refine gdi hp fun tc hp=>?_;exact La _ _ _ _ _ _ fc pc qc sc ja o ia hp
   refine gdi hp fun uc hp=>?_;refine gdi hp fun vc hp=>?_;obtain⟨wc,hp⟩:=zqr hp;refine⟨wc,ha200.isSl,?_⟩;refine gdi hp fun xc hp=>?_;obtain⟨Da,hp⟩:=zqr hp;refine⟨(by first|exact Da|(rw[ha200.slLen];exact Da)),?_⟩;obtain⟨Ea,hp⟩:=zqr hp;refine⟨(by first|exact Ea|(rw[ha200.slLen];exact Ea)),?_⟩;obtain⟨Fa,ka,hp⟩:=zqq hp;obtain⟨n7,ua,va,ka⟩:=zqk ka;refine⟨n7,(by first|exact ua|(rw[ha200.slLen];exact ua)),(by first|exact va|(rw[ha200.slLen];exact va)),_,(zr9 ha200 ka n.sub),?_⟩;refine gdi hp fun yc hp=>?_;refine gdi hp fun zc hp=>?_;refine gdi hp fun Ac hp=>?_;obtain⟨Bc,hp⟩:=zqr hp;refine⟨Bc,ha200.isSl,?_⟩;refine gdi hp fun Cc hp=>?_;obtain⟨Ga,hp⟩:=zqr hp;refine⟨(by first|exact Ga|(rw[ha200.slLen];exact Ga)),?_⟩;obtain⟨Ha,hp⟩:=zqr hp;refine⟨(by first|exact Ha|(rw[ha200.slLen];exact Ha)),?_⟩;obtain⟨Ia,la,hp⟩:=zqq hp;obtain⟨n9,wa,xa,la⟩:=zqk la;refine⟨n9,(by first|exact wa|(rw[ha200.slLen];exact wa)),(by first|exact xa|(rw[ha200.slLen];exact xa)),_,(zr9 ha200 la n.sub),trivial,_,j.bk.rc rfl,?_⟩;obtain⟨g,ma,hp⟩:=zqq hp;obtain⟨Ld,Na,ya,ma⟩:=zqk ma;obtain⟨_,Dc⟩:=zr5 ha101 ma;refine⟨Ld,Na,(by first|exact ya|(rw[ha101.slLen];exact ya)),_,_,_,_,_,_,(Dc _ n.sub).1,?_⟩;intro ce Ec;obtain⟨Qd,Fc,B,Gc⟩:=n.blk Ec i 6;have Hc:=j.k B;have Ic:=r.k B;have Jc:=q.k B;have h:=h.k B;have d:=d.k B;obtain⟨Kc,Nc,Oc,D,Z⟩:=Gc.sto Fc [Il g.Losses.Lo,Il g.Losses.Hi,Il g.Premiums.Lo,Il g.Premiums.Hi,Il g.Parcels,.bool g.Exempt];have Pc:=Hc.k D;have Qc:=Ic.k D;have na:=Jc.k D;have h:=h.k D;have d:=d.k D
   refine⟨Kc,Nc,?_⟩;refine⟨trivial,_,na.bk.rc rfl,trivial,trivial,_,Z.bk.rc rfl,trivial,trivial,_,Z.bk.rc rfl,trivial,trivial,_,Z.bk.rc rfl,?_⟩;refine gdi hp fun Rc hp=>?_;refine gdi hp fun Tc hp=>?_;refine gdi hp fun Uc hp=>?_;refine gdi hp fun Vc hp=>?_;refine gdi hp fun Xc hp=>?_;refine gdi hp fun Yc hp=>?_;obtain⟨Zc,hp⟩:=zqr hp;intro de Ja;refine⟨(by rw[show cmC _=true from zoV (h.noFn)]; exact(na.bk.ext (Bk.new Ja).2).rc rfl),?_⟩;obtain⟨aa,ad,Rd,bd,cd,F,p⟩:=h.app' zuo Oc (a:=(g.Losses.Lo+((zmb .i64 Fa.v) % ((g.Losses.Hi - g.Losses.Lo)+(1:Int))))) (show Rp.rep (α:=Int) f _ (g.Losses.Lo+((zmb .i64 Fa.v) % ((g.Losses.Hi - g.Losses.Lo)+(1:Int)))) from rfl) Zc Ja;have dd:=Pc.k F;have ed:=Qc.k F;have fd:=na.k F;have hd:=Z.k F;have d:=d.k F;refine⟨aa,ad,bd,?_⟩;refine⟨trivial,?_⟩;obtain⟨id,jd,kd,G,I⟩:=fd.sto1 cd 0 aa (by simp) rfl
   replace I:Lb _ _ _ _ _ _ _ [aa,l]:=I
   have ld:=dd.k G;have md:=ed.k G;have oa:=hd.k G;have d:=d.k G;have p:=p.k G;refine⟨id,jd,?_⟩;refine⟨trivial,_,I.bk.rc rfl,trivial,trivial,_,oa.bk.rc rfl,trivial,trivial,_,oa.bk.rc rfl,trivial,trivial,_,oa.bk.rc rfl,?_⟩;refine gdi hp fun nd hp=>?_;refine gdi hp fun od hp=>?_;refine gdi hp fun pd hp=>?_;refine gdi hp fun qd hp=>?_;refine gdi hp fun sd hp=>?_;refine gdi hp fun td hp=>?_;obtain⟨ud,hp⟩:=zqr hp;intro ee Ka;refine⟨(by rw[show cmC _=true from zoV (d.noFn)]; exact(I.bk.ext (Bk.new Ka).2).rc rfl),?_⟩;obtain⟨pa,vd,wd,xd,yd,ba,qa⟩:=d.app' zuo kd (a:=(g.Premiums.Lo+((zmb .i64 Ia.v) % ((g.Premiums.Hi - g.Premiums.Lo)+(1:Int))))) (show Rp.rep (α:=Int) f _ (g.Premiums.Lo+((zmb .i64 Ia.v) % ((g.Premiums.Hi - g.Premiums.Lo)+(1:Int)))) from rfl) ud Ka;have zd:=ld.k ba;have Ad:=md.k ba;have Bd:=I.k ba;have p:=p.k ba;refine⟨pa,vd,xd,?_⟩;refine⟨trivial,?_⟩;obtain⟨Cd,Dd,Ed,ca,sa⟩:=Bd.sto1 yd 1 pa (by simp) rfl
   replace sa:Lb _ _ _ _ _ _ _ [aa,pa]:=sa
   have Fd:=zd.k ca;have Gd:=Ad.k ca;have p:=p.k ca;have qa:=qa.k ca;refine⟨Cd,Dd,?_⟩;refine gdi hp fun Hd hp=>?_;exact La _ _ _ _ _ _ wd Ed Fd Gd sa p qa hp
 exact hgo _ _ _ _ _ _ _ Za ab j r q (Ow.nil _ _ _ _ _) (Ow.nil _ _ _ _ _) hp
theorem zwh{z:Zn}{k:Int}{ca101:C}{m f:M}{Q:V->M->Prop}{rz:Zn}(hS:Pre f m)(ha101:Sl f ca101 z.Years)(hp:ztX z k=some rz)(hq:∀m' f' c1,Grw m f m' f'->Sl f' c1 rz.Years->Q (.agg 2 [Il rz.First,c1]) m'):Wc prog tbl 49 [.agg 2 [Il z.First,ca101],.c (Il k)] m Q:=by
 have S0:=hS.st;obtain⟨τ0,_⟩:=zr0;refine w49 ?_;unfold ztX at hp;intro m0 t;obtain⟨u,w,Ra,y⟩:=S0.blk t τ0 1;intro m1 A;obtain⟨B,D,F,G⟩:=w.blk A u 2;have o:=y.k F;refine⟨_,_,o.bk.ra,?_⟩;intro m4 I;obtain⟨J,N,p,O⟩:=D.blk I B 3;have P:=o.k p;have S:=G.k p;obtain⟨T,Y,Z,q,aa⟩:=O.sto N [Il z.First,ca101];have e:=P.k q;have ba:=S.k q;refine⟨T,Y,?_⟩;intro m6 ca;obtain⟨Sa,da,g,ea⟩:=Z.blk ca J 4;have h:=e.k g;have fa:=ba.k g;have ga:=aa.k g;refine⟨trivial,_,h.bk.rc rfl,(by rw[show cmC _=true from zoV (ha101.noFn)]; exact(e.bk.rc rfl)),?_⟩;obtain⟨Ta,hp⟩:=zqr hp;obtain⟨ha,ia,ja⟩:=ha101.subC (i:=Int.toNat (0:Int)) (j:=Int.toNat k) (by omega) (by omega);refine⟨_,_,rfl,(show k=((Int.toNat k:Nat):Int) by omega),ha,ia,?_⟩;have ka:=Lb.ow0 (α:=Yr) ea;obtain⟨la,hp⟩:=zqr hp;obtain⟨ma,na,Ua,oa,pa,l,qa⟩:=ka.appL zvT da ja la;have sa:=h.k l;have ta:=fa.k l;have ua:=ga.k l;refine⟨ma,na,oa,?_⟩;refine⟨trivial,_,sa.bk.rc rfl,(by rw[show cmC _=true from zoV (ha101.noFn)]; exact(h.bk.rc rfl)),(by rw[show cmC _=true from zoV (ha101.noFn)]; exact(e.bk.rc rfl)),?_⟩;refine gdi hp fun va hp=>?_
 try rw[ha101.slLen]
 obtain⟨Va,hp⟩:=zqr hp;obtain⟨wa,xa,ya⟩:=ha101.subC (i:=Int.toNat (k+1)) (j:=Int.toNat (z.Years.length:Int)) (by omega) (by omega);refine⟨_,_,(show(k+1)=((Int.toNat (k+1):Nat):Int) by omega),rfl,wa,xa,?_⟩;obtain⟨za,hp⟩:=zqr hp;obtain⟨a,Aa,Wa,Ba,Ca,r,d⟩:=qa.appL zvT pa ya za;have Da:=ta.k r;have Ea:=ua.k r;refine⟨a,Aa,Ba,?_⟩;refine⟨trivial,?_⟩;obtain⟨Fa,Ga,Ha,s,n⟩:=Ea.sto1 Ca 1 a (by simp) rfl
 replace n:Lb _ _ _ _ _ _ _ [Il z.First,a]:=n
 have Ia:=Da.k s;have d:=d.k s;refine⟨Fa,Ga,?_⟩;refine⟨_,_,n.bk.ra,?_⟩;obtain⟨Ja,Ka,La,Ma,Na⟩:=Ia.sto Ha [Il z.First,a];have d:=d.k Ma;refine⟨Ja,Ka,?_⟩;refine⟨_,_,Na.bk.ra,?_⟩;obtain⟨Oa,Pa,Xa,Qa⟩:=d.freeze La;obtain rfl:=oi hp;exact hq _ Oa a Pa.grw Qa
def zwi(l:List Int):Option (List Int):=(gd (([]:List Int).length+l.length<=1048576) (some ([]++l)))
def zwj(r:Rl)(z:Zn)(which:Int)(words:List W8):Option (Bool):=((ztU r z).bind fun o=>(if o=true then (if (z.Years.length:Int)=(0:Int) then ((ztT).bind fun p=>(some p)) else (gd ((0:Int)<=(zmb .i64 which)) (gd ((0:Int) < (z.Years.length:Int)) (gd (zl6 .i64 ((zmb .i64 which) % (z.Years.length:Int))) (gd (([]:List Yr).length+z.Years.length<=1048576) ((idx ([]++z.Years) ((zmb .i64 which) % (z.Years.length:Int))).bind fun d=>((ztW ({ First:=z.First,Years:=(([]++z.Years).set (Int.toNat ((zmb .i64 which) % (z.Years.length:Int))) ({ Losses:=d.Losses,Premiums:=d.Premiums,Parcels:=d.Parcels,Exempt:=true }:Yr)) }:Zn) words).bind fun c=>((ztX ({ First:=z.First,Years:=(([]++z.Years).set (Int.toNat ((zmb .i64 which) % (z.Years.length:Int))) ({ Losses:=d.Losses,Premiums:=d.Premiums,Parcels:=d.Parcels,Exempt:=true }:Yr)) }:Zn) ((zmb .i64 which) % (z.Years.length:Int))).bind fun h=>(gd (0<=(0:Int)/\(0:Int)<=((zmb .i64 which) % (z.Years.length:Int))/\((zmb .i64 which) % (z.Years.length:Int))<=(c.Losses.length:Int)) ((zwi ((c.Losses.take (Int.toNat ((zmb .i64 which) % (z.Years.length:Int)))).drop (Int.toNat (0:Int)))).bind fun i=>(gd (zl6 .i64 (((zmb .i64 which) % (z.Years.length:Int))+(1:Int))) (gd (0<=(((zmb .i64 which) % (z.Years.length:Int))+(1:Int))/\(((zmb .i64 which) % (z.Years.length:Int))+(1:Int))<=(c.Losses.length:Int)/\(c.Losses.length:Int)<=(c.Losses.length:Int)) (gd (i.length+((c.Losses.take (Int.toNat (c.Losses.length:Int))).drop (Int.toNat (((zmb .i64 which) % (z.Years.length:Int))+(1:Int)))).length<=1048576) (gd (0<=(0:Int)/\(0:Int)<=((zmb .i64 which) % (z.Years.length:Int))/\((zmb .i64 which) % (z.Years.length:Int))<=(c.Premiums.length:Int)) ((zwi ((c.Premiums.take (Int.toNat ((zmb .i64 which) % (z.Years.length:Int)))).drop (Int.toNat (0:Int)))).bind fun j=>(gd (zl6 .i64 (((zmb .i64 which) % (z.Years.length:Int))+(1:Int))) (gd (0<=(((zmb .i64 which) % (z.Years.length:Int))+(1:Int))/\(((zmb .i64 which) % (z.Years.length:Int))+(1:Int))<=(c.Premiums.length:Int)/\(c.Premiums.length:Int)<=(c.Premiums.length:Int)) (gd (j.length+((c.Premiums.take (Int.toNat (c.Premiums.length:Int))).drop (Int.toNat (((zmb .i64 which) % (z.Years.length:Int))+(1:Int)))).length<=1048576) ((ztK r).bind fun q=>((ztM ({ First:=z.First,Years:=(([]++z.Years).set (Int.toNat ((zmb .i64 which) % (z.Years.length:Int))) ({ Losses:=d.Losses,Premiums:=d.Premiums,Parcels:=d.Parcels,Exempt:=true }:Yr)) }:Zn)).bind fun s=>((ztN c).bind fun t=>((ztC q s t).bind fun a=>((ztK r).bind fun u=>((ztM h).bind fun w=>((ztN ({ Losses:=(i++((c.Losses.take (Int.toNat (c.Losses.length:Int))).drop (Int.toNat (((zmb .i64 which) % (z.Years.length:Int))+(1:Int))))),Premiums:=(j++((c.Premiums.take (Int.toNat (c.Premiums.length:Int))).drop (Int.toNat (((zmb .i64 which) % (z.Years.length:Int))+(1:Int))))) }:Tr)).bind fun y=>((ztC u w y).bind fun g=>((ztK r).bind fun A=>((ztM ({ First:=z.First,Years:=(([]++z.Years).set (Int.toNat ((zmb .i64 which) % (z.Years.length:Int))) ({ Losses:=d.Losses,Premiums:=d.Premiums,Parcels:=d.Parcels,Exempt:=true }:Yr)) }:Zn)).bind fun B=>((ztE A B ((zmb .i64 which) % (z.Years.length:Int))).bind fun l=>((ztK r).bind fun D=>((ztM ({ First:=z.First,Years:=(([]++z.Years).set (Int.toNat ((zmb .i64 which) % (z.Years.length:Int))) ({ Losses:=d.Losses,Premiums:=d.Premiums,Parcels:=d.Parcels,Exempt:=true }:Yr)) }:Zn)).bind fun F=>((ztF D F).bind fun e=>((ztK r).bind fun G=>((ztM h).bind fun I=>((ztF G I).bind fun f=>(if a.2=(0:Int) then (if g.2=(0:Int) then (if l.2=(0:Int) then (if e.2=(0:Int) then (if f.2=(0:Int) then (if l.1=(2:Int) then (gd (zl6 .i64 e.1.Lo) (gd (zl6 .i64 f.1.Lo) (gd (zl6 .i64 e.1.Hi) (gd (zl6 .i64 f.1.Hi) (if ((decide (e.1.Lo=f.1.Lo)) && (decide (e.1.Hi=f.1.Hi)))=true then (if (a.1.length:Int)=((([]++z.Years).set (Int.toNat ((zmb .i64 which) % (z.Years.length:Int))) ({ Losses:=d.Losses,Premiums:=d.Premiums,Parcels:=d.Parcels,Exempt:=true }:Yr)).length:Int) then (if (g.1.length:Int)=(h.Years.length:Int) then (if (0:Int) < ((zmb .i64 which) % (z.Years.length:Int)) then (gd (zl6 .i64 (((zmb .i64 which) % (z.Years.length:Int)) - (1:Int))) ((idx a.1 (((zmb .i64 which) % (z.Years.length:Int)) - (1:Int))).bind fun J=>((idx a.1 ((zmb .i64 which) % (z.Years.length:Int))).bind fun N=>(if N=J then (gd (0<=(0:Int)/\(0:Int)<=((zmb .i64 which) % (z.Years.length:Int))/\((zmb .i64 which) % (z.Years.length:Int))<=(a.1.length:Int)) ((zwi ((a.1.take (Int.toNat ((zmb .i64 which) % (z.Years.length:Int)))).drop (Int.toNat (0:Int)))).bind fun m=>(gd (zl6 .i64 (((zmb .i64 which) % (z.Years.length:Int))+(1:Int))) (gd (0<=(((zmb .i64 which) % (z.Years.length:Int))+(1:Int))/\(((zmb .i64 which) % (z.Years.length:Int))+(1:Int))<=(a.1.length:Int)/\(a.1.length:Int)<=(a.1.length:Int)) (gd (m.length+((a.1.take (Int.toNat (a.1.length:Int))).drop (Int.toNat (((zmb .i64 which) % (z.Years.length:Int))+(1:Int)))).length<=1048576) ((zsn (m++((a.1.take (Int.toNat (a.1.length:Int))).drop (Int.toNat (((zmb .i64 which) % (z.Years.length:Int))+(1:Int))))) g.1).bind fun O=>(if O=true then ((ztT).bind fun P=>(some P)) else (some false)))))))) else (some false))))) else ((idx a.1 ((zmb .i64 which) % (z.Years.length:Int))).bind fun Q=>(if Q=z.First then (gd (0<=(0:Int)/\(0:Int)<=((zmb .i64 which) % (z.Years.length:Int))/\((zmb .i64 which) % (z.Years.length:Int))<=(a.1.length:Int)) ((zwi ((a.1.take (Int.toNat ((zmb .i64 which) % (z.Years.length:Int)))).drop (Int.toNat (0:Int)))).bind fun n=>(gd (zl6 .i64 (((zmb .i64 which) % (z.Years.length:Int))+(1:Int))) (gd (0<=(((zmb .i64 which) % (z.Years.length:Int))+(1:Int))/\(((zmb .i64 which) % (z.Years.length:Int))+(1:Int))<=(a.1.length:Int)/\(a.1.length:Int)<=(a.1.length:Int)) (gd (n.length+((a.1.take (Int.toNat (a.1.length:Int))).drop (Int.toNat (((zmb .i64 which) % (z.Years.length:Int))+(1:Int)))).length<=1048576) ((zsn (n++((a.1.take (Int.toNat (a.1.length:Int))).drop (Int.toNat (((zmb .i64 which) % (z.Years.length:Int))+(1:Int))))) g.1).bind fun S=>(if S=true then ((ztT).bind fun T=>(some T)) else (some false)))))))) else (some false)))) else (some false)) else (some false)) else (some false)))))) else (some false)) else (some false)) else (some false)) else (some false)) else (some false)) else (some false))))))))))))))))))))))))))))))))))))) else ((ztT).bind fun Y=>(some Y))))
theorem zwk{l:List Int}{ca100:C}{m f:M}{Q:V->M->Prop}{rz:List Int}(hS:Pre f m)(ha100:Sl f ca100 l)(hp:zwi l=some rz)(hq:∀m' f' c0,Grw m f m' f'->On m f' m' c0 rz->Q (.c c0) m'):Wc prog tbl 50 [.c ca100] m Q:=by
 have p:=hS.st;obtain⟨q,_⟩:=zr0;refine w50 ?_;unfold zwi at hp;intro w d;obtain⟨r,e,s,g⟩:=Ow.lit0 (α:=Int) p q 1 d;obtain⟨h,hp⟩:=zqr hp;obtain⟨a,i,t,j,n,u,o⟩:=g.appL zuo e ha100 h;refine⟨a,i,j,?_⟩;obtain rfl:=oi hp;exact hq _ f a n.grw o.on
set_option maxHeartbeats 4000000 in
theorem zwl{r:Rl}{z:Zn}{which:Int}{words:List W8}{ca105 ca201 ca400:C}{m f:M}{Q:V->M->Prop}{rz:Bool}(hS:Pre f m)(ha105:Sl f ca105 r.Price)(ha201:Sl f ca201 z.Years)(ha400:Sl f ca400 words)(hp:zwj r z which words=some rz)(hq:∀m',Ext m m'->Q (.c (.bool rz)) m'):Wc prog tbl 9 [.agg 6 [Il r.Classes,Il r.Good,Il r.Bad,Il r.Rest,Il r.Fewest,ca105],.agg 2 [Il z.First,ca201],.c (.int .u8 which),.c ca400] m Q:=by
 have S0:=hS.st;obtain⟨τ0,_⟩:=zr0;refine w9 ?_;unfold zwj at hp;intro m0 mf;obtain⟨nf,pf,Em,qf⟩:=S0.blk mf τ0 1;intro m1 rf;obtain⟨Da,Gb,sf,Hb⟩:=pf.blk rf nf 2;have Ib:=qf.k sf;refine⟨_,_,_,_,_,_,Ib.bk.ra,_,_,Hb.bk.ra,?_⟩;obtain⟨Gm,tf,hp⟩:=zqq hp;refine zwf (r:=r) (z:=z) Gb.pre ha105 ha201 tf fun lo uf=>?_;obtain⟨ta,Jb⟩:=Gb.call uf Da;have vf:=Ib.k Jb;have Ea:=Hb.k Jb;refine⟨_,rfl,?_⟩;refine zqV hp (fun wf hp=>?_) fun wf hp=>?_
 ·obtain⟨Hm,xf,hp⟩:=zqq hp;refine zwe ta.pre  xf fun oo yf=>?_;obtain⟨zf,Im⟩:=ta.call yf Da;refine⟨_,rfl,?_⟩;obtain rfl:=oi hp;exact hq _ zf.ext'
 refine⟨trivial,_,Ea.bk.rc rfl,ha201.isSl,?_⟩
 try rw[ha201.slLen]
 refine ifd hp (fun Af hp=>?_) fun Af hp=>?_
 ·obtain⟨Jm,Bf,hp⟩:=zqq hp;refine zwe ta.pre  Bf fun po Cf=>?_;obtain⟨Df,Km⟩:=ta.call Cf Da;refine⟨_,rfl,?_⟩;obtain rfl:=oi hp;exact hq _ Df.ext'
 refine⟨trivial,_,Ea.bk.rc rfl,ha201.isSl,?_⟩;refine gdi hp fun Ef hp=>?_;obtain⟨Kb,hp⟩:=zqr hp;refine⟨(by first|exact Kb|(rw[ha201.slLen];exact Kb)),?_⟩;obtain⟨Mb,hp⟩:=zqr hp;refine⟨(by first|exact Mb|(rw[ha201.slLen];exact Mb)),_,_,Ea.bk.ra,?_⟩;intro qo Ff;obtain⟨Gf,Hf,Nb,If⟩:=ta.blk Ff Da 3;have Jf:=vf.k Nb;have Kf:=Ea.k Nb;obtain⟨Lf,Mf,Nf,Ob,Of⟩:=If.sto Hf [Il z.First,ca201];have Pf:=Jf.k Ob;have Qf:=Kf.k Ob;refine⟨Lf,Mf,?_⟩;intro ro Rf;obtain⟨Mm,Sf,Za,Tf⟩:=Nf.blk Rf Gf 4;have Uf:=Pf.k Za;have Pb:=Qf.k Za;have Vf:=Of.k Za;refine⟨trivial,_,Pb.bk.rc rfl,?_⟩;have Wf:=Lb.ow0 (α:=Yr) Tf;obtain⟨Xf,hp⟩:=zqr hp;obtain⟨ab,Yf,Qb,Zf,ag,bb,ua⟩:=Wf.appL zvT Sf ha201 Xf;have bg:=Uf.k bb;have cg:=Pb.k bb;have dg:=Vf.k bb;refine⟨ab,Yf,Zf,?_⟩;refine⟨trivial,?_⟩;obtain⟨eg,fg,gg,cb,Fa⟩:=dg.sto1 ag 1 ab (by simp) rfl
 replace Fa:Lb _ _ _ _ _ _ _ [Il z.First,ab]:=Fa
 have hg:=bg.k cb;have ig:=cg.k cb;have ua:=ua.k cb;refine⟨eg,fg,?_⟩;refine⟨trivial,_,Fa.bk.rc rfl,?_⟩;obtain⟨d,va,hp⟩:=zqq hp;obtain⟨ib,qa,jb,va⟩:=zqk va;refine⟨ib,(by first|exact qa|(rw[ha201.slLen];exact qa)),(by first|exact jb|(rw[ua.slLen];exact jb)),(ua.isPt va _),?_⟩;obtain⟨jg,kg,lg,db,Rb⟩:=ua.setP gg (a':=({ Losses:=d.Losses,Premiums:=d.Premiums,Parcels:=d.Parcels,Exempt:=true }:Yr)) va [Il d.Losses.Lo,Il d.Losses.Hi,Il d.Premiums.Lo,Il d.Premiums.Hi,Il d.Parcels,.bool d.Exempt] (fun _ h=>h) 5 [.bool true] (Nat.le_of_ble_eq_true rfl) rfl
 have kb:Int.toNat ((zmb .i64 which) % (z.Years.length:Int))=ib:=by rw[qa]; rfl
 rw[<- kb] at Rb;have Xl:=qa;have mg:(([]++z.Years).set (Int.toNat ((zmb .i64 which) % (z.Years.length:Int))) ({ Losses:=d.Losses,Premiums:=d.Premiums,Parcels:=d.Parcels,Exempt:=true }:Yr))[ib]? = some ({ Losses:=d.Losses,Premiums:=d.Premiums,Parcels:=d.Parcels,Exempt:=true }:Yr):=(congrArg (fun z9_=>(([]++z.Years).set z9_ ({ Losses:=d.Losses,Premiums:=d.Premiums,Parcels:=d.Parcels,Exempt:=true }:Yr))[ib]?) kb).trans (List.getElem?_set_self (List.getElem?_eq_some_iff.1 va).1);have Yl:=(List.getElem?_eq_some_iff.1 mg).1;have ng:=hg.k db;have og:=ig.k db;have Sb:=Fa.k db;refine⟨jg,kg,?_⟩;refine⟨_,_,Sb.bk.ra,?_⟩;obtain⟨Nm,Tb,ea,aa⟩:=Rb.freeze lg;have pg:=ng.k ea;have qg:=og.k ea;have rg:=Sb.k ea;obtain⟨fa,sg,hp⟩:=zqq hp;have mb:=@zwg ({ First:=z.First,Years:=(([]++z.Years).set (Int.toNat ((zmb .i64 which) % (z.Years.length:Int))) ({ Losses:=d.Losses,Premiums:=d.Premiums,Parcels:=d.Parcels,Exempt:=true }:Yr)) }:Zn) words
 dsimp only at mb
 refine mb Tb.pre aa (ha400.sub ea.fs) sg fun so Om tg ug vg ba J=>?_;obtain⟨xg,ca⟩:=Tb.callG vg Qb;have zg:=pg.k ca;have Ag:=qg.k ca;have Bg:=rg.k ca;refine⟨_,_,rfl,?_⟩;intro uo Cg;obtain⟨Dg,Eg,eb,Fg⟩:=xg.blk Cg Qb 5;have Gg:=zg.k eb;have Hg:=Ag.k eb;have Ig:=Bg.k eb;obtain⟨Jg,Kg,Lg,fb,Mg⟩:=Fg.sto Eg [tg,ug];have Ng:=Gg.k fb;have Og:=Hg.k fb;have Pg:=Ig.k fb;refine⟨Jg,Kg,?_⟩;intro xo Qg;obtain⟨Ub,Vb,Ga,ob⟩:=Lg.growK Qg Dg 6;have Sg:=Ng.k Ga;have Tg:=Og.k Ga;have Wb:=Pg.k Ga;have wa:=Mg.k Ga;have Ug:=ob 0 (by decide);have Vg:=ob 1 (by decide);refine⟨_,_,Wb.bk.ra,?_⟩
 try rw[ha201.slLen]
 obtain⟨gb,Xg,hp⟩:=zqq hp;have pb:=@zwh ({ First:=z.First,Years:=(([]++z.Years).set (Int.toNat ((zmb .i64 which) % (z.Years.length:Int))) ({ Losses:=d.Losses,Premiums:=d.Premiums,Parcels:=d.Parcels,Exempt:=true }:Yr)) }:Zn) ((zmb .i64 which) % (z.Years.length:Int))
 dsimp only at pb
 refine pb Vb.pre (aa.sub ca.fs) Xg fun yo Pm Zg ah ia=>?_;obtain⟨Xb,u⟩:=Vb.callG ah Ub;have bh:=Sg.k u;have ch:=Tg.k u;have dh:=Wb.k u;have xa:=wa.k u;have eh:=Ug.k u;have fh:=Vg.k u;refine⟨_,_,rfl,trivial,_,xa.bk.rc rfl,(by rw[show cmC _=true from zoV (ba.noFn)]; exact(wa.bk.rc rfl)),?_⟩
 try rw[ha201.slLen]
 obtain⟨Qm,hp⟩:=zqr hp;obtain⟨gh,hh,ih⟩:=ba.subC (i:=Int.toNat (0:Int)) (j:=Int.toNat ((zmb .i64 which) % (z.Years.length:Int))) (by omega) (by omega);refine⟨_,_,rfl,(show((zmb .i64 which) % (z.Years.length:Int))=((Int.toNat ((zmb .i64 which) % (z.Years.length:Int)):Nat):Int) by omega),gh,hh,?_⟩;obtain⟨jh,kh,hp⟩:=zqq hp;refine zwk (l:=((fa.Losses.take (Int.toNat ((zmb .i64 which) % (z.Years.length:Int)))).drop (Int.toNat (0:Int)))) Xb.pre (ih.sub u.fs) kh fun zo Rm Sm lh mh=>?_;obtain⟨Tm,nh,o,oh⟩:=Xb.callO lh mh Ub 8;have ph:=bh.k o;have qh:=ch.k o;have rh:=dh.k o;have Ha:=xa.k o;have th:=eh.k o;have uh:=fh.k o;refine⟨_,rfl,trivial,_,Ha.bk.rc rfl,(by rw[show cmC _=true from zoV (ba.noFn)]; exact(xa.bk.rc rfl)),(by rw[show cmC _=true from zoV (ba.noFn)]; exact(wa.bk.rc rfl)),?_⟩;obtain⟨Yb,hp⟩:=zqr hp;refine⟨(by first|exact Yb|(rw[ha201.slLen];exact Yb)),?_⟩
 try rw[ha201.slLen]
 try rw[ba.slLen]
 obtain⟨Um,hp⟩:=zqr hp;obtain⟨vh,wh,xh⟩:=ba.subC (i:=Int.toNat (((zmb .i64 which) % (z.Years.length:Int))+(1:Int))) (j:=Int.toNat (fa.Losses.length:Int)) (by omega) (by omega);refine⟨_,_,(show(((zmb .i64 which) % (z.Years.length:Int))+(1:Int))=((Int.toNat (((zmb .i64 which) % (z.Years.length:Int))+(1:Int)):Nat):Int) by omega),rfl,vh,wh,?_⟩;obtain⟨yh,hp⟩:=zqr hp;obtain⟨Zb,zh,Ah,Bh,ac,pa,e⟩:=oh.appL zuo nh (xh.sub (Sub.trans u.fs o.fs)) yh;have Ch:=ph.k pa;have Dh:=qh.k pa;have Eh:=rh.k pa;have hb:=Ha.k pa;have Fh:=th.k pa;have Gh:=uh.k pa;refine⟨Zb,zh,Bh,?_⟩;refine⟨trivial,_,hb.bk.rc rfl,(by rw[show cmC _=true from zoV (J.noFn)]; exact(Ha.bk.rc rfl)),(by rw[show cmC _=true from zoV (J.noFn)]; exact(xa.bk.rc rfl)),(by rw[show cmC _=true from zoV (J.noFn)]; exact(wa.bk.rc rfl)),?_⟩
 try rw[ha201.slLen]
 obtain⟨Vm,hp⟩:=zqr hp;obtain⟨Hh,Ih,Jh⟩:=J.subC (i:=Int.toNat (0:Int)) (j:=Int.toNat ((zmb .i64 which) % (z.Years.length:Int))) (by omega) (by omega);refine⟨_,_,rfl,(show((zmb .i64 which) % (z.Years.length:Int))=((Int.toNat ((zmb .i64 which) % (z.Years.length:Int)):Nat):Int) by omega),Hh,Ih,?_⟩;obtain⟨Kh,Lh,hp⟩:=zqq hp;refine zwk (l:=((fa.Premiums.take (Int.toNat ((zmb .i64 which) % (z.Years.length:Int)))).drop (Int.toNat (0:Int)))) ac.pre (Jh.sub (Sub.trans u.fs o.fs)) Lh fun Ao Wm Xm Mh Nh=>?_;obtain⟨Ym,Oh,w,Ph⟩:=ac.callO Mh Nh Ah 9;have Qh:=Ch.k w;have Rh:=Dh.k w;have Sh:=Eh.k w;have bc:=hb.k w;have Th:=Fh.k w;have Uh:=Gh.k w;have e:=e.k w;refine⟨_,rfl,trivial,_,bc.bk.rc rfl,(by rw[show cmC _=true from zoV (J.noFn)]; exact(hb.bk.rc rfl)),(by rw[show cmC _=true from zoV (J.noFn)]; exact(Ha.bk.rc rfl)),(by rw[show cmC _=true from zoV (J.noFn)]; exact(xa.bk.rc rfl)),(by rw[show cmC _=true from zoV (J.noFn)]; exact(wa.bk.rc rfl)),?_⟩;obtain⟨cc,hp⟩:=zqr hp;refine⟨(by first|exact cc|(rw[ha201.slLen];exact cc)),?_⟩
 try rw[ha201.slLen]
 try rw[J.slLen]
 obtain⟨Zm,hp⟩:=zqr hp;obtain⟨Vh,Wh,Xh⟩:=J.subC (i:=Int.toNat (((zmb .i64 which) % (z.Years.length:Int))+(1:Int))) (j:=Int.toNat (fa.Premiums.length:Int)) (by omega) (by omega);refine⟨_,_,(show(((zmb .i64 which) % (z.Years.length:Int))+(1:Int))=((Int.toNat (((zmb .i64 which) % (z.Years.length:Int))+(1:Int)):Nat):Int) by omega),rfl,Vh,Wh,?_⟩;obtain⟨Yh,hp⟩:=zqr hp;obtain⟨dc,Zh,da,ai,bi,ja,g⟩:=Ph.appL zuo Oh (Xh.sub (Sub.trans (Sub.trans u.fs o.fs) w.fs)) Yh;have ci:=Qh.k ja;have ei:=Rh.k ja;have fi:=Sh.k ja;have gi:=bc.k ja;have hi:=Th.k ja;have ii:=Uh.k ja;have e:=e.k ja;refine⟨dc,Zh,ai,?_⟩;intro Bo ji;obtain⟨ki,ka,ni⟩:=hi.set bi ji;have pi:=ci.k ka;have qi:=ei.k ka;have ec:=fi.k ka;have ya:=gi.k ka;have ri:=ii.k ka;have e:=e.k ka;have g:=g.k ka;refine⟨(by rw[show cmC _=true from zoV (J.noFn)]; exact(ya.bk.rc rfl)),(by rw[show cmC _=true from zoV (J.noFn)]; exact(ya.bk.rc rfl)),(by rw[show cmC _=true from zoV (ba.noFn)]; exact(ya.bk.rc rfl)),(by rw[show cmC _=true from zoV (ba.noFn)]; exact(ya.bk.rc rfl)),(by rw[show zaL cmC _=true from zoW (zqu rfl (zqu aa.noFn zqv))]; exact(ec.bk.ra)),?_⟩;intro Co si;obtain⟨ti,la,ui⟩:=ri.set ki si;have vi:=pi.k la;have wi:=qi.k la;have fc:=ec.k la;have za:=ya.k la;have xi:=ni.k la;have e:=e.k la;have g:=g.k la;refine⟨(by rw[show cmC _=true from zoV (J.noFn)]; exact(za.bk.rc rfl)),(by rw[show cmC _=true from zoV (J.noFn)]; exact(za.bk.rc rfl)),(by rw[show cmC _=true from zoV (ba.noFn)]; exact(za.bk.rc rfl)),(by rw[show cmC _=true from zoV (ba.noFn)]; exact(za.bk.rc rfl)),(by rw[show zaL cmC _=true from zoW (zqu rfl (zqu aa.noFn zqv))]; exact(fc.bk.ra)),?_⟩
 obtain⟨yi,zi,Ai,ma,Bi⟩:=xi.sto ti [Il gb.First,Zg];have Ci:=vi.k ma;have Di:=wi.k ma;have Ei:=fc.k ma;have Fi:=za.k ma;have Gi:=ui.k ma;have e:=e.k ma;have g:=g.k ma;refine⟨yi,zi,?_⟩;obtain⟨Ii,Ji,gc,na,Ki⟩:=Gi.sto Ai [Zb,dc];have hc:=Ci.k na;have Ni:=Di.k na;have ic:=Ei.k na;have jc:=Fi.k na;have Oi:=Bi.k na;have e:=e.k na;have g:=g.k na;refine⟨Ii,Ji,?_⟩;refine⟨_,_,_,_,_,_,hc.bk.ra,?_⟩;obtain⟨Pi,Qi,hp⟩:=zqq hp;refine zv6 (r:=r) gc.pre (ha105.sub (Sub.trans (Sub.trans (Sub.trans (Sub.trans ea.fs ca.fs) u.fs) o.fs) w.fs)) Qi fun Do an bn Ri Si=>?_;obtain⟨kc,B⟩:=gc.callG Ri da;have Ti:=hc.k B;have Ui:=Ni.k B;have nc:=ic.k B;have oc:=jc.k B;have Vi:=Oi.k B;have Wi:=Ki.k B;have e:=e.k B;have g:=g.k B;refine⟨_,_,_,_,_,_,rfl,_,_,nc.bk.ra,(by rw[show zaL cmC _=true from zoW (zqu rfl (zqu aa.noFn zqv))]; exact(ic.bk.ra)),?_⟩;obtain⟨Xi,Yi,hp⟩:=zqq hp;have qb:=@zv7 ({ First:=z.First,Years:=(([]++z.Years).set (Int.toNat ((zmb .i64 which) % (z.Years.length:Int))) ({ Losses:=d.Losses,Premiums:=d.Premiums,Parcels:=d.Parcels,Exempt:=true }:Yr)) }:Zn)
 dsimp only at qb
 refine qb kc.pre (aa.sub (Sub.trans (Sub.trans (Sub.trans (Sub.trans ca.fs u.fs) o.fs) w.fs) B.fs)) Yi fun Eo cn dn Zi aj=>?_;obtain⟨pc,D⟩:=kc.callG Zi da;have bj:=Ti.k D;have cj:=Ui.k D;have dj:=nc.k D;have ej:=oc.k D;have fj:=Vi.k D;have gj:=Wi.k D;have e:=e.k D;have g:=g.k D;refine⟨_,_,rfl,_,_,ej.bk.ra,(by rw[show zaL cmC _=true from zoW (zqu ba.noFn (zqu J.noFn zqv))]; exact(oc.bk.ra)),(by rw[show zaL cmC _=true from zoW (zqu ba.noFn (zqu J.noFn zqv))]; exact(jc.bk.ra)),?_⟩;obtain⟨hj,ij,hp⟩:=zqq hp;refine zv8 (t:=fa) pc.pre (ba.sub (Sub.trans (Sub.trans (Sub.trans (Sub.trans u.fs o.fs) w.fs) B.fs) D.fs)) (J.sub (Sub.trans (Sub.trans (Sub.trans (Sub.trans u.fs o.fs) w.fs) B.fs) D.fs)) ij fun en fn gn hn jj kj lj=>?_;obtain⟨qc,N⟩:=pc.callG jj da;have mj:=bj.k N;have nj:=cj.k N;have oj:=dj.k N;have pj:=fj.k N;have qj:=gj.k N;have e:=e.k N;have g:=g.k N;refine⟨_,_,rfl,?_⟩;obtain⟨ga,rj,hp⟩:=zqq hp;refine zvY (r:=Pi) (z:=Xi) (t:=hj) qc.pre (Si.sub (Sub.trans D.fs N.fs)) (aj.sub N.fs) kj lj rj fun jn kn ln sj Z=>?_;obtain⟨sc,Y⟩:=qc.callG sj da;have tc:=mj.k Y;have tj:=nj.k Y;have uj:=oj.k Y;have uc:=pj.k Y;have vc:=qj.k Y;have e:=e.k Y;have g:=g.k Y;refine⟨_,_,rfl,_,_,_,_,_,_,tc.bk.ra,?_⟩;obtain⟨vj,wj,hp⟩:=zqq hp;refine zv6 (r:=r) sc.pre (ha105.sub (Sub.trans (Sub.trans (Sub.trans (Sub.trans (Sub.trans (Sub.trans (Sub.trans (Sub.trans ea.fs ca.fs) u.fs) o.fs) w.fs) B.fs) D.fs) N.fs) Y.fs)) wj fun nn pn qn xj yj=>?_;obtain⟨wc,p⟩:=sc.callG xj da
 have zj:=tc.k p;have Aj:=tj.k p;have Bj:=uj.k p;have xc:=uc.k p;have yc:=vc.k p;have e:=e.k p;have g:=g.k p;refine⟨_,_,_,_,_,_,rfl,_,_,xc.bk.ra,(by rw[show zaL cmC _=true from zoW (zqu rfl (zqu ia.noFn zqv))]; exact(uc.bk.ra)),?_⟩;obtain⟨Cj,Dj,hp⟩:=zqq hp;refine zv7 (z:=gb) wc.pre (ia.sub (Sub.trans (Sub.trans (Sub.trans (Sub.trans (Sub.trans (Sub.trans o.fs w.fs) B.fs) D.fs) N.fs) Y.fs) p.fs)) Dj fun rn sn tn Ej Fj=>?_;obtain⟨Gj,q⟩:=wc.callG Ej da;have Hj:=zj.k q;have Ij:=Aj.k q;have Jj:=Bj.k q;have Kj:=xc.k q;have Lj:=yc.k q;have e:=e.k q;have g:=g.k q;refine⟨_,_,rfl,_,_,Lj.bk.ra,(by rw[show zaL cmC _=true from zoW (zqu e.noFn (zqu g.noFn zqv))]; exact(yc.bk.ra)),(by rw[show zaL cmC _=true from zoW (zqu e.noFn (zqu g.noFn zqv))]; exact(vc.bk.ra)),?_⟩;obtain⟨un,Mj,y,Nj⟩:=e.freeze Gj;have Oj:=Hj.k y;have Pj:=Ij.k y;have Qj:=Jj.k y;have Rj:=Kj.k y;have g:=g.k y;obtain⟨vn,zc,A,Sj⟩:=g.freeze Mj;have Tj:=Oj.k A;have Uj:=Pj.k A;have Vj:=Qj.k A;have Wj:=Rj.k A;obtain⟨Xj,Yj,hp⟩:=zqq hp;refine zv8 (t:=({ Losses:=(jh++((fa.Losses.take (Int.toNat (fa.Losses.length:Int))).drop (Int.toNat (((zmb .i64 which) % (z.Years.length:Int))+(1:Int))))),Premiums:=(Kh++((fa.Premiums.take (Int.toNat (fa.Premiums.length:Int))).drop (Int.toNat (((zmb .i64 which) % (z.Years.length:Int))+(1:Int))))) }:Tr)) zc.pre (Nj.sub A.fs) Sj Yj fun xn yn zn An Zj ak ck=>?_;obtain⟨Ac,F⟩:=zc.callG Zj da;have dk:=Tj.k F;have ek:=Uj.k F;have fk:=Vj.k F;have gk:=Wj.k F
 refine⟨_,_,rfl,?_⟩;obtain⟨Bc,hk,hp⟩:=zqq hp;refine zvY (r:=vj) (z:=Cj) (t:=Xj) Ac.pre (yj.sub (Sub.trans (Sub.trans (Sub.trans q.fs y.fs) A.fs) F.fs)) (Fj.sub (Sub.trans (Sub.trans y.fs A.fs) F.fs)) ak ck hk fun Bn Cn Dn ik Ia=>?_;obtain⟨Cc,O⟩:=Ac.callG ik da;have Dc:=dk.k O;have jk:=ek.k O;have Ec:=fk.k O;have kk:=gk.k O;refine⟨_,_,rfl,_,_,_,_,_,_,Dc.bk.ra,?_⟩;obtain⟨mk,nk,hp⟩:=zqq hp;refine zv6 (r:=r) Cc.pre (ha105.sub (Sub.trans (Sub.trans (Sub.trans (Sub.trans (Sub.trans (Sub.trans (Sub.trans (Sub.trans (Sub.trans (Sub.trans (Sub.trans (Sub.trans (Sub.trans (Sub.trans ea.fs ca.fs) u.fs) o.fs) w.fs) B.fs) D.fs) N.fs) Y.fs) p.fs) q.fs) y.fs) A.fs) F.fs) O.fs)) nk fun En Fn Gn ok pk=>?_;obtain⟨Fc,G⟩:=Cc.callG ok da;have qk:=Dc.k G;have sk:=jk.k G;have Gc:=Ec.k G;have uk:=kk.k G;refine⟨_,_,_,_,_,_,rfl,_,_,Gc.bk.ra,(by rw[show zaL cmC _=true from zoW (zqu rfl (zqu aa.noFn zqv))]; exact(Ec.bk.ra)),?_⟩;obtain⟨vk,wk,hp⟩:=zqq hp;have rb:=@zv7 ({ First:=z.First,Years:=(([]++z.Years).set (Int.toNat ((zmb .i64 which) % (z.Years.length:Int))) ({ Losses:=d.Losses,Premiums:=d.Premiums,Parcels:=d.Parcels,Exempt:=true }:Yr)) }:Zn)
 dsimp only at rb
 refine rb Fc.pre (aa.sub (Sub.trans (Sub.trans (Sub.trans (Sub.trans (Sub.trans (Sub.trans (Sub.trans (Sub.trans (Sub.trans (Sub.trans (Sub.trans (Sub.trans (Sub.trans (Sub.trans ca.fs u.fs) o.fs) w.fs) B.fs) D.fs) N.fs) Y.fs) p.fs) q.fs) y.fs) A.fs) F.fs) O.fs) G.fs)) wk fun Hn In Jn xk yk=>?_;obtain⟨Hc,I⟩:=Fc.callG xk da;have zk:=qk.k I;have Ak:=sk.k I;have Ck:=Gc.k I;have Dk:=uk.k I;refine⟨_,_,rfl,?_⟩
 try rw[ha201.slLen]
 obtain⟨Kn,Ek,hp⟩:=zqq hp;refine zv0 (r:=mk) (z:=vk) (year:=((zmb .i64 which) % (z.Years.length:Int))) Hc.pre (pk.sub I.fs) yk Ek fun Ln Fk=>?_;obtain⟨Gk,Ja⟩:=Hc.call Fk da;have Hk:=zk.k Ja;have Ik:=Ak.k Ja;have Jk:=Ck.k Ja;have Kk:=Dk.k Ja;refine⟨_,_,rfl,?_⟩;intro Nn Lk;obtain⟨Ka,Ic,La,Zc⟩:=Gk.growK Lk da 10;have Jc:=Hk.k La;have Mk:=Ik.k La;have Kc:=Jk.k La;have Nk:=Kk.k La;have Ok:=Zc 0 (by decide);refine⟨_,_,_,_,_,_,Jc.bk.ra,?_⟩;obtain⟨Qk,Sk,hp⟩:=zqq hp;refine zv6 (r:=r) Ic.pre (ha105.sub (Sub.trans (Sub.trans (Sub.trans (Sub.trans (Sub.trans (Sub.trans (Sub.trans (Sub.trans (Sub.trans (Sub.trans (Sub.trans (Sub.trans (Sub.trans (Sub.trans (Sub.trans (Sub.trans ea.fs ca.fs) u.fs) o.fs) w.fs) B.fs) D.fs) N.fs) Y.fs) p.fs) q.fs) y.fs) A.fs) F.fs) O.fs) G.fs) I.fs)) Sk fun Pn Qn Rn Tk Uk=>?_;obtain⟨Nc,P⟩:=Ic.callG Tk Ka;have Vk:=Jc.k P;have Xk:=Mk.k P;have Oc:=Kc.k P;have Yk:=Nk.k P;have Zk:=Ok.k P;refine⟨_,_,_,_,_,_,rfl,_,_,Oc.bk.ra,(by rw[show zaL cmC _=true from zoW (zqu rfl (zqu aa.noFn zqv))]; exact(Kc.bk.ra)),?_⟩;obtain⟨al,bl,hp⟩:=zqq hp;have sb:=@zv7 ({ First:=z.First,Years:=(([]++z.Years).set (Int.toNat ((zmb .i64 which) % (z.Years.length:Int))) ({ Losses:=d.Losses,Premiums:=d.Premiums,Parcels:=d.Parcels,Exempt:=true }:Yr)) }:Zn)
 dsimp only at sb
 refine sb Nc.pre (aa.sub (Sub.trans (Sub.trans (Sub.trans (Sub.trans (Sub.trans (Sub.trans (Sub.trans (Sub.trans (Sub.trans (Sub.trans (Sub.trans (Sub.trans (Sub.trans (Sub.trans (Sub.trans (Sub.trans ca.fs u.fs) o.fs) w.fs) B.fs) D.fs) N.fs) Y.fs) p.fs) q.fs) y.fs) A.fs) F.fs) O.fs) G.fs) I.fs) P.fs)) bl fun Sn Tn Un cl dl=>?_;obtain⟨Pc,S⟩:=Nc.callG cl Ka;have el:=Vk.k S;have fl:=Xk.k S;have gl:=Oc.k S;have hl:=Yk.k S;have il:=Zk.k S;refine⟨_,_,rfl,?_⟩;obtain⟨Qc,jl,hp⟩:=zqq hp;refine zv1 (r:=Qk) (z:=al) Pc.pre (Uk.sub S.fs) dl jl fun Vn ll=>?_;obtain⟨ml,Aa⟩:=Pc.call ll Ka;have ol:=el.k Aa;have ql:=fl.k Aa;have rl:=gl.k Aa;have tl:=hl.k Aa;have ul:=il.k Aa;refine⟨_,_,_,rfl,?_⟩;intro Xn vl;obtain⟨wl,Ma,xl⟩:=ul.set ml vl;have Rc:=ol.k Ma;have yl:=ql.k Ma;have Tc:=rl.k Ma;have zl:=tl.k Ma;refine⟨(by rw[show zaL cmC _=true from zoW (zqu rfl (zqu aa.noFn zqv))]; exact(Tc.bk.ra)),(by rw[show zaL cmC _=true from zoW (zqu rfl (zqu rfl (zqu rfl (zqu rfl (zqu rfl (zqu ha105.noFn zqv))))))]; exact(Rc.bk.ra)),?_⟩;obtain⟨Al,Bl,Cl,Na,Dl⟩:=xl.sto wl [Il Qc.1.Lo,Il Qc.1.Hi];have El:=Rc.k Na;have Fl:=yl.k Na;have Gl:=Tc.k Na;have Hl:=zl.k Na;refine⟨Al,Bl,?_⟩;intro Yn Jl;obtain⟨Ba,Uc,Ca,ad⟩:=Cl.growK Jl Ka 11;have Vc:=El.k Ca;have Kl:=Fl.k Ca;have Ll:=Gl.k Ca;have Xc:=Hl.k Ca;have Ml:=Dl.k Ca;have Nl:=ad 0 (by decide);refine⟨_,_,_,_,_,_,Vc.bk.ra,?_⟩;obtain⟨Ol,Pl,hp⟩:=zqq hp;refine zv6 (r:=r) Uc.pre (ha105.sub (Sub.trans (Sub.trans (Sub.trans (Sub.trans (Sub.trans (Sub.trans (Sub.trans (Sub.trans (Sub.trans (Sub.trans (Sub.trans (Sub.trans (Sub.trans (Sub.trans (Sub.trans (Sub.trans (Sub.trans (Sub.trans ea.fs ca.fs) u.fs) o.fs) w.fs) B.fs) D.fs) N.fs) Y.fs) p.fs) q.fs) y.fs) A.fs) F.fs) O.fs) G.fs) I.fs) P.fs) S.fs)) Pl fun ao Zl am Ql bd=>?_
 obtain⟨Yc,T⟩:=Uc.callG Ql Ba;have cd:=Vc.k T;have dd:=Kl.k T;have ed:=Ll.k T;have tb:=Xc.k T;have fd:=Ml.k T;have hd:=Nl.k T;refine⟨_,_,_,_,_,_,rfl,_,_,tb.bk.ra,(by rw[show zaL cmC _=true from zoW (zqu rfl (zqu ia.noFn zqv))]; exact(Xc.bk.ra)),?_⟩;obtain⟨id,jd,hp⟩:=zqq hp;refine zv7 (z:=gb) Yc.pre (ia.sub (Sub.trans (Sub.trans (Sub.trans (Sub.trans (Sub.trans (Sub.trans (Sub.trans (Sub.trans (Sub.trans (Sub.trans (Sub.trans (Sub.trans (Sub.trans (Sub.trans (Sub.trans (Sub.trans o.fs w.fs) B.fs) D.fs) N.fs) Y.fs) p.fs) q.fs) y.fs) A.fs) F.fs) O.fs) G.fs) I.fs) P.fs) S.fs) T.fs)) jd fun bo bm cm kd ld=>?_;obtain⟨ub,s⟩:=Yc.callG kd Ba;have md:=cd.k s;have nd:=dd.k s;have od:=ed.k s;have pd:=tb.k s;have qd:=fd.k s;have sd:=hd.k s;refine⟨_,_,rfl,?_⟩;obtain⟨vb,td,hp⟩:=zqq hp;refine zv1 (r:=Ol) (z:=id) ub.pre (bd.sub s.fs) ld td fun co ud=>?_;obtain⟨vd,ha⟩:=ub.call ud Ba;have wd:=md.k ha;have xd:=nd.k ha;have yd:=od.k ha;have zd:=pd.k ha;have Ad:=qd.k ha;have Bd:=sd.k ha;refine⟨_,_,_,rfl,?_⟩;intro eo Cd;obtain⟨Dd,oa,Ed⟩:=Bd.set vd Cd;have Fd:=wd.k oa;have Gd:=xd.k oa;have Hd:=yd.k oa;have wb:=zd.k oa;have Id:=Ad.k oa;refine⟨(by rw[show zaL cmC _=true from zoW (zqu rfl (zqu ia.noFn zqv))]; exact(wb.bk.ra)),(by rw[show zaL cmC _=true from zoW (zqu rfl (zqu rfl (zqu rfl (zqu rfl (zqu rfl (zqu ha105.noFn zqv))))))]; exact(Fd.bk.ra)),?_⟩;obtain⟨Jd,Ld,n,sa,Md⟩:=Ed.sto Dd [Il vb.1.Lo,Il vb.1.Hi];have Nd:=Gd.k sa;have Od:=Hd.k sa;have Pd:=wb.k sa;have Qd:=Id.k sa
 refine⟨Jd,Ld,?_⟩;refine zqT hp (fun Rd hp=>?_) fun Rd hp=>?_
 ·obtain rfl:=oi hp;exact hq _ n.ext'
 refine zqT hp (fun Sd hp=>?_) fun Sd hp=>?_
 ·obtain rfl:=oi hp;exact hq _ n.ext'
 refine zqT hp (fun Td hp=>?_) fun Td hp=>?_
 ·obtain rfl:=oi hp;exact hq _ n.ext'
 refine zqT hp (fun Ud hp=>?_) fun Ud hp=>?_
 ·obtain rfl:=oi hp;exact hq _ n.ext'
 refine zqT hp (fun Vd hp=>?_) fun Vd hp=>?_
 ·obtain rfl:=oi hp;exact hq _ n.ext'
 refine zqT hp (fun Wd hp=>?_) fun Wd hp=>?_
 ·obtain rfl:=oi hp;exact hq _ n.ext'
 refine⟨_,_,Qd.bk.ra,_,_,Md.bk.ra,?_⟩;refine gdi hp fun Xd hp=>?_;refine gdi hp fun Yd hp=>?_;refine gdi hp fun Zd hp=>?_;refine gdi hp fun ae hp=>?_;refine zqV hp (fun be hp=>?_) fun be hp=>?_
 ·obtain rfl:=oi hp;exact hq _ n.ext'
 refine⟨Z.isSl,trivial,_,Od.bk.rc rfl,aa.isSl,?_⟩
 try rw[Z.slLen]
 try rw[aa.slLen]
 refine zqT hp (fun ce hp=>?_) fun ce hp=>?_
 ·obtain rfl:=oi hp;exact hq _ n.ext'
 refine⟨Ia.isSl,trivial,_,Pd.bk.rc rfl,ia.isSl,?_⟩
 try rw[Ia.slLen]
 try rw[ia.slLen]
 refine zqT hp (fun de hp=>?_) fun de hp=>?_
 ·obtain rfl:=oi hp;exact hq _ n.ext'
 refine⟨trivial,_,Nd.bk.rc rfl,?_⟩
 try rw[ha201.slLen]
 refine ifd hp (fun ee hp=>?_) fun ee hp=>?_; rotate_left
 ·obtain⟨dm,Oa,hp⟩:=zqq hp;obtain⟨Tl,Ta,Ua,Oa⟩:=zqk Oa;refine⟨Tl,(by first|exact Ta|(rw[ha201.slLen];exact Ta)),(by first|exact Ua|(rw[Z.slLen];exact Ua)),_,(Z.rdI Oa (Sub.trans (Sub.trans (Sub.trans (Sub.trans (Sub.trans (Sub.trans (Sub.trans (Sub.trans (Sub.trans (Sub.trans (Sub.trans (Sub.trans p.fs q.fs) y.fs) A.fs) F.fs) O.fs) G.fs) I.fs) P.fs) S.fs) T.fs) s.fs) n.sub)),?_⟩;refine ifd hp (fun fe hp=>?_) fun fe hp=>?_; rotate_left
  ·obtain rfl:=oi hp;exact hq _ n.ext'
  try rw[ha201.slLen]
  obtain⟨em,hp⟩:=zqr hp;obtain⟨ge,he,ie⟩:=Z.subC (i:=Int.toNat (0:Int)) (j:=Int.toNat ((zmb .i64 which) % (z.Years.length:Int))) (by omega) (by omega);refine⟨_,_,rfl,(show((zmb .i64 which) % (z.Years.length:Int))=((Int.toNat ((zmb .i64 which) % (z.Years.length:Int)):Nat):Int) by omega),ge,he,?_⟩;obtain⟨je,ke,hp⟩:=zqq hp;refine zwk (l:=((ga.1.take (Int.toNat ((zmb .i64 which) % (z.Years.length:Int)))).drop (Int.toNat (0:Int)))) n.pre (ie.sub (Sub.trans (Sub.trans (Sub.trans (Sub.trans (Sub.trans (Sub.trans (Sub.trans (Sub.trans (Sub.trans (Sub.trans (Sub.trans p.fs q.fs) y.fs) A.fs) F.fs) O.fs) G.fs) I.fs) P.fs) S.fs) T.fs) s.fs)) ke fun fo fm gm me oe=>?_;obtain⟨hm,pe,xb,qe⟩:=n.callO me oe Ba 13;refine⟨_,rfl,?_⟩;obtain⟨yb,hp⟩:=zqr hp;refine⟨(by first|exact yb|(rw[ha201.slLen];exact yb)),?_⟩
  try rw[ha201.slLen]
  try rw[Z.slLen]
  obtain⟨im,hp⟩:=zqr hp;obtain⟨re,se,te⟩:=Z.subC (i:=Int.toNat (((zmb .i64 which) % (z.Years.length:Int))+(1:Int))) (j:=Int.toNat (ga.1.length:Int)) (by omega) (by omega);refine⟨_,_,(show(((zmb .i64 which) % (z.Years.length:Int))+(1:Int))=((Int.toNat (((zmb .i64 which) % (z.Years.length:Int))+(1:Int)):Nat):Int) by omega),rfl,re,se,?_⟩;obtain⟨ue,hp⟩:=zqr hp;obtain⟨ve,we,zb,xe,ye,jm,ze⟩:=qe.appL zuo pe (te.sub (Sub.trans (Sub.trans (Sub.trans (Sub.trans (Sub.trans (Sub.trans (Sub.trans (Sub.trans (Sub.trans (Sub.trans (Sub.trans (Sub.trans p.fs q.fs) y.fs) A.fs) F.fs) O.fs) G.fs) I.fs) P.fs) S.fs) T.fs) s.fs) xb.fs)) ue;refine⟨ve,we,xe,?_⟩;obtain⟨km,Ab,Ae,Be⟩:=ze.freeze ye;obtain⟨lm,Ce,hp⟩:=zqq hp;refine zuu (a:=(je++((ga.1.take (Int.toNat (ga.1.length:Int))).drop (Int.toNat (((zmb .i64 which) % (z.Years.length:Int))+(1:Int)))))) (b:=Bc.1) Ab.pre Be (Ia.sub (Sub.trans (Sub.trans (Sub.trans (Sub.trans (Sub.trans (Sub.trans (Sub.trans G.fs I.fs) P.fs) S.fs) T.fs) s.fs) xb.fs) Ae.fs)) Ce fun go De=>?_;obtain⟨Pa,mm⟩:=Ab.call De zb;refine⟨_,rfl,?_⟩;refine zqU hp (fun Ee hp=>?_) fun Ee hp=>?_; rotate_left
  ·obtain rfl:=oi hp;exact hq _ Pa.ext'
  obtain⟨nm,Fe,hp⟩:=zqq hp;refine zwe Pa.pre  Fe fun ho Ge=>?_;obtain⟨He,om⟩:=Pa.call Ge zb;refine⟨_,rfl,?_⟩;obtain rfl:=oi hp;exact hq _ He.ext'
 obtain⟨Bb,hp⟩:=zqr hp;refine⟨(by first|exact Bb|(rw[ha201.slLen];exact Bb)),?_⟩;obtain⟨pm,Qa,hp⟩:=zqq hp;obtain⟨Ul,Va,Wa,Qa⟩:=zqk Qa;refine⟨Ul,(by first|exact Va|(rw[ha201.slLen];exact Va)),(by first|exact Wa|(rw[Z.slLen];exact Wa)),_,(Z.rdI Qa (Sub.trans (Sub.trans (Sub.trans (Sub.trans (Sub.trans (Sub.trans (Sub.trans (Sub.trans (Sub.trans (Sub.trans (Sub.trans (Sub.trans p.fs q.fs) y.fs) A.fs) F.fs) O.fs) G.fs) I.fs) P.fs) S.fs) T.fs) s.fs) n.sub)),?_⟩;obtain⟨qm,Ra,hp⟩:=zqq hp;obtain⟨Vl,Xa,Ya,Ra⟩:=zqk Ra;refine⟨Vl,(by first|exact Xa|(rw[ha201.slLen];exact Xa)),(by first|exact Ya|(rw[Z.slLen];exact Ya)),_,(Z.rdI Ra (Sub.trans (Sub.trans (Sub.trans (Sub.trans (Sub.trans (Sub.trans (Sub.trans (Sub.trans (Sub.trans (Sub.trans (Sub.trans (Sub.trans p.fs q.fs) y.fs) A.fs) F.fs) O.fs) G.fs) I.fs) P.fs) S.fs) T.fs) s.fs) n.sub)),?_⟩;refine ifd hp (fun Ie hp=>?_) fun Ie hp=>?_; rotate_left
 ·obtain rfl:=oi hp;exact hq _ n.ext'
 try rw[ha201.slLen]
 obtain⟨rm,hp⟩:=zqr hp;obtain⟨Je,Ke,Me⟩:=Z.subC (i:=Int.toNat (0:Int)) (j:=Int.toNat ((zmb .i64 which) % (z.Years.length:Int))) (by omega) (by omega);refine⟨_,_,rfl,(show((zmb .i64 which) % (z.Years.length:Int))=((Int.toNat ((zmb .i64 which) % (z.Years.length:Int)):Nat):Int) by omega),Je,Ke,?_⟩;obtain⟨Ne,Oe,hp⟩:=zqq hp;refine zwk (l:=((ga.1.take (Int.toNat ((zmb .i64 which) % (z.Years.length:Int)))).drop (Int.toNat (0:Int)))) n.pre (Me.sub (Sub.trans (Sub.trans (Sub.trans (Sub.trans (Sub.trans (Sub.trans (Sub.trans (Sub.trans (Sub.trans (Sub.trans (Sub.trans p.fs q.fs) y.fs) A.fs) F.fs) O.fs) G.fs) I.fs) P.fs) S.fs) T.fs) s.fs)) Oe fun io sm tm Pe Qe=>?_;obtain⟨um,Re,Cb,Se⟩:=n.callO Pe Qe Ba 12;refine⟨_,rfl,?_⟩;obtain⟨Db,hp⟩:=zqr hp;refine⟨(by first|exact Db|(rw[ha201.slLen];exact Db)),?_⟩
 try rw[ha201.slLen]
 try rw[Z.slLen]
 obtain⟨vm,hp⟩:=zqr hp;obtain⟨Te,Ue,Ve⟩:=Z.subC (i:=Int.toNat (((zmb .i64 which) % (z.Years.length:Int))+(1:Int))) (j:=Int.toNat (ga.1.length:Int)) (by omega) (by omega);refine⟨_,_,(show(((zmb .i64 which) % (z.Years.length:Int))+(1:Int))=((Int.toNat (((zmb .i64 which) % (z.Years.length:Int))+(1:Int)):Nat):Int) by omega),rfl,Te,Ue,?_⟩;obtain⟨We,hp⟩:=zqr hp;obtain⟨Xe,Ye,Eb,Ze,af,wm,bf⟩:=Se.appL zuo Re (Ve.sub (Sub.trans (Sub.trans (Sub.trans (Sub.trans (Sub.trans (Sub.trans (Sub.trans (Sub.trans (Sub.trans (Sub.trans (Sub.trans (Sub.trans p.fs q.fs) y.fs) A.fs) F.fs) O.fs) G.fs) I.fs) P.fs) S.fs) T.fs) s.fs) Cb.fs)) We;refine⟨Xe,Ye,Ze,?_⟩;obtain⟨xm,Fb,cf,df⟩:=bf.freeze af;obtain⟨ym,ef,hp⟩:=zqq hp;refine zuu (a:=(Ne++((ga.1.take (Int.toNat (ga.1.length:Int))).drop (Int.toNat (((zmb .i64 which) % (z.Years.length:Int))+(1:Int)))))) (b:=Bc.1) Fb.pre df (Ia.sub (Sub.trans (Sub.trans (Sub.trans (Sub.trans (Sub.trans (Sub.trans (Sub.trans G.fs I.fs) P.fs) S.fs) T.fs) s.fs) Cb.fs) cf.fs)) ef fun jo gf=>?_;obtain⟨Sa,zm⟩:=Fb.call gf Eb;refine⟨_,rfl,?_⟩;refine zqU hp (fun hf hp=>?_) fun hf hp=>?_; rotate_left
 ·obtain rfl:=oi hp;exact hq _ Sa.ext'
 obtain⟨Am,jf,hp⟩:=zqq hp;refine zwe Sa.pre  jf fun ko kf=>?_;obtain⟨lf,Bm⟩:=Sa.call kf Eb;refine⟨_,rfl,?_⟩;obtain rfl:=oi hp;exact hq _ lf.ext'
end
end Go.Proofs.Ytlpjlgmoaipoiaa

namespace Go.Proofs.Ytlpjlgmoaipoiaa
open _root_.Go.Proofs.Try
open Go.Abs
set_option maxRecDepth 100000
noncomputable section
def Inc(n fr:Nat)(T:List Int):Prop:=T.Pairwise (· < ·)/\∀v∈T,(fr:Int)<=v/\v < n
theorem Inc.cons{n fr:Nat}{x:Int}{T:List Int}:Inc n fr (x::T)↔((fr:Int)<=x/\x < n)/\Inc n (x+1).toNat T:=by
 unfold Inc;rw[List.pairwise_cons]
 constructor
 ·rintro⟨⟨h1,h2⟩,h3⟩
  have hx:=h3 x (List.mem_cons_self ..);exact⟨hx,h2,fun v hv=>by have:=h1 v hv; have:=h3 v (List.mem_cons_of_mem _ hv); omega⟩
 ·rintro⟨hx,h2,h3⟩
  refine⟨⟨fun v hv=>by have:=h3 v hv; omega,h2⟩,fun v hv=>?_⟩
  rcases List.mem_cons.1 hv with rfl | hv
  ·exact hx
  ·have:=h3 v hv; omega
theorem zwm{n:Nat}{D:List Int}:∀{d:Nat} {pre:List Int} {fr:Nat},D∈zrm n d pre fr↔∃T,D=pre++T/\T.length=d/\Inc n fr T
 | 0,pre,fr=>by
  show D∈[pre]↔_
  rw[List.mem_singleton]
  constructor
  ·rintro rfl; exact⟨[],by simp,rfl,.nil,fun v hv=>by cases hv⟩
  ·rintro⟨T,h1,h2,_⟩
   rw[List.eq_nil_of_length_eq_zero h2,List.append_nil] at h1; exact h1
 | d+1,pre,fr=>by
  show D∈zrl (fun x=>zrm n d (pre++[(x:Int)]) (x+1)) (n - fr) fr↔_
  rw[zvp]
  constructor
  ·rintro⟨x,h1,h2,h3⟩
   obtain⟨T,h4,h5,h6⟩:=zwm.1 h3;refine⟨(x:Int)::T,by rw[h4]; simp,by simp[h5],Inc.cons.2 ⟨by omega,?_⟩⟩;rw[show((x:Int)+1).toNat=x+1 by omega]; exact h6
  ·rintro⟨T,h1,h2,h3⟩
   cases T with
   | nil=>simp at h2
   | cons v T=>
    obtain⟨h4,h5⟩:=Inc.cons.1 h3;refine⟨v.toNat,by omega,by omega,zwm.2 ⟨T,?_,by simpa using h2,?_⟩⟩
    ·rw[show((v.toNat:Nat):Int)=v by omega,h1]; simp
    ·rw[show v.toNat+1=(v+1).toNat by omega]; exact h5
theorem zwn{n:Nat}:∀{T:List Int} {fr:Nat},Inc n fr T->T.length<=n - fr
 | [],_,_=>Nat.zero_le _
 | v::T,fr,h=>by
  obtain⟨h1,h2⟩:=Inc.cons.1 h;have:=zwn h2
  simp only[List.length_cons]
  omega
theorem zwo{n:Nat}{D:List Int}:D∈zoi n↔Inc n 0 D:=by
 unfold zoi;rw[zvp]
 constructor
 ·rintro⟨s,_,_,h⟩
  obtain⟨T,h1,_,h2⟩:=zwm.1 h;rw[h1]; exact h2
 ·intro h;have:=zwn h;exact⟨D.length,Nat.zero_le _,by omega,zwm.2 ⟨D,rfl,rfl,h⟩⟩
def inD(D:List Int)(j:Nat):Bool:=decide ((j:Int)∈D)
def bef:List Int->List Int->Bool
 | [],[]=>false
 | [],_::_=>true
 | _::_,[]=>false
 | x::a,y::b=>if x=y then bef a b else decide (x < y)
theorem zwp:∀A:List Int,bef A A=false
 | []=>rfl
 | x::A=>by show(if x=x then bef A A else _)=_; rw[if_pos rfl,zwp A]
theorem zwq:∀{A B:List Int},bef A B=true->bef B A=false
 | [],[],h=>by cases h
 | [],_::_,_=>rfl
 | _::_,[],h=>by cases h
 | x::A,y::B,h=>by
  have h':(if x=y then bef A B else decide (x < y))=true:=h
  show(if y=x then bef B A else decide (y < x))=false
  by_cases hxy:x=y
  ·rw[if_pos hxy] at h'; rw[if_pos hxy.symm]; exact zwq h'
  ·rw[if_neg hxy] at h'; rw[if_neg fun h=>hxy h.symm];have:=of_decide_eq_true h';exact decide_eq_false (by omega)
theorem zwr:∀A B:List Int,A=B\/bef A B=true\/bef B A=true
 | [],[]=>.inl rfl
 | [],_::_=>.inr (.inl rfl)
 | _::_,[]=>.inr (.inr rfl)
 | x::A,y::B=>by
  show x::A=y::B\/(if x=y then bef A B else decide (x < y))=true\/(if y=x then bef B A else decide (y < x))=true
  by_cases hxy:x=y
  ·subst hxy;rw[if_pos rfl,if_pos rfl]
   rcases zwr A B with h | h | h
   ·exact .inl (by rw[h])
   ·exact .inr (.inl h)
   ·exact .inr (.inr h)
  ·rw[if_neg hxy,if_neg fun h=>hxy h.symm]
   by_cases h:x < y
   ·exact .inr (.inl (decide_eq_true h))
   ·exact .inr (.inr (decide_eq_true (by omega)))
theorem zws{S β:Type}{n:Nat}(F:Nat->S->Int->Option β)(st:Nat->S){fin:Option β}(hstep:∀d k,k < n->F (d+1) (st k) (k:Int)=F d (st (k+1)) ((k:Int)+1))(hend:∀d,F (d+1) (st n) (n:Int)=fin) :
  ∀d k,k<=n->n - k < d->F d (st k) (k:Int)=fin
 | 0,k,_,h=>by omega
 | d+1,k,hk,h=>by
  by_cases hkn:k=n
  ·subst hkn; exact hend d
  ·rw[hstep d k (by omega),show(k:Int)+1=((k+1:Nat):Int) by omega];exact zws F st hstep hend d (k+1) (by omega) (by omega)
def RgP(r:Rg):Prop:=0<=r.Lo/\r.Lo<=r.Hi/\r.Hi<=10000/\r.Hi - r.Lo<=5
def zwt(y:Yr):Prop:=RgP y.Losses/\RgP y.Premiums/\0<=y.Parcels/\y.Parcels<=100
def zwu(l:List Int)(j:Nat):Prop:=0 < j->∀x y,l[j]? = some x->l[j - 1]? = some y->¬ x < y
structure zwv (r:Rl):Prop where
 c0:1<=r.Classes
 pl:(r.Price.length:Int)=r.Classes
 gb:0<=r.Good/\r.Good<=r.Bad/\r.Bad<=300
 rest:0<=r.Rest/\r.Rest<=4
 few:0<=r.Fewest/\r.Fewest<=100
 pr:∀x∈r.Price,1<=x/\x<=10000
 so:∀j,j < r.Price.length->zwu r.Price j
structure zww (r:Rl) (z:Zn):Prop where
 rl:zwv r
 first:0<=z.First/\z.First<=r.Classes - 1
 ys:∀y∈z.Years,zwt y
def zwx(r:Rl)(z:Zn):Prop:=6 < r.Classes\/6 < z.Years.length
open Classical in
def zwy(r:Rl)(z:Zn):Int:=if zwx r z then 3 else if zww r z then 0 else 1
structure VZ (r:Rl) (z:Zn):Prop where
 full:zww r z
 c6:r.Classes<=6
 y6:z.Years.length<=6
theorem zwz{r:Rl}{z:Zn}:zwy r z=0↔VZ r z:=by
 unfold zwy
 by_cases h:zwx r z
 ·rw[if_pos h]; exact⟨fun h=>by omega,fun h2=>by have:=h2.c6; have:=h2.y6; unfold zwx at h; omega⟩
 ·rw[if_neg h];unfold zwx at h
  by_cases hf:zww r z
  ·rw[if_pos hf]; exact⟨fun _=>⟨hf,by omega,by omega⟩,fun _=>rfl⟩
  ·rw[if_neg hf]; exact⟨fun h=>by omega,fun h=>absurd h.full hf⟩
theorem zwA{r:Rg}{n:Int}:Ev (zso r n) (r.Lo<=n/\n<=r.Hi):=Ev.ite fun _=>Ev.dec Iff.rfl
theorem zwB{a b:Int}{r:Rg}:Ev (zsp { Lo:=a,Hi:=b } r) (a<=r.Lo/\r.Lo<=r.Hi/\r.Hi<=b):=Ev.ite fun _=>Ev.ite fun _=>Ev.dec Iff.rfl
theorem gI{l:List Int}{p:Int->Option Bool}:∀{d:Nat} {x:Int},zsA l p d x=gIdx l p d x
 | 0,_=>rfl
 | d+1,x=>by unfold zsA gIdx; simp only[gI]
theorem gY{l:List Yr}{p:Yr->Option Bool}:∀{d:Nat} {x:Int},zsF l p d x=gIdx l p d x
 | 0,_=>rfl
 | d+1,x=>by unfold zsF gIdx; simp only[gY]
theorem zwC{l:Lm}{r:Rg}(h1:l.pence=⟨0,10000⟩)(h2:l.wide=⟨0,5⟩):Ev (zsJ l r) (RgP r):=by
 unfold zsJ;rw[h1,h2];refine(zwB.and fun hc=>Ev.gd (fI (by omega)) zwA.ret).imp ?_;unfold RgP
 show(_/\_/\_)/\((0:Int)<=r.Hi - r.Lo/\r.Hi - r.Lo<=5)↔_
 omega
theorem zwD{y:Yr}:Ev (zsK { pence:=⟨0,10000⟩,wide:=⟨0,5⟩,parcels:=⟨0,100⟩ } y) (zwt y):=
 ((zwC rfl rfl).and fun _=>(zwC rfl rfl).and fun _=>zwA.ret).imp Iff.rfl
theorem zwE{x y:Int}:zsw x y=some (decide (x < y)):=by
 unfold zsw zsv;rw[obs,if_neg (by simp)]
theorem zwF{l:List Int}(hl:zrG l):∀(d i:Nat),i < l.length->i < d->Ev (zsx l d (i:Int)) (∀j,j<=i->zwu l j)
 | 0,_,_,h=>by omega
 | d+1,i,hi,hd=>by
  unfold zrG at hl;unfold zsx
  cases i with
  | zero=>
   rw[if_neg (by omega)]
   exact Ev.tt fun j hj h0=>by omega
  | succ i=>
   have hg:=List.getElem?_eq_getElem hi;have hg0:=List.getElem?_eq_getElem (show i < l.length by omega)
   have e:((i+1:Nat):Int) - 1=(i:Int):=by omega
   rw[if_pos (by omega),zrw hg,obs,e,zqs (fI (by omega)),zrw hg0,obs,zwE,obs];have hso:zwu l (i+1)↔¬ l[i+1] < l[i]:=⟨fun h=>h (by omega) _ _ hg hg0,fun h _ x y hx hy=>by rw[hg] at hx; have hy:l[i]? = some y:=hy; rw[hg0] at hy; cases hx; cases hy; exact h⟩
   by_cases hc:l[i+1] < l[i]
   ·rw[decide_eq_true hc,if_pos rfl];exact Ev.ff fun h=>(hso.1 (h _ (Nat.le_refl _))) hc
   ·rw[decide_eq_false hc,if_neg (by decide),zqs (fI (by omega))]
    exact(zwF hl d i (by omega) (by omega)).imp ⟨fun h j hj=>by
     rcases Nat.lt_or_eq_of_le hj with h1 | h1
     ·exact h j (by omega)
     ·subst h1; exact hso.2 hc,fun h j hj=>h j (by omega)⟩
theorem zwG{l:List Int}(hl:l.length<=1000):Ev (zsy l) (∀j,j < l.length->zwu l j):=by
 unfold zsy;refine Ev.gd (fI (by omega)) ?_
 cases hn:l.length with
 | zero=>
  show Ev (zsx l (999999+1) _) _
  rw[zsx,if_neg (by omega)]
  exact Ev.tt fun j hj=>by omega
 | succ n=>
  rw[show((n+1:Nat):Int) - 1=(n:Int) by omega];exact(zwF (zrH hl (by omega)) 1000000 n (by omega) (by omega)).imp ⟨fun h j hj=>h j (by omega),fun h j hj=>h j (by omega)⟩
theorem zwH{r:Rl}(hl:r.Price.length<=1000):Ev (zsL r) ((r.Price.length:Int)=r.Classes/\(∀x∈r.Price,1<=x/\x<=10000)/\∀j,j < r.Price.length->zwu r.Price j):=by
 unfold zsL;exact Ev.ite fun _=>(Ev.each (q:=fun x=>1<=x/\x<=10000) (fun a _=>zwA) (by omega) gI).and fun _=>(zwG hl).ret
theorem zwI{r:Rl}(hl:r.Price.length<=1000):Ev (zsM r) (zwv r):=by
 unfold zsM;refine(Ev.ite fun _=>(zwB (a:=0) (b:=300) (r:=⟨r.Good,r.Bad⟩)).and fun _=>(zwA (r:=⟨0,4⟩) (n:=r.Rest)).and fun _=>(zwA (r:=⟨0,100⟩) (n:=r.Fewest)).and fun _=>(zwH hl).ret).imp ?_;exact⟨fun⟨a,b,c,d,e,f,g⟩=>⟨by omega,e,b,c,d,f,g⟩,fun⟨a,b,c,d,e,f,g⟩=>⟨by omega,c,d,e,b,f,g⟩⟩
theorem zwJ{r:Rl}{z:Zn}(hz:z.Years.length<=1000)(hr:zwv r)(hl:r.Price.length<=1000):Ev (zsO r z) ((0<=z.First/\z.First<=r.Classes - 1)/\∀y∈z.Years,zwt y):=by
 unfold zsO zsN;have:=hr.pl;have:=hr.c0
 show Ev ((gd (zl6 .i64 (r.Classes - 1)) _).bind _) _
 rw[zqs (fI (by omega))];refine(show Ev ((zso ⟨0,r.Classes - 1⟩ z.First).bind fun r=>some r) (0<=z.First/\z.First<=r.Classes - 1) from zwA.ret).and fun _=>(Ev.each (q:=zwt) (fun a _=>zwD) (by omega) gY).ret
theorem zwK{r:Rl}{z:Zn}(h1:r.Price.length<=1000)(h2:z.Years.length<=1000):zsS r z=some (zwy r z):=by
 unfold zsS zwy zwx
 by_cases c1:6 < r.Classes
 ·rw[if_pos c1,if_pos (.inl c1)]
 rw[if_neg c1]
 by_cases c2:6 < z.Years.length
 ·rw[if_pos (by omega),if_pos (.inr c2)]
 rw[if_neg (by omega),if_neg (show ¬ (6 < r.Classes\/6 < z.Years.length) by omega)]
 refine(zwI h1).pick (fun h=>?_) fun h=>by rw[if_neg (by decide),if_neg fun h'=>h h'.rl]
 rw[if_pos rfl]
 refine(zwJ h2 h h1).pick (fun h'=>?_) fun h'=>by rw[if_neg (by decide),if_neg fun h9=>h' ⟨h9.first,h9.ys⟩]
 rw[if_pos rfl,if_pos ⟨h,h'.1,h'.2⟩]
theorem zwL{n lo hi:Int}:Ev (zsa n lo hi) (lo<=n/\n<=hi):=Ev.ite fun _=>Ev.dec Iff.rfl
theorem zwM{r:Rg}:Ev (zsb r) (RgP r):=by
 unfold zsb;exact Ev.ite fun _=>Ev.ite fun _=>Ev.ite fun _=>Ev.gd (fI (by omega)) (Ev.dec Iff.rfl)
theorem zwN{r:Rl}{z:Zn}(h1:r.Price.length<=1000)(h2:z.Years.length<=1000):zsd r z=some (zwy r z):=by
 unfold zsd zwy zwx
 by_cases c1:6 < r.Classes
 ·rw[if_pos c1,if_pos (.inl c1)]
 rw[if_neg c1]
 by_cases c2:6 < z.Years.length
 ·rw[if_pos (by omega),if_pos (.inr c2)]
 rw[if_neg (by omega),if_neg (show ¬ (6 < r.Classes\/6 < z.Years.length) by omega)]
 by_cases c3:r.Classes < 1
 ·rw[if_pos c3,if_neg fun h=>by have:=h.rl.c0; omega]
 rw[if_neg c3]
 by_cases c4:(r.Price.length:Int)=r.Classes
 rotate_left
 ·rw[if_neg c4,if_neg fun h=>c4 h.rl.pl]
 rw[if_pos c4]
 refine zwL.pick (fun c5=>?_) fun c5=>by rw[if_neg (by decide),if_neg fun h=>c5 ⟨h.rl.gb.1,h.rl.gb.2.1⟩]
 rw[if_pos rfl]
 by_cases c6:300 < r.Bad
 ·rw[if_pos c6,if_neg fun h=>by have:=h.rl.gb; omega]
 rw[if_neg c6]
 refine zwL.pick (fun c7=>?_) fun c7=>by rw[if_neg (by decide),if_neg fun h=>c7 h.rl.rest]
 rw[if_pos rfl]
 refine zwL.pick (fun c8=>?_) fun c8=>by rw[if_neg (by decide),if_neg fun h=>c8 h.rl.few]
 rw[if_pos rfl,zqs (fI (by omega))]
 refine zwL.pick (fun c9=>?_) fun c9=>by rw[if_neg (by decide),if_neg fun h=>c9 h.first]
 rw[if_pos rfl]
 have kY:=zrF (l:=z.Years) (F:=fun d x=>prFault_L1 z d x) (ok:=zwt) (bad:=some 1) (fin:=some 0) (fun d k a hk=>by
  have hkl:=(List.getElem?_eq_some_iff.1 hk).1
  show(zwt a->prFault_L1 z (d+1) (k:Int)=_)/\(¬ zwt a->prFault_L1 z (d+1) (k:Int)=_)
  rw[prFault_L1,if_pos (by omega),zrw hk,obs];refine⟨fun h=>?_,fun h=>?_⟩
  ·rw[zwM.some_of h.1,obs,if_pos rfl,zwM.some_of h.2.1,obs,if_pos rfl,zwL.some_of h.2.2,obs,if_pos rfl,zqs (fI (by omega))]
  ·refine zwM.pick (fun a1=>?_) fun _=>by rw[if_neg (by decide)]
   rw[if_pos rfl]
   refine zwM.pick (fun a2=>?_) fun _=>by rw[if_neg (by decide)]
   rw[if_pos rfl]
   refine zwL.pick (fun a3=>absurd ⟨a1,a2,a3⟩ h) fun _=>by rw[if_neg (by decide)]) (fun d=>by show prFault_L1 z (d+1) _=_; rw[prFault_L1,if_neg (Int.lt_irrefl _)]) (d:=1000000) (by omega)
 have kP:=zrA (n:=r.Price.length) (F:=fun d x=>zsc r z d 0 x) (ok:=fun j=>(∀x,r.Price[j]? = some x->1<=x/\x<=10000)/\zwu r.Price j) (bad:=some 1) (fin:=prFault_L1 z 1000000 0) (fun d k hk=>by
  have hg:=List.getElem?_eq_getElem hk;have hk':=hk
  show(_->zsc r z (d+1) 0 (k:Int)=_)/\(_->zsc r z (d+1) 0 (k:Int)=_)
  rw[zsc,if_pos (by omega),zrw hg,obs];have e1:(∀x,r.Price[k]? = some x->1<=x/\x<=10000)↔(1<=r.Price[k]/\r.Price[k]<=10000):=⟨fun h=>h _ hg,fun h x hx=>by rw[hg] at hx; cases hx; exact h⟩;rw[e1]
  by_cases q1:1<=r.Price[k]/\r.Price[k]<=10000
  rotate_left
  ·rw[zwL.some_not q1,obs,if_neg (by decide)];exact⟨fun h=>absurd h.1 q1,fun _=>rfl⟩
  rw[zwL.some_of q1,obs,if_pos rfl]
  cases k with
  | zero=>
   rw[if_neg (by omega),zqs (fI (by omega))];exact⟨fun _=>rfl,fun h=>absurd ⟨q1,fun h0=>by omega⟩ h⟩
  | succ i=>
   have hg0:=List.getElem?_eq_getElem (show i < r.Price.length by omega)
   have e:((i+1:Nat):Int) - 1=(i:Int):=by omega
   rw[if_pos (by omega),obs,e,zqs (fI (by omega)),zrw hg0,obs];have hso:zwu r.Price (i+1)↔¬ r.Price[i+1] < r.Price[i]:=⟨fun h=>h (by omega) _ _ hg hg0,fun h _ x y hx hy=>by rw[hg] at hx; have hy:r.Price[i]? = some y:=hy; rw[hg0] at hy; cases hx; cases hy; exact h⟩
   by_cases hc:r.Price[i+1] < r.Price[i]
   ·rw[if_pos hc]; exact⟨fun h=>absurd hc (hso.1 h.2),fun _=>rfl⟩
   ·rw[if_neg hc,zqs (fI (by omega))]; exact⟨fun _=>rfl,fun h=>absurd ⟨q1,hso.2 hc⟩ h⟩) (fun d=>by show zsc r z (d+1) 0 _=_; rw[zsc,if_neg (Int.lt_irrefl _)]) (d:=1000000) (by omega)
 by_cases q:∀j,j < r.Price.length->(∀x,r.Price[j]? = some x->1<=x/\x<=10000)/\zwu r.Price j
 rotate_left
 ·have:=kP.2 q;have this:zsc r z 1000000 0 0=some 1:=this;rw[this,if_neg fun h=>q fun j hj=>⟨fun x hx=>h.rl.pr x (List.mem_of_getElem? hx),h.rl.so j hj⟩]
 have e:=kP.1 q;have e:zsc r z 1000000 0 0=prFault_L1 z 1000000 0:=e;rw[e]
 have hrl:zwv r:=⟨by omega,c4,⟨c5.1,c5.2,by omega⟩,c7,c8,fun x hx=>by
  obtain⟨i,hi⟩:=List.mem_iff_getElem?.1 hx
  exact(q i (List.getElem?_eq_some_iff.1 hi).1).1 x hi,fun j hj=>(q j hj).2⟩
 by_cases qy:∀y∈z.Years,zwt y
 ·rw[if_pos ⟨hrl,c9,qy⟩]; exact kY.1 qy
 ·rw[if_neg fun h=>qy h.ys]; exact kY.2 qy
end
end Go.Proofs.Ytlpjlgmoaipoiaa

namespace Go.Proofs.Ytlpjlgmoaipoiaa
open _root_.Go.Proofs.Try
open Go.Abs
set_option maxRecDepth 100000
noncomputable section
def zwO(r:Rl)(y:Yr):Bool:=!y.Exempt && decide (r.Fewest<=y.Parcels)
def kN(r:Rl)(y:Yr)(l p:Int):Int:=if zwO r y=true then (if l * 100 < p * r.Good then 1 else if p * r.Bad < l * 100 then 2 else 3) else 0
theorem zwP{r:Rl}{y:Yr}:zsY r y=some (zwO r y):=by
 unfold zsY zwO
 cases y.Exempt <;> simp
theorem zwQ(r:Rl)(y:Yr)(l p:Int):0<=kN r y l p/\kN r y l p < 4:=by
 unfold kN
 split
 ·split
  ·omega
  ·split <;> omega
 ·omega
theorem zwR{r:Rl}{y:Yr}{l p:Int}:kN r y l p=0↔zwO r y=false:=by
 unfold kN
 cases zwO r y with
 | true=>
  rw[if_pos rfl]
  constructor
  ·intro h; split at h
   ·omega
   ·split at h <;> omega
  ·intro h; cases h
 | false=>simp
theorem zwS{a b:Int}(h1:0<=a/\a<=10000)(h2:0<=b/\b<=300):0<=a * b/\a * b<=3000000:=
 ⟨Int.mul_nonneg h1.1 h2.1,by have:a * b<=10000 * 300:=Int.mul_le_mul h1.2 h2.2 h2.1 (by omega); omega⟩
theorem zwT{r:Rl}(h:zwv r){y:Yr}{l p:Int}(hl:0<=l/\l<=10000)(hp:0<=p/\p<=10000):zsZ r y l p=some (kN r y l p):=by
 have hg:=h.gb;have m1:=zwS hp (b:=r.Good) (by omega);have m2:=zwS hp (b:=r.Bad) (by omega);unfold zsZ kN;rw[zwP,obs]
 by_cases hc:zwO r y=true
 rotate_left
 ·rw[if_neg hc,if_neg hc]
 rw[if_pos hc,if_pos hc,zqs hl.1,zqs (by omega),zqs (fI (by omega)),zqs hp.1,zqs (by omega),zqs (fI (by omega))]
 by_cases h1:l * 100 < p * r.Good
 ·rw[if_pos h1,if_pos h1]
 ·rw[if_neg h1,if_neg h1,zqs hl.1,zqs (by omega),zqs (fI (by omega)),zqs hp.1,zqs (by omega),zqs (fI (by omega))]
  split <;> rfl
def mkP(f:Nat->Bool):P4:=⟨f 0,f 1,f 2,f 3⟩
def upF{α:Type}(f:Nat->α)(k:Nat)(a:α):Nat->α:=fun j=>if j=k then a else f j
theorem zwU{α:Type}(f:Nat->α){i:Int}(hi:0<=i)(a:α)(j:Nat):sti i j a (f j)=upF f i.toNat a j:=by
 unfold sti upF
 by_cases h:j=i.toNat
 ·rw[if_pos h,if_pos (by omega)]
 ·rw[if_neg h,if_neg (by omega)]
theorem zwV(f:Nat->Bool)(i k:Nat):upF f i true k=true↔f k=true\/i=k:=by
 unfold upF
 by_cases h:k=i
 ·rw[if_pos h]; exact⟨fun _=>.inr h.symm,fun _=>rfl⟩
 ·rw[if_neg h]; exact⟨.inl,fun h'=>h'.elim id fun h2=>absurd h2.symm h⟩
theorem zwW{f g:Nat->Bool}(h:∀k,k < 4->(f k=true↔g k=true)):mkP f=mkP g:=by
 have e:∀k,k < 4->f k=g k:=fun k hk=>Bool.eq_iff_iff.2 (h k hk);unfold mkP;rw[e 0 (by omega),e 1 (by omega),e 2 (by omega),e 3 (by omega)]
def zwX(r:Rg):List Int:=segI r.Lo (r.Hi - r.Lo+1).toNat
def kB(r:Rl)(y:Yr)(k:Nat):Bool:=(zwX y.Losses).any fun l=>(zwX y.Premiums).any fun p=>kN r y l p == (k:Int)
def zwY(r:Rl)(y:Yr)(k:Int):Prop:=∃l p,(y.Losses.Lo<=l/\l<=y.Losses.Hi)/\(y.Premiums.Lo<=p/\p<=y.Premiums.Hi)/\kN r y l p=k
theorem zwZ{r:Rg}{x:Int}:x∈zwX r↔r.Lo<=x/\x<=r.Hi:=by
 unfold zwX;rw[zrP]
 omega
theorem zw0{r:Rl}{y:Yr}{k:Nat}:kB r y k=true↔zwY r y (k:Int):=by
 unfold kB zwY;rw[List.any_eq_true]
 constructor
 ·rintro⟨l,hl,h⟩
  obtain⟨p,hp,h⟩:=List.any_eq_true.1 h;exact⟨l,p,zwZ.1 hl,zwZ.1 hp,of_decide_eq_true h⟩
 ·rintro⟨l,p,hl,hp,h⟩
  exact⟨l,zwZ.2 hl,List.any_eq_true.2 ⟨p,zwZ.2 hp,decide_eq_true h⟩⟩
theorem zw1{r:Rl}(h:zwv r){y:Yr}:∀(l:List (List Int)) (f:Nat->Bool),(∀a∈l,∃x p,a=[x,p]/\(0<=x/\x<=10000)/\0<=p/\p<=10000) ->
  ∃g:Nat->Bool,pwithin_L0 r y l (f 0) (f 1) (f 2) (f 3)=some (mkP g)/\∀k,g k=true↔f k=true\/∃x p,[x,p]∈l/\kN r y x p=(k:Int)
 | [],f,_=>⟨f,rfl,fun k=>⟨.inl,fun h=>h.elim id fun⟨_,_,h,_⟩=>by cases h⟩⟩
 | a::l,f,hl=>by
  obtain⟨x,p,rfl,hx,hp⟩:=hl a (List.mem_cons_self ..);have hb:=zwQ r y x p;obtain⟨g,h1,h2⟩:=zw1 h (y:=y) l (upF f (kN r y x p).toNat true) fun b hb=>hl b (List.mem_cons_of_mem _ hb);refine⟨g,?_,fun k=>(h2 k).trans ?_⟩
  ·unfold pwithin_L0;rw[show idx [x,p] 0=some x from rfl,obs,show idx [x,p] 1=some p from rfl,obs,zwT h hx hp,obs,zqs ⟨hb.1,hb.2⟩,zwU f hb.1,zwU f hb.1,zwU f hb.1,zwU f hb.1];exact h1
  ·rw[zwV]
   constructor
   ·rintro ((h3 | h3) | ⟨x',p',h3,h4⟩)
    ·exact .inl h3
    ·exact .inr ⟨x,p,List.mem_cons_self ..,by omega⟩
    ·exact .inr ⟨x',p',List.mem_cons_of_mem _ h3,h4⟩
   ·rintro (h3 | ⟨x',p',h3,h4⟩)
    ·exact .inl (.inl h3)
    ·rcases List.mem_cons.1 h3 with h5 | h5
     ·injection h5 with e1 e2
      injection e2 with e2 _
      subst e1 e2;exact .inl (.inr (by omega))
     ·exact .inr ⟨x',p',h5,h4⟩
theorem zw2{a b:Rg}{x p:Int}:[x,p]∈chW [a,b] []↔(a.Lo<=x/\x<=a.Hi)/\b.Lo<=p/\p<=b.Hi:=by
 show[x,p]∈zrl (fun n=>zrl (fun m=>[([]++[a.Lo+(n:Int)])++[b.Lo+(m:Int)]]) (szR b).toNat 0) (szR a).toNat 0↔_
 rw[zvp];unfold szR
 constructor
 ·rintro⟨n,_,hn,h⟩
  rw[zvp] at h;obtain⟨m,_,hm,h⟩:=h;have h:=List.mem_singleton.1 h
  injection h with e1 e2
  injection e2 with e2 _
  omega
 ·intro h;refine⟨(x - a.Lo).toNat,by omega,by omega,(zvp _ _ _ _).2 ⟨(p - b.Lo).toNat,by omega,by omega,List.mem_singleton.2 ?_⟩⟩;rw[show a.Lo+((x - a.Lo).toNat:Int)=x by omega,show b.Lo+((p - b.Lo).toNat:Int)=p by omega]; rfl
theorem zw3{a b:Rg}{l:List Int}(h:l∈chW [a,b] []):∃x p,l=[x,p]:=by
 have h:l∈zrl (fun n=>zrl (fun m=>[([]++[a.Lo+(n:Int)])++[b.Lo+(m:Int)]]) (szR b).toNat 0) (szR a).toNat 0:=h;rw[zvp] at h;obtain⟨n,_,hn,h⟩:=h;rw[zvp] at h;obtain⟨m,_,hm,h⟩:=h;exact⟨_,_,List.mem_singleton.1 h⟩
theorem zw4{r:Rl}(h:zwv r){y:Yr}(hy:zwt y):zty r y=some (mkP (kB r y)):=by
 obtain⟨h1,h2,_⟩:=hy;unfold RgP at h1 h2;unfold zty ztv
 rw[zqs ⟨by simp,fun a ha=>by
  unfold okR
  rcases List.mem_cons.1 ha with rfl | ha
  ·omega
  ·rw[List.mem_singleton.1 ha]; omega⟩,obs]
 obtain⟨g,e1,e2⟩:=zw1 h (y:=y) (chW [y.Losses,y.Premiums] []) (fun _=>false) fun a ha=>by
  obtain⟨x,p,rfl⟩:=zw3 ha;have:=zw2.1 ha;exact⟨x,p,rfl,by omega,by omega⟩
 have e1:pwithin_L0 r y (chW [y.Losses,y.Premiums] []) false false false false=some (mkP g):=e1;rw[e1]
 congr 1
 refine zwW fun k _=>(e2 k).trans ?_;rw[zw0];unfold zwY
 constructor
 ·rintro (h3 | ⟨x,p,h3,h4⟩)
  ·cases h3
  ·exact⟨x,p,(zw2.1 h3).1,(zw2.1 h3).2,h4⟩
 ·rintro⟨x,p,h3,h4,h5⟩
  exact .inr ⟨x,p,zw2.2 ⟨h3,h4⟩,h5⟩
def step(r:Rl)(k:Int)(s:Stt):Stt:=if k=2 then ⟨min (s.cls+1) (r.Classes - 1),0⟩ else if k=1 then ⟨if s.since=r.Rest then max 0 (s.cls - 1) else s.cls,min (s.since+1) r.Rest⟩ else if k=3 then ⟨s.cls,min (s.since+1) r.Rest⟩ else s
def SOk(r:Rl)(s:Stt):Prop:=(0<=s.cls/\s.cls<=r.Classes - 1)/\0<=s.since/\s.since<=r.Rest
theorem zw5{r:Rl}(h:zwv r)(k:Int){s:Stt}(hs:SOk r s):SOk r (step r k s):=by
 have h1:=h.rest;have h2:=h.c0;unfold SOk at hs;unfold step SOk
 split
 ·exact⟨⟨by show(0:Int)<=min _ _; omega,by show min _ _<=_; omega⟩,by show(0:Int)<=0; omega,by show(0:Int)<=_; omega⟩
 ·split
  ·refine⟨?_,by show(0:Int)<=min _ _; omega,by show min _ _<=_; omega⟩
   show 0<=(if s.since=r.Rest then max 0 (s.cls - 1) else s.cls)/\(if s.since=r.Rest then max 0 (s.cls - 1) else s.cls)<=r.Classes - 1
   split <;> omega
  ·split
   ·exact⟨hs.1,by show(0:Int)<=min _ _; omega,by show min _ _<=_; omega⟩
   ·exact hs
def zw6(r:Rl)(s:Stt)(ks:List Int):Stt:=ks.foldl (fun s k=>step r k s) s
def zw7(r:Rl):Stt->List Int->List Int
 | _,[]=>[]
 | s,k::ks=>(step r k s).cls::zw7 r (step r k s) ks
theorem zw8{r:Rl}(h:zwv r):∀(ks:List Int) {s:Stt},SOk r s->SOk r (zw6 r s ks)
 | [],_,hs=>hs
 | k::ks,_,hs=>zw8 h ks (zw5 h k hs)
theorem zw9(r:Rl)(s:Stt)(a b:List Int):zw6 r s (a++b)=zw6 r (zw6 r s a) b:=List.foldl_append
theorem zxa(r:Rl)(s:Stt)(a:List Int)(k:Int):zw6 r s (a++[k])=step r k (zw6 r s a):=zw9 r s a [k]
theorem zxb(r:Rl):∀(a b:List Int) (s:Stt),zw7 r s (a++b)=zw7 r s a++zw7 r (zw6 r s a) b
 | [],_,_=>rfl
 | k::a,b,s=>congrArg ((step r k s).cls :: ·) (zxb r a b (step r k s))
theorem zxc(r:Rl):∀(a:List Int) (s:Stt),(zw7 r s a).length=a.length
 | [],_=>rfl
 | k::a,s=>congrArg (· + 1) (zxc r a (step r k s))
theorem zxd(r:Rl):∀(a:List Int) (s:Stt) (i:Nat),i < a.length->(zw7 r s a)[i]? = some (zw6 r s (a.take (i+1))).cls
 | [],_,_,h=>by simp at h
 | k::a,s,0,_=>rfl
 | k::a,s,i+1,h=>zxd r a (step r k s) i (by simp at h; omega)
theorem zxe{l:List Int}{k:Nat}{x:Int}(h:l[k]? = some x):l.take (k+1)=l.take k++[x]:=by rw[List.take_add_one,h]; rfl
def zxf:K4:={ k0:={ lead:=fun a b=>zsT a b },k1:={ lead:=fun a b=>zsV a b },k2:={ lead:=fun a b=>zsW a b },k3:={ lead:=fun a b=>zsU a b } }
theorem zxg:zsX=some zxf:=rfl
theorem zxh{r:Rl}{s:Stt}:zsT r s=some (step r 0 s):=rfl
theorem zxi{r:Rl}(h:zwv r){s:Stt}(hs:SOk r s):zsU r s=some (step r 3 s):=by
 have:=h.rest;unfold SOk at hs;unfold zsU;rw[zqs (fI (by omega))]; rfl
theorem zxj{r:Rl}(h:zwv r)(hc:r.Classes<=6){s:Stt}(hs:SOk r s):zsV r s=some (step r 1 s):=by
 have hs':=hs;unfold SOk at hs';unfold zsV;rw[zxi h hs,obs];unfold step
 by_cases hr:s.since=r.Rest
 ·rw[if_pos hr,zqs (fI (by omega)),if_neg (by decide),if_pos rfl,if_pos hr]; rfl
 ·rw[if_neg hr,if_neg (by decide),if_pos rfl,if_neg hr]; rfl
theorem zxk{r:Rl}(h:zwv r)(hc:r.Classes<=6){s:Stt}(hs:SOk r s):zsW r s=some (step r 2 s):=by
 have:=h.c0;unfold SOk at hs;unfold zsW;rw[zqs (fI (by omega)),zqs (fI (by omega))]; rfl
def zxl(r:Rl)(z:Zn):Wk:={ r:=r,zone:=z,kinds:=zxf,can:=z.Years.map fun y=>mkP (kB r y) }
theorem zxm{r:Rl}{z:Zn}(h:VZ r z):ztA r z=some (zxl r z,0):=by
 have h6:=h.y6;have hpl:=h.full.rl.pl;have hc6:=h.c6;unfold ztA;rw[zwK (by omega) (by omega),obs,zwz.2 h,if_pos rfl,zxg,obs]
 exact zrC (l:=z.Years) (fun y=>mkP (kB r y)) (F:=fun d acc x=>ztz r z zxf d r.Classes r.Good r.Bad r.Rest r.Fewest z.First acc x) (fun acc=>some (({ r:=r,zone:=z,kinds:=zxf,can:=acc }:Wk),(0:Int))) (fun d k acc a hk ha=>by
  have hkl:=(List.getElem?_eq_some_iff.1 hk).1
  show ztz r z zxf (d+1) _ _ _ _ _ _ _ _=_
  rw[ztz,if_pos (by omega),zrw hk,obs,zw4 h.full.rl (h.full.ys a (List.mem_of_getElem? hk)),obs,zqs (by omega),zqs (fI (by omega))]) (fun d acc=>by
  show ztz r z zxf (d+1) _ _ _ _ _ _ _ _=_
  rw[ztz,if_neg (Int.lt_irrefl _)]) (by omega)
theorem zxn{z:Zn}(h:z.Years.length<=1000){n:Int}:Ev (zsP z n) (0<=n/\n<=(z.Years.length:Int) - 1):=by
 unfold zsP;refine Ev.gd (fI (by omega)) ?_;exact(show Ev (zso { Lo:=0,Hi:=(z.Years.length:Int) - 1 } n) _ from zwA).ret
theorem zxo{r:Rl}{z:Zn}(h:VZ r z){n:Int}(hn:0<=n/\n<=(z.Years.length:Int) - 1):ztB r z n=some (zxl r z,0):=by
 have:=h.y6;unfold ztB;rw[zxm h,obs,if_pos rfl,(zxn (by omega)).some_of hn,obs,if_pos rfl]
def zxp(z:Zn)(t:Tr)(j:Nat):Prop:=∀(y:Yr) (a b:Int),z.Years[j]? = some y->t.Losses[j]? = some a->t.Premiums[j]? = some b->(y.Losses.Lo<=a/\a<=y.Losses.Hi)/\y.Premiums.Lo<=b/\b<=y.Premiums.Hi
structure zxq (z:Zn) (t:Tr):Prop where
 l:t.Losses.length=z.Years.length
 p:t.Premiums.length=z.Years.length
 ok:∀j,zxp z t j
theorem zxr{z:Zn}{t:Tr}(h:z.Years.length<=1000):Ev (zsR z t) (zxq z t):=by
 unfold zsR;refine(Ev.ite (K:=t.Premiums.length=z.Years.length/\(∀j,j < z.Years.length->zxp z t j)/\True) fun h1=>(Ev.ite fun h2=>Ev.loop (n:=z.Years.length) (F:=fun d x=>zsQ z t d x) (ok:=fun j=>zxp z t j) (fin:=some true) (P:=True) (fun d k hk=>?_) (fun d=>?_) (by omega) fun _=>Ev.tt trivial).imp (and_congr_left fun _=>by omega)).imp ?_
 ·have hg:=List.getElem?_eq_getElem hk;have ha:=List.getElem?_eq_getElem (show k < t.Losses.length by omega);have hb:=List.getElem?_eq_getElem (show k < t.Premiums.length by omega)
  show(_->zsQ z t (d+1) (k:Int)=_)/\(_->zsQ z t (d+1) (k:Int)=_)
  rw[zsQ,if_pos (by omega),zrw hg,obs,zrw ha,obs]
  have e:zxp z t k↔((z.Years[k].Losses.Lo<=t.Losses[k]/\t.Losses[k]<=z.Years[k].Losses.Hi)/\z.Years[k].Premiums.Lo<=t.Premiums[k]/\t.Premiums[k]<=z.Years[k].Premiums.Hi):=by
   unfold zxp;rw[hg,ha,hb];exact⟨fun q=>q _ _ _ rfl rfl rfl,fun q y a b h1 h2 h3=>by cases h1; cases h2; cases h3; exact q⟩
  rw[e]
  by_cases c1:z.Years[k].Losses.Lo<=t.Losses[k]/\t.Losses[k]<=z.Years[k].Losses.Hi
  ·rw[zwA.some_of c1,obs,if_pos rfl,zrw hb,obs]
   by_cases c2:z.Years[k].Premiums.Lo<=t.Premiums[k]/\t.Premiums[k]<=z.Years[k].Premiums.Hi
   ·rw[zwA.some_of c2,obs,if_pos rfl,zqs (fI (by omega))];exact⟨fun _=>rfl,fun q=>absurd ⟨c1,c2⟩ q⟩
   ·rw[zwA.some_not c2,obs,if_neg (by decide)];exact⟨fun q=>absurd q.2 c2,fun _=>rfl⟩
  ·rw[zwA.some_not c1,obs,if_neg (by decide)];exact⟨fun q=>absurd q.1 c1,fun _=>rfl⟩
 ·show zsQ z t (d+1) _=_
  rw[zsQ,if_neg (Int.lt_irrefl _)]
 ·exact⟨fun⟨h1,h2,h3,_⟩=>⟨by omega,h2,fun j y a b hy=>h3 j (List.getElem?_eq_some_iff.1 hy).1 y a b hy⟩,fun⟨h1,h2,h3⟩=>⟨by omega,h2,fun j _=>h3 j,trivial⟩⟩
def ktL(r:Rl):List Yr->List Int->List Int->List Int
 | y::ys,a::us,b::vs=>kN r y a b::ktL r ys us vs
 | [],_,_=>[]
 | _::_,[],_=>[]
 | _::_,_::_,[]=>[]
theorem zxs{r:Rl}:∀{ys:List Yr} {us vs:List Int},us.length=ys.length->vs.length=ys.length->(ktL r ys us vs).length=ys.length
 | [],_,_,_,_=>rfl
 | y::ys,a::us,b::vs,h1,h2=>by
  show(ktL r ys us vs).length+1=ys.length+1
  rw[zxs (by simpa using h1) (by simpa using h2)]
 | y::ys,[],_,h1,_=>by simp at h1
 | y::ys,_::_,[],_,h2=>by simp at h2
theorem zxt{r:Rl}:∀{ys:List Yr} {us vs:List Int} {k:Nat} {y:Yr} {a b:Int},ys[k]? = some y->us[k]? = some a->vs[k]? = some b->(ktL r ys us vs)[k]? = some (kN r y a b)
 | [],_,_,_,_,_,_,h,_,_=>by simp at h
 | _::_,[],_,_,_,_,_,_,h,_=>by simp at h
 | _::_,_::_,[],_,_,_,_,_,_,h=>by simp at h
 | y::ys,a::us,b::vs,0,_,_,_,h1,h2,h3=>by cases h1; cases h2; cases h3; rfl
 | y::ys,a::us,b::vs,k+1,_,_,_,h1,h2,h3=>zxt (ys:=ys) (us:=us) (vs:=vs) (k:=k) h1 h2 h3
def st0(r:Rl)(z:Zn):Stt:=⟨z.First,r.Rest⟩
def ktN(r:Rl)(z:Zn)(t:Tr):List Int:=ktL r z.Years t.Losses t.Premiums
def zxu(r:Rl)(z:Zn)(t:Tr):List Int:=zw7 r (st0 r z) (ktN r z t)
theorem VZ.st0{r:Rl}{z:Zn}(h:VZ r z):SOk r (st0 r z):=by
 have h1:=h.full.first;have h2:=h.full.rl.rest;exact⟨h1,h2.1,Int.le_refl _⟩
theorem zxv{r:Rl}(h:zwv r)(hc:r.Classes<=6){s:Stt}(hs:SOk r s){k:Int}(hk:0<=k/\k < 4){β:Type}{G:Stt->Option β} :
  (if k=0 then (zxf.k0.lead r s).bind G else if k=1 then (zxf.k1.lead r s).bind G else if k=2 then (zxf.k2.lead r s).bind G else if k=3 then (zxf.k3.lead r s).bind G else none)=G (step r k s):=by
 by_cases h0:k=0
 ·subst h0; rw[if_pos rfl,show zxf.k0.lead r s=some (step r 0 s) from zxh,obs]
 rw[if_neg h0]
 by_cases h1:k=1
 ·subst h1; rw[if_pos rfl,show zxf.k1.lead r s=some (step r 1 s) from zxj h hc hs,obs]
 rw[if_neg h1]
 by_cases h2:k=2
 ·subst h2; rw[if_pos rfl,show zxf.k2.lead r s=some (step r 2 s) from zxk h hc hs,obs]
 rw[if_neg h2]
 have h3:k=3:=by omega
 subst h3; rw[if_pos rfl,show zxf.k3.lead r s=some (step r 3 s) from zxi h hs,obs]
theorem zxw{r:Rl}{z:Zn}(h:VZ r z){t:Tr}(ht:zxq z t){k:Nat}(hk:k < z.Years.length) :
  ∃y a b,z.Years[k]? = some y/\t.Losses[k]? = some a/\t.Premiums[k]? = some b/\((y.Losses.Lo<=a/\a<=y.Losses.Hi)/\y.Premiums.Lo<=b/\b<=y.Premiums.Hi)/\(0<=a/\a<=10000)/\0<=b/\b<=10000:=by
 have h1:=ht.l;have h2:=ht.p;have hg:=List.getElem?_eq_getElem hk;have ha:=List.getElem?_eq_getElem (show k < t.Losses.length by omega);have hb:=List.getElem?_eq_getElem (show k < t.Premiums.length by omega);have hr:=ht.ok k _ _ _ hg ha hb;have hy:=h.full.ys _ (List.getElem_mem hk);obtain⟨q1,q2,_⟩:=hy;unfold RgP at q1 q2;exact⟨_,_,_,hg,ha,hb,hr,by omega,by omega⟩
theorem zxx{r:Rl}{z:Zn}{t:Tr}(ht:zxq z t):(ktN r z t).length=z.Years.length:=zxs ht.l ht.p
theorem zxy{r:Rl}{z:Zn}{t:Tr}{k:Nat}{y:Yr}{a b:Int}(h1:z.Years[k]? = some y)(h2:t.Losses[k]? = some a)(h3:t.Premiums[k]? = some b):(ktN r z t)[k]? = some (kN r y a b):=zxt h1 h2 h3
theorem zxz{r:Rl}{s:Stt}{ks:List Int}{k:Nat}{x:Int}(h:ks[k]? = some x):zw7 r s (ks.take (k+1))=zw7 r s (ks.take k)++[(step r x (zw6 r s (ks.take k))).cls]:=by
 rw[zxe h,zxb]; rfl
theorem zxA{r:Rl}{s:Stt}{ks:List Int}{k:Nat}{x:Int}(h:ks[k]? = some x):zw6 r s (ks.take (k+1))=step r x (zw6 r s (ks.take k)):=by
 rw[zxe h,zxa]
theorem zxB{r:Rl}{z:Zn}(h:VZ r z){t:Tr}(ht:zxq z t):zte (zxl r z) t=some (zxu r z t):=by
 have h6:=h.y6;have hl:=zxx (r:=r) ht;unfold zte ztc;rw[obs];refine zws (n:=z.Years.length) (fun d (s:Stt × List Int) x=>ztd (zxl r z) t d s.1.cls s.1.since s.2 x) (fun k=>(zw6 r (st0 r z) ((ktN r z t).take k),zw7 r (st0 r z) ((ktN r z t).take k))) (fun d k hk=>?_) (fun d=>?_) (z.Years.length+1) 0 (by omega) (by omega)
 ·obtain⟨y,a,b,hy,ha,hb,_,ha2,hb2⟩:=zxw h ht hk;have hkt:=zxy (r:=r) hy ha hb;have hs:=zw8 h.full.rl ((ktN r z t).take k) h.st0
  have hlen:(zw7 r (st0 r z) ((ktN r z t).take k)).length < 1048576:=by rw[zxc,List.length_take]; omega
  show ztd (zxl r z) t (d+1) (zw6 r (st0 r z) ((ktN r z t).take k)).cls (zw6 r (st0 r z) ((ktN r z t).take k)).since (zw7 r (st0 r z) ((ktN r z t).take k)) (k:Int)=ztd (zxl r z) t d (zw6 r (st0 r z) ((ktN r z t).take (k+1))).cls (zw6 r (st0 r z) ((ktN r z t).take (k+1))).since (zw7 r (st0 r z) ((ktN r z t).take (k+1))) ((k:Int)+1)
  rw[zxA hkt,zxz hkt];generalize zw7 r (st0 r z) ((ktN r z t).take k)=acc at hlen;generalize zw6 r (st0 r z) ((ktN r z t).take k)=s at hs;rw[ztd];refine(if_pos (show(k:Int) < ((zxl r z).zone.Years.length:Int) from by show(k:Int) < (z.Years.length:Int); omega)).trans ?_;rw[show idx (zxl r z).zone.Years (k:Int)=some y from zrw hy,obs,zrw ha,obs,zrw hb,obs,show zsZ (zxl r z).r y a b=_ from zwT h.full.rl ha2 hb2,obs];refine(zxv (r:=r) h.full.rl h.c6 hs (zwQ r y a b) (G:=fun s=>gd (acc.length < 1048576) (gd (zl6 .i64 ((k:Int)+1)) (ztd (zxl r z) t d s.cls s.since (acc++[s.cls]) ((k:Int)+1))))).trans ?_
  show gd _ (gd _ _)=_
  rw[zqs hlen,zqs (fI (by omega))]
 ·show ztd (zxl r z) t (d+1) _ _ _ _=_
  rw[ztd];refine(if_neg (show ¬ (z.Years.length:Int) < ((zxl r z).zone.Years.length:Int) from Int.lt_irrefl _)).trans ?_
  show some (zw7 r (st0 r z) ((ktN r z t).take z.Years.length))=_
  rw[<- hl,List.take_length]; rfl
theorem zxC{r:Rl}{z:Zn}(h:VZ r z){t:Tr}(ht:zxq z t):ztC r z t=some (zxu r z t,0):=by
 have:=h.y6;unfold ztC;rw[zxm h,obs,if_pos rfl,(zxr (by omega)).some_of ht,obs,if_pos rfl,zxB h ht,obs]
theorem zxD{r:Rl}{z:Zn}{t:Tr}(ht:zxq z t):(zxu r z t).length=z.Years.length:=by
 unfold zxu; rw[zxc,zxx ht]
def zxE(ks:List Int):Prop:=∀k∈ks,0<=k/\k < 4
def kl(p:P4):List Int:=(if p.p0=true then [0] else [])++((if p.p1=true then [1] else [])++((if p.p2=true then [2] else [])++if p.p3=true then [3] else []))
theorem zxF{p:P4}{k:Int}(h:k∈kl p):0<=k/\k < 4:=by
 unfold kl at h
 simp only[List.mem_append] at h
 rcases h with h | h | h | h <;> split at h <;> first | cases h; done | (rw[List.mem_singleton] at h; omega)
theorem zxG{f:Nat->Bool}{k:Int}:k∈kl (mkP f)↔(0<=k/\k < 4)/\f k.toNat=true:=by
 constructor
 ·intro h;refine⟨zxF h,?_⟩;unfold kl mkP at h
  simp only[List.mem_append] at h
  rcases h with h | h | h | h <;> split at h <;> first | (cases h; done) | (rename_i q; rw[List.mem_singleton] at h; rw[h]; exact q)
 ·rintro⟨hk,h⟩
  unfold kl mkP
  simp only[List.mem_append]
  have:k=0\/k=1\/k=2\/k=3:=by omega
  rcases this with rfl | rfl | rfl | rfl
  ·exact .inl (by rw[if_pos (show f 0=true from h)]; exact List.mem_singleton.2 rfl)
  ·exact .inr (.inl (by rw[if_pos (show f 1=true from h)]; exact List.mem_singleton.2 rfl))
  ·exact .inr (.inr (.inl (by rw[if_pos (show f 2=true from h)]; exact List.mem_singleton.2 rfl)))
  ·exact .inr (.inr (.inr (by rw[if_pos (show f 3=true from h)]; exact List.mem_singleton.2 rfl)))
theorem zxH{p:P4}{d:Nat}{i:Nat}{b:Bool}{l:List Int}(hi:i < 4)(hb:([p.p0,p.p1,p.p2,p.p3]:List Bool)[i]? = some b)(h:zs4 p d ((i:Int)+1)=some l):zs4 p (d+1) (i:Int)=some ((if b=true then [(i:Int)] else [])++l):=by
 rw[zs4,if_pos (by omega),zrw hb,obs,zqs (fI (by omega)),h]
 cases b <;> rfl
theorem zxI{p:P4}:zs6 p=some (kl p):=by
 have h4:zs4 p (0+1) (((3:Nat):Int)+1)=some []:=by rw[zs4,if_neg (by omega)]
 have h3:=zxH (i:=3) (by omega) rfl h4;have h2:=zxH (i:=2) (by omega) rfl h3;have h1:=zxH (i:=1) (by omega) rfl h2;have h0:=zxH (i:=0) (by omega) rfl h1;unfold zs6 zs5;have h0:zs4 p (Int.toNat 4+1) 0=_:=h0;rw[h0,obs,List.append_nil]; rfl
def zxJ(cs:List P4):List (List Int):=cs.foldl (fun all p=>all.flatMap fun l=>(kl p).map fun k=>l++[k]) [[]]
theorem zxK(cs:List P4)(p:P4):zxJ (cs++[p])=(zxJ cs).flatMap fun l=>(kl p).map fun k=>l++[k]:=by
 unfold zxJ;rw[List.foldl_append]; rfl
theorem zxL{cs:List P4}{p:P4}{l:List Int}:l∈zxJ (cs++[p])↔∃l' k,l'∈zxJ cs/\k∈kl p/\l=l'++[k]:=by
 rw[zxK,List.mem_flatMap]
 constructor
 ·rintro⟨l',h1,h2⟩
  obtain⟨k,h3,h4⟩:=List.mem_map.1 h2;exact⟨l',k,h1,h3,h4.symm⟩
 ·rintro⟨l',k,h1,h2,rfl⟩
  exact⟨l',h1,List.mem_map.2 ⟨k,h2,rfl⟩⟩
theorem zxM{α:Type}{l:List α}{k:Nat}{x:α}(h:l[k]? = some x):l.take (k+1)=l.take k++[x]:=by rw[List.take_add_one,h]; rfl
def Fit(ks:List Int)(cs:List P4):Prop:=ks.length=cs.length/\∀(i:Nat) (k:Int) (p:P4),ks[i]? = some k->cs[i]? = some p->k∈kl p
theorem zxN{cs:List P4}{p:P4}{l:List Int}:Fit l (cs++[p])↔∃l' k,Fit l' cs/\k∈kl p/\l=l'++[k]:=by
 unfold Fit
 constructor
 ·rintro⟨h1,h2⟩
  rw[List.length_append] at h1
  simp only[List.length_cons,List.length_nil] at h1
  have hl:cs.length < l.length:=by omega
  have hg:=List.getElem?_eq_getElem hl;refine⟨l.take cs.length,l[cs.length],⟨by rw[List.length_take]; omega,fun i k q hi hq=>?_⟩,h2 cs.length _ p hg (by rw[List.getElem?_append_right (Nat.le_refl _),Nat.sub_self]; rfl),?_⟩
  ·have hi':=(List.getElem?_eq_some_iff.1 hq).1;rw[List.getElem?_take,if_pos hi'] at hi;exact h2 i k q hi (by rw[List.getElem?_append_left hi']; exact hq)
  ·rw[<- zxM hg,List.take_of_length_le (by omega)]
 ·rintro⟨l',k,⟨h1,h2⟩,h3,rfl⟩
  refine⟨by rw[List.length_append,List.length_append,h1]; rfl,fun i k' q hi hq=>?_⟩
  rcases Nat.lt_or_ge i cs.length with h4 | h4
  ·rw[List.getElem?_append_left (by omega)] at hi;rw[List.getElem?_append_left h4] at hq;exact h2 i k' q hi hq
  ·have h5:=(List.getElem?_eq_some_iff.1 hq).1;rw[List.length_append] at h5
   simp only[List.length_cons,List.length_nil] at h5
   have e:i=cs.length:=by omega
   subst e;rw[List.getElem?_append_right (Nat.le_refl _),Nat.sub_self] at hq;rw[<- h1,List.getElem?_append_right (Nat.le_refl _),Nat.sub_self] at hi
   cases hq; cases hi; exact h3
theorem zxO:∀(cs:List P4) {l:List Int},l∈zxJ cs↔Fit l cs:=by
 have key:∀(n:Nat) (cs:List P4),cs.length=n->∀{l:List Int},l∈zxJ cs↔Fit l cs:=by
  intro n
  induction n with
  | zero=>
   intro cs h l;rw[List.eq_nil_of_length_eq_zero h]
   show l∈[[]]↔_
   rw[List.mem_singleton];exact⟨fun h=>by rw[h]; exact⟨rfl,fun i k p hi=>by simp at hi⟩,fun h=>List.eq_nil_of_length_eq_zero h.1⟩
  | succ n ih=>
   intro cs h l;have hg:=List.getElem?_eq_getElem (show n < cs.length by omega)
   have e:cs=cs.take n++[cs[n]]:=by rw[<- zxM hg,List.take_of_length_le (by omega)]
   rw[e,zxL,zxN];exact exists_congr fun l'=>exists_congr fun k=>and_congr_left fun _=>ih _ (by rw[List.length_take]; omega)
 intro cs;exact key cs.length cs rfl
def nx(r:Rl)(p:P4)(q:Stt):List Stt:=(kl p).map fun k=>step r k q
def zxP(r:Rl)(s:Stt)(cs:List P4):List Stt:=(zxJ cs).map (zw6 r s)
theorem zxQ{r:Rl}{s q:Stt}{cs:List P4}:q∈zxP r s cs↔∃ks,Fit ks cs/\zw6 r s ks=q:=by
 unfold zxP;rw[List.mem_map];exact exists_congr fun ks=>and_congr_left fun _=>zxO cs
theorem zxR{r:Rl}{s q:Stt}{cs:List P4}{p:P4}:q∈zxP r s (cs++[p])↔∃q',q'∈zxP r s cs/\q∈nx r p q':=by
 rw[zxQ]
 constructor
 ·rintro⟨ks,h1,h2⟩
  obtain⟨l',k,h3,h4,rfl⟩:=zxN.1 h1;rw[zxa] at h2;exact⟨_,zxQ.2 ⟨l',h3,rfl⟩,List.mem_map.2 ⟨k,h4,h2⟩⟩
 ·rintro⟨q',h1,h2⟩
  obtain⟨l',h3,rfl⟩:=zxQ.1 h1;obtain⟨k,h4,h5⟩:=List.mem_map.1 h2;exact⟨l'++[k],zxN.2 ⟨l',k,h3,h4,rfl⟩,by rw[zxa]; exact h5⟩
theorem zxS{r:Rl}(h:zwv r){s:Stt}(hs:SOk r s){cs:List P4}:∀q∈zxP r s cs,SOk r q:=fun q hq=>by
 obtain⟨ks,_,rfl⟩:=zxQ.1 hq;exact zw8 h ks hs
open Classical in
def mL(l:List Stt):Option (Stt->Option Bool):=some fun q=>if q∈l then some true else none
theorem zxT{l l':List Stt}(h:∀q,q∈l↔q∈l'):mL l=mL l':=by
 unfold mL
 congr 1
 funext q
 by_cases hq:q∈l
 ·rw[if_pos hq,if_pos ((h q).1 hq)]
 ·rw[if_neg hq,if_neg fun h'=>hq ((h q).2 h')]
theorem zxU:mL []=some fun _=>none:=by
 unfold mL
 congr 1
theorem zxV{l:List Stt}{q:Stt}(h:q∈l):zqG (mL l) q=some true:=if_pos h
theorem zxW{l:List Stt}{q:Stt}:zqG (mL l) q ≠ none↔q∈l:=by
 constructor
 ·intro h
  by_cases hq:q∈l
  ·exact hq
  ·exact absurd (show zqG (mL l) q=none from if_neg hq) h
 ·intro h;rw[zxV h]; simp
open Classical in
theorem zxX{l:List Stt}{q:Stt}:zqH (mL l) q true=some (mL (l++[q])):=by
 show some (some _)=some (some _)
 congr 2
 funext j
 by_cases hj:j=q
 ·rw[if_pos hj,if_pos (by rw[hj]; simp)]
 ·rw[if_neg hj]
  show(if j∈l then some true else none)=if j∈l++[q] then some true else none
  by_cases h2:j∈l
  ·rw[if_pos h2,if_pos (List.mem_append_left _ h2)]
  ·rw[if_neg h2,if_neg fun h=>(List.mem_append.1 h).elim h2 fun h=>hj (List.mem_singleton.1 h)]
theorem SOk.fit{r:Rl}(h:zwv r)(hc:r.Classes<=6){q:Stt}(hq:SOk r q):MK.fit q:=by
 have:=h.rest;unfold SOk at hq
 show zl6 .i64 q.cls/\zl6 .i64 q.since/\True
 exact⟨fI (by omega),fI (by omega),trivial⟩
theorem zxY{α:Type}:∀l:List α,∃ks:List α,ks.Nodup/\∀k,k∈ks↔k∈l
 | []=>⟨[],List.nodup_nil,fun _=>Iff.rfl⟩
 | a::l=>by
  obtain⟨ks,h1,h2⟩:=zxY l
  by_cases h:a∈ks
  ·refine⟨ks,h1,fun k=>?_⟩;rw[h2,List.mem_cons];exact⟨.inr,fun hk=>hk.elim (fun he=>by rw[he]; exact(h2 a).1 h) id⟩
  ·exact⟨a::ks,List.nodup_cons.2 ⟨h,h1⟩,fun k=>by rw[List.mem_cons,List.mem_cons,h2]⟩
theorem zxZ{r:Rl}(h:zwv r)(hc:r.Classes<=6){l:List Stt}(hl:∀q∈l,SOk r q){R:Type}{g:List Stt->Option R}{v:R}(hg:∀ks,(∀q,q∈ks↔q∈l)->g ks=some v):zrb (mL l) g=some v:=by
 obtain⟨ks0,h1,h2⟩:=zxY l;have hk:∀ks:List Stt,zra (mL l) ks->∀q,q∈ks↔q∈l:=fun ks hks q=>(hks.2 q).trans ⟨fun hq=>zxW.1 hq.2,fun hq=>⟨(hl q hq).fit h hc,zxW.2 hq⟩⟩;exact zrd (ks0:=ks0) ⟨h1,fun q=>(h2 q).trans ⟨fun hq=>⟨(hl q hq).fit h hc,zxW.2 hq⟩,fun hq=>zxW.1 hq.2⟩⟩ fun ks hks=>hg ks (hk ks hks)
theorem zx0{w:Wk}(h:zwv w.r)(hc:w.r.Classes<=6)(hw:w.kinds=zxf){q:Stt}(hq:SOk w.r q){rest:List Stt}{K:Option (Stt->Option Bool)->List Stt->Option (Option (Stt->Option Bool))}:∀(ks:List Int) (A:List Stt),zxE ks ->
  ztf w q rest K ks (mL A)=K (mL (A++ks.map fun k=>step w.r k q)) rest
 | [],A,_=>by rw[ztf,List.map_nil,List.append_nil]
 | k::ks,A,hk=>by
  rw[ztf,hw];have hkb:=hk k (List.mem_cons_self ..);have ih:=zx0 h hc hw hq (rest:=rest) (K:=K) ks (A++[step w.r k q]) fun x hx=>hk x (List.mem_cons_of_mem _ hx);refine(zxv h hc hq hkb (G:=fun s=>gd (MK.fit s) ((zqH (mL A) s true).bind fun w'=>ztf w q rest K ks w'))).trans ?_
  show gd (MK.fit (step w.r k q)) _=_
  rw[zqs ((zw5 h k hq).fit h hc),zxX,obs,ih,List.append_assoc]; rfl
theorem zx1{w:Wk}(h:zwv w.r)(hc:w.r.Classes<=6)(hw:w.kinds=zxf){l:List Stt}(hl:∀q∈l,SOk w.r q){i:Nat}{p:P4}(hi:w.can[i]? = some p):∀(n d:Nat) (rem A:List Stt),rem.length=n->n < d->(∀q∈rem,q∈l) ->
  ztg w (mL l) (i:Int) d (mL A) rem=some (mL (A++rem.flatMap (nx w.r p)))
 | n,0,_,_,_,h,_=>by omega
 | n,d+1,rem,A,hn,hd,hr=>by
  rw[ztg];refine zrh (fun l1 a l2 he=>?_) fun he=>?_
  ·have ha:=hr a (by rw[he]; simp);rw[zxV ha,obs,zrw hi,obs,zxI,obs,zx0 h hc hw (hl a ha) _ _ fun k hk=>zxF hk]
   have hlen:(l1++l2).length+1=n:=by rw[<- hn,he]; simp; omega
   rw[zx1 h hc hw hl hi ((l1++l2).length) d (l1++l2) _ rfl (by omega) fun q hq=>hr q (by rw[he]; rcases List.mem_append.1 hq with h1 | h1 <;> simp[h1])]
   congr 1
   refine zxT fun q=>?_;rw[he]
   simp only[List.mem_append,List.mem_flatMap,List.mem_cons]
   show(q∈A\/q∈nx w.r p a)\/_↔_
   constructor
   ·rintro ((h1 | h1) | ⟨b,h1,h2⟩)
    ·exact .inl h1
    ·exact .inr ⟨a,.inr (.inl rfl),h1⟩
    ·exact .inr ⟨b,h1.elim .inl fun h=>.inr (.inr h),h2⟩
   ·rintro (h1 | ⟨b,h1,h2⟩)
    ·exact .inl (.inl h1)
    ·rcases h1 with h1 | rfl | h1
     ·exact .inr ⟨b,.inl h1,h2⟩
     ·exact .inl (.inr h2)
     ·exact .inr ⟨b,.inr h1,h2⟩
  ·subst he;rw[List.flatMap_nil,List.append_nil]
theorem zx2{w:Wk}(h:zwv w.r)(hc:w.r.Classes<=6)(hw:w.kinds=zxf){l:List Stt}(hl:∀q∈l,SOk w.r q){i:Nat}{p:P4}(hi:w.can[i]? = some p):zth w (mL l) (i:Int)=some (mL (l.flatMap (nx w.r p))):=by
 unfold zth;refine zxZ h hc hl fun ks hks=>?_;rw[<- zxU,zx1 h hc hw hl hi ks.length (ks.length+1) ks [] rfl (by omega) fun q hq=>(hks q).1 hq,List.nil_append]
 congr 1
 refine zxT fun q=>?_
 simp only[List.mem_flatMap]
 exact exists_congr fun a=>and_congr_left fun _=>hks a
theorem zx3{w:Wk}(h:zwv w.r)(hc:w.r.Classes<=6)(hw:w.kinds=zxf)(hf:SOk w.r ⟨w.zone.First,w.r.Rest⟩){n:Nat}(hn:n<=w.can.length)(hn2:n<=1000):ztj w (n:Int)=some (mL (zxP w.r ⟨w.zone.First,w.r.Rest⟩ (w.can.take n))):=by
 unfold ztj ztc;rw[obs,zqs (hf.fit h hc),<- zxU,zxX,obs];refine zws (n:=n) (fun d (s:Option (Stt->Option Bool)) x=>zti w (n:Int) d s x) (fun k=>mL (zxP w.r ⟨w.zone.First,w.r.Rest⟩ (w.can.take k))) (fun d k hk=>?_) (fun d=>?_) (Int.toNat (n:Int)+1) 0 (by omega) (by omega)
 ·have hg:=List.getElem?_eq_getElem (show k < w.can.length by omega)
  show zti w (n:Int) (d+1) _ _=_
  rw[zti,if_pos (by omega),zx2 h hc hw (zxS h hf) hg,obs,zqs (fI (by omega))]
  congr 1
  refine zxT fun q=>?_;rw[zxM hg,zxR,List.mem_flatMap]
 ·show zti w (n:Int) (d+1) _ _=_
  rw[zti,if_neg (Int.lt_irrefl _)]
def mkC(f:Nat->Bool):C6:=⟨f 0,f 1,f 2,f 3,f 4,f 5⟩
theorem zx4{f g:Nat->Bool}(h:∀k,k < 6->(f k=true↔g k=true)):mkC f=mkC g:=by
 have e:∀k,k < 6->f k=g k:=fun k hk=>Bool.eq_iff_iff.2 (h k hk);unfold mkC;rw[e 0 (by omega),e 1 (by omega),e 2 (by omega),e 3 (by omega),e 4 (by omega),e 5 (by omega)]
theorem zx5{f:Nat->Bool}{k:Nat}(hk:k < 6):([(mkC f).c0,(mkC f).c1,(mkC f).c2,(mkC f).c3,(mkC f).c4,(mkC f).c5]:List Bool)[k]? = some (f k):=by
 match k,hk with
 | 0,_=>rfl
 | 1,_=>rfl
 | 2,_=>rfl
 | 3,_=>rfl
 | 4,_=>rfl
 | 5,_=>rfl
def clB(l:List Stt)(c:Nat):Bool:=l.any fun q=>q.cls == (c:Int)
theorem zx6{l:List Stt}{c:Nat}:clB l c=true↔∃q∈l,q.cls=(c:Int):=by
 unfold clB;rw[List.any_eq_true];exact exists_congr fun q=>and_congr_right fun _=>beq_iff_eq
theorem zx7{r:Rl}(hc:r.Classes<=6){l:List Stt}(hl:∀q∈l,SOk r q):∀(n d:Nat) (rem:List Stt) (f:Nat->Bool),rem.length=n->n < d->(∀q∈rem,q∈l) ->
  zta (mL l) d (f 0) (f 1) (f 2) (f 3) (f 4) (f 5) rem=some (mkC fun c=>f c || clB rem c)
 | n,0,_,_,_,h,_=>by omega
 | n,d+1,rem,f,hn,hd,hr=>by
  rw[zta];refine zrh (fun l1 a l2 he=>?_) fun he=>?_
  ·have ha:=hr a (by rw[he]; simp);have hb:=(hl a ha).1
   have hlen:(l1++l2).length+1=n:=by rw[<- hn,he]; simp; omega
   rw[zxV ha,obs,zqs ⟨hb.1,by omega⟩,zwU f hb.1,zwU f hb.1,zwU f hb.1,zwU f hb.1,zwU f hb.1,zwU f hb.1]
   rw[zx7 hc hl ((l1++l2).length) d (l1++l2) (upF f a.cls.toNat true) rfl (by omega) fun q hq=>hr q (by rw[he]; rcases List.mem_append.1 hq with h1 | h1 <;> simp[h1])]
   congr 1
   refine zx4 fun k _=>?_;rw[Bool.or_eq_true,Bool.or_eq_true,zwV,zx6,zx6,he]
   simp only[List.mem_append,List.mem_cons]
   constructor
   ·rintro ((h1 | h1) | ⟨b,h1,h2⟩)
    ·exact .inl h1
    ·exact .inr ⟨a,.inr (.inl rfl),by omega⟩
    ·exact .inr ⟨b,h1.elim .inl fun h=>.inr (.inr h),h2⟩
   ·rintro (h1 | ⟨b,h1,h2⟩)
    ·exact .inl (.inl h1)
    ·rcases h1 with h1 | rfl | h1
     ·exact .inr ⟨b,.inl h1,h2⟩
     ·exact .inl (.inr (by omega))
     ·exact .inr ⟨b,.inr h1,h2⟩
  ·subst he
   show some (mkC f)=_
   congr 1
   exact zx4 fun k _=>by rw[Bool.or_eq_true]; exact⟨.inl,fun h=>h.elim id fun h=>by cases h⟩
theorem zx8{r:Rl}(h:zwv r)(hc:r.Classes<=6){l:List Stt}(hl:∀q∈l,SOk r q):ztb (mL l)=some (mkC (clB l)):=by
 unfold ztb;refine zxZ h hc hl fun ks hks=>?_;have e:=zx7 hc hl ks.length (ks.length+1) ks (fun _=>false) rfl (by omega) fun q hq=>(hks q).1 hq;have e:zta (mL l) (ks.length+1) false false false false false false ks=_:=e;rw[e]
 congr 1
 refine zx4 fun k _=>?_;rw[Bool.or_eq_true,zx6,zx6];exact⟨fun h=>h.elim (fun h=>by cases h) fun⟨q,h1,h2⟩=>⟨q,(hks q).1 h1,h2⟩,fun⟨q,h1,h2⟩=>.inr ⟨q,(hks q).2 h1,h2⟩⟩
def zx9(f:Nat->Bool)(n:Nat):List Int:=((List.range n).filter f).map fun c:Nat=>(c:Int)
theorem zya(f:Nat->Bool)(n:Nat):zx9 f (n+1)=zx9 f n++if f n=true then [(n:Int)] else []:=by
 unfold zx9;rw[List.range_succ,List.filter_append,List.map_append]
 congr 1
 cases h:f n <;> simp[h]
theorem zyb{f:Nat->Bool}{n:Nat}{x:Int}:x∈zx9 f n↔0<=x/\x < n/\f x.toNat=true:=by
 unfold zx9;rw[List.mem_map]
 constructor
 ·rintro⟨c,hc,rfl⟩
  rw[List.mem_filter,List.mem_range] at hc;exact⟨by omega,by omega,hc.2⟩
 ·rintro⟨h1,h2,h3⟩
  exact⟨x.toNat,List.mem_filter.2 ⟨List.mem_range.2 (by omega),h3⟩,by omega⟩
theorem zyc(f:Nat->Bool)(n:Nat):(zx9 f n).length<=n:=by
 unfold zx9;rw[List.length_map];exact Nat.le_trans (List.length_filter_le _ _) (by rw[List.length_range]; exact Nat.le_refl _)
theorem zyd{f:Nat->Bool}:zs3 (mkC f)=some (zx9 f 6):=by
 unfold zs3;refine zws (n:=6) (fun d (s:List Int) x=>zs2 (mkC f) d s x) (fun k=>zx9 f k) (fun d k hk=>?_) (fun d=>?_) (Int.toNat 6+1) 0 (by omega) (by show 6 - 0 < 6+1; omega)
 ·show zs2 (mkC f) (d+1) _ _=_
  have:=zyc f k;rw[zs2,if_pos (by omega),zrw (zx5 hk),obs,zya]
  cases f k with
  | true=>rw[if_pos rfl,if_pos rfl,zqs (by omega),zqs (fI (by omega))]
  | false=>rw[if_neg (by decide),if_neg (by decide),zqs (fI (by omega)),List.append_nil]
 ·show zs2 (mkC f) (d+1) _ _=_
  rw[zs2,if_neg (by omega)]
def zye(r:Rl)(z:Zn)(n:Nat):List Stt:=zxP r (st0 r z) ((zxl r z).can.take n)
theorem zyf{r:Rl}{z:Zn}(h:VZ r z){n:Nat}:∀q∈zye r z n,SOk r q:=zxS h.full.rl h.st0
theorem zyg{r:Rl}{z:Zn}(h:VZ r z){i:Nat}(hi:i < z.Years.length):ztD r z (i:Int)=some (zx9 (clB (zye r z (i+1))) 6,0):=by
 have h6:=h.y6;unfold ztD;rw[zxo h (by omega),obs,if_pos rfl,zqs (fI (by omega)),show(i:Int)+1=((i+1:Nat):Int) by omega];have e:ztj (zxl r z) ((i+1:Nat):Int)=some (mL (zye r z (i+1))):=zx3 (w:=zxl r z) h.full.rl h.c6 rfl h.st0 (n:=i+1) (by show i+1<=(z.Years.map _).length; rw[List.length_map]; omega) (by omega)
 show(ztj (zxl r z) _).bind _=_
 rw[e,obs,zx8 (r:=r) (l:=zye r z (i+1)) h.full.rl h.c6 (zyf h),obs,zyd,obs]
end
end Go.Proofs.Ytlpjlgmoaipoiaa

namespace Go.Proofs.Ytlpjlgmoaipoiaa
open _root_.Go.Proofs.Try
open Go.Abs
set_option maxRecDepth 100000
noncomputable section
theorem zyh{c:Int}(hc:0<=c/\c < 6):zs1 c=some (mkC fun k=>decide ((k:Int)=c)):=by
 unfold zs1;rw[zqs hc]
 have e:∀k:Nat,sti c k true false=decide ((k:Int)=c):=fun k=>by
  unfold sti
  by_cases h:c=(k:Int)
  ·rw[if_pos h,decide_eq_true h.symm]
  ·rw[if_neg h,decide_eq_false fun h'=>h h'.symm]
 rw[e,e,e,e,e,e]; rfl
def mvB(l:List Stt)(c:Int):Bool:=l.any fun q=>q.cls != c
def syB(l:List Stt)(c:Int):Bool:=l.any fun q=>q.cls == c
theorem zyi{l:List Stt}{c:Int}:mvB l c=true↔∃q∈l,q.cls ≠ c:=by
 unfold mvB;rw[List.any_eq_true];exact exists_congr fun q=>and_congr_right fun _=>bne_iff_ne
theorem zyj{l:List Stt}{c:Int}:syB l c=true↔∃q∈l,q.cls=c:=by
 unfold syB;rw[List.any_eq_true];exact exists_congr fun q=>and_congr_right fun _=>beq_iff_eq
theorem zyk{r:Rl}(hc6:r.Classes<=6){l:List Stt}(hl:∀q∈l,SOk r q)(hne:l ≠ []){c:Int}(hc:0<=c/\c < 6) :
  (!(((mkC (clB l)).c0 == (mkC fun k=>decide ((k:Int)=c)).c0) && (((mkC (clB l)).c1 == (mkC fun k=>decide ((k:Int)=c)).c1) && (((mkC (clB l)).c2 == (mkC fun k=>decide ((k:Int)=c)).c2) && (((mkC (clB l)).c3 == (mkC fun k=>decide ((k:Int)=c)).c3) && (((mkC (clB l)).c4 == (mkC fun k=>decide ((k:Int)=c)).c4) && ((mkC (clB l)).c5 == (mkC fun k=>decide ((k:Int)=c)).c5)))))))=mvB l c:=by
 have e:(((mkC (clB l)).c0 == (mkC fun k=>decide ((k:Int)=c)).c0) && (((mkC (clB l)).c1 == (mkC fun k=>decide ((k:Int)=c)).c1) && (((mkC (clB l)).c2 == (mkC fun k=>decide ((k:Int)=c)).c2) && (((mkC (clB l)).c3 == (mkC fun k=>decide ((k:Int)=c)).c3) && (((mkC (clB l)).c4 == (mkC fun k=>decide ((k:Int)=c)).c4) && ((mkC (clB l)).c5 == (mkC fun k=>decide ((k:Int)=c)).c5))))))=true↔∀k:Nat,k < 6->clB l k=decide ((k:Int)=c):=by
  simp only[Bool.and_eq_true,beq_iff_eq]
  constructor
  ·rintro⟨h0,h1,h2,h3,h4,h5⟩ k hk
   match k,hk with
   | 0,_=>exact h0
   | 1,_=>exact h1
   | 2,_=>exact h2
   | 3,_=>exact h3
   | 4,_=>exact h4
   | 5,_=>exact h5
  ·intro h;exact⟨h 0 (by omega),h 1 (by omega),h 2 (by omega),h 3 (by omega),h 4 (by omega),h 5 (by omega)⟩
 rw[Bool.eq_iff_iff,Bool.not_eq_true',<- Bool.not_eq_true,e,zyi]
 constructor
 ·intro h;refine Classical.byContradiction fun hn=>h fun k hk=>?_;have hall:∀q∈l,q.cls=c:=fun q hq=>Classical.byContradiction fun h'=>hn ⟨q,hq,h'⟩;rw[Bool.eq_iff_iff,zx6,decide_eq_true_eq]
  constructor
  ·rintro⟨q,h1,h2⟩; rw[<- h2]; exact hall q h1
  ·intro h1;obtain⟨q,hq⟩:=List.exists_mem_of_ne_nil l hne;exact⟨q,hq,by rw[hall q hq,h1]⟩
 ·rintro⟨q,hq,hne⟩ h
  have hb:=(hl q hq).1;have h8:=h q.cls.toNat (by omega);rw[Bool.eq_iff_iff,zx6,decide_eq_true_eq] at h8;exact hne ((Int.toNat_of_nonneg hb.1).symm.trans (h8.1 ⟨q,hq,(Int.toNat_of_nonneg hb.1).symm⟩))
def zyl(m s:Bool):Int:=if s=true then (if m=true then 3 else 2) else 1
theorem zym{r:Rl}{y:Yr}(hy:zwt y):kl (mkP (kB r y)) ≠ []:=by
 obtain⟨⟨h1,h2,h3,h4⟩,⟨h5,h6,h7,h8⟩,_⟩:=hy;have hb:=zwQ r y y.Losses.Lo y.Premiums.Lo;have:kN r y y.Losses.Lo y.Premiums.Lo∈kl (mkP (kB r y)):=zxG.2 ⟨hb,zw0.2 ⟨_,_,⟨Int.le_refl _,h2⟩,⟨Int.le_refl _,h6⟩,by omega⟩⟩;intro h
 rw[h] at this; cases this
theorem zyn{w:Wk}(h:zwv w.r)(hc:w.r.Classes<=6)(hw:w.kinds=zxf){l:List Stt}(hl:∀q∈l,SOk w.r q){i:Nat}{p:P4}(hi:w.can[i]? = some p)(hp:kl p ≠ []):∀(n d:Nat) (rem:List Stt) (b1 b2:Bool),rem.length=n->n < d->(∀q∈rem,q∈l) ->
  ztk w (i:Int) (mL l) d b1 b2 rem=some (zyl (b1 || rem.any fun q=>mvB (nx w.r p q) q.cls) (b2 || rem.any fun q=>syB (nx w.r p q) q.cls))
 | n,0,_,_,_,_,h,_=>by omega
 | n,d+1,rem,b1,b2,hn,hd,hr=>by
  rw[ztk];refine zrh (fun l1 a l2 he=>?_) fun he=>?_
  ·have ha:=hr a (by rw[he]; simp);have hs:=hl a ha;have hb:=hs.1
   have hlen:(l1++l2).length+1=n:=by rw[<- hn,he]; simp; omega
   have hnx:∀q∈nx w.r p a,SOk w.r q:=fun q hq=>by
    obtain⟨k,_,rfl⟩:=List.mem_map.1 hq;exact zw5 h k hs
   have hne:nx w.r p a ≠ []:=by
    unfold nx;intro h';exact hp (List.map_eq_nil_iff.1 h')
   have ih:=fun b1 b2=>zyn h hc hw hl hi hp ((l1++l2).length) d (l1++l2) b1 b2 rfl (by omega) fun q hq=>hr q (by rw[he]; rcases List.mem_append.1 hq with h1 | h1 <;> simp[h1])
   have ef:zth w (mL [a]) (i:Int)=some (mL (nx w.r p a)):=by
    have:=zx2 h hc hw (l:=[a]) (fun q hq=>by rw[List.mem_singleton.1 hq]; exact hs) hi;rw[this]
    congr 1
    exact zxT fun q=>by simp
   rw[zxV ha,obs,zqs (hs.fit h hc),<- zxU,zxX,obs,List.nil_append,ef,obs,zx8 h hc hnx,obs]
   have hsy:idx ([(mkC (clB (nx w.r p a))).c0,(mkC (clB (nx w.r p a))).c1,(mkC (clB (nx w.r p a))).c2,(mkC (clB (nx w.r p a))).c3,(mkC (clB (nx w.r p a))).c4,(mkC (clB (nx w.r p a))).c5]:List Bool) a.cls=some (syB (nx w.r p a) a.cls):=by
    have e0:a.cls=((a.cls.toNat:Nat):Int):=by omega
    rw[e0,zrw (zx5 (by omega)),<- e0]
    congr 1
    rw[Bool.eq_iff_iff,zx6,zyj,<- e0]
   have hm:(!(((mkC (clB (nx w.r p a))).c0 == (mkC fun k=>decide ((k:Int)=a.cls)).c0) && (((mkC (clB (nx w.r p a))).c1 == (mkC fun k=>decide ((k:Int)=a.cls)).c1) && (((mkC (clB (nx w.r p a))).c2 == (mkC fun k=>decide ((k:Int)=a.cls)).c2) && (((mkC (clB (nx w.r p a))).c3 == (mkC fun k=>decide ((k:Int)=a.cls)).c3) && (((mkC (clB (nx w.r p a))).c4 == (mkC fun k=>decide ((k:Int)=a.cls)).c4) && ((mkC (clB (nx w.r p a))).c5 == (mkC fun k=>decide ((k:Int)=a.cls)).c5)))))))=mvB (nx w.r p a) a.cls:=zyk hc hnx hne (by omega)
   have any_e:∀(g:Stt->Bool),rem.any g=(g a || (l1++l2).any g):=fun g=>by
    rw[he,List.any_append,List.any_cons,List.any_append]
    cases l1.any g <;> cases g a <;> cases l2.any g <;> rfl
   rw[any_e,any_e]
   cases b1 with
   | true=>
    rw[if_pos rfl]
    cases b2 with
    | true=>rw[if_pos rfl,ih,Bool.true_or,Bool.true_or,Bool.true_or,Bool.true_or]
    | false=>rw[if_neg (by decide),hsy,obs,ih,Bool.true_or,Bool.true_or,Bool.false_or]
   | false=>
    rw[if_neg (by decide),zyh (by omega),obs]
    cases b2 with
    | true=>rw[if_pos rfl,hm,ih,Bool.true_or,Bool.true_or,Bool.false_or]
    | false=>rw[if_neg (by decide),hsy,obs,hm,ih,Bool.false_or,Bool.false_or]
  ·subst he;rw[List.any_nil,List.any_nil,Bool.or_false,Bool.or_false];unfold zyl
   cases b1 <;> cases b2 <;> rfl
def zyo(r:Rl)(z:Zn)(i:Nat)(p:P4):Int:=zyl ((zye r z i).any fun q=>mvB (nx r p q) q.cls) ((zye r z i).any fun q=>syB (nx r p q) q.cls)
theorem zyp{r:Rl}{z:Zn}{i:Nat}{y:Yr}(h:z.Years[i]? = some y):(zxl r z).can[i]? = some (mkP (kB r y)):=by
 show(z.Years.map _)[i]? = _
 rw[List.getElem?_map,h]; rfl
theorem zyq{l l':List Stt}(h:∀q,q∈l↔q∈l')(g:Stt->Bool):l.any g=l'.any g:=by
 rw[Bool.eq_iff_iff,List.any_eq_true,List.any_eq_true];exact exists_congr fun q=>and_congr_left fun _=>h q
theorem zyr{r:Rl}{z:Zn}(h:VZ r z){i:Nat}{y:Yr}(hi:z.Years[i]? = some y):ztE r z (i:Int)=some (zyo r z i (mkP (kB r y)),0):=by
 have h6:=h.y6;have hil:=(List.getElem?_eq_some_iff.1 hi).1;unfold ztE;rw[zxo h (by omega),obs,if_pos rfl];have e:ztj (zxl r z) (i:Int)=some (mL (zye r z i)):=zx3 (w:=zxl r z) h.full.rl h.c6 rfl h.st0 (n:=i) (by show i<=(z.Years.map _).length; rw[List.length_map]; omega) (by omega)
 show(ztl (zxl r z) _).bind _=_
 unfold ztl;rw[e,obs]
 have e2:zrb (mL (zye r z i)) (fun ks=>ztk (zxl r z) (i:Int) (mL (zye r z i)) (ks.length+1) false false ks)=some (zyo r z i (mkP (kB r y))):=by
  refine zxZ h.full.rl h.c6 (zyf h) fun ks hks=>?_;rw[zyn (w:=zxl r z) h.full.rl h.c6 rfl (zyf h) (zyp hi) (zym (h.full.ys y (List.mem_of_getElem? hi))) ks.length (ks.length+1) ks false false rfl (by omega) fun q hq=>(hks q).1 hq,Bool.false_or,Bool.false_or,zyq hks,zyq hks]; rfl
 rw[e2,obs]
theorem zys{l:List Int}(h:l ≠ [])(hl:l.length<=1048577):zss l=some (zrJ l):=by
 unfold zss
 cases l with
 | nil=>exact absurd rfl h
 | cons x l=>
  rw[if_neg (by rw[List.length_cons]; omega),zry rfl,obs];refine(zrI (l:=x::l) (fun s a=>min s a) (fun d s k=>zsr (x::l) d s k) (fun s=>some s) (fun d k s a hk=>?_) (fun d s=>?_) _ 0 x (Nat.zero_le _) (by omega)).trans ?_
  ·have hkl:=(List.getElem?_eq_some_iff.1 hk).1
   show zsr (x::l) (d+1) s (k:Int)=_
   rw[zsr,if_pos (by omega),zrw hk,obs]
   by_cases hc:a < s
   ·rw[if_pos hc,zqs (fI (by omega)),Int.min_eq_right (by omega)]
   ·rw[if_neg hc,zqs (fI (by omega)),Int.min_eq_left (by omega)]
  ·show zsr (x::l) (d+1) s _=_
   rw[zsr,if_neg (Int.lt_irrefl _)]
  ·rw[List.drop_zero]
   show some (l.foldl min (min x x))=_
   rw[Int.min_self]; rfl
theorem zyt{l:List Int}(h:l ≠ [])(hl:l.length<=1048577):zsu l=some (zrK l):=by
 unfold zsu
 cases l with
 | nil=>exact absurd rfl h
 | cons x l=>
  rw[if_neg (by rw[List.length_cons]; omega),zry rfl,obs];refine(zrI (l:=x::l) (fun s a=>max s a) (fun d s k=>zst (x::l) d s k) (fun s=>some s) (fun d k s a hk=>?_) (fun d s=>?_) _ 1 x (by rw[List.length_cons]; omega) (by rw[List.length_cons]; omega)).trans ?_
  ·have hkl:=(List.getElem?_eq_some_iff.1 hk).1
   show zst (x::l) (d+1) s (k:Int)=_
   rw[zst,if_pos (by omega),zrw hk,obs,zqs (fI (by omega))]
  ·show zst (x::l) (d+1) s _=_
   rw[zst,if_neg (Int.lt_irrefl _)]
  ·rfl
theorem zyu(f:Nat->Bool)(n:Nat):(zx9 f n).Pairwise (· < ·):=by
 unfold zx9;rw[List.pairwise_map]
 exact(List.pairwise_lt_range.filter _).imp fun h=>by omega
theorem zyv{L:List Int}(h:L.Pairwise (· < ·)){i j:Nat}{a c:Int}(hi:L[i]? = some a)(hj:L[j]? = some c)(hij:i<=j):a<=c:=by
 obtain⟨h1,rfl⟩:=List.getElem?_eq_some_iff.1 hi;obtain⟨h2,rfl⟩:=List.getElem?_eq_some_iff.1 hj
 rcases Nat.lt_or_eq_of_le hij with h3 | rfl
 ·exact Int.le_of_lt (List.pairwise_iff_getElem.1 h i j h1 h2 h3)
 ·exact Int.le_refl _
def zyw(r:Rl)(c:Int):Int:=(r.Price[c.toNat]?).getD 0
theorem zyx{r:Rl}(h:zwv r){c:Int}(hc:0<=c/\c<=r.Classes - 1):idx r.Price c=some (zyw r c):=by
 have:=h.pl;unfold zyw;rw[show idx r.Price c=r.Price[c.toNat]? from if_pos hc.1,List.getElem?_eq_getElem (by omega)]; rfl
theorem zyy{r:Rl}(h:zwv r):∀(j i:Nat),i<=j->j < r.Price.length->zyw r (i:Int)<=zyw r (j:Int)
 | 0,i,hi,_=>by rw[show i=0 by omega]; exact Int.le_refl _
 | j+1,i,hi,hj=>by
  rcases Nat.lt_or_eq_of_le hi with h1 | rfl
  ·have h2:=zyy h j i (by omega) (by omega);have g1:=List.getElem?_eq_getElem hj;have g0:=List.getElem?_eq_getElem (show j < r.Price.length by omega);have h3:=h.so (j+1) hj (by omega) _ _ g1 g0;unfold zyw at h2 ⊢;rw[Int.toNat_natCast,Int.toNat_natCast] at h2 ⊢;rw[g0] at h2;rw[g1]
   show _<=r.Price[j+1]
   have h2:_<=r.Price[j]:=h2
   omega
  ·exact Int.le_refl _
theorem zyz{r:Rl}(h:zwv r){a b:Int}(ha:0<=a)(hab:a<=b)(hb:b<=r.Classes - 1):zyw r a<=zyw r b:=by
 have:=h.pl;have:=zyy h b.toNat a.toNat (by omega) (by omega)
 rwa [show(a.toNat:Int)=a by omega,show(b.toNat:Int)=b by omega] at this
theorem zyA{r:Rl}(hc:r.Classes<=6){l:List Stt}(hl:∀q∈l,SOk r q){c:Int}:c∈zx9 (clB l) 6↔∃q∈l,q.cls=c:=by
 rw[zyb]
 constructor
 ·rintro⟨h1,h2,h3⟩
  obtain⟨q,hq,h4⟩:=zx6.1 h3;exact⟨q,hq,by omega⟩
 ·rintro⟨q,hq,rfl⟩
  have:=(hl q hq).1;exact⟨this.1,by omega,zx6.2 ⟨q,hq,by omega⟩⟩
theorem zyB{r:Rl}{s:Stt}:∀(n:Nat) (cs:List P4),cs.length=n->(∀p∈cs,kl p ≠ [])->∃q,q∈zxP r s cs
 | 0,cs,h,_=>by
  rw[List.eq_nil_of_length_eq_zero h];exact⟨s,List.mem_singleton.2 rfl⟩
 | n+1,cs,h,hc=>by
  have hg:=List.getElem?_eq_getElem (show n < cs.length by omega)
  have e:cs=cs.take n++[cs[n]]:=by rw[<- zxM hg,List.take_of_length_le (by omega)]
  obtain⟨q,hq⟩:=zyB (r:=r) (s:=s) n (cs.take n) (by rw[List.length_take]; omega) fun p hp=>hc p (List.mem_of_mem_take hp);obtain⟨k,hk⟩:=List.exists_mem_of_ne_nil _ (hc _ (List.getElem_mem (show n < cs.length by omega)));exact⟨step r k q,by rw[e,zxR]; exact⟨q,hq,List.mem_map.2 ⟨k,hk,rfl⟩⟩⟩
theorem zyC{r:Rl}{z:Zn}(h:VZ r z):∀p∈(zxl r z).can,kl p ≠ []:=fun p hp=>by
 obtain⟨y,hy,rfl⟩:=List.mem_map.1 (show p∈z.Years.map _ from hp);exact zym (h.full.ys y hy)
theorem zyD{r:Rl}{z:Zn}(h:VZ r z)(n:Nat):∃q,q∈zye r z n:=zyB _ _ rfl fun p hp=>zyC h p (List.mem_of_mem_take hp)
def zyE(r:Rl)(z:Zn)(n:Nat):List Int:=zx9 (clB (zye r z n)) 6
theorem zyF{r:Rl}{z:Zn}(h:VZ r z){n:Nat}{c:Int}:c∈zyE r z n↔∃q∈zye r z n,q.cls=c:=zyA h.c6 (zyf h)
theorem zyG{r:Rl}{z:Zn}(h:VZ r z){n:Nat}{c:Int}(hc:c∈zyE r z n):0<=c/\c<=r.Classes - 1:=by
 obtain⟨q,hq,rfl⟩:=(zyF h).1 hc;exact(zyf h q hq).1
theorem zyH{r:Rl}{z:Zn}(h:VZ r z)(n:Nat):zyE r z n ≠ []:=fun he=>by
 obtain⟨q,hq⟩:=zyD h n;have:q.cls∈zyE r z n:=(zyF h).2 ⟨q,hq,rfl⟩
 rw[he] at this; cases this
theorem zyI{r:Rl}{z:Zn}:(zxl r z).can.length=z.Years.length:=List.length_map _
theorem zyJ{r:Rl}{z:Zn}(h:VZ r z):zto (zxl r z)=some ((zyE r z z.Years.length).map (zyw r)):=by
 have h6:=h.y6;have e:ztj (zxl r z) (z.Years.length:Int)=some (mL (zye r z z.Years.length)):=zx3 (w:=zxl r z) h.full.rl h.c6 rfl h.st0 (n:=z.Years.length) (by rw[zyI]; exact Nat.le_refl _) (by omega);unfold zto ztm;rw[zyI,e,obs,zx8 (r:=r) h.full.rl h.c6 (zyf h),obs,obs,zyd,obs]
 show ztn (zxl r z) (zyE r z z.Years.length) _ _ _=_
 have hl:(zyE r z z.Years.length).length<=6:=zyc _ _
 exact zrC (l:=zyE r z z.Years.length) (zyw r) (F:=fun d acc x=>ztn (zxl r z) (zyE r z z.Years.length) d acc x) (fun acc=>some acc) (fun d k acc a hk ha=>by
  have hkl:=(List.getElem?_eq_some_iff.1 hk).1
  show ztn _ _ (d+1) _ _=_
  rw[ztn,if_pos (by omega),zrw hk,obs,show idx (zxl r z).r.Price a=_ from zyx h.full.rl (zyG h (List.mem_of_getElem? hk)),obs,zqs (by omega),zqs (fI (by omega))]) (fun d acc=>by
  show ztn _ _ (d+1) _ _=_
  rw[ztn,if_neg (Int.lt_irrefl _)]) (Nat.lt_succ_self _)
theorem zyK{r:Rl}{z:Zn}(h:VZ r z){a b:Int}(ha:(zyE r z z.Years.length)[0]? = some a)(hb:(zyE r z z.Years.length)[(zyE r z z.Years.length).length - 1]? = some b):ztF r z=some (⟨zyw r a,zyw r b⟩,0):=by
 unfold ztF;have hl:(zyE r z z.Years.length).length<=6:=zyc _ _;have hs:(zyE r z z.Years.length).Pairwise (· < ·):=zyu _ _;have hbd:∀c∈zyE r z z.Years.length,0<=c/\c<=r.Classes - 1:=fun c hc=>zyG h hc;rw[zxm h,obs,if_pos rfl,zyJ h,obs];generalize zyE r z z.Years.length=L at ha hb hl hs hbd
 have hne:L.map (zyw r) ≠ []:=fun he=>by
  rw[List.map_eq_nil_iff.1 he] at ha; cases ha
 rw[zys hne (by rw[List.length_map]; omega),obs,zyt hne (by rw[List.length_map]; omega),obs];obtain⟨m1,m2⟩:=zrN hne;obtain⟨m3,m4⟩:=zrO hne;have ham:=List.mem_of_getElem? ha;have hbm:=List.mem_of_getElem? hb
 have e1:zrJ (L.map (zyw r))=zyw r a:=by
  obtain⟨c,hc,he⟩:=List.mem_map.1 m1;obtain⟨i,hi⟩:=List.mem_iff_getElem?.1 hc;have h1:=zyz h.full.rl (hbd a ham).1 (zyv hs ha hi (Nat.zero_le _)) (hbd c hc).2;have h2:=m2 _ (List.mem_map.2 ⟨a,ham,rfl⟩)
  omega
 have e2:zrK (L.map (zyw r))=zyw r b:=by
  obtain⟨c,hc,he⟩:=List.mem_map.1 m3;obtain⟨i,hi⟩:=List.mem_iff_getElem?.1 hc;have hil:=(List.getElem?_eq_some_iff.1 hi).1;have h1:=zyz h.full.rl (hbd c hc).1 (zyv hs hi hb (by omega)) (hbd b hbm).2;have h2:=m4 _ (List.mem_map.2 ⟨b,hbm,rfl⟩)
  omega
 rw[e1,e2]
def zyL(r:Rl)(z:Zn)(i:Nat):Bool:=match z.Years[i]? with | some y=>decide (1 < (kl (mkP (kB r y))).length) | none=>false
theorem zyM{l:List Int}(hl:l.length<=1000):zs9 l=some l:=by
 have key:∀(l acc:List Int),l.length+acc.length<=1000->zs7 l acc=some (acc++l):=by
  intro l
  induction l with
  | nil=>intro acc _; rw[zs7,List.append_nil]
  | cons a l ih=>
   intro acc h;rw[List.length_cons] at h;rw[zs7,zqs (by omega),ih (acc++[a]) (by rw[List.length_append]; show _+(acc.length+1)<=_; omega),List.append_assoc]; rfl
 unfold zs9 zs8;rw[key l [] (by simpa using hl),obs]; rfl
theorem zyN(p:P4):(kl p).length<=4:=by
 unfold kl
 cases p with
 | mk a b c d=>cases a <;> cases b <;> cases c <;> cases d <;> decide
theorem zyO{r:Rl}{z:Zn}(h:VZ r z):ztq (zxl r z)=some (zx9 (zyL r z) z.Years.length):=by
 have h6:=h.y6;unfold ztq;rw[zyI];refine zws (n:=z.Years.length) (fun d (s:List Int) x=>ztp (zxl r z) d s x) (fun k=>zx9 (zyL r z) k) (fun d k hk=>?_) (fun d=>?_) (z.Years.length+1) 0 (by omega) (by omega)
 ·have hg:=List.getElem?_eq_getElem hk;have hk4:=zyN (mkP (kB r z.Years[k]));have hn:=zyc (zyL r z) k
  show ztp (zxl r z) (d+1) _ _=_
  rw[ztp,zyI,if_pos (by omega),zrw (zyp hg),obs,zxI,obs,zyM (by omega),obs,zya]
  have e:zyL r z k=decide (1 < (kl (mkP (kB r z.Years[k]))).length):=by unfold zyL; rw[hg]
  by_cases hc:1 < (kl (mkP (kB r z.Years[k]))).length
  ·rw[if_pos (by omega),zqs (by omega),zqs (fI (by omega)),if_pos (by rw[e]; exact decide_eq_true hc)]
  ·rw[if_neg (by omega),zqs (fI (by omega)),if_neg (by rw[e,decide_eq_false hc]; decide),List.append_nil]
 ·show ztp (zxl r z) (d+1) _ _=_
  rw[ztp,zyI,if_neg (Int.lt_irrefl _)]
theorem zyP{r:Rl}{z:Zn}(h:VZ r z):ztG r z=some (zx9 (zyL r z) z.Years.length,0):=by
 unfold ztG;rw[zxm h,obs,if_pos rfl,zyO h,obs]
def zyQ:P4:=⟨false,true,true,true⟩
def zyR(r:Rl)(z:Zn)(S:Nat->Bool):List P4:=z.Years.mapIdx fun i y=>if (S i && zwO r y)=true then zyQ else mkP (kB r y)
theorem zyS{r:Rl}{z:Zn}{S:Nat->Bool}{i:Nat}{y:Yr}(h:z.Years[i]? = some y):(zyR r z S)[i]? = some (if (S i && zwO r y)=true then zyQ else mkP (kB r y)):=by
 unfold zyR;rw[List.getElem?_mapIdx,h]; rfl
theorem zyT{r:Rl}{z:Zn}{S:Nat->Bool}:(zyR r z S).length=z.Years.length:=by
 unfold zyR;rw[List.length_mapIdx]
theorem zyU{r:Rl}{z:Zn}{S:Nat->Bool}{cs:List P4}(hl:cs.length=z.Years.length)(h:∀i y,z.Years[i]? = some y->cs[i]? = some (if (S i && zwO r y)=true then zyQ else mkP (kB r y))):cs=zyR r z S:=by
 refine List.ext_getElem? fun i=>?_
 rcases Nat.lt_or_ge i z.Years.length with hi | hi
 ·have hg:=List.getElem?_eq_getElem hi;rw[h i _ hg,zyS hg]
 ·rw[List.getElem?_eq_none (by omega),List.getElem?_eq_none (by rw[zyT]; exact hi)]
theorem zyV{r:Rl}{z:Zn}:(zxl r z).can=zyR r z fun _=>false:=zyU zyI fun i y hy=>by
 rw[zyp hy,if_neg (by simp)]
def zyW(r:Rl)(z:Zn)(S:Nat->Bool):Wk:={ r:=r,zone:=z,kinds:=zxf,can:=zyR r z S }
theorem zyX{L:List Int}{k:Nat}{v:Int}(hv:L[k]? = some v)(j:Nat):inD (L.take (k+1)) j=(inD (L.take k) j || decide ((j:Int)=v)):=by
 unfold inD;rw[zxM hv,Bool.eq_iff_iff,Bool.or_eq_true,decide_eq_true_eq,decide_eq_true_eq,decide_eq_true_eq,List.mem_append,List.mem_singleton]
theorem zyY{r:Rl}{z:Zn}{S:Nat->Bool}{v:Nat}{y:Yr}(hv:z.Years[v]? = some y)(hc:zwO r y=true):(zyR r z S).set v zyQ=zyR r z fun j=>S j || decide ((j:Int)=(v:Int)):=by
 refine zyU (by rw[List.length_set]; exact zyT) fun i y' hy=>?_
 by_cases h:v=i
 ·subst h
  rw[hv] at hy; cases hy
  rw[List.getElem?_set_self (by rw[zyT]; exact(List.getElem?_eq_some_iff.1 hv).1),decide_eq_true rfl,Bool.or_true,hc]; rfl
 ·rw[List.getElem?_set_ne h,zyS hy,decide_eq_false (by omega),Bool.or_false]
theorem zyZ{r:Rl}{z:Zn}{S:Nat->Bool}{v:Nat}{y:Yr}(hv:z.Years[v]? = some y)(hc:zwO r y=false):zyR r z S=zyR r z fun j=>S j || decide ((j:Int)=(v:Int)):=by
 refine zyU zyT fun i y' hy=>?_;rw[zyS hy]
 by_cases h:v=i
 ·subst h
  rw[hv] at hy; cases hy
  rw[hc,Bool.and_false,Bool.and_false]
 ·rw[decide_eq_false (by omega),Bool.or_false]
theorem zy0{r:Rl}{z:Zn}(h:VZ r z){L:List Int}(hL:∀v∈L,0<=v/\v < z.Years.length)(hl:L.length<=1000):ztt (zxl r z) L=some (zyW r z (inD L)):=by
 have h6:=h.y6;unfold ztt ztr;have hcl:=zyI (r:=r) (z:=z);rw[zqs (by rw[List.length_nil]; omega),obs,List.nil_append,zyV];refine zws (n:=L.length) (fun d (s:List P4) x=>zts (zxl r z) L d r.Classes r.Good r.Bad r.Rest r.Fewest z.First s x) (fun k=>zyR r z (inD (L.take k))) (fun d k hk=>?_) (fun d=>?_) (L.length+1) 0 (by omega) (by omega)
 ·have hg:=List.getElem?_eq_getElem hk;have hv:=hL _ (List.getElem_mem hk);generalize L[k]=v at hg hv;have hy:=List.getElem?_eq_getElem (show v.toNat < z.Years.length by omega)
  have ev:((v.toNat:Nat):Int)=v:=by omega
  show zts (zxl r z) L (d+1) _ _ _ _ _ _ _ _=_
  have e1:idx (zxl r z).zone.Years v=some (z.Years[v.toNat]'(by omega)):=by
   have:=zrw hy
   rwa [ev] at this
  have e2:=zyS (r:=r) (S:=inD (L.take k)) hy;have e3:=zrw e2;rw[ev] at e3
  have e4:(fun j=>inD (L.take k) j || decide ((j:Int)=((v.toNat:Nat):Int)))=inD (L.take (k+1)):=funext fun j=>by rw[zyX hg,ev]
  rw[zts,if_pos (by omega),zrw hg,obs,e1,obs,zwP,obs]
  show(if zwO r _=true then _ else _)=_
  by_cases hc:zwO r (z.Years[v.toNat]'(by omega))=true
  ·rw[if_pos hc]
   show((idx (zyR r z (inD (L.take k))) v).bind _)=_
   rw[e3,obs,zqs (fI (by omega))]
   show zts (zxl r z) L d _ _ _ _ _ _ ((zyR r z (inD (L.take k))).set v.toNat zyQ) _=_
   rw[zyY hy hc,e4]
  ·rw[if_neg hc,zqs (fI (by omega)),<- e4,<- zyZ hy (by simpa using hc)]
 ·show zts (zxl r z) L (d+1) _ _ _ _ _ _ _ _=_
  rw[zts,if_neg (Int.lt_irrefl _),List.take_length]; rfl
def zy1(r:Rl)(z:Zn)(S:Nat->Bool)(n:Nat):List Stt:=zxP r (st0 r z) ((zyR r z S).take n)
theorem zy2{r:Rl}{z:Zn}(h:VZ r z){S:Nat->Bool}{n:Nat}:∀q∈zy1 r z S n,SOk r q:=zxS h.full.rl h.st0
theorem zy3{r:Rl}{z:Zn}(h:VZ r z){S:Nat->Bool}:ztm (zyW r z S)=some (mkC (clB (zy1 r z S z.Years.length))):=by
 have h6:=h.y6;unfold ztm;have e:ztj (zyW r z S) (z.Years.length:Int)=some (mL (zy1 r z S z.Years.length)):=zx3 (w:=zyW r z S) h.full.rl h.c6 rfl h.st0 (n:=z.Years.length) (by show z.Years.length<=(zyR r z S).length; rw[zyT]; exact Nat.le_refl _) (by omega);rw[show((zyW r z S).can.length:Int)=(z.Years.length:Int) from by show((zyR r z S).length:Int)=_; rw[zyT],e,obs,zx8 (r:=r) h.full.rl h.c6 (zy2 h),obs]
def zy4(r:Rl)(z:Zn)(c:Nat)(S:Nat->Bool):Bool:=clB (zy1 r z S z.Years.length) c
theorem zy5{r:Rl}{z:Zn}(h:VZ r z){c:Nat}(hc:c < 6){L:List Int}(hL:Inc z.Years.length 0 L):ztw (zxl r z) (c:Int) L=some (zy4 r z c (inD L)):=by
 have h6:=h.y6;have hll:=zwn hL;unfold ztw;rw[zy0 h (fun v hv=>by have:=hL.2 v hv; omega) (by omega),obs,zy3 h,obs,zrw (zx5 hc)]; rfl
def zy6(r:Rl)(z:Zn)(c:Nat)(L:List Int):Bool:=zy4 r z c (inD L)
theorem zy7{r:Rl}{z:Zn}(h:VZ r z){c:Nat}(hc:c < 6):ztx (zxl r z) (c:Int)=some (zrn z.Years.length (zy6 r z c),((zoi z.Years.length).find? (zy6 r z c)).isSome):=by
 have h6:=h.y6;unfold ztx;rw[zyI,zqs ⟨by omega,fun L hL=>by rw[zy5 h hc (zwo.1 hL)]; rfl⟩]
 have e:∀L∈zoi z.Years.length,((ztw (zxl r z) (c:Int) L).getD false)=zy6 r z c L:=fun L hL=>by rw[zy5 h hc (zwo.1 hL)]; rfl
 have e2:(zoi z.Years.length).find? (fun L=>(ztw (zxl r z) (c:Int) L).getD false)=(zoi z.Years.length).find? (zy6 r z c):=by
  have key:∀l:List (List Int),(∀L∈l,((ztw (zxl r z) (c:Int) L).getD false)=zy6 r z c L)->l.find? (fun L=>(ztw (zxl r z) (c:Int) L).getD false)=l.find? (zy6 r z c):=by
   intro l
   induction l with
   | nil=>intro _; rfl
   | cons a l ih=>
    intro hl;rw[List.find?_cons,List.find?_cons,hl a (List.mem_cons_self ..),ih fun L hL=>hl L (List.mem_cons_of_mem _ hL)]
  exact key _ e
 unfold zrn;rw[e2]
theorem zy8{r:Rl}(h:zwv r)(hc:r.Classes<=6){c:Int}:Ev (zsN r c) (0<=c/\c<=r.Classes - 1):=by
 have:=h.c0;unfold zsN;refine Ev.gd (fI (by omega)) ?_;exact(show Ev (zso ⟨0,r.Classes - 1⟩ c) _ from zwA).ret
theorem zy9{r:Rl}{z:Zn}(h:VZ r z){c:Nat}(hc:(c:Int)<=r.Classes - 1)(hn:∀L,Inc z.Years.length 0 L->zy6 r z c L=false):ztH r z (c:Int)=some ([],7):=by
 have hc6:=h.c6;unfold ztH;rw[zxm h,obs,if_pos rfl,(zy8 h.full.rl h.c6).some_of ⟨by omega,hc⟩,obs,if_pos rfl,zy7 h (by omega),obs]
 have e:(zoi z.Years.length).find? (zy6 r z c)=none:=List.find?_eq_none.2 fun L hL=>by rw[hn L (zwo.1 hL)]; decide
 rw[e]; rfl
theorem zza{r:Rl}{z:Zn}(h:VZ r z){c:Nat}(hc:(c:Int)<=r.Classes - 1)(hn:∃L,Inc z.Years.length 0 L/\zy6 r z c L=true):ztH r z (c:Int)=some (zrn z.Years.length (zy6 r z c),0):=by
 have hc6:=h.c6;unfold ztH;rw[zxm h,obs,if_pos rfl,(zy8 h.full.rl h.c6).some_of ⟨by omega,hc⟩,obs,if_pos rfl,zy7 h (by omega),obs];obtain⟨L,h1,h2⟩:=hn
 have e:((zoi z.Years.length).find? (zy6 r z c)).isSome=true:=by
  rw[List.find?_isSome];exact⟨L,zwo.2 h1,h2⟩
 rw[e]; rfl
theorem zzb{a b:List Int}(hl:a.length<=1000):∀(d k:Nat),k<=a.length->a.length - k < d->zsl a b d (k:Int)=some (bef (a.drop k) (b.drop k))
 | 0,_,_,h=>by omega
 | d+1,k,hk,h=>by
  rw[zsl]
  by_cases hka:k < a.length
  ·rw[if_pos (by omega)];have da:=List.drop_eq_getElem_cons hka;have ga:=List.getElem?_eq_getElem hka
   by_cases hkb:k < b.length
   ·have db:=List.drop_eq_getElem_cons hkb;have gb:=List.getElem?_eq_getElem hkb;rw[if_pos (by omega),zrw ga,obs,zrw gb,obs,da,db];unfold bef
    by_cases he:a[k]=b[k]
    ·rw[if_pos he,if_pos he,zqs (fI (by omega)),show(k:Int)+1=((k+1:Nat):Int) by omega];exact zzb hl d (k+1) (by omega) (by omega)
    ·rw[if_neg he,if_neg he,obs,obs]
   ·rw[if_neg (by omega),da,List.drop_eq_nil_of_le (show b.length<=k by omega),decide_eq_false (by omega)]; rfl
  ·rw[if_neg (by omega),List.drop_eq_nil_of_le (show a.length<=k by omega)]
   by_cases hkb:k < b.length
   ·rw[List.drop_eq_getElem_cons hkb,decide_eq_true (by omega)]; rfl
   ·rw[List.drop_eq_nil_of_le (show b.length<=k by omega),decide_eq_false (by omega)]; rfl
theorem zzc{a b:List Int}(hl:a.length<=1000):zsm a b=some (bef a b):=zzb hl (a.length+1) 0 (Nat.zero_le _) (by omega)
theorem zzd{r:Rl}{y:Yr}(hy:zwt y):kB r y 0 = !zwO r y:=by
 obtain⟨⟨h1,h2,h3,h4⟩,⟨h5,h6,h7,h8⟩,_⟩:=hy;rw[Bool.eq_iff_iff,zw0,Bool.not_eq_true']
 constructor
 ·rintro⟨l,p,_,_,h⟩; exact zwR.1 h
 ·intro h; exact⟨_,_,⟨Int.le_refl _,h2⟩,⟨Int.le_refl _,h6⟩,zwR.2 h⟩
theorem zze{f g:Nat->Bool}{n:Nat}(h:∀k,k < n->(f k=true↔g k=true)):zx9 f n=zx9 g n:=by
 induction n with
 | zero=>rfl
 | succ n ih=>
  rw[zya,zya,ih fun k hk=>h k (by omega),show f n=g n from Bool.eq_iff_iff.2 (h n (by omega))]
theorem zzf{a b:List Int}(ha:a.length<=1000):Ev (zsn a b) (a=b):=by
 unfold zsn
 by_cases hl:a.length=b.length
 ·rw[if_pos (by omega),zzc ha,obs]
  rcases zwr a b with h | h | h
  ·subst h;rw[zwp,if_neg (by decide),zzc ha,zwp,obs]; exact Ev.tt rfl
  ·rw[h,if_pos rfl]
   exact Ev.ff fun he=>by subst he; rw[zwp] at h; cases h
  ·rw[zwq h,if_neg (by decide),zzc (by omega),h,obs]
   exact Ev.ff fun he=>by subst he; rw[zwp] at h; cases h
 ·rw[if_neg (by omega)]; exact Ev.ff fun he=>hl (by rw[he])
theorem zzg{a:List Int}(ha:a.length<=1000):zsn a a=some true:=(zzf ha).some_of rfl
theorem zzh{l:List Int}(hl:l.length<=1000):ztI l=some l:=by
 unfold ztI;rw[zqs (by rw[List.length_nil]; omega)]; rfl
theorem zzi{r:Rl}(h:r.Price.length<=1000):ztK r=some r:=by
 unfold ztK;rw[zzh h,obs]
theorem zzj{z:Zn}(h:z.Years.length<=1000):ztM z=some z:=by
 unfold ztM
 exact(zrC (l:=z.Years) id (F:=fun d acc x=>ztL z d z.First acc x) (fun acc=>some ({ First:=z.First,Years:=acc }:Zn)) (fun d k acc a hk ha=>by
  have hkl:=(List.getElem?_eq_some_iff.1 hk).1
  show ztL z (d+1) _ _ _=_
  rw[ztL,if_pos (by omega),zrw hk,obs]
  show gd _ _=_
  rw[zqs (by omega),zqs (fI (by omega))]; rfl) (fun d acc=>by
  show ztL z (d+1) _ _ _=_
  rw[ztL,if_neg (Int.lt_irrefl _)]) (d:=1000000) (by omega)).trans (by rw[List.map_id])
theorem zzk{t:Tr}(h1:t.Losses.length<=1000)(h2:t.Premiums.length<=1000):ztN t=some t:=by
 unfold ztN;rw[zzh h1,obs,zzh h2,obs]
theorem zzl{r:Rl}{z:Zn}:Ev (ztO r z) (r.Price.length<=9/\z.Years.length<=9):=by
 unfold ztO;exact(Ev.ite fun _=>Ev.dec Iff.rfl).imp (by omega)
theorem zzm{r:Rl}{z:Zn}(h1:r.Price.length<=1000)(h2:z.Years.length<=1000):ztP r z=some (zwy r z):=by
 unfold ztP;rw[zwN h1 h2,obs]
theorem zzn{r:Rl}{z:Zn}:Ev (ztU r z) (VZ r z):=by
 unfold ztU;refine(zzl.and (K:=VZ r z) fun ht=>?_).imp ⟨fun h=>h.2,fun h=>⟨?_,h⟩⟩
 ·rw[zzm (by omega) (by omega),obs];exact Ev.dec zwz
 ·have h1:=h.full.rl.pl;have h2:=h.c6;have h3:=h.y6
  omega
theorem VZ.pl{r:Rl}{z:Zn}(h:VZ r z):r.Price.length<=6:=by
 have h1:=h.full.rl.pl;have h2:=h.c6
 omega
theorem zzo{r:Rl}{z:Zn}(h:VZ r z):ztK r=some r:=zzi (by have:=h.pl; omega)
theorem zzp{r:Rl}{z:Zn}(h:VZ r z):ztM z=some z:=zzj (by have:=h.y6; omega)
def zzq:Rl:={ Classes:=4,Good:=40,Bad:=120,Rest:=1,Fewest:=5,Price:=[10,20,40,80] }
def yrN(a b c d p:Int):Yr:={ Losses:=⟨a,b⟩,Premiums:=⟨c,d⟩,Parcels:=p,Exempt:=false }
def zzr:Zn:={ First:=1,Years:=[yrN 50 50 100 102 9,yrN 130 131 108 109 9,yrN 10 10 100 100 3,yrN 30 30 100 100 9,yrN 39 41 100 100 9] }
theorem zzs:ztR=some zzq:=rfl
theorem zzt:ztS=some zzr:=rfl
theorem zzu{r:Rl}{z:Zn}(h1:1<=r.Classes/\r.Classes<=6)(h2:(r.Price.length:Int)=r.Classes)(h3:0<=r.Good/\r.Good<=r.Bad/\r.Bad<=300)(h4:0<=r.Rest/\r.Rest<=4)(h5:0<=r.Fewest/\r.Fewest<=100)(h6:∀x∈r.Price,1<=x/\x<=10000)(h7:r.Price.Pairwise (·<=·))(h8:0<=z.First/\z.First<=r.Classes - 1)(h9:∀y∈z.Years,zwt y)(h10:z.Years.length<=6):VZ r z:=
 ⟨⟨⟨h1.1,h2,h3,h4,h5,h6,fun j hj h0 x y hx hy=>by
  obtain⟨q1,rfl⟩:=List.getElem?_eq_some_iff.1 hx;obtain⟨q2,rfl⟩:=List.getElem?_eq_some_iff.1 hy;have:=List.pairwise_iff_getElem.1 h7 (j - 1) j q2 q1 (by omega)
  omega⟩,h8,h9⟩,h1.2,h10⟩
instance (r:Rg):Decidable (RgP r):=by unfold RgP; infer_instance
instance (y:Yr):Decidable (zwt y):=by unfold zwt; infer_instance
theorem vEx:VZ zzq zzr:=zzu (by decide) (by decide) (by decide) (by decide) (by decide) (by decide) (by decide) (by decide) (by decide) (by decide)
theorem zzv:zx9 (clB (zye zzq zzr 4)) 6=[0,2]:=by decide +kernel
theorem zzw:zyE zzq zzr 5=[0,1,2]:=by decide +kernel
theorem zzx:zyo zzq zzr 0 (mkP (kB zzq (yrN 50 50 100 102 9)))=2:=by decide +kernel
theorem zzy:zyo zzq zzr 3 (mkP (kB zzq (yrN 30 30 100 100 9)))=3:=by decide +kernel
theorem zzz:zx9 (zyL zzq zzr) 5=[1,4]:=by decide +kernel
theorem zzA:zy6 zzq zzr 3 [0]=true:=by decide +kernel
theorem zzB:zrn 5 (zy6 zzq zzr 3)=[0]:=by decide +kernel
theorem zzC:ztT=some true:=by
 have e1:ztD zzq zzr 3=some ([0,2],0):=(zyg vEx (i:=3) (by decide)).trans (by rw[zzv]);have e2:ztD zzq zzr 4=some ([0,1,2],0):=(zyg vEx (i:=4) (by decide)).trans (by rw[show zx9 (clB (zye zzq zzr (4+1))) 6=[0,1,2] from zzw]);have e3:ztE zzq zzr 0=some (2,0):=(zyr vEx (i:=0) (y:=yrN 50 50 100 102 9) rfl).trans (by rw[zzx]);have e4:ztE zzq zzr 3=some (3,0):=(zyr vEx (i:=3) (y:=yrN 30 30 100 100 9) rfl).trans (by rw[zzy]);have e5:ztF zzq zzr=some (⟨10,40⟩,0):=(zyK vEx (a:=0) (b:=2) (by rw[show zyE zzq zzr zzr.Years.length=[0,1,2] from zzw]; rfl) (by rw[show zyE zzq zzr zzr.Years.length=[0,1,2] from zzw]; rfl)).trans rfl;have e6:ztG zzq zzr=some ([1,4],0):=(zyP vEx).trans (by rw[show zx9 (zyL zzq zzr) zzr.Years.length=[1,4] from zzz]);have e7:ztH zzq zzr 3=some ([0],0):=(zza vEx (c:=3) (by decide) ⟨[0],⟨by decide,fun v hv=>by rw[List.mem_singleton.1 hv]; decide⟩,zzA⟩).trans (by rw[show zrn zzr.Years.length (zy6 zzq zzr 3)=[0] from zzB]);have s1:zsn [0,2] [0,2]=some true:=zzg (by decide);have s2:zsn [0,1,2] [0,1,2]=some true:=zzg (by decide);have s3:zsn [1,4] [1,4]=some true:=zzg (by decide);have s4:zsn [0] [0]=some true:=zzg (by decide);have b1:ztQ 10 40=some ⟨10,40⟩:=rfl;unfold ztT
 simp only[zzs,zzt,obs,e1,e2,e3,e4,e5,e6,e7,s1,s2,s3,s4,b1,if_true]
 rw[zqs (fI (by decide)),zqs (fI (by decide)),zqs (fI (by decide)),zqs (fI (by decide))]
 simp
theorem aw:(ztT.bind fun r=>some r)=some true:=by rw[zzC]; rfl
theorem zzD{r:Rl}{z:Zn}(h:VZ r z){c:Int}(hc:c∈zyE r z z.Years.length):zl6 .i64 (zyw r c):=by
 have hb:=zyG h hc;have hp:=zyx h.full.rl hb;obtain⟨n,h1,h2,h3⟩:=zqk hp;have:=h.full.rl.pr _ (List.mem_of_getElem? h3);exact fI (by omega)
theorem zzE{r:Rl}{z:Zn}(h:VZ r z)(n:Nat):∃a b,(zyE r z n)[0]? = some a/\(zyE r z n)[(zyE r z n).length - 1]? = some b:=by
 have hl:0 < (zyE r z n).length:=List.length_pos_iff.2 (zyH h n);exact⟨_,_,List.getElem?_eq_getElem hl,List.getElem?_eq_getElem (by omega)⟩
theorem zzF{w:Int}(hw:zl6 .u8 w):∃n:Nat,w=(n:Int)/\n < 256/\zmb .i64 w=(n:Int):=by
 have:=fU8 hw;exact⟨w.toNat,by omega,by omega,(wz (fI (by omega))).trans (by omega)⟩
theorem zzG{w:Int}{r:Rg}(hw:0<=w)(h:r.Lo<=r.Hi):(0<=w % (r.Hi - r.Lo+1)/\w % (r.Hi - r.Lo+1) < r.Hi - r.Lo+1):=⟨Int.emod_nonneg _ (by omega),Int.emod_lt_of_pos _ (by omega)⟩
theorem zzH{r:Rl}{z:Zn}(h:VZ r z){words:List W8}(hw:words.length<=maxLen/\∀a∈words,zr8 a):∀(d k:Nat) (a b:List Int),k<=z.Years.length->z.Years.length - k < d->a.length=k->b.length=k->(∀j,zxp z ⟨a,b⟩ j) ->
  ∃t,ztV z words d a b (k:Int)=some t/\zxq z t
 | 0,k,_,_,_,hd,_,_,_=>by omega
 | d+1,k,a,b,hk,hd,ha,hb,hab=>by
  have h6:=h.y6
  by_cases hkn:k < z.Years.length
  ·have hg:=List.getElem?_eq_getElem hkn;have hy:=h.full.ys _ (List.getElem_mem hkn);obtain⟨q1,q2,_⟩:=hy;unfold RgP at q1 q2
   have hnext:∀u v:Int,0<=u->0<=v->∃t,ztV z words d (a++[(z.Years[k]).Losses.Lo+u % ((z.Years[k]).Losses.Hi - (z.Years[k]).Losses.Lo+1)]) (b++[(z.Years[k]).Premiums.Lo+v % ((z.Years[k]).Premiums.Hi - (z.Years[k]).Premiums.Lo+1)]) ((k:Int)+1)=some t/\zxq z t:=fun u v hu hv=>by
    have m1:=zzG hu q1.2.1;have m2:=zzG hv q2.2.1;rw[show(k:Int)+1=((k+1:Nat):Int) by omega];refine zzH h hw d (k+1) _ _ (by omega) (by omega) (by rw[List.length_append,ha]; rfl) (by rw[List.length_append,hb]; rfl) fun j y x p hy hx hp=>?_
    rcases Nat.lt_or_ge j k with hj | hj
    ·have hx:(a++_)[j]? = some x:=hx;have hp:(b++_)[j]? = some p:=hp;rw[List.getElem?_append_left (by omega)] at hx hp;exact hab j y x p hy hx hp
    ·have hj2:=(List.getElem?_eq_some_iff.1 hx).1;have hj2:j < (a++[_]).length:=hj2;rw[List.length_append,ha] at hj2
     have e:j=k:=by simp only[List.length_cons,List.length_nil] at hj2; omega
     subst e;have hx:(a++_)[j]? = some x:=hx;have hp:(b++_)[j]? = some p:=hp;rw[List.getElem?_append_right (by omega),ha,Nat.sub_self] at hx;rw[List.getElem?_append_right (by omega),hb,Nat.sub_self] at hp
     cases hx; cases hp
     rw[hg] at hy; cases hy
     omega
   have ga:a.length < 1048576:=by omega
   have gb:b.length < 1048576:=by omega
   rw[ztV,if_pos (by omega)]
   by_cases h0:0 < words.length
   ·have hm:words.length<=1048576\/True:=.inr trivial;have e1:=Int.emod_nonneg (2 * (k:Int)) (show(words.length:Int) ≠ 0 by omega);have e2:=Int.emod_lt_of_pos (2 * (k:Int)) (show(0:Int) < (words.length:Int) by omega);have e3:=Int.emod_nonneg (2 * (k:Int)+1) (show(words.length:Int) ≠ 0 by omega);have e4:=Int.emod_lt_of_pos (2 * (k:Int)+1) (show(0:Int) < (words.length:Int) by omega);have hlw:words.length<=maxLen:=hw.1;unfold maxLen at hlw;obtain⟨u,hu⟩:∃u,idx words (2 * (k:Int) % (words.length:Int))=some u:=⟨_,zrx (k:=(2 * (k:Int) % (words.length:Int)).toNat) (by omega) (by omega)⟩;obtain⟨v,hv⟩:∃v,idx words ((2 * (k:Int)+1) % (words.length:Int))=some v:=⟨_,zrx (k:=((2 * (k:Int)+1) % (words.length:Int)).toNat) (by omega) (by omega)⟩
    have ou:∀w i,idx words i=some w->0<=w.v/\w.v < 256:=fun w i hi=>by
     obtain⟨n,_,_,hn⟩:=zqk hi;exact fU8 (hw.2 w (List.mem_of_getElem? hn))
    have u1:=ou u _ hu;have v1:=ou v _ hv;have wu1:zmb .i64 u.v=u.v:=wz (fI (by omega));have wv1:zmb .i64 v.v=v.v:=wz (fI (by omega));have m1:=zzG (w:=u.v) u1.1 q1.2.1;have m2:=zzG (w:=v.v) v1.1 q2.2.1
    rw[if_pos (by omega),zqs (by omega),zqs (by omega),zqs (fI (by omega)),zqs (by omega),zqs (by omega),zqs (fI (by omega)),hu,obs,zqs (by omega),zqs (by omega),zqs (fI (by omega)),zqs (fI (by omega)),zqs (by omega),zqs (by omega),zqs (fI (by omega)),hv,obs,zrw hg,obs,wu1,wv1,
     zqs (fI (by omega)),zqs (fI (by omega)),zqs u1.1,zqs (by omega),zqs (fI (by omega)),zqs (fI (by omega)),zqs ga,zqs (fI (by omega)),zqs (fI (by omega)),zqs v1.1,zqs (by omega),zqs (fI (by omega)),zqs (fI (by omega)),zqs gb,zqs (fI (by omega))]
    exact hnext u.v v.v u1.1 v1.1
   ·have m1:=zzG (w:=0) (Int.le_refl 0) q1.2.1;have m2:=zzG (w:=0) (Int.le_refl 0) q2.2.1;rw[if_neg (by omega),zrw hg,obs,zqs (fI (by omega)),zqs (fI (by omega)),zqs (by omega),zqs (by omega),zqs (fI (by omega)),zqs (fI (by omega)),zqs ga,zqs (fI (by omega)),zqs (fI (by omega)),zqs (by omega),zqs (by omega),zqs (fI (by omega)),zqs (fI (by omega)),zqs gb,zqs (fI (by omega))];exact hnext 0 0 (Int.le_refl 0) (Int.le_refl 0)
  ·rw[ztV,if_neg (by omega)];exact⟨_,rfl,by show a.length=_; omega,by show b.length=_; omega,hab⟩
theorem zzI{r:Rl}{z:Zn}(h:VZ r z){words:List W8}(hw:words.length<=maxLen/\∀a∈words,zr8 a):∃t,ztW z words=some t/\zxq z t:=by
 have h6:=h.y6
 exact zzH h hw 1000000 0 [] [] (Nat.zero_le _) (by omega) rfl rfl fun j y x p _ hx=>by simp at hx
theorem zzJ{r:Rl}{z:Zn}(h:VZ r z){t:Tr}(ht:zxq z t):ztN t=some t:=by
 have h6:=h.y6;have:=ht.l;have:=ht.p;exact zzk (by omega) (by omega)
def zzK(r:Rl)(z:Zn)(t:Tr)(k:Nat):Int:=(zw6 r (st0 r z) ((ktN r z t).take k)).cls
theorem zzL{r:Rl}{z:Zn}{t:Tr}(ht:zxq z t){k:Nat}(hk:k < z.Years.length):(zxu r z t)[k]? = some (zzK r z t (k+1)):=zxd r (ktN r z t) (st0 r z) k (by rw[zxx ht]; exact hk)
end
end Go.Proofs.Ytlpjlgmoaipoiaa

