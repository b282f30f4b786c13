/- ZonePlays, for all that it can be called with, returns true. Condition: none. -/
import Derived.Test.YtlpjlgmoaipoiaaZaH
import GoSem.Step
import GoSem.ClaimKeys
import Derived.DeepKeys2
import Derived.RangeFuncLeaves
import Derived.OrdersIn
import Derived.Laws.World
import Derived.Laws.Sem
import Derived.RangeFuncRecord
import Derived.Laws.CopyRow
import Derived.Laws.Append
import Derived.Laws.Rows
import Derived.Laws.Slices
import Derived.Laws.Entries
import Derived.ChangeKeysEq
import Derived.IntWalk
import Derived.DeepKeys
import Derived.DeepKeys3
import Derived.Laws.StructEq
import Derived.MapKept
import Derived.Laws.AppendOwn
import Derived.ChangeArms
import Derived.ChangeOld
import Derived.Carry
import Derived.ChangeShapes
import Derived.KernelRfl
import Derived.ProofKit
import Derived.Test.YtlpjlgmoaipoiaaRows

namespace Go.Proofs.Ytlpjlgmoaipoiaa
open _root_.Go.Proofs.Try
open Go.Abs
set_option maxRecDepth 100000
noncomputable section
theorem zv0:TA prog 37 6:=⟨104,by kernel_rfl,by kernel_rfl,by kernel_rfl⟩
theorem zv1{r:Rl}{y:Yr}{ca105:C}{m f:M}{Q:V->M->Prop}{rz:P4}(hS:Pre f m)(ha105:Sl f ca105 r.Price)(hp:ztB r y=some rz)(hq:∀m',Ext m m'->Q (.agg 4 [.bool rz.p0,.bool rz.p1,.bool rz.p2,.bool rz.p3]) m'):Wc prog tbl 77 [.agg 6 [Il r.Classes,Il r.Good,Il r.Bad,Il r.Rest,Il r.Fewest,ca105],.agg 6 [Il y.Losses.Lo,Il y.Losses.Hi,Il y.Premiums.Lo,Il y.Premiums.Hi,Il y.Parcels,.bool y.Exempt]] m Q:=by
 have S0:=hS.st;obtain⟨τ0,_⟩:=zr1;refine w77 ?_;unfold ztB at hp;intro m0 za;obtain⟨Aa,Ba,bc,Ca⟩:=S0.blk za τ0 1;intro m1 Ea;obtain⟨Fa,Ga,Ha,Ia⟩:=Ba.blk Ea Aa 2;have Ja:=Ca.k Ha;intro m2 La;obtain⟨Ma,Na,da,Oa⟩:=Ga.blk La Fa 3;have Pa:=Ja.k da;have Qa:=Ia.k da;intro m3 Ra;obtain⟨Sa,Ta,J,Ua⟩:=Na.blk Ra Ma 4;have Va:=Pa.k J;have N:=Qa.k J;have Wa:=Oa.k J;refine⟨trivial,_,_,N.bk.rp (k:=0) (j:=2) rfl (by omega),trivial,_,_,N.bk.rp (k:=2) (j:=2) rfl (by omega),?_⟩;intro m8 Xa;obtain⟨ea,Ya,u,Za⟩:=Ta.blk Xa Sa 5;have ab:=Va.k u;have cb:=N.k u;have db:=Wa.k u;have eb:=Ua.k u;obtain⟨fa,ga,p,na⟩:=Za.freeze Ya;have fb:=ab.k p;have gb:=cb.k p;have hb:=db.k p;have ib:=eb.k p;have jb:Sl fa (C.sl m3.nxt 0 2 0 (Option.some 2)) ([y.Losses,y.Premiums]:List Rg):=Bk.sl (α:=Rg) (l:=([y.Losses,y.Premiums]:List Rg)) na (show Cat (α:=Rg) fa [Il y.Losses.Lo,Il y.Losses.Hi,Il y.Premiums.Lo,Il y.Premiums.Hi] ([y.Losses,y.Premiums]:List Rg) from ⟨[Il y.Losses.Lo,Il y.Losses.Hi],_,rfl,rfl,⟨[Il y.Premiums.Lo,Il y.Premiums.Hi],_,rfl,rfl,rfl⟩⟩) rfl rfl _;obtain⟨dc,kb,hp⟩:=zqq hp;refine zvV (l:=([y.Losses,y.Premiums]:List Rg)) ga.pre jb kb fun nc ec fc mb ob=>?_;obtain⟨pb,q⟩:=ga.callG mb ea;have ha:=fb.k q;have ia:=gb.k q;have ja:=hb.k q;have ka:=ib.k q;refine⟨_,rfl,?_⟩;refine zrm (α:=List Int) pb ob (σ:=Bool × Bool × Bool × Bool) 6 (fun st bb=>(False\/(False\/(False\/False)))) (fun st gG gF gT gM=>(Lb gG gF gT gM 1 m.nxt 6 [Il r.Classes,Il r.Good,Il r.Bad,Il r.Rest,Il r.Fewest,ca105])/\(Lb gG gF gT gM 2 m0.nxt 6 [Il y.Losses.Lo,Il y.Losses.Hi,Il y.Premiums.Lo,Il y.Premiums.Hi,Il y.Parcels,.bool y.Exempt])/\(Lb gG gF gT gM 3 m1.nxt 4 [.bool false,.bool false,.bool false,.bool false])/\(Lb gG gF gT gM 4 m2.nxt 4 [.bool st.1,.bool st.2.1,.bool st.2.2.1,.bool st.2.2.2])) (fun rr_ st=>pwithin_L0 r y rr_ st.1 st.2.1 st.2.2.1 st.2.2.2=some rz) (fun ex st=>False) (fun st=>(Gux.and (Gux.lb ha.bk.lt (by decide)) (Gux.and (Gux.lb ia.bk.lt (by decide)) (Gux.and (Gux.lb ja.bk.lt (by decide)) (Gux.lb ka.bk.lt (by decide)))))) (st0:=(false,false,false,false)) (τ:=ea) ⟨ha,ia,ja,ka⟩ hp ?_ ?_ ?_ ?_
 ·intro qb rb st w s T z gc Vb Wb Xb _ _ sb tb hA oa hp hrep Yb pa qa;obtain⟨hc,rfl,⟨A,_⟩⟩:=hrep;obtain⟨a,c,d,e⟩:=st;obtain⟨n,o,h,i⟩:=hA
  replace n:Lb z w s T 1 m.nxt 6 [Il r.Classes,Il r.Good,Il r.Bad,Il r.Rest,Il r.Fewest,ca105]:=n
  replace o:Lb z w s T 2 m0.nxt 6 [Il y.Losses.Lo,Il y.Losses.Hi,Il y.Premiums.Lo,Il y.Premiums.Hi,Il y.Parcels,.bool y.Exempt]:=o
  replace h:Lb z w s T 3 m1.nxt 4 [.bool false,.bool false,.bool false,.bool false]:=h
  replace i:Lb z w s T 4 m2.nxt 4 [.bool a,.bool c,.bool d,.bool e]:=i
  replace hp:pwithin_L0 r y (qb::rb) a c d e=some rz:=hp
  rw[pwithin_L0] at hp;refine⟨_,rfl,?_⟩;refine pa _ _ _ _ sb oa fun oc ic B D sa ta=>?_;have la:=n.k D;have ma:=o.k D;have ub:=h.k D;have vb:=i.k D;refine⟨_,_,_,_,_,_,la.bk.ra,_,_,_,_,_,_,ma.bk.ra,?_⟩;obtain⟨wb,O,hp⟩:=zqq hp;obtain⟨Sb,ua,Y,O⟩:=zqk O;refine⟨Sb,ua,(by first|exact Y|(rw[A.slLen];exact Y)),_,(A.rdI O B.sub),?_⟩;obtain⟨xb,P,hp⟩:=zqq hp;obtain⟨Tb,va,Z,P⟩:=zqk P;refine⟨Tb,va,(by first|exact Z|(rw[A.slLen];exact Z)),_,(A.rdI P B.sub),?_⟩;obtain⟨g,yb,hp⟩:=zqq hp;refine zu7 (r:=r) (y:=y) (losses:=wb) (premiums:=xb) B.pre (ha105.sub (Sub.trans (Sub.trans p.fs q.fs) tb)) yb fun pc zb=>?_;obtain⟨Ab,t⟩:=B.call zb s;have Bb:=la.k t;have Cb:=ma.k t;have Db:=ub.k t;have Eb:=vb.k t;have wa:=sa.k t;refine⟨_,rfl,trivial,?_⟩;obtain⟨Fb,hp⟩:=zqr hp;obtain⟨Ub,aa,ba⟩:=zqQ Fb;refine⟨Ub,aa,ba,?_⟩;obtain⟨Gb,Hb,Ib,F,S⟩:=Eb.sta Ab (pre:=[]) (post:=[]) (l:=([a,c,d,e]:List Bool)) (enc:=C.bool) rfl rfl aa ba true
  replace S:Lb _ _ _ _ _ _ _ [(.bool (sti g 0 true a)),(.bool (sti g 1 true c)),(.bool (sti g 2 true d)),(.bool (sti g 3 true e))]:=S
  have Jb:=Bb.k F;have Kb:=Cb.k F;have Mb:=Db.k F;have xa:=wa.k F;refine⟨Gb,Hb,?_⟩;exact qa .nrm ((sti g 0 true a),(sti g 1 true c),(sti g 2 true d),(sti g 3 true e)) _ _ _ _ Ib ⟨Jb,Kb,Mb,S⟩ xa ta hp
 ·intro st G I ca Nb jc hA hp;obtain⟨a,c,d,e⟩:=st
  replace hp:pwithin_L0 r y [] a c d e=some rz:=hp
  obtain⟨n,o,h,i⟩:=hA
  replace n:Lb (Fm.of m) G I ca 1 m.nxt 6 [Il r.Classes,Il r.Good,Il r.Bad,Il r.Rest,Il r.Fewest,ca105]:=n
  replace o:Lb (Fm.of m) G I ca 2 m0.nxt 6 [Il y.Losses.Lo,Il y.Losses.Hi,Il y.Premiums.Lo,Il y.Premiums.Hi,Il y.Parcels,.bool y.Exempt]:=o
  replace h:Lb (Fm.of m) G I ca 3 m1.nxt 4 [.bool false,.bool false,.bool false,.bool false]:=h
  replace i:Lb (Fm.of m) G I ca 4 m2.nxt 4 [.bool a,.bool c,.bool d,.bool e]:=i
  rw[pwithin_L0] at hp;refine⟨_,_,_,_,i.bk.ra,?_⟩;obtain⟨Ob,Pb,Qb,kc,Rb⟩:=h.sto Nb [.bool a,.bool c,.bool d,.bool e];refine⟨Ob,Pb,?_⟩;refine⟨_,_,_,_,Rb.bk.ra,?_⟩;obtain rfl:=oi hp;exact hq _ Qb.ext'
 ·intro id st _ _ _ _ _ _ hn; first | exact hn.elim | (cases hn)
 ·intro st _ _ _ _ _ _ hn; first | exact hn.elim | (cases hn)
theorem zv2{r:Rl}{z:Zn}{ca105 ca201:C}{m f:M}{Q:V->M->Prop}{rz:Wk × Int}(hS:Pre f m)(ha105:Sl f ca105 r.Price)(ha201:Sl f ca201 z.Years)(hp:ztD r z=some rz)(hq:∀m' f' c5 c7 c8 c9 c10 c11 c12,Grw m f m' f'->Sl f' c5 rz.1.r.Price->Sl f' c7 rz.1.zone.Years->zuk f' c8 rz.1.kinds.k0.lead->zuk f' c9 rz.1.kinds.k1.lead->zuk f' c10 rz.1.kinds.k2.lead->zuk f' c11 rz.1.kinds.k3.lead->Sl f' c12 rz.1.can->Q (.tup [.agg 13 [Il rz.1.r.Classes,Il rz.1.r.Good,Il rz.1.r.Bad,Il rz.1.r.Rest,Il rz.1.r.Fewest,c5,Il rz.1.zone.First,c7,c8,c9,c10,c11,c12],.c (Il rz.2)]) m'):Wc prog tbl 53 [.agg 6 [Il r.Classes,Il r.Good,Il r.Bad,Il r.Rest,Il r.Fewest,ca105],.agg 2 [Il z.First,ca201]] m Q:=by
 have S0:=hS.st;obtain⟨τ0,_⟩:=zr1;refine w53 ?_;unfold ztD at hp;intro m0 Ua;obtain⟨Va,Wa,Xc,Xa⟩:=S0.blk Ua τ0 1;intro m1 Ya;obtain⟨Za,ab,bb,cb⟩:=Wa.blk Ya Va 2;have db:=Xa.k bb;intro m2 eb;obtain⟨ta,ua,va,fb⟩:=ab.blk eb Za 3;have wa:=db.k va;have xa:=cb.k va;refine⟨_,_,_,_,_,_,wa.bk.ra,_,_,xa.bk.ra,?_⟩;obtain⟨Zc,gb,hp⟩:=zqq hp;refine zu0 (r:=r) (z:=z) ua.pre ha105 ha201 gb fun Jc hb=>?_;obtain⟨ya,da⟩:=ua.call hb ta;have ib:=wa.k da;have jb:=xa.k da;have za:=fb.k da;refine⟨_,rfl,?_⟩;refine zqT hp (fun kb hp=>?_) fun kb hp=>?_
 ·obtain⟨mb,ob,pb,ad,qb⟩:=za.sto ya [Il 0,Il 0,Il 0,Il 0,Il 0,.sl0,Il 0,.sl0,C.nilFn,C.nilFn,C.nilFn,C.nilFn,.sl0];refine⟨mb,ob,?_⟩;refine⟨_,_,_,_,_,_,_,_,_,_,_,_,_,qb.bk.ra,?_⟩
  have Oc:zuk f .nilFn (fun _ _=>none):=by refine⟨rfl,?_⟩; intro f9 m9 _ _ _ r9 Q9 _ _ _ e; exact absurd e (by intro i; cases i)
  have Pc:zuk f .nilFn (fun _ _=>none):=by refine⟨rfl,?_⟩; intro f9 m9 _ _ _ r9 Q9 _ _ _ e; exact absurd e (by intro i; cases i)
  have Qc:zuk f .nilFn (fun _ _=>none):=by refine⟨rfl,?_⟩; intro f9 m9 _ _ _ r9 Q9 _ _ _ e; exact absurd e (by intro i; cases i)
  have Rc:zuk f .nilFn (fun _ _=>none):=by refine⟨rfl,?_⟩; intro f9 m9 _ _ _ r9 Q9 _ _ _ e; exact absurd e (by intro i; cases i)
  have Na:zuk f .nilFn (fun _ _=>none):=by refine⟨rfl,?_⟩; intro f9 m9 _ _ _ r9 Q9 _ _ _ e; exact absurd e (by intro i; cases i)
  have Oa:zuk f .nilFn (fun _ _=>none):=by refine⟨rfl,?_⟩; intro f9 m9 _ _ _ r9 Q9 _ _ _ e; exact absurd e (by intro i; cases i)
  have Pa:zuk f .nilFn (fun _ _=>none):=by refine⟨rfl,?_⟩; intro f9 m9 _ _ _ r9 Q9 _ _ _ e; exact absurd e (by intro i; cases i)
  have Qa:zuk f .nilFn (fun _ _=>none):=by refine⟨rfl,?_⟩; intro f9 m9 _ _ _ r9 Q9 _ _ _ e; exact absurd e (by intro i; cases i)
  obtain rfl:=oi hp;exact hq _ f .sl0 .sl0 C.nilFn C.nilFn C.nilFn C.nilFn .sl0 pb.grw (Sl.nil _) (Sl.nil _) Na Oa Pa Qa (Sl.nil _)
 intro bd rb;obtain⟨Aa,Ba,ia,Ra⟩:=ya.growK rb ta 4;have Ca:=ib.k ia;have Da:=jb.k ia;have sb:=za.k ia;have tb:=Ra 0 (by decide);refine⟨_,_,_,_,_,_,Ca.bk.ra,_,_,Da.bk.ra,?_⟩;obtain⟨ub,vb,hp⟩:=zqq hp;refine zu5 Ba.pre  vb fun cd j B D F G wb xb yb zb Ab=>?_;obtain⟨Bb,g⟩:=Ba.callG wb Aa;have Ea:=Ca.k g;have Fa:=Da.k g;have Cb:=sb.k g;have Db:=tb.k g;refine⟨_,_,_,_,rfl,(by rw[show zaL cmC _=true from zoW (zqu rfl (zqu ha201.noFn zqv))]; exact(Fa.bk.ra)),(by rw[show zaL cmC _=true from zoW (zqu rfl (zqu rfl (zqu rfl (zqu rfl (zqu rfl (zqu ha105.noFn zqv))))))]; exact(Ea.bk.ra)),?_⟩;intro dd Eb;obtain⟨Fb,ja,Gb⟩:=Db.set Bb Eb;have Ga:=Ea.k ja;have Ha:=Fa.k ja;have Hb:=Cb.k ja;refine⟨(by rw[show zaL cmC _=true from zoW (zqu rfl (zqu ha201.noFn zqv))]; exact(Ha.bk.ra)),(by rw[show zaL cmC _=true from zoW (zqu rfl (zqu rfl (zqu rfl (zqu rfl (zqu rfl (zqu ha105.noFn zqv))))))]; exact(Ga.bk.ra)),?_⟩;obtain⟨Ib,Jb,Kb,ka,I⟩:=Gb.sto Fb [Il r.Classes,Il r.Good,Il r.Bad,Il r.Rest,Il r.Fewest,ca105,Il z.First,ca201,B,D,F,G,.sl0];have T:=Ga.k ka;have J:=Ha.k ka;have N:=Hb.k ka;refine⟨Ib,Jb,?_⟩;refine⟨trivial,_,J.bk.rc rfl,ha201.isSl,?_⟩;intro Kc Mb
 have hgo:∀(Y:Nat) (qa:Int) (o:C) (p:Int) (q:Int) (s:Int) (t:Int) (u:Int) (w:Int) (Z:List P4) (n:M) (h:Nat->Nat),St (Fm.of m) f j n->Lb (Fm.of m) j h n 1 m.nxt 6 [Il r.Classes,Il r.Good,Il r.Bad,Il r.Rest,Il r.Fewest,ca105]->Lb (Fm.of m) j h n 2 m0.nxt 2 [Il z.First,ca201]->Lb (Fm.of m) j h n 3 m1.nxt 13 [Il 0,Il 0,Il 0,Il 0,Il 0,.sl0,Il 0,.sl0,C.nilFn,C.nilFn,C.nilFn,C.nilFn,.sl0]->Lb (Fm.of m) j h n 4 (Jc.nxt+0) 13 [Il p,Il q,Il s,Il t,Il u,ca105,Il w,ca201,B,D,F,G,o]->Ow (Fm.of m) j h n 5 o Z->ztC r z ub Y p q s t u w Z qa=some rz->Kc [.c (Il qa)] n:=by
  intro Y
  induction Y with
  | zero=>intro qa o p q s t u w Z n h aa T J N I d hp; cases hp
  | succ Y Sa=>
   intro qa o p q s t u w Z n h aa T J N I d hp;refine Mb _ _ ?_;rw[ztC] at hp
   try rw[ha201.slLen]
   refine ifd hp (fun Nb hp=>?_) fun Nb hp=>?_; rotate_left
   ·refine⟨_,_,_,_,_,_,_,_,_,_,_,_,_,I.bk.ra,?_⟩;obtain⟨Ob,Pb,Qb,Rb,Sb⟩:=N.sto aa [Il p,Il q,Il s,Il t,Il u,ca105,Il w,ca201,B,D,F,G,o];have d:=d.k Rb;refine⟨Ob,Pb,?_⟩;refine⟨_,_,_,_,_,_,_,_,_,_,_,_,_,Sb.bk.ra,?_⟩;obtain⟨Tb,Ub,A,Vb⟩:=d.freeze Qb;obtain rfl:=oi hp;exact hq _ Tb ca105 ca201 B D F G o Ub.grw (ha105.sub (Sub.trans g.fs A.fs)) (ha201.sub (Sub.trans g.fs A.fs)) (xb.sub A.fs) (yb.sub A.fs) (zb.sub A.fs) (Ab.sub A.fs) Vb
   obtain⟨l,la,hp⟩:=zqq hp;obtain⟨Nc,Ta,sa,la⟩:=zqk la;obtain⟨_,Wb⟩:=zr6 ha201 la;refine⟨Nc,Ta,(by first|exact sa|(rw[ha201.slLen];exact sa)),_,_,_,_,_,_,(Wb _ (Sub.trans g.fs aa.sub)).1,?_⟩;intro ed Xb;obtain⟨Yb,Zb,O,ac⟩:=aa.blk Xb h 6;have bc:=T.k O;have cc:=J.k O;have dc:=N.k O;have ec:=I.k O;have d:=d.k O;obtain⟨fc,gc,Ia,P,hc⟩:=ac.sto Zb [Il l.Losses.Lo,Il l.Losses.Hi,Il l.Premiums.Lo,Il l.Premiums.Hi,Il l.Parcels,.bool l.Exempt];have Ja:=bc.k P;have ic:=cc.k P;have jc:=dc.k P;have Ka:=ec.k P;have d:=d.k P;refine⟨fc,gc,?_⟩;refine⟨trivial,_,Ka.bk.rc rfl,_,_,_,_,_,_,Ja.bk.ra,_,_,_,_,_,_,hc.bk.ra,?_⟩;obtain⟨La,kc,hp⟩:=zqq hp;refine zv1 (r:=r) (y:=l) Ia.pre (ha105.sub g.fs) kc fun fd nc=>?_;obtain⟨oc,S⟩:=Ia.call nc Yb;have pc:=Ja.k S;have qc:=ic.k S;have sc:=jc.k S;have ma:=Ka.k S;have d:=d.k S;refine⟨_,_,_,_,rfl,(by rw[show cmC _=true from zoV (d.noFn)]; exact(ma.bk.rc rfl)),?_⟩;obtain⟨tc,hp⟩:=zqr hp;intro hd Ma;refine⟨(by rw[show cmC _=true from zoV (d.noFn)]; exact(ma.bk.ext (Bk.new Ma).2).rc rfl),?_⟩;obtain⟨na,uc,vc,wc,xc,ba,oa⟩:=d.app' zuq oc (a:=La) (show Rp.rep (α:=P4) j _ La from rfl) tc Ma;have yc:=pc.k ba;have zc:=qc.k ba;have Ac:=sc.k ba;have Bc:=ma.k ba;refine⟨na,uc,wc,?_⟩;refine⟨trivial,?_⟩;obtain⟨Cc,Dc,Ec,ca,pa⟩:=Bc.sto1 xc 12 na (by simp) rfl
   replace pa:Lb _ _ _ _ _ _ _ [Il p,Il q,Il s,Il t,Il u,ca105,Il w,ca201,B,D,F,G,na]:=pa
   have Fc:=yc.k ca;have Gc:=zc.k ca;have Hc:=Ac.k ca;have oa:=oa.k ca;refine⟨Cc,Dc,?_⟩;refine gdi hp fun Ic hp=>?_;exact Sa _ _ _ _ _ _ _ _ _ _ vc Ec Fc Gc Hc pa oa hp
 exact hgo _ _ _ _ _ _ _ _ _ _ _ Aa Kb T J N I (Ow.nil _ _ _ _ _) hp
theorem zv3{r:Rl}{z:Zn}{year:Int}{ca105 ca201:C}{m f:M}{Q:V->M->Prop}{rz:Wk × Int}(hS:Pre f m)(ha105:Sl f ca105 r.Price)(ha201:Sl f ca201 z.Years)(hp:ztE r z year=some rz)(hq:∀m' f' c5 c7 c8 c9 c10 c11 c12,Grw m f m' f'->Sl f' c5 rz.1.r.Price->Sl f' c7 rz.1.zone.Years->zuk f' c8 rz.1.kinds.k0.lead->zuk f' c9 rz.1.kinds.k1.lead->zuk f' c10 rz.1.kinds.k2.lead->zuk f' c11 rz.1.kinds.k3.lead->Sl f' c12 rz.1.can->Q (.tup [.agg 13 [Il rz.1.r.Classes,Il rz.1.r.Good,Il rz.1.r.Bad,Il rz.1.r.Rest,Il rz.1.r.Fewest,c5,Il rz.1.zone.First,c7,c8,c9,c10,c11,c12],.c (Il rz.2)]) m'):Wc prog tbl 61 [.agg 6 [Il r.Classes,Il r.Good,Il r.Bad,Il r.Rest,Il r.Fewest,ca105],.agg 2 [Il z.First,ca201],.c (Il year)] m Q:=by
 have S0:=hS.st;obtain⟨τ0,_⟩:=zr1;refine w61 ?_;unfold ztE at hp;intro m0 ia;obtain⟨ja,ka,hb,la⟩:=S0.blk ia τ0 1;intro m1 ma;obtain⟨na,oa,pa,qa⟩:=ka.blk ma ja 2;have sa:=la.k pa;intro m2 ta;obtain⟨A,B,D,ua⟩:=oa.blk ta na 3;have va:=sa.k D;have F:=qa.k D;refine⟨_,_,_,_,_,_,va.bk.ra,_,_,F.bk.ra,?_⟩;obtain⟨a,wa,hp⟩:=zqq hp;refine zv2 (r:=r) (z:=z) B.pre ha105 ha201 wa fun ob d h i j l n o p xa G I J N O P S=>?_;obtain⟨ya,q⟩:=B.callG xa A;have za:=F.k q;have Aa:=ua.k q;refine⟨_,_,_,_,_,_,_,_,_,_,_,_,_,_,rfl,?_⟩;intro pb Ba;obtain⟨Ca,Da,T,Ea⟩:=ya.blk Ba A 4;have Fa:=za.k T;have Ga:=Aa.k T;obtain⟨Ha,Ia,s,Y,Z⟩:=Ea.sto Da [Il a.1.r.Classes,Il a.1.r.Good,Il a.1.r.Bad,Il a.1.r.Rest,Il a.1.r.Fewest,h,Il a.1.zone.First,i,j,l,n,o,p];have Ja:=Fa.k Y;have aa:=Ga.k Y;refine⟨Ha,Ia,?_⟩;refine ifd hp (fun Ka hp=>?_) fun Ka hp=>?_; rotate_left
 ·refine⟨_,_,_,_,_,_,_,_,_,_,_,_,_,Z.bk.ra,?_⟩;obtain⟨La,Ma,Na,ib,Oa⟩:=aa.sto s [Il a.1.r.Classes,Il a.1.r.Good,Il a.1.r.Bad,Il a.1.r.Rest,Il a.1.r.Fewest,h,Il a.1.zone.First,i,j,l,n,o,p];refine⟨La,Ma,?_⟩;refine⟨_,_,_,_,_,_,_,_,_,_,_,_,_,Oa.bk.ra,?_⟩;obtain rfl:=oi hp;exact hq _ d h i j l n o p Na.grw G I J N O P S
 refine⟨_,_,Ja.bk.ra,?_⟩;obtain⟨jb,Pa,hp⟩:=zqq hp;refine zuY (z:=z) (year:=year) s.pre (ha201.sub q.fs) Pa fun qb Qa=>?_;obtain⟨ba,ca⟩:=s.call Qa Ca;have da:=aa.k ca;have Ra:=Z.k ca;refine⟨_,rfl,?_⟩;refine zqV hp (fun Sa hp=>?_) fun Sa hp=>?_; rotate_left
 ·refine⟨_,_,_,_,_,_,_,_,_,_,_,_,_,Ra.bk.ra,?_⟩;obtain⟨Ta,Ua,Va,kb,Wa⟩:=da.sto ba [Il a.1.r.Classes,Il a.1.r.Good,Il a.1.r.Bad,Il a.1.r.Rest,Il a.1.r.Fewest,h,Il a.1.zone.First,i,j,l,n,o,p];refine⟨Ta,Ua,?_⟩;refine⟨_,_,_,_,_,_,_,_,_,_,_,_,_,Wa.bk.ra,?_⟩;obtain rfl:=oi hp;exact hq _ d h i j l n o p Va.grw G I J N O P S
 obtain⟨Xa,Ya,Za,mb,ab⟩:=da.sto ba [Il 0,Il 0,Il 0,Il 0,Il 0,.sl0,Il 0,.sl0,C.nilFn,C.nilFn,C.nilFn,C.nilFn,.sl0];refine⟨Xa,Ya,?_⟩;refine⟨_,_,_,_,_,_,_,_,_,_,_,_,_,ab.bk.ra,?_⟩
 have bb:zuk d .nilFn (fun _ _=>none):=by refine⟨rfl,?_⟩; intro t u _ _ _ w y _ _ _ e; exact absurd e (by intro g; cases g)
 have cb:zuk d .nilFn (fun _ _=>none):=by refine⟨rfl,?_⟩; intro t u _ _ _ w y _ _ _ e; exact absurd e (by intro g; cases g)
 have db:zuk d .nilFn (fun _ _=>none):=by refine⟨rfl,?_⟩; intro t u _ _ _ w y _ _ _ e; exact absurd e (by intro g; cases g)
 have eb:zuk d .nilFn (fun _ _=>none):=by refine⟨rfl,?_⟩; intro t u _ _ _ w y _ _ _ e; exact absurd e (by intro g; cases g)
 have ea:zuk d .nilFn (fun _ _=>none):=by refine⟨rfl,?_⟩; intro t u _ _ _ w y _ _ _ e; exact absurd e (by intro g; cases g)
 have fa:zuk d .nilFn (fun _ _=>none):=by refine⟨rfl,?_⟩; intro t u _ _ _ w y _ _ _ e; exact absurd e (by intro g; cases g)
 have ga:zuk d .nilFn (fun _ _=>none):=by refine⟨rfl,?_⟩; intro t u _ _ _ w y _ _ _ e; exact absurd e (by intro g; cases g)
 have ha:zuk d .nilFn (fun _ _=>none):=by refine⟨rfl,?_⟩; intro t u _ _ _ w y _ _ _ e; exact absurd e (by intro g; cases g)
 obtain rfl:=oi hp;exact hq _ d .sl0 .sl0 C.nilFn C.nilFn C.nilFn C.nilFn .sl0 Za.grw (Sl.nil _) (Sl.nil _) ea fa ga ha (Sl.nil _)
theorem zv4{r:Rl}{z:Zn}{t:Tr}{ca105 ca201 ca300 ca301:C}{m f:M}{Q:V->M->Prop}{rz:List Int × Int}(hS:Pre f m)(ha105:Sl f ca105 r.Price)(ha201:Sl f ca201 z.Years)(ha300:Sl f ca300 t.Losses)(ha301:Sl f ca301 t.Premiums)(hp:ztF r z t=some rz)(hq:∀m' f' c0,Grw m f m' f'->Sl f' c0 rz.1->Q (.tup [.c c0,.c (Il rz.2)]) m'):Wc prog tbl 19 [.agg 6 [Il r.Classes,Il r.Good,Il r.Bad,Il r.Rest,Il r.Fewest,ca105],.agg 2 [Il z.First,ca201],.agg 2 [ca300,ca301]] m Q:=by
 have S0:=hS.st;obtain⟨τ0,_⟩:=zr1;refine w19 ?_;unfold ztF at hp;intro m0 y;obtain⟨A,B,Pa,D⟩:=S0.blk y τ0 1;intro m1 F;obtain⟨G,I,J,N⟩:=B.blk F A 2;have O:=D.k J;intro m2 P;obtain⟨h,i,j,S⟩:=I.blk P G 3;have T:=O.k j;have l:=N.k j;refine⟨_,_,_,_,_,_,T.bk.ra,_,_,l.bk.ra,?_⟩;obtain⟨a,Y,hp⟩:=zqq hp;refine zv2 (r:=r) (z:=z) i.pre ha105 ha201 Y fun Ta n Z aa ba ca da ea fa ga ha ia ja ka la ma na=>?_;obtain⟨oa,d⟩:=i.callG ga h;have pa:=l.k d;have qa:=S.k d;refine⟨_,_,_,_,_,_,_,_,_,_,_,_,_,_,rfl,?_⟩;intro Ua sa;obtain⟨o,ta,p,ua⟩:=oa.blk sa h 4;have va:=pa.k p;have wa:=qa.k p;obtain⟨xa,ya,e,q,za⟩:=ua.sto ta [Il a.1.r.Classes,Il a.1.r.Good,Il a.1.r.Bad,Il a.1.r.Rest,Il a.1.r.Fewest,Z,Il a.1.zone.First,aa,ba,ca,da,ea,fa];have Aa:=va.k q;have s:=wa.k q;refine⟨xa,ya,?_⟩;refine zqT hp (fun Ba hp=>?_) fun Ba hp=>?_
 ·obtain rfl:=oi hp;exact hq _ n .sl0 e.grw (Sl.nil _)
 refine⟨_,_,Aa.bk.ra,_,_,s.bk.ra,?_⟩;obtain⟨Qa,Ca,hp⟩:=zqq hp;refine zuZ (z:=z) (t:=t) e.pre (ha201.sub d.fs) (ha300.sub d.fs) (ha301.sub d.fs) Ca fun Va Da=>?_;obtain⟨g,u⟩:=e.call Da o;have Ea:=s.k u;have Fa:=za.k u;refine⟨_,rfl,?_⟩;refine zqV hp (fun Ga hp=>?_) fun Ga hp=>?_
 ·obtain rfl:=oi hp;exact hq _ n .sl0 g.grw (Sl.nil _)
 refine⟨_,_,_,_,_,_,_,_,_,_,_,_,_,Fa.bk.ra,_,_,Ea.bk.ra,?_⟩;obtain⟨Ra,Ha,hp⟩:=zqq hp;refine zvh (w:=a.1) (t:=t) g.pre ha ia ja ka la ma na (ha300.sub d.fs) (ha301.sub d.fs) Ha fun Wa Ia Ja Ka La=>?_;obtain⟨Ma,Sa⟩:=g.callG Ka o;refine⟨_,rfl,?_⟩;obtain rfl:=oi hp;exact hq _ Ia Ja Ma.grw La
theorem zv5{r:Rl}{z:Zn}{year:Int}{ca105 ca201:C}{m f:M}{Q:V->M->Prop}{rz:List Int × Int}(hS:Pre f m)(ha105:Sl f ca105 r.Price)(ha201:Sl f ca201 z.Years)(hp:ztG r z year=some rz)(hq:∀m' f' c0,Grw m f m' f'->Sl f' c0 rz.1->Q (.tup [.c c0,.c (Il rz.2)]) m'):Wc prog tbl 29 [.agg 6 [Il r.Classes,Il r.Good,Il r.Bad,Il r.Rest,Il r.Fewest,ca105],.agg 2 [Il z.First,ca201],.c (Il year)] m Q:=by
 have S0:=hS.st;obtain⟨τ0,_⟩:=zr1;refine w29 ?_;unfold ztG at hp;intro m0 l;obtain⟨n,o,Ca,p⟩:=S0.blk l τ0 1;intro m1 q;obtain⟨g,h,t,u⟩:=o.blk q n 2;have y:=p.k t;refine⟨_,_,_,_,_,_,y.bk.ra,_,_,u.bk.ra,?_⟩;obtain⟨a,A,hp⟩:=zqq hp;refine zv3 (r:=r) (z:=z) (year:=year) h.pre ha105 ha201 A fun Ma B D F G I J N O P S T Y Z aa ba ca=>?_;obtain⟨da,Da⟩:=h.callG P g;refine⟨_,_,_,_,_,_,_,_,_,_,_,_,_,_,rfl,?_⟩;intro Na ea;obtain⟨d,fa,Ea,ga⟩:=da.blk ea g 3;obtain⟨ha,ia,e,Fa,ja⟩:=ga.sto fa [Il a.1.r.Classes,Il a.1.r.Good,Il a.1.r.Bad,Il a.1.r.Rest,Il a.1.r.Fewest,D,Il a.1.zone.First,F,G,I,J,N,O];refine⟨ha,ia,?_⟩;refine zqT hp (fun ka hp=>?_) fun ka hp=>?_
 ·obtain rfl:=oi hp;exact hq _ B .sl0 e.grw (Sl.nil _)
 refine⟨_,_,_,_,_,_,_,_,_,_,_,_,_,ja.bk.ra,?_⟩;refine gdi hp fun la hp=>?_;obtain⟨ma,na,hp⟩:=zqq hp;refine zvj (w:=a.1) (years:=(year+1)) e.pre S T Y Z aa ba ca na fun Oa Ga Ha oa pa=>?_;obtain⟨i,Ia⟩:=e.callG oa d;refine⟨_,rfl,?_⟩;obtain⟨qa,sa,hp⟩:=zqq hp;refine zvf (s:=ma) i.pre pa sa fun Pa ta=>?_;obtain⟨j,Ja⟩:=i.call ta d;refine⟨_,_,_,_,_,_,rfl,?_⟩;obtain⟨Ka,ua,hp⟩:=zqq hp;refine zva (c:=qa) j.pre  ua fun Qa va wa xa ya=>?_;obtain⟨za,La⟩:=j.callG xa d;refine⟨_,rfl,?_⟩;obtain rfl:=oi hp;exact hq _ va wa za.grw ya
theorem zv6{r:Rl}{z:Zn}{year:Int}{ca105 ca201:C}{m f:M}{Q:V->M->Prop}{rz:Int × Int}(hS:Pre f m)(ha105:Sl f ca105 r.Price)(ha201:Sl f ca201 z.Years)(hp:ztH r z year=some rz)(hq:∀m',Ext m m'->Q (.tup [.c (Il rz.1),.c (Il rz.2)]) m'):Wc prog tbl 30 [.agg 6 [Il r.Classes,Il r.Good,Il r.Bad,Il r.Rest,Il r.Fewest,ca105],.agg 2 [Il z.First,ca201],.c (Il year)] m Q:=by
 have S0:=hS.st;obtain⟨τ0,_⟩:=zr1;refine w30 ?_;unfold ztH at hp;intro m0 h;obtain⟨i,j,ma,l⟩:=S0.blk h τ0 1;intro m1 n;obtain⟨e,g,o,p⟩:=j.blk n i 2;have q:=l.k o;refine⟨_,_,_,_,_,_,q.bk.ra,_,_,p.bk.ra,?_⟩;obtain⟨a,s,hp⟩:=zqq hp;refine zv3 (r:=r) (z:=z) (year:=year) g.pre ha105 ha201 s fun ua na t u y A B D F G I J N O P S T=>?_;obtain⟨Y,oa⟩:=g.callG G e;refine⟨_,_,_,_,_,_,_,_,_,_,_,_,_,_,rfl,?_⟩;intro va Z;obtain⟨aa,ba,pa,ca⟩:=Y.blk Z e 3;obtain⟨da,ea,d,qa,fa⟩:=ca.sto ba [Il a.1.r.Classes,Il a.1.r.Good,Il a.1.r.Bad,Il a.1.r.Rest,Il a.1.r.Fewest,t,Il a.1.zone.First,u,y,A,B,D,F];refine⟨da,ea,?_⟩;refine zqT hp (fun ga hp=>?_) fun ga hp=>?_
 ·obtain rfl:=oi hp;exact hq _ d.ext'
 refine⟨_,_,_,_,_,_,_,_,_,_,_,_,_,fa.bk.ra,?_⟩;obtain⟨sa,ha,hp⟩:=zqq hp;refine zvk (w:=a.1) (year:=year) d.pre I J N O P S T ha fun wa ia=>?_;obtain⟨ja,ta⟩:=d.call ia aa;refine⟨_,rfl,?_⟩;obtain rfl:=oi hp;exact hq _ ja.ext'
theorem zv7{r:Rl}{z:Zn}{ca105 ca201:C}{m f:M}{Q:V->M->Prop}{rz:Rg × Int}(hS:Pre f m)(ha105:Sl f ca105 r.Price)(ha201:Sl f ca201 z.Years)(hp:ztI r z=some rz)(hq:∀m',Ext m m'->Q (.tup [.agg 2 [Il rz.1.Lo,Il rz.1.Hi],.c (Il rz.2)]) m'):Wc prog tbl 34 [.agg 6 [Il r.Classes,Il r.Good,Il r.Bad,Il r.Rest,Il r.Fewest,ca105],.agg 2 [Il z.First,ca201]] m Q:=by
 have S0:=hS.st;obtain⟨τ0,_⟩:=zr1;refine w34 ?_;unfold ztI at hp;intro m0 s;obtain⟨t,u,Za,y⟩:=S0.blk s τ0 1;intro m1 A;obtain⟨B,D,F,G⟩:=u.blk A t 2;have I:=y.k F;intro m2 J;obtain⟨g,h,i,N⟩:=D.blk J B 3;have O:=I.k i;have P:=G.k i;refine⟨_,_,_,_,_,_,O.bk.ra,_,_,P.bk.ra,?_⟩;obtain⟨a,S,hp⟩:=zqq hp;refine zv2 (r:=r) (z:=z) h.pre ha105 ha201 S fun fb ab T Y Z aa ba ca da ea fa ga ha ia ja ka la=>?_;obtain⟨ma,na⟩:=h.callG ea g;have oa:=N.k na;refine⟨_,_,_,_,_,_,_,_,_,_,_,_,_,_,rfl,?_⟩;intro gb pa;obtain⟨d,qa,sa,ta⟩:=ma.blk pa g 4;have ua:=oa.k sa;obtain⟨va,wa,e,xa,ya⟩:=ta.sto qa [Il a.1.r.Classes,Il a.1.r.Good,Il a.1.r.Bad,Il a.1.r.Rest,Il a.1.r.Fewest,T,Il a.1.zone.First,Y,Z,aa,ba,ca,da];have j:=ua.k xa;refine⟨va,wa,?_⟩;refine zqT hp (fun za hp=>?_) fun za hp=>?_
 ·obtain⟨Aa,Ba,Ca,bb,Da⟩:=j.sto e [Il 0,Il 0];refine⟨Aa,Ba,?_⟩;refine⟨_,_,Da.bk.ra,?_⟩;obtain rfl:=oi hp;exact hq _ Ca.ext'
 refine⟨_,_,_,_,_,_,_,_,_,_,_,_,_,ya.bk.ra,?_⟩;obtain⟨n,Ea,hp⟩:=zqq hp;refine zvm (w:=a.1) e.pre fa ga ha ia ja ka la Ea fun hb cb db Fa o=>?_;obtain⟨p,Ga⟩:=e.callG Fa d;have Ha:=j.k Ga;refine⟨_,rfl,?_⟩;obtain⟨Ia,Ja,hp⟩:=zqq hp;refine zuF (l:=n) p.pre o Ja fun ib Ka=>?_;obtain⟨q,La⟩:=p.call Ka d;have Ma:=Ha.k La;refine⟨_,rfl,?_⟩;obtain⟨Na,Oa,hp⟩:=zqq hp;refine zuG (l:=n) q.pre o Oa fun jb Pa=>?_;obtain⟨Qa,Ra⟩:=q.call Pa d;have Sa:=Ma.k Ra;refine⟨_,rfl,?_⟩;obtain⟨Ta,Ua,Va,eb,Wa⟩:=Sa.sto Qa [Il Ia,Il Na];refine⟨Ta,Ua,?_⟩;refine⟨_,_,Wa.bk.ra,?_⟩;obtain rfl:=oi hp;exact hq _ Va.ext'
theorem zv8{r:Rl}{z:Zn}{ca105 ca201:C}{m f:M}{Q:V->M->Prop}{rz:List Int × Int}(hS:Pre f m)(ha105:Sl f ca105 r.Price)(ha201:Sl f ca201 z.Years)(hp:ztJ r z=some rz)(hq:∀m' f' c0,Grw m f m' f'->Sl f' c0 rz.1->Q (.tup [.c c0,.c (Il rz.2)]) m'):Wc prog tbl 35 [.agg 6 [Il r.Classes,Il r.Good,Il r.Bad,Il r.Rest,Il r.Fewest,ca105],.agg 2 [Il z.First,ca201]] m Q:=by
 have S0:=hS.st;obtain⟨τ0,_⟩:=zr1;refine w35 ?_;unfold ztJ at hp;intro m0 h;obtain⟨i,j,qa,l⟩:=S0.blk h τ0 1;intro m1 n;obtain⟨e,g,o,p⟩:=j.blk n i 2;have q:=l.k o;refine⟨_,_,_,_,_,_,q.bk.ra,_,_,p.bk.ra,?_⟩;obtain⟨a,s,hp⟩:=zqq hp;refine zv2 (r:=r) (z:=z) g.pre ha105 ha201 s fun xa t u y A B D F G I J N O P S T Y=>?_;obtain⟨Z,sa⟩:=g.callG I e;refine⟨_,_,_,_,_,_,_,_,_,_,_,_,_,_,rfl,?_⟩;intro ya aa;obtain⟨ba,ca,ta,da⟩:=Z.blk aa e 3;obtain⟨ea,fa,d,ua,ga⟩:=da.sto ca [Il a.1.r.Classes,Il a.1.r.Good,Il a.1.r.Bad,Il a.1.r.Rest,Il a.1.r.Fewest,u,Il a.1.zone.First,y,A,B,D,F,G];refine⟨ea,fa,?_⟩;refine zqT hp (fun ha hp=>?_) fun ha hp=>?_
 ·obtain rfl:=oi hp;exact hq _ t .sl0 d.grw (Sl.nil _)
 refine⟨_,_,_,_,_,_,_,_,_,_,_,_,_,ga.bk.ra,?_⟩;obtain⟨va,ia,hp⟩:=zqq hp;refine zvn (w:=a.1) d.pre J N O P S T Y ia fun za ja ka la ma=>?_;obtain⟨na,wa⟩:=d.callG la ba;refine⟨_,rfl,?_⟩;obtain rfl:=oi hp;exact hq _ ja ka na.grw ma
theorem zv9{r:Rl}{z:Zn}{class_:Int}{ca105 ca201:C}{m f:M}{Q:V->M->Prop}{rz:List Int × Int}(hS:Pre f m)(ha105:Sl f ca105 r.Price)(ha201:Sl f ca201 z.Years)(hp:ztK r z class_=some rz)(hq:∀m' f' c0,Grw m f m' f'->Sl f' c0 rz.1->Q (.tup [.c c0,.c (Il rz.2)]) m'):Wc prog tbl 39 [.agg 6 [Il r.Classes,Il r.Good,Il r.Bad,Il r.Rest,Il r.Fewest,ca105],.agg 2 [Il z.First,ca201],.c (Il class_)] m Q:=by
 have S0:=hS.st;obtain⟨τ0,_⟩:=zr1;refine w39 ?_;unfold ztK at hp;intro m0 na;obtain⟨oa,pa,Ha,qa⟩:=S0.blk na τ0 1;intro m1 sa;obtain⟨j,l,ta,ua⟩:=pa.blk sa oa 2;have n:=qa.k ta;refine⟨_,_,_,_,_,_,n.bk.ra,_,_,ua.bk.ra,?_⟩;obtain⟨a,va,hp⟩:=zqq hp;refine zv2 (r:=r) (z:=z) l.pre ha105 ha201 va fun Ia o wa xa q s t u y ya za Aa A B D F G=>?_;obtain⟨Ba,p⟩:=l.callG ya j;have I:=n.k p;refine⟨_,_,_,_,_,_,_,_,_,_,_,_,_,_,rfl,?_⟩;intro Ja J;obtain⟨g,N,O,P⟩:=Ba.blk J j 3;have S:=I.k O;obtain⟨T,Y,d,Z,aa⟩:=P.sto N [Il a.1.r.Classes,Il a.1.r.Good,Il a.1.r.Bad,Il a.1.r.Rest,Il a.1.r.Fewest,wa,Il a.1.zone.First,xa,q,s,t,u,y];have ba:=S.k Z;refine⟨T,Y,?_⟩;refine zqT hp (fun ca hp=>?_) fun ca hp=>?_
 ·obtain rfl:=oi hp;exact hq _ o .sl0 d.grw (Sl.nil _)
 refine⟨_,_,_,_,_,_,ba.bk.ra,?_⟩;obtain⟨Ca,da,hp⟩:=zqq hp;refine zuW (r:=r) (class_:=class_) d.pre (ha105.sub p.fs) da fun Ka ea=>?_;obtain⟨e,fa⟩:=d.call ea g;have ga:=aa.k fa;refine⟨_,rfl,?_⟩;refine zqV hp (fun ha hp=>?_) fun ha hp=>?_
 ·obtain rfl:=oi hp;exact hq _ o .sl0 e.grw (Sl.nil _)
 refine⟨_,_,_,_,_,_,_,_,_,_,_,_,_,ga.bk.ra,?_⟩;obtain⟨Da,ia,hp⟩:=zqq hp;refine zvZ (w:=a.1) (class_:=class_) e.pre za Aa A B D F G ia fun La h ja ka la=>?_;obtain⟨i,Ea⟩:=e.callG ka g;refine⟨_,_,rfl,?_⟩;refine zqV hp (fun ma hp=>?_) fun ma hp=>?_
 ·obtain rfl:=oi hp;exact hq _ h .sl0 i.grw (Sl.nil _)
 obtain rfl:=oi hp;exact hq _ h ja i.grw la
theorem zwa{r:Rl}{z:Zn}{t:Tr}{class_:Int}{ca105 ca201 ca300 ca301:C}{m f:M}{Q:V->M->Prop}{rz:Bool}(hS:Pre f m)(ha105:Sl f ca105 r.Price)(ha201:Sl f ca201 z.Years)(ha300:Sl f ca300 t.Losses)(ha301:Sl f ca301 t.Premiums)(hp:ztL r z t class_=some rz)(hq:∀m',Ext m m'->Q (.c (.bool rz)) m'):Wc prog tbl 23 [.agg 6 [Il r.Classes,Il r.Good,Il r.Bad,Il r.Rest,Il r.Fewest,ca105],.agg 2 [Il z.First,ca201],.agg 2 [ca300,ca301],.c (Il class_)] m Q:=by
 have S0:=hS.st;obtain⟨τ0,_⟩:=zr1;refine w23 ?_;unfold ztL at hp;intro m0 o;obtain⟨p,q,aa,s⟩:=S0.blk o τ0 1;intro m1 u;obtain⟨w,y,A,B⟩:=q.blk u p 2;have D:=s.k A;intro m2 F;obtain⟨G,i,j,I⟩:=y.blk F w 3;have J:=D.k j;have l:=B.k j;refine⟨_,_,_,_,_,_,J.bk.ra,_,_,l.bk.ra,_,_,I.bk.ra,?_⟩;obtain⟨ba,N,hp⟩:=zqq hp;refine zv4 (r:=r) (z:=z) (t:=t) i.pre ha105 ha201 ha300 ha301 N fun ha ca da O a=>?_;obtain⟨d,P⟩:=i.callG O G;have S:=l.k P;refine⟨_,_,rfl,?_⟩;refine zqT hp (fun T hp=>?_) fun T hp=>?_
 ·obtain rfl:=oi hp;exact hq _ d.ext'
 refine⟨a.isSl,?_⟩
 try rw[a.slLen]
 refine ifd hp (fun Y hp=>?_) fun Y hp=>?_
 ·refine⟨trivial,_,S.bk.rc rfl,?_⟩;obtain rfl:=oi hp;exact hq _ d.ext'
 refine⟨a.isSl,?_⟩;obtain⟨n,hp⟩:=zqr hp;refine⟨(by first|exact n|(rw[a.slLen];exact n)),?_⟩;obtain⟨ea,e,hp⟩:=zqq hp;obtain⟨Z,g,h,e⟩:=zqk e;refine⟨Z,(by first|exact g|(rw[a.slLen];exact g)),(by first|exact h|(rw[a.slLen];exact h)),_,(a.rdI e d.sub),?_⟩;obtain rfl:=oi hp;exact hq _ d.ext'
theorem zwb{l:List Int}{ca100:C}{m f:M}{Q:V->M->Prop}{rz:List Int}(hS:Pre f m)(ha100:Sl f ca100 l)(hp:ztM l=some rz)(hq:∀m' f' c0,Grw m f m' f'->Sl f' c0 rz->Q (.c c0) m'):Wc prog tbl 50 [.c ca100] m Q:=by
 have z:=hS.st;obtain⟨A,_⟩:=zr1;refine w50 ?_;unfold ztM at hp;intro B d;obtain⟨s,e,t,g⟩:=Ow.lit0 (α:=Int) z A 1 d;obtain⟨h,hp⟩:=zqr hp;obtain⟨a,i,u,j,n,w,o⟩:=g.appL zup e ha100 h;refine⟨a,i,j,?_⟩;obtain⟨p,q,y,r⟩:=o.freeze n;obtain rfl:=oi hp;exact hq _ p a q.grw r
theorem zwc{r:Rg}{m f:M}{Q:V->M->Prop}{rz:Rg}(hS:Pre f m)(hp:ztN r=some rz)(hq:∀m',Ext m m'->Q (.agg 2 [Il rz.Lo,Il rz.Hi]) m'):Wc prog tbl 36 [.agg 2 [Il r.Lo,Il r.Hi]] m Q:=by
 have w:=hS.st;obtain⟨y,_⟩:=zr1;refine w36 ?_;unfold ztN at hp;intro z c;obtain⟨d,e,s,g⟩:=w.blk c y 1;intro A h;obtain⟨t,i,j,l⟩:=e.blk h d 2;have a:=g.k j;refine⟨trivial,_,a.bk.rc rfl,trivial,_,a.bk.rc rfl,?_⟩;obtain⟨n,o,p,u,q⟩:=l.sto i [Il r.Lo,Il r.Hi];refine⟨n,o,?_⟩;refine⟨_,_,q.bk.ra,?_⟩;obtain rfl:=oi hp;exact hq _ p.ext'
theorem zwd{r:Rl}{ca105:C}{m f:M}{Q:V->M->Prop}{rz:Rl}(hS:Pre f m)(ha105:Sl f ca105 r.Price)(hp:ztO r=some rz)(hq:∀m' f' c5,Grw m f m' f'->Sl f' c5 rz.Price->Q (.agg 6 [Il rz.Classes,Il rz.Good,Il rz.Bad,Il rz.Rest,Il rz.Fewest,c5]) m'):Wc prog tbl 20 [.agg 6 [Il r.Classes,Il r.Good,Il r.Bad,Il r.Rest,Il r.Fewest,ca105]] m Q:=by
 have O:=hS.st;obtain⟨P,_⟩:=zr1;refine w20 ?_;unfold ztO at hp;intro S h;obtain⟨i,j,I,n⟩:=O.blk h P 1;intro T o;obtain⟨p,d,q,s⟩:=j.blk o i 2;have a:=n.k q;refine⟨trivial,_,a.bk.rc rfl,trivial,_,a.bk.rc rfl,trivial,_,a.bk.rc rfl,trivial,_,a.bk.rc rfl,trivial,_,a.bk.rc rfl,trivial,_,a.bk.rc rfl,?_⟩;obtain⟨J,t,hp⟩:=zqq hp;refine zwb (l:=r.Price) d.pre ha105 t fun Y u e w y=>?_;obtain⟨z,g⟩:=d.callG w p;have c:=a.k g;have A:=s.k g;refine⟨_,rfl,(c.bk.rc rfl),(c.bk.rc rfl),(c.bk.rc rfl),(c.bk.rc rfl),(c.bk.rc rfl),?_⟩;obtain⟨B,D,F,N,G⟩:=A.sto z [Il r.Classes,Il r.Good,Il r.Bad,Il r.Rest,Il r.Fewest,e];refine⟨B,D,?_⟩;refine⟨_,_,_,_,_,_,G.bk.ra,?_⟩;obtain rfl:=oi hp;exact hq _ u e F.grw y
theorem zwe{z:Zn}{ca101:C}{m f:M}{Q:V->M->Prop}{rz:Zn}(hS:Pre f m)(ha101:Sl f ca101 z.Years)(hp:ztQ z=some rz)(hq:∀m' f' c1,Grw m f m' f'->Sl f' c1 rz.Years->Q (.agg 2 [Il rz.First,c1]) m'):Wc prog tbl 21 [.agg 2 [Il z.First,ca101]] m Q:=by
 have S0:=hS.st;obtain⟨τ0,_⟩:=zr1;refine w21 ?_;unfold ztQ at hp;intro m0 ka;obtain⟨la,ma,Ab,na⟩:=S0.blk ka τ0 1;intro m1 oa;obtain⟨pa,qa,sa,ta⟩:=ma.blk oa la 2;have T:=na.k sa;refine⟨trivial,_,T.bk.rc rfl,?_⟩;intro m3 ua;obtain⟨va,wa,Y,xa⟩:=qa.blk ua pa 3;have ya:=T.k Y;have za:=ta.k Y;obtain⟨Aa,Ba,Ca,Z,n⟩:=xa.sto wa [Il z.First,.sl0];have h:=ya.k Z;have o:=za.k Z;refine⟨Aa,Ba,?_⟩;intro R5 yb
 have hgo:∀(t:Nat) (x6:Int) (i:C) (l:Int) (u:List Yr) (P:M) (g:Nat->Nat),St (Fm.of m) f f P->Lb (Fm.of m) f g P 1 m.nxt 2 [Il z.First,ca101]->Lb (Fm.of m) f g P 2 m0.nxt 2 [Il 0,.sl0]->Lb (Fm.of m) f g P 3 m1.nxt 2 [Il l,i]->Ow (Fm.of m) f g P 4 i u->ztP z t l u x6=some rz->R5 [.c (Il x6)] P:=by
  intro t
  induction t with
  | zero=>intro x6 i l u P g w h o n d hp; cases hp
  | succ t xb=>
   intro x6 i l u P g w h o n d hp;refine yb _ _ ?_;rw[ztP] at hp;refine⟨trivial,_,h.bk.rc rfl,ha101.isSl,?_⟩
   try rw[ha101.slLen]
   refine ifd hp (fun Ea hp=>?_) fun Ea hp=>?_; rotate_left
   ·refine⟨_,_,n.bk.ra,?_⟩;obtain⟨Fa,Ga,Ha,Ia,Ja⟩:=o.sto w [Il l,i];have d:=d.k Ia;refine⟨Fa,Ga,?_⟩;refine⟨_,_,Ja.bk.ra,?_⟩;obtain⟨Ka,La,Bb,Ma⟩:=d.freeze Ha;obtain rfl:=oi hp;exact hq _ Ka i La.grw Ma
   refine⟨trivial,_,h.bk.rc rfl,?_⟩;obtain⟨e,D,hp⟩:=zqq hp;obtain⟨zb,ja,S,D⟩:=zqk D;obtain⟨_,Na⟩:=zr6 ha101 D;refine⟨zb,ja,(by first|exact S|(rw[ha101.slLen];exact S)),_,_,_,_,_,_,(Na _ w.sub).1,?_⟩;intro Hb Oa;obtain⟨aa,Pa,y,Qa⟩:=w.blk Oa g 5;have Ra:=h.k y;have Sa:=o.k y;have Ta:=n.k y;have d:=d.k y;obtain⟨Ua,Va,ba,A,p⟩:=Qa.sto Pa [Il e.Losses.Lo,Il e.Losses.Hi,Il e.Premiums.Lo,Il e.Premiums.Hi,Il e.Parcels,.bool e.Exempt];have Wa:=Ra.k A;have Xa:=Sa.k A;have ca:=Ta.k A;have d:=d.k A;refine⟨Ua,Va,?_⟩;refine⟨trivial,_,ca.bk.rc rfl,trivial,_,_,p.bk.rp (k:=0) (j:=2) rfl (by omega),?_⟩;obtain⟨da,Ya,hp⟩:=zqq hp;refine zwc (r:=e.Losses) ba.pre  Ya fun Ib Za=>?_;obtain⟨ea,q⟩:=ba.call Za aa;have ab:=Wa.k q;have bb:=Xa.k q;have fa:=ca.k q;have B:=p.k q;have d:=d.k q;refine⟨_,_,rfl,(by rw[show cmC _=true from zoV (d.noFn)]; exact(fa.bk.rc rfl)),trivial,_,_,B.bk.rp (k:=2) (j:=2) rfl (by omega),(p.bk.rp (k:=2) (j:=2) rfl (by omega)),?_⟩;obtain⟨ga,cb,hp⟩:=zqq hp;refine zwc (r:=e.Premiums) ea.pre  cb fun Jb db=>?_;obtain⟨eb,s⟩:=ea.call db aa;have fb:=ab.k s;have gb:=bb.k s;have F:=fa.k s;have ha:=B.k s;have d:=d.k s;refine⟨_,_,rfl,(by rw[show cmC _=true from zoV (d.noFn)]; exact(F.bk.rc rfl)),trivial,_,ha.bk.rc rfl,(B.bk.rc rfl),(p.bk.rc rfl),trivial,_,ha.bk.rc rfl,(B.bk.rc rfl),(p.bk.rc rfl),?_⟩;obtain⟨hb,hp⟩:=zqr hp;intro Kb ia;refine⟨(by rw[show cmC _=true from zoV (d.noFn)]; exact(F.bk.ext (Bk.new ia).2).rc rfl),?_⟩;obtain⟨G,ib,jb,kb,mb,I,J⟩:=d.app' zv0 eb (a:=({ Losses:=da,Premiums:=ga,Parcels:=e.Parcels,Exempt:=e.Exempt }:Yr)) (show Rp.rep (α:=Yr) f _ ({ Losses:=da,Premiums:=ga,Parcels:=e.Parcels,Exempt:=e.Exempt }:Yr) from rfl) hb ia
   have ob:=fb.k I;have pb:=gb.k I;have qb:=F.k I;refine⟨G,ib,kb,?_⟩;refine⟨trivial,?_⟩;obtain⟨rb,sb,tb,N,O⟩:=qb.sto1 mb 1 G (by simp) rfl
   replace O:Lb _ _ _ _ _ _ _ [Il l,G]:=O
   have ub:=ob.k N;have vb:=pb.k N;have J:=J.k N;refine⟨rb,sb,?_⟩;refine gdi hp fun wb hp=>?_;exact xb _ _ _ _ _ jb tb ub vb O J hp
 exact hgo _ _ _ _ _ _ va Ca h o n (Ow.nil _ _ _ _ _) hp
theorem zwf{t:Tr}{ca100 ca101:C}{m f:M}{Q:V->M->Prop}{rz:Tr}(hS:Pre f m)(ha100:Sl f ca100 t.Losses)(ha101:Sl f ca101 t.Premiums)(hp:ztR t=some rz)(hq:∀m' f' c0 c1,Grw m f m' f'->Sl f' c0 rz.Losses->Sl f' c1 rz.Premiums->Q (.agg 2 [c0,c1]) m'):Wc prog tbl 22 [.agg 2 [ca100,ca101]] m Q:=by
 have S0:=hS.st;obtain⟨τ0,_⟩:=zr1;refine w22 ?_;unfold ztR at hp;intro m0 n;obtain⟨o,p,Y,q⟩:=S0.blk n τ0 1;intro m1 r;obtain⟨d,e,s,u⟩:=p.blk r o 2;have a:=q.k s;refine⟨trivial,_,a.bk.rc rfl,?_⟩;obtain⟨Z,w,hp⟩:=zqq hp;refine zwb (l:=t.Losses) e.pre ha100 w fun m4 aa g y z=>?_;obtain⟨h,c⟩:=e.callG y d;have A:=a.k c;have B:=u.k c;refine⟨_,rfl,trivial,_,A.bk.rc rfl,(by rw[show cmC _=true from zoV (ha101.noFn)]; exact(a.bk.rc rfl)),?_⟩;obtain⟨ba,D,hp⟩:=zqq hp;refine zwb (l:=t.Premiums) h.pre (ha101.sub c.fs) D fun m8 F i G I=>?_;obtain⟨J,j⟩:=h.callG G d;have N:=B.k j;refine⟨_,rfl,?_⟩;obtain⟨O,P,S,ca,T⟩:=N.sto J [g,i];refine⟨O,P,?_⟩;refine⟨_,_,T.bk.ra,?_⟩;obtain rfl:=oi hp;exact hq _ F g i S.grw (z.sub j.fs) I
theorem zwg{r:Rl}{z:Zn}{ca105 ca201:C}{m f:M}{Q:V->M->Prop}{rz:Bool}(hS:Pre f m)(ha105:Sl f ca105 r.Price)(ha201:Sl f ca201 z.Years)(hp:ztS r z=some rz)(hq:∀m',Ext m m'->Q (.c (.bool rz)) m'):Wc prog tbl 17 [.agg 6 [Il r.Classes,Il r.Good,Il r.Bad,Il r.Rest,Il r.Fewest,ca105],.agg 2 [Il z.First,ca201]] m Q:=by
 have s:=hS.st;obtain⟨t,_⟩:=zr1;refine w17 ?_;unfold ztS at hp;intro u d;obtain⟨e,g,p,h⟩:=s.blk d t 1;intro w i;obtain⟨q,a,j,l⟩:=g.blk i e 2;have n:=h.k j;refine⟨trivial,_,n.bk.rc rfl,ha105.isSl,?_⟩
 try rw[ha105.slLen]
 refine ifd hp (fun o hp=>?_) fun o hp=>?_; rotate_left
 ·obtain rfl:=oi hp;exact hq _ a.ext'
 refine⟨trivial,_,l.bk.rc rfl,ha201.isSl,?_⟩
 try rw[ha201.slLen]
 obtain rfl:=oi hp;exact hq _ a.ext'
theorem zwh{r:Rl}{z:Zn}{ca105 ca201:C}{m f:M}{Q:V->M->Prop}{rz:Int}(hS:Pre f m)(ha105:Sl f ca105 r.Price)(ha201:Sl f ca201 z.Years)(hp:ztT r z=some rz)(hq:∀m',Ext m m'->Q (.c (Il rz)) m'):Wc prog tbl 24 [.agg 6 [Il r.Classes,Il r.Good,Il r.Bad,Il r.Rest,Il r.Fewest,ca105],.agg 2 [Il z.First,ca201]] m Q:=by
 have y:=hS.st;obtain⟨A,_⟩:=zr1;refine w24 ?_;unfold ztT at hp;intro D d;obtain⟨e,g,t,h⟩:=y.blk d A 1;intro F i;obtain⟨j,a,l,n⟩:=g.blk i e 2;have o:=h.k l;refine⟨_,_,_,_,_,_,o.bk.ra,_,_,n.bk.ra,?_⟩;obtain⟨u,p,hp⟩:=zqq hp;refine zut (r:=r) (z:=z) a.pre ha105 ha201 p fun B q=>?_;obtain⟨s,w⟩:=a.call q j;refine⟨_,rfl,?_⟩;obtain rfl:=oi hp;exact hq _ s.ext'
theorem zwi{low:Int}{high:Int}{m f:M}{Q:V->M->Prop}{rz:Rg}(hS:Pre f m)(hp:ztU low high=some rz)(hq:∀m',Ext m m'->Q (.agg 2 [Il rz.Lo,Il rz.Hi]) m'):Wc prog tbl 48 [.c (Il low),.c (Il high)] m Q:=by
 have p:=hS.st;obtain⟨q,_⟩:=zr1;refine w48 ?_;unfold ztU at hp;intro r a;obtain⟨l,d,n,e⟩:=p.blk a q 1;obtain⟨g,h,i,o,j⟩:=e.sto d [Il low,Il high];refine⟨g,h,?_⟩;refine⟨_,_,j.bk.ra,?_⟩;obtain rfl:=oi hp;exact hq _ i.ext'
theorem zwj{m f:M}{Q:V->M->Prop}{rz:Rl}(hS:Pre f m)(hp:ztV=some rz)(hq:∀m' f' c5,Grw m f m' f'->Sl f' c5 rz.Price->Q (.agg 6 [Il rz.Classes,Il rz.Good,Il rz.Bad,Il rz.Rest,Il rz.Fewest,c5]) m'):Wc prog tbl 42 [] m Q:=by
 have G:=hS.st;obtain⟨I,_⟩:=zr1;refine w42 ?_;unfold ztV at hp;intro A d;obtain⟨e,g,B,h⟩:=G.blk d I 1;intro J i;obtain⟨D,j,n,o⟩:=g.blk i e 2;have p:=h.k n;obtain⟨q,r,s,t,u⟩:=p.sto j [(Il (4:Int)),(Il (40:Int)),(Il (120:Int)),(Il (1:Int)),(Il (5:Int)),(C.sl A.nxt 0 4 0 (Option.some 4))];have w:=o.k t;refine⟨q,r,?_⟩;refine⟨_,_,_,_,_,_,u.bk.ra,?_⟩;obtain⟨a,y,F,c⟩:=w.freeze s;have z:Sl a (C.sl A.nxt 0 4 0 (Option.some 4)) ([(10:Int),(20:Int),(40:Int),(80:Int)]:List Int):=Bk.sl (α:=Int) (l:=([(10:Int),(20:Int),(40:Int),(80:Int)]:List Int)) c (show Cat (α:=Int) a [(Il (10:Int)),(Il (20:Int)),(Il (40:Int)),(Il (80:Int))] ([(10:Int),(20:Int),(40:Int),(80:Int)]:List Int) from ⟨[(Il (10:Int))],_,rfl,rfl,⟨[(Il (20:Int))],_,rfl,rfl,⟨[(Il (40:Int))],_,rfl,rfl,⟨[(Il (80:Int))],_,rfl,rfl,rfl⟩⟩⟩⟩) rfl rfl _;obtain rfl:=oi hp;exact hq _ a (C.sl A.nxt 0 4 0 (Option.some 4)) y.grw z
theorem zwk{m f:M}{Q:V->M->Prop}{rz:Zn}(hS:Pre f m)(hp:ztW=some rz)(hq:∀m' f' c1,Grw m f m' f'->Sl f' c1 rz.Years->Q (.agg 2 [Il rz.First,c1]) m'):Wc prog tbl 43 [] m Q:=by
 have S0:=hS.st;obtain⟨τ0,_⟩:=zr1;refine w43 ?_;unfold ztW at hp;intro m0 I;obtain⟨a,r,Wa,J⟩:=S0.blk I τ0 1;obtain⟨c,N,hp⟩:=zqq hp;refine zwi (low:=(50:Int)) (high:=(50:Int)) r.pre  N fun m2 O=>?_;obtain⟨s,P⟩:=r.call O a;have S:=J.k P;refine⟨_,_,rfl,?_⟩;obtain⟨d,T,hp⟩:=zqq hp;refine zwi (low:=(100:Int)) (high:=(102:Int)) s.pre  T fun m6 Y=>?_;obtain⟨t,Z⟩:=s.call Y a;have aa:=S.k Z;refine⟨_,_,rfl,?_⟩;obtain⟨e,ba,hp⟩:=zqq hp;refine zwi (low:=(130:Int)) (high:=(131:Int)) t.pre  ba fun bb ca=>?_;obtain⟨u,da⟩:=t.call ca a;have ea:=aa.k da;refine⟨_,_,rfl,?_⟩;obtain⟨g,fa,hp⟩:=zqq hp;refine zwi (low:=(108:Int)) (high:=(109:Int)) u.pre  fa fun cb ga=>?_;obtain⟨w,ha⟩:=u.call ga a;have ia:=ea.k ha;refine⟨_,_,rfl,?_⟩;obtain⟨h,ja,hp⟩:=zqq hp;refine zwi (low:=(10:Int)) (high:=(10:Int)) w.pre  ja fun db ka=>?_;obtain⟨y,la⟩:=w.call ka a;have ma:=ia.k la;refine⟨_,_,rfl,?_⟩;obtain⟨i,na,hp⟩:=zqq hp;refine zwi (low:=(100:Int)) (high:=(100:Int)) y.pre  na fun eb oa=>?_;obtain⟨z,pa⟩:=y.call oa a;have qa:=ma.k pa;refine⟨_,_,rfl,?_⟩;obtain⟨j,sa,hp⟩:=zqq hp;refine zwi (low:=(30:Int)) (high:=(30:Int)) z.pre  sa fun fb ta=>?_;obtain⟨A,ua⟩:=z.call ta a;have va:=qa.k ua;refine⟨_,_,rfl,?_⟩;obtain⟨n,wa,hp⟩:=zqq hp;refine zwi (low:=(100:Int)) (high:=(100:Int)) A.pre  wa fun gb xa=>?_;obtain⟨B,ya⟩:=A.call xa a;have za:=va.k ya;refine⟨_,_,rfl,?_⟩;obtain⟨o,Aa,hp⟩:=zqq hp;refine zwi (low:=(39:Int)) (high:=(41:Int)) B.pre  Aa fun hb Ba=>?_
 obtain⟨D,Ca⟩:=B.call Ba a;have Da:=za.k Ca;refine⟨_,_,rfl,?_⟩;obtain⟨p,Ea,hp⟩:=zqq hp;refine zwi (low:=(100:Int)) (high:=(100:Int)) D.pre  Ea fun F Fa=>?_;obtain⟨Ga,Ha⟩:=D.call Fa a;have Ia:=Da.k Ha;refine⟨_,_,rfl,?_⟩;intro ib Ja;obtain⟨Xa,Ka,La,Ma⟩:=Ga.blk Ja a 2;have Na:=Ia.k La;obtain⟨Oa,Pa,Qa,Ra,Sa⟩:=Na.sto Ka [(Il (1:Int)),(C.sl F.nxt 0 5 0 (Option.some 5))];have Ta:=Ma.k Ra;refine⟨Oa,Pa,?_⟩;refine⟨_,_,Sa.bk.ra,?_⟩;obtain⟨q,Ua,Ya,G⟩:=Ta.freeze Qa;have Va:Sl q (C.sl F.nxt 0 5 0 (Option.some 5)) ([({ Losses:=c,Premiums:=d,Parcels:=(9:Int),Exempt:=false }:Yr),({ Losses:=e,Premiums:=g,Parcels:=(9:Int),Exempt:=false }:Yr),({ Losses:=h,Premiums:=i,Parcels:=(3:Int),Exempt:=false }:Yr),({ Losses:=j,Premiums:=n,Parcels:=(9:Int),Exempt:=false }:Yr),({ Losses:=o,Premiums:=p,Parcels:=(9:Int),Exempt:=false }:Yr)]:List Yr):=Bk.sl (α:=Yr) (l:=([({ Losses:=c,Premiums:=d,Parcels:=(9:Int),Exempt:=false }:Yr),({ Losses:=e,Premiums:=g,Parcels:=(9:Int),Exempt:=false }:Yr),({ Losses:=h,Premiums:=i,Parcels:=(3:Int),Exempt:=false }:Yr),({ Losses:=j,Premiums:=n,Parcels:=(9:Int),Exempt:=false }:Yr),({ Losses:=o,Premiums:=p,Parcels:=(9:Int),Exempt:=false }:Yr)]:List Yr)) G (show Cat (α:=Yr) q [Il c.Lo,Il c.Hi,Il d.Lo,Il d.Hi,(Il (9:Int)),.bool false,Il e.Lo,Il e.Hi,Il g.Lo,Il g.Hi,(Il (9:Int)),.bool false,Il h.Lo,Il h.Hi,Il i.Lo,Il i.Hi,(Il (3:Int)),.bool false,Il j.Lo,Il j.Hi,Il n.Lo,Il n.Hi,(Il (9:Int)),.bool false,Il o.Lo,Il o.Hi,Il p.Lo,Il p.Hi,(Il (9:Int)),.bool false] ([({ Losses:=c,Premiums:=d,Parcels:=(9:Int),Exempt:=false }:Yr),({ Losses:=e,Premiums:=g,Parcels:=(9:Int),Exempt:=false }:Yr),({ Losses:=h,Premiums:=i,Parcels:=(3:Int),Exempt:=false }:Yr),({ Losses:=j,Premiums:=n,Parcels:=(9:Int),Exempt:=false }:Yr),({ Losses:=o,Premiums:=p,Parcels:=(9:Int),Exempt:=false }:Yr)]:List Yr) from ⟨[Il c.Lo,Il c.Hi,Il d.Lo,Il d.Hi,(Il (9:Int)),.bool false],_,rfl,rfl,⟨[Il e.Lo,Il e.Hi,Il g.Lo,Il g.Hi,(Il (9:Int)),.bool false],_,rfl,rfl,⟨[Il h.Lo,Il h.Hi,Il i.Lo,Il i.Hi,(Il (3:Int)),.bool false],_,rfl,rfl,⟨[Il j.Lo,Il j.Hi,Il n.Lo,Il n.Hi,(Il (9:Int)),.bool false],_,rfl,rfl,⟨[Il o.Lo,Il o.Hi,Il p.Lo,Il p.Hi,(Il (9:Int)),.bool false],_,rfl,rfl,rfl⟩⟩⟩⟩⟩) rfl rfl _
 obtain rfl:=oi hp;exact hq _ q (C.sl F.nxt 0 5 0 (Option.some 5)) Ua.grw Va
theorem zwl{m f:M}{Q:V->M->Prop}{rz:Bool}(hS:Pre f m)(hp:ztX=some rz)(hq:∀m',Ext m m'->Q (.c (.bool rz)) m'):Wc prog tbl 18 [] m Q:=by
 have S0:=hS.st;obtain⟨g,_⟩:=zr1;refine w18 ?_;unfold ztX at hp;obtain⟨Ga,Ha,hp⟩:=zqq hp;refine zwj S0.pre  Ha fun m1 Td Ud Ia Ja=>?_;obtain⟨F,Vd⟩:=S0.callG Ia g;refine⟨_,_,_,_,_,_,rfl,?_⟩;obtain⟨Ka,La,hp⟩:=zqq hp;refine zwk F.pre  La fun m9 Wd Xd Ma Na=>?_;obtain⟨G,Oa⟩:=F.callG Ma g;refine⟨_,_,rfl,?_⟩;obtain⟨Pa,Qa,hp⟩:=zqq hp;refine zv5 (r:=Ga) (z:=Ka) (year:=(3:Int)) G.pre (Ja.sub Oa.fs) Na Qa fun hf Yd Zd Ra Sa=>?_;obtain⟨I,ae⟩:=G.callG Ra g;refine⟨_,_,rfl,?_⟩;obtain⟨Ta,Ua,hp⟩:=zqq hp;refine zwj I.pre  Ua fun jf be ce Va Wa=>?_;obtain⟨J,Xa⟩:=I.callG Va g;refine⟨_,_,_,_,_,_,rfl,?_⟩;obtain⟨Ya,Za,hp⟩:=zqq hp;refine zwk J.pre  Za fun kf de ee ab bb=>?_;obtain⟨N,O⟩:=J.callG ab g;refine⟨_,_,rfl,?_⟩;obtain⟨cb,db,hp⟩:=zqq hp;refine zv5 (r:=Ta) (z:=Ya) (year:=(4:Int)) N.pre (Wa.sub O.fs) bb db fun lf fe ge eb fb=>?_;obtain⟨P,gb⟩:=N.callG eb g;refine⟨_,_,rfl,?_⟩;obtain⟨hb,ib,hp⟩:=zqq hp;refine zwj P.pre  ib fun mf he ie jb kb=>?_;obtain⟨S,T⟩:=P.callG jb g;refine⟨_,_,_,_,_,_,rfl,?_⟩;obtain⟨mb,ob,hp⟩:=zqq hp;refine zwk S.pre  ob fun nf je ke pb qb=>?_;obtain⟨Y,q⟩:=S.callG pb g;refine⟨_,_,rfl,?_⟩;obtain⟨me,rb,hp⟩:=zqq hp;refine zv6 (r:=hb) (z:=mb) (year:=(0:Int)) Y.pre (kb.sub q.fs) qb rb fun pf sb=>?_;obtain⟨Z,oe⟩:=Y.call sb g;refine⟨_,_,rfl,?_⟩;obtain⟨tb,ub,hp⟩:=zqq hp;refine zwj Z.pre  ub fun qf pe qe vb wb=>?_;obtain⟨aa,ba⟩:=Z.callG vb g;refine⟨_,_,_,_,_,_,rfl,?_⟩;obtain⟨xb,yb,hp⟩:=zqq hp;refine zwk aa.pre  yb fun rf re se zb Ab=>?_
 obtain⟨ca,s⟩:=aa.callG zb g;refine⟨_,_,rfl,?_⟩;obtain⟨te,Bb,hp⟩:=zqq hp;refine zv6 (r:=tb) (z:=xb) (year:=(3:Int)) ca.pre (wb.sub s.fs) Ab Bb fun sf Cb=>?_;obtain⟨da,ue⟩:=ca.call Cb g;refine⟨_,_,rfl,?_⟩;obtain⟨Db,Eb,hp⟩:=zqq hp;refine zwj da.pre  Eb fun tf ve we Fb Gb=>?_;obtain⟨ea,fa⟩:=da.callG Fb g;refine⟨_,_,_,_,_,_,rfl,?_⟩;obtain⟨Hb,Ib,hp⟩:=zqq hp;refine zwk ea.pre  Ib fun uf xe ye Jb Kb=>?_;obtain⟨ga,t⟩:=ea.callG Jb g;refine⟨_,_,rfl,?_⟩;obtain⟨ha,Mb,hp⟩:=zqq hp;refine zv7 (r:=Db) (z:=Hb) ga.pre (Gb.sub t.fs) Kb Mb fun vf Nb=>?_;obtain⟨Ob,ze⟩:=ga.call Nb g;refine⟨_,_,_,rfl,?_⟩;intro wf Pb;obtain⟨e,Qb,Ae,Rb⟩:=Ob.blk Pb g 1;obtain⟨Sb,Tb,ia,Be,Ub⟩:=Rb.sto Qb [Il ha.1.Lo,Il ha.1.Hi];refine⟨Sb,Tb,?_⟩;obtain⟨Vb,Wb,hp⟩:=zqq hp;refine zwj ia.pre  Wb fun xf Ce De Xb Yb=>?_;obtain⟨ja,u⟩:=ia.callG Xb e;have Zb:=Ub.k u;refine⟨_,_,_,_,_,_,rfl,?_⟩;obtain⟨ac,bc,hp⟩:=zqq hp;refine zwk ja.pre  bc fun yf Ee Fe cc dc=>?_;obtain⟨ka,j⟩:=ja.callG cc e;have ec:=Zb.k j;refine⟨_,_,rfl,?_⟩;obtain⟨fc,gc,hp⟩:=zqq hp;refine zv8 (r:=Vb) (z:=ac) ka.pre (Yb.sub j.fs) dc gc fun zf Ge He hc ic=>?_;obtain⟨la,w⟩:=ka.callG hc e;have jc:=ec.k w;refine⟨_,_,rfl,?_⟩;obtain⟨kc,nc,hp⟩:=zqq hp;refine zwj la.pre  nc fun Ye Ie Je oc pc=>?_;obtain⟨ma,n⟩:=la.callG oc e;have qc:=jc.k n;refine⟨_,_,_,_,_,_,rfl,?_⟩;obtain⟨sc,tc,hp⟩:=zqq hp;refine zwk ma.pre  tc fun Ze Ke Me uc vc=>?_;obtain⟨na,h⟩:=ma.callG uc e;have wc:=qc.k h;refine⟨_,_,rfl,?_⟩;obtain⟨xc,yc,hp⟩:=zqq hp
 refine zv9 (r:=kc) (z:=sc) (class_:=(3:Int)) na.pre (pc.sub h.fs) vc yc fun Od Ne Oe zc Ac=>?_;obtain⟨oa,o⟩:=na.callG zc e;have Bc:=wc.k o;refine⟨_,_,rfl,?_⟩;refine ifd hp (fun Cc hp=>?_) fun Cc hp=>?_; rotate_left
 ·obtain rfl:=oi hp;exact hq _ oa.ext'
 intro af Dc;obtain⟨pa,Ec,Fc,Gc⟩:=oa.blk Dc e 2;have Hc:=Bc.k Fc;obtain⟨qa,sa,i,Ca⟩:=Gc.freeze Ec;have Ic:=Hc.k i;have Jc:Sl qa (C.sl Od.nxt 0 2 0 (Option.some 2)) ([(0:Int),(2:Int)]:List Int):=Bk.sl (α:=Int) (l:=([(0:Int),(2:Int)]:List Int)) Ca (show Cat (α:=Int) qa [Il 0,(Il (2:Int))] ([(0:Int),(2:Int)]:List Int) from ⟨[Il 0],_,rfl,rfl,⟨[(Il (2:Int))],_,rfl,rfl,rfl⟩⟩) rfl rfl _;obtain⟨Pe,Kc,hp⟩:=zqq hp;refine zuB (a:=Pa.1) (b:=([(0:Int),(2:Int)]:List Int)) sa.pre (Sa.sub (Sub.trans (Sub.trans (Sub.trans (Sub.trans (Sub.trans (Sub.trans (Sub.trans (Sub.trans (Sub.trans (Sub.trans (Sub.trans (Sub.trans (Sub.trans (Sub.trans (Sub.trans Xa.fs O.fs) gb.fs) T.fs) q.fs) ba.fs) s.fs) fa.fs) t.fs) u.fs) j.fs) w.fs) n.fs) h.fs) o.fs) i.fs)) Jc Kc fun Pd Nc=>?_;obtain⟨y,Oc⟩:=sa.call Nc pa;have Pc:=Ic.k Oc;refine⟨_,rfl,?_⟩;refine zqU hp (fun Qc hp=>?_) fun Qc hp=>?_; rotate_left
 ·obtain rfl:=oi hp;exact hq _ y.ext'
 refine ifd hp (fun Rc hp=>?_) fun Rc hp=>?_; rotate_left
 ·obtain rfl:=oi hp;exact hq _ y.ext'
 intro bf Tc;obtain⟨A,Uc,Vc,Xc⟩:=y.blk Tc pa 3;have Yc:=Pc.k Vc;obtain⟨ta,ua,p,Da⟩:=Xc.freeze Uc;have Zc:=Yc.k p;have ad:Sl ta (C.sl Pd.nxt 0 3 0 (Option.some 3)) ([(0:Int),(1:Int),(2:Int)]:List Int):=Bk.sl (α:=Int) (l:=([(0:Int),(1:Int),(2:Int)]:List Int)) Da (show Cat (α:=Int) ta [Il 0,(Il (1:Int)),(Il (2:Int))] ([(0:Int),(1:Int),(2:Int)]:List Int) from ⟨[Il 0],_,rfl,rfl,⟨[(Il (1:Int))],_,rfl,rfl,⟨[(Il (2:Int))],_,rfl,rfl,rfl⟩⟩⟩) rfl rfl _;obtain⟨Qe,bd,hp⟩:=zqq hp;refine zuB (a:=cb.1) (b:=([(0:Int),(1:Int),(2:Int)]:List Int)) ua.pre (fb.sub (Sub.trans (Sub.trans (Sub.trans (Sub.trans (Sub.trans (Sub.trans (Sub.trans (Sub.trans (Sub.trans (Sub.trans (Sub.trans (Sub.trans (Sub.trans T.fs q.fs) ba.fs) s.fs) fa.fs) t.fs) u.fs) j.fs) w.fs) n.fs) h.fs) o.fs) i.fs) p.fs)) ad bd fun cf cd=>?_;obtain⟨d,dd⟩:=ua.call cd A;have va:=Zc.k dd;refine⟨_,rfl,?_⟩;refine zqU hp (fun ed hp=>?_) fun ed hp=>?_; rotate_left
 ·obtain rfl:=oi hp;exact hq _ d.ext'
 refine ifd hp (fun fd hp=>?_) fun fd hp=>?_; rotate_left
 ·obtain rfl:=oi hp;exact hq _ d.ext'
 refine ifd hp (fun hd hp=>?_) fun hd hp=>?_; rotate_left
 ·obtain rfl:=oi hp;exact hq _ d.ext'
 refine ifd hp (fun id hp=>?_) fun id hp=>?_; rotate_left
 ·obtain rfl:=oi hp;exact hq _ d.ext'
 refine ifd hp (fun jd hp=>?_) fun jd hp=>?_; rotate_left
 ·obtain rfl:=oi hp;exact hq _ d.ext'
 refine ifd hp (fun kd hp=>?_) fun kd hp=>?_; rotate_left
 ·obtain rfl:=oi hp;exact hq _ d.ext'
 refine⟨_,_,va.bk.ra,?_⟩;obtain⟨Re,ld,hp⟩:=zqq hp;refine zwi (low:=(10:Int)) (high:=(40:Int)) d.pre  ld fun Qd md=>?_;obtain⟨B,nd⟩:=d.call md A;have od:=va.k nd;refine⟨_,_,rfl,(od.bk.ra),?_⟩;refine gdi hp fun pd hp=>?_;refine gdi hp fun qd hp=>?_;refine gdi hp fun sd hp=>?_;refine gdi hp fun td hp=>?_;refine zqU hp (fun ud hp=>?_) fun ud hp=>?_; rotate_left
 ·obtain rfl:=oi hp;exact hq _ B.ext'
 refine ifd hp (fun vd hp=>?_) fun vd hp=>?_; rotate_left
 ·obtain rfl:=oi hp;exact hq _ B.ext'
 intro df wd;obtain⟨wa,xd,Se,yd⟩:=B.blk wd A 4;obtain⟨xa,ya,za,Ea⟩:=yd.freeze xd;have zd:Sl xa (C.sl Qd.nxt 0 2 0 (Option.some 2)) ([(1:Int),(4:Int)]:List Int):=Bk.sl (α:=Int) (l:=([(1:Int),(4:Int)]:List Int)) Ea (show Cat (α:=Int) xa [(Il (1:Int)),(Il (4:Int))] ([(1:Int),(4:Int)]:List Int) from ⟨[(Il (1:Int))],_,rfl,rfl,⟨[(Il (4:Int))],_,rfl,rfl,rfl⟩⟩) rfl rfl _;obtain⟨Te,Ad,hp⟩:=zqq hp;refine zuB (a:=fc.1) (b:=([(1:Int),(4:Int)]:List Int)) ya.pre (ic.sub (Sub.trans (Sub.trans (Sub.trans (Sub.trans (Sub.trans n.fs h.fs) o.fs) i.fs) p.fs) za.fs)) zd Ad fun Rd Bd=>?_;obtain⟨D,Ue⟩:=ya.call Bd wa;refine⟨_,rfl,?_⟩;refine zqU hp (fun Cd hp=>?_) fun Cd hp=>?_; rotate_left
 ·obtain rfl:=oi hp;exact hq _ D.ext'
 refine ifd hp (fun Dd hp=>?_) fun Dd hp=>?_; rotate_left
 ·obtain rfl:=oi hp;exact hq _ D.ext'
 intro ef Ed;obtain⟨Fd,Gd,Ve,Hd⟩:=D.blk Ed wa 5;obtain⟨Aa,Ba,Id,Fa⟩:=Hd.freeze Gd;have Jd:Sl Aa (C.sl Rd.nxt 0 1 0 (Option.some 1)) ([(0:Int)]:List Int):=Bk.sl (α:=Int) (l:=([(0:Int)]:List Int)) Fa (show Cat (α:=Int) Aa [Il 0] ([(0:Int)]:List Int) from ⟨[Il 0],_,rfl,rfl,rfl⟩) rfl rfl _;obtain⟨We,Ld,hp⟩:=zqq hp;refine zuB (a:=xc.1) (b:=([(0:Int)]:List Int)) Ba.pre (Ac.sub (Sub.trans (Sub.trans (Sub.trans i.fs p.fs) za.fs) Id.fs)) Jd Ld fun gf Md=>?_;obtain⟨Nd,Xe⟩:=Ba.call Md Fd;refine⟨_,rfl,?_⟩;obtain rfl:=oi hp;exact hq _ Nd.ext'
theorem zwm{r:Rl}{z:Zn}{t:Tr}{class_:Int}{ca105 ca201 ca300 ca301:C}{m f:M}{Q:V->M->Prop}{rz:Bool}(hS:Pre f m)(ha105:Sl f ca105 r.Price)(ha201:Sl f ca201 z.Years)(ha300:Sl f ca300 t.Losses)(ha301:Sl f ca301 t.Premiums)(hp:ztY r z t class_=some rz)(hq:∀m',Ext m m'->Q (.c (.bool rz)) m'):Wc prog tbl 3 [.agg 6 [Il r.Classes,Il r.Good,Il r.Bad,Il r.Rest,Il r.Fewest,ca105],.agg 2 [Il z.First,ca201],.agg 2 [ca300,ca301],.c (Il class_)] m Q:=by
 have S0:=hS.st;obtain⟨τ0,_⟩:=zr1;refine w3 ?_;unfold ztY at hp;intro m0 Ma;obtain⟨Na,Oa,vd,Pa⟩:=S0.blk Ma τ0 1;intro m1 Qa;obtain⟨Ra,Sa,Ta,Ua⟩:=Oa.blk Qa Na 2;have Va:=Pa.k Ta;intro m2 Wa;obtain⟨d,aa,ba,Xa⟩:=Sa.blk Wa Ra 3;have ca:=Va.k ba;have da:=Ua.k ba;refine⟨_,_,_,_,_,_,ca.bk.ra,_,_,da.bk.ra,?_⟩;obtain⟨wd,Ya,hp⟩:=zqq hp;refine zwg (r:=r) (z:=z) aa.pre ha105 ha201 Ya fun Ge Za=>?_;obtain⟨s,G⟩:=aa.call Za d;have ea:=ca.k G;have fa:=da.k G;have B:=Xa.k G;refine⟨_,rfl,?_⟩;refine zqV hp (fun ab hp=>?_) fun ab hp=>?_
 ·obtain⟨xd,bb,hp⟩:=zqq hp;refine zwl s.pre  bb fun He cb=>?_;obtain⟨db,yd⟩:=s.call cb d;refine⟨_,rfl,?_⟩;obtain rfl:=oi hp;exact hq _ db.ext'
 refine⟨trivial,_,B.bk.rc rfl,ha300.isSl,?_⟩
 try rw[ha300.slLen]
 refine ifd hp (fun eb hp=>?_) fun eb hp=>?_
 ·obtain⟨zd,fb,hp⟩:=zqq hp;refine zwl s.pre  fb fun Ie gb=>?_;obtain⟨hb,Ad⟩:=s.call gb d;refine⟨_,rfl,?_⟩;obtain rfl:=oi hp;exact hq _ hb.ext'
 refine⟨trivial,_,B.bk.rc rfl,ha301.isSl,?_⟩
 try rw[ha301.slLen]
 refine ifd hp (fun ib hp=>?_) fun ib hp=>?_
 ·obtain⟨Bd,jb,hp⟩:=zqq hp;refine zwl s.pre  jb fun Je kb=>?_;obtain⟨mb,Cd⟩:=s.call kb d;refine⟨_,rfl,?_⟩;obtain rfl:=oi hp;exact hq _ mb.ext'
 refine⟨_,_,_,_,_,_,ea.bk.ra,?_⟩;obtain⟨ob,pb,hp⟩:=zqq hp;refine zwd (r:=r) s.pre ha105 pb fun Ke Dd Ed qb rb=>?_;obtain⟨ga,e⟩:=s.callG qb d;have sb:=ea.k e;have ha:=fa.k e;have ia:=B.k e;refine⟨_,_,_,_,_,_,rfl,_,_,ha.bk.ra,(by rw[show zaL cmC _=true from zoW (zqu rfl (zqu ha201.noFn zqv))]; exact(fa.bk.ra)),?_⟩;obtain⟨tb,ub,hp⟩:=zqq hp;refine zwe (z:=z) ga.pre (ha201.sub e.fs) ub fun Me Fd Gd vb wb=>?_;obtain⟨ja,g⟩:=ga.callG vb d;have xb:=sb.k g;have yb:=ha.k g;have ka:=ia.k g;refine⟨_,_,rfl,_,_,ka.bk.ra,(by rw[show zaL cmC _=true from zoW (zqu ha300.noFn (zqu ha301.noFn zqv))]; exact(ia.bk.ra)),(by rw[show zaL cmC _=true from zoW (zqu ha300.noFn (zqu ha301.noFn zqv))]; exact(B.bk.ra)),?_⟩;obtain⟨zb,Ab,hp⟩:=zqq hp;refine zwf (t:=t) ja.pre (ha300.sub (Sub.trans e.fs g.fs)) (ha301.sub (Sub.trans e.fs g.fs)) Ab fun Ne Hd Id Jd Bb Cb Db=>?_;obtain⟨la,h⟩:=ja.callG Bb d;have Eb:=xb.k h;have Fb:=yb.k h;have Gb:=ka.k h;refine⟨_,_,rfl,?_⟩;obtain⟨ma,Hb,hp⟩:=zqq hp;refine zv4 (r:=ob) (z:=tb) (t:=zb) la.pre (rb.sub (Sub.trans g.fs h.fs)) (wb.sub h.fs) Cb Db Hb fun Oe Ld Md Ib A=>?_;obtain⟨na,l⟩:=la.callG Ib d;have oa:=Eb.k l;have pa:=Fb.k l;have qa:=Gb.k l;refine⟨_,_,rfl,_,_,_,_,_,_,oa.bk.ra,?_⟩;obtain⟨Jb,Kb,hp⟩:=zqq hp;refine zwd (r:=r) na.pre (ha105.sub (Sub.trans (Sub.trans (Sub.trans e.fs g.fs) h.fs) l.fs)) Kb fun Pe Nd Od Mb Nb=>?_;obtain⟨sa,i⟩:=na.callG Mb d;have Ob:=oa.k i;have ta:=pa.k i;have ua:=qa.k i;refine⟨_,_,_,_,_,_,rfl,_,_,ta.bk.ra,(by rw[show zaL cmC _=true from zoW (zqu rfl (zqu ha201.noFn zqv))]; exact(pa.bk.ra)),?_⟩
 obtain⟨Pb,Qb,hp⟩:=zqq hp;refine zwe (z:=z) sa.pre (ha201.sub (Sub.trans (Sub.trans (Sub.trans (Sub.trans e.fs g.fs) h.fs) l.fs) i.fs)) Qb fun Qe Pd Qd Rb Sb=>?_;obtain⟨va,j⟩:=sa.callG Rb d;have Tb:=Ob.k j;have Ub:=ta.k j;have wa:=ua.k j;refine⟨_,_,rfl,_,_,wa.bk.ra,(by rw[show zaL cmC _=true from zoW (zqu ha300.noFn (zqu ha301.noFn zqv))]; exact(ua.bk.ra)),(by rw[show zaL cmC _=true from zoW (zqu ha300.noFn (zqu ha301.noFn zqv))]; exact(qa.bk.ra)),?_⟩;obtain⟨Vb,Wb,hp⟩:=zqq hp;refine zwf (t:=t) va.pre (ha300.sub (Sub.trans (Sub.trans (Sub.trans (Sub.trans (Sub.trans e.fs g.fs) h.fs) l.fs) i.fs) j.fs)) (ha301.sub (Sub.trans (Sub.trans (Sub.trans (Sub.trans (Sub.trans e.fs g.fs) h.fs) l.fs) i.fs) j.fs)) Wb fun Re Rd Sd Td Xb Yb Zb=>?_;obtain⟨xa,n⟩:=va.callG Xb d;have ac:=Tb.k n;have bc:=Ub.k n;have cc:=wa.k n;refine⟨_,_,rfl,?_⟩;obtain⟨Ud,dc,hp⟩:=zqq hp;refine zwa (r:=Jb) (z:=Pb) (t:=Vb) (class_:=class_) xa.pre (Nb.sub (Sub.trans j.fs n.fs)) (Sb.sub n.fs) Yb Zb dc fun Se ec=>?_;obtain⟨ya,I⟩:=xa.call ec d;have za:=ac.k I;have Aa:=bc.k I;have fc:=cc.k I;refine⟨_,rfl,_,_,_,_,_,_,za.bk.ra,_,_,Aa.bk.ra,?_⟩;obtain⟨Vd,gc,hp⟩:=zqq hp;refine zwh (r:=r) (z:=z) ya.pre (ha105.sub (Sub.trans (Sub.trans (Sub.trans (Sub.trans (Sub.trans (Sub.trans e.fs g.fs) h.fs) l.fs) i.fs) j.fs) n.fs)) (ha201.sub (Sub.trans (Sub.trans (Sub.trans (Sub.trans (Sub.trans (Sub.trans e.fs g.fs) h.fs) l.fs) i.fs) j.fs) n.fs)) gc fun Te hc=>?_;obtain⟨Ba,J⟩:=ya.call hc d
 have Ca:=za.k J;have Da:=Aa.k J;have ic:=fc.k J;refine⟨_,rfl,_,_,_,_,_,_,Ca.bk.ra,?_⟩;obtain⟨jc,kc,hp⟩:=zqq hp;refine zwd (r:=r) Ba.pre (ha105.sub (Sub.trans (Sub.trans (Sub.trans (Sub.trans (Sub.trans (Sub.trans e.fs g.fs) h.fs) l.fs) i.fs) j.fs) n.fs)) kc fun ve Wd Xd nc oc=>?_;obtain⟨Ea,o⟩:=Ba.callG nc d;have pc:=Ca.k o;have Fa:=Da.k o;have qc:=ic.k o;refine⟨_,_,_,_,_,_,rfl,_,_,Fa.bk.ra,(by rw[show zaL cmC _=true from zoW (zqu rfl (zqu ha201.noFn zqv))]; exact(Da.bk.ra)),?_⟩;obtain⟨sc,tc,hp⟩:=zqq hp;refine zwe (z:=z) Ea.pre (ha201.sub (Sub.trans (Sub.trans (Sub.trans (Sub.trans (Sub.trans (Sub.trans (Sub.trans e.fs g.fs) h.fs) l.fs) i.fs) j.fs) n.fs) o.fs)) tc fun we Yd Zd uc vc=>?_;obtain⟨Ga,p⟩:=Ea.callG uc d;have wc:=pc.k p;have xc:=Fa.k p;have yc:=qc.k p;refine⟨_,_,rfl,?_⟩;obtain⟨ae,zc,hp⟩:=zqq hp;refine zu0 (r:=jc) (z:=sc) Ga.pre (oc.sub p.fs) vc zc fun xe Ac=>?_;obtain⟨u,N⟩:=Ga.call Ac d;have Bc:=wc.k N;have Ha:=xc.k N;have Ia:=yc.k N;refine⟨_,rfl,?_⟩;refine zqT hp (fun Cc hp=>?_) fun Cc hp=>?_
 ·obtain rfl:=oi hp;exact hq _ u.ext'
 refine ifd hp (fun O hp=>?_) fun O hp=>?_; rotate_left
 ·refine zqX O ?_;refine ifd hp (fun Dc hp=>?_) fun Dc hp=>?_; rotate_left
  ·obtain rfl:=oi hp;exact hq _ u.ext'
  refine⟨A.isSl,?_⟩
  try rw[A.slLen]
  refine ifd hp (fun Ec hp=>?_) fun Ec hp=>?_; rotate_left
  ·obtain rfl:=oi hp;exact hq _ u.ext'
  refine zqV hp (fun Fc hp=>?_) fun Fc hp=>?_; rotate_left
  ·obtain rfl:=oi hp;exact hq _ u.ext'
  obtain⟨be,Gc,hp⟩:=zqq hp;refine zwl u.pre  Gc fun ye Hc=>?_;obtain⟨Ic,ce⟩:=u.call Hc d;refine⟨_,rfl,?_⟩;obtain rfl:=oi hp;exact hq _ Ic.ext'
 refine⟨_,_,Ha.bk.ra,_,_,Ia.bk.ra,?_⟩;obtain⟨de,Jc,hp⟩:=zqq hp;refine zuu (z:=z) (t:=t) u.pre (ha201.sub (Sub.trans (Sub.trans (Sub.trans (Sub.trans (Sub.trans (Sub.trans (Sub.trans (Sub.trans e.fs g.fs) h.fs) l.fs) i.fs) j.fs) n.fs) o.fs) p.fs)) (ha300.sub (Sub.trans (Sub.trans (Sub.trans (Sub.trans (Sub.trans (Sub.trans (Sub.trans (Sub.trans e.fs g.fs) h.fs) l.fs) i.fs) j.fs) n.fs) o.fs) p.fs)) (ha301.sub (Sub.trans (Sub.trans (Sub.trans (Sub.trans (Sub.trans (Sub.trans (Sub.trans (Sub.trans e.fs g.fs) h.fs) l.fs) i.fs) j.fs) n.fs) o.fs) p.fs)) Jc fun ze Kc=>?_;obtain⟨w,P⟩:=u.call Kc d;have Nc:=Bc.k P;have Ja:=Ha.k P;have Oc:=Ia.k P;refine⟨_,rfl,?_⟩;refine zqV hp (fun Pc hp=>?_) fun Pc hp=>?_
 ·refine ifd hp (fun Qc hp=>?_) fun Qc hp=>?_; rotate_left
  ·obtain rfl:=oi hp;exact hq _ w.ext'
  refine⟨A.isSl,?_⟩
  try rw[A.slLen]
  refine ifd hp (fun Rc hp=>?_) fun Rc hp=>?_; rotate_left
  ·obtain rfl:=oi hp;exact hq _ w.ext'
  refine zqV hp (fun Tc hp=>?_) fun Tc hp=>?_; rotate_left
  ·obtain rfl:=oi hp;exact hq _ w.ext'
  obtain⟨ee,Uc,hp⟩:=zqq hp;refine zwl w.pre  Uc fun Ae Vc=>?_;obtain⟨Xc,fe⟩:=w.call Vc d;refine⟨_,rfl,?_⟩;obtain rfl:=oi hp;exact hq _ Xc.ext'
 refine zqW O ?_;refine⟨_,_,_,_,_,_,Nc.bk.ra,_,_,Ja.bk.ra,_,_,Oc.bk.ra,?_⟩;obtain⟨Ka,Yc,hp⟩:=zqq hp;refine zuz (r:=r) (z:=z) (t:=t) w.pre (ha105.sub (Sub.trans (Sub.trans (Sub.trans (Sub.trans (Sub.trans (Sub.trans (Sub.trans (Sub.trans e.fs g.fs) h.fs) l.fs) i.fs) j.fs) n.fs) o.fs) p.fs)) (ha201.sub (Sub.trans (Sub.trans (Sub.trans (Sub.trans (Sub.trans (Sub.trans (Sub.trans (Sub.trans e.fs g.fs) h.fs) l.fs) i.fs) j.fs) n.fs) o.fs) p.fs)) (ha300.sub (Sub.trans (Sub.trans (Sub.trans (Sub.trans (Sub.trans (Sub.trans (Sub.trans (Sub.trans e.fs g.fs) h.fs) l.fs) i.fs) j.fs) n.fs) o.fs) p.fs)) (ha301.sub (Sub.trans (Sub.trans (Sub.trans (Sub.trans (Sub.trans (Sub.trans (Sub.trans (Sub.trans e.fs g.fs) h.fs) l.fs) i.fs) j.fs) n.fs) o.fs) p.fs)) Yc fun Be ge he Zc q=>?_;obtain⟨y,S⟩:=w.callG Zc d;have ad:=Ja.k S;refine⟨_,rfl,trivial,_,ad.bk.rc rfl,q.isSl,?_⟩
 try rw[q.slLen]
 refine ifd hp (fun bd hp=>?_) fun bd hp=>?_; rotate_left
 ·refine ifd hp (fun cd hp=>?_) fun cd hp=>?_; rotate_left
  ·obtain rfl:=oi hp;exact hq _ y.ext'
  obtain⟨ie,dd,hp⟩:=zqq hp;refine zuB (a:=ma.1) (b:=Ka) y.pre (A.sub (Sub.trans (Sub.trans (Sub.trans (Sub.trans (Sub.trans i.fs j.fs) n.fs) o.fs) p.fs) S.fs)) q dd fun Ce ed=>?_;obtain⟨D,je⟩:=y.call ed d;refine⟨_,rfl,?_⟩;refine zqU hp (fun fd hp=>?_) fun fd hp=>?_; rotate_left
  ·obtain rfl:=oi hp;exact hq _ D.ext'
  refine zqU hp (fun hd hp=>?_) fun hd hp=>?_; rotate_left
  ·obtain rfl:=oi hp;exact hq _ D.ext'
  obtain⟨ke,id,hp⟩:=zqq hp;refine zwl D.pre  id fun De jd=>?_;obtain⟨kd,me⟩:=D.call jd d;refine⟨_,rfl,?_⟩;obtain rfl:=oi hp;exact hq _ kd.ext'
 refine⟨q.isSl,?_⟩;obtain⟨La,hp⟩:=zqr hp;refine⟨(by first|exact La|(rw[q.slLen];exact La)),?_⟩;obtain⟨oe,T,hp⟩:=zqq hp;obtain⟨ud,Y,Z,T⟩:=zqk T;refine⟨ud,(by first|exact Y|(rw[q.slLen];exact Y)),(by first|exact Z|(rw[q.slLen];exact Z)),_,(q.rdI T y.sub),?_⟩;refine ifd hp (fun ld hp=>?_) fun ld hp=>?_; rotate_left
 ·obtain rfl:=oi hp;exact hq _ y.ext'
 obtain⟨pe,md,hp⟩:=zqq hp;refine zuB (a:=ma.1) (b:=Ka) y.pre (A.sub (Sub.trans (Sub.trans (Sub.trans (Sub.trans (Sub.trans i.fs j.fs) n.fs) o.fs) p.fs) S.fs)) q md fun Ee nd=>?_;obtain⟨F,qe⟩:=y.call nd d;refine⟨_,rfl,?_⟩;refine zqU hp (fun od hp=>?_) fun od hp=>?_; rotate_left
 ·obtain rfl:=oi hp;exact hq _ F.ext'
 refine zqU hp (fun pd hp=>?_) fun pd hp=>?_; rotate_left
 ·obtain rfl:=oi hp;exact hq _ F.ext'
 obtain⟨re,qd,hp⟩:=zqq hp;refine zwl F.pre  qd fun Fe sd=>?_;obtain⟨td,se⟩:=F.call sd d;refine⟨_,rfl,?_⟩;obtain rfl:=oi hp;exact hq _ td.ext'
def Inc(n fr:Nat)(T:List Int):Prop:=T.Pairwise (· < ·)/\∀v∈T,(fr:Int)<=v/\v < n
theorem Inc.cons{n fr:Nat}{x:Int}{T:List Int}:Inc n fr (x::T)↔((fr:Int)<=x/\x < n)/\Inc n (x+1).toNat T:=by
 unfold Inc;rw[List.pairwise_cons]
 constructor
 ·rintro⟨⟨h1,h2⟩,h3⟩
  have hx:=h3 x (List.mem_cons_self ..);exact⟨hx,h2,fun v hv=>by have:=h1 v hv; have:=h3 v (List.mem_cons_of_mem _ hv); omega⟩
 ·rintro⟨hx,h2,h3⟩
  refine⟨⟨fun v hv=>by have:=h3 v hv; omega,h2⟩,fun v hv=>?_⟩
  rcases List.mem_cons.1 hv with rfl | hv
  ·exact hx
  ·have:=h3 v hv; omega
theorem zwn{n:Nat}{D:List Int}:∀{d:Nat} {pre:List Int} {fr:Nat},D∈zro n d pre fr↔∃T,D=pre++T/\T.length=d/\Inc n fr T
 | 0,pre,fr=>by
  show D∈[pre]↔_
  rw[List.mem_singleton]
  constructor
  ·rintro rfl; exact⟨[],by simp,rfl,.nil,fun v hv=>by cases hv⟩
  ·rintro⟨T,h1,h2,_⟩
   rw[List.eq_nil_of_length_eq_zero h2,List.append_nil] at h1; exact h1
 | d+1,pre,fr=>by
  show D∈zrn (fun x=>zro n d (pre++[(x:Int)]) (x+1)) (n - fr) fr↔_
  rw[zvw]
  constructor
  ·rintro⟨x,h1,h2,h3⟩
   obtain⟨T,h4,h5,h6⟩:=zwn.1 h3;refine⟨(x:Int)::T,by rw[h4]; simp,by simp[h5],Inc.cons.2 ⟨by omega,?_⟩⟩;rw[show((x:Int)+1).toNat=x+1 by omega]; exact h6
  ·rintro⟨T,h1,h2,h3⟩
   cases T with
   | nil=>simp at h2
   | cons v T=>
    obtain⟨h4,h5⟩:=Inc.cons.1 h3;refine⟨v.toNat,by omega,by omega,zwn.2 ⟨T,?_,by simpa using h2,?_⟩⟩
    ·rw[show((v.toNat:Nat):Int)=v by omega,h1]; simp
    ·rw[show v.toNat+1=(v+1).toNat by omega]; exact h5
theorem zwo{n:Nat}:∀{T:List Int} {fr:Nat},Inc n fr T->T.length<=n - fr
 | [],_,_=>Nat.zero_le _
 | v::T,fr,h=>by
  obtain⟨h1,h2⟩:=Inc.cons.1 h;have:=zwo h2
  simp only[List.length_cons]
  omega
theorem zwp{n:Nat}{D:List Int}:D∈zoi n↔Inc n 0 D:=by
 unfold zoi;rw[zvw]
 constructor
 ·rintro⟨s,_,_,h⟩
  obtain⟨T,h1,_,h2⟩:=zwn.1 h;rw[h1]; exact h2
 ·intro h;have:=zwo h;exact⟨D.length,Nat.zero_le _,by omega,zwn.2 ⟨D,rfl,rfl,h⟩⟩
def inD(D:List Int)(j:Nat):Bool:=decide ((j:Int)∈D)
def bef:List Int->List Int->Bool
 | [],[]=>false
 | [],_::_=>true
 | _::_,[]=>false
 | x::a,y::b=>if x=y then bef a b else decide (x < y)
theorem zwq:∀A:List Int,bef A A=false
 | []=>rfl
 | x::A=>by show(if x=x then bef A A else _)=_; rw[if_pos rfl,zwq A]
theorem zwr:∀{A B:List Int},bef A B=true->bef B A=false
 | [],[],h=>by cases h
 | [],_::_,_=>rfl
 | _::_,[],h=>by cases h
 | x::A,y::B,h=>by
  have h':(if x=y then bef A B else decide (x < y))=true:=h
  show(if y=x then bef B A else decide (y < x))=false
  by_cases hxy:x=y
  ·rw[if_pos hxy] at h'; rw[if_pos hxy.symm]; exact zwr h'
  ·rw[if_neg hxy] at h'; rw[if_neg fun h=>hxy h.symm];have:=of_decide_eq_true h';exact decide_eq_false (by omega)
theorem zws:∀A B:List Int,A=B\/bef A B=true\/bef B A=true
 | [],[]=>.inl rfl
 | [],_::_=>.inr (.inl rfl)
 | _::_,[]=>.inr (.inr rfl)
 | x::A,y::B=>by
  show x::A=y::B\/(if x=y then bef A B else decide (x < y))=true\/(if y=x then bef B A else decide (y < x))=true
  by_cases hxy:x=y
  ·subst hxy;rw[if_pos rfl,if_pos rfl]
   rcases zws A B with h | h | h
   ·exact .inl (by rw[h])
   ·exact .inr (.inl h)
   ·exact .inr (.inr h)
  ·rw[if_neg hxy,if_neg fun h=>hxy h.symm]
   by_cases h:x < y
   ·exact .inr (.inl (decide_eq_true h))
   ·exact .inr (.inr (decide_eq_true (by omega)))
theorem zwt{S β:Type}{n:Nat}(F:Nat->S->Int->Option β)(st:Nat->S){fin:Option β}(hstep:∀d k,k < n->F (d+1) (st k) (k:Int)=F d (st (k+1)) ((k:Int)+1))(hend:∀d,F (d+1) (st n) (n:Int)=fin) :
  ∀d k,k<=n->n - k < d->F d (st k) (k:Int)=fin
 | 0,k,_,h=>by omega
 | d+1,k,hk,h=>by
  by_cases hkn:k=n
  ·subst hkn; exact hend d
  ·rw[hstep d k (by omega),show(k:Int)+1=((k+1:Nat):Int) by omega];exact zwt F st hstep hend d (k+1) (by omega) (by omega)
def RgP(r:Rg):Prop:=0<=r.Lo/\r.Lo<=r.Hi/\r.Hi<=10000/\r.Hi - r.Lo<=5
def zwu(y:Yr):Prop:=RgP y.Losses/\RgP y.Premiums/\0<=y.Parcels/\y.Parcels<=100
def zwv(l:List Int)(j:Nat):Prop:=0 < j->∀x y,l[j]? = some x->l[j - 1]? = some y->¬ x < y
structure zww (r:Rl):Prop where
 c0:1<=r.Classes
 pl:(r.Price.length:Int)=r.Classes
 gb:0<=r.Good/\r.Good<=r.Bad/\r.Bad<=300
 rest:0<=r.Rest/\r.Rest<=4
 few:0<=r.Fewest/\r.Fewest<=100
 pr:∀x∈r.Price,1<=x/\x<=10000
 so:∀j,j < r.Price.length->zwv r.Price j
structure zwx (r:Rl) (z:Zn):Prop where
 rl:zww r
 first:0<=z.First/\z.First<=r.Classes - 1
 ys:∀y∈z.Years,zwu y
def zwy(r:Rl)(z:Zn):Prop:=6 < r.Classes\/6 < z.Years.length
open Classical in
def zwz(r:Rl)(z:Zn):Int:=if zwy r z then 3 else if zwx r z then 0 else 1
structure VZ (r:Rl) (z:Zn):Prop where
 full:zwx r z
 c6:r.Classes<=6
 y6:z.Years.length<=6
theorem zwA{r:Rl}{z:Zn}:zwz r z=0↔VZ r z:=by
 unfold zwz
 by_cases h:zwy r z
 ·rw[if_pos h]; exact⟨fun h=>by omega,fun h2=>by have:=h2.c6; have:=h2.y6; unfold zwy at h; omega⟩
 ·rw[if_neg h];unfold zwy at h
  by_cases hf:zwx r z
  ·rw[if_pos hf]; exact⟨fun _=>⟨hf,by omega,by omega⟩,fun _=>rfl⟩
  ·rw[if_neg hf]; exact⟨fun h=>by omega,fun h=>absurd h.full hf⟩
theorem zwB{r:Rg}{n:Int}:Ev (zsr r n) (r.Lo<=n/\n<=r.Hi):=Ev.ite fun _=>Ev.dec Iff.rfl
theorem zwC{a b:Int}{r:Rg}:Ev (zss { Lo:=a,Hi:=b } r) (a<=r.Lo/\r.Lo<=r.Hi/\r.Hi<=b):=Ev.ite fun _=>Ev.ite fun _=>Ev.dec Iff.rfl
theorem gI{l:List Int}{p:Int->Option Bool}:∀{d:Nat} {x:Int},zsD l p d x=gIdx l p d x
 | 0,_=>rfl
 | d+1,x=>by unfold zsD gIdx; simp only[gI]
theorem gY{l:List Yr}{p:Yr->Option Bool}:∀{d:Nat} {x:Int},zsI l p d x=gIdx l p d x
 | 0,_=>rfl
 | d+1,x=>by unfold zsI gIdx; simp only[gY]
theorem zwD{l:Lm}{r:Rg}(h1:l.pence=⟨0,10000⟩)(h2:l.wide=⟨0,5⟩):Ev (zsM l r) (RgP r):=by
 unfold zsM;rw[h1,h2];refine(zwC.and fun hc=>Ev.gd (fI (by omega)) zwB.ret).imp ?_;unfold RgP
 show(_/\_/\_)/\((0:Int)<=r.Hi - r.Lo/\r.Hi - r.Lo<=5)↔_
 omega
theorem zwE{y:Yr}:Ev (zsN { pence:=⟨0,10000⟩,wide:=⟨0,5⟩,parcels:=⟨0,100⟩ } y) (zwu y):=
 ((zwD rfl rfl).and fun _=>(zwD rfl rfl).and fun _=>zwB.ret).imp Iff.rfl
theorem zwF{x y:Int}:zsz x y=some (decide (x < y)):=by
 unfold zsz zsy;rw[obs,if_neg (by simp)]
theorem zwG{l:List Int}(hl:zrH l):∀(d i:Nat),i < l.length->i < d->Ev (zsA l d (i:Int)) (∀j,j<=i->zwv l j)
 | 0,_,_,h=>by omega
 | d+1,i,hi,hd=>by
  unfold zrH at hl;unfold zsA
  cases i with
  | zero=>
   rw[if_neg (by omega)]
   exact Ev.tt fun j hj h0=>by omega
  | succ i=>
   have hg:=List.getElem?_eq_getElem hi;have hg0:=List.getElem?_eq_getElem (show i < l.length by omega)
   have e:((i+1:Nat):Int) - 1=(i:Int):=by omega
   rw[if_pos (by omega),zry hg,obs,e,zqs (fI (by omega)),zry hg0,obs,zwF,obs];have hso:zwv l (i+1)↔¬ l[i+1] < l[i]:=⟨fun h=>h (by omega) _ _ hg hg0,fun h _ x y hx hy=>by rw[hg] at hx; have hy:l[i]? = some y:=hy; rw[hg0] at hy; cases hx; cases hy; exact h⟩
   by_cases hc:l[i+1] < l[i]
   ·rw[decide_eq_true hc,if_pos rfl];exact Ev.ff fun h=>(hso.1 (h _ (Nat.le_refl _))) hc
   ·rw[decide_eq_false hc,if_neg (by decide),zqs (fI (by omega))]
    exact(zwG hl d i (by omega) (by omega)).imp ⟨fun h j hj=>by
     rcases Nat.lt_or_eq_of_le hj with h1 | h1
     ·exact h j (by omega)
     ·subst h1; exact hso.2 hc,fun h j hj=>h j (by omega)⟩
theorem zwH{l:List Int}(hl:l.length<=1000):Ev (zsB l) (∀j,j < l.length->zwv l j):=by
 unfold zsB;refine Ev.gd (fI (by omega)) ?_
 cases hn:l.length with
 | zero=>
  show Ev (zsA l (999999+1) _) _
  rw[zsA,if_neg (by omega)]
  exact Ev.tt fun j hj=>by omega
 | succ n=>
  rw[show((n+1:Nat):Int) - 1=(n:Int) by omega];exact(zwG (zrI hl (by omega)) 1000000 n (by omega) (by omega)).imp ⟨fun h j hj=>h j (by omega),fun h j hj=>h j (by omega)⟩
theorem zwI{r:Rl}(hl:r.Price.length<=1000):Ev (zsO r) ((r.Price.length:Int)=r.Classes/\(∀x∈r.Price,1<=x/\x<=10000)/\∀j,j < r.Price.length->zwv r.Price j):=by
 unfold zsO;exact Ev.ite fun _=>(Ev.each (q:=fun x=>1<=x/\x<=10000) (fun a _=>zwB) (by omega) gI).and fun _=>(zwH hl).ret
theorem zwJ{r:Rl}(hl:r.Price.length<=1000):Ev (zsP r) (zww r):=by
 unfold zsP;refine(Ev.ite fun _=>(zwC (a:=0) (b:=300) (r:=⟨r.Good,r.Bad⟩)).and fun _=>(zwB (r:=⟨0,4⟩) (n:=r.Rest)).and fun _=>(zwB (r:=⟨0,100⟩) (n:=r.Fewest)).and fun _=>(zwI hl).ret).imp ?_;exact⟨fun⟨a,b,c,d,e,f,g⟩=>⟨by omega,e,b,c,d,f,g⟩,fun⟨a,b,c,d,e,f,g⟩=>⟨by omega,c,d,e,b,f,g⟩⟩
theorem zwK{r:Rl}{z:Zn}(hz:z.Years.length<=1000)(hr:zww r)(hl:r.Price.length<=1000):Ev (zsR r z) ((0<=z.First/\z.First<=r.Classes - 1)/\∀y∈z.Years,zwu y):=by
 unfold zsR zsQ;have:=hr.pl;have:=hr.c0
 show Ev ((gd (zl6 .i64 (r.Classes - 1)) _).bind _) _
 rw[zqs (fI (by omega))];refine(show Ev ((zsr ⟨0,r.Classes - 1⟩ z.First).bind fun r=>some r) (0<=z.First/\z.First<=r.Classes - 1) from zwB.ret).and fun _=>(Ev.each (q:=zwu) (fun a _=>zwE) (by omega) gY).ret
theorem zwL{r:Rl}{z:Zn}(h1:r.Price.length<=1000)(h2:z.Years.length<=1000):zsV r z=some (zwz r z):=by
 unfold zsV zwz zwy
 by_cases c1:6 < r.Classes
 ·rw[if_pos c1,if_pos (.inl c1)]
 rw[if_neg c1]
 by_cases c2:6 < z.Years.length
 ·rw[if_pos (by omega),if_pos (.inr c2)]
 rw[if_neg (by omega),if_neg (show ¬ (6 < r.Classes\/6 < z.Years.length) by omega)]
 refine(zwJ h1).pick (fun h=>?_) fun h=>by rw[if_neg (by decide),if_neg fun h'=>h h'.rl]
 rw[if_pos rfl]
 refine(zwK h2 h h1).pick (fun h'=>?_) fun h'=>by rw[if_neg (by decide),if_neg fun h9=>h' ⟨h9.first,h9.ys⟩]
 rw[if_pos rfl,if_pos ⟨h,h'.1,h'.2⟩]
theorem zwM{n lo hi:Int}:Ev (zsa n lo hi) (lo<=n/\n<=hi):=Ev.ite fun _=>Ev.dec Iff.rfl
theorem zwN{r:Rg}:Ev (zsb r) (RgP r):=by
 unfold zsb;exact Ev.ite fun _=>Ev.ite fun _=>Ev.ite fun _=>Ev.gd (fI (by omega)) (Ev.dec Iff.rfl)
theorem zwO{r:Rl}{z:Zn}(h1:r.Price.length<=1000)(h2:z.Years.length<=1000):zsd r z=some (zwz r z):=by
 unfold zsd zwz zwy
 by_cases c1:6 < r.Classes
 ·rw[if_pos c1,if_pos (.inl c1)]
 rw[if_neg c1]
 by_cases c2:6 < z.Years.length
 ·rw[if_pos (by omega),if_pos (.inr c2)]
 rw[if_neg (by omega),if_neg (show ¬ (6 < r.Classes\/6 < z.Years.length) by omega)]
 by_cases c3:r.Classes < 1
 ·rw[if_pos c3,if_neg fun h=>by have:=h.rl.c0; omega]
 rw[if_neg c3]
 by_cases c4:(r.Price.length:Int)=r.Classes
 rotate_left
 ·rw[if_neg c4,if_neg fun h=>c4 h.rl.pl]
 rw[if_pos c4]
 refine zwM.pick (fun c5=>?_) fun c5=>by rw[if_neg (by decide),if_neg fun h=>c5 ⟨h.rl.gb.1,h.rl.gb.2.1⟩]
 rw[if_pos rfl]
 by_cases c6:300 < r.Bad
 ·rw[if_pos c6,if_neg fun h=>by have:=h.rl.gb; omega]
 rw[if_neg c6]
 refine zwM.pick (fun c7=>?_) fun c7=>by rw[if_neg (by decide),if_neg fun h=>c7 h.rl.rest]
 rw[if_pos rfl]
 refine zwM.pick (fun c8=>?_) fun c8=>by rw[if_neg (by decide),if_neg fun h=>c8 h.rl.few]
 rw[if_pos rfl,zqs (fI (by omega))]
 refine zwM.pick (fun c9=>?_) fun c9=>by rw[if_neg (by decide),if_neg fun h=>c9 h.first]
 rw[if_pos rfl]
 have kY:=zrG (l:=z.Years) (F:=fun d x=>prFault_L1 z d x) (ok:=zwu) (bad:=some 1) (fin:=some 0) (fun d k a hk=>by
  have hkl:=(List.getElem?_eq_some_iff.1 hk).1
  show(zwu a->prFault_L1 z (d+1) (k:Int)=_)/\(¬ zwu a->prFault_L1 z (d+1) (k:Int)=_)
  rw[prFault_L1,if_pos (by omega),zry hk,obs];refine⟨fun h=>?_,fun h=>?_⟩
  ·rw[zwN.some_of h.1,obs,if_pos rfl,zwN.some_of h.2.1,obs,if_pos rfl,zwM.some_of h.2.2,obs,if_pos rfl,zqs (fI (by omega))]
  ·refine zwN.pick (fun a1=>?_) fun _=>by rw[if_neg (by decide)]
   rw[if_pos rfl]
   refine zwN.pick (fun a2=>?_) fun _=>by rw[if_neg (by decide)]
   rw[if_pos rfl]
   refine zwM.pick (fun a3=>absurd ⟨a1,a2,a3⟩ h) fun _=>by rw[if_neg (by decide)]) (fun d=>by show prFault_L1 z (d+1) _=_; rw[prFault_L1,if_neg (Int.lt_irrefl _)]) (d:=1000000) (by omega)
 have kP:=zrB (n:=r.Price.length) (F:=fun d x=>zsc r z d 0 x) (ok:=fun j=>(∀x,r.Price[j]? = some x->1<=x/\x<=10000)/\zwv r.Price j) (bad:=some 1) (fin:=prFault_L1 z 1000000 0) (fun d k hk=>by
  have hg:=List.getElem?_eq_getElem hk;have hk':=hk
  show(_->zsc r z (d+1) 0 (k:Int)=_)/\(_->zsc r z (d+1) 0 (k:Int)=_)
  rw[zsc,if_pos (by omega),zry hg,obs];have e1:(∀x,r.Price[k]? = some x->1<=x/\x<=10000)↔(1<=r.Price[k]/\r.Price[k]<=10000):=⟨fun h=>h _ hg,fun h x hx=>by rw[hg] at hx; cases hx; exact h⟩;rw[e1]
  by_cases q1:1<=r.Price[k]/\r.Price[k]<=10000
  rotate_left
  ·rw[zwM.some_not q1,obs,if_neg (by decide)];exact⟨fun h=>absurd h.1 q1,fun _=>rfl⟩
  rw[zwM.some_of q1,obs,if_pos rfl]
  cases k with
  | zero=>
   rw[if_neg (by omega),zqs (fI (by omega))];exact⟨fun _=>rfl,fun h=>absurd ⟨q1,fun h0=>by omega⟩ h⟩
  | succ i=>
   have hg0:=List.getElem?_eq_getElem (show i < r.Price.length by omega)
   have e:((i+1:Nat):Int) - 1=(i:Int):=by omega
   rw[if_pos (by omega),obs,e,zqs (fI (by omega)),zry hg0,obs];have hso:zwv r.Price (i+1)↔¬ r.Price[i+1] < r.Price[i]:=⟨fun h=>h (by omega) _ _ hg hg0,fun h _ x y hx hy=>by rw[hg] at hx; have hy:r.Price[i]? = some y:=hy; rw[hg0] at hy; cases hx; cases hy; exact h⟩
   by_cases hc:r.Price[i+1] < r.Price[i]
   ·rw[if_pos hc]; exact⟨fun h=>absurd hc (hso.1 h.2),fun _=>rfl⟩
   ·rw[if_neg hc,zqs (fI (by omega))]; exact⟨fun _=>rfl,fun h=>absurd ⟨q1,hso.2 hc⟩ h⟩) (fun d=>by show zsc r z (d+1) 0 _=_; rw[zsc,if_neg (Int.lt_irrefl _)]) (d:=1000000) (by omega)
 by_cases q:∀j,j < r.Price.length->(∀x,r.Price[j]? = some x->1<=x/\x<=10000)/\zwv r.Price j
 rotate_left
 ·have:=kP.2 q;have this:zsc r z 1000000 0 0=some 1:=this;rw[this,if_neg fun h=>q fun j hj=>⟨fun x hx=>h.rl.pr x (List.mem_of_getElem? hx),h.rl.so j hj⟩]
 have e:=kP.1 q;have e:zsc r z 1000000 0 0=prFault_L1 z 1000000 0:=e;rw[e]
 have hrl:zww r:=⟨by omega,c4,⟨c5.1,c5.2,by omega⟩,c7,c8,fun x hx=>by
  obtain⟨i,hi⟩:=List.mem_iff_getElem?.1 hx
  exact(q i (List.getElem?_eq_some_iff.1 hi).1).1 x hi,fun j hj=>(q j hj).2⟩
 by_cases qy:∀y∈z.Years,zwu y
 ·rw[if_pos ⟨hrl,c9,qy⟩]; exact kY.1 qy
 ·rw[if_neg fun h=>qy h.ys]; exact kY.2 qy
end
end Go.Proofs.Ytlpjlgmoaipoiaa

namespace Go.Proofs.Ytlpjlgmoaipoiaa
open _root_.Go.Proofs.Try
open Go.Abs
set_option maxRecDepth 100000
noncomputable section
def zwP(r:Rl)(y:Yr):Bool:=!y.Exempt && decide (r.Fewest<=y.Parcels)
def kN(r:Rl)(y:Yr)(l p:Int):Int:=if zwP r y=true then (if l * 100 < p * r.Good then 1 else if p * r.Bad < l * 100 then 2 else 3) else 0
theorem zwQ{r:Rl}{y:Yr}:zs1 r y=some (zwP r y):=by
 unfold zs1 zwP
 cases y.Exempt <;> simp
theorem zwR(r:Rl)(y:Yr)(l p:Int):0<=kN r y l p/\kN r y l p < 4:=by
 unfold kN
 split
 ·split
  ·omega
  ·split <;> omega
 ·omega
theorem zwS{a b:Int}(h1:0<=a/\a<=10000)(h2:0<=b/\b<=300):0<=a * b/\a * b<=3000000:=
 ⟨Int.mul_nonneg h1.1 h2.1,by have:a * b<=10000 * 300:=Int.mul_le_mul h1.2 h2.2 h2.1 (by omega); omega⟩
theorem zwT{r:Rl}(h:zww r){y:Yr}{l p:Int}(hl:0<=l/\l<=10000)(hp:0<=p/\p<=10000):zs2 r y l p=some (kN r y l p):=by
 have hg:=h.gb;have m1:=zwS hp (b:=r.Good) (by omega);have m2:=zwS hp (b:=r.Bad) (by omega);unfold zs2 kN;rw[zwQ,obs]
 by_cases hc:zwP r y=true
 rotate_left
 ·rw[if_neg hc,if_neg hc]
 rw[if_pos hc,if_pos hc,zqs hl.1,zqs (by omega),zqs (fI (by omega)),zqs hp.1,zqs (by omega),zqs (fI (by omega))]
 by_cases h1:l * 100 < p * r.Good
 ·rw[if_pos h1,if_pos h1]
 ·rw[if_neg h1,if_neg h1,zqs hl.1,zqs (by omega),zqs (fI (by omega)),zqs hp.1,zqs (by omega),zqs (fI (by omega))]
  split <;> rfl
theorem zwU{r:Rl}(h:zww r){y:Yr}{l p:Int}(hl:0<=l/\l<=10000)(hp:0<=p/\p<=10000):zsh r y l p=some (kN r y l p):=zwT h hl hp
def mkP(f:Nat->Bool):P4:=⟨f 0,f 1,f 2,f 3⟩
def upF{α:Type}(f:Nat->α)(k:Nat)(a:α):Nat->α:=fun j=>if j=k then a else f j
theorem zwV{α:Type}(f:Nat->α){i:Int}(hi:0<=i)(a:α)(j:Nat):sti i j a (f j)=upF f i.toNat a j:=by
 unfold sti upF
 by_cases h:j=i.toNat
 ·rw[if_pos h,if_pos (by omega)]
 ·rw[if_neg h,if_neg (by omega)]
theorem zwW(f:Nat->Bool)(i k:Nat):upF f i true k=true↔f k=true\/i=k:=by
 unfold upF
 by_cases h:k=i
 ·rw[if_pos h]; exact⟨fun _=>.inr h.symm,fun _=>rfl⟩
 ·rw[if_neg h]; exact⟨.inl,fun h'=>h'.elim id fun h2=>absurd h2.symm h⟩
theorem zwX{f g:Nat->Bool}(h:∀k,k < 4->(f k=true↔g k=true)):mkP f=mkP g:=by
 have e:∀k,k < 4->f k=g k:=fun k hk=>Bool.eq_iff_iff.2 (h k hk);unfold mkP;rw[e 0 (by omega),e 1 (by omega),e 2 (by omega),e 3 (by omega)]
def zwY(r:Rg):List Int:=segI r.Lo (r.Hi - r.Lo+1).toNat
def kB(r:Rl)(y:Yr)(k:Nat):Bool:=(zwY y.Losses).any fun l=>(zwY y.Premiums).any fun p=>kN r y l p == (k:Int)
def zwZ(r:Rl)(y:Yr)(k:Int):Prop:=∃l p,(y.Losses.Lo<=l/\l<=y.Losses.Hi)/\(y.Premiums.Lo<=p/\p<=y.Premiums.Hi)/\kN r y l p=k
theorem zw0{r:Rg}{x:Int}:x∈zwY r↔r.Lo<=x/\x<=r.Hi:=by
 unfold zwY;rw[zrQ]
 omega
theorem zw1{r:Rl}{y:Yr}{k:Nat}:kB r y k=true↔zwZ r y (k:Int):=by
 unfold kB zwZ;rw[List.any_eq_true]
 constructor
 ·rintro⟨l,hl,h⟩
  obtain⟨p,hp,h⟩:=List.any_eq_true.1 h;exact⟨l,p,zw0.1 hl,zw0.1 hp,of_decide_eq_true h⟩
 ·rintro⟨l,p,hl,hp,h⟩
  exact⟨l,zw0.2 hl,List.any_eq_true.2 ⟨p,zw0.2 hp,decide_eq_true h⟩⟩
theorem zw2{r:Rl}(h:zww r){y:Yr}:∀(l:List (List Int)) (f:Nat->Bool),(∀a∈l,∃x p,a=[x,p]/\(0<=x/\x<=10000)/\0<=p/\p<=10000) ->
  ∃g:Nat->Bool,pwithin_L0 r y l (f 0) (f 1) (f 2) (f 3)=some (mkP g)/\∀k,g k=true↔f k=true\/∃x p,[x,p]∈l/\kN r y x p=(k:Int)
 | [],f,_=>⟨f,rfl,fun k=>⟨.inl,fun h=>h.elim id fun⟨_,_,h,_⟩=>by cases h⟩⟩
 | a::l,f,hl=>by
  obtain⟨x,p,rfl,hx,hp⟩:=hl a (List.mem_cons_self ..);have hb:=zwR r y x p;obtain⟨g,h1,h2⟩:=zw2 h (y:=y) l (upF f (kN r y x p).toNat true) fun b hb=>hl b (List.mem_cons_of_mem _ hb);refine⟨g,?_,fun k=>(h2 k).trans ?_⟩
  ·unfold pwithin_L0;rw[show idx [x,p] 0=some x from rfl,obs,show idx [x,p] 1=some p from rfl,obs,zwT h hx hp,obs,zqs ⟨hb.1,hb.2⟩,zwV f hb.1,zwV f hb.1,zwV f hb.1,zwV f hb.1];exact h1
  ·rw[zwW]
   constructor
   ·rintro ((h3 | h3) | ⟨x',p',h3,h4⟩)
    ·exact .inl h3
    ·exact .inr ⟨x,p,List.mem_cons_self ..,by omega⟩
    ·exact .inr ⟨x',p',List.mem_cons_of_mem _ h3,h4⟩
   ·rintro (h3 | ⟨x',p',h3,h4⟩)
    ·exact .inl (.inl h3)
    ·rcases List.mem_cons.1 h3 with h5 | h5
     ·injection h5 with e1 e2
      injection e2 with e2 _
      subst e1 e2;exact .inl (.inr (by omega))
     ·exact .inr ⟨x',p',h5,h4⟩
theorem zw3{a b:Rg}{x p:Int}:[x,p]∈chW [a,b] []↔(a.Lo<=x/\x<=a.Hi)/\b.Lo<=p/\p<=b.Hi:=by
 show[x,p]∈zrn (fun n=>zrn (fun m=>[([]++[a.Lo+(n:Int)])++[b.Lo+(m:Int)]]) (szR b).toNat 0) (szR a).toNat 0↔_
 rw[zvw];unfold szR
 constructor
 ·rintro⟨n,_,hn,h⟩
  rw[zvw] at h;obtain⟨m,_,hm,h⟩:=h;have h:=List.mem_singleton.1 h
  injection h with e1 e2
  injection e2 with e2 _
  omega
 ·intro h;refine⟨(x - a.Lo).toNat,by omega,by omega,(zvw _ _ _ _).2 ⟨(p - b.Lo).toNat,by omega,by omega,List.mem_singleton.2 ?_⟩⟩;rw[show a.Lo+((x - a.Lo).toNat:Int)=x by omega,show b.Lo+((p - b.Lo).toNat:Int)=p by omega]; rfl
theorem zw4{a b:Rg}{l:List Int}(h:l∈chW [a,b] []):∃x p,l=[x,p]:=by
 have h:l∈zrn (fun n=>zrn (fun m=>[([]++[a.Lo+(n:Int)])++[b.Lo+(m:Int)]]) (szR b).toNat 0) (szR a).toNat 0:=h;rw[zvw] at h;obtain⟨n,_,hn,h⟩:=h;rw[zvw] at h;obtain⟨m,_,hm,h⟩:=h;exact⟨_,_,List.mem_singleton.1 h⟩
theorem zw5{r:Rl}(h:zww r){y:Yr}(hy:zwu y):ztB r y=some (mkP (kB r y)):=by
 obtain⟨h1,h2,_⟩:=hy;unfold RgP at h1 h2;unfold ztB zty
 rw[zqs ⟨by simp,fun a ha=>by
  unfold okR
  rcases List.mem_cons.1 ha with rfl | ha
  ·omega
  ·rw[List.mem_singleton.1 ha]; omega⟩,obs]
 obtain⟨g,e1,e2⟩:=zw2 h (y:=y) (chW [y.Losses,y.Premiums] []) (fun _=>false) fun a ha=>by
  obtain⟨x,p,rfl⟩:=zw4 ha;have:=zw3.1 ha;exact⟨x,p,rfl,by omega,by omega⟩
 have e1:pwithin_L0 r y (chW [y.Losses,y.Premiums] []) false false false false=some (mkP g):=e1;rw[e1]
 congr 1
 refine zwX fun k _=>(e2 k).trans ?_;rw[zw1];unfold zwZ
 constructor
 ·rintro (h3 | ⟨x,p,h3,h4⟩)
  ·cases h3
  ·exact⟨x,p,(zw3.1 h3).1,(zw3.1 h3).2,h4⟩
 ·rintro⟨x,p,h3,h4,h5⟩
  exact .inr ⟨x,p,zw3.2 ⟨h3,h4⟩,h5⟩
def step(r:Rl)(k:Int)(s:Stt):Stt:=if k=2 then ⟨min (s.cls+1) (r.Classes - 1),0⟩ else if k=1 then ⟨if s.since=r.Rest then max 0 (s.cls - 1) else s.cls,min (s.since+1) r.Rest⟩ else if k=3 then ⟨s.cls,min (s.since+1) r.Rest⟩ else s
def SOk(r:Rl)(s:Stt):Prop:=(0<=s.cls/\s.cls<=r.Classes - 1)/\0<=s.since/\s.since<=r.Rest
theorem zw6{r:Rl}(h:zww r)(k:Int){s:Stt}(hs:SOk r s):SOk r (step r k s):=by
 have h1:=h.rest;have h2:=h.c0;unfold SOk at hs;unfold step SOk
 split
 ·exact⟨⟨by show(0:Int)<=min _ _; omega,by show min _ _<=_; omega⟩,by show(0:Int)<=0; omega,by show(0:Int)<=_; omega⟩
 ·split
  ·refine⟨?_,by show(0:Int)<=min _ _; omega,by show min _ _<=_; omega⟩
   show 0<=(if s.since=r.Rest then max 0 (s.cls - 1) else s.cls)/\(if s.since=r.Rest then max 0 (s.cls - 1) else s.cls)<=r.Classes - 1
   split <;> omega
  ·split
   ·exact⟨hs.1,by show(0:Int)<=min _ _; omega,by show min _ _<=_; omega⟩
   ·exact hs
def zw7(r:Rl)(s:Stt)(ks:List Int):Stt:=ks.foldl (fun s k=>step r k s) s
def zw8(r:Rl):Stt->List Int->List Int
 | _,[]=>[]
 | s,k::ks=>(step r k s).cls::zw8 r (step r k s) ks
theorem zw9{r:Rl}(h:zww r):∀(ks:List Int) {s:Stt},SOk r s->SOk r (zw7 r s ks)
 | [],_,hs=>hs
 | k::ks,_,hs=>zw9 h ks (zw6 h k hs)
theorem zxa(r:Rl)(s:Stt)(a b:List Int):zw7 r s (a++b)=zw7 r (zw7 r s a) b:=List.foldl_append
theorem zxb(r:Rl)(s:Stt)(a:List Int)(k:Int):zw7 r s (a++[k])=step r k (zw7 r s a):=zxa r s a [k]
theorem zxc(r:Rl):∀(a b:List Int) (s:Stt),zw8 r s (a++b)=zw8 r s a++zw8 r (zw7 r s a) b
 | [],_,_=>rfl
 | k::a,b,s=>congrArg ((step r k s).cls :: ·) (zxc r a b (step r k s))
theorem zxd(r:Rl):∀(a:List Int) (s:Stt),(zw8 r s a).length=a.length
 | [],_=>rfl
 | k::a,s=>congrArg (· + 1) (zxd r a (step r k s))
theorem zxe{l:List Int}{k:Nat}{x:Int}(h:l[k]? = some x):l.take (k+1)=l.take k++[x]:=by rw[List.take_add_one,h]; rfl
def zxf:K4:={ k0:={ lead:=fun a b=>zsW a b },k1:={ lead:=fun a b=>zsY a b },k2:={ lead:=fun a b=>zsZ a b },k3:={ lead:=fun a b=>zsX a b } }
theorem zxg:zs0=some zxf:=rfl
theorem zxh{r:Rl}{s:Stt}:zsW r s=some (step r 0 s):=rfl
theorem zxi{r:Rl}(h:zww r){s:Stt}(hs:SOk r s):zsX r s=some (step r 3 s):=by
 have:=h.rest;unfold SOk at hs;unfold zsX;rw[zqs (fI (by omega))]; rfl
theorem zxj{r:Rl}(h:zww r)(hc:r.Classes<=6){s:Stt}(hs:SOk r s):zsY r s=some (step r 1 s):=by
 have hs':=hs;unfold SOk at hs';unfold zsY;rw[zxi h hs,obs];unfold step
 by_cases hr:s.since=r.Rest
 ·rw[if_pos hr,zqs (fI (by omega)),if_neg (by decide),if_pos rfl,if_pos hr]; rfl
 ·rw[if_neg hr,if_neg (by decide),if_pos rfl,if_neg hr]; rfl
theorem zxk{r:Rl}(h:zww r)(hc:r.Classes<=6){s:Stt}(hs:SOk r s):zsZ r s=some (step r 2 s):=by
 have:=h.c0;unfold SOk at hs;unfold zsZ;rw[zqs (fI (by omega)),zqs (fI (by omega))]; rfl
def zxl(r:Rl)(z:Zn):Wk:={ r:=r,zone:=z,kinds:=zxf,can:=z.Years.map fun y=>mkP (kB r y) }
theorem zxm{r:Rl}{z:Zn}(h:VZ r z):ztD r z=some (zxl r z,0):=by
 have h6:=h.y6;have hpl:=h.full.rl.pl;have hc6:=h.c6;unfold ztD;rw[zwL (by omega) (by omega),obs,zwA.2 h,if_pos rfl,zxg,obs]
 exact zrD (l:=z.Years) (fun y=>mkP (kB r y)) (F:=fun d acc x=>ztC r z zxf d r.Classes r.Good r.Bad r.Rest r.Fewest z.First acc x) (fun acc=>some (({ r:=r,zone:=z,kinds:=zxf,can:=acc }:Wk),(0:Int))) (fun d k acc a hk ha=>by
  have hkl:=(List.getElem?_eq_some_iff.1 hk).1
  show ztC r z zxf (d+1) _ _ _ _ _ _ _ _=_
  rw[ztC,if_pos (by omega),zry hk,obs,zw5 h.full.rl (h.full.ys a (List.mem_of_getElem? hk)),obs,zqs (by omega),zqs (fI (by omega))]) (fun d acc=>by
  show ztC r z zxf (d+1) _ _ _ _ _ _ _ _=_
  rw[ztC,if_neg (Int.lt_irrefl _)]) (by omega)
theorem zxn{r:Rl}{z:Zn}(h1:r.Price.length<=1000)(h2:z.Years.length<=1000)(h:zwz r z ≠ 0):∃w,ztD r z=some (w,zwz r z):=by
 unfold ztD;rw[zwL h1 h2,obs,if_neg h];exact⟨_,rfl⟩
theorem zxo{z:Zn}(h:z.Years.length<=1000){n:Int}:Ev (zsS z n) (0<=n/\n<=(z.Years.length:Int) - 1):=by
 unfold zsS;refine Ev.gd (fI (by omega)) ?_;exact(show Ev (zsr { Lo:=0,Hi:=(z.Years.length:Int) - 1 } n) _ from zwB).ret
theorem zxp{r:Rl}{z:Zn}(h:VZ r z){n:Int}(hn:0<=n/\n<=(z.Years.length:Int) - 1):ztE r z n=some (zxl r z,0):=by
 have:=h.y6;unfold ztE;rw[zxm h,obs,if_pos rfl,(zxo (by omega)).some_of hn,obs,if_pos rfl]
def zxq(z:Zn)(t:Tr)(j:Nat):Prop:=∀(y:Yr) (a b:Int),z.Years[j]? = some y->t.Losses[j]? = some a->t.Premiums[j]? = some b->(y.Losses.Lo<=a/\a<=y.Losses.Hi)/\y.Premiums.Lo<=b/\b<=y.Premiums.Hi
structure zxr (z:Zn) (t:Tr):Prop where
 l:t.Losses.length=z.Years.length
 p:t.Premiums.length=z.Years.length
 ok:∀j,zxq z t j
theorem zxs{z:Zn}{t:Tr}(h:z.Years.length<=1000):Ev (zsU z t) (zxr z t):=by
 unfold zsU;refine(Ev.ite (K:=t.Premiums.length=z.Years.length/\(∀j,j < z.Years.length->zxq z t j)/\True) fun h1=>(Ev.ite fun h2=>Ev.loop (n:=z.Years.length) (F:=fun d x=>zsT z t d x) (ok:=fun j=>zxq z t j) (fin:=some true) (P:=True) (fun d k hk=>?_) (fun d=>?_) (by omega) fun _=>Ev.tt trivial).imp (and_congr_left fun _=>by omega)).imp ?_
 ·have hg:=List.getElem?_eq_getElem hk;have ha:=List.getElem?_eq_getElem (show k < t.Losses.length by omega);have hb:=List.getElem?_eq_getElem (show k < t.Premiums.length by omega)
  show(_->zsT z t (d+1) (k:Int)=_)/\(_->zsT z t (d+1) (k:Int)=_)
  rw[zsT,if_pos (by omega),zry hg,obs,zry ha,obs]
  have e:zxq z t k↔((z.Years[k].Losses.Lo<=t.Losses[k]/\t.Losses[k]<=z.Years[k].Losses.Hi)/\z.Years[k].Premiums.Lo<=t.Premiums[k]/\t.Premiums[k]<=z.Years[k].Premiums.Hi):=by
   unfold zxq;rw[hg,ha,hb];exact⟨fun q=>q _ _ _ rfl rfl rfl,fun q y a b h1 h2 h3=>by cases h1; cases h2; cases h3; exact q⟩
  rw[e]
  by_cases c1:z.Years[k].Losses.Lo<=t.Losses[k]/\t.Losses[k]<=z.Years[k].Losses.Hi
  ·rw[zwB.some_of c1,obs,if_pos rfl,zry hb,obs]
   by_cases c2:z.Years[k].Premiums.Lo<=t.Premiums[k]/\t.Premiums[k]<=z.Years[k].Premiums.Hi
   ·rw[zwB.some_of c2,obs,if_pos rfl,zqs (fI (by omega))];exact⟨fun _=>rfl,fun q=>absurd ⟨c1,c2⟩ q⟩
   ·rw[zwB.some_not c2,obs,if_neg (by decide)];exact⟨fun q=>absurd q.2 c2,fun _=>rfl⟩
  ·rw[zwB.some_not c1,obs,if_neg (by decide)];exact⟨fun q=>absurd q.1 c1,fun _=>rfl⟩
 ·show zsT z t (d+1) _=_
  rw[zsT,if_neg (Int.lt_irrefl _)]
 ·exact⟨fun⟨h1,h2,h3,_⟩=>⟨by omega,h2,fun j y a b hy=>h3 j (List.getElem?_eq_some_iff.1 hy).1 y a b hy⟩,fun⟨h1,h2,h3⟩=>⟨by omega,h2,fun j _=>h3 j,trivial⟩⟩
theorem zxt{z:Zn}{t:Tr}(h:z.Years.length<=1000):Ev (zsf z t) (zxr z t):=by
 unfold zsf;refine(Ev.ite (K:=t.Premiums.length=z.Years.length/\(∀j,j < z.Years.length->zxq z t j)/\True) fun h1=>(Ev.ite fun h2=>Ev.loop (n:=z.Years.length) (F:=fun d x=>zse z t d x) (ok:=fun j=>zxq z t j) (fin:=some true) (P:=True) (fun d k hk=>?_) (fun d=>?_) (by omega) fun _=>Ev.tt trivial).imp (and_congr_left fun _=>by omega)).imp ?_
 ·have hg:=List.getElem?_eq_getElem hk;have ha:=List.getElem?_eq_getElem (show k < t.Losses.length by omega);have hb:=List.getElem?_eq_getElem (show k < t.Premiums.length by omega)
  show(_->zse z t (d+1) (k:Int)=_)/\(_->zse z t (d+1) (k:Int)=_)
  rw[zse,if_pos (by omega),zry hg,obs,zry ha,obs]
  have e:zxq z t k↔((z.Years[k].Losses.Lo<=t.Losses[k]/\t.Losses[k]<=z.Years[k].Losses.Hi)/\z.Years[k].Premiums.Lo<=t.Premiums[k]/\t.Premiums[k]<=z.Years[k].Premiums.Hi):=by
   unfold zxq;rw[hg,ha,hb];exact⟨fun q=>q _ _ _ rfl rfl rfl,fun q y a b h1 h2 h3=>by cases h1; cases h2; cases h3; exact q⟩
  rw[e]
  by_cases c1:z.Years[k].Losses.Lo<=t.Losses[k]/\t.Losses[k]<=z.Years[k].Losses.Hi
  ·rw[zwM.some_of c1,obs,if_pos rfl,zry hb,obs]
   by_cases c2:z.Years[k].Premiums.Lo<=t.Premiums[k]/\t.Premiums[k]<=z.Years[k].Premiums.Hi
   ·rw[zwM.some_of c2,obs,if_pos rfl,zqs (fI (by omega))];exact⟨fun _=>rfl,fun q=>absurd ⟨c1,c2⟩ q⟩
   ·rw[zwM.some_not c2,obs,if_neg (by decide)];exact⟨fun q=>absurd q.2 c2,fun _=>rfl⟩
  ·rw[zwM.some_not c1,obs,if_neg (by decide)];exact⟨fun q=>absurd q.1 c1,fun _=>rfl⟩
 ·show zse z t (d+1) _=_
  rw[zse,if_neg (Int.lt_irrefl _)]
 ·exact⟨fun⟨h1,h2,h3,_⟩=>⟨by omega,h2,fun j y a b hy=>h3 j (List.getElem?_eq_some_iff.1 hy).1 y a b hy⟩,fun⟨h1,h2,h3⟩=>⟨by omega,h2,fun j _=>h3 j,trivial⟩⟩
def ktL(r:Rl):List Yr->List Int->List Int->List Int
 | y::ys,a::us,b::vs=>kN r y a b::ktL r ys us vs
 | [],_,_=>[]
 | _::_,[],_=>[]
 | _::_,_::_,[]=>[]
theorem zxu{r:Rl}:∀{ys:List Yr} {us vs:List Int},us.length=ys.length->vs.length=ys.length->(ktL r ys us vs).length=ys.length
 | [],_,_,_,_=>rfl
 | y::ys,a::us,b::vs,h1,h2=>by
  show(ktL r ys us vs).length+1=ys.length+1
  rw[zxu (by simpa using h1) (by simpa using h2)]
 | y::ys,[],_,h1,_=>by simp at h1
 | y::ys,_::_,[],_,h2=>by simp at h2
theorem zxv{r:Rl}:∀{ys:List Yr} {us vs:List Int} {k:Nat} {y:Yr} {a b:Int},ys[k]? = some y->us[k]? = some a->vs[k]? = some b->(ktL r ys us vs)[k]? = some (kN r y a b)
 | [],_,_,_,_,_,_,h,_,_=>by simp at h
 | _::_,[],_,_,_,_,_,_,h,_=>by simp at h
 | _::_,_::_,[],_,_,_,_,_,_,h=>by simp at h
 | y::ys,a::us,b::vs,0,_,_,_,h1,h2,h3=>by cases h1; cases h2; cases h3; rfl
 | y::ys,a::us,b::vs,k+1,_,_,_,h1,h2,h3=>zxv (ys:=ys) (us:=us) (vs:=vs) (k:=k) h1 h2 h3
def st0(r:Rl)(z:Zn):Stt:=⟨z.First,r.Rest⟩
def ktN(r:Rl)(z:Zn)(t:Tr):List Int:=ktL r z.Years t.Losses t.Premiums
def zxw(r:Rl)(z:Zn)(t:Tr):List Int:=zw8 r (st0 r z) (ktN r z t)
theorem VZ.st0{r:Rl}{z:Zn}(h:VZ r z):SOk r (st0 r z):=by
 have h1:=h.full.first;have h2:=h.full.rl.rest;exact⟨h1,h2.1,Int.le_refl _⟩
theorem zxx{r:Rl}(h:zww r)(hc:r.Classes<=6){s:Stt}(hs:SOk r s){k:Int}(hk:0<=k/\k < 4){β:Type}{G:Stt->Option β} :
  (if k=0 then (zxf.k0.lead r s).bind G else if k=1 then (zxf.k1.lead r s).bind G else if k=2 then (zxf.k2.lead r s).bind G else if k=3 then (zxf.k3.lead r s).bind G else none)=G (step r k s):=by
 by_cases h0:k=0
 ·subst h0; rw[if_pos rfl,show zxf.k0.lead r s=some (step r 0 s) from zxh,obs]
 rw[if_neg h0]
 by_cases h1:k=1
 ·subst h1; rw[if_pos rfl,show zxf.k1.lead r s=some (step r 1 s) from zxj h hc hs,obs]
 rw[if_neg h1]
 by_cases h2:k=2
 ·subst h2; rw[if_pos rfl,show zxf.k2.lead r s=some (step r 2 s) from zxk h hc hs,obs]
 rw[if_neg h2]
 have h3:k=3:=by omega
 subst h3; rw[if_pos rfl,show zxf.k3.lead r s=some (step r 3 s) from zxi h hs,obs]
theorem zxy{r:Rl}{z:Zn}(h:VZ r z){t:Tr}(ht:zxr z t){k:Nat}(hk:k < z.Years.length) :
  ∃y a b,z.Years[k]? = some y/\t.Losses[k]? = some a/\t.Premiums[k]? = some b/\((y.Losses.Lo<=a/\a<=y.Losses.Hi)/\y.Premiums.Lo<=b/\b<=y.Premiums.Hi)/\(0<=a/\a<=10000)/\0<=b/\b<=10000:=by
 have h1:=ht.l;have h2:=ht.p;have hg:=List.getElem?_eq_getElem hk;have ha:=List.getElem?_eq_getElem (show k < t.Losses.length by omega);have hb:=List.getElem?_eq_getElem (show k < t.Premiums.length by omega);have hr:=ht.ok k _ _ _ hg ha hb;have hy:=h.full.ys _ (List.getElem_mem hk);obtain⟨q1,q2,_⟩:=hy;unfold RgP at q1 q2;exact⟨_,_,_,hg,ha,hb,hr,by omega,by omega⟩
theorem zxz{r:Rl}{z:Zn}{t:Tr}(ht:zxr z t):(ktN r z t).length=z.Years.length:=zxu ht.l ht.p
theorem zxA{r:Rl}{z:Zn}{t:Tr}{k:Nat}{y:Yr}{a b:Int}(h1:z.Years[k]? = some y)(h2:t.Losses[k]? = some a)(h3:t.Premiums[k]? = some b):(ktN r z t)[k]? = some (kN r y a b):=zxv h1 h2 h3
theorem zxB{r:Rl}{s:Stt}{ks:List Int}{k:Nat}{x:Int}(h:ks[k]? = some x):zw8 r s (ks.take (k+1))=zw8 r s (ks.take k)++[(step r x (zw7 r s (ks.take k))).cls]:=by
 rw[zxe h,zxc]; rfl
theorem zxC{r:Rl}{s:Stt}{ks:List Int}{k:Nat}{x:Int}(h:ks[k]? = some x):zw7 r s (ks.take (k+1))=step r x (zw7 r s (ks.take k)):=by
 rw[zxe h,zxb]
theorem zxD{r:Rl}{z:Zn}(h:VZ r z){t:Tr}(ht:zxr z t):zth (zxl r z) t=some (zxw r z t):=by
 have h6:=h.y6;have hl:=zxz (r:=r) ht;unfold zth ztf;rw[obs];refine zwt (n:=z.Years.length) (fun d (s:Stt × List Int) x=>ztg (zxl r z) t d s.1.cls s.1.since s.2 x) (fun k=>(zw7 r (st0 r z) ((ktN r z t).take k),zw8 r (st0 r z) ((ktN r z t).take k))) (fun d k hk=>?_) (fun d=>?_) (z.Years.length+1) 0 (by omega) (by omega)
 ·obtain⟨y,a,b,hy,ha,hb,_,ha2,hb2⟩:=zxy h ht hk;have hkt:=zxA (r:=r) hy ha hb;have hs:=zw9 h.full.rl ((ktN r z t).take k) h.st0
  have hlen:(zw8 r (st0 r z) ((ktN r z t).take k)).length < 1048576:=by rw[zxd,List.length_take]; omega
  show ztg (zxl r z) t (d+1) (zw7 r (st0 r z) ((ktN r z t).take k)).cls (zw7 r (st0 r z) ((ktN r z t).take k)).since (zw8 r (st0 r z) ((ktN r z t).take k)) (k:Int)=ztg (zxl r z) t d (zw7 r (st0 r z) ((ktN r z t).take (k+1))).cls (zw7 r (st0 r z) ((ktN r z t).take (k+1))).since (zw8 r (st0 r z) ((ktN r z t).take (k+1))) ((k:Int)+1)
  rw[zxC hkt,zxB hkt];generalize zw8 r (st0 r z) ((ktN r z t).take k)=acc at hlen;generalize zw7 r (st0 r z) ((ktN r z t).take k)=s at hs;rw[ztg];refine(if_pos (show(k:Int) < ((zxl r z).zone.Years.length:Int) from by show(k:Int) < (z.Years.length:Int); omega)).trans ?_;rw[show idx (zxl r z).zone.Years (k:Int)=some y from zry hy,obs,zry ha,obs,zry hb,obs,show zs2 (zxl r z).r y a b=_ from zwT h.full.rl ha2 hb2,obs];refine(zxx (r:=r) h.full.rl h.c6 hs (zwR r y a b) (G:=fun s=>gd (acc.length < 1048576) (gd (zl6 .i64 ((k:Int)+1)) (ztg (zxl r z) t d s.cls s.since (acc++[s.cls]) ((k:Int)+1))))).trans ?_
  show gd _ (gd _ _)=_
  rw[zqs hlen,zqs (fI (by omega))]
 ·show ztg (zxl r z) t (d+1) _ _ _ _=_
  rw[ztg];refine(if_neg (show ¬ (z.Years.length:Int) < ((zxl r z).zone.Years.length:Int) from Int.lt_irrefl _)).trans ?_
  show some (zw8 r (st0 r z) ((ktN r z t).take z.Years.length))=_
  rw[<- hl,List.take_length]; rfl
theorem zxE{r:Rl}{z:Zn}(h:VZ r z){t:Tr}(ht:zxr z t):ztF r z t=some (zxw r z t,0):=by
 have:=h.y6;unfold ztF;rw[zxm h,obs,if_pos rfl,(zxs (by omega)).some_of ht,obs,if_pos rfl,zxD h ht,obs]
theorem zxF{r:Rl}{z:Zn}(h:VZ r z){t:Tr}(ht:¬ zxr z t):ztF r z t=some ([],2):=by
 have:=h.y6;unfold ztF;rw[zxm h,obs,if_pos rfl,(zxs (by omega)).some_not ht,obs,if_neg (by decide)]
theorem zxG{r:Rl}{z:Zn}(h1:r.Price.length<=1000)(h2:z.Years.length<=1000)(h:zwz r z ≠ 0){t:Tr}:ztF r z t=some ([],zwz r z):=by
 obtain⟨w,e⟩:=zxn h1 h2 h;unfold ztF;rw[e,obs,if_neg h]
def zxH(first:Int)(l:List Int):Int:=match l.getLast? with | some x=>x | none=>first
theorem zxI{l:List Int}(h:0 < l.length)(first:Int):idx l ((l.length:Int) - 1)=some (zxH first l):=by
 rw[show(l.length:Int) - 1=((l.length - 1:Nat):Int) by omega,zql];unfold zxH;rw[List.getLast?_eq_getElem?,List.getElem?_eq_getElem (by omega)]
theorem zxJ{r:Rl}{z:Zn}{t:Tr}(ht:zxr z t):(zxw r z t).length=z.Years.length:=by
 unfold zxw; rw[zxd,zxz ht]
theorem zxK{r:Rl}{z:Zn}(h:VZ r z){t:Tr}(ht:zxr z t){c:Int}:ztL r z t c=some (decide (zxH z.First (zxw r z t)=c)):=by
 have h6:=h.y6;have hl:=zxJ (r:=r) ht;unfold ztL;rw[zxE h ht,obs,if_pos rfl]
 by_cases h0:z.Years.length=0
 ·rw[if_pos (show((zxw r z t).length:Int)=0 by omega)];have:zxw r z t=[]:=List.eq_nil_of_length_eq_zero (by omega);rw[this]; rfl
 ·rw[if_neg (show ¬ ((zxw r z t).length:Int)=0 by omega),zqs (fI (show -9223372036854775808<=((zxw r z t).length:Int) - 1/\((zxw r z t).length:Int) - 1 < 9223372036854775808 by omega)),show idx (zxw r z t,(0:Int)).1 (((zxw r z t).length:Int) - 1)=_ from zxI (show 0 < (zxw r z t).length by omega) z.First,obs]
theorem zxL{r:Rl}{z:Zn}(h:VZ r z){t:Tr}(ht:¬ zxr z t){c:Int}:ztL r z t c=some false:=by
 unfold ztL;rw[zxF h ht,obs,if_neg (by decide)]
theorem zxM{r:Rl}{z:Zn}(h1:r.Price.length<=1000)(h2:z.Years.length<=1000)(h:zwz r z ≠ 0){t:Tr}{c:Int}:ztL r z t c=some false:=by
 unfold ztL;rw[zxG h1 h2 h,obs,if_neg h]
def zxN(ks:List Int):Prop:=∀k∈ks,0<=k/\k < 4
theorem zxO{r:Rl}(h:zww r){ks:List Int}(hk:zxN ks)(hl:ks.length<=1000){s:Stt}(hs:SOk r s)(hs0:s.since=r.Rest):∀(i d:Nat) (m:Int),i<=ks.length->i < d->0<=m->m<=10 ->
  zsi r ks d m ((i:Int) - 1)=some (decide (r.Rest<=(zw7 r s (ks.take i)).since+m))
 | 0,0,_,_,h,_,_=>by omega
 | 0,d+1,m,_,_,hm,_=>by
  rw[zsi,if_neg (by omega)];refine congrArg some (decide_eq_true ?_).symm
  show r.Rest<=s.since+m
  omega
 | i+1,0,_,_,h,_,_=>by omega
 | i+1,d+1,m,hi,hd,hm,hm2=>by
  have hr:=h.rest;have hg:=List.getElem?_eq_getElem (show i < ks.length by omega);have hx:=hk _ (List.getElem_mem (show i < ks.length by omega));have hs1:=zw9 h (ks.take i) hs;have ih:=fun m hm hm2=>zxO h hk hl hs hs0 i d m (by omega) (by omega) hm hm2;rw[zxC hg];generalize zw7 r s (ks.take i)=q at hs1 ih;generalize ks[i]=x at hg hx;unfold SOk at hs1;rw[zsi,if_pos (by omega)];rw[show((i+1:Nat):Int) - 1=(i:Int) by omega]
  by_cases hmr:m < r.Rest
  ·rw[if_pos hmr,zry hg,obs]
   by_cases h2:x=2
   ·subst h2;rw[if_pos rfl];refine congrArg some (decide_eq_false ?_).symm
    show ¬ r.Rest<=(0:Int)+m
    omega
   ·rw[if_neg h2,obs]
    by_cases h0:0 < x
    ·rw[if_pos h0,zqs (fI (by omega)),zqs (fI (by omega)),ih (m+1) (by omega) (by omega)];refine congrArg some (decide_eq_decide.2 ?_)
     have e:(step r x q).since=min (q.since+1) r.Rest:=by
      unfold step;rw[if_neg h2]
      by_cases h1:x=1
      ·rw[if_pos h1]
      ·rw[if_neg h1,if_pos (by omega)]
     rw[e]
     omega
    ·rw[if_neg h0,zqs (fI (by omega)),ih m hm hm2]
     have e:step r x q=q:=by
      unfold step;rw[if_neg h2,if_neg (by omega),if_neg (by omega)]
     rw[e]
  ·rw[if_neg hmr];refine congrArg some (decide_eq_true ?_).symm;have:=(zw6 h x hs1).2.1
   omega
theorem zxP{r:Rl}(h:zww r){ks:List Int}(hk:zxN ks)(hl:ks.length<=1000){s:Stt}(hs:SOk r s)(hs0:s.since=r.Rest):zsj r ks=some (decide ((zw7 r s ks).since=r.Rest)):=by
 unfold zsj;rw[zqs (fI (by omega))];have e:=zxO h hk hl hs hs0 ks.length 1000000 0 (by omega) (by omega) (by omega) (by omega);have hb:=(zw9 h ks hs).2;rw[List.take_length] at e;rw[e];refine congrArg some (decide_eq_decide.2 ?_)
 omega
theorem zxQ{r:Rl}{s:Stt}(hs:SOk r s)(x:Int):(step r x s).cls=if x=2 then min (s.cls+1) (r.Classes - 1) else if x=1 then (if s.since=r.Rest then max (s.cls - 1) 0 else s.cls) else s.cls:=by
 unfold step
 by_cases h2:x=2
 ·rw[if_pos h2,if_pos h2]
 rw[if_neg h2,if_neg h2]
 by_cases h1:x=1
 ·rw[if_pos h1,if_pos h1]
  show(if _ then _ else _)=_
  rw[Int.max_comm]
 rw[if_neg h1,if_neg h1]
 split <;> rfl
theorem zxR{r:Rl}(h:zww r)(hc6:r.Classes<=6){ks:List Int}(hk:zxN ks)(hl:ks.length<=1000){c:Int}(hc:0<=c/\c<=r.Classes - 1):zsl r c ks=some (zw8 r ⟨c,r.Rest⟩ ks):=by
 have hs:SOk r ⟨c,r.Rest⟩:=⟨hc,h.rest.1,Int.le_refl _⟩;unfold zsl;refine zwt (n:=ks.length) (fun d (s:Int × List Int) x=>zsk r ks d s.1 s.2 x) (fun k=>((zw7 r ⟨c,r.Rest⟩ (ks.take k)).cls,zw8 r ⟨c,r.Rest⟩ (ks.take k))) (fun d k hkl=>?_) (fun d=>?_) (ks.length+1) 0 (by omega) (by omega)
 ·have hg:=List.getElem?_eq_getElem hkl;have hsk:=zw9 h (ks.take k) hs;have hrs:=zxP h (ks:=ks.take k) (fun x hx=>hk x (List.mem_of_mem_take hx)) (by rw[List.length_take]; omega) hs rfl
  have hlen:(zw8 r ⟨c,r.Rest⟩ (ks.take k)).length < 1048576:=by rw[zxd,List.length_take]; omega
  rw[zxC hg,zxB hg,zxQ hsk];generalize zw8 r ⟨c,r.Rest⟩ (ks.take k)=acc at hlen;generalize zw7 r ⟨c,r.Rest⟩ (ks.take k)=s at hsk hrs;unfold SOk at hsk
  show zsk r ks (d+1) s.cls acc (k:Int)=_
  have e0:((ks.take (Int.toNat (k:Int))).drop (Int.toNat 0))=ks.take k:=by rw[Int.toNat_natCast]; rfl
  rw[zsk,if_pos (by omega),zry hg,obs]
  by_cases h2:ks[k]=2
  ·rw[if_pos h2,if_pos h2,zqs (fI (by omega)),zqs (fI (by omega)),obs,if_neg (by omega),zqs hlen,zqs (fI (by omega))]
  ·rw[if_neg h2,if_neg h2,obs]
   by_cases h1:ks[k]=1
   ·rw[if_pos h1,if_pos h1,zqs ⟨by omega,by omega,by omega⟩,e0,hrs,obs]
    by_cases hr:s.since=r.Rest
    ·rw[decide_eq_true hr,if_pos rfl,if_pos hr,zqs (fI (by omega)),zqs hlen,zqs (fI (by omega))]
    ·rw[decide_eq_false hr,if_neg (by decide),if_neg hr,zqs hlen,zqs (fI (by omega))]
   ·rw[if_neg h1,if_neg h1,zqs hlen,zqs (fI (by omega))]
 ·show zsk r ks (d+1) _ _ _=_
  rw[zsk,if_neg (Int.lt_irrefl _),List.take_length]
theorem zxS{r:Rl}{z:Zn}{t:Tr}:zxN (ktN r z t):=by
 unfold ktN;generalize z.Years=ys;generalize t.Losses=us;generalize t.Premiums=vs;intro k hk
 induction ys generalizing us vs with
 | nil=>cases hk
 | cons y ys ih=>
  cases us with
  | nil=>cases hk
  | cons a us=>
   cases vs with
   | nil=>cases hk
   | cons b vs=>
    rcases List.mem_cons.1 hk with rfl | hk
    ·exact zwR r y a b
    ·exact ih us vs hk
theorem zxT{r:Rl}{z:Zn}(h:VZ r z){t:Tr}(ht:zxr z t):zsn r z t=some (zxw r z t):=by
 have h6:=h.y6;have hl:=zxz (r:=r) ht;refine zwt (n:=z.Years.length) (fun d (s:List Int) x=>zsm r z t d s x) (fun k=>(ktN r z t).take k) (fun d k hk=>?_) (fun d=>?_) 1000000 0 (by omega) (by omega)
 ·obtain⟨y,a,b,hy,ha,hb,_,ha2,hb2⟩:=zxy h ht hk
  show zsm r z t (d+1) _ _=_
  rw[zsm,if_pos (by omega),zry hy,obs,zry ha,obs,zry hb,obs,zwU h.full.rl ha2 hb2,obs,zqs (by rw[List.length_take]; omega),zqs (fI (by omega)),zxe (zxA hy ha hb)]
 ·show zsm r z t (d+1) _ _=_
  rw[zsm,if_neg (Int.lt_irrefl _),List.take_of_length_le (by omega),zxR h.full.rl h.c6 zxS (by omega) h.full.first,obs]; rfl
def kl(p:P4):List Int:=(if p.p0=true then [0] else [])++((if p.p1=true then [1] else [])++((if p.p2=true then [2] else [])++if p.p3=true then [3] else []))
theorem zxU{p:P4}{k:Int}(h:k∈kl p):0<=k/\k < 4:=by
 unfold kl at h
 simp only[List.mem_append] at h
 rcases h with h | h | h | h <;> split at h <;> first | cases h; done | (rw[List.mem_singleton] at h; omega)
theorem zxV{f:Nat->Bool}{k:Int}:k∈kl (mkP f)↔(0<=k/\k < 4)/\f k.toNat=true:=by
 constructor
 ·intro h;refine⟨zxU h,?_⟩;unfold kl mkP at h
  simp only[List.mem_append] at h
  rcases h with h | h | h | h <;> split at h <;> first | (cases h; done) | (rename_i q; rw[List.mem_singleton] at h; rw[h]; exact q)
 ·rintro⟨hk,h⟩
  unfold kl mkP
  simp only[List.mem_append]
  have:k=0\/k=1\/k=2\/k=3:=by omega
  rcases this with rfl | rfl | rfl | rfl
  ·exact .inl (by rw[if_pos (show f 0=true from h)]; exact List.mem_singleton.2 rfl)
  ·exact .inr (.inl (by rw[if_pos (show f 1=true from h)]; exact List.mem_singleton.2 rfl))
  ·exact .inr (.inr (.inl (by rw[if_pos (show f 2=true from h)]; exact List.mem_singleton.2 rfl)))
  ·exact .inr (.inr (.inr (by rw[if_pos (show f 3=true from h)]; exact List.mem_singleton.2 rfl)))
theorem zxW{p:P4}{d:Nat}{i:Nat}{b:Bool}{l:List Int}(hi:i < 4)(hb:([p.p0,p.p1,p.p2,p.p3]:List Bool)[i]? = some b)(h:zs7 p d ((i:Int)+1)=some l):zs7 p (d+1) (i:Int)=some ((if b=true then [(i:Int)] else [])++l):=by
 rw[zs7,if_pos (by omega),zry hb,obs,zqs (fI (by omega)),h]
 cases b <;> rfl
theorem zxX{p:P4}:zs9 p=some (kl p):=by
 have h4:zs7 p (0+1) (((3:Nat):Int)+1)=some []:=by rw[zs7,if_neg (by omega)]
 have h3:=zxW (i:=3) (by omega) rfl h4;have h2:=zxW (i:=2) (by omega) rfl h3;have h1:=zxW (i:=1) (by omega) rfl h2;have h0:=zxW (i:=0) (by omega) rfl h1;unfold zs9 zs8;have h0:zs7 p (Int.toNat 4+1) 0=_:=h0;rw[h0,obs,List.append_nil]; rfl
def zxY(cs:List P4):List (List Int):=cs.foldl (fun all p=>all.flatMap fun l=>(kl p).map fun k=>l++[k]) [[]]
theorem zxZ(cs:List P4)(p:P4):zxY (cs++[p])=(zxY cs).flatMap fun l=>(kl p).map fun k=>l++[k]:=by
 unfold zxY;rw[List.foldl_append]; rfl
theorem zx0{cs:List P4}{p:P4}{l:List Int}:l∈zxY (cs++[p])↔∃l' k,l'∈zxY cs/\k∈kl p/\l=l'++[k]:=by
 rw[zxZ,List.mem_flatMap]
 constructor
 ·rintro⟨l',h1,h2⟩
  obtain⟨k,h3,h4⟩:=List.mem_map.1 h2;exact⟨l',k,h1,h3,h4.symm⟩
 ·rintro⟨l',k,h1,h2,rfl⟩
  exact⟨l',h1,List.mem_map.2 ⟨k,h2,rfl⟩⟩
theorem zx1{α:Type}{l:List α}{k:Nat}{x:α}(h:l[k]? = some x):l.take (k+1)=l.take k++[x]:=by rw[List.take_add_one,h]; rfl
def Fit(ks:List Int)(cs:List P4):Prop:=ks.length=cs.length/\∀(i:Nat) (k:Int) (p:P4),ks[i]? = some k->cs[i]? = some p->k∈kl p
theorem zx2{cs:List P4}{p:P4}{l:List Int}:Fit l (cs++[p])↔∃l' k,Fit l' cs/\k∈kl p/\l=l'++[k]:=by
 unfold Fit
 constructor
 ·rintro⟨h1,h2⟩
  rw[List.length_append] at h1
  simp only[List.length_cons,List.length_nil] at h1
  have hl:cs.length < l.length:=by omega
  have hg:=List.getElem?_eq_getElem hl;refine⟨l.take cs.length,l[cs.length],⟨by rw[List.length_take]; omega,fun i k q hi hq=>?_⟩,h2 cs.length _ p hg (by rw[List.getElem?_append_right (Nat.le_refl _),Nat.sub_self]; rfl),?_⟩
  ·have hi':=(List.getElem?_eq_some_iff.1 hq).1;rw[List.getElem?_take,if_pos hi'] at hi;exact h2 i k q hi (by rw[List.getElem?_append_left hi']; exact hq)
  ·rw[<- zx1 hg,List.take_of_length_le (by omega)]
 ·rintro⟨l',k,⟨h1,h2⟩,h3,rfl⟩
  refine⟨by rw[List.length_append,List.length_append,h1]; rfl,fun i k' q hi hq=>?_⟩
  rcases Nat.lt_or_ge i cs.length with h4 | h4
  ·rw[List.getElem?_append_left (by omega)] at hi;rw[List.getElem?_append_left h4] at hq;exact h2 i k' q hi hq
  ·have h5:=(List.getElem?_eq_some_iff.1 hq).1;rw[List.length_append] at h5
   simp only[List.length_cons,List.length_nil] at h5
   have e:i=cs.length:=by omega
   subst e;rw[List.getElem?_append_right (Nat.le_refl _),Nat.sub_self] at hq;rw[<- h1,List.getElem?_append_right (Nat.le_refl _),Nat.sub_self] at hi
   cases hq; cases hi; exact h3
theorem zx3:∀(cs:List P4) {l:List Int},l∈zxY cs↔Fit l cs:=by
 have key:∀(n:Nat) (cs:List P4),cs.length=n->∀{l:List Int},l∈zxY cs↔Fit l cs:=by
  intro n
  induction n with
  | zero=>
   intro cs h l;rw[List.eq_nil_of_length_eq_zero h]
   show l∈[[]]↔_
   rw[List.mem_singleton];exact⟨fun h=>by rw[h]; exact⟨rfl,fun i k p hi=>by simp at hi⟩,fun h=>List.eq_nil_of_length_eq_zero h.1⟩
  | succ n ih=>
   intro cs h l;have hg:=List.getElem?_eq_getElem (show n < cs.length by omega)
   have e:cs=cs.take n++[cs[n]]:=by rw[<- zx1 hg,List.take_of_length_le (by omega)]
   rw[e,zx0,zx2];exact exists_congr fun l'=>exists_congr fun k=>and_congr_left fun _=>ih _ (by rw[List.length_take]; omega)
 intro cs;exact key cs.length cs rfl
def nx(r:Rl)(p:P4)(q:Stt):List Stt:=(kl p).map fun k=>step r k q
def zx4(r:Rl)(s:Stt)(cs:List P4):List Stt:=(zxY cs).map (zw7 r s)
theorem zx5{r:Rl}{s q:Stt}{cs:List P4}:q∈zx4 r s cs↔∃ks,Fit ks cs/\zw7 r s ks=q:=by
 unfold zx4;rw[List.mem_map];exact exists_congr fun ks=>and_congr_left fun _=>zx3 cs
theorem zx6{r:Rl}{s q:Stt}{cs:List P4}{p:P4}:q∈zx4 r s (cs++[p])↔∃q',q'∈zx4 r s cs/\q∈nx r p q':=by
 rw[zx5]
 constructor
 ·rintro⟨ks,h1,h2⟩
  obtain⟨l',k,h3,h4,rfl⟩:=zx2.1 h1;rw[zxb] at h2;exact⟨_,zx5.2 ⟨l',h3,rfl⟩,List.mem_map.2 ⟨k,h4,h2⟩⟩
 ·rintro⟨q',h1,h2⟩
  obtain⟨l',h3,rfl⟩:=zx5.1 h1;obtain⟨k,h4,h5⟩:=List.mem_map.1 h2;exact⟨l'++[k],zx2.2 ⟨l',k,h3,h4,rfl⟩,by rw[zxb]; exact h5⟩
theorem zx7{r:Rl}(h:zww r){s:Stt}(hs:SOk r s){cs:List P4}:∀q∈zx4 r s cs,SOk r q:=fun q hq=>by
 obtain⟨ks,_,rfl⟩:=zx5.1 hq;exact zw9 h ks hs
open Classical in
def mL(l:List Stt):Option (Stt->Option Bool):=some fun q=>if q∈l then some true else none
theorem zx8{l l':List Stt}(h:∀q,q∈l↔q∈l'):mL l=mL l':=by
 unfold mL
 congr 1
 funext q
 by_cases hq:q∈l
 ·rw[if_pos hq,if_pos ((h q).1 hq)]
 ·rw[if_neg hq,if_neg fun h'=>hq ((h q).2 h')]
theorem zx9:mL []=some fun _=>none:=by
 unfold mL
 congr 1
theorem zya{l:List Stt}{q:Stt}(h:q∈l):zqG (mL l) q=some true:=if_pos h
theorem zyb{l:List Stt}{q:Stt}:zqG (mL l) q ≠ none↔q∈l:=by
 constructor
 ·intro h
  by_cases hq:q∈l
  ·exact hq
  ·exact absurd (show zqG (mL l) q=none from if_neg hq) h
 ·intro h;rw[zya h]; simp
open Classical in
theorem zyc{l:List Stt}{q:Stt}:zqH (mL l) q true=some (mL (l++[q])):=by
 show some (some _)=some (some _)
 congr 2
 funext j
 by_cases hj:j=q
 ·rw[if_pos hj,if_pos (by rw[hj]; simp)]
 ·rw[if_neg hj]
  show(if j∈l then some true else none)=if j∈l++[q] then some true else none
  by_cases h2:j∈l
  ·rw[if_pos h2,if_pos (List.mem_append_left _ h2)]
  ·rw[if_neg h2,if_neg fun h=>(List.mem_append.1 h).elim h2 fun h=>hj (List.mem_singleton.1 h)]
theorem SOk.fit{r:Rl}(h:zww r)(hc:r.Classes<=6){q:Stt}(hq:SOk r q):MK.fit q:=by
 have:=h.rest;unfold SOk at hq
 show zl6 .i64 q.cls/\zl6 .i64 q.since/\True
 exact⟨fI (by omega),fI (by omega),trivial⟩
theorem zyd{α:Type}:∀l:List α,∃ks:List α,ks.Nodup/\∀k,k∈ks↔k∈l
 | []=>⟨[],List.nodup_nil,fun _=>Iff.rfl⟩
 | a::l=>by
  obtain⟨ks,h1,h2⟩:=zyd l
  by_cases h:a∈ks
  ·refine⟨ks,h1,fun k=>?_⟩;rw[h2,List.mem_cons];exact⟨.inr,fun hk=>hk.elim (fun he=>by rw[he]; exact(h2 a).1 h) id⟩
  ·exact⟨a::ks,List.nodup_cons.2 ⟨h,h1⟩,fun k=>by rw[List.mem_cons,List.mem_cons,h2]⟩
theorem zye{r:Rl}(h:zww r)(hc:r.Classes<=6){l:List Stt}(hl:∀q∈l,SOk r q){R:Type}{g:List Stt->Option R}{v:R}(hg:∀ks,(∀q,q∈ks↔q∈l)->g ks=some v):zrd (mL l) g=some v:=by
 obtain⟨ks0,h1,h2⟩:=zyd l;have hk:∀ks:List Stt,zrc (mL l) ks->∀q,q∈ks↔q∈l:=fun ks hks q=>(hks.2 q).trans ⟨fun hq=>zyb.1 hq.2,fun hq=>⟨(hl q hq).fit h hc,zyb.2 hq⟩⟩;exact zrf (ks0:=ks0) ⟨h1,fun q=>(h2 q).trans ⟨fun hq=>⟨(hl q hq).fit h hc,zyb.2 hq⟩,fun hq=>zyb.1 hq.2⟩⟩ fun ks hks=>hg ks (hk ks hks)
theorem zyf{w:Wk}(h:zww w.r)(hc:w.r.Classes<=6)(hw:w.kinds=zxf){q:Stt}(hq:SOk w.r q){rest:List Stt}{K:Option (Stt->Option Bool)->List Stt->Option (Option (Stt->Option Bool))}:∀(ks:List Int) (A:List Stt),zxN ks ->
  zti w q rest K ks (mL A)=K (mL (A++ks.map fun k=>step w.r k q)) rest
 | [],A,_=>by rw[zti,List.map_nil,List.append_nil]
 | k::ks,A,hk=>by
  rw[zti,hw];have hkb:=hk k (List.mem_cons_self ..);have ih:=zyf h hc hw hq (rest:=rest) (K:=K) ks (A++[step w.r k q]) fun x hx=>hk x (List.mem_cons_of_mem _ hx);refine(zxx h hc hq hkb (G:=fun s=>gd (MK.fit s) ((zqH (mL A) s true).bind fun w'=>zti w q rest K ks w'))).trans ?_
  show gd (MK.fit (step w.r k q)) _=_
  rw[zqs ((zw6 h k hq).fit h hc),zyc,obs,ih,List.append_assoc]; rfl
theorem zyg{w:Wk}(h:zww w.r)(hc:w.r.Classes<=6)(hw:w.kinds=zxf){l:List Stt}(hl:∀q∈l,SOk w.r q){i:Nat}{p:P4}(hi:w.can[i]? = some p):∀(n d:Nat) (rem A:List Stt),rem.length=n->n < d->(∀q∈rem,q∈l) ->
  ztj w (mL l) (i:Int) d (mL A) rem=some (mL (A++rem.flatMap (nx w.r p)))
 | n,0,_,_,_,h,_=>by omega
 | n,d+1,rem,A,hn,hd,hr=>by
  rw[ztj];refine zrj (fun l1 a l2 he=>?_) fun he=>?_
  ·have ha:=hr a (by rw[he]; simp);rw[zya ha,obs,zry hi,obs,zxX,obs,zyf h hc hw (hl a ha) _ _ fun k hk=>zxU hk]
   have hlen:(l1++l2).length+1=n:=by rw[<- hn,he]; simp; omega
   rw[zyg h hc hw hl hi ((l1++l2).length) d (l1++l2) _ rfl (by omega) fun q hq=>hr q (by rw[he]; rcases List.mem_append.1 hq with h1 | h1 <;> simp[h1])]
   congr 1
   refine zx8 fun q=>?_;rw[he]
   simp only[List.mem_append,List.mem_flatMap,List.mem_cons]
   show(q∈A\/q∈nx w.r p a)\/_↔_
   constructor
   ·rintro ((h1 | h1) | ⟨b,h1,h2⟩)
    ·exact .inl h1
    ·exact .inr ⟨a,.inr (.inl rfl),h1⟩
    ·exact .inr ⟨b,h1.elim .inl fun h=>.inr (.inr h),h2⟩
   ·rintro (h1 | ⟨b,h1,h2⟩)
    ·exact .inl (.inl h1)
    ·rcases h1 with h1 | rfl | h1
     ·exact .inr ⟨b,.inl h1,h2⟩
     ·exact .inl (.inr h2)
     ·exact .inr ⟨b,.inr h1,h2⟩
  ·subst he;rw[List.flatMap_nil,List.append_nil]
theorem zyh{w:Wk}(h:zww w.r)(hc:w.r.Classes<=6)(hw:w.kinds=zxf){l:List Stt}(hl:∀q∈l,SOk w.r q){i:Nat}{p:P4}(hi:w.can[i]? = some p):ztk w (mL l) (i:Int)=some (mL (l.flatMap (nx w.r p))):=by
 unfold ztk;refine zye h hc hl fun ks hks=>?_;rw[<- zx9,zyg h hc hw hl hi ks.length (ks.length+1) ks [] rfl (by omega) fun q hq=>(hks q).1 hq,List.nil_append]
 congr 1
 refine zx8 fun q=>?_
 simp only[List.mem_flatMap]
 exact exists_congr fun a=>and_congr_left fun _=>hks a
theorem zyi{w:Wk}(h:zww w.r)(hc:w.r.Classes<=6)(hw:w.kinds=zxf)(hf:SOk w.r ⟨w.zone.First,w.r.Rest⟩){n:Nat}(hn:n<=w.can.length)(hn2:n<=1000):ztm w (n:Int)=some (mL (zx4 w.r ⟨w.zone.First,w.r.Rest⟩ (w.can.take n))):=by
 unfold ztm ztf;rw[obs,zqs (hf.fit h hc),<- zx9,zyc,obs];refine zwt (n:=n) (fun d (s:Option (Stt->Option Bool)) x=>ztl w (n:Int) d s x) (fun k=>mL (zx4 w.r ⟨w.zone.First,w.r.Rest⟩ (w.can.take k))) (fun d k hk=>?_) (fun d=>?_) (Int.toNat (n:Int)+1) 0 (by omega) (by omega)
 ·have hg:=List.getElem?_eq_getElem (show k < w.can.length by omega)
  show ztl w (n:Int) (d+1) _ _=_
  rw[ztl,if_pos (by omega),zyh h hc hw (zx7 h hf) hg,obs,zqs (fI (by omega))]
  congr 1
  refine zx8 fun q=>?_;rw[zx1 hg,zx6,List.mem_flatMap]
 ·show ztl w (n:Int) (d+1) _ _=_
  rw[ztl,if_neg (Int.lt_irrefl _)]
def mkC(f:Nat->Bool):C6:=⟨f 0,f 1,f 2,f 3,f 4,f 5⟩
theorem zyj{f g:Nat->Bool}(h:∀k,k < 6->(f k=true↔g k=true)):mkC f=mkC g:=by
 have e:∀k,k < 6->f k=g k:=fun k hk=>Bool.eq_iff_iff.2 (h k hk);unfold mkC;rw[e 0 (by omega),e 1 (by omega),e 2 (by omega),e 3 (by omega),e 4 (by omega),e 5 (by omega)]
theorem zyk{f:Nat->Bool}{k:Nat}(hk:k < 6):([(mkC f).c0,(mkC f).c1,(mkC f).c2,(mkC f).c3,(mkC f).c4,(mkC f).c5]:List Bool)[k]? = some (f k):=by
 match k,hk with
 | 0,_=>rfl
 | 1,_=>rfl
 | 2,_=>rfl
 | 3,_=>rfl
 | 4,_=>rfl
 | 5,_=>rfl
def clB(l:List Stt)(c:Nat):Bool:=l.any fun q=>q.cls == (c:Int)
theorem zyl{l:List Stt}{c:Nat}:clB l c=true↔∃q∈l,q.cls=(c:Int):=by
 unfold clB;rw[List.any_eq_true];exact exists_congr fun q=>and_congr_right fun _=>beq_iff_eq
theorem zym{r:Rl}(hc:r.Classes<=6){l:List Stt}(hl:∀q∈l,SOk r q):∀(n d:Nat) (rem:List Stt) (f:Nat->Bool),rem.length=n->n < d->(∀q∈rem,q∈l) ->
  ztd (mL l) d (f 0) (f 1) (f 2) (f 3) (f 4) (f 5) rem=some (mkC fun c=>f c || clB rem c)
 | n,0,_,_,_,h,_=>by omega
 | n,d+1,rem,f,hn,hd,hr=>by
  rw[ztd];refine zrj (fun l1 a l2 he=>?_) fun he=>?_
  ·have ha:=hr a (by rw[he]; simp);have hb:=(hl a ha).1
   have hlen:(l1++l2).length+1=n:=by rw[<- hn,he]; simp; omega
   rw[zya ha,obs,zqs ⟨hb.1,by omega⟩,zwV f hb.1,zwV f hb.1,zwV f hb.1,zwV f hb.1,zwV f hb.1,zwV f hb.1]
   rw[zym hc hl ((l1++l2).length) d (l1++l2) (upF f a.cls.toNat true) rfl (by omega) fun q hq=>hr q (by rw[he]; rcases List.mem_append.1 hq with h1 | h1 <;> simp[h1])]
   congr 1
   refine zyj fun k _=>?_;rw[Bool.or_eq_true,Bool.or_eq_true,zwW,zyl,zyl,he]
   simp only[List.mem_append,List.mem_cons]
   constructor
   ·rintro ((h1 | h1) | ⟨b,h1,h2⟩)
    ·exact .inl h1
    ·exact .inr ⟨a,.inr (.inl rfl),by omega⟩
    ·exact .inr ⟨b,h1.elim .inl fun h=>.inr (.inr h),h2⟩
   ·rintro (h1 | ⟨b,h1,h2⟩)
    ·exact .inl (.inl h1)
    ·rcases h1 with h1 | rfl | h1
     ·exact .inr ⟨b,.inl h1,h2⟩
     ·exact .inl (.inr (by omega))
     ·exact .inr ⟨b,.inr h1,h2⟩
  ·subst he
   show some (mkC f)=_
   congr 1
   exact zyj fun k _=>by rw[Bool.or_eq_true]; exact⟨.inl,fun h=>h.elim id fun h=>by cases h⟩
theorem zyn{r:Rl}(h:zww r)(hc:r.Classes<=6){l:List Stt}(hl:∀q∈l,SOk r q):zte (mL l)=some (mkC (clB l)):=by
 unfold zte;refine zye h hc hl fun ks hks=>?_;have e:=zym hc hl ks.length (ks.length+1) ks (fun _=>false) rfl (by omega) fun q hq=>(hks q).1 hq;have e:ztd (mL l) (ks.length+1) false false false false false false ks=_:=e;rw[e]
 congr 1
 refine zyj fun k _=>?_;rw[Bool.or_eq_true,zyl,zyl];exact⟨fun h=>h.elim (fun h=>by cases h) fun⟨q,h1,h2⟩=>⟨q,(hks q).1 h1,h2⟩,fun⟨q,h1,h2⟩=>.inr ⟨q,(hks q).2 h1,h2⟩⟩
def zyo(f:Nat->Bool)(n:Nat):List Int:=((List.range n).filter f).map fun c:Nat=>(c:Int)
theorem zyp(f:Nat->Bool)(n:Nat):zyo f (n+1)=zyo f n++if f n=true then [(n:Int)] else []:=by
 unfold zyo;rw[List.range_succ,List.filter_append,List.map_append]
 congr 1
 cases h:f n <;> simp[h]
theorem zyq{f:Nat->Bool}{n:Nat}{x:Int}:x∈zyo f n↔0<=x/\x < n/\f x.toNat=true:=by
 unfold zyo;rw[List.mem_map]
 constructor
 ·rintro⟨c,hc,rfl⟩
  rw[List.mem_filter,List.mem_range] at hc;exact⟨by omega,by omega,hc.2⟩
 ·rintro⟨h1,h2,h3⟩
  exact⟨x.toNat,List.mem_filter.2 ⟨List.mem_range.2 (by omega),h3⟩,by omega⟩
theorem zyr(f:Nat->Bool)(n:Nat):(zyo f n).length<=n:=by
 unfold zyo;rw[List.length_map];exact Nat.le_trans (List.length_filter_le _ _) (by rw[List.length_range]; exact Nat.le_refl _)
theorem zys{f:Nat->Bool}:zs6 (mkC f)=some (zyo f 6):=by
 unfold zs6;refine zwt (n:=6) (fun d (s:List Int) x=>zs5 (mkC f) d s x) (fun k=>zyo f k) (fun d k hk=>?_) (fun d=>?_) (Int.toNat 6+1) 0 (by omega) (by show 6 - 0 < 6+1; omega)
 ·show zs5 (mkC f) (d+1) _ _=_
  have:=zyr f k;rw[zs5,if_pos (by omega),zry (zyk hk),obs,zyp]
  cases f k with
  | true=>rw[if_pos rfl,if_pos rfl,zqs (by omega),zqs (fI (by omega))]
  | false=>rw[if_neg (by decide),if_neg (by decide),zqs (fI (by omega)),List.append_nil]
 ·show zs5 (mkC f) (d+1) _ _=_
  rw[zs5,if_neg (by omega)]
def zyt(r:Rl)(z:Zn)(n:Nat):List Stt:=zx4 r (st0 r z) ((zxl r z).can.take n)
theorem zyu{r:Rl}{z:Zn}(h:VZ r z){n:Nat}:∀q∈zyt r z n,SOk r q:=zx7 h.full.rl h.st0
theorem zyv{r:Rl}{z:Zn}(h:VZ r z){i:Nat}(hi:i < z.Years.length):ztG r z (i:Int)=some (zyo (clB (zyt r z (i+1))) 6,0):=by
 have h6:=h.y6;unfold ztG;rw[zxp h (by omega),obs,if_pos rfl,zqs (fI (by omega)),show(i:Int)+1=((i+1:Nat):Int) by omega];have e:ztm (zxl r z) ((i+1:Nat):Int)=some (mL (zyt r z (i+1))):=zyi (w:=zxl r z) h.full.rl h.c6 rfl h.st0 (n:=i+1) (by show i+1<=(z.Years.map _).length; rw[List.length_map]; omega) (by omega)
 show(ztm (zxl r z) _).bind _=_
 rw[e,obs,zyn (r:=r) (l:=zyt r z (i+1)) h.full.rl h.c6 (zyu h),obs,zys,obs]
end
end Go.Proofs.Ytlpjlgmoaipoiaa

namespace Go.Proofs.Ytlpjlgmoaipoiaa
open _root_.Go.Proofs.Try
open Go.Abs
set_option maxRecDepth 100000
noncomputable section
theorem zyw{c:Int}(hc:0<=c/\c < 6):zs4 c=some (mkC fun k=>decide ((k:Int)=c)):=by
 unfold zs4;rw[zqs hc]
 have e:∀k:Nat,sti c k true false=decide ((k:Int)=c):=fun k=>by
  unfold sti
  by_cases h:c=(k:Int)
  ·rw[if_pos h,decide_eq_true h.symm]
  ·rw[if_neg h,decide_eq_false fun h'=>h h'.symm]
 rw[e,e,e,e,e,e]; rfl
def mvB(l:List Stt)(c:Int):Bool:=l.any fun q=>q.cls != c
def syB(l:List Stt)(c:Int):Bool:=l.any fun q=>q.cls == c
theorem zyx{l:List Stt}{c:Int}:mvB l c=true↔∃q∈l,q.cls ≠ c:=by
 unfold mvB;rw[List.any_eq_true];exact exists_congr fun q=>and_congr_right fun _=>bne_iff_ne
theorem zyy{l:List Stt}{c:Int}:syB l c=true↔∃q∈l,q.cls=c:=by
 unfold syB;rw[List.any_eq_true];exact exists_congr fun q=>and_congr_right fun _=>beq_iff_eq
theorem zyz{r:Rl}(hc6:r.Classes<=6){l:List Stt}(hl:∀q∈l,SOk r q)(hne:l ≠ []){c:Int}(hc:0<=c/\c < 6) :
  (!(((mkC (clB l)).c0 == (mkC fun k=>decide ((k:Int)=c)).c0) && (((mkC (clB l)).c1 == (mkC fun k=>decide ((k:Int)=c)).c1) && (((mkC (clB l)).c2 == (mkC fun k=>decide ((k:Int)=c)).c2) && (((mkC (clB l)).c3 == (mkC fun k=>decide ((k:Int)=c)).c3) && (((mkC (clB l)).c4 == (mkC fun k=>decide ((k:Int)=c)).c4) && ((mkC (clB l)).c5 == (mkC fun k=>decide ((k:Int)=c)).c5)))))))=mvB l c:=by
 have e:(((mkC (clB l)).c0 == (mkC fun k=>decide ((k:Int)=c)).c0) && (((mkC (clB l)).c1 == (mkC fun k=>decide ((k:Int)=c)).c1) && (((mkC (clB l)).c2 == (mkC fun k=>decide ((k:Int)=c)).c2) && (((mkC (clB l)).c3 == (mkC fun k=>decide ((k:Int)=c)).c3) && (((mkC (clB l)).c4 == (mkC fun k=>decide ((k:Int)=c)).c4) && ((mkC (clB l)).c5 == (mkC fun k=>decide ((k:Int)=c)).c5))))))=true↔∀k:Nat,k < 6->clB l k=decide ((k:Int)=c):=by
  simp only[Bool.and_eq_true,beq_iff_eq]
  constructor
  ·rintro⟨h0,h1,h2,h3,h4,h5⟩ k hk
   match k,hk with
   | 0,_=>exact h0
   | 1,_=>exact h1
   | 2,_=>exact h2
   | 3,_=>exact h3
   | 4,_=>exact h4
   | 5,_=>exact h5
  ·intro h;exact⟨h 0 (by omega),h 1 (by omega),h 2 (by omega),h 3 (by omega),h 4 (by omega),h 5 (by omega)⟩
 rw[Bool.eq_iff_iff,Bool.not_eq_true',<- Bool.not_eq_true,e,zyx]
 constructor
 ·intro h;refine Classical.byContradiction fun hn=>h fun k hk=>?_;have hall:∀q∈l,q.cls=c:=fun q hq=>Classical.byContradiction fun h'=>hn ⟨q,hq,h'⟩;rw[Bool.eq_iff_iff,zyl,decide_eq_true_eq]
  constructor
  ·rintro⟨q,h1,h2⟩; rw[<- h2]; exact hall q h1
  ·intro h1;obtain⟨q,hq⟩:=List.exists_mem_of_ne_nil l hne;exact⟨q,hq,by rw[hall q hq,h1]⟩
 ·rintro⟨q,hq,hne⟩ h
  have hb:=(hl q hq).1;have h8:=h q.cls.toNat (by omega);rw[Bool.eq_iff_iff,zyl,decide_eq_true_eq] at h8;exact hne ((Int.toNat_of_nonneg hb.1).symm.trans (h8.1 ⟨q,hq,(Int.toNat_of_nonneg hb.1).symm⟩))
def zyA(m s:Bool):Int:=if s=true then (if m=true then 3 else 2) else 1
theorem zyB{r:Rl}{y:Yr}(hy:zwu y):kl (mkP (kB r y)) ≠ []:=by
 obtain⟨⟨h1,h2,h3,h4⟩,⟨h5,h6,h7,h8⟩,_⟩:=hy;have hb:=zwR r y y.Losses.Lo y.Premiums.Lo;have:kN r y y.Losses.Lo y.Premiums.Lo∈kl (mkP (kB r y)):=zxV.2 ⟨hb,zw1.2 ⟨_,_,⟨Int.le_refl _,h2⟩,⟨Int.le_refl _,h6⟩,by omega⟩⟩;intro h
 rw[h] at this; cases this
theorem zyC{w:Wk}(h:zww w.r)(hc:w.r.Classes<=6)(hw:w.kinds=zxf){l:List Stt}(hl:∀q∈l,SOk w.r q){i:Nat}{p:P4}(hi:w.can[i]? = some p)(hp:kl p ≠ []):∀(n d:Nat) (rem:List Stt) (b1 b2:Bool),rem.length=n->n < d->(∀q∈rem,q∈l) ->
  ztn w (i:Int) (mL l) d b1 b2 rem=some (zyA (b1 || rem.any fun q=>mvB (nx w.r p q) q.cls) (b2 || rem.any fun q=>syB (nx w.r p q) q.cls))
 | n,0,_,_,_,_,h,_=>by omega
 | n,d+1,rem,b1,b2,hn,hd,hr=>by
  rw[ztn];refine zrj (fun l1 a l2 he=>?_) fun he=>?_
  ·have ha:=hr a (by rw[he]; simp);have hs:=hl a ha;have hb:=hs.1
   have hlen:(l1++l2).length+1=n:=by rw[<- hn,he]; simp; omega
   have hnx:∀q∈nx w.r p a,SOk w.r q:=fun q hq=>by
    obtain⟨k,_,rfl⟩:=List.mem_map.1 hq;exact zw6 h k hs
   have hne:nx w.r p a ≠ []:=by
    unfold nx;intro h';exact hp (List.map_eq_nil_iff.1 h')
   have ih:=fun b1 b2=>zyC h hc hw hl hi hp ((l1++l2).length) d (l1++l2) b1 b2 rfl (by omega) fun q hq=>hr q (by rw[he]; rcases List.mem_append.1 hq with h1 | h1 <;> simp[h1])
   have ef:ztk w (mL [a]) (i:Int)=some (mL (nx w.r p a)):=by
    have:=zyh h hc hw (l:=[a]) (fun q hq=>by rw[List.mem_singleton.1 hq]; exact hs) hi;rw[this]
    congr 1
    exact zx8 fun q=>by simp
   rw[zya ha,obs,zqs (hs.fit h hc),<- zx9,zyc,obs,List.nil_append,ef,obs,zyn h hc hnx,obs]
   have hsy:idx ([(mkC (clB (nx w.r p a))).c0,(mkC (clB (nx w.r p a))).c1,(mkC (clB (nx w.r p a))).c2,(mkC (clB (nx w.r p a))).c3,(mkC (clB (nx w.r p a))).c4,(mkC (clB (nx w.r p a))).c5]:List Bool) a.cls=some (syB (nx w.r p a) a.cls):=by
    have e0:a.cls=((a.cls.toNat:Nat):Int):=by omega
    rw[e0,zry (zyk (by omega)),<- e0]
    congr 1
    rw[Bool.eq_iff_iff,zyl,zyy,<- e0]
   have hm:(!(((mkC (clB (nx w.r p a))).c0 == (mkC fun k=>decide ((k:Int)=a.cls)).c0) && (((mkC (clB (nx w.r p a))).c1 == (mkC fun k=>decide ((k:Int)=a.cls)).c1) && (((mkC (clB (nx w.r p a))).c2 == (mkC fun k=>decide ((k:Int)=a.cls)).c2) && (((mkC (clB (nx w.r p a))).c3 == (mkC fun k=>decide ((k:Int)=a.cls)).c3) && (((mkC (clB (nx w.r p a))).c4 == (mkC fun k=>decide ((k:Int)=a.cls)).c4) && ((mkC (clB (nx w.r p a))).c5 == (mkC fun k=>decide ((k:Int)=a.cls)).c5)))))))=mvB (nx w.r p a) a.cls:=zyz hc hnx hne (by omega)
   have any_e:∀(g:Stt->Bool),rem.any g=(g a || (l1++l2).any g):=fun g=>by
    rw[he,List.any_append,List.any_cons,List.any_append]
    cases l1.any g <;> cases g a <;> cases l2.any g <;> rfl
   rw[any_e,any_e]
   cases b1 with
   | true=>
    rw[if_pos rfl]
    cases b2 with
    | true=>rw[if_pos rfl,ih,Bool.true_or,Bool.true_or,Bool.true_or,Bool.true_or]
    | false=>rw[if_neg (by decide),hsy,obs,ih,Bool.true_or,Bool.true_or,Bool.false_or]
   | false=>
    rw[if_neg (by decide),zyw (by omega),obs]
    cases b2 with
    | true=>rw[if_pos rfl,hm,ih,Bool.true_or,Bool.true_or,Bool.false_or]
    | false=>rw[if_neg (by decide),hsy,obs,hm,ih,Bool.false_or,Bool.false_or]
  ·subst he;rw[List.any_nil,List.any_nil,Bool.or_false,Bool.or_false];unfold zyA
   cases b1 <;> cases b2 <;> rfl
def zyD(r:Rl)(z:Zn)(i:Nat)(p:P4):Int:=zyA ((zyt r z i).any fun q=>mvB (nx r p q) q.cls) ((zyt r z i).any fun q=>syB (nx r p q) q.cls)
theorem zyE{r:Rl}{z:Zn}{i:Nat}{y:Yr}(h:z.Years[i]? = some y):(zxl r z).can[i]? = some (mkP (kB r y)):=by
 show(z.Years.map _)[i]? = _
 rw[List.getElem?_map,h]; rfl
theorem zyF{l l':List Stt}(h:∀q,q∈l↔q∈l')(g:Stt->Bool):l.any g=l'.any g:=by
 rw[Bool.eq_iff_iff,List.any_eq_true,List.any_eq_true];exact exists_congr fun q=>and_congr_left fun _=>h q
theorem zyG{r:Rl}{z:Zn}(h:VZ r z){i:Nat}{y:Yr}(hi:z.Years[i]? = some y):ztH r z (i:Int)=some (zyD r z i (mkP (kB r y)),0):=by
 have h6:=h.y6;have hil:=(List.getElem?_eq_some_iff.1 hi).1;unfold ztH;rw[zxp h (by omega),obs,if_pos rfl];have e:ztm (zxl r z) (i:Int)=some (mL (zyt r z i)):=zyi (w:=zxl r z) h.full.rl h.c6 rfl h.st0 (n:=i) (by show i<=(z.Years.map _).length; rw[List.length_map]; omega) (by omega)
 show(zto (zxl r z) _).bind _=_
 unfold zto;rw[e,obs]
 have e2:zrd (mL (zyt r z i)) (fun ks=>ztn (zxl r z) (i:Int) (mL (zyt r z i)) (ks.length+1) false false ks)=some (zyD r z i (mkP (kB r y))):=by
  refine zye h.full.rl h.c6 (zyu h) fun ks hks=>?_;rw[zyC (w:=zxl r z) h.full.rl h.c6 rfl (zyu h) (zyE hi) (zyB (h.full.ys y (List.mem_of_getElem? hi))) ks.length (ks.length+1) ks false false rfl (by omega) fun q hq=>(hks q).1 hq,Bool.false_or,Bool.false_or,zyF hks,zyF hks]; rfl
 rw[e2,obs]
theorem zyH{l:List Int}(h:l ≠ [])(hl:l.length<=1048577):zsv l=some (zrK l):=by
 unfold zsv
 cases l with
 | nil=>exact absurd rfl h
 | cons x l=>
  rw[if_neg (by rw[List.length_cons]; omega),zrz rfl,obs];refine(zrJ (l:=x::l) (fun s a=>min s a) (fun d s k=>zsu (x::l) d s k) (fun s=>some s) (fun d k s a hk=>?_) (fun d s=>?_) _ 0 x (Nat.zero_le _) (by omega)).trans ?_
  ·have hkl:=(List.getElem?_eq_some_iff.1 hk).1
   show zsu (x::l) (d+1) s (k:Int)=_
   rw[zsu,if_pos (by omega),zry hk,obs]
   by_cases hc:a < s
   ·rw[if_pos hc,zqs (fI (by omega)),Int.min_eq_right (by omega)]
   ·rw[if_neg hc,zqs (fI (by omega)),Int.min_eq_left (by omega)]
  ·show zsu (x::l) (d+1) s _=_
   rw[zsu,if_neg (Int.lt_irrefl _)]
  ·rw[List.drop_zero]
   show some (l.foldl min (min x x))=_
   rw[Int.min_self]; rfl
theorem zyI{l:List Int}(h:l ≠ [])(hl:l.length<=1048577):zsx l=some (zrL l):=by
 unfold zsx
 cases l with
 | nil=>exact absurd rfl h
 | cons x l=>
  rw[if_neg (by rw[List.length_cons]; omega),zrz rfl,obs];refine(zrJ (l:=x::l) (fun s a=>max s a) (fun d s k=>zsw (x::l) d s k) (fun s=>some s) (fun d k s a hk=>?_) (fun d s=>?_) _ 1 x (by rw[List.length_cons]; omega) (by rw[List.length_cons]; omega)).trans ?_
  ·have hkl:=(List.getElem?_eq_some_iff.1 hk).1
   show zsw (x::l) (d+1) s (k:Int)=_
   rw[zsw,if_pos (by omega),zry hk,obs,zqs (fI (by omega))]
  ·show zsw (x::l) (d+1) s _=_
   rw[zsw,if_neg (Int.lt_irrefl _)]
  ·rfl
theorem zyJ(f:Nat->Bool)(n:Nat):(zyo f n).Pairwise (· < ·):=by
 unfold zyo;rw[List.pairwise_map]
 exact(List.pairwise_lt_range.filter _).imp fun h=>by omega
theorem zyK{L:List Int}(h:L.Pairwise (· < ·)){i j:Nat}{a c:Int}(hi:L[i]? = some a)(hj:L[j]? = some c)(hij:i<=j):a<=c:=by
 obtain⟨h1,rfl⟩:=List.getElem?_eq_some_iff.1 hi;obtain⟨h2,rfl⟩:=List.getElem?_eq_some_iff.1 hj
 rcases Nat.lt_or_eq_of_le hij with h3 | rfl
 ·exact Int.le_of_lt (List.pairwise_iff_getElem.1 h i j h1 h2 h3)
 ·exact Int.le_refl _
def zyL(r:Rl)(c:Int):Int:=(r.Price[c.toNat]?).getD 0
theorem zyM{r:Rl}(h:zww r){c:Int}(hc:0<=c/\c<=r.Classes - 1):idx r.Price c=some (zyL r c):=by
 have:=h.pl;unfold zyL;rw[show idx r.Price c=r.Price[c.toNat]? from if_pos hc.1,List.getElem?_eq_getElem (by omega)]; rfl
theorem zyN{r:Rl}(h:zww r):∀(j i:Nat),i<=j->j < r.Price.length->zyL r (i:Int)<=zyL r (j:Int)
 | 0,i,hi,_=>by rw[show i=0 by omega]; exact Int.le_refl _
 | j+1,i,hi,hj=>by
  rcases Nat.lt_or_eq_of_le hi with h1 | rfl
  ·have h2:=zyN h j i (by omega) (by omega);have g1:=List.getElem?_eq_getElem hj;have g0:=List.getElem?_eq_getElem (show j < r.Price.length by omega);have h3:=h.so (j+1) hj (by omega) _ _ g1 g0;unfold zyL at h2 ⊢;rw[Int.toNat_natCast,Int.toNat_natCast] at h2 ⊢;rw[g0] at h2;rw[g1]
   show _<=r.Price[j+1]
   have h2:_<=r.Price[j]:=h2
   omega
  ·exact Int.le_refl _
theorem zyO{r:Rl}(h:zww r){a b:Int}(ha:0<=a)(hab:a<=b)(hb:b<=r.Classes - 1):zyL r a<=zyL r b:=by
 have:=h.pl;have:=zyN h b.toNat a.toNat (by omega) (by omega)
 rwa [show(a.toNat:Int)=a by omega,show(b.toNat:Int)=b by omega] at this
theorem zyP{r:Rl}(hc:r.Classes<=6){l:List Stt}(hl:∀q∈l,SOk r q){c:Int}:c∈zyo (clB l) 6↔∃q∈l,q.cls=c:=by
 rw[zyq]
 constructor
 ·rintro⟨h1,h2,h3⟩
  obtain⟨q,hq,h4⟩:=zyl.1 h3;exact⟨q,hq,by omega⟩
 ·rintro⟨q,hq,rfl⟩
  have:=(hl q hq).1;exact⟨this.1,by omega,zyl.2 ⟨q,hq,by omega⟩⟩
def zyQ(r:Rl)(z:Zn)(n:Nat):List Int:=zyo (clB (zyt r z n)) 6
theorem zyR{r:Rl}{z:Zn}(h:VZ r z){n:Nat}{c:Int}:c∈zyQ r z n↔∃q∈zyt r z n,q.cls=c:=zyP h.c6 (zyu h)
theorem zyS{r:Rl}{z:Zn}(h:VZ r z){n:Nat}{c:Int}(hc:c∈zyQ r z n):0<=c/\c<=r.Classes - 1:=by
 obtain⟨q,hq,rfl⟩:=(zyR h).1 hc;exact(zyu h q hq).1
theorem zyT{r:Rl}{z:Zn}:(zxl r z).can.length=z.Years.length:=List.length_map _
theorem zyU{r:Rl}{z:Zn}(h:VZ r z):ztr (zxl r z)=some ((zyQ r z z.Years.length).map (zyL r)):=by
 have h6:=h.y6;have e:ztm (zxl r z) (z.Years.length:Int)=some (mL (zyt r z z.Years.length)):=zyi (w:=zxl r z) h.full.rl h.c6 rfl h.st0 (n:=z.Years.length) (by rw[zyT]; exact Nat.le_refl _) (by omega);unfold ztr ztp;rw[zyT,e,obs,zyn (r:=r) h.full.rl h.c6 (zyu h),obs,obs,zys,obs]
 show ztq (zxl r z) (zyQ r z z.Years.length) _ _ _=_
 have hl:(zyQ r z z.Years.length).length<=6:=zyr _ _
 exact zrD (l:=zyQ r z z.Years.length) (zyL r) (F:=fun d acc x=>ztq (zxl r z) (zyQ r z z.Years.length) d acc x) (fun acc=>some acc) (fun d k acc a hk ha=>by
  have hkl:=(List.getElem?_eq_some_iff.1 hk).1
  show ztq _ _ (d+1) _ _=_
  rw[ztq,if_pos (by omega),zry hk,obs,show idx (zxl r z).r.Price a=_ from zyM h.full.rl (zyS h (List.mem_of_getElem? hk)),obs,zqs (by omega),zqs (fI (by omega))]) (fun d acc=>by
  show ztq _ _ (d+1) _ _=_
  rw[ztq,if_neg (Int.lt_irrefl _)]) (Nat.lt_succ_self _)
theorem zyV{r:Rl}{z:Zn}(h:VZ r z){a b:Int}(ha:(zyQ r z z.Years.length)[0]? = some a)(hb:(zyQ r z z.Years.length)[(zyQ r z z.Years.length).length - 1]? = some b):ztI r z=some (⟨zyL r a,zyL r b⟩,0):=by
 unfold ztI;have hl:(zyQ r z z.Years.length).length<=6:=zyr _ _;have hs:(zyQ r z z.Years.length).Pairwise (· < ·):=zyJ _ _;have hbd:∀c∈zyQ r z z.Years.length,0<=c/\c<=r.Classes - 1:=fun c hc=>zyS h hc;rw[zxm h,obs,if_pos rfl,zyU h,obs];generalize zyQ r z z.Years.length=L at ha hb hl hs hbd
 have hne:L.map (zyL r) ≠ []:=fun he=>by
  rw[List.map_eq_nil_iff.1 he] at ha; cases ha
 rw[zyH hne (by rw[List.length_map]; omega),obs,zyI hne (by rw[List.length_map]; omega),obs];obtain⟨m1,m2⟩:=zrO hne;obtain⟨m3,m4⟩:=zrP hne;have ham:=List.mem_of_getElem? ha;have hbm:=List.mem_of_getElem? hb
 have e1:zrK (L.map (zyL r))=zyL r a:=by
  obtain⟨c,hc,he⟩:=List.mem_map.1 m1;obtain⟨i,hi⟩:=List.mem_iff_getElem?.1 hc;have h1:=zyO h.full.rl (hbd a ham).1 (zyK hs ha hi (Nat.zero_le _)) (hbd c hc).2;have h2:=m2 _ (List.mem_map.2 ⟨a,ham,rfl⟩)
  omega
 have e2:zrL (L.map (zyL r))=zyL r b:=by
  obtain⟨c,hc,he⟩:=List.mem_map.1 m3;obtain⟨i,hi⟩:=List.mem_iff_getElem?.1 hc;have hil:=(List.getElem?_eq_some_iff.1 hi).1;have h1:=zyO h.full.rl (hbd c hc).1 (zyK hs hi hb (by omega)) (hbd b hbm).2;have h2:=m4 _ (List.mem_map.2 ⟨b,hbm,rfl⟩)
  omega
 rw[e1,e2]
def zyW(r:Rl)(z:Zn)(i:Nat):Bool:=match z.Years[i]? with | some y=>decide (1 < (kl (mkP (kB r y))).length) | none=>false
theorem zyX{l:List Int}(hl:l.length<=1000):ztc l=some l:=by
 have key:∀(l acc:List Int),l.length+acc.length<=1000->zta l acc=some (acc++l):=by
  intro l
  induction l with
  | nil=>intro acc _; rw[zta,List.append_nil]
  | cons a l ih=>
   intro acc h;rw[List.length_cons] at h;rw[zta,zqs (by omega),ih (acc++[a]) (by rw[List.length_append]; show _+(acc.length+1)<=_; omega),List.append_assoc]; rfl
 unfold ztc ztb;rw[key l [] (by simpa using hl),obs]; rfl
theorem zyY(p:P4):(kl p).length<=4:=by
 unfold kl
 cases p with
 | mk a b c d=>cases a <;> cases b <;> cases c <;> cases d <;> decide
theorem zyZ{r:Rl}{z:Zn}(h:VZ r z):ztt (zxl r z)=some (zyo (zyW r z) z.Years.length):=by
 have h6:=h.y6;unfold ztt;rw[zyT];refine zwt (n:=z.Years.length) (fun d (s:List Int) x=>zts (zxl r z) d s x) (fun k=>zyo (zyW r z) k) (fun d k hk=>?_) (fun d=>?_) (z.Years.length+1) 0 (by omega) (by omega)
 ·have hg:=List.getElem?_eq_getElem hk;have hk4:=zyY (mkP (kB r z.Years[k]));have hn:=zyr (zyW r z) k
  show zts (zxl r z) (d+1) _ _=_
  rw[zts,zyT,if_pos (by omega),zry (zyE hg),obs,zxX,obs,zyX (by omega),obs,zyp]
  have e:zyW r z k=decide (1 < (kl (mkP (kB r z.Years[k]))).length):=by unfold zyW; rw[hg]
  by_cases hc:1 < (kl (mkP (kB r z.Years[k]))).length
  ·rw[if_pos (by omega),zqs (by omega),zqs (fI (by omega)),if_pos (by rw[e]; exact decide_eq_true hc)]
  ·rw[if_neg (by omega),zqs (fI (by omega)),if_neg (by rw[e,decide_eq_false hc]; decide),List.append_nil]
 ·show zts (zxl r z) (d+1) _ _=_
  rw[zts,zyT,if_neg (Int.lt_irrefl _)]
theorem zy0{r:Rl}{z:Zn}(h:VZ r z):ztJ r z=some (zyo (zyW r z) z.Years.length,0):=by
 unfold ztJ;rw[zxm h,obs,if_pos rfl,zyZ h,obs]
def zy1:P4:=⟨false,true,true,true⟩
def zy2(r:Rl)(z:Zn)(S:Nat->Bool):List P4:=z.Years.mapIdx fun i y=>if (S i && zwP r y)=true then zy1 else mkP (kB r y)
theorem zy3{r:Rl}{z:Zn}{S:Nat->Bool}{i:Nat}{y:Yr}(h:z.Years[i]? = some y):(zy2 r z S)[i]? = some (if (S i && zwP r y)=true then zy1 else mkP (kB r y)):=by
 unfold zy2;rw[List.getElem?_mapIdx,h]; rfl
theorem zy4{r:Rl}{z:Zn}{S:Nat->Bool}:(zy2 r z S).length=z.Years.length:=by
 unfold zy2;rw[List.length_mapIdx]
theorem zy5{r:Rl}{z:Zn}{S:Nat->Bool}{cs:List P4}(hl:cs.length=z.Years.length)(h:∀i y,z.Years[i]? = some y->cs[i]? = some (if (S i && zwP r y)=true then zy1 else mkP (kB r y))):cs=zy2 r z S:=by
 refine List.ext_getElem? fun i=>?_
 rcases Nat.lt_or_ge i z.Years.length with hi | hi
 ·have hg:=List.getElem?_eq_getElem hi;rw[h i _ hg,zy3 hg]
 ·rw[List.getElem?_eq_none (by omega),List.getElem?_eq_none (by rw[zy4]; exact hi)]
theorem zy6{r:Rl}{z:Zn}:(zxl r z).can=zy2 r z fun _=>false:=zy5 zyT fun i y hy=>by
 rw[zyE hy,if_neg (by simp)]
def zy7(r:Rl)(z:Zn)(S:Nat->Bool):Wk:={ r:=r,zone:=z,kinds:=zxf,can:=zy2 r z S }
theorem zy8{L:List Int}{k:Nat}{v:Int}(hv:L[k]? = some v)(j:Nat):inD (L.take (k+1)) j=(inD (L.take k) j || decide ((j:Int)=v)):=by
 unfold inD;rw[zx1 hv,Bool.eq_iff_iff,Bool.or_eq_true,decide_eq_true_eq,decide_eq_true_eq,decide_eq_true_eq,List.mem_append,List.mem_singleton]
theorem zy9{r:Rl}{z:Zn}{S:Nat->Bool}{v:Nat}{y:Yr}(hv:z.Years[v]? = some y)(hc:zwP r y=true):(zy2 r z S).set v zy1=zy2 r z fun j=>S j || decide ((j:Int)=(v:Int)):=by
 refine zy5 (by rw[List.length_set]; exact zy4) fun i y' hy=>?_
 by_cases h:v=i
 ·subst h
  rw[hv] at hy; cases hy
  rw[List.getElem?_set_self (by rw[zy4]; exact(List.getElem?_eq_some_iff.1 hv).1),decide_eq_true rfl,Bool.or_true,hc]; rfl
 ·rw[List.getElem?_set_ne h,zy3 hy,decide_eq_false (by omega),Bool.or_false]
theorem zza{r:Rl}{z:Zn}{S:Nat->Bool}{v:Nat}{y:Yr}(hv:z.Years[v]? = some y)(hc:zwP r y=false):zy2 r z S=zy2 r z fun j=>S j || decide ((j:Int)=(v:Int)):=by
 refine zy5 zy4 fun i y' hy=>?_;rw[zy3 hy]
 by_cases h:v=i
 ·subst h
  rw[hv] at hy; cases hy
  rw[hc,Bool.and_false,Bool.and_false]
 ·rw[decide_eq_false (by omega),Bool.or_false]
theorem zzb{r:Rl}{z:Zn}(h:VZ r z){L:List Int}(hL:∀v∈L,0<=v/\v < z.Years.length)(hl:L.length<=1000):ztw (zxl r z) L=some (zy7 r z (inD L)):=by
 have h6:=h.y6;unfold ztw ztu;have hcl:=zyT (r:=r) (z:=z);rw[zqs (by rw[List.length_nil]; omega),obs,List.nil_append,zy6];refine zwt (n:=L.length) (fun d (s:List P4) x=>ztv (zxl r z) L d r.Classes r.Good r.Bad r.Rest r.Fewest z.First s x) (fun k=>zy2 r z (inD (L.take k))) (fun d k hk=>?_) (fun d=>?_) (L.length+1) 0 (by omega) (by omega)
 ·have hg:=List.getElem?_eq_getElem hk;have hv:=hL _ (List.getElem_mem hk);generalize L[k]=v at hg hv;have hy:=List.getElem?_eq_getElem (show v.toNat < z.Years.length by omega)
  have ev:((v.toNat:Nat):Int)=v:=by omega
  show ztv (zxl r z) L (d+1) _ _ _ _ _ _ _ _=_
  have e1:idx (zxl r z).zone.Years v=some (z.Years[v.toNat]'(by omega)):=by
   have:=zry hy
   rwa [ev] at this
  have e2:=zy3 (r:=r) (S:=inD (L.take k)) hy;have e3:=zry e2;rw[ev] at e3
  have e4:(fun j=>inD (L.take k) j || decide ((j:Int)=((v.toNat:Nat):Int)))=inD (L.take (k+1)):=funext fun j=>by rw[zy8 hg,ev]
  rw[ztv,if_pos (by omega),zry hg,obs,e1,obs,zwQ,obs]
  show(if zwP r _=true then _ else _)=_
  by_cases hc:zwP r (z.Years[v.toNat]'(by omega))=true
  ·rw[if_pos hc]
   show((idx (zy2 r z (inD (L.take k))) v).bind _)=_
   rw[e3,obs,zqs (fI (by omega))]
   show ztv (zxl r z) L d _ _ _ _ _ _ ((zy2 r z (inD (L.take k))).set v.toNat zy1) _=_
   rw[zy9 hy hc,e4]
  ·rw[if_neg hc,zqs (fI (by omega)),<- e4,<- zza hy (by simpa using hc)]
 ·show ztv (zxl r z) L (d+1) _ _ _ _ _ _ _ _=_
  rw[ztv,if_neg (Int.lt_irrefl _),List.take_length]; rfl
def zzc(r:Rl)(z:Zn)(S:Nat->Bool)(n:Nat):List Stt:=zx4 r (st0 r z) ((zy2 r z S).take n)
theorem zzd{r:Rl}{z:Zn}(h:VZ r z){S:Nat->Bool}{n:Nat}:∀q∈zzc r z S n,SOk r q:=zx7 h.full.rl h.st0
theorem zze{r:Rl}{z:Zn}(h:VZ r z){S:Nat->Bool}:ztp (zy7 r z S)=some (mkC (clB (zzc r z S z.Years.length))):=by
 have h6:=h.y6;unfold ztp;have e:ztm (zy7 r z S) (z.Years.length:Int)=some (mL (zzc r z S z.Years.length)):=zyi (w:=zy7 r z S) h.full.rl h.c6 rfl h.st0 (n:=z.Years.length) (by show z.Years.length<=(zy2 r z S).length; rw[zy4]; exact Nat.le_refl _) (by omega);rw[show((zy7 r z S).can.length:Int)=(z.Years.length:Int) from by show((zy2 r z S).length:Int)=_; rw[zy4],e,obs,zyn (r:=r) h.full.rl h.c6 (zzd h),obs]
def zzf(r:Rl)(z:Zn)(c:Nat)(S:Nat->Bool):Bool:=clB (zzc r z S z.Years.length) c
theorem zzg{r:Rl}{z:Zn}(h:VZ r z){c:Nat}(hc:c < 6){L:List Int}(hL:Inc z.Years.length 0 L):ztz (zxl r z) (c:Int) L=some (zzf r z c (inD L)):=by
 have h6:=h.y6;have hll:=zwo hL;unfold ztz;rw[zzb h (fun v hv=>by have:=hL.2 v hv; omega) (by omega),obs,zze h,obs,zry (zyk hc)]; rfl
def zzh(r:Rl)(z:Zn)(c:Nat)(L:List Int):Bool:=zzf r z c (inD L)
theorem zzi{r:Rl}{z:Zn}(h:VZ r z){c:Nat}(hc:c < 6):ztA (zxl r z) (c:Int)=some (zrp z.Years.length (zzh r z c),((zoi z.Years.length).find? (zzh r z c)).isSome):=by
 have h6:=h.y6;unfold ztA;rw[zyT,zqs ⟨by omega,fun L hL=>by rw[zzg h hc (zwp.1 hL)]; rfl⟩]
 have e:∀L∈zoi z.Years.length,((ztz (zxl r z) (c:Int) L).getD false)=zzh r z c L:=fun L hL=>by rw[zzg h hc (zwp.1 hL)]; rfl
 have e2:(zoi z.Years.length).find? (fun L=>(ztz (zxl r z) (c:Int) L).getD false)=(zoi z.Years.length).find? (zzh r z c):=by
  have key:∀l:List (List Int),(∀L∈l,((ztz (zxl r z) (c:Int) L).getD false)=zzh r z c L)->l.find? (fun L=>(ztz (zxl r z) (c:Int) L).getD false)=l.find? (zzh r z c):=by
   intro l
   induction l with
   | nil=>intro _; rfl
   | cons a l ih=>
    intro hl;rw[List.find?_cons,List.find?_cons,hl a (List.mem_cons_self ..),ih fun L hL=>hl L (List.mem_cons_of_mem _ hL)]
  exact key _ e
 unfold zrp;rw[e2]
theorem zzj{r:Rl}(h:zww r)(hc:r.Classes<=6){c:Int}:Ev (zsQ r c) (0<=c/\c<=r.Classes - 1):=by
 have:=h.c0;unfold zsQ;refine Ev.gd (fI (by omega)) ?_;exact(show Ev (zsr ⟨0,r.Classes - 1⟩ c) _ from zwB).ret
theorem zzk{r:Rl}{z:Zn}(h:VZ r z){c:Nat}(hc:(c:Int)<=r.Classes - 1)(hn:∀L,Inc z.Years.length 0 L->zzh r z c L=false):ztK r z (c:Int)=some ([],7):=by
 have hc6:=h.c6;unfold ztK;rw[zxm h,obs,if_pos rfl,(zzj h.full.rl h.c6).some_of ⟨by omega,hc⟩,obs,if_pos rfl,zzi h (by omega),obs]
 have e:(zoi z.Years.length).find? (zzh r z c)=none:=List.find?_eq_none.2 fun L hL=>by rw[hn L (zwp.1 hL)]; decide
 rw[e]; rfl
theorem zzl{r:Rl}{z:Zn}(h:VZ r z){c:Nat}(hc:(c:Int)<=r.Classes - 1)(hn:∃L,Inc z.Years.length 0 L/\zzh r z c L=true):ztK r z (c:Int)=some (zrp z.Years.length (zzh r z c),0):=by
 have hc6:=h.c6;unfold ztK;rw[zxm h,obs,if_pos rfl,(zzj h.full.rl h.c6).some_of ⟨by omega,hc⟩,obs,if_pos rfl,zzi h (by omega),obs];obtain⟨L,h1,h2⟩:=hn
 have e:((zoi z.Years.length).find? (zzh r z c)).isSome=true:=by
  rw[List.find?_isSome];exact⟨L,zwp.2 h1,h2⟩
 rw[e]; rfl
theorem zzm{a b:List Int}(hl:a.length<=1000):∀(d k:Nat),k<=a.length->a.length - k < d->zso a b d (k:Int)=some (bef (a.drop k) (b.drop k))
 | 0,_,_,h=>by omega
 | d+1,k,hk,h=>by
  rw[zso]
  by_cases hka:k < a.length
  ·rw[if_pos (by omega)];have da:=List.drop_eq_getElem_cons hka;have ga:=List.getElem?_eq_getElem hka
   by_cases hkb:k < b.length
   ·have db:=List.drop_eq_getElem_cons hkb;have gb:=List.getElem?_eq_getElem hkb;rw[if_pos (by omega),zry ga,obs,zry gb,obs,da,db];unfold bef
    by_cases he:a[k]=b[k]
    ·rw[if_pos he,if_pos he,zqs (fI (by omega)),show(k:Int)+1=((k+1:Nat):Int) by omega];exact zzm hl d (k+1) (by omega) (by omega)
    ·rw[if_neg he,if_neg he,obs,obs]
   ·rw[if_neg (by omega),da,List.drop_eq_nil_of_le (show b.length<=k by omega),decide_eq_false (by omega)]; rfl
  ·rw[if_neg (by omega),List.drop_eq_nil_of_le (show a.length<=k by omega)]
   by_cases hkb:k < b.length
   ·rw[List.drop_eq_getElem_cons hkb,decide_eq_true (by omega)]; rfl
   ·rw[List.drop_eq_nil_of_le (show b.length<=k by omega),decide_eq_false (by omega)]; rfl
theorem zzn{a b:List Int}(hl:a.length<=1000):zsp a b=some (bef a b):=zzm hl (a.length+1) 0 (Nat.zero_le _) (by omega)
theorem zzo{a b:List Int}(ha:a.length<=1000):Ev (zsq a b) (a=b):=by
 unfold zsq
 by_cases hl:a.length=b.length
 ·rw[if_pos (by omega),zzn ha,obs]
  rcases zws a b with h | h | h
  ·subst h;rw[zwq,if_neg (by decide),zzn ha,zwq,obs]; exact Ev.tt rfl
  ·rw[h,if_pos rfl]
   exact Ev.ff fun he=>by subst he; rw[zwq] at h; cases h
  ·rw[zwr h,if_neg (by decide),zzn (by omega),h,obs]
   exact Ev.ff fun he=>by subst he; rw[zwq] at h; cases h
 ·rw[if_neg (by omega)]; exact Ev.ff fun he=>hl (by rw[he])
theorem zzp{a:List Int}(ha:a.length<=1000):zsq a a=some true:=(zzo ha).some_of rfl
theorem zzq{l:List Int}(hl:l.length<=1000):ztM l=some l:=by
 unfold ztM;rw[zqs (by rw[List.length_nil]; omega)]; rfl
theorem zzr{r:Rl}(h:r.Price.length<=1000):ztO r=some r:=by
 unfold ztO;rw[zzq h,obs]
theorem zzs{z:Zn}(h:z.Years.length<=1000):ztQ z=some z:=by
 unfold ztQ
 exact(zrD (l:=z.Years) id (F:=fun d acc x=>ztP z d z.First acc x) (fun acc=>some ({ First:=z.First,Years:=acc }:Zn)) (fun d k acc a hk ha=>by
  have hkl:=(List.getElem?_eq_some_iff.1 hk).1
  show ztP z (d+1) _ _ _=_
  rw[ztP,if_pos (by omega),zry hk,obs]
  show gd _ _=_
  rw[zqs (by omega),zqs (fI (by omega))]; rfl) (fun d acc=>by
  show ztP z (d+1) _ _ _=_
  rw[ztP,if_neg (Int.lt_irrefl _)]) (d:=1000000) (by omega)).trans (by rw[List.map_id])
theorem zzt{t:Tr}(h1:t.Losses.length<=1000)(h2:t.Premiums.length<=1000):ztR t=some t:=by
 unfold ztR;rw[zzq h1,obs,zzq h2,obs]
theorem zzu{r:Rl}{z:Zn}:Ev (ztS r z) (r.Price.length<=9/\z.Years.length<=9):=by
 unfold ztS;exact(Ev.ite fun _=>Ev.dec Iff.rfl).imp (by omega)
theorem zzv{r:Rl}{z:Zn}(h1:r.Price.length<=1000)(h2:z.Years.length<=1000):ztT r z=some (zwz r z):=by
 unfold ztT;rw[zwO h1 h2,obs]
def zzw:Rl:={ Classes:=4,Good:=40,Bad:=120,Rest:=1,Fewest:=5,Price:=[10,20,40,80] }
def yrN(a b c d p:Int):Yr:={ Losses:=⟨a,b⟩,Premiums:=⟨c,d⟩,Parcels:=p,Exempt:=false }
def zzx:Zn:={ First:=1,Years:=[yrN 50 50 100 102 9,yrN 130 131 108 109 9,yrN 10 10 100 100 3,yrN 30 30 100 100 9,yrN 39 41 100 100 9] }
theorem zzy:ztV=some zzw:=rfl
theorem zzz:ztW=some zzx:=rfl
theorem zzA{r:Rl}{z:Zn}(h1:1<=r.Classes/\r.Classes<=6)(h2:(r.Price.length:Int)=r.Classes)(h3:0<=r.Good/\r.Good<=r.Bad/\r.Bad<=300)(h4:0<=r.Rest/\r.Rest<=4)(h5:0<=r.Fewest/\r.Fewest<=100)(h6:∀x∈r.Price,1<=x/\x<=10000)(h7:r.Price.Pairwise (·<=·))(h8:0<=z.First/\z.First<=r.Classes - 1)(h9:∀y∈z.Years,zwu y)(h10:z.Years.length<=6):VZ r z:=
 ⟨⟨⟨h1.1,h2,h3,h4,h5,h6,fun j hj h0 x y hx hy=>by
  obtain⟨q1,rfl⟩:=List.getElem?_eq_some_iff.1 hx;obtain⟨q2,rfl⟩:=List.getElem?_eq_some_iff.1 hy;have:=List.pairwise_iff_getElem.1 h7 (j - 1) j q2 q1 (by omega)
  omega⟩,h8,h9⟩,h1.2,h10⟩
instance (r:Rg):Decidable (RgP r):=by unfold RgP; infer_instance
instance (y:Yr):Decidable (zwu y):=by unfold zwu; infer_instance
theorem vEx:VZ zzw zzx:=zzA (by decide) (by decide) (by decide) (by decide) (by decide) (by decide) (by decide) (by decide) (by decide) (by decide)
theorem zzB:zyo (clB (zyt zzw zzx 4)) 6=[0,2]:=by decide +kernel
theorem zzC:zyQ zzw zzx 5=[0,1,2]:=by decide +kernel
theorem zzD:zyD zzw zzx 0 (mkP (kB zzw (yrN 50 50 100 102 9)))=2:=by decide +kernel
theorem zzE:zyD zzw zzx 3 (mkP (kB zzw (yrN 30 30 100 100 9)))=3:=by decide +kernel
theorem zzF:zyo (zyW zzw zzx) 5=[1,4]:=by decide +kernel
theorem zzG:zzh zzw zzx 3 [0]=true:=by decide +kernel
theorem zzH:zrp 5 (zzh zzw zzx 3)=[0]:=by decide +kernel
theorem zzI:ztX=some true:=by
 have e1:ztG zzw zzx 3=some ([0,2],0):=(zyv vEx (i:=3) (by decide)).trans (by rw[zzB]);have e2:ztG zzw zzx 4=some ([0,1,2],0):=(zyv vEx (i:=4) (by decide)).trans (by rw[show zyo (clB (zyt zzw zzx (4+1))) 6=[0,1,2] from zzC]);have e3:ztH zzw zzx 0=some (2,0):=(zyG vEx (i:=0) (y:=yrN 50 50 100 102 9) rfl).trans (by rw[zzD]);have e4:ztH zzw zzx 3=some (3,0):=(zyG vEx (i:=3) (y:=yrN 30 30 100 100 9) rfl).trans (by rw[zzE]);have e5:ztI zzw zzx=some (⟨10,40⟩,0):=(zyV vEx (a:=0) (b:=2) (by rw[show zyQ zzw zzx zzx.Years.length=[0,1,2] from zzC]; rfl) (by rw[show zyQ zzw zzx zzx.Years.length=[0,1,2] from zzC]; rfl)).trans rfl;have e6:ztJ zzw zzx=some ([1,4],0):=(zy0 vEx).trans (by rw[show zyo (zyW zzw zzx) zzx.Years.length=[1,4] from zzF]);have e7:ztK zzw zzx 3=some ([0],0):=(zzl vEx (c:=3) (by decide) ⟨[0],⟨by decide,fun v hv=>by rw[List.mem_singleton.1 hv]; decide⟩,zzG⟩).trans (by rw[show zrp zzx.Years.length (zzh zzw zzx 3)=[0] from zzH]);have s1:zsq [0,2] [0,2]=some true:=zzp (by decide);have s2:zsq [0,1,2] [0,1,2]=some true:=zzp (by decide);have s3:zsq [1,4] [1,4]=some true:=zzp (by decide);have s4:zsq [0] [0]=some true:=zzp (by decide);have b1:ztU 10 40=some ⟨10,40⟩:=rfl;unfold ztX
 simp only[zzy,zzz,obs,e1,e2,e3,e4,e5,e6,e7,s1,s2,s3,s4,b1,if_true]
 rw[zqs (fI (by decide)),zqs (fI (by decide)),zqs (fI (by decide)),zqs (fI (by decide))]
 simp
theorem aw:(ztX.bind fun r=>some r)=some true:=by rw[zzI]; rfl
theorem nl(x:Int):((([]:List Int),x).1.length:Int)=0:=rfl
theorem zzJ{r:Rl}{z:Zn}{t:Tr}{c:Int}(_:zr4 r)(_:zr7 z)(_:zr8 t)(_:zl6 .i64 c):ztY r z t c=some true:=by
 unfold ztY
 refine zzu.pick (fun ht=>?_) fun _=>by rw[if_neg (by decide)]; exact aw
 rw[if_pos rfl]
 by_cases c1:9 < t.Losses.length
 ·rw[if_pos (by omega)]; exact aw
 rw[if_neg (by omega)]
 by_cases c2:9 < t.Premiums.length
 ·rw[if_pos (by omega)]; exact aw
 rw[if_neg (by omega)]
 have h1:r.Price.length<=1000:=by omega
 have h2:z.Years.length<=1000:=by omega
 rw[zzr h1,obs,zzs h2,obs,zzt (by omega) (by omega),obs]
 by_cases hf:zwz r z=0
 ·have hv:=zwA.1 hf
  by_cases hT:zxr z t
  ·have hs:(zxw r z t).length<=1000:=by rw[zxJ hT]; exact h2
   rw[zxE hv hT,obs,obs,obs,obs,zxK hv hT,obs,zzv h1 h2,obs,obs,obs,zwL h1 h2,obs,if_pos rfl,if_pos hf,(zxt h2).some_of hT,obs,if_pos rfl,zxT hv hT,obs]
   by_cases hp:0 < (zxw r z t).length
   ·rw[if_pos (by omega),zqs (fI (by omega)),zxI hp z.First,obs,if_pos rfl,zzp hs,obs,if_pos rfl,if_pos (by simp)]; exact aw
   ·have e:zxH z.First (zxw r z t)=z.First:=by rw[List.eq_nil_of_length_eq_zero (show(zxw r z t).length=0 by omega)]; rfl
    rw[if_neg (by omega),if_pos rfl,zzp hs,obs,if_pos rfl,e,if_pos (by simp)]; exact aw
  ·rw[zxF hv hT,obs,obs,obs,obs,zxL hv hT,obs,zzv h1 h2,obs,obs,obs,zwL h1 h2,obs,if_pos rfl,if_pos hf,(zxt h2).some_not hT,obs,if_neg (by decide),if_pos rfl,if_pos (nl _),if_neg (by decide)]; exact aw
 ·rw[zxG h1 h2 hf,obs,obs,obs,obs,zxM h1 h2 hf,obs,zzv h1 h2,obs,obs,obs,zwL h1 h2,obs,if_pos rfl,if_neg hf,if_pos rfl,if_pos (nl _),if_neg (by decide)]; exact aw
end
end Go.Proofs.Ytlpjlgmoaipoiaa

namespace Go.Proofs.Ytlpjlgmoaipoiaa
open _root_.Go.Proofs.Try
open Go.ChangeShapes Go.WideShapes Go.ChangeAt Go.RowKit Go.Abs
set_option maxRecDepth 100000
theorem op3:zrR prog 3 Int (zl6 .i64):=zrS (by kernel_rfl)
theorem zzK:zrR prog 22 (List Int) (fun l=>l.length<=maxLen/\∀a0∈l,zl6 .i64 a0):=zrV (by kernel_rfl) (by kernel_rfl) op3
theorem zzL:zrR prog 24 Rl zr4:=zr0 (fs:=[(3,0),(3,1),(3,2),(3,3),(3,4),(22,5)]) (by kernel_rfl) (by kernel_rfl) (zrZ (α:=Int) (ok:=zl6 .i64) (k:=1) op3 (by kernel_rfl) rfl (zrZ (α:=Int) (ok:=zl6 .i64) (k:=1) op3 (by kernel_rfl) rfl (zrZ (α:=Int) (ok:=zl6 .i64) (k:=1) op3 (by kernel_rfl) rfl (zrZ (α:=Int) (ok:=zl6 .i64) (k:=1) op3 (by kernel_rfl) rfl (zrZ (α:=Int) (ok:=zl6 .i64) (k:=1) op3 (by kernel_rfl) rfl (zrZ (α:=List Int) (ok:=(fun l=>l.length<=maxLen/\∀a0∈l,zl6 .i64 a0)) (k:=1) zzK (by kernel_rfl) rfl zrY)))))) (by kernel_rfl) fun m vs h=>by
 obtain⟨a0,c0,r0,m0,h0,p0,k0,s0,⟨a1,c1,r1,m1,h1,p1,k1,s1,⟨a2,c2,r2,m2,h2,p2,k2,s2,⟨a3,c3,r3,m3,h3,p3,k3,s3,⟨a4,c4,r4,m4,h4,p4,k4,s4,⟨a5,c5,r5,m5,h5,p5,k5,s5,rfl⟩⟩⟩⟩⟩⟩:=h;have p0:c0=[.int .i64 a0]:=p0; subst p0;have p1:c1=[.int .i64 a1]:=p1; subst p1;have p2:c2=[.int .i64 a2]:=p2; subst p2;have p3:c3=[.int .i64 a3]:=p3; subst p3;have p4:c4=[.int .i64 a4]:=p4; subst p4;obtain⟨d5,rfl,p5⟩:=p5;subst h5 h4 h3 h2 h1 h0;exact⟨⟨a0,a1,a2,a3,a4,a5⟩,⟨_,rfl,p5⟩,⟨k0,k1,k2,k3,k4,k5⟩⟩
theorem zzM:zrR prog 63 Rg zr2:=zr0 (fs:=[(3,0),(3,1)]) (by kernel_rfl) (by kernel_rfl) (zrZ (α:=Int) (ok:=zl6 .i64) (k:=1) op3 (by kernel_rfl) rfl (zrZ (α:=Int) (ok:=zl6 .i64) (k:=1) op3 (by kernel_rfl) rfl zrY)) (by kernel_rfl) fun m vs h=>by
 obtain⟨a0,c0,r0,m0,h0,p0,k0,s0,⟨a1,c1,r1,m1,h1,p1,k1,s1,rfl⟩⟩:=h;have p0:c0=[.int .i64 a0]:=p0; subst p0;have p1:c1=[.int .i64 a1]:=p1; subst p1;subst h1 h0;exact⟨⟨a0,a1⟩,rfl,⟨k0,k1⟩⟩
theorem op4:zrR prog 4 Bool (fun _=>True):=zrT (by kernel_rfl)
theorem zzN:zrR prog 75 Yr zr5:=zr0 (fs:=[(63,0),(63,2),(3,4),(4,5)]) (by kernel_rfl) (by kernel_rfl) (zrZ (α:=Rg) (ok:=zr2) (k:=2) zzM (by kernel_rfl) rfl (zrZ (α:=Rg) (ok:=zr2) (k:=2) zzM (by kernel_rfl) rfl (zrZ (α:=Int) (ok:=zl6 .i64) (k:=1) op3 (by kernel_rfl) rfl (zrZ (α:=Bool) (ok:=(fun _=>True)) (k:=1) op4 (by kernel_rfl) rfl zrY)))) (by kernel_rfl) fun m vs h=>by
 obtain⟨a0,c0,r0,m0,h0,p0,k0,s0,⟨a1,c1,r1,m1,h1,p1,k1,s1,⟨a2,c2,r2,m2,h2,p2,k2,s2,⟨a3,c3,r3,m3,h3,p3,k3,s3,rfl⟩⟩⟩⟩:=h;have p0:c0=[.int .i64 a0.Lo,.int .i64 a0.Hi]:=p0; subst p0;have p1:c1=[.int .i64 a1.Lo,.int .i64 a1.Hi]:=p1; subst p1;have p2:c2=[.int .i64 a2]:=p2; subst p2;have p3:c3=[.bool a3]:=p3; subst p3;subst h3 h2 h1 h0;exact⟨⟨a0,a1,a2,a3⟩,rfl,⟨k0,k1,k2,k3⟩⟩
theorem zzO:zrR prog 25 (List Yr) (fun l=>l.length<=maxLen/\∀a0∈l,zr5 a0):=zrV (by kernel_rfl) (by kernel_rfl) zzN
theorem zzP:zrR prog 27 Zn zr7:=zr0 (fs:=[(3,0),(25,1)]) (by kernel_rfl) (by kernel_rfl) (zrZ (α:=Int) (ok:=zl6 .i64) (k:=1) op3 (by kernel_rfl) rfl (zrZ (α:=List Yr) (ok:=(fun l=>l.length<=maxLen/\∀a0∈l,zr5 a0)) (k:=1) zzO (by kernel_rfl) rfl zrY)) (by kernel_rfl) fun m vs h=>by
 obtain⟨a0,c0,r0,m0,h0,p0,k0,s0,⟨a1,c1,r1,m1,h1,p1,k1,s1,rfl⟩⟩:=h;have p0:c0=[.int .i64 a0]:=p0; subst p0;obtain⟨d1,rfl,p1⟩:=p1;subst h1 h0;exact⟨⟨a0,a1⟩,⟨_,rfl,p1⟩,⟨k0,k1⟩⟩
theorem zzQ:zrR prog 29 Tr zr8:=zr0 (fs:=[(22,0),(22,1)]) (by kernel_rfl) (by kernel_rfl) (zrZ (α:=List Int) (ok:=(fun l=>l.length<=maxLen/\∀a0∈l,zl6 .i64 a0)) (k:=1) zzK (by kernel_rfl) rfl (zrZ (α:=List Int) (ok:=(fun l=>l.length<=maxLen/\∀a0∈l,zl6 .i64 a0)) (k:=1) zzK (by kernel_rfl) rfl zrY)) (by kernel_rfl) fun m vs h=>by
 obtain⟨a0,c0,r0,m0,h0,p0,k0,s0,⟨a1,c1,r1,m1,h1,p1,k1,s1,rfl⟩⟩:=h;obtain⟨d0,rfl,p0⟩:=p0;obtain⟨d1,rfl,p1⟩:=p1;subst h1 h0;exact⟨⟨a0,a1⟩,⟨_,_,rfl,p0,p1⟩,⟨k0,k1⟩⟩
theorem zzR:laidOutB prog=true:=by kernel_rfl
theorem zzS:ownKnob prog.godebug=none:=by kernel_rfl
theorem zzT(os:Os)(started:os.Started)(H:Type)(enc:TypeId × Value->H) :
    ReturnsInHanded {} Try.checked os 3 .any (Rows.zonePlaysSpec.pre6 enc Try.prog Try.f3 Rows.zonePlaysRow.domain false) (Rows.zonePlaysSpec.post enc Try.prog Try.f3 false true false false):=by
  refine returnsInHanded_of_change (C:=Try.checked) zzS started (by kernel_rfl) Try.func3
    (ChangeSpec.witness6 (enc:=enc) (C:=Try.checked) false ⟨#[],#[.agg #[.int .i64 0,.int .i64 0,.int .i64 0,.int .i64 0,.int .i64 0,.slice none 0 0],.agg #[.int .i64 0,.slice none 0 0],.agg #[.slice none 0 0,.slice none 0 0],.int .i64 0],[]⟩ 8 (by kernel_rfl) (by kernel_rfl) (by kernel_rfl) (by kernel_rfl)) ?_
  intro W base args ds gs before hval0 hW hcnd _;have hval:∀(j:Nat) t v,Try.f3.params[j]? = some t->args[j]? = some v->Value.okWide Try.prog W .any base t v:=hval0;have hW':=hW;obtain⟨p,q,hA0,hV,rfl,hfz,hnd⟩:=hW;have hA:DataW.TrodAll enc Try.prog W 0 (fun _=>true) true Try.f3.params.toList args.toList ds p:=hA0;rw[Try.params3] at hA hval;obtain⟨v0,v1,v2,v3,d0,d1,d2,d3,p0,p1,p2,p3,rfl,rfl,rfl,h0,h1,h2,h3⟩:=trodAll_four hA;obtain⟨rfl,rfl⟩:=trodVars_none hV;obtain⟨n3,hv3⟩:=okWide_int Try.underlying3 (hval 3 3 v3 rfl rfl)
  have hlt:∀x∈p0++p1++p2++p3,x.block < W.heap.size:=fun x hx=>by simpa using hW'.lt x (by simpa using hx)
  obtain⟨fu0,hf0⟩:=id h0;obtain⟨fu1,hf1⟩:=id h1;obtain⟨fu2,hf2⟩:=id h2;obtain⟨fu3,hf3⟩:=id h3
  clear hA0 hval0
  obtain⟨e0,m0,w0,a_0,le0,sv0,lay0,cr0,zvx,ok0⟩:=zzL H enc W true _ _ _ hf0 _ _ (Lay.nil W);obtain⟨e1,m1,w1,a_1,le1,sv1,lay1,cr1,rep1,ok1⟩:=zzP H enc W true _ _ _ hf1 e0 m0 lay0;obtain⟨e2,m2,w2,a_2,le2,sv2,lay2,cr2,rep2,ok2⟩:=zzQ H enc W true _ _ _ hf2 e1 m1 lay1;obtain⟨e3,m3,w3,a_3,le3,sv3,lay3,cr3,rep3,ok3⟩:=op3 H enc W true _ _ _ hf3 e2 m2 lay2;obtain⟨c0_5,rfl,g0_5⟩:=zvx
  obtain⟨cs0,hv0,cl0⟩:∃cs,v0=.agg cs/\v0.cells.toList=cs.toList:=by
    have hl:=cr0.length
    cases v0 with
    | agg cs=>exact⟨cs,rfl,rfl⟩
    | _=>exact absurd hl (by simp[Value.cells])
  subst hv0;obtain⟨c1_1,rfl,g1_1⟩:=rep1
  obtain⟨cs1,hv1,cl1⟩:∃cs,v1=.agg cs/\v1.cells.toList=cs.toList:=by
    have hl:=cr1.length
    cases v1 with
    | agg cs=>exact⟨cs,rfl,rfl⟩
    | _=>exact absurd hl (by simp[Value.cells])
  subst hv1;obtain⟨c2_0,c2_1,rfl,g2_0,g2_1⟩:=rep2
  obtain⟨cs2,hv2,cl2⟩:∃cs,v2=.agg cs/\v2.cells.toList=cs.toList:=by
    have hl:=cr2.length
    cases v2 with
    | agg cs=>exact⟨cs,rfl,rfl⟩
    | _=>exact absurd hl (by simp[Value.cells])
  subst hv2;have rep3:w3=[.int .i64 a_3]:=rep3;subst rep3 hv3
  have ha3:n3=a_3:=by
    cases cr3 with
    | cons h _=>have h:Value.int .i64 n3=.int .i64 a_3:=h; cases h; rfl
  subst ha3;have hargs:zeq (VR e3) [.agg 6 [.int .i64 a_0.Classes,.int .i64 a_0.Good,.int .i64 a_0.Bad,.int .i64 a_0.Rest,.int .i64 a_0.Fewest,c0_5],.agg 2 [.int .i64 a_1.First,c1_1],.agg 2 [c2_0,c2_1],.c (.int .i64 n3)] [.agg cs0,.agg cs1,.agg cs2,.int .i64 n3]:=.cons ⟨cs0,rfl,(cr0.mono fun _ _=>CR.mono ((le1.trans le2).trans le3)),rfl⟩ (.cons ⟨cs1,rfl,(cr1.mono fun _ _=>CR.mono (le2.trans le3)),rfl⟩ (.cons ⟨cs2,rfl,(cr2.mono fun _ _=>CR.mono le3),rfl⟩ (.cons rfl .nil)));refine(callsIn_wide.1 (zqy fits htab (zwm (r:=a_0) (z:=a_1) (t:=a_2) (class_:=n3) lay3.pre (((g0_5.subv sv1).subv sv2).subv sv3) ((g1_1.subv sv2).subv sv3) (g2_0.subv sv3) (g2_1.subv sv3) (zzJ ok0 ok1 ok2 ok3) (Q:=fun v _=>v=.c (.bool true)) fun _ _=>rfl) lay3.hr (args':=#[.agg cs0,.agg cs1,.agg cs2,.int .i64 n3]) hargs 0)).mono fun en W' hp=>?_;obtain⟨v,v',e',m',rfl,hst,hvr,rfl⟩:=hp;have hv':v'=.bool true:=hvr;subst hv';have hbelow:=lay3.below hst
  refine⟨_,rfl,[d0,d1,d2,d3],[],p0++p1++p2++p3,[],p0++(p1++(p2++p3)),[],by simpa using hW',trodAll_mk1 (shut_bool Try.underlying4 _),
    trodAll_mk4 (Below.trod zzR (by kernel_rfl) (of_decide_eq_true (by kernel_rfl)) h0 hbelow fun x hx=>hlt x (by simp[hx])) (Below.trod zzR (by kernel_rfl) (of_decide_eq_true (by kernel_rfl)) h1 hbelow fun x hx=>hlt x (by simp[hx])) (Below.trod zzR (by kernel_rfl) (of_decide_eq_true (by kernel_rfl)) h2 hbelow fun x hx=>hlt x (by simp[hx])) (Below.trod zzR (by kernel_rfl) (of_decide_eq_true (by kernel_rfl)) h3 hbelow fun x hx=>hlt x (by simp[hx])),rfl,lay3.kept hst _,fun hc=>by cases hc⟩
theorem ZonePlays_holds:Rows.ZonePlaysSaid:=
 OpenClaim.holds_of_wide 3 Try.f3 rfl rfl rfl rfl rfl rfl rfl ⟨rfl,rfl,rfl,rfl,rfl⟩ rfl rfl rfl rfl rfl (by kernel_rfl) Try.func3 (by kernel_rfl)
  (of_decide_eq_true (by kernel_rfl)) (by unfold Func.isWrapper; first | (rw[if_pos (by decide +kernel)]; kernel_rfl) | (rw[if_neg (by decide +kernel)]; exact⟨rfl,rfl⟩))
  (fun os started H enc _=>zzT os started H enc)
end Go.Proofs.Ytlpjlgmoaipoiaa

