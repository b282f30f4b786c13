/- ZoneFalse, for all that it can be called with, returns true. Condition: none. -/
import Derived.Test.YtlpjlgmoaipoiaaZaH
import GoSem.Step
import GoSem.ClaimKeys
import Derived.DeepKeys2
import Derived.RangeFuncLeaves
import Derived.OrdersIn
import Derived.Laws.World
import Derived.Laws.Sem
import Derived.RangeFuncRecord
import Derived.Laws.CopyRow
import Derived.Laws.Append
import Derived.Laws.Rows
import Derived.Laws.Slices
import Derived.Laws.Entries
import Derived.ChangeKeysEq
import Derived.IntWalk
import Derived.DeepKeys
import Derived.DeepKeys3
import Derived.Laws.StructEq
import Derived.MapKept
import Derived.Laws.AppendOwn
import Derived.ChangeArms
import Derived.ChangeOld
import Derived.Carry
import Derived.ChangeShapes
import Derived.KernelRfl
import Derived.ProofKit
import Derived.Test.YtlpjlgmoaipoiaaRows

namespace Go.Proofs.Ytlpjlgmoaipoiaa
open _root_.Go.Proofs.Try
open Go.Abs
set_option maxRecDepth 100000
noncomputable section
theorem zwi:TA prog 37 6:=⟨104,by kernel_rfl,by kernel_rfl,by kernel_rfl⟩
theorem zwj{r:Rl}{y:Yr}{ca105:C}{m f:M}{Q:V->M->Prop}{rz:P4}(hS:Pre f m)(ha105:Sl f ca105 r.Price)(hp:ztQ r y=some rz)(hq:∀m',Ext m m'->Q (.agg 4 [.bool rz.p0,.bool rz.p1,.bool rz.p2,.bool rz.p3]) m'):Wc prog tbl 77 [.agg 6 [Il r.Classes,Il r.Good,Il r.Bad,Il r.Rest,Il r.Fewest,ca105],.agg 6 [Il y.Losses.Lo,Il y.Losses.Hi,Il y.Premiums.Lo,Il y.Premiums.Hi,Il y.Parcels,.bool y.Exempt]] m Q:=by
 have S0:=hS.st;obtain⟨τ0,_⟩:=zr1;refine w77 ?_;unfold ztQ at hp;intro m0 za;obtain⟨Aa,Ba,bc,Ca⟩:=S0.blk za τ0 1;intro m1 Ea;obtain⟨Fa,Ga,Ha,Ia⟩:=Ba.blk Ea Aa 2;have Ja:=Ca.k Ha;intro m2 La;obtain⟨Ma,Na,da,Oa⟩:=Ga.blk La Fa 3;have Pa:=Ja.k da;have Qa:=Ia.k da;intro m3 Ra;obtain⟨Sa,Ta,J,Ua⟩:=Na.blk Ra Ma 4;have Va:=Pa.k J;have N:=Qa.k J;have Wa:=Oa.k J;refine⟨trivial,_,_,N.bk.rp (k:=0) (j:=2) rfl (by omega),trivial,_,_,N.bk.rp (k:=2) (j:=2) rfl (by omega),?_⟩;intro m8 Xa;obtain⟨ea,Ya,u,Za⟩:=Ta.blk Xa Sa 5;have ab:=Va.k u;have cb:=N.k u;have db:=Wa.k u;have eb:=Ua.k u;obtain⟨fa,ga,p,na⟩:=Za.freeze Ya;have fb:=ab.k p;have gb:=cb.k p;have hb:=db.k p;have ib:=eb.k p;have jb:Sl fa (C.sl m3.nxt 0 2 0 (Option.some 2)) ([y.Losses,y.Premiums]:List Rg):=Bk.sl (α:=Rg) (l:=([y.Losses,y.Premiums]:List Rg)) na (show Cat (α:=Rg) fa [Il y.Losses.Lo,Il y.Losses.Hi,Il y.Premiums.Lo,Il y.Premiums.Hi] ([y.Losses,y.Premiums]:List Rg) from ⟨[Il y.Losses.Lo,Il y.Losses.Hi],_,rfl,rfl,⟨[Il y.Premiums.Lo,Il y.Premiums.Hi],_,rfl,rfl,rfl⟩⟩) rfl rfl _;obtain⟨dc,kb,hp⟩:=zqq hp;refine zwd (l:=([y.Losses,y.Premiums]:List Rg)) ga.pre jb kb fun nc ec fc mb ob=>?_;obtain⟨pb,q⟩:=ga.callG mb ea;have ha:=fb.k q;have ia:=gb.k q;have ja:=hb.k q;have ka:=ib.k q;refine⟨_,rfl,?_⟩;refine zrm (α:=List Int) pb ob (σ:=Bool × Bool × Bool × Bool) 6 (fun st bb=>(False\/(False\/(False\/False)))) (fun st gG gF gT gM=>(Lb gG gF gT gM 1 m.nxt 6 [Il r.Classes,Il r.Good,Il r.Bad,Il r.Rest,Il r.Fewest,ca105])/\(Lb gG gF gT gM 2 m0.nxt 6 [Il y.Losses.Lo,Il y.Losses.Hi,Il y.Premiums.Lo,Il y.Premiums.Hi,Il y.Parcels,.bool y.Exempt])/\(Lb gG gF gT gM 3 m1.nxt 4 [.bool false,.bool false,.bool false,.bool false])/\(Lb gG gF gT gM 4 m2.nxt 4 [.bool st.1,.bool st.2.1,.bool st.2.2.1,.bool st.2.2.2])) (fun rr_ st=>pwithin_L0 r y rr_ st.1 st.2.1 st.2.2.1 st.2.2.2=some rz) (fun ex st=>False) (fun st=>(Gux.and (Gux.lb ha.bk.lt (by decide)) (Gux.and (Gux.lb ia.bk.lt (by decide)) (Gux.and (Gux.lb ja.bk.lt (by decide)) (Gux.lb ka.bk.lt (by decide)))))) (st0:=(false,false,false,false)) (τ:=ea) ⟨ha,ia,ja,ka⟩ hp ?_ ?_ ?_ ?_
 ·intro qb rb st w s T z gc Vb Wb Xb _ _ sb tb hA oa hp hrep Yb pa qa;obtain⟨hc,rfl,⟨A,_⟩⟩:=hrep;obtain⟨a,c,d,e⟩:=st;obtain⟨n,o,h,i⟩:=hA
  replace n:Lb z w s T 1 m.nxt 6 [Il r.Classes,Il r.Good,Il r.Bad,Il r.Rest,Il r.Fewest,ca105]:=n
  replace o:Lb z w s T 2 m0.nxt 6 [Il y.Losses.Lo,Il y.Losses.Hi,Il y.Premiums.Lo,Il y.Premiums.Hi,Il y.Parcels,.bool y.Exempt]:=o
  replace h:Lb z w s T 3 m1.nxt 4 [.bool false,.bool false,.bool false,.bool false]:=h
  replace i:Lb z w s T 4 m2.nxt 4 [.bool a,.bool c,.bool d,.bool e]:=i
  replace hp:pwithin_L0 r y (qb::rb) a c d e=some rz:=hp
  rw[pwithin_L0] at hp;refine⟨_,rfl,?_⟩;refine pa _ _ _ _ sb oa fun oc ic B D sa ta=>?_;have la:=n.k D;have ma:=o.k D;have ub:=h.k D;have vb:=i.k D;refine⟨_,_,_,_,_,_,la.bk.ra,_,_,_,_,_,_,ma.bk.ra,?_⟩;obtain⟨wb,O,hp⟩:=zqq hp;obtain⟨Sb,ua,Y,O⟩:=zqk O;refine⟨Sb,ua,(by first|exact Y|(rw[A.slLen];exact Y)),_,(A.rdI O B.sub),?_⟩;obtain⟨xb,P,hp⟩:=zqq hp;obtain⟨Tb,va,Z,P⟩:=zqk P;refine⟨Tb,va,(by first|exact Z|(rw[A.slLen];exact Z)),_,(A.rdI P B.sub),?_⟩;obtain⟨g,yb,hp⟩:=zqq hp;refine zvq (r:=r) (y:=y) (losses:=wb) (premiums:=xb) B.pre (ha105.sub (Sub.trans (Sub.trans p.fs q.fs) tb)) yb fun pc zb=>?_;obtain⟨Ab,t⟩:=B.call zb s;have Bb:=la.k t;have Cb:=ma.k t;have Db:=ub.k t;have Eb:=vb.k t;have wa:=sa.k t;refine⟨_,rfl,trivial,?_⟩;obtain⟨Fb,hp⟩:=zqr hp;obtain⟨Ub,aa,ba⟩:=zqQ Fb;refine⟨Ub,aa,ba,?_⟩;obtain⟨Gb,Hb,Ib,F,S⟩:=Eb.sta Ab (pre:=[]) (post:=[]) (l:=([a,c,d,e]:List Bool)) (enc:=C.bool) rfl rfl aa ba true
  replace S:Lb _ _ _ _ _ _ _ [(.bool (sti g 0 true a)),(.bool (sti g 1 true c)),(.bool (sti g 2 true d)),(.bool (sti g 3 true e))]:=S
  have Jb:=Bb.k F;have Kb:=Cb.k F;have Mb:=Db.k F;have xa:=wa.k F;refine⟨Gb,Hb,?_⟩;exact qa .nrm ((sti g 0 true a),(sti g 1 true c),(sti g 2 true d),(sti g 3 true e)) _ _ _ _ Ib ⟨Jb,Kb,Mb,S⟩ xa ta hp
 ·intro st G I ca Nb jc hA hp;obtain⟨a,c,d,e⟩:=st
  replace hp:pwithin_L0 r y [] a c d e=some rz:=hp
  obtain⟨n,o,h,i⟩:=hA
  replace n:Lb (Fm.of m) G I ca 1 m.nxt 6 [Il r.Classes,Il r.Good,Il r.Bad,Il r.Rest,Il r.Fewest,ca105]:=n
  replace o:Lb (Fm.of m) G I ca 2 m0.nxt 6 [Il y.Losses.Lo,Il y.Losses.Hi,Il y.Premiums.Lo,Il y.Premiums.Hi,Il y.Parcels,.bool y.Exempt]:=o
  replace h:Lb (Fm.of m) G I ca 3 m1.nxt 4 [.bool false,.bool false,.bool false,.bool false]:=h
  replace i:Lb (Fm.of m) G I ca 4 m2.nxt 4 [.bool a,.bool c,.bool d,.bool e]:=i
  rw[pwithin_L0] at hp;refine⟨_,_,_,_,i.bk.ra,?_⟩;obtain⟨Ob,Pb,Qb,kc,Rb⟩:=h.sto Nb [.bool a,.bool c,.bool d,.bool e];refine⟨Ob,Pb,?_⟩;refine⟨_,_,_,_,Rb.bk.ra,?_⟩;obtain rfl:=oi hp;exact hq _ Qb.ext'
 ·intro id st _ _ _ _ _ _ hn; first | exact hn.elim | (cases hn)
 ·intro st _ _ _ _ _ _ hn; first | exact hn.elim | (cases hn)
theorem zwk{r:Rl}{z:Zn}{ca105 ca201:C}{m f:M}{Q:V->M->Prop}{rz:Wk × Int}(hS:Pre f m)(ha105:Sl f ca105 r.Price)(ha201:Sl f ca201 z.Years)(hp:ztS r z=some rz)(hq:∀m' f' c5 c7 c8 c9 c10 c11 c12,Grw m f m' f'->Sl f' c5 rz.1.r.Price->Sl f' c7 rz.1.zone.Years->zuy f' c8 rz.1.kinds.k0.lead->zuy f' c9 rz.1.kinds.k1.lead->zuy f' c10 rz.1.kinds.k2.lead->zuy f' c11 rz.1.kinds.k3.lead->Sl f' c12 rz.1.can->Q (.tup [.agg 13 [Il rz.1.r.Classes,Il rz.1.r.Good,Il rz.1.r.Bad,Il rz.1.r.Rest,Il rz.1.r.Fewest,c5,Il rz.1.zone.First,c7,c8,c9,c10,c11,c12],.c (Il rz.2)]) m'):Wc prog tbl 53 [.agg 6 [Il r.Classes,Il r.Good,Il r.Bad,Il r.Rest,Il r.Fewest,ca105],.agg 2 [Il z.First,ca201]] m Q:=by
 have S0:=hS.st;obtain⟨τ0,_⟩:=zr1;refine w53 ?_;unfold ztS at hp;intro m0 Ua;obtain⟨Va,Wa,Xc,Xa⟩:=S0.blk Ua τ0 1;intro m1 Ya;obtain⟨Za,ab,bb,cb⟩:=Wa.blk Ya Va 2;have db:=Xa.k bb;intro m2 eb;obtain⟨ta,ua,va,fb⟩:=ab.blk eb Za 3;have wa:=db.k va;have xa:=cb.k va;refine⟨_,_,_,_,_,_,wa.bk.ra,_,_,xa.bk.ra,?_⟩;obtain⟨Zc,gb,hp⟩:=zqq hp;refine zvj (r:=r) (z:=z) ua.pre ha105 ha201 gb fun Jc hb=>?_;obtain⟨ya,da⟩:=ua.call hb ta;have ib:=wa.k da;have jb:=xa.k da;have za:=fb.k da;refine⟨_,rfl,?_⟩;refine zqT hp (fun kb hp=>?_) fun kb hp=>?_
 ·obtain⟨mb,ob,pb,ad,qb⟩:=za.sto ya [Il 0,Il 0,Il 0,Il 0,Il 0,.sl0,Il 0,.sl0,C.nilFn,C.nilFn,C.nilFn,C.nilFn,.sl0];refine⟨mb,ob,?_⟩;refine⟨_,_,_,_,_,_,_,_,_,_,_,_,_,qb.bk.ra,?_⟩
  have Oc:zuy f .nilFn (fun _ _=>none):=by refine⟨rfl,?_⟩; intro f9 m9 _ _ _ r9 Q9 _ _ _ e; exact absurd e (by intro i; cases i)
  have Pc:zuy f .nilFn (fun _ _=>none):=by refine⟨rfl,?_⟩; intro f9 m9 _ _ _ r9 Q9 _ _ _ e; exact absurd e (by intro i; cases i)
  have Qc:zuy f .nilFn (fun _ _=>none):=by refine⟨rfl,?_⟩; intro f9 m9 _ _ _ r9 Q9 _ _ _ e; exact absurd e (by intro i; cases i)
  have Rc:zuy f .nilFn (fun _ _=>none):=by refine⟨rfl,?_⟩; intro f9 m9 _ _ _ r9 Q9 _ _ _ e; exact absurd e (by intro i; cases i)
  have Na:zuy f .nilFn (fun _ _=>none):=by refine⟨rfl,?_⟩; intro f9 m9 _ _ _ r9 Q9 _ _ _ e; exact absurd e (by intro i; cases i)
  have Oa:zuy f .nilFn (fun _ _=>none):=by refine⟨rfl,?_⟩; intro f9 m9 _ _ _ r9 Q9 _ _ _ e; exact absurd e (by intro i; cases i)
  have Pa:zuy f .nilFn (fun _ _=>none):=by refine⟨rfl,?_⟩; intro f9 m9 _ _ _ r9 Q9 _ _ _ e; exact absurd e (by intro i; cases i)
  have Qa:zuy f .nilFn (fun _ _=>none):=by refine⟨rfl,?_⟩; intro f9 m9 _ _ _ r9 Q9 _ _ _ e; exact absurd e (by intro i; cases i)
  obtain rfl:=oi hp;exact hq _ f .sl0 .sl0 C.nilFn C.nilFn C.nilFn C.nilFn .sl0 pb.grw (Sl.nil _) (Sl.nil _) Na Oa Pa Qa (Sl.nil _)
 intro bd rb;obtain⟨Aa,Ba,ia,Ra⟩:=ya.growK rb ta 4;have Ca:=ib.k ia;have Da:=jb.k ia;have sb:=za.k ia;have tb:=Ra 0 (by decide);refine⟨_,_,_,_,_,_,Ca.bk.ra,_,_,Da.bk.ra,?_⟩;obtain⟨ub,vb,hp⟩:=zqq hp;refine zvo Ba.pre  vb fun cd j B D F G wb xb yb zb Ab=>?_;obtain⟨Bb,g⟩:=Ba.callG wb Aa;have Ea:=Ca.k g;have Fa:=Da.k g;have Cb:=sb.k g;have Db:=tb.k g;refine⟨_,_,_,_,rfl,(by rw[show zaL cmC _=true from zoW (zqu rfl (zqu ha201.noFn zqv))]; exact(Fa.bk.ra)),(by rw[show zaL cmC _=true from zoW (zqu rfl (zqu rfl (zqu rfl (zqu rfl (zqu rfl (zqu ha105.noFn zqv))))))]; exact(Ea.bk.ra)),?_⟩;intro dd Eb;obtain⟨Fb,ja,Gb⟩:=Db.set Bb Eb;have Ga:=Ea.k ja;have Ha:=Fa.k ja;have Hb:=Cb.k ja;refine⟨(by rw[show zaL cmC _=true from zoW (zqu rfl (zqu ha201.noFn zqv))]; exact(Ha.bk.ra)),(by rw[show zaL cmC _=true from zoW (zqu rfl (zqu rfl (zqu rfl (zqu rfl (zqu rfl (zqu ha105.noFn zqv))))))]; exact(Ga.bk.ra)),?_⟩;obtain⟨Ib,Jb,Kb,ka,I⟩:=Gb.sto Fb [Il r.Classes,Il r.Good,Il r.Bad,Il r.Rest,Il r.Fewest,ca105,Il z.First,ca201,B,D,F,G,.sl0];have T:=Ga.k ka;have J:=Ha.k ka;have N:=Hb.k ka;refine⟨Ib,Jb,?_⟩;refine⟨trivial,_,J.bk.rc rfl,ha201.isSl,?_⟩;intro Kc Mb
 have hgo:∀(Y:Nat) (qa:Int) (o:C) (p:Int) (q:Int) (s:Int) (t:Int) (u:Int) (w:Int) (Z:List P4) (n:M) (h:Nat->Nat),St (Fm.of m) f j n->Lb (Fm.of m) j h n 1 m.nxt 6 [Il r.Classes,Il r.Good,Il r.Bad,Il r.Rest,Il r.Fewest,ca105]->Lb (Fm.of m) j h n 2 m0.nxt 2 [Il z.First,ca201]->Lb (Fm.of m) j h n 3 m1.nxt 13 [Il 0,Il 0,Il 0,Il 0,Il 0,.sl0,Il 0,.sl0,C.nilFn,C.nilFn,C.nilFn,C.nilFn,.sl0]->Lb (Fm.of m) j h n 4 (Jc.nxt+0) 13 [Il p,Il q,Il s,Il t,Il u,ca105,Il w,ca201,B,D,F,G,o]->Ow (Fm.of m) j h n 5 o Z->ztR r z ub Y p q s t u w Z qa=some rz->Kc [.c (Il qa)] n:=by
  intro Y
  induction Y with
  | zero=>intro qa o p q s t u w Z n h aa T J N I d hp; cases hp
  | succ Y Sa=>
   intro qa o p q s t u w Z n h aa T J N I d hp;refine Mb _ _ ?_;rw[ztR] at hp
   try rw[ha201.slLen]
   refine ifd hp (fun Nb hp=>?_) fun Nb hp=>?_; rotate_left
   ·refine⟨_,_,_,_,_,_,_,_,_,_,_,_,_,I.bk.ra,?_⟩;obtain⟨Ob,Pb,Qb,Rb,Sb⟩:=N.sto aa [Il p,Il q,Il s,Il t,Il u,ca105,Il w,ca201,B,D,F,G,o];have d:=d.k Rb;refine⟨Ob,Pb,?_⟩;refine⟨_,_,_,_,_,_,_,_,_,_,_,_,_,Sb.bk.ra,?_⟩;obtain⟨Tb,Ub,A,Vb⟩:=d.freeze Qb;obtain rfl:=oi hp;exact hq _ Tb ca105 ca201 B D F G o Ub.grw (ha105.sub (Sub.trans g.fs A.fs)) (ha201.sub (Sub.trans g.fs A.fs)) (xb.sub A.fs) (yb.sub A.fs) (zb.sub A.fs) (Ab.sub A.fs) Vb
   obtain⟨l,la,hp⟩:=zqq hp;obtain⟨Nc,Ta,sa,la⟩:=zqk la;obtain⟨_,Wb⟩:=zr6 ha201 la;refine⟨Nc,Ta,(by first|exact sa|(rw[ha201.slLen];exact sa)),_,_,_,_,_,_,(Wb _ (Sub.trans g.fs aa.sub)).1,?_⟩;intro ed Xb;obtain⟨Yb,Zb,O,ac⟩:=aa.blk Xb h 6;have bc:=T.k O;have cc:=J.k O;have dc:=N.k O;have ec:=I.k O;have d:=d.k O;obtain⟨fc,gc,Ia,P,hc⟩:=ac.sto Zb [Il l.Losses.Lo,Il l.Losses.Hi,Il l.Premiums.Lo,Il l.Premiums.Hi,Il l.Parcels,.bool l.Exempt];have Ja:=bc.k P;have ic:=cc.k P;have jc:=dc.k P;have Ka:=ec.k P;have d:=d.k P;refine⟨fc,gc,?_⟩;refine⟨trivial,_,Ka.bk.rc rfl,_,_,_,_,_,_,Ja.bk.ra,_,_,_,_,_,_,hc.bk.ra,?_⟩;obtain⟨La,kc,hp⟩:=zqq hp;refine zwj (r:=r) (y:=l) Ia.pre (ha105.sub g.fs) kc fun fd nc=>?_;obtain⟨oc,S⟩:=Ia.call nc Yb;have pc:=Ja.k S;have qc:=ic.k S;have sc:=jc.k S;have ma:=Ka.k S;have d:=d.k S;refine⟨_,_,_,_,rfl,(by rw[show cmC _=true from zoV (d.noFn)]; exact(ma.bk.rc rfl)),?_⟩;obtain⟨tc,hp⟩:=zqr hp;intro hd Ma;refine⟨(by rw[show cmC _=true from zoV (d.noFn)]; exact(ma.bk.ext (Bk.new Ma).2).rc rfl),?_⟩;obtain⟨na,uc,vc,wc,xc,ba,oa⟩:=d.app' zuE oc (a:=La) (show Rp.rep (α:=P4) j _ La from rfl) tc Ma;have yc:=pc.k ba;have zc:=qc.k ba;have Ac:=sc.k ba;have Bc:=ma.k ba;refine⟨na,uc,wc,?_⟩;refine⟨trivial,?_⟩;obtain⟨Cc,Dc,Ec,ca,pa⟩:=Bc.sto1 xc 12 na (by simp) rfl
   replace pa:Lb _ _ _ _ _ _ _ [Il p,Il q,Il s,Il t,Il u,ca105,Il w,ca201,B,D,F,G,na]:=pa
   have Fc:=yc.k ca;have Gc:=zc.k ca;have Hc:=Ac.k ca;have oa:=oa.k ca;refine⟨Cc,Dc,?_⟩;refine gdi hp fun Ic hp=>?_;exact Sa _ _ _ _ _ _ _ _ _ _ vc Ec Fc Gc Hc pa oa hp
 exact hgo _ _ _ _ _ _ _ _ _ _ _ Aa Kb T J N I (Ow.nil _ _ _ _ _) hp
theorem zwl{r:Rl}{z:Zn}{year:Int}{ca105 ca201:C}{m f:M}{Q:V->M->Prop}{rz:Wk × Int}(hS:Pre f m)(ha105:Sl f ca105 r.Price)(ha201:Sl f ca201 z.Years)(hp:ztT r z year=some rz)(hq:∀m' f' c5 c7 c8 c9 c10 c11 c12,Grw m f m' f'->Sl f' c5 rz.1.r.Price->Sl f' c7 rz.1.zone.Years->zuy f' c8 rz.1.kinds.k0.lead->zuy f' c9 rz.1.kinds.k1.lead->zuy f' c10 rz.1.kinds.k2.lead->zuy f' c11 rz.1.kinds.k3.lead->Sl f' c12 rz.1.can->Q (.tup [.agg 13 [Il rz.1.r.Classes,Il rz.1.r.Good,Il rz.1.r.Bad,Il rz.1.r.Rest,Il rz.1.r.Fewest,c5,Il rz.1.zone.First,c7,c8,c9,c10,c11,c12],.c (Il rz.2)]) m'):Wc prog tbl 61 [.agg 6 [Il r.Classes,Il r.Good,Il r.Bad,Il r.Rest,Il r.Fewest,ca105],.agg 2 [Il z.First,ca201],.c (Il year)] m Q:=by
 have S0:=hS.st;obtain⟨τ0,_⟩:=zr1;refine w61 ?_;unfold ztT at hp;intro m0 ia;obtain⟨ja,ka,hb,la⟩:=S0.blk ia τ0 1;intro m1 ma;obtain⟨na,oa,pa,qa⟩:=ka.blk ma ja 2;have sa:=la.k pa;intro m2 ta;obtain⟨A,B,D,ua⟩:=oa.blk ta na 3;have va:=sa.k D;have F:=qa.k D;refine⟨_,_,_,_,_,_,va.bk.ra,_,_,F.bk.ra,?_⟩;obtain⟨a,wa,hp⟩:=zqq hp;refine zwk (r:=r) (z:=z) B.pre ha105 ha201 wa fun ob d h i j l n o p xa G I J N O P S=>?_;obtain⟨ya,q⟩:=B.callG xa A;have za:=F.k q;have Aa:=ua.k q;refine⟨_,_,_,_,_,_,_,_,_,_,_,_,_,_,rfl,?_⟩;intro pb Ba;obtain⟨Ca,Da,T,Ea⟩:=ya.blk Ba A 4;have Fa:=za.k T;have Ga:=Aa.k T;obtain⟨Ha,Ia,s,Y,Z⟩:=Ea.sto Da [Il a.1.r.Classes,Il a.1.r.Good,Il a.1.r.Bad,Il a.1.r.Rest,Il a.1.r.Fewest,h,Il a.1.zone.First,i,j,l,n,o,p];have Ja:=Fa.k Y;have aa:=Ga.k Y;refine⟨Ha,Ia,?_⟩;refine ifd hp (fun Ka hp=>?_) fun Ka hp=>?_; rotate_left
 ·refine⟨_,_,_,_,_,_,_,_,_,_,_,_,_,Z.bk.ra,?_⟩;obtain⟨La,Ma,Na,ib,Oa⟩:=aa.sto s [Il a.1.r.Classes,Il a.1.r.Good,Il a.1.r.Bad,Il a.1.r.Rest,Il a.1.r.Fewest,h,Il a.1.zone.First,i,j,l,n,o,p];refine⟨La,Ma,?_⟩;refine⟨_,_,_,_,_,_,_,_,_,_,_,_,_,Oa.bk.ra,?_⟩;obtain rfl:=oi hp;exact hq _ d h i j l n o p Na.grw G I J N O P S
 refine⟨_,_,Ja.bk.ra,?_⟩;obtain⟨jb,Pa,hp⟩:=zqq hp;refine zvi (z:=z) (year:=year) s.pre (ha201.sub q.fs) Pa fun qb Qa=>?_;obtain⟨ba,ca⟩:=s.call Qa Ca;have da:=aa.k ca;have Ra:=Z.k ca;refine⟨_,rfl,?_⟩;refine zqV hp (fun Sa hp=>?_) fun Sa hp=>?_; rotate_left
 ·refine⟨_,_,_,_,_,_,_,_,_,_,_,_,_,Ra.bk.ra,?_⟩;obtain⟨Ta,Ua,Va,kb,Wa⟩:=da.sto ba [Il a.1.r.Classes,Il a.1.r.Good,Il a.1.r.Bad,Il a.1.r.Rest,Il a.1.r.Fewest,h,Il a.1.zone.First,i,j,l,n,o,p];refine⟨Ta,Ua,?_⟩;refine⟨_,_,_,_,_,_,_,_,_,_,_,_,_,Wa.bk.ra,?_⟩;obtain rfl:=oi hp;exact hq _ d h i j l n o p Va.grw G I J N O P S
 obtain⟨Xa,Ya,Za,mb,ab⟩:=da.sto ba [Il 0,Il 0,Il 0,Il 0,Il 0,.sl0,Il 0,.sl0,C.nilFn,C.nilFn,C.nilFn,C.nilFn,.sl0];refine⟨Xa,Ya,?_⟩;refine⟨_,_,_,_,_,_,_,_,_,_,_,_,_,ab.bk.ra,?_⟩
 have bb:zuy d .nilFn (fun _ _=>none):=by refine⟨rfl,?_⟩; intro t u _ _ _ w y _ _ _ e; exact absurd e (by intro g; cases g)
 have cb:zuy d .nilFn (fun _ _=>none):=by refine⟨rfl,?_⟩; intro t u _ _ _ w y _ _ _ e; exact absurd e (by intro g; cases g)
 have db:zuy d .nilFn (fun _ _=>none):=by refine⟨rfl,?_⟩; intro t u _ _ _ w y _ _ _ e; exact absurd e (by intro g; cases g)
 have eb:zuy d .nilFn (fun _ _=>none):=by refine⟨rfl,?_⟩; intro t u _ _ _ w y _ _ _ e; exact absurd e (by intro g; cases g)
 have ea:zuy d .nilFn (fun _ _=>none):=by refine⟨rfl,?_⟩; intro t u _ _ _ w y _ _ _ e; exact absurd e (by intro g; cases g)
 have fa:zuy d .nilFn (fun _ _=>none):=by refine⟨rfl,?_⟩; intro t u _ _ _ w y _ _ _ e; exact absurd e (by intro g; cases g)
 have ga:zuy d .nilFn (fun _ _=>none):=by refine⟨rfl,?_⟩; intro t u _ _ _ w y _ _ _ e; exact absurd e (by intro g; cases g)
 have ha:zuy d .nilFn (fun _ _=>none):=by refine⟨rfl,?_⟩; intro t u _ _ _ w y _ _ _ e; exact absurd e (by intro g; cases g)
 obtain rfl:=oi hp;exact hq _ d .sl0 .sl0 C.nilFn C.nilFn C.nilFn C.nilFn .sl0 Za.grw (Sl.nil _) (Sl.nil _) ea fa ga ha (Sl.nil _)
theorem zwm{r:Rl}{z:Zn}{year:Int}{ca105 ca201:C}{m f:M}{Q:V->M->Prop}{rz:List Int × Int}(hS:Pre f m)(ha105:Sl f ca105 r.Price)(ha201:Sl f ca201 z.Years)(hp:ztU r z year=some rz)(hq:∀m' f' c0,Grw m f m' f'->Sl f' c0 rz.1->Q (.tup [.c c0,.c (Il rz.2)]) m'):Wc prog tbl 29 [.agg 6 [Il r.Classes,Il r.Good,Il r.Bad,Il r.Rest,Il r.Fewest,ca105],.agg 2 [Il z.First,ca201],.c (Il year)] m Q:=by
 have S0:=hS.st;obtain⟨τ0,_⟩:=zr1;refine w29 ?_;unfold ztU at hp;intro m0 l;obtain⟨n,o,Ca,p⟩:=S0.blk l τ0 1;intro m1 q;obtain⟨g,h,t,u⟩:=o.blk q n 2;have y:=p.k t;refine⟨_,_,_,_,_,_,y.bk.ra,_,_,u.bk.ra,?_⟩;obtain⟨a,A,hp⟩:=zqq hp;refine zwl (r:=r) (z:=z) (year:=year) h.pre ha105 ha201 A fun Ma B D F G I J N O P S T Y Z aa ba ca=>?_;obtain⟨da,Da⟩:=h.callG P g;refine⟨_,_,_,_,_,_,_,_,_,_,_,_,_,_,rfl,?_⟩;intro Na ea;obtain⟨d,fa,Ea,ga⟩:=da.blk ea g 3;obtain⟨ha,ia,e,Fa,ja⟩:=ga.sto fa [Il a.1.r.Classes,Il a.1.r.Good,Il a.1.r.Bad,Il a.1.r.Rest,Il a.1.r.Fewest,D,Il a.1.zone.First,F,G,I,J,N,O];refine⟨ha,ia,?_⟩;refine zqT hp (fun ka hp=>?_) fun ka hp=>?_
 ·obtain rfl:=oi hp;exact hq _ B .sl0 e.grw (Sl.nil _)
 refine⟨_,_,_,_,_,_,_,_,_,_,_,_,_,ja.bk.ra,?_⟩;refine gdi hp fun la hp=>?_;obtain⟨ma,na,hp⟩:=zqq hp;refine zvB (w:=a.1) (years:=(year+1)) e.pre S T Y Z aa ba ca na fun Oa Ga Ha oa pa=>?_;obtain⟨i,Ia⟩:=e.callG oa d;refine⟨_,rfl,?_⟩;obtain⟨qa,sa,hp⟩:=zqq hp;refine zvy (s:=ma) i.pre pa sa fun Pa ta=>?_;obtain⟨j,Ja⟩:=i.call ta d;refine⟨_,_,_,_,_,_,rfl,?_⟩;obtain⟨Ka,ua,hp⟩:=zqq hp;refine zvt (c:=qa) j.pre  ua fun Qa va wa xa ya=>?_;obtain⟨za,La⟩:=j.callG xa d;refine⟨_,rfl,?_⟩;obtain rfl:=oi hp;exact hq _ va wa za.grw ya
theorem zwn{r:Rl}{z:Zn}{year:Int}{ca105 ca201:C}{m f:M}{Q:V->M->Prop}{rz:Int × Int}(hS:Pre f m)(ha105:Sl f ca105 r.Price)(ha201:Sl f ca201 z.Years)(hp:ztV r z year=some rz)(hq:∀m',Ext m m'->Q (.tup [.c (Il rz.1),.c (Il rz.2)]) m'):Wc prog tbl 30 [.agg 6 [Il r.Classes,Il r.Good,Il r.Bad,Il r.Rest,Il r.Fewest,ca105],.agg 2 [Il z.First,ca201],.c (Il year)] m Q:=by
 have S0:=hS.st;obtain⟨τ0,_⟩:=zr1;refine w30 ?_;unfold ztV at hp;intro m0 h;obtain⟨i,j,ma,l⟩:=S0.blk h τ0 1;intro m1 n;obtain⟨e,g,o,p⟩:=j.blk n i 2;have q:=l.k o;refine⟨_,_,_,_,_,_,q.bk.ra,_,_,p.bk.ra,?_⟩;obtain⟨a,s,hp⟩:=zqq hp;refine zwl (r:=r) (z:=z) (year:=year) g.pre ha105 ha201 s fun ua na t u y A B D F G I J N O P S T=>?_;obtain⟨Y,oa⟩:=g.callG G e;refine⟨_,_,_,_,_,_,_,_,_,_,_,_,_,_,rfl,?_⟩;intro va Z;obtain⟨aa,ba,pa,ca⟩:=Y.blk Z e 3;obtain⟨da,ea,d,qa,fa⟩:=ca.sto ba [Il a.1.r.Classes,Il a.1.r.Good,Il a.1.r.Bad,Il a.1.r.Rest,Il a.1.r.Fewest,t,Il a.1.zone.First,u,y,A,B,D,F];refine⟨da,ea,?_⟩;refine zqT hp (fun ga hp=>?_) fun ga hp=>?_
 ·obtain rfl:=oi hp;exact hq _ d.ext'
 refine⟨_,_,_,_,_,_,_,_,_,_,_,_,_,fa.bk.ra,?_⟩;obtain⟨sa,ha,hp⟩:=zqq hp;refine zvC (w:=a.1) (year:=year) d.pre I J N O P S T ha fun wa ia=>?_;obtain⟨ja,ta⟩:=d.call ia aa;refine⟨_,rfl,?_⟩;obtain rfl:=oi hp;exact hq _ ja.ext'
theorem zwo{r:Rl}{z:Zn}{ca105 ca201:C}{m f:M}{Q:V->M->Prop}{rz:Rg × Int}(hS:Pre f m)(ha105:Sl f ca105 r.Price)(ha201:Sl f ca201 z.Years)(hp:ztW r z=some rz)(hq:∀m',Ext m m'->Q (.tup [.agg 2 [Il rz.1.Lo,Il rz.1.Hi],.c (Il rz.2)]) m'):Wc prog tbl 34 [.agg 6 [Il r.Classes,Il r.Good,Il r.Bad,Il r.Rest,Il r.Fewest,ca105],.agg 2 [Il z.First,ca201]] m Q:=by
 have S0:=hS.st;obtain⟨τ0,_⟩:=zr1;refine w34 ?_;unfold ztW at hp;intro m0 s;obtain⟨t,u,Za,y⟩:=S0.blk s τ0 1;intro m1 A;obtain⟨B,D,F,G⟩:=u.blk A t 2;have I:=y.k F;intro m2 J;obtain⟨g,h,i,N⟩:=D.blk J B 3;have O:=I.k i;have P:=G.k i;refine⟨_,_,_,_,_,_,O.bk.ra,_,_,P.bk.ra,?_⟩;obtain⟨a,S,hp⟩:=zqq hp;refine zwk (r:=r) (z:=z) h.pre ha105 ha201 S fun fb ab T Y Z aa ba ca da ea fa ga ha ia ja ka la=>?_;obtain⟨ma,na⟩:=h.callG ea g;have oa:=N.k na;refine⟨_,_,_,_,_,_,_,_,_,_,_,_,_,_,rfl,?_⟩;intro gb pa;obtain⟨d,qa,sa,ta⟩:=ma.blk pa g 4;have ua:=oa.k sa;obtain⟨va,wa,e,xa,ya⟩:=ta.sto qa [Il a.1.r.Classes,Il a.1.r.Good,Il a.1.r.Bad,Il a.1.r.Rest,Il a.1.r.Fewest,T,Il a.1.zone.First,Y,Z,aa,ba,ca,da];have j:=ua.k xa;refine⟨va,wa,?_⟩;refine zqT hp (fun za hp=>?_) fun za hp=>?_
 ·obtain⟨Aa,Ba,Ca,bb,Da⟩:=j.sto e [Il 0,Il 0];refine⟨Aa,Ba,?_⟩;refine⟨_,_,Da.bk.ra,?_⟩;obtain rfl:=oi hp;exact hq _ Ca.ext'
 refine⟨_,_,_,_,_,_,_,_,_,_,_,_,_,ya.bk.ra,?_⟩;obtain⟨n,Ea,hp⟩:=zqq hp;refine zvE (w:=a.1) e.pre fa ga ha ia ja ka la Ea fun hb cb db Fa o=>?_;obtain⟨p,Ga⟩:=e.callG Fa d;have Ha:=j.k Ga;refine⟨_,rfl,?_⟩;obtain⟨Ia,Ja,hp⟩:=zqq hp;refine zuZ (l:=n) p.pre o Ja fun ib Ka=>?_;obtain⟨q,La⟩:=p.call Ka d;have Ma:=Ha.k La;refine⟨_,rfl,?_⟩;obtain⟨Na,Oa,hp⟩:=zqq hp;refine zu0 (l:=n) q.pre o Oa fun jb Pa=>?_;obtain⟨Qa,Ra⟩:=q.call Pa d;have Sa:=Ma.k Ra;refine⟨_,rfl,?_⟩;obtain⟨Ta,Ua,Va,eb,Wa⟩:=Sa.sto Qa [Il Ia,Il Na];refine⟨Ta,Ua,?_⟩;refine⟨_,_,Wa.bk.ra,?_⟩;obtain rfl:=oi hp;exact hq _ Va.ext'
theorem zwp{r:Rl}{z:Zn}{ca105 ca201:C}{m f:M}{Q:V->M->Prop}{rz:List Int × Int}(hS:Pre f m)(ha105:Sl f ca105 r.Price)(ha201:Sl f ca201 z.Years)(hp:ztX r z=some rz)(hq:∀m' f' c0,Grw m f m' f'->Sl f' c0 rz.1->Q (.tup [.c c0,.c (Il rz.2)]) m'):Wc prog tbl 35 [.agg 6 [Il r.Classes,Il r.Good,Il r.Bad,Il r.Rest,Il r.Fewest,ca105],.agg 2 [Il z.First,ca201]] m Q:=by
 have S0:=hS.st;obtain⟨τ0,_⟩:=zr1;refine w35 ?_;unfold ztX at hp;intro m0 h;obtain⟨i,j,qa,l⟩:=S0.blk h τ0 1;intro m1 n;obtain⟨e,g,o,p⟩:=j.blk n i 2;have q:=l.k o;refine⟨_,_,_,_,_,_,q.bk.ra,_,_,p.bk.ra,?_⟩;obtain⟨a,s,hp⟩:=zqq hp;refine zwk (r:=r) (z:=z) g.pre ha105 ha201 s fun xa t u y A B D F G I J N O P S T Y=>?_;obtain⟨Z,sa⟩:=g.callG I e;refine⟨_,_,_,_,_,_,_,_,_,_,_,_,_,_,rfl,?_⟩;intro ya aa;obtain⟨ba,ca,ta,da⟩:=Z.blk aa e 3;obtain⟨ea,fa,d,ua,ga⟩:=da.sto ca [Il a.1.r.Classes,Il a.1.r.Good,Il a.1.r.Bad,Il a.1.r.Rest,Il a.1.r.Fewest,u,Il a.1.zone.First,y,A,B,D,F,G];refine⟨ea,fa,?_⟩;refine zqT hp (fun ha hp=>?_) fun ha hp=>?_
 ·obtain rfl:=oi hp;exact hq _ t .sl0 d.grw (Sl.nil _)
 refine⟨_,_,_,_,_,_,_,_,_,_,_,_,_,ga.bk.ra,?_⟩;obtain⟨va,ia,hp⟩:=zqq hp;refine zvF (w:=a.1) d.pre J N O P S T Y ia fun za ja ka la ma=>?_;obtain⟨na,wa⟩:=d.callG la ba;refine⟨_,rfl,?_⟩;obtain rfl:=oi hp;exact hq _ ja ka na.grw ma
theorem zwq{r:Rl}{z:Zn}{class_:Int}{ca105 ca201:C}{m f:M}{Q:V->M->Prop}{rz:List Int × Int}(hS:Pre f m)(ha105:Sl f ca105 r.Price)(ha201:Sl f ca201 z.Years)(hp:ztY r z class_=some rz)(hq:∀m' f' c0,Grw m f m' f'->Sl f' c0 rz.1->Q (.tup [.c c0,.c (Il rz.2)]) m'):Wc prog tbl 39 [.agg 6 [Il r.Classes,Il r.Good,Il r.Bad,Il r.Rest,Il r.Fewest,ca105],.agg 2 [Il z.First,ca201],.c (Il class_)] m Q:=by
 have S0:=hS.st;obtain⟨τ0,_⟩:=zr1;refine w39 ?_;unfold ztY at hp;intro m0 na;obtain⟨oa,pa,Ha,qa⟩:=S0.blk na τ0 1;intro m1 sa;obtain⟨j,l,ta,ua⟩:=pa.blk sa oa 2;have n:=qa.k ta;refine⟨_,_,_,_,_,_,n.bk.ra,_,_,ua.bk.ra,?_⟩;obtain⟨a,va,hp⟩:=zqq hp;refine zwk (r:=r) (z:=z) l.pre ha105 ha201 va fun Ia o wa xa q s t u y ya za Aa A B D F G=>?_;obtain⟨Ba,p⟩:=l.callG ya j;have I:=n.k p;refine⟨_,_,_,_,_,_,_,_,_,_,_,_,_,_,rfl,?_⟩;intro Ja J;obtain⟨g,N,O,P⟩:=Ba.blk J j 3;have S:=I.k O;obtain⟨T,Y,d,Z,aa⟩:=P.sto N [Il a.1.r.Classes,Il a.1.r.Good,Il a.1.r.Bad,Il a.1.r.Rest,Il a.1.r.Fewest,wa,Il a.1.zone.First,xa,q,s,t,u,y];have ba:=S.k Z;refine⟨T,Y,?_⟩;refine zqT hp (fun ca hp=>?_) fun ca hp=>?_
 ·obtain rfl:=oi hp;exact hq _ o .sl0 d.grw (Sl.nil _)
 refine⟨_,_,_,_,_,_,ba.bk.ra,?_⟩;obtain⟨Ca,da,hp⟩:=zqq hp;refine zvg (r:=r) (class_:=class_) d.pre (ha105.sub p.fs) da fun Ka ea=>?_;obtain⟨e,fa⟩:=d.call ea g;have ga:=aa.k fa;refine⟨_,rfl,?_⟩;refine zqV hp (fun ha hp=>?_) fun ha hp=>?_
 ·obtain rfl:=oi hp;exact hq _ o .sl0 e.grw (Sl.nil _)
 refine⟨_,_,_,_,_,_,_,_,_,_,_,_,_,ga.bk.ra,?_⟩;obtain⟨Da,ia,hp⟩:=zqq hp;refine zwh (w:=a.1) (class_:=class_) e.pre za Aa A B D F G ia fun La h ja ka la=>?_;obtain⟨i,Ea⟩:=e.callG ka g;refine⟨_,_,rfl,?_⟩;refine zqV hp (fun ma hp=>?_) fun ma hp=>?_
 ·obtain rfl:=oi hp;exact hq _ h .sl0 i.grw (Sl.nil _)
 obtain rfl:=oi hp;exact hq _ h ja i.grw la
theorem zwr{l:List Int}{ca100:C}{m f:M}{Q:V->M->Prop}{rz:List Int}(hS:Pre f m)(ha100:Sl f ca100 l)(hp:ztZ l=some rz)(hq:∀m' f' c0,Grw m f m' f'->Sl f' c0 rz->Q (.c c0) m'):Wc prog tbl 50 [.c ca100] m Q:=by
 have z:=hS.st;obtain⟨A,_⟩:=zr1;refine w50 ?_;unfold ztZ at hp;intro B d;obtain⟨s,e,t,g⟩:=Ow.lit0 (α:=Int) z A 1 d;obtain⟨h,hp⟩:=zqr hp;obtain⟨a,i,u,j,n,w,o⟩:=g.appL zuD e ha100 h;refine⟨a,i,j,?_⟩;obtain⟨p,q,y,r⟩:=o.freeze n;obtain rfl:=oi hp;exact hq _ p a q.grw r
theorem zws{r:Rg}{m f:M}{Q:V->M->Prop}{rz:Rg}(hS:Pre f m)(hp:zt0 r=some rz)(hq:∀m',Ext m m'->Q (.agg 2 [Il rz.Lo,Il rz.Hi]) m'):Wc prog tbl 36 [.agg 2 [Il r.Lo,Il r.Hi]] m Q:=by
 have w:=hS.st;obtain⟨y,_⟩:=zr1;refine w36 ?_;unfold zt0 at hp;intro z c;obtain⟨d,e,s,g⟩:=w.blk c y 1;intro A h;obtain⟨t,i,j,l⟩:=e.blk h d 2;have a:=g.k j;refine⟨trivial,_,a.bk.rc rfl,trivial,_,a.bk.rc rfl,?_⟩;obtain⟨n,o,p,u,q⟩:=l.sto i [Il r.Lo,Il r.Hi];refine⟨n,o,?_⟩;refine⟨_,_,q.bk.ra,?_⟩;obtain rfl:=oi hp;exact hq _ p.ext'
theorem zwt{r:Rl}{ca105:C}{m f:M}{Q:V->M->Prop}{rz:Rl}(hS:Pre f m)(ha105:Sl f ca105 r.Price)(hp:zt1 r=some rz)(hq:∀m' f' c5,Grw m f m' f'->Sl f' c5 rz.Price->Q (.agg 6 [Il rz.Classes,Il rz.Good,Il rz.Bad,Il rz.Rest,Il rz.Fewest,c5]) m'):Wc prog tbl 20 [.agg 6 [Il r.Classes,Il r.Good,Il r.Bad,Il r.Rest,Il r.Fewest,ca105]] m Q:=by
 have O:=hS.st;obtain⟨P,_⟩:=zr1;refine w20 ?_;unfold zt1 at hp;intro S h;obtain⟨i,j,I,n⟩:=O.blk h P 1;intro T o;obtain⟨p,d,q,s⟩:=j.blk o i 2;have a:=n.k q;refine⟨trivial,_,a.bk.rc rfl,trivial,_,a.bk.rc rfl,trivial,_,a.bk.rc rfl,trivial,_,a.bk.rc rfl,trivial,_,a.bk.rc rfl,trivial,_,a.bk.rc rfl,?_⟩;obtain⟨J,t,hp⟩:=zqq hp;refine zwr (l:=r.Price) d.pre ha105 t fun Y u e w y=>?_;obtain⟨z,g⟩:=d.callG w p;have c:=a.k g;have A:=s.k g;refine⟨_,rfl,(c.bk.rc rfl),(c.bk.rc rfl),(c.bk.rc rfl),(c.bk.rc rfl),(c.bk.rc rfl),?_⟩;obtain⟨B,D,F,N,G⟩:=A.sto z [Il r.Classes,Il r.Good,Il r.Bad,Il r.Rest,Il r.Fewest,e];refine⟨B,D,?_⟩;refine⟨_,_,_,_,_,_,G.bk.ra,?_⟩;obtain rfl:=oi hp;exact hq _ u e F.grw y
theorem zwu{z:Zn}{ca101:C}{m f:M}{Q:V->M->Prop}{rz:Zn}(hS:Pre f m)(ha101:Sl f ca101 z.Years)(hp:zt3 z=some rz)(hq:∀m' f' c1,Grw m f m' f'->Sl f' c1 rz.Years->Q (.agg 2 [Il rz.First,c1]) m'):Wc prog tbl 21 [.agg 2 [Il z.First,ca101]] m Q:=by
 have S0:=hS.st;obtain⟨τ0,_⟩:=zr1;refine w21 ?_;unfold zt3 at hp;intro m0 ka;obtain⟨la,ma,Ab,na⟩:=S0.blk ka τ0 1;intro m1 oa;obtain⟨pa,qa,sa,ta⟩:=ma.blk oa la 2;have T:=na.k sa;refine⟨trivial,_,T.bk.rc rfl,?_⟩;intro m3 ua;obtain⟨va,wa,Y,xa⟩:=qa.blk ua pa 3;have ya:=T.k Y;have za:=ta.k Y;obtain⟨Aa,Ba,Ca,Z,n⟩:=xa.sto wa [Il z.First,.sl0];have h:=ya.k Z;have o:=za.k Z;refine⟨Aa,Ba,?_⟩;intro R5 yb
 have hgo:∀(t:Nat) (x6:Int) (i:C) (l:Int) (u:List Yr) (P:M) (g:Nat->Nat),St (Fm.of m) f f P->Lb (Fm.of m) f g P 1 m.nxt 2 [Il z.First,ca101]->Lb (Fm.of m) f g P 2 m0.nxt 2 [Il 0,.sl0]->Lb (Fm.of m) f g P 3 m1.nxt 2 [Il l,i]->Ow (Fm.of m) f g P 4 i u->zt2 z t l u x6=some rz->R5 [.c (Il x6)] P:=by
  intro t
  induction t with
  | zero=>intro x6 i l u P g w h o n d hp; cases hp
  | succ t xb=>
   intro x6 i l u P g w h o n d hp;refine yb _ _ ?_;rw[zt2] at hp;refine⟨trivial,_,h.bk.rc rfl,ha101.isSl,?_⟩
   try rw[ha101.slLen]
   refine ifd hp (fun Ea hp=>?_) fun Ea hp=>?_; rotate_left
   ·refine⟨_,_,n.bk.ra,?_⟩;obtain⟨Fa,Ga,Ha,Ia,Ja⟩:=o.sto w [Il l,i];have d:=d.k Ia;refine⟨Fa,Ga,?_⟩;refine⟨_,_,Ja.bk.ra,?_⟩;obtain⟨Ka,La,Bb,Ma⟩:=d.freeze Ha;obtain rfl:=oi hp;exact hq _ Ka i La.grw Ma
   refine⟨trivial,_,h.bk.rc rfl,?_⟩;obtain⟨e,D,hp⟩:=zqq hp;obtain⟨zb,ja,S,D⟩:=zqk D;obtain⟨_,Na⟩:=zr6 ha101 D;refine⟨zb,ja,(by first|exact S|(rw[ha101.slLen];exact S)),_,_,_,_,_,_,(Na _ w.sub).1,?_⟩;intro Hb Oa;obtain⟨aa,Pa,y,Qa⟩:=w.blk Oa g 5;have Ra:=h.k y;have Sa:=o.k y;have Ta:=n.k y;have d:=d.k y;obtain⟨Ua,Va,ba,A,p⟩:=Qa.sto Pa [Il e.Losses.Lo,Il e.Losses.Hi,Il e.Premiums.Lo,Il e.Premiums.Hi,Il e.Parcels,.bool e.Exempt];have Wa:=Ra.k A;have Xa:=Sa.k A;have ca:=Ta.k A;have d:=d.k A;refine⟨Ua,Va,?_⟩;refine⟨trivial,_,ca.bk.rc rfl,trivial,_,_,p.bk.rp (k:=0) (j:=2) rfl (by omega),?_⟩;obtain⟨da,Ya,hp⟩:=zqq hp;refine zws (r:=e.Losses) ba.pre  Ya fun Ib Za=>?_;obtain⟨ea,q⟩:=ba.call Za aa;have ab:=Wa.k q;have bb:=Xa.k q;have fa:=ca.k q;have B:=p.k q;have d:=d.k q;refine⟨_,_,rfl,(by rw[show cmC _=true from zoV (d.noFn)]; exact(fa.bk.rc rfl)),trivial,_,_,B.bk.rp (k:=2) (j:=2) rfl (by omega),(p.bk.rp (k:=2) (j:=2) rfl (by omega)),?_⟩;obtain⟨ga,cb,hp⟩:=zqq hp;refine zws (r:=e.Premiums) ea.pre  cb fun Jb db=>?_;obtain⟨eb,s⟩:=ea.call db aa;have fb:=ab.k s;have gb:=bb.k s;have F:=fa.k s;have ha:=B.k s;have d:=d.k s;refine⟨_,_,rfl,(by rw[show cmC _=true from zoV (d.noFn)]; exact(F.bk.rc rfl)),trivial,_,ha.bk.rc rfl,(B.bk.rc rfl),(p.bk.rc rfl),trivial,_,ha.bk.rc rfl,(B.bk.rc rfl),(p.bk.rc rfl),?_⟩;obtain⟨hb,hp⟩:=zqr hp;intro Kb ia;refine⟨(by rw[show cmC _=true from zoV (d.noFn)]; exact(F.bk.ext (Bk.new ia).2).rc rfl),?_⟩;obtain⟨G,ib,jb,kb,mb,I,J⟩:=d.app' zwi eb (a:=({ Losses:=da,Premiums:=ga,Parcels:=e.Parcels,Exempt:=e.Exempt }:Yr)) (show Rp.rep (α:=Yr) f _ ({ Losses:=da,Premiums:=ga,Parcels:=e.Parcels,Exempt:=e.Exempt }:Yr) from rfl) hb ia
   have ob:=fb.k I;have pb:=gb.k I;have qb:=F.k I;refine⟨G,ib,kb,?_⟩;refine⟨trivial,?_⟩;obtain⟨rb,sb,tb,N,O⟩:=qb.sto1 mb 1 G (by simp) rfl
   replace O:Lb _ _ _ _ _ _ _ [Il l,G]:=O
   have ub:=ob.k N;have vb:=pb.k N;have J:=J.k N;refine⟨rb,sb,?_⟩;refine gdi hp fun wb hp=>?_;exact xb _ _ _ _ _ jb tb ub vb O J hp
 exact hgo _ _ _ _ _ _ va Ca h o n (Ow.nil _ _ _ _ _) hp
theorem zwv{r:Rl}{z:Zn}{ca105 ca201:C}{m f:M}{Q:V->M->Prop}{rz:Bool}(hS:Pre f m)(ha105:Sl f ca105 r.Price)(ha201:Sl f ca201 z.Years)(hp:zt4 r z=some rz)(hq:∀m',Ext m m'->Q (.c (.bool rz)) m'):Wc prog tbl 17 [.agg 6 [Il r.Classes,Il r.Good,Il r.Bad,Il r.Rest,Il r.Fewest,ca105],.agg 2 [Il z.First,ca201]] m Q:=by
 have s:=hS.st;obtain⟨t,_⟩:=zr1;refine w17 ?_;unfold zt4 at hp;intro u d;obtain⟨e,g,p,h⟩:=s.blk d t 1;intro w i;obtain⟨q,a,j,l⟩:=g.blk i e 2;have n:=h.k j;refine⟨trivial,_,n.bk.rc rfl,ha105.isSl,?_⟩
 try rw[ha105.slLen]
 refine ifd hp (fun o hp=>?_) fun o hp=>?_; rotate_left
 ·obtain rfl:=oi hp;exact hq _ a.ext'
 refine⟨trivial,_,l.bk.rc rfl,ha201.isSl,?_⟩
 try rw[ha201.slLen]
 obtain rfl:=oi hp;exact hq _ a.ext'
theorem zww{r:Rl}{z:Zn}{ca105 ca201:C}{m f:M}{Q:V->M->Prop}{rz:Int}(hS:Pre f m)(ha105:Sl f ca105 r.Price)(ha201:Sl f ca201 z.Years)(hp:zt5 r z=some rz)(hq:∀m',Ext m m'->Q (.c (Il rz)) m'):Wc prog tbl 24 [.agg 6 [Il r.Classes,Il r.Good,Il r.Bad,Il r.Rest,Il r.Fewest,ca105],.agg 2 [Il z.First,ca201]] m Q:=by
 have y:=hS.st;obtain⟨A,_⟩:=zr1;refine w24 ?_;unfold zt5 at hp;intro D d;obtain⟨e,g,t,h⟩:=y.blk d A 1;intro F i;obtain⟨j,a,l,n⟩:=g.blk i e 2;have o:=h.k l;refine⟨_,_,_,_,_,_,o.bk.ra,_,_,n.bk.ra,?_⟩;obtain⟨u,p,hp⟩:=zqq hp;refine zuI (r:=r) (z:=z) a.pre ha105 ha201 p fun B q=>?_;obtain⟨s,w⟩:=a.call q j;refine⟨_,rfl,?_⟩;obtain rfl:=oi hp;exact hq _ s.ext'
theorem zwx{low:Int}{high:Int}{m f:M}{Q:V->M->Prop}{rz:Rg}(hS:Pre f m)(hp:zt7 low high=some rz)(hq:∀m',Ext m m'->Q (.agg 2 [Il rz.Lo,Il rz.Hi]) m'):Wc prog tbl 48 [.c (Il low),.c (Il high)] m Q:=by
 have p:=hS.st;obtain⟨q,_⟩:=zr1;refine w48 ?_;unfold zt7 at hp;intro r a;obtain⟨l,d,n,e⟩:=p.blk a q 1;obtain⟨g,h,i,o,j⟩:=e.sto d [Il low,Il high];refine⟨g,h,?_⟩;refine⟨_,_,j.bk.ra,?_⟩;obtain rfl:=oi hp;exact hq _ i.ext'
theorem zwy{m f:M}{Q:V->M->Prop}{rz:Rl}(hS:Pre f m)(hp:zt8=some rz)(hq:∀m' f' c5,Grw m f m' f'->Sl f' c5 rz.Price->Q (.agg 6 [Il rz.Classes,Il rz.Good,Il rz.Bad,Il rz.Rest,Il rz.Fewest,c5]) m'):Wc prog tbl 42 [] m Q:=by
 have G:=hS.st;obtain⟨I,_⟩:=zr1;refine w42 ?_;unfold zt8 at hp;intro A d;obtain⟨e,g,B,h⟩:=G.blk d I 1;intro J i;obtain⟨D,j,n,o⟩:=g.blk i e 2;have p:=h.k n;obtain⟨q,r,s,t,u⟩:=p.sto j [(Il (4:Int)),(Il (40:Int)),(Il (120:Int)),(Il (1:Int)),(Il (5:Int)),(C.sl A.nxt 0 4 0 (Option.some 4))];have w:=o.k t;refine⟨q,r,?_⟩;refine⟨_,_,_,_,_,_,u.bk.ra,?_⟩;obtain⟨a,y,F,c⟩:=w.freeze s;have z:Sl a (C.sl A.nxt 0 4 0 (Option.some 4)) ([(10:Int),(20:Int),(40:Int),(80:Int)]:List Int):=Bk.sl (α:=Int) (l:=([(10:Int),(20:Int),(40:Int),(80:Int)]:List Int)) c (show Cat (α:=Int) a [(Il (10:Int)),(Il (20:Int)),(Il (40:Int)),(Il (80:Int))] ([(10:Int),(20:Int),(40:Int),(80:Int)]:List Int) from ⟨[(Il (10:Int))],_,rfl,rfl,⟨[(Il (20:Int))],_,rfl,rfl,⟨[(Il (40:Int))],_,rfl,rfl,⟨[(Il (80:Int))],_,rfl,rfl,rfl⟩⟩⟩⟩) rfl rfl _;obtain rfl:=oi hp;exact hq _ a (C.sl A.nxt 0 4 0 (Option.some 4)) y.grw z
theorem zwz{m f:M}{Q:V->M->Prop}{rz:Zn}(hS:Pre f m)(hp:zt9=some rz)(hq:∀m' f' c1,Grw m f m' f'->Sl f' c1 rz.Years->Q (.agg 2 [Il rz.First,c1]) m'):Wc prog tbl 43 [] m Q:=by
 have S0:=hS.st;obtain⟨τ0,_⟩:=zr1;refine w43 ?_;unfold zt9 at hp;intro m0 I;obtain⟨a,r,Wa,J⟩:=S0.blk I τ0 1;obtain⟨c,N,hp⟩:=zqq hp;refine zwx (low:=(50:Int)) (high:=(50:Int)) r.pre  N fun m2 O=>?_;obtain⟨s,P⟩:=r.call O a;have S:=J.k P;refine⟨_,_,rfl,?_⟩;obtain⟨d,T,hp⟩:=zqq hp;refine zwx (low:=(100:Int)) (high:=(102:Int)) s.pre  T fun m6 Y=>?_;obtain⟨t,Z⟩:=s.call Y a;have aa:=S.k Z;refine⟨_,_,rfl,?_⟩;obtain⟨e,ba,hp⟩:=zqq hp;refine zwx (low:=(130:Int)) (high:=(131:Int)) t.pre  ba fun bb ca=>?_;obtain⟨u,da⟩:=t.call ca a;have ea:=aa.k da;refine⟨_,_,rfl,?_⟩;obtain⟨g,fa,hp⟩:=zqq hp;refine zwx (low:=(108:Int)) (high:=(109:Int)) u.pre  fa fun cb ga=>?_;obtain⟨w,ha⟩:=u.call ga a;have ia:=ea.k ha;refine⟨_,_,rfl,?_⟩;obtain⟨h,ja,hp⟩:=zqq hp;refine zwx (low:=(10:Int)) (high:=(10:Int)) w.pre  ja fun db ka=>?_;obtain⟨y,la⟩:=w.call ka a;have ma:=ia.k la;refine⟨_,_,rfl,?_⟩;obtain⟨i,na,hp⟩:=zqq hp;refine zwx (low:=(100:Int)) (high:=(100:Int)) y.pre  na fun eb oa=>?_;obtain⟨z,pa⟩:=y.call oa a;have qa:=ma.k pa;refine⟨_,_,rfl,?_⟩;obtain⟨j,sa,hp⟩:=zqq hp;refine zwx (low:=(30:Int)) (high:=(30:Int)) z.pre  sa fun fb ta=>?_;obtain⟨A,ua⟩:=z.call ta a;have va:=qa.k ua;refine⟨_,_,rfl,?_⟩;obtain⟨n,wa,hp⟩:=zqq hp;refine zwx (low:=(100:Int)) (high:=(100:Int)) A.pre  wa fun gb xa=>?_;obtain⟨B,ya⟩:=A.call xa a;have za:=va.k ya;refine⟨_,_,rfl,?_⟩;obtain⟨o,Aa,hp⟩:=zqq hp;refine zwx (low:=(39:Int)) (high:=(41:Int)) B.pre  Aa fun hb Ba=>?_
 obtain⟨D,Ca⟩:=B.call Ba a;have Da:=za.k Ca;refine⟨_,_,rfl,?_⟩;obtain⟨p,Ea,hp⟩:=zqq hp;refine zwx (low:=(100:Int)) (high:=(100:Int)) D.pre  Ea fun F Fa=>?_;obtain⟨Ga,Ha⟩:=D.call Fa a;have Ia:=Da.k Ha;refine⟨_,_,rfl,?_⟩;intro ib Ja;obtain⟨Xa,Ka,La,Ma⟩:=Ga.blk Ja a 2;have Na:=Ia.k La;obtain⟨Oa,Pa,Qa,Ra,Sa⟩:=Na.sto Ka [(Il (1:Int)),(C.sl F.nxt 0 5 0 (Option.some 5))];have Ta:=Ma.k Ra;refine⟨Oa,Pa,?_⟩;refine⟨_,_,Sa.bk.ra,?_⟩;obtain⟨q,Ua,Ya,G⟩:=Ta.freeze Qa;have Va:Sl q (C.sl F.nxt 0 5 0 (Option.some 5)) ([({ Losses:=c,Premiums:=d,Parcels:=(9:Int),Exempt:=false }:Yr),({ Losses:=e,Premiums:=g,Parcels:=(9:Int),Exempt:=false }:Yr),({ Losses:=h,Premiums:=i,Parcels:=(3:Int),Exempt:=false }:Yr),({ Losses:=j,Premiums:=n,Parcels:=(9:Int),Exempt:=false }:Yr),({ Losses:=o,Premiums:=p,Parcels:=(9:Int),Exempt:=false }:Yr)]:List Yr):=Bk.sl (α:=Yr) (l:=([({ Losses:=c,Premiums:=d,Parcels:=(9:Int),Exempt:=false }:Yr),({ Losses:=e,Premiums:=g,Parcels:=(9:Int),Exempt:=false }:Yr),({ Losses:=h,Premiums:=i,Parcels:=(3:Int),Exempt:=false }:Yr),({ Losses:=j,Premiums:=n,Parcels:=(9:Int),Exempt:=false }:Yr),({ Losses:=o,Premiums:=p,Parcels:=(9:Int),Exempt:=false }:Yr)]:List Yr)) G (show Cat (α:=Yr) q [Il c.Lo,Il c.Hi,Il d.Lo,Il d.Hi,(Il (9:Int)),.bool false,Il e.Lo,Il e.Hi,Il g.Lo,Il g.Hi,(Il (9:Int)),.bool false,Il h.Lo,Il h.Hi,Il i.Lo,Il i.Hi,(Il (3:Int)),.bool false,Il j.Lo,Il j.Hi,Il n.Lo,Il n.Hi,(Il (9:Int)),.bool false,Il o.Lo,Il o.Hi,Il p.Lo,Il p.Hi,(Il (9:Int)),.bool false] ([({ Losses:=c,Premiums:=d,Parcels:=(9:Int),Exempt:=false }:Yr),({ Losses:=e,Premiums:=g,Parcels:=(9:Int),Exempt:=false }:Yr),({ Losses:=h,Premiums:=i,Parcels:=(3:Int),Exempt:=false }:Yr),({ Losses:=j,Premiums:=n,Parcels:=(9:Int),Exempt:=false }:Yr),({ Losses:=o,Premiums:=p,Parcels:=(9:Int),Exempt:=false }:Yr)]:List Yr) from ⟨[Il c.Lo,Il c.Hi,Il d.Lo,Il d.Hi,(Il (9:Int)),.bool false],_,rfl,rfl,⟨[Il e.Lo,Il e.Hi,Il g.Lo,Il g.Hi,(Il (9:Int)),.bool false],_,rfl,rfl,⟨[Il h.Lo,Il h.Hi,Il i.Lo,Il i.Hi,(Il (3:Int)),.bool false],_,rfl,rfl,⟨[Il j.Lo,Il j.Hi,Il n.Lo,Il n.Hi,(Il (9:Int)),.bool false],_,rfl,rfl,⟨[Il o.Lo,Il o.Hi,Il p.Lo,Il p.Hi,(Il (9:Int)),.bool false],_,rfl,rfl,rfl⟩⟩⟩⟩⟩) rfl rfl _
 obtain rfl:=oi hp;exact hq _ q (C.sl F.nxt 0 5 0 (Option.some 5)) Ua.grw Va
theorem zwA{m f:M}{Q:V->M->Prop}{rz:Bool}(hS:Pre f m)(hp:zua=some rz)(hq:∀m',Ext m m'->Q (.c (.bool rz)) m'):Wc prog tbl 18 [] m Q:=by
 have S0:=hS.st;obtain⟨g,_⟩:=zr1;refine w18 ?_;unfold zua at hp;obtain⟨Ga,Ha,hp⟩:=zqq hp;refine zwy S0.pre  Ha fun m1 Td Ud Ia Ja=>?_;obtain⟨F,Vd⟩:=S0.callG Ia g;refine⟨_,_,_,_,_,_,rfl,?_⟩;obtain⟨Ka,La,hp⟩:=zqq hp;refine zwz F.pre  La fun m9 Wd Xd Ma Na=>?_;obtain⟨G,Oa⟩:=F.callG Ma g;refine⟨_,_,rfl,?_⟩;obtain⟨Pa,Qa,hp⟩:=zqq hp;refine zwm (r:=Ga) (z:=Ka) (year:=(3:Int)) G.pre (Ja.sub Oa.fs) Na Qa fun hf Yd Zd Ra Sa=>?_;obtain⟨I,ae⟩:=G.callG Ra g;refine⟨_,_,rfl,?_⟩;obtain⟨Ta,Ua,hp⟩:=zqq hp;refine zwy I.pre  Ua fun jf be ce Va Wa=>?_;obtain⟨J,Xa⟩:=I.callG Va g;refine⟨_,_,_,_,_,_,rfl,?_⟩;obtain⟨Ya,Za,hp⟩:=zqq hp;refine zwz J.pre  Za fun kf de ee ab bb=>?_;obtain⟨N,O⟩:=J.callG ab g;refine⟨_,_,rfl,?_⟩;obtain⟨cb,db,hp⟩:=zqq hp;refine zwm (r:=Ta) (z:=Ya) (year:=(4:Int)) N.pre (Wa.sub O.fs) bb db fun lf fe ge eb fb=>?_;obtain⟨P,gb⟩:=N.callG eb g;refine⟨_,_,rfl,?_⟩;obtain⟨hb,ib,hp⟩:=zqq hp;refine zwy P.pre  ib fun mf he ie jb kb=>?_;obtain⟨S,T⟩:=P.callG jb g;refine⟨_,_,_,_,_,_,rfl,?_⟩;obtain⟨mb,ob,hp⟩:=zqq hp;refine zwz S.pre  ob fun nf je ke pb qb=>?_;obtain⟨Y,q⟩:=S.callG pb g;refine⟨_,_,rfl,?_⟩;obtain⟨me,rb,hp⟩:=zqq hp;refine zwn (r:=hb) (z:=mb) (year:=(0:Int)) Y.pre (kb.sub q.fs) qb rb fun pf sb=>?_;obtain⟨Z,oe⟩:=Y.call sb g;refine⟨_,_,rfl,?_⟩;obtain⟨tb,ub,hp⟩:=zqq hp;refine zwy Z.pre  ub fun qf pe qe vb wb=>?_;obtain⟨aa,ba⟩:=Z.callG vb g;refine⟨_,_,_,_,_,_,rfl,?_⟩;obtain⟨xb,yb,hp⟩:=zqq hp;refine zwz aa.pre  yb fun rf re se zb Ab=>?_
 obtain⟨ca,s⟩:=aa.callG zb g;refine⟨_,_,rfl,?_⟩;obtain⟨te,Bb,hp⟩:=zqq hp;refine zwn (r:=tb) (z:=xb) (year:=(3:Int)) ca.pre (wb.sub s.fs) Ab Bb fun sf Cb=>?_;obtain⟨da,ue⟩:=ca.call Cb g;refine⟨_,_,rfl,?_⟩;obtain⟨Db,Eb,hp⟩:=zqq hp;refine zwy da.pre  Eb fun tf ve we Fb Gb=>?_;obtain⟨ea,fa⟩:=da.callG Fb g;refine⟨_,_,_,_,_,_,rfl,?_⟩;obtain⟨Hb,Ib,hp⟩:=zqq hp;refine zwz ea.pre  Ib fun uf xe ye Jb Kb=>?_;obtain⟨ga,t⟩:=ea.callG Jb g;refine⟨_,_,rfl,?_⟩;obtain⟨ha,Mb,hp⟩:=zqq hp;refine zwo (r:=Db) (z:=Hb) ga.pre (Gb.sub t.fs) Kb Mb fun vf Nb=>?_;obtain⟨Ob,ze⟩:=ga.call Nb g;refine⟨_,_,_,rfl,?_⟩;intro wf Pb;obtain⟨e,Qb,Ae,Rb⟩:=Ob.blk Pb g 1;obtain⟨Sb,Tb,ia,Be,Ub⟩:=Rb.sto Qb [Il ha.1.Lo,Il ha.1.Hi];refine⟨Sb,Tb,?_⟩;obtain⟨Vb,Wb,hp⟩:=zqq hp;refine zwy ia.pre  Wb fun xf Ce De Xb Yb=>?_;obtain⟨ja,u⟩:=ia.callG Xb e;have Zb:=Ub.k u;refine⟨_,_,_,_,_,_,rfl,?_⟩;obtain⟨ac,bc,hp⟩:=zqq hp;refine zwz ja.pre  bc fun yf Ee Fe cc dc=>?_;obtain⟨ka,j⟩:=ja.callG cc e;have ec:=Zb.k j;refine⟨_,_,rfl,?_⟩;obtain⟨fc,gc,hp⟩:=zqq hp;refine zwp (r:=Vb) (z:=ac) ka.pre (Yb.sub j.fs) dc gc fun zf Ge He hc ic=>?_;obtain⟨la,w⟩:=ka.callG hc e;have jc:=ec.k w;refine⟨_,_,rfl,?_⟩;obtain⟨kc,nc,hp⟩:=zqq hp;refine zwy la.pre  nc fun Ye Ie Je oc pc=>?_;obtain⟨ma,n⟩:=la.callG oc e;have qc:=jc.k n;refine⟨_,_,_,_,_,_,rfl,?_⟩;obtain⟨sc,tc,hp⟩:=zqq hp;refine zwz ma.pre  tc fun Ze Ke Me uc vc=>?_;obtain⟨na,h⟩:=ma.callG uc e;have wc:=qc.k h;refine⟨_,_,rfl,?_⟩;obtain⟨xc,yc,hp⟩:=zqq hp
 refine zwq (r:=kc) (z:=sc) (class_:=(3:Int)) na.pre (pc.sub h.fs) vc yc fun Od Ne Oe zc Ac=>?_;obtain⟨oa,o⟩:=na.callG zc e;have Bc:=wc.k o;refine⟨_,_,rfl,?_⟩;refine ifd hp (fun Cc hp=>?_) fun Cc hp=>?_; rotate_left
 ·obtain rfl:=oi hp;exact hq _ oa.ext'
 intro af Dc;obtain⟨pa,Ec,Fc,Gc⟩:=oa.blk Dc e 2;have Hc:=Bc.k Fc;obtain⟨qa,sa,i,Ca⟩:=Gc.freeze Ec;have Ic:=Hc.k i;have Jc:Sl qa (C.sl Od.nxt 0 2 0 (Option.some 2)) ([(0:Int),(2:Int)]:List Int):=Bk.sl (α:=Int) (l:=([(0:Int),(2:Int)]:List Int)) Ca (show Cat (α:=Int) qa [Il 0,(Il (2:Int))] ([(0:Int),(2:Int)]:List Int) from ⟨[Il 0],_,rfl,rfl,⟨[(Il (2:Int))],_,rfl,rfl,rfl⟩⟩) rfl rfl _;obtain⟨Pe,Kc,hp⟩:=zqq hp;refine zuV (a:=Pa.1) (b:=([(0:Int),(2:Int)]:List Int)) sa.pre (Sa.sub (Sub.trans (Sub.trans (Sub.trans (Sub.trans (Sub.trans (Sub.trans (Sub.trans (Sub.trans (Sub.trans (Sub.trans (Sub.trans (Sub.trans (Sub.trans (Sub.trans (Sub.trans Xa.fs O.fs) gb.fs) T.fs) q.fs) ba.fs) s.fs) fa.fs) t.fs) u.fs) j.fs) w.fs) n.fs) h.fs) o.fs) i.fs)) Jc Kc fun Pd Nc=>?_;obtain⟨y,Oc⟩:=sa.call Nc pa;have Pc:=Ic.k Oc;refine⟨_,rfl,?_⟩;refine zqU hp (fun Qc hp=>?_) fun Qc hp=>?_; rotate_left
 ·obtain rfl:=oi hp;exact hq _ y.ext'
 refine ifd hp (fun Rc hp=>?_) fun Rc hp=>?_; rotate_left
 ·obtain rfl:=oi hp;exact hq _ y.ext'
 intro bf Tc;obtain⟨A,Uc,Vc,Xc⟩:=y.blk Tc pa 3;have Yc:=Pc.k Vc;obtain⟨ta,ua,p,Da⟩:=Xc.freeze Uc;have Zc:=Yc.k p;have ad:Sl ta (C.sl Pd.nxt 0 3 0 (Option.some 3)) ([(0:Int),(1:Int),(2:Int)]:List Int):=Bk.sl (α:=Int) (l:=([(0:Int),(1:Int),(2:Int)]:List Int)) Da (show Cat (α:=Int) ta [Il 0,(Il (1:Int)),(Il (2:Int))] ([(0:Int),(1:Int),(2:Int)]:List Int) from ⟨[Il 0],_,rfl,rfl,⟨[(Il (1:Int))],_,rfl,rfl,⟨[(Il (2:Int))],_,rfl,rfl,rfl⟩⟩⟩) rfl rfl _;obtain⟨Qe,bd,hp⟩:=zqq hp;refine zuV (a:=cb.1) (b:=([(0:Int),(1:Int),(2:Int)]:List Int)) ua.pre (fb.sub (Sub.trans (Sub.trans (Sub.trans (Sub.trans (Sub.trans (Sub.trans (Sub.trans (Sub.trans (Sub.trans (Sub.trans (Sub.trans (Sub.trans (Sub.trans T.fs q.fs) ba.fs) s.fs) fa.fs) t.fs) u.fs) j.fs) w.fs) n.fs) h.fs) o.fs) i.fs) p.fs)) ad bd fun cf cd=>?_;obtain⟨d,dd⟩:=ua.call cd A;have va:=Zc.k dd;refine⟨_,rfl,?_⟩;refine zqU hp (fun ed hp=>?_) fun ed hp=>?_; rotate_left
 ·obtain rfl:=oi hp;exact hq _ d.ext'
 refine ifd hp (fun fd hp=>?_) fun fd hp=>?_; rotate_left
 ·obtain rfl:=oi hp;exact hq _ d.ext'
 refine ifd hp (fun hd hp=>?_) fun hd hp=>?_; rotate_left
 ·obtain rfl:=oi hp;exact hq _ d.ext'
 refine ifd hp (fun id hp=>?_) fun id hp=>?_; rotate_left
 ·obtain rfl:=oi hp;exact hq _ d.ext'
 refine ifd hp (fun jd hp=>?_) fun jd hp=>?_; rotate_left
 ·obtain rfl:=oi hp;exact hq _ d.ext'
 refine ifd hp (fun kd hp=>?_) fun kd hp=>?_; rotate_left
 ·obtain rfl:=oi hp;exact hq _ d.ext'
 refine⟨_,_,va.bk.ra,?_⟩;obtain⟨Re,ld,hp⟩:=zqq hp;refine zwx (low:=(10:Int)) (high:=(40:Int)) d.pre  ld fun Qd md=>?_;obtain⟨B,nd⟩:=d.call md A;have od:=va.k nd;refine⟨_,_,rfl,(od.bk.ra),?_⟩;refine gdi hp fun pd hp=>?_;refine gdi hp fun qd hp=>?_;refine gdi hp fun sd hp=>?_;refine gdi hp fun td hp=>?_;refine zqU hp (fun ud hp=>?_) fun ud hp=>?_; rotate_left
 ·obtain rfl:=oi hp;exact hq _ B.ext'
 refine ifd hp (fun vd hp=>?_) fun vd hp=>?_; rotate_left
 ·obtain rfl:=oi hp;exact hq _ B.ext'
 intro df wd;obtain⟨wa,xd,Se,yd⟩:=B.blk wd A 4;obtain⟨xa,ya,za,Ea⟩:=yd.freeze xd;have zd:Sl xa (C.sl Qd.nxt 0 2 0 (Option.some 2)) ([(1:Int),(4:Int)]:List Int):=Bk.sl (α:=Int) (l:=([(1:Int),(4:Int)]:List Int)) Ea (show Cat (α:=Int) xa [(Il (1:Int)),(Il (4:Int))] ([(1:Int),(4:Int)]:List Int) from ⟨[(Il (1:Int))],_,rfl,rfl,⟨[(Il (4:Int))],_,rfl,rfl,rfl⟩⟩) rfl rfl _;obtain⟨Te,Ad,hp⟩:=zqq hp;refine zuV (a:=fc.1) (b:=([(1:Int),(4:Int)]:List Int)) ya.pre (ic.sub (Sub.trans (Sub.trans (Sub.trans (Sub.trans (Sub.trans n.fs h.fs) o.fs) i.fs) p.fs) za.fs)) zd Ad fun Rd Bd=>?_;obtain⟨D,Ue⟩:=ya.call Bd wa;refine⟨_,rfl,?_⟩;refine zqU hp (fun Cd hp=>?_) fun Cd hp=>?_; rotate_left
 ·obtain rfl:=oi hp;exact hq _ D.ext'
 refine ifd hp (fun Dd hp=>?_) fun Dd hp=>?_; rotate_left
 ·obtain rfl:=oi hp;exact hq _ D.ext'
 intro ef Ed;obtain⟨Fd,Gd,Ve,Hd⟩:=D.blk Ed wa 5;obtain⟨Aa,Ba,Id,Fa⟩:=Hd.freeze Gd;have Jd:Sl Aa (C.sl Rd.nxt 0 1 0 (Option.some 1)) ([(0:Int)]:List Int):=Bk.sl (α:=Int) (l:=([(0:Int)]:List Int)) Fa (show Cat (α:=Int) Aa [Il 0] ([(0:Int)]:List Int) from ⟨[Il 0],_,rfl,rfl,rfl⟩) rfl rfl _;obtain⟨We,Ld,hp⟩:=zqq hp;refine zuV (a:=xc.1) (b:=([(0:Int)]:List Int)) Ba.pre (Ac.sub (Sub.trans (Sub.trans (Sub.trans i.fs p.fs) za.fs) Id.fs)) Jd Ld fun gf Md=>?_;obtain⟨Nd,Xe⟩:=Ba.call Md Fd;refine⟨_,rfl,?_⟩;obtain rfl:=oi hp;exact hq _ Nd.ext'
theorem zwB{r:Rl}{z:Zn}{class_:Int}{ca105 ca201:C}{m f:M}{Q:V->M->Prop}{rz:Bool}(hS:Pre f m)(ha105:Sl f ca105 r.Price)(ha201:Sl f ca201 z.Years)(hp:zuc r z class_=some rz)(hq:∀m',Ext m m'->Q (.c (.bool rz)) m'):Wc prog tbl 6 [.agg 6 [Il r.Classes,Il r.Good,Il r.Bad,Il r.Rest,Il r.Fewest,ca105],.agg 2 [Il z.First,ca201],.c (Il class_)] m Q:=by
 have S0:=hS.st;obtain⟨τ0,_⟩:=zr1;refine w6 ?_;unfold zuc at hp;intro m0 T;obtain⟨Y,Z,pb,aa⟩:=S0.blk T τ0 1;intro m1 ba;obtain⟨d,u,ca,w⟩:=Z.blk ba Y 2;have y:=aa.k ca;refine⟨_,_,_,_,_,_,y.bk.ra,_,_,w.bk.ra,?_⟩;obtain⟨qb,da,hp⟩:=zqq hp;refine zwv (r:=r) (z:=z) u.pre ha105 ha201 da fun Sb ea=>?_;obtain⟨j,A⟩:=u.call ea d;have B:=y.k A;have q:=w.k A;refine⟨_,rfl,?_⟩;refine zqV hp (fun fa hp=>?_) fun fa hp=>?_
 ·obtain⟨rb,ga,hp⟩:=zqq hp;refine zwA j.pre  ga fun Tb ha=>?_;obtain⟨ia,sb⟩:=j.call ha d;refine⟨_,rfl,?_⟩;obtain rfl:=oi hp;exact hq _ ia.ext'
 refine⟨trivial,_,q.bk.rc rfl,ha201.isSl,?_⟩
 try rw[ha201.slLen]
 refine ifd hp (fun ja hp=>?_) fun ja hp=>?_
 ·obtain⟨tb,ka,hp⟩:=zqq hp;refine zwA j.pre  ka fun Ub la=>?_;obtain⟨ma,ub⟩:=j.call la d;refine⟨_,rfl,?_⟩;obtain rfl:=oi hp;exact hq _ ma.ext'
 refine⟨_,_,_,_,_,_,B.bk.ra,?_⟩;obtain⟨na,oa,hp⟩:=zqq hp;refine zwt (r:=r) j.pre ha105 oa fun Vb vb wb pa qa=>?_;obtain⟨D,e⟩:=j.callG pa d;have sa:=B.k e;have F:=q.k e;refine⟨_,_,_,_,_,_,rfl,_,_,F.bk.ra,(by rw[show zaL cmC _=true from zoW (zqu rfl (zqu ha201.noFn zqv))]; exact(q.bk.ra)),?_⟩;obtain⟨ta,ua,hp⟩:=zqq hp;refine zwu (z:=z) D.pre (ha201.sub e.fs) ua fun Wb xb yb va wa=>?_;obtain⟨G,g⟩:=D.callG va d;have xa:=sa.k g;have ya:=F.k g;refine⟨_,_,rfl,?_⟩;obtain⟨za,Aa,hp⟩:=zqq hp;refine zwq (r:=na) (z:=ta) (class_:=class_) G.pre (qa.sub g.fs) wa Aa fun Xb zb Ab Ba h=>?_;obtain⟨I,l⟩:=G.callG Ba d;have J:=xa.k l;have N:=ya.k l;refine⟨_,_,rfl,_,_,_,_,_,_,J.bk.ra,_,_,N.bk.ra,?_⟩;obtain⟨Bb,Ca,hp⟩:=zqq hp;refine zww (r:=r) (z:=z) I.pre (ha105.sub (Sub.trans (Sub.trans e.fs g.fs) l.fs)) (ha201.sub (Sub.trans (Sub.trans e.fs g.fs) l.fs)) Ca fun Yb Da=>?_;obtain⟨o,O⟩:=I.call Da d;have P:=J.k O;have Ea:=N.k O;refine⟨_,rfl,?_⟩;refine ifd hp (fun s hp=>?_) fun s hp=>?_; rotate_left
 ·refine zqX s ?_;refine ifd hp (fun Fa hp=>?_) fun Fa hp=>?_; rotate_left
  ·obtain rfl:=oi hp;exact hq _ o.ext'
  refine⟨h.isSl,?_⟩
  try rw[h.slLen]
  refine ifd hp (fun Ga hp=>?_) fun Ga hp=>?_; rotate_left
  ·obtain rfl:=oi hp;exact hq _ o.ext'
  obtain⟨Cb,Ha,hp⟩:=zqq hp;refine zwA o.pre  Ha fun Zb Ia=>?_;obtain⟨Ja,Db⟩:=o.call Ia d;refine⟨_,rfl,?_⟩;obtain rfl:=oi hp;exact hq _ Ja.ext'
 refine⟨trivial,_,P.bk.rc rfl,?_⟩;refine gdi hp fun Ka hp=>?_;obtain⟨Eb,La,hp⟩:=zqq hp;refine zuG (n:=class_) (low:=(0:Int)) (high:=(r.Classes - (1:Int))) o.pre  La fun ac Ma=>?_;obtain⟨p,S⟩:=o.call Ma d;have Na:=P.k S;have Oa:=Ea.k S;refine⟨_,rfl,?_⟩;refine zqV hp (fun Pa hp=>?_) fun Pa hp=>?_
 ·refine ifd hp (fun Qa hp=>?_) fun Qa hp=>?_; rotate_left
  ·obtain rfl:=oi hp;exact hq _ p.ext'
  refine⟨h.isSl,?_⟩
  try rw[h.slLen]
  refine ifd hp (fun Ra hp=>?_) fun Ra hp=>?_; rotate_left
  ·obtain rfl:=oi hp;exact hq _ p.ext'
  obtain⟨Fb,Sa,hp⟩:=zqq hp;refine zwA p.pre  Sa fun bc Ta=>?_;obtain⟨Ua,Gb⟩:=p.call Ta d;refine⟨_,rfl,?_⟩;obtain rfl:=oi hp;exact hq _ Ua.ext'
 refine zqW s ?_;refine⟨_,_,_,_,_,_,Na.bk.ra,_,_,Oa.bk.ra,?_⟩;obtain⟨Va,Wa,hp⟩:=zqq hp;refine zuU (r:=r) (z:=z) (class_:=class_) p.pre (ha105.sub (Sub.trans (Sub.trans e.fs g.fs) l.fs)) (ha201.sub (Sub.trans (Sub.trans e.fs g.fs) l.fs)) Wa fun cc Hb Ib Xa Ya=>?_;obtain⟨i,Za⟩:=p.callG Xa d;refine⟨_,_,rfl,?_⟩;refine zqV hp (fun ab hp=>?_) fun ab hp=>?_
 ·refine ifd hp (fun bb hp=>?_) fun bb hp=>?_; rotate_left
  ·obtain rfl:=oi hp;exact hq _ i.ext'
  refine⟨h.isSl,?_⟩
  try rw[h.slLen]
  refine ifd hp (fun cb hp=>?_) fun cb hp=>?_; rotate_left
  ·obtain rfl:=oi hp;exact hq _ i.ext'
  obtain⟨Jb,db,hp⟩:=zqq hp;refine zwA i.pre  db fun dc eb=>?_;obtain⟨fb,Kb⟩:=i.call eb d;refine⟨_,rfl,?_⟩;obtain rfl:=oi hp;exact hq _ fb.ext'
 refine ifd hp (fun gb hp=>?_) fun gb hp=>?_; rotate_left
 ·obtain rfl:=oi hp;exact hq _ i.ext'
 obtain⟨Mb,hb,hp⟩:=zqq hp;refine zuV (a:=za.1) (b:=Va.1) i.pre (h.sub Za.fs) Ya hb fun ec ib=>?_;obtain⟨t,Nb⟩:=i.call ib d;refine⟨_,rfl,?_⟩;refine zqU hp (fun jb hp=>?_) fun jb hp=>?_; rotate_left
 ·obtain rfl:=oi hp;exact hq _ t.ext'
 obtain⟨Ob,kb,hp⟩:=zqq hp;refine zwA t.pre  kb fun fc mb=>?_;obtain⟨ob,Pb⟩:=t.call mb d;refine⟨_,rfl,?_⟩;obtain rfl:=oi hp;exact hq _ ob.ext'
def Inc(n fr:Nat)(T:List Int):Prop:=T.Pairwise (· < ·)/\∀v∈T,(fr:Int)<=v/\v < n
theorem Inc.cons{n fr:Nat}{x:Int}{T:List Int}:Inc n fr (x::T)↔((fr:Int)<=x/\x < n)/\Inc n (x+1).toNat T:=by
 unfold Inc;rw[List.pairwise_cons]
 constructor
 ·rintro⟨⟨h1,h2⟩,h3⟩
  have hx:=h3 x (List.mem_cons_self ..);exact⟨hx,h2,fun v hv=>by have:=h1 v hv; have:=h3 v (List.mem_cons_of_mem _ hv); omega⟩
 ·rintro⟨hx,h2,h3⟩
  refine⟨⟨fun v hv=>by have:=h3 v hv; omega,h2⟩,fun v hv=>?_⟩
  rcases List.mem_cons.1 hv with rfl | hv
  ·exact hx
  ·have:=h3 v hv; omega
theorem zwC{n:Nat}{D:List Int}:∀{d:Nat} {pre:List Int} {fr:Nat},D∈zro n d pre fr↔∃T,D=pre++T/\T.length=d/\Inc n fr T
 | 0,pre,fr=>by
  show D∈[pre]↔_
  rw[List.mem_singleton]
  constructor
  ·rintro rfl; exact⟨[],by simp,rfl,.nil,fun v hv=>by cases hv⟩
  ·rintro⟨T,h1,h2,_⟩
   rw[List.eq_nil_of_length_eq_zero h2,List.append_nil] at h1; exact h1
 | d+1,pre,fr=>by
  show D∈zrn (fun x=>zro n d (pre++[(x:Int)]) (x+1)) (n - fr) fr↔_
  rw[zvO]
  constructor
  ·rintro⟨x,h1,h2,h3⟩
   obtain⟨T,h4,h5,h6⟩:=zwC.1 h3;refine⟨(x:Int)::T,by rw[h4]; simp,by simp[h5],Inc.cons.2 ⟨by omega,?_⟩⟩;rw[show((x:Int)+1).toNat=x+1 by omega]; exact h6
  ·rintro⟨T,h1,h2,h3⟩
   cases T with
   | nil=>simp at h2
   | cons v T=>
    obtain⟨h4,h5⟩:=Inc.cons.1 h3;refine⟨v.toNat,by omega,by omega,zwC.2 ⟨T,?_,by simpa using h2,?_⟩⟩
    ·rw[show((v.toNat:Nat):Int)=v by omega,h1]; simp
    ·rw[show v.toNat+1=(v+1).toNat by omega]; exact h5
theorem zwD{n:Nat}:∀{T:List Int} {fr:Nat},Inc n fr T->T.length<=n - fr
 | [],_,_=>Nat.zero_le _
 | v::T,fr,h=>by
  obtain⟨h1,h2⟩:=Inc.cons.1 h;have:=zwD h2
  simp only[List.length_cons]
  omega
theorem zwE{n:Nat}{D:List Int}:D∈zoi n↔Inc n 0 D:=by
 unfold zoi;rw[zvO]
 constructor
 ·rintro⟨s,_,_,h⟩
  obtain⟨T,h1,_,h2⟩:=zwC.1 h;rw[h1]; exact h2
 ·intro h;have:=zwD h;exact⟨D.length,Nat.zero_le _,by omega,zwC.2 ⟨D,rfl,rfl,h⟩⟩
def inD(D:List Int)(j:Nat):Bool:=decide ((j:Int)∈D)
def zwF(b:Nat):Nat->List Int
 | 0=>[]
 | p+1=>zwF b p++(if b.testBit p then [(p:Int)] else [])
def zwG(b:Nat):List Int:=zwF b 16
theorem zwH{b:Nat}{v:Int}:∀{p:Nat},v∈zwF b p↔0<=v/\v < p/\b.testBit v.toNat=true
 | 0=>⟨fun h=>(by cases h),fun h=>by omega⟩
 | p+1=>by
  show v∈zwF b p++_↔_
  rw[List.mem_append,zwH]
  constructor
  ·rintro (h | h)
   ·exact⟨h.1,by omega,h.2.2⟩
   ·by_cases hb:b.testBit p=true
    ·rw[if_pos hb,List.mem_singleton] at h;subst h; exact⟨by omega,by omega,hb⟩
    ·rw[if_neg hb] at h; cases h
  ·rintro⟨h1,h2,h3⟩
   by_cases hv:v=(p:Int)
   ·subst hv;have h4:b.testBit p=true:=h3;rw[if_pos h4]; exact .inr (List.mem_singleton.2 rfl)
   ·exact .inl ⟨h1,by omega,h3⟩
theorem zwI{b:Nat}:∀p:Nat,(zwF b p).Pairwise (· < ·)
 | 0=>.nil
 | p+1=>by
  show(zwF b p++_).Pairwise _
  rw[List.pairwise_append];refine⟨zwI p,?_,fun a ha c hc=>?_⟩
  ·split
   ·exact List.pairwise_singleton _ _
   ·exact .nil
  ·have:=zwH.1 ha
   split at hc
   ·rw[List.mem_singleton] at hc; omega
   ·cases hc
theorem zwJ{b p:Nat}(h:∀q,p<=q->b.testBit q=false):∀k,zwF b (p+k)=zwF b p
 | 0=>rfl
 | k+1=>by
  show zwF b (p+k)++(if b.testBit (p+k) then _ else _)=_
  rw[h (p+k) (by omega),zwJ h k]; simp
theorem zwK{b:Nat}:∀p,(zwF b p).length<=p
 | 0=>Nat.le_refl _
 | p+1=>by
  show(zwF b p++_).length<=_
  rw[List.length_append];have:=zwK (b:=b) p
  split <;> simp <;> omega
theorem zjo{b p q:Nat}(h:b / 2 ^ p=0)(hq:p<=q):b.testBit q=false:=by
 have h1:b < 2 ^ p:=by
  rcases Nat.lt_or_ge b (2 ^ p) with h2 | h2
  ·exact h2
  ·have:=Nat.div_pos h2 (Nat.two_pow_pos p); omega
 exact Nat.testBit_lt_two_pow (Nat.lt_of_lt_of_le h1 (Nat.pow_le_pow_right (by omega) hq))
def bef:List Int->List Int->Bool
 | [],[]=>false
 | [],_::_=>true
 | _::_,[]=>false
 | x::a,y::b=>if x=y then bef a b else decide (x < y)
def shB(a b:List Int):Bool:=decide (a.length < b.length) || (decide (a.length=b.length) && bef a b)
theorem zwL:∀A:List Int,bef A A=false
 | []=>rfl
 | x::A=>by show(if x=x then bef A A else _)=_; rw[if_pos rfl,zwL A]
theorem zwM:∀{A B:List Int},bef A B=true->bef B A=false
 | [],[],h=>by cases h
 | [],_::_,_=>rfl
 | _::_,[],h=>by cases h
 | x::A,y::B,h=>by
  have h':(if x=y then bef A B else decide (x < y))=true:=h
  show(if y=x then bef B A else decide (y < x))=false
  by_cases hxy:x=y
  ·rw[if_pos hxy] at h'; rw[if_pos hxy.symm]; exact zwM h'
  ·rw[if_neg hxy] at h'; rw[if_neg fun h=>hxy h.symm];have:=of_decide_eq_true h';exact decide_eq_false (by omega)
theorem zwN:∀A B:List Int,A=B\/bef A B=true\/bef B A=true
 | [],[]=>.inl rfl
 | [],_::_=>.inr (.inl rfl)
 | _::_,[]=>.inr (.inr rfl)
 | x::A,y::B=>by
  show x::A=y::B\/(if x=y then bef A B else decide (x < y))=true\/(if y=x then bef B A else decide (y < x))=true
  by_cases hxy:x=y
  ·subst hxy;rw[if_pos rfl,if_pos rfl]
   rcases zwN A B with h | h | h
   ·exact .inl (by rw[h])
   ·exact .inr (.inl h)
   ·exact .inr (.inr h)
  ·rw[if_neg hxy,if_neg fun h=>hxy h.symm]
   by_cases h:x < y
   ·exact .inr (.inl (decide_eq_true h))
   ·exact .inr (.inr (decide_eq_true (by omega)))
theorem zwO:∀{A B E:List Int},bef A B=true->bef B E=true->bef A E=true
 | [],[],_,h,_=>by cases h
 | [],_::_,[],_,h=>by cases h
 | [],_::_,_::_,_,_=>rfl
 | _::_,[],_,h,_=>by cases h
 | _::_,_::_,[],_,h=>by cases h
 | x::A,y::B,z::E,h1,h2=>by
  have h1':(if x=y then bef A B else decide (x < y))=true:=h1;have h2':(if y=z then bef B E else decide (y < z))=true:=h2
  show(if x=z then bef A E else decide (x < z))=true
  by_cases hxy:x=y
  ·rw[if_pos hxy] at h1'
   by_cases hyz:y=z
   ·rw[if_pos hyz] at h2';rw[if_pos (hxy.trans hyz)]; exact zwO h1' h2'
   ·rw[if_neg hyz] at h2';rw[if_neg (by rw[hxy]; exact hyz)];have:=of_decide_eq_true h2';exact decide_eq_true (by omega)
  ·rw[if_neg hxy] at h1';have h3:=of_decide_eq_true h1'
   by_cases hyz:y=z
   ·rw[if_neg (by omega)]; exact decide_eq_true (by omega)
   ·rw[if_neg hyz] at h2';have:=of_decide_eq_true h2';rw[if_neg (by omega)]; exact decide_eq_true (by omega)
theorem zwP{A B:List Int}:shB A B=true↔A.length < B.length\/(A.length=B.length/\bef A B=true):=by
 unfold shB;rw[Bool.or_eq_true,Bool.and_eq_true,decide_eq_true_eq,decide_eq_true_eq]
theorem zwQ{A B E:List Int}(h1:shB A B=true)(h2:shB B E=true):shB A E=true:=by
 rw[zwP] at h1 h2 ⊢
 rcases h1 with h1 | ⟨h1,h3⟩
 ·rcases h2 with h2 | ⟨h2,_⟩
  ·exact .inl (by omega)
  ·exact .inl (by omega)
 ·rcases h2 with h2 | ⟨h2,h4⟩
  ·exact .inl (by omega)
  ·exact .inr ⟨by omega,zwO h3 h4⟩
theorem zwR(A B:List Int):A=B\/shB A B=true\/shB B A=true:=by
 rw[zwP,zwP]
 rcases Nat.lt_trichotomy A.length B.length with h | h | h
 ·exact .inr (.inl (.inl h))
 ·rcases zwN A B with h1 | h1 | h1
  ·exact .inl h1
  ·exact .inr (.inl (.inr ⟨h,h1⟩))
  ·exact .inr (.inr (.inr ⟨h.symm,h1⟩))
 ·exact .inr (.inr (.inl h))
theorem zwS{A B:List Int}(h:shB A B=true):shB B A=false:=by
 unfold shB at h ⊢;rw[Bool.or_eq_true,Bool.and_eq_true,decide_eq_true_eq,decide_eq_true_eq] at h
 rcases h with h | ⟨h1,h2⟩
 ·rw[decide_eq_false (by omega),decide_eq_false (by omega)]; rfl
 ·rw[decide_eq_false (by omega),zwM h2]; simp
theorem zwT(x y:Int)(A B:List Int)(hxy:x < y):∀pre:List Int,bef (pre++x::A) (pre++y::B)=true
 | []=>by show(if x=y then _ else decide (x < y))=true; rw[if_neg (by omega),decide_eq_true hxy]
 | p::pre=>by show(if p=p then bef (pre++x::A) (pre++y::B) else _)=true; rw[if_pos rfl]; exact zwT x y A B hxy pre
theorem zwU{α:Type}{R:α->α->Prop}(g:Nat->List α)(h1:∀x,(g x).Pairwise R)(h2:∀x y,x < y->∀a∈g x,∀b∈g y,R a b):∀e x,(zrn g e x).Pairwise R
 | 0,_=>.nil
 | e+1,x=>by
  show(g x++zrn g e (x+1)).Pairwise R
  rw[List.pairwise_append];refine⟨h1 x,zwU g h1 h2 e (x+1),fun a ha b hb=>?_⟩;obtain⟨j,h3,_,h4⟩:=(zvO g b e (x+1)).1 hb;exact h2 x j (by omega) a ha b h4
theorem zwV{n:Nat}:∀(d:Nat) (pre:List Int) (fr:Nat),(zro n d pre fr).Pairwise fun a b=>bef a b=true
 | 0,pre,fr=>List.pairwise_singleton _ _
 | d+1,pre,fr=>zwU _ (fun x=>zwV d _ _) (fun x y hxy a ha b hb=>by
  obtain⟨T,h1,_,_⟩:=zwC.1 ha;obtain⟨T',h2,_,_⟩:=zwC.1 hb;rw[h1,h2,List.append_assoc,List.append_assoc]
  exact zwT _ _ _ _ (by omega) pre) _ _
theorem zwW(n:Nat):(zoi n).Pairwise fun a b=>shB a b=true:=
 zwU _ (fun s=>(zwV s [] 0).imp_of_mem fun {a b} ha hb hab=>by
  have h1:=zvW ha;have h2:=zvW hb;unfold shB
  rw[hab,decide_eq_true (show a.length=b.length by omega)]; simp) (fun s s' hs a ha b hb=>by
  have h1:=zvW ha;have h2:=zvW hb;unfold shB
  rw[decide_eq_true (by omega)]; rfl) _ _
theorem zwX{t:List Int->Bool}:∀{l:List (List Int)},l.Pairwise (fun a b=>shB a b=true)->∀{D D':List Int},l.find? t=some D->D'∈l->t D'=true->D'=D\/shB D D'=true
 | [],_,_,_,h,_,_=>by cases h
 | a::l,hp,D,D',h,hm,ht=>by
  rw[List.pairwise_cons] at hp;rw[List.find?_cons] at h
  cases hta:t a with
  | true=>
   rw[hta] at h;have:a=D:=oi h;subst this
   rcases List.mem_cons.1 hm with rfl | h1
   ·exact .inl rfl
   ·exact .inr (hp.1 _ h1)
  | false=>
   rw[hta] at h
   rcases List.mem_cons.1 hm with rfl | h1
   ·rw[hta] at ht; cases ht
   ·exact zwX hp.2 h h1 ht
theorem zwY{n:Nat}{t:List Int->Bool}(h:∃D,Inc n 0 D/\t D=true):Inc n 0 (zrp n t)/\t (zrp n t)=true/\∀D,Inc n 0 D->t D=true->D=zrp n t\/shB (zrp n t) D=true:=by
 obtain⟨D0,h1,h2⟩:=h;unfold zrp
 cases hf:(zoi n).find? t with
 | none=>exact absurd h2 (by have:=List.find?_eq_none.1 hf D0 (zwE.2 h1); simpa using this)
 | some D=>exact⟨zwE.1 (List.mem_of_find?_eq_some hf),List.find?_some hf,fun D' h3 h4=>zwX (zwW n) hf (zwE.2 h3) h4⟩
theorem zwZ:∀(n:Nat) (S:Nat->Bool),∃b,b < 2 ^ n/\∀q,q < n->b.testBit q=S q
 | 0,S=>⟨0,by decide,fun q hq=>by omega⟩
 | n+1,S=>by
  obtain⟨b,h1,h2⟩:=zwZ n fun q=>S (q+1);refine⟨2 * b+(if S 0 then 1 else 0),?_,fun q hq=>?_⟩
  ·rw[Nat.pow_succ]; split <;> omega
  ·cases q with
   | zero=>
    rw[Nat.testBit_zero]
    cases S 0 with
    | true=>exact decide_eq_true (by simp only[if_true]; omega)
    | false=>exact decide_eq_false (by simp)
   | succ q=>
    rw[Nat.testBit_succ,<- h2 q (by omega)]
    congr 1
    split <;> omega
theorem zw0:∀{A B:List Int},A.Pairwise (· < ·)->B.Pairwise (· < ·)->(∀v,v∈A↔v∈B)->A=B
 | [],[],_,_,_=>rfl
 | [],b::B,_,_,h=>by have:=(h b).2 (List.mem_cons_self ..); cases this
 | a::A,[],_,_,h=>by have:=(h a).1 (List.mem_cons_self ..); cases this
 | a::A,b::B,hA,hB,h=>by
  rw[List.pairwise_cons] at hA hB
  have hab:a=b:=by
   rcases List.mem_cons.1 ((h a).1 (List.mem_cons_self ..)) with h1 | h1
   ·exact h1
   ·rcases List.mem_cons.1 ((h b).2 (List.mem_cons_self ..)) with h2 | h2
    ·exact h2.symm
    ·have:=hA.1 _ h2; have:=hB.1 _ h1; omega
  subst hab
  congr 1
  refine zw0 hA.2 hB.2 fun v=>?_;have hv:=h v;rw[List.mem_cons,List.mem_cons] at hv
  constructor
  ·intro h1
   rcases hv.1 (.inr h1) with h2 | h2
   ·have:=hA.1 _ h1; omega
   ·exact h2
  ·intro h1
   rcases hv.2 (.inr h1) with h2 | h2
   ·have:=hB.1 _ h1; omega
   ·exact h2
theorem zw1{n b:Nat}(_hn:n<=16)(hb:b < 2 ^ n):Inc n 0 (zwG b):=
 ⟨zwI 16,fun v hv=>by
  obtain⟨h1,h2,h3⟩:=zwH.1 hv;refine⟨by omega,?_⟩
  by_cases h4:v < n
  ·exact h4
  ·have:=Nat.testBit_lt_two_pow (Nat.lt_of_lt_of_le hb (Nat.pow_le_pow_right (by omega) (show n<=v.toNat by omega)))
   rw[this] at h3; cases h3⟩
theorem zw2{n b k:Nat}(hn:n<=16)(hk:k < n):inD (zwG b) k=b.testBit k:=by
 unfold inD
 have:((k:Nat):Int)∈zwG b↔b.testBit k=true:=by
  unfold zwG;rw[zwH];exact⟨fun h=>h.2.2,fun h=>⟨by omega,by omega,h⟩⟩
 cases hb:b.testBit k with
 | true=>exact decide_eq_true (this.2 hb)
 | false=>exact decide_eq_false fun h=>by rw[this.1 h] at hb; cases hb
theorem zw3{n:Nat}{D:List Int}(hn:n<=16)(hD:Inc n 0 D):∃b,b < 2 ^ n/\zwG b=D:=by
 obtain⟨b,h1,h2⟩:=zwZ n (inD D);refine⟨b,h1,zw0 (zwI 16) hD.1 fun v=>?_⟩
 constructor
 ·intro hv;obtain⟨h3,h4⟩:=(zw1 hn h1).2 v hv;obtain⟨_,_,h5⟩:=zwH.1 hv;rw[h2 _ (by omega)] at h5;have:=of_decide_eq_true h5
  rwa [show((v.toNat:Nat):Int)=v by omega] at this
 ·intro hv;have h3:=hD.2 v hv;refine zwH.2 ⟨by omega,by omega,?_⟩;rw[h2 _ (by omega)];exact decide_eq_true (by rw[show((v.toNat:Nat):Int)=v by omega]; exact hv)
theorem zw4{S β:Type}{n:Nat}(F:Nat->S->Int->Option β)(st:Nat->S){fin:Option β}(hstep:∀d k,k < n->F (d+1) (st k) (k:Int)=F d (st (k+1)) ((k:Int)+1))(hend:∀d,F (d+1) (st n) (n:Int)=fin) :
  ∀d k,k<=n->n - k < d->F d (st k) (k:Int)=fin
 | 0,k,_,h=>by omega
 | d+1,k,hk,h=>by
  by_cases hkn:k=n
  ·subst hkn; exact hend d
  ·rw[hstep d k (by omega),show(k:Int)+1=((k+1:Nat):Int) by omega];exact zw4 F st hstep hend d (k+1) (by omega) (by omega)
theorem wu{n:Nat}(h:n<=64):zmb .u64 (n:Int)=(n:Int):=wz (show(0:Int)<=n/\(n:Int) < 18446744073709551616 by omega)
def RgP(r:Rg):Prop:=0<=r.Lo/\r.Lo<=r.Hi/\r.Hi<=10000/\r.Hi - r.Lo<=5
def zw5(y:Yr):Prop:=RgP y.Losses/\RgP y.Premiums/\0<=y.Parcels/\y.Parcels<=100
def zw6(l:List Int)(j:Nat):Prop:=0 < j->∀x y,l[j]? = some x->l[j - 1]? = some y->¬ x < y
structure zw7 (r:Rl):Prop where
 c0:1<=r.Classes
 pl:(r.Price.length:Int)=r.Classes
 gb:0<=r.Good/\r.Good<=r.Bad/\r.Bad<=300
 rest:0<=r.Rest/\r.Rest<=4
 few:0<=r.Fewest/\r.Fewest<=100
 pr:∀x∈r.Price,1<=x/\x<=10000
 so:∀j,j < r.Price.length->zw6 r.Price j
structure zw8 (r:Rl) (z:Zn):Prop where
 rl:zw7 r
 first:0<=z.First/\z.First<=r.Classes - 1
 ys:∀y∈z.Years,zw5 y
def zw9(r:Rl)(z:Zn):Prop:=6 < r.Classes\/6 < z.Years.length
open Classical in
def zxa(r:Rl)(z:Zn):Int:=if zw9 r z then 3 else if zw8 r z then 0 else 1
structure VZ (r:Rl) (z:Zn):Prop where
 full:zw8 r z
 c6:r.Classes<=6
 y6:z.Years.length<=6
theorem zxb{r:Rl}{z:Zn}:zxa r z=0↔VZ r z:=by
 unfold zxa
 by_cases h:zw9 r z
 ·rw[if_pos h]; exact⟨fun h=>by omega,fun h2=>by have:=h2.c6; have:=h2.y6; unfold zw9 at h; omega⟩
 ·rw[if_neg h];unfold zw9 at h
  by_cases hf:zw8 r z
  ·rw[if_pos hf]; exact⟨fun _=>⟨hf,by omega,by omega⟩,fun _=>rfl⟩
  ·rw[if_neg hf]; exact⟨fun h=>by omega,fun h=>absurd h.full hf⟩
theorem zxc{r:Rg}{n:Int}:Ev (zsK r n) (r.Lo<=n/\n<=r.Hi):=Ev.ite fun _=>Ev.dec Iff.rfl
theorem zxd{a b:Int}{r:Rg}:Ev (zsL { Lo:=a,Hi:=b } r) (a<=r.Lo/\r.Lo<=r.Hi/\r.Hi<=b):=Ev.ite fun _=>Ev.ite fun _=>Ev.dec Iff.rfl
theorem gI{l:List Int}{p:Int->Option Bool}:∀{d:Nat} {x:Int},zsW l p d x=gIdx l p d x
 | 0,_=>rfl
 | d+1,x=>by unfold zsW gIdx; simp only[gI]
theorem gY{l:List Yr}{p:Yr->Option Bool}:∀{d:Nat} {x:Int},zs1 l p d x=gIdx l p d x
 | 0,_=>rfl
 | d+1,x=>by unfold zs1 gIdx; simp only[gY]
theorem zxe{l:Lm}{r:Rg}(h1:l.pence=⟨0,10000⟩)(h2:l.wide=⟨0,5⟩):Ev (zs5 l r) (RgP r):=by
 unfold zs5;rw[h1,h2];refine(zxd.and fun hc=>Ev.gd (fI (by omega)) zxc.ret).imp ?_;unfold RgP
 show(_/\_/\_)/\((0:Int)<=r.Hi - r.Lo/\r.Hi - r.Lo<=5)↔_
 omega
theorem zxf{y:Yr}:Ev (zs6 { pence:=⟨0,10000⟩,wide:=⟨0,5⟩,parcels:=⟨0,100⟩ } y) (zw5 y):=
 ((zxe rfl rfl).and fun _=>(zxe rfl rfl).and fun _=>zxc.ret).imp Iff.rfl
theorem zxg{x y:Int}:zsS x y=some (decide (x < y)):=by
 unfold zsS zsR;rw[obs,if_neg (by simp)]
theorem zxh{l:List Int}(hl:zrH l):∀(d i:Nat),i < l.length->i < d->Ev (zsT l d (i:Int)) (∀j,j<=i->zw6 l j)
 | 0,_,_,h=>by omega
 | d+1,i,hi,hd=>by
  unfold zrH at hl;unfold zsT
  cases i with
  | zero=>
   rw[if_neg (by omega)]
   exact Ev.tt fun j hj h0=>by omega
  | succ i=>
   have hg:=List.getElem?_eq_getElem hi;have hg0:=List.getElem?_eq_getElem (show i < l.length by omega)
   have e:((i+1:Nat):Int) - 1=(i:Int):=by omega
   rw[if_pos (by omega),zry hg,obs,e,zqs (fI (by omega)),zry hg0,obs,zxg,obs];have hso:zw6 l (i+1)↔¬ l[i+1] < l[i]:=⟨fun h=>h (by omega) _ _ hg hg0,fun h _ x y hx hy=>by rw[hg] at hx; have hy:l[i]? = some y:=hy; rw[hg0] at hy; cases hx; cases hy; exact h⟩
   by_cases hc:l[i+1] < l[i]
   ·rw[decide_eq_true hc,if_pos rfl];exact Ev.ff fun h=>(hso.1 (h _ (Nat.le_refl _))) hc
   ·rw[decide_eq_false hc,if_neg (by decide),zqs (fI (by omega))]
    exact(zxh hl d i (by omega) (by omega)).imp ⟨fun h j hj=>by
     rcases Nat.lt_or_eq_of_le hj with h1 | h1
     ·exact h j (by omega)
     ·subst h1; exact hso.2 hc,fun h j hj=>h j (by omega)⟩
theorem zxi{l:List Int}(hl:l.length<=1000):Ev (zsU l) (∀j,j < l.length->zw6 l j):=by
 unfold zsU;refine Ev.gd (fI (by omega)) ?_
 cases hn:l.length with
 | zero=>
  show Ev (zsT l (999999+1) _) _
  rw[zsT,if_neg (by omega)]
  exact Ev.tt fun j hj=>by omega
 | succ n=>
  rw[show((n+1:Nat):Int) - 1=(n:Int) by omega];exact(zxh (zrI hl (by omega)) 1000000 n (by omega) (by omega)).imp ⟨fun h j hj=>h j (by omega),fun h j hj=>h j (by omega)⟩
theorem zxj{r:Rl}(hl:r.Price.length<=1000):Ev (zs7 r) ((r.Price.length:Int)=r.Classes/\(∀x∈r.Price,1<=x/\x<=10000)/\∀j,j < r.Price.length->zw6 r.Price j):=by
 unfold zs7;exact Ev.ite fun _=>(Ev.each (q:=fun x=>1<=x/\x<=10000) (fun a _=>zxc) (by omega) gI).and fun _=>(zxi hl).ret
theorem zxk{r:Rl}(hl:r.Price.length<=1000):Ev (zs8 r) (zw7 r):=by
 unfold zs8;refine(Ev.ite fun _=>(zxd (a:=0) (b:=300) (r:=⟨r.Good,r.Bad⟩)).and fun _=>(zxc (r:=⟨0,4⟩) (n:=r.Rest)).and fun _=>(zxc (r:=⟨0,100⟩) (n:=r.Fewest)).and fun _=>(zxj hl).ret).imp ?_;exact⟨fun⟨a,b,c,d,e,f,g⟩=>⟨by omega,e,b,c,d,f,g⟩,fun⟨a,b,c,d,e,f,g⟩=>⟨by omega,c,d,e,b,f,g⟩⟩
theorem zxl{r:Rl}{z:Zn}(hz:z.Years.length<=1000)(hr:zw7 r)(hl:r.Price.length<=1000):Ev (zta r z) ((0<=z.First/\z.First<=r.Classes - 1)/\∀y∈z.Years,zw5 y):=by
 unfold zta zs9;have:=hr.pl;have:=hr.c0
 show Ev ((gd (zl6 .i64 (r.Classes - 1)) _).bind _) _
 rw[zqs (fI (by omega))];refine(show Ev ((zsK ⟨0,r.Classes - 1⟩ z.First).bind fun r=>some r) (0<=z.First/\z.First<=r.Classes - 1) from zxc.ret).and fun _=>(Ev.each (q:=zw5) (fun a _=>zxf) (by omega) gY).ret
theorem zxm{r:Rl}{z:Zn}(h1:r.Price.length<=1000)(h2:z.Years.length<=1000):ztc r z=some (zxa r z):=by
 unfold ztc zxa zw9
 by_cases c1:6 < r.Classes
 ·rw[if_pos c1,if_pos (.inl c1)]
 rw[if_neg c1]
 by_cases c2:6 < z.Years.length
 ·rw[if_pos (by omega),if_pos (.inr c2)]
 rw[if_neg (by omega),if_neg (show ¬ (6 < r.Classes\/6 < z.Years.length) by omega)]
 refine(zxk h1).pick (fun h=>?_) fun h=>by rw[if_neg (by decide),if_neg fun h'=>h h'.rl]
 rw[if_pos rfl]
 refine(zxl h2 h h1).pick (fun h'=>?_) fun h'=>by rw[if_neg (by decide),if_neg fun h9=>h' ⟨h9.first,h9.ys⟩]
 rw[if_pos rfl,if_pos ⟨h,h'.1,h'.2⟩]
theorem zxn{n lo hi:Int}:Ev (zr9 n lo hi) (lo<=n/\n<=hi):=Ev.ite fun _=>Ev.dec Iff.rfl
theorem zxo{r:Rg}:Ev (zsa r) (RgP r):=by
 unfold zsa;exact Ev.ite fun _=>Ev.ite fun _=>Ev.ite fun _=>Ev.gd (fI (by omega)) (Ev.dec Iff.rfl)
theorem zxp{r:Rl}{z:Zn}(h1:r.Price.length<=1000)(h2:z.Years.length<=1000):zsc r z=some (zxa r z):=by
 unfold zsc zxa zw9
 by_cases c1:6 < r.Classes
 ·rw[if_pos c1,if_pos (.inl c1)]
 rw[if_neg c1]
 by_cases c2:6 < z.Years.length
 ·rw[if_pos (by omega),if_pos (.inr c2)]
 rw[if_neg (by omega),if_neg (show ¬ (6 < r.Classes\/6 < z.Years.length) by omega)]
 by_cases c3:r.Classes < 1
 ·rw[if_pos c3,if_neg fun h=>by have:=h.rl.c0; omega]
 rw[if_neg c3]
 by_cases c4:(r.Price.length:Int)=r.Classes
 rotate_left
 ·rw[if_neg c4,if_neg fun h=>c4 h.rl.pl]
 rw[if_pos c4]
 refine zxn.pick (fun c5=>?_) fun c5=>by rw[if_neg (by decide),if_neg fun h=>c5 ⟨h.rl.gb.1,h.rl.gb.2.1⟩]
 rw[if_pos rfl]
 by_cases c6:300 < r.Bad
 ·rw[if_pos c6,if_neg fun h=>by have:=h.rl.gb; omega]
 rw[if_neg c6]
 refine zxn.pick (fun c7=>?_) fun c7=>by rw[if_neg (by decide),if_neg fun h=>c7 h.rl.rest]
 rw[if_pos rfl]
 refine zxn.pick (fun c8=>?_) fun c8=>by rw[if_neg (by decide),if_neg fun h=>c8 h.rl.few]
 rw[if_pos rfl,zqs (fI (by omega))]
 refine zxn.pick (fun c9=>?_) fun c9=>by rw[if_neg (by decide),if_neg fun h=>c9 h.first]
 rw[if_pos rfl]
 have kY:=zrG (l:=z.Years) (F:=fun d x=>prFault_L1 z d x) (ok:=zw5) (bad:=some 1) (fin:=some 0) (fun d k a hk=>by
  have hkl:=(List.getElem?_eq_some_iff.1 hk).1
  show(zw5 a->prFault_L1 z (d+1) (k:Int)=_)/\(¬ zw5 a->prFault_L1 z (d+1) (k:Int)=_)
  rw[prFault_L1,if_pos (by omega),zry hk,obs];refine⟨fun h=>?_,fun h=>?_⟩
  ·rw[zxo.some_of h.1,obs,if_pos rfl,zxo.some_of h.2.1,obs,if_pos rfl,zxn.some_of h.2.2,obs,if_pos rfl,zqs (fI (by omega))]
  ·refine zxo.pick (fun a1=>?_) fun _=>by rw[if_neg (by decide)]
   rw[if_pos rfl]
   refine zxo.pick (fun a2=>?_) fun _=>by rw[if_neg (by decide)]
   rw[if_pos rfl]
   refine zxn.pick (fun a3=>absurd ⟨a1,a2,a3⟩ h) fun _=>by rw[if_neg (by decide)]) (fun d=>by show prFault_L1 z (d+1) _=_; rw[prFault_L1,if_neg (Int.lt_irrefl _)]) (d:=1000000) (by omega)
 have kP:=zrB (n:=r.Price.length) (F:=fun d x=>zsb r z d 0 x) (ok:=fun j=>(∀x,r.Price[j]? = some x->1<=x/\x<=10000)/\zw6 r.Price j) (bad:=some 1) (fin:=prFault_L1 z 1000000 0) (fun d k hk=>by
  have hg:=List.getElem?_eq_getElem hk;have hk':=hk
  show(_->zsb r z (d+1) 0 (k:Int)=_)/\(_->zsb r z (d+1) 0 (k:Int)=_)
  rw[zsb,if_pos (by omega),zry hg,obs];have e1:(∀x,r.Price[k]? = some x->1<=x/\x<=10000)↔(1<=r.Price[k]/\r.Price[k]<=10000):=⟨fun h=>h _ hg,fun h x hx=>by rw[hg] at hx; cases hx; exact h⟩;rw[e1]
  by_cases q1:1<=r.Price[k]/\r.Price[k]<=10000
  rotate_left
  ·rw[zxn.some_not q1,obs,if_neg (by decide)];exact⟨fun h=>absurd h.1 q1,fun _=>rfl⟩
  rw[zxn.some_of q1,obs,if_pos rfl]
  cases k with
  | zero=>
   rw[if_neg (by omega),zqs (fI (by omega))];exact⟨fun _=>rfl,fun h=>absurd ⟨q1,fun h0=>by omega⟩ h⟩
  | succ i=>
   have hg0:=List.getElem?_eq_getElem (show i < r.Price.length by omega)
   have e:((i+1:Nat):Int) - 1=(i:Int):=by omega
   rw[if_pos (by omega),obs,e,zqs (fI (by omega)),zry hg0,obs];have hso:zw6 r.Price (i+1)↔¬ r.Price[i+1] < r.Price[i]:=⟨fun h=>h (by omega) _ _ hg hg0,fun h _ x y hx hy=>by rw[hg] at hx; have hy:r.Price[i]? = some y:=hy; rw[hg0] at hy; cases hx; cases hy; exact h⟩
   by_cases hc:r.Price[i+1] < r.Price[i]
   ·rw[if_pos hc]; exact⟨fun h=>absurd hc (hso.1 h.2),fun _=>rfl⟩
   ·rw[if_neg hc,zqs (fI (by omega))]; exact⟨fun _=>rfl,fun h=>absurd ⟨q1,hso.2 hc⟩ h⟩) (fun d=>by show zsb r z (d+1) 0 _=_; rw[zsb,if_neg (Int.lt_irrefl _)]) (d:=1000000) (by omega)
 by_cases q:∀j,j < r.Price.length->(∀x,r.Price[j]? = some x->1<=x/\x<=10000)/\zw6 r.Price j
 rotate_left
 ·have:=kP.2 q;have this:zsb r z 1000000 0 0=some 1:=this;rw[this,if_neg fun h=>q fun j hj=>⟨fun x hx=>h.rl.pr x (List.mem_of_getElem? hx),h.rl.so j hj⟩]
 have e:=kP.1 q;have e:zsb r z 1000000 0 0=prFault_L1 z 1000000 0:=e;rw[e]
 have hrl:zw7 r:=⟨by omega,c4,⟨c5.1,c5.2,by omega⟩,c7,c8,fun x hx=>by
  obtain⟨i,hi⟩:=List.mem_iff_getElem?.1 hx
  exact(q i (List.getElem?_eq_some_iff.1 hi).1).1 x hi,fun j hj=>(q j hj).2⟩
 by_cases qy:∀y∈z.Years,zw5 y
 ·rw[if_pos ⟨hrl,c9,qy⟩]; exact kY.1 qy
 ·rw[if_neg fun h=>qy h.ys]; exact kY.2 qy
end
end Go.Proofs.Ytlpjlgmoaipoiaa

namespace Go.Proofs.Ytlpjlgmoaipoiaa
open _root_.Go.Proofs.Try
open Go.Abs
set_option maxRecDepth 100000
noncomputable section
def zxq(r:Rl)(y:Yr):Bool:=!y.Exempt && decide (r.Fewest<=y.Parcels)
def kN(r:Rl)(y:Yr)(l p:Int):Int:=if zxq r y=true then (if l * 100 < p * r.Good then 1 else if p * r.Bad < l * 100 then 2 else 3) else 0
theorem zxr{r:Rl}{y:Yr}:zti r y=some (zxq r y):=by
 unfold zti zxq
 cases y.Exempt <;> simp
theorem zxs(r:Rl)(y:Yr)(l p:Int):0<=kN r y l p/\kN r y l p < 4:=by
 unfold kN
 split
 ·split
  ·omega
  ·split <;> omega
 ·omega
theorem zxt{r:Rl}{y:Yr}{l p:Int}:kN r y l p=0↔zxq r y=false:=by
 unfold kN
 cases zxq r y with
 | true=>
  rw[if_pos rfl]
  constructor
  ·intro h; split at h
   ·omega
   ·split at h <;> omega
  ·intro h; cases h
 | false=>simp
theorem zxu{a b:Int}(h1:0<=a/\a<=10000)(h2:0<=b/\b<=300):0<=a * b/\a * b<=3000000:=
 ⟨Int.mul_nonneg h1.1 h2.1,by have:a * b<=10000 * 300:=Int.mul_le_mul h1.2 h2.2 h2.1 (by omega); omega⟩
theorem zxv{r:Rl}(h:zw7 r){y:Yr}{l p:Int}(hl:0<=l/\l<=10000)(hp:0<=p/\p<=10000):ztj r y l p=some (kN r y l p):=by
 have hg:=h.gb;have m1:=zxu hp (b:=r.Good) (by omega);have m2:=zxu hp (b:=r.Bad) (by omega);unfold ztj kN;rw[zxr,obs]
 by_cases hc:zxq r y=true
 rotate_left
 ·rw[if_neg hc,if_neg hc]
 rw[if_pos hc,if_pos hc,zqs hl.1,zqs (by omega),zqs (fI (by omega)),zqs hp.1,zqs (by omega),zqs (fI (by omega))]
 by_cases h1:l * 100 < p * r.Good
 ·rw[if_pos h1,if_pos h1]
 ·rw[if_neg h1,if_neg h1,zqs hl.1,zqs (by omega),zqs (fI (by omega)),zqs hp.1,zqs (by omega),zqs (fI (by omega))]
  split <;> rfl
theorem zxw{r:Rl}(h:zw7 r){y:Yr}{l p:Int}(hl:0<=l/\l<=10000)(hp:0<=p/\p<=10000):zse r y l p=some (kN r y l p):=zxv h hl hp
def mkP(f:Nat->Bool):P4:=⟨f 0,f 1,f 2,f 3⟩
def upF{α:Type}(f:Nat->α)(k:Nat)(a:α):Nat->α:=fun j=>if j=k then a else f j
theorem zxx{α:Type}(f:Nat->α){i:Int}(hi:0<=i)(a:α)(j:Nat):sti i j a (f j)=upF f i.toNat a j:=by
 unfold sti upF
 by_cases h:j=i.toNat
 ·rw[if_pos h,if_pos (by omega)]
 ·rw[if_neg h,if_neg (by omega)]
theorem zxy(f:Nat->Bool)(i k:Nat):upF f i true k=true↔f k=true\/i=k:=by
 unfold upF
 by_cases h:k=i
 ·rw[if_pos h]; exact⟨fun _=>.inr h.symm,fun _=>rfl⟩
 ·rw[if_neg h]; exact⟨.inl,fun h'=>h'.elim id fun h2=>absurd h2.symm h⟩
theorem zxz{f g:Nat->Bool}(h:∀k,k < 4->(f k=true↔g k=true)):mkP f=mkP g:=by
 have e:∀k,k < 4->f k=g k:=fun k hk=>Bool.eq_iff_iff.2 (h k hk);unfold mkP;rw[e 0 (by omega),e 1 (by omega),e 2 (by omega),e 3 (by omega)]
def zxA(r:Rg):List Int:=segI r.Lo (r.Hi - r.Lo+1).toNat
def kB(r:Rl)(y:Yr)(k:Nat):Bool:=(zxA y.Losses).any fun l=>(zxA y.Premiums).any fun p=>kN r y l p == (k:Int)
def zxB(r:Rl)(y:Yr)(k:Int):Prop:=∃l p,(y.Losses.Lo<=l/\l<=y.Losses.Hi)/\(y.Premiums.Lo<=p/\p<=y.Premiums.Hi)/\kN r y l p=k
theorem zxC{r:Rg}{x:Int}:x∈zxA r↔r.Lo<=x/\x<=r.Hi:=by
 unfold zxA;rw[zrQ]
 omega
theorem zxD{r:Rl}{y:Yr}{k:Nat}:kB r y k=true↔zxB r y (k:Int):=by
 unfold kB zxB;rw[List.any_eq_true]
 constructor
 ·rintro⟨l,hl,h⟩
  obtain⟨p,hp,h⟩:=List.any_eq_true.1 h;exact⟨l,p,zxC.1 hl,zxC.1 hp,of_decide_eq_true h⟩
 ·rintro⟨l,p,hl,hp,h⟩
  exact⟨l,zxC.2 hl,List.any_eq_true.2 ⟨p,zxC.2 hp,decide_eq_true h⟩⟩
theorem zxE{r:Rl}(h:zw7 r){y:Yr}:∀(l:List (List Int)) (f:Nat->Bool),(∀a∈l,∃x p,a=[x,p]/\(0<=x/\x<=10000)/\0<=p/\p<=10000) ->
  ∃g:Nat->Bool,pwithin_L0 r y l (f 0) (f 1) (f 2) (f 3)=some (mkP g)/\∀k,g k=true↔f k=true\/∃x p,[x,p]∈l/\kN r y x p=(k:Int)
 | [],f,_=>⟨f,rfl,fun k=>⟨.inl,fun h=>h.elim id fun⟨_,_,h,_⟩=>by cases h⟩⟩
 | a::l,f,hl=>by
  obtain⟨x,p,rfl,hx,hp⟩:=hl a (List.mem_cons_self ..);have hb:=zxs r y x p;obtain⟨g,h1,h2⟩:=zxE h (y:=y) l (upF f (kN r y x p).toNat true) fun b hb=>hl b (List.mem_cons_of_mem _ hb);refine⟨g,?_,fun k=>(h2 k).trans ?_⟩
  ·unfold pwithin_L0;rw[show idx [x,p] 0=some x from rfl,obs,show idx [x,p] 1=some p from rfl,obs,zxv h hx hp,obs,zqs ⟨hb.1,hb.2⟩,zxx f hb.1,zxx f hb.1,zxx f hb.1,zxx f hb.1];exact h1
  ·rw[zxy]
   constructor
   ·rintro ((h3 | h3) | ⟨x',p',h3,h4⟩)
    ·exact .inl h3
    ·exact .inr ⟨x,p,List.mem_cons_self ..,by omega⟩
    ·exact .inr ⟨x',p',List.mem_cons_of_mem _ h3,h4⟩
   ·rintro (h3 | ⟨x',p',h3,h4⟩)
    ·exact .inl (.inl h3)
    ·rcases List.mem_cons.1 h3 with h5 | h5
     ·injection h5 with e1 e2
      injection e2 with e2 _
      subst e1 e2;exact .inl (.inr (by omega))
     ·exact .inr ⟨x',p',h5,h4⟩
theorem zxF{a b:Rg}{x p:Int}:[x,p]∈chW [a,b] []↔(a.Lo<=x/\x<=a.Hi)/\b.Lo<=p/\p<=b.Hi:=by
 show[x,p]∈zrn (fun n=>zrn (fun m=>[([]++[a.Lo+(n:Int)])++[b.Lo+(m:Int)]]) (szR b).toNat 0) (szR a).toNat 0↔_
 rw[zvO];unfold szR
 constructor
 ·rintro⟨n,_,hn,h⟩
  rw[zvO] at h;obtain⟨m,_,hm,h⟩:=h;have h:=List.mem_singleton.1 h
  injection h with e1 e2
  injection e2 with e2 _
  omega
 ·intro h;refine⟨(x - a.Lo).toNat,by omega,by omega,(zvO _ _ _ _).2 ⟨(p - b.Lo).toNat,by omega,by omega,List.mem_singleton.2 ?_⟩⟩;rw[show a.Lo+((x - a.Lo).toNat:Int)=x by omega,show b.Lo+((p - b.Lo).toNat:Int)=p by omega]; rfl
theorem zxG{a b:Rg}{l:List Int}(h:l∈chW [a,b] []):∃x p,l=[x,p]:=by
 have h:l∈zrn (fun n=>zrn (fun m=>[([]++[a.Lo+(n:Int)])++[b.Lo+(m:Int)]]) (szR b).toNat 0) (szR a).toNat 0:=h;rw[zvO] at h;obtain⟨n,_,hn,h⟩:=h;rw[zvO] at h;obtain⟨m,_,hm,h⟩:=h;exact⟨_,_,List.mem_singleton.1 h⟩
theorem zxH{r:Rl}(h:zw7 r){y:Yr}(hy:zw5 y):ztQ r y=some (mkP (kB r y)):=by
 obtain⟨h1,h2,_⟩:=hy;unfold RgP at h1 h2;unfold ztQ ztN
 rw[zqs ⟨by simp,fun a ha=>by
  unfold okR
  rcases List.mem_cons.1 ha with rfl | ha
  ·omega
  ·rw[List.mem_singleton.1 ha]; omega⟩,obs]
 obtain⟨g,e1,e2⟩:=zxE h (y:=y) (chW [y.Losses,y.Premiums] []) (fun _=>false) fun a ha=>by
  obtain⟨x,p,rfl⟩:=zxG ha;have:=zxF.1 ha;exact⟨x,p,rfl,by omega,by omega⟩
 have e1:pwithin_L0 r y (chW [y.Losses,y.Premiums] []) false false false false=some (mkP g):=e1;rw[e1]
 congr 1
 refine zxz fun k _=>(e2 k).trans ?_;rw[zxD];unfold zxB
 constructor
 ·rintro (h3 | ⟨x,p,h3,h4⟩)
  ·cases h3
  ·exact⟨x,p,(zxF.1 h3).1,(zxF.1 h3).2,h4⟩
 ·rintro⟨x,p,h3,h4,h5⟩
  exact .inr ⟨x,p,zxF.2 ⟨h3,h4⟩,h5⟩
theorem zxI{r:Rl}(h:zw7 r){y:Yr}(hy:RgP y.Premiums){x:Int}(hx:0<=x/\x<=10000){K:Bool->Bool->Bool->Bool->Int->Option P4}:∀(n d:Nat) (p:Int) (f:Nat->Bool),(n:Int)=y.Premiums.Hi+1 - p->y.Premiums.Lo<=p->n < d ->
  ∃g:Nat->Bool,zsk r y x K d (f 0) (f 1) (f 2) (f 3) p=K (g 0) (g 1) (g 2) (g 3) (x+1)/\∀k,g k=true↔f k=true\/∃q,(p<=q/\q<=y.Premiums.Hi)/\kN r y x q=(k:Int)
 | 0,0,_,_,_,_,h=>by omega
 | 0,d+1,p,f,hn,hp,_=>by
  refine⟨f,?_,fun k=>⟨.inl,fun h=>h.elim id fun⟨q,h1,_⟩=>by omega⟩⟩;rw[zsk,if_neg (by omega),zqs (fI (by omega))]
 | n+1,0,_,_,_,_,h=>by omega
 | n+1,d+1,p,f,hn,hp,hd=>by
  unfold RgP at hy;have hb:=zxs r y x p;obtain⟨g,h1,h2⟩:=zxI h (by unfold RgP; exact hy) hx (K:=K) n d (p+1) (upF f (kN r y x p).toNat true) (by omega) (by omega) (by omega);refine⟨g,?_,fun k=>(h2 k).trans ?_⟩
  ·rw[zsk,if_pos (by omega),zxw h hx (by omega),obs,zqs ⟨hb.1,hb.2⟩,zqs (fI (by omega)),zxx f hb.1,zxx f hb.1,zxx f hb.1,zxx f hb.1];exact h1
  ·rw[zxy]
   constructor
   ·rintro ((h3 | h3) | ⟨q,h3,h4⟩)
    ·exact .inl h3
    ·exact .inr ⟨p,by omega,by omega⟩
    ·exact .inr ⟨q,by omega,h4⟩
   ·rintro (h3 | ⟨q,h3,h4⟩)
    ·exact .inl (.inl h3)
    ·by_cases hq:q=p
     ·subst hq; exact .inl (.inr (by omega))
     ·exact .inr ⟨q,by omega,h4⟩
theorem zxJ{r:Rl}(h:zw7 r){y:Yr}(hy1:RgP y.Losses)(hy:RgP y.Premiums):∀(n d:Nat) (x:Int) (f:Nat->Bool),(n:Int)=y.Losses.Hi+1 - x->y.Losses.Lo<=x->n < d ->
  ∃g:Nat->Bool,zsl r y d (f 0) (f 1) (f 2) (f 3) x=some (mkP g)/\∀k,g k=true↔f k=true\/∃l p,(x<=l/\l<=y.Losses.Hi)/\(y.Premiums.Lo<=p/\p<=y.Premiums.Hi)/\kN r y l p=(k:Int)
 | 0,0,_,_,_,_,h=>by omega
 | 0,d+1,p,f,hn,hp,_=>by
  refine⟨f,?_,fun k=>⟨.inl,fun h=>h.elim id fun⟨q,_,h1,_⟩=>by omega⟩⟩;rw[zsl,if_neg (by omega)]; rfl
 | n+1,0,_,_,_,_,h=>by omega
 | n+1,d+1,x,f,hn,hx,hd=>by
  have hy1':=hy1;have hy':=hy;unfold RgP at hy1' hy';obtain⟨g,h1,h2⟩:=zxI h hy (x:=x) (by omega) (K:=zsl r y d) (y.Premiums.Hi+1 - y.Premiums.Lo).toNat 1000000 y.Premiums.Lo f (by omega) (by omega) (by omega);obtain⟨g2,h3,h4⟩:=zxJ h hy1 hy n d (x+1) g (by omega) (by omega) (by omega);refine⟨g2,?_,fun k=>(h4 k).trans ?_⟩
  ·rw[zsl,if_pos (by omega),h1]; exact h3
  ·rw[h2]
   constructor
   ·rintro ((h5 | ⟨q,h5,h6⟩) | ⟨l,p,h5,h6,h7⟩)
    ·exact .inl h5
    ·exact .inr ⟨x,q,by omega,h5,h6⟩
    ·exact .inr ⟨l,p,by omega,h6,h7⟩
   ·rintro (h5 | ⟨l,p,h5,h6,h7⟩)
    ·exact .inl (.inl h5)
    ·by_cases hq:l=x
     ·subst hq; exact .inl (.inr ⟨p,h6,h7⟩)
     ·exact .inr ⟨l,p,by omega,h6,h7⟩
theorem zxK{r:Rl}(h:zw7 r){y:Yr}(hy:zw5 y):zsm r y=some (mkP (kB r y)):=by
 obtain⟨h1,h2,_⟩:=hy;have h1':=h1;unfold RgP at h1';unfold zsm;obtain⟨g,e1,e2⟩:=zxJ h h1 h2 (y.Losses.Hi+1 - y.Losses.Lo).toNat 1000000 y.Losses.Lo (fun _=>false) (by omega) (by omega) (by omega);have e1:zsl r y 1000000 false false false false y.Losses.Lo=some (mkP g):=e1;rw[e1]
 congr 1
 refine zxz fun k _=>(e2 k).trans ?_;rw[zxD];unfold zxB;exact⟨fun h=>h.elim (fun h=>by cases h) id,.inr⟩
def step(r:Rl)(k:Int)(s:Stt):Stt:=if k=2 then ⟨min (s.cls+1) (r.Classes - 1),0⟩ else if k=1 then ⟨if s.since=r.Rest then max 0 (s.cls - 1) else s.cls,min (s.since+1) r.Rest⟩ else if k=3 then ⟨s.cls,min (s.since+1) r.Rest⟩ else s
def SOk(r:Rl)(s:Stt):Prop:=(0<=s.cls/\s.cls<=r.Classes - 1)/\0<=s.since/\s.since<=r.Rest
theorem zxL{r:Rl}(h:zw7 r)(k:Int){s:Stt}(hs:SOk r s):SOk r (step r k s):=by
 have h1:=h.rest;have h2:=h.c0;unfold SOk at hs;unfold step SOk
 split
 ·exact⟨⟨by show(0:Int)<=min _ _; omega,by show min _ _<=_; omega⟩,by show(0:Int)<=0; omega,by show(0:Int)<=_; omega⟩
 ·split
  ·refine⟨?_,by show(0:Int)<=min _ _; omega,by show min _ _<=_; omega⟩
   show 0<=(if s.since=r.Rest then max 0 (s.cls - 1) else s.cls)/\(if s.since=r.Rest then max 0 (s.cls - 1) else s.cls)<=r.Classes - 1
   split <;> omega
  ·split
   ·exact⟨hs.1,by show(0:Int)<=min _ _; omega,by show min _ _<=_; omega⟩
   ·exact hs
def zxM(r:Rl)(s:Stt)(ks:List Int):Stt:=ks.foldl (fun s k=>step r k s) s
def zxN(r:Rl):Stt->List Int->List Int
 | _,[]=>[]
 | s,k::ks=>(step r k s).cls::zxN r (step r k s) ks
theorem zxO{r:Rl}(h:zw7 r):∀(ks:List Int) {s:Stt},SOk r s->SOk r (zxM r s ks)
 | [],_,hs=>hs
 | k::ks,_,hs=>zxO h ks (zxL h k hs)
theorem zxP(r:Rl)(s:Stt)(a b:List Int):zxM r s (a++b)=zxM r (zxM r s a) b:=List.foldl_append
theorem zxQ(r:Rl)(s:Stt)(a:List Int)(k:Int):zxM r s (a++[k])=step r k (zxM r s a):=zxP r s a [k]
theorem zxR(r:Rl):∀(a b:List Int) (s:Stt),zxN r s (a++b)=zxN r s a++zxN r (zxM r s a) b
 | [],_,_=>rfl
 | k::a,b,s=>congrArg ((step r k s).cls :: ·) (zxR r a b (step r k s))
theorem zxS(r:Rl):∀(a:List Int) (s:Stt),(zxN r s a).length=a.length
 | [],_=>rfl
 | k::a,s=>congrArg (· + 1) (zxS r a (step r k s))
theorem zxT(r:Rl):∀(a:List Int) (s:Stt) (i:Nat),i < a.length->(zxN r s a)[i]? = some (zxM r s (a.take (i+1))).cls
 | [],_,_,h=>by simp at h
 | k::a,s,0,_=>rfl
 | k::a,s,i+1,h=>zxT r a (step r k s) i (by simp at h; omega)
theorem zxU{l:List Int}{k:Nat}{x:Int}(h:l[k]? = some x):l.take (k+1)=l.take k++[x]:=by rw[List.take_add_one,h]; rfl
def zxV:K4:={ k0:={ lead:=fun a b=>ztd a b },k1:={ lead:=fun a b=>ztf a b },k2:={ lead:=fun a b=>ztg a b },k3:={ lead:=fun a b=>zte a b } }
theorem zxW:zth=some zxV:=rfl
theorem zxX{r:Rl}{s:Stt}:ztd r s=some (step r 0 s):=rfl
theorem zxY{r:Rl}(h:zw7 r){s:Stt}(hs:SOk r s):zte r s=some (step r 3 s):=by
 have:=h.rest;unfold SOk at hs;unfold zte;rw[zqs (fI (by omega))]; rfl
theorem zxZ{r:Rl}(h:zw7 r)(hc:r.Classes<=6){s:Stt}(hs:SOk r s):ztf r s=some (step r 1 s):=by
 have hs':=hs;unfold SOk at hs';unfold ztf;rw[zxY h hs,obs];unfold step
 by_cases hr:s.since=r.Rest
 ·rw[if_pos hr,zqs (fI (by omega)),if_neg (by decide),if_pos rfl,if_pos hr]; rfl
 ·rw[if_neg hr,if_neg (by decide),if_pos rfl,if_neg hr]; rfl
theorem zx0{r:Rl}(h:zw7 r)(hc:r.Classes<=6){s:Stt}(hs:SOk r s):ztg r s=some (step r 2 s):=by
 have:=h.c0;unfold SOk at hs;unfold ztg;rw[zqs (fI (by omega)),zqs (fI (by omega))]; rfl
def zx1(r:Rl)(z:Zn):Wk:={ r:=r,zone:=z,kinds:=zxV,can:=z.Years.map fun y=>mkP (kB r y) }
theorem zx2{r:Rl}{z:Zn}(h:VZ r z):ztS r z=some (zx1 r z,0):=by
 have h6:=h.y6;have hpl:=h.full.rl.pl;have hc6:=h.c6;unfold ztS;rw[zxm (by omega) (by omega),obs,zxb.2 h,if_pos rfl,zxW,obs]
 exact zrD (l:=z.Years) (fun y=>mkP (kB r y)) (F:=fun d acc x=>ztR r z zxV d r.Classes r.Good r.Bad r.Rest r.Fewest z.First acc x) (fun acc=>some (({ r:=r,zone:=z,kinds:=zxV,can:=acc }:Wk),(0:Int))) (fun d k acc a hk ha=>by
  have hkl:=(List.getElem?_eq_some_iff.1 hk).1
  show ztR r z zxV (d+1) _ _ _ _ _ _ _ _=_
  rw[ztR,if_pos (by omega),zry hk,obs,zxH h.full.rl (h.full.ys a (List.mem_of_getElem? hk)),obs,zqs (by omega),zqs (fI (by omega))]) (fun d acc=>by
  show ztR r z zxV (d+1) _ _ _ _ _ _ _ _=_
  rw[ztR,if_neg (Int.lt_irrefl _)]) (by omega)
theorem zx3{r:Rl}{z:Zn}(h1:r.Price.length<=1000)(h2:z.Years.length<=1000)(h:zxa r z ≠ 0):∃w,ztS r z=some (w,zxa r z):=by
 unfold ztS;rw[zxm h1 h2,obs,if_neg h];exact⟨_,rfl⟩
theorem zx4{z:Zn}(h:z.Years.length<=1000){n:Int}:Ev (ztb z n) (0<=n/\n<=(z.Years.length:Int) - 1):=by
 unfold ztb;refine Ev.gd (fI (by omega)) ?_;exact(show Ev (zsK { Lo:=0,Hi:=(z.Years.length:Int) - 1 } n) _ from zxc).ret
theorem zx5{r:Rl}{z:Zn}(h:VZ r z){n:Int}(hn:0<=n/\n<=(z.Years.length:Int) - 1):ztT r z n=some (zx1 r z,0):=by
 have:=h.y6;unfold ztT;rw[zx2 h,obs,if_pos rfl,(zx4 (by omega)).some_of hn,obs,if_pos rfl]
theorem zx6{r:Rl}{z:Zn}(h:VZ r z){n:Int}(hn:¬ (0<=n/\n<=(z.Years.length:Int) - 1)):∃w,ztT r z n=some (w,2):=by
 have:=h.y6;unfold ztT;rw[zx2 h,obs,if_pos rfl,(zx4 (by omega)).some_not hn,obs,if_neg (by decide)];exact⟨_,rfl⟩
theorem zx7{r:Rl}{z:Zn}(h1:r.Price.length<=1000)(h2:z.Years.length<=1000)(h:zxa r z ≠ 0){n:Int}:∃w,ztT r z n=some (w,zxa r z):=by
 obtain⟨w,e⟩:=zx3 h1 h2 h;unfold ztT;rw[e,obs,if_neg h];exact⟨_,rfl⟩
def st0(r:Rl)(z:Zn):Stt:=⟨z.First,r.Rest⟩
theorem VZ.st0{r:Rl}{z:Zn}(h:VZ r z):SOk r (st0 r z):=by
 have h1:=h.full.first;have h2:=h.full.rl.rest;exact⟨h1,h2.1,Int.le_refl _⟩
theorem zx8{r:Rl}(h:zw7 r)(hc:r.Classes<=6){s:Stt}(hs:SOk r s){k:Int}(hk:0<=k/\k < 4){β:Type}{G:Stt->Option β} :
  (if k=0 then (zxV.k0.lead r s).bind G else if k=1 then (zxV.k1.lead r s).bind G else if k=2 then (zxV.k2.lead r s).bind G else if k=3 then (zxV.k3.lead r s).bind G else none)=G (step r k s):=by
 by_cases h0:k=0
 ·subst h0; rw[if_pos rfl,show zxV.k0.lead r s=some (step r 0 s) from zxX,obs]
 rw[if_neg h0]
 by_cases h1:k=1
 ·subst h1; rw[if_pos rfl,show zxV.k1.lead r s=some (step r 1 s) from zxZ h hc hs,obs]
 rw[if_neg h1]
 by_cases h2:k=2
 ·subst h2; rw[if_pos rfl,show zxV.k2.lead r s=some (step r 2 s) from zx0 h hc hs,obs]
 rw[if_neg h2]
 have h3:k=3:=by omega
 subst h3; rw[if_pos rfl,show zxV.k3.lead r s=some (step r 3 s) from zxY h hs,obs]
theorem zx9{r:Rl}{s:Stt}{ks:List Int}{k:Nat}{x:Int}(h:ks[k]? = some x):zxN r s (ks.take (k+1))=zxN r s (ks.take k)++[(step r x (zxM r s (ks.take k))).cls]:=by
 rw[zxU h,zxR]; rfl
theorem zya{r:Rl}{s:Stt}{ks:List Int}{k:Nat}{x:Int}(h:ks[k]? = some x):zxM r s (ks.take (k+1))=step r x (zxM r s (ks.take k)):=by
 rw[zxU h,zxQ]
def zyb(ks:List Int):Prop:=∀k∈ks,0<=k/\k < 4
theorem zyc{r:Rl}(h:zw7 r){ks:List Int}(hk:zyb ks)(hl:ks.length<=1000){s:Stt}(hs:SOk r s)(hs0:s.since=r.Rest):∀(i d:Nat) (m:Int),i<=ks.length->i < d->0<=m->m<=10 ->
  zsf r ks d m ((i:Int) - 1)=some (decide (r.Rest<=(zxM r s (ks.take i)).since+m))
 | 0,0,_,_,h,_,_=>by omega
 | 0,d+1,m,_,_,hm,_=>by
  rw[zsf,if_neg (by omega)];refine congrArg some (decide_eq_true ?_).symm
  show r.Rest<=s.since+m
  omega
 | i+1,0,_,_,h,_,_=>by omega
 | i+1,d+1,m,hi,hd,hm,hm2=>by
  have hr:=h.rest;have hg:=List.getElem?_eq_getElem (show i < ks.length by omega);have hx:=hk _ (List.getElem_mem (show i < ks.length by omega));have hs1:=zxO h (ks.take i) hs;have ih:=fun m hm hm2=>zyc h hk hl hs hs0 i d m (by omega) (by omega) hm hm2;rw[zya hg];generalize zxM r s (ks.take i)=q at hs1 ih;generalize ks[i]=x at hg hx;unfold SOk at hs1;rw[zsf,if_pos (by omega)];rw[show((i+1:Nat):Int) - 1=(i:Int) by omega]
  by_cases hmr:m < r.Rest
  ·rw[if_pos hmr,zry hg,obs]
   by_cases h2:x=2
   ·subst h2;rw[if_pos rfl];refine congrArg some (decide_eq_false ?_).symm
    show ¬ r.Rest<=(0:Int)+m
    omega
   ·rw[if_neg h2,obs]
    by_cases h0:0 < x
    ·rw[if_pos h0,zqs (fI (by omega)),zqs (fI (by omega)),ih (m+1) (by omega) (by omega)];refine congrArg some (decide_eq_decide.2 ?_)
     have e:(step r x q).since=min (q.since+1) r.Rest:=by
      unfold step;rw[if_neg h2]
      by_cases h1:x=1
      ·rw[if_pos h1]
      ·rw[if_neg h1,if_pos (by omega)]
     rw[e]
     omega
    ·rw[if_neg h0,zqs (fI (by omega)),ih m hm hm2]
     have e:step r x q=q:=by
      unfold step;rw[if_neg h2,if_neg (by omega),if_neg (by omega)]
     rw[e]
  ·rw[if_neg hmr];refine congrArg some (decide_eq_true ?_).symm;have:=(zxL h x hs1).2.1
   omega
theorem zyd{r:Rl}(h:zw7 r){ks:List Int}(hk:zyb ks)(hl:ks.length<=1000){s:Stt}(hs:SOk r s)(hs0:s.since=r.Rest):zsg r ks=some (decide ((zxM r s ks).since=r.Rest)):=by
 unfold zsg;rw[zqs (fI (by omega))];have e:=zyc h hk hl hs hs0 ks.length 1000000 0 (by omega) (by omega) (by omega) (by omega);have hb:=(zxO h ks hs).2;rw[List.take_length] at e;rw[e];refine congrArg some (decide_eq_decide.2 ?_)
 omega
theorem zye{r:Rl}{s:Stt}(hs:SOk r s)(x:Int):(step r x s).cls=if x=2 then min (s.cls+1) (r.Classes - 1) else if x=1 then (if s.since=r.Rest then max (s.cls - 1) 0 else s.cls) else s.cls:=by
 unfold step
 by_cases h2:x=2
 ·rw[if_pos h2,if_pos h2]
 rw[if_neg h2,if_neg h2]
 by_cases h1:x=1
 ·rw[if_pos h1,if_pos h1]
  show(if _ then _ else _)=_
  rw[Int.max_comm]
 rw[if_neg h1,if_neg h1]
 split <;> rfl
theorem zyf{r:Rl}(h:zw7 r)(hc6:r.Classes<=6){ks:List Int}(hk:zyb ks)(hl:ks.length<=1000){c:Int}(hc:0<=c/\c<=r.Classes - 1):zsi r c ks=some (zxN r ⟨c,r.Rest⟩ ks):=by
 have hs:SOk r ⟨c,r.Rest⟩:=⟨hc,h.rest.1,Int.le_refl _⟩;unfold zsi;refine zw4 (n:=ks.length) (fun d (s:Int × List Int) x=>zsh r ks d s.1 s.2 x) (fun k=>((zxM r ⟨c,r.Rest⟩ (ks.take k)).cls,zxN r ⟨c,r.Rest⟩ (ks.take k))) (fun d k hkl=>?_) (fun d=>?_) (ks.length+1) 0 (by omega) (by omega)
 ·have hg:=List.getElem?_eq_getElem hkl;have hsk:=zxO h (ks.take k) hs;have hrs:=zyd h (ks:=ks.take k) (fun x hx=>hk x (List.mem_of_mem_take hx)) (by rw[List.length_take]; omega) hs rfl
  have hlen:(zxN r ⟨c,r.Rest⟩ (ks.take k)).length < 1048576:=by rw[zxS,List.length_take]; omega
  rw[zya hg,zx9 hg,zye hsk];generalize zxN r ⟨c,r.Rest⟩ (ks.take k)=acc at hlen;generalize zxM r ⟨c,r.Rest⟩ (ks.take k)=s at hsk hrs;unfold SOk at hsk
  show zsh r ks (d+1) s.cls acc (k:Int)=_
  have e0:((ks.take (Int.toNat (k:Int))).drop (Int.toNat 0))=ks.take k:=by rw[Int.toNat_natCast]; rfl
  rw[zsh,if_pos (by omega),zry hg,obs]
  by_cases h2:ks[k]=2
  ·rw[if_pos h2,if_pos h2,zqs (fI (by omega)),zqs (fI (by omega)),obs,if_neg (by omega),zqs hlen,zqs (fI (by omega))]
  ·rw[if_neg h2,if_neg h2,obs]
   by_cases h1:ks[k]=1
   ·rw[if_pos h1,if_pos h1,zqs ⟨by omega,by omega,by omega⟩,e0,hrs,obs]
    by_cases hr:s.since=r.Rest
    ·rw[decide_eq_true hr,if_pos rfl,if_pos hr,zqs (fI (by omega)),zqs hlen,zqs (fI (by omega))]
    ·rw[decide_eq_false hr,if_neg (by decide),if_neg hr,zqs hlen,zqs (fI (by omega))]
   ·rw[if_neg h1,if_neg h1,zqs hlen,zqs (fI (by omega))]
 ·show zsh r ks (d+1) _ _ _=_
  rw[zsh,if_neg (Int.lt_irrefl _),List.take_length]
def kl(p:P4):List Int:=(if p.p0=true then [0] else [])++((if p.p1=true then [1] else [])++((if p.p2=true then [2] else [])++if p.p3=true then [3] else []))
theorem zyg{p:P4}{k:Int}(h:k∈kl p):0<=k/\k < 4:=by
 unfold kl at h
 simp only[List.mem_append] at h
 rcases h with h | h | h | h <;> split at h <;> first | cases h; done | (rw[List.mem_singleton] at h; omega)
theorem zyh{f:Nat->Bool}{k:Int}:k∈kl (mkP f)↔(0<=k/\k < 4)/\f k.toNat=true:=by
 constructor
 ·intro h;refine⟨zyg h,?_⟩;unfold kl mkP at h
  simp only[List.mem_append] at h
  rcases h with h | h | h | h <;> split at h <;> first | (cases h; done) | (rename_i q; rw[List.mem_singleton] at h; rw[h]; exact q)
 ·rintro⟨hk,h⟩
  unfold kl mkP
  simp only[List.mem_append]
  have:k=0\/k=1\/k=2\/k=3:=by omega
  rcases this with rfl | rfl | rfl | rfl
  ·exact .inl (by rw[if_pos (show f 0=true from h)]; exact List.mem_singleton.2 rfl)
  ·exact .inr (.inl (by rw[if_pos (show f 1=true from h)]; exact List.mem_singleton.2 rfl))
  ·exact .inr (.inr (.inl (by rw[if_pos (show f 2=true from h)]; exact List.mem_singleton.2 rfl)))
  ·exact .inr (.inr (.inr (by rw[if_pos (show f 3=true from h)]; exact List.mem_singleton.2 rfl)))
theorem zyi{p:P4}{d:Nat}{i:Nat}{b:Bool}{l:List Int}(hi:i < 4)(hb:([p.p0,p.p1,p.p2,p.p3]:List Bool)[i]? = some b)(h:zto p d ((i:Int)+1)=some l):zto p (d+1) (i:Int)=some ((if b=true then [(i:Int)] else [])++l):=by
 rw[zto,if_pos (by omega),zry hb,obs,zqs (fI (by omega)),h]
 cases b <;> rfl
theorem zyj{p:P4}:ztq p=some (kl p):=by
 have h4:zto p (0+1) (((3:Nat):Int)+1)=some []:=by rw[zto,if_neg (by omega)]
 have h3:=zyi (i:=3) (by omega) rfl h4;have h2:=zyi (i:=2) (by omega) rfl h3;have h1:=zyi (i:=1) (by omega) rfl h2;have h0:=zyi (i:=0) (by omega) rfl h1;unfold ztq ztp;have h0:zto p (Int.toNat 4+1) 0=_:=h0;rw[h0,obs,List.append_nil]; rfl
def zyk(cs:List P4):List (List Int):=cs.foldl (fun all p=>all.flatMap fun l=>(kl p).map fun k=>l++[k]) [[]]
theorem zyl(cs:List P4)(p:P4):zyk (cs++[p])=(zyk cs).flatMap fun l=>(kl p).map fun k=>l++[k]:=by
 unfold zyk;rw[List.foldl_append]; rfl
theorem zym{cs:List P4}{p:P4}{l:List Int}:l∈zyk (cs++[p])↔∃l' k,l'∈zyk cs/\k∈kl p/\l=l'++[k]:=by
 rw[zyl,List.mem_flatMap]
 constructor
 ·rintro⟨l',h1,h2⟩
  obtain⟨k,h3,h4⟩:=List.mem_map.1 h2;exact⟨l',k,h1,h3,h4.symm⟩
 ·rintro⟨l',k,h1,h2,rfl⟩
  exact⟨l',h1,List.mem_map.2 ⟨k,h2,rfl⟩⟩
theorem zyn{α:Type}{l:List α}{k:Nat}{x:α}(h:l[k]? = some x):l.take (k+1)=l.take k++[x]:=by rw[List.take_add_one,h]; rfl
def Fit(ks:List Int)(cs:List P4):Prop:=ks.length=cs.length/\∀(i:Nat) (k:Int) (p:P4),ks[i]? = some k->cs[i]? = some p->k∈kl p
theorem zyo{cs:List P4}{p:P4}{l:List Int}:Fit l (cs++[p])↔∃l' k,Fit l' cs/\k∈kl p/\l=l'++[k]:=by
 unfold Fit
 constructor
 ·rintro⟨h1,h2⟩
  rw[List.length_append] at h1
  simp only[List.length_cons,List.length_nil] at h1
  have hl:cs.length < l.length:=by omega
  have hg:=List.getElem?_eq_getElem hl;refine⟨l.take cs.length,l[cs.length],⟨by rw[List.length_take]; omega,fun i k q hi hq=>?_⟩,h2 cs.length _ p hg (by rw[List.getElem?_append_right (Nat.le_refl _),Nat.sub_self]; rfl),?_⟩
  ·have hi':=(List.getElem?_eq_some_iff.1 hq).1;rw[List.getElem?_take,if_pos hi'] at hi;exact h2 i k q hi (by rw[List.getElem?_append_left hi']; exact hq)
  ·rw[<- zyn hg,List.take_of_length_le (by omega)]
 ·rintro⟨l',k,⟨h1,h2⟩,h3,rfl⟩
  refine⟨by rw[List.length_append,List.length_append,h1]; rfl,fun i k' q hi hq=>?_⟩
  rcases Nat.lt_or_ge i cs.length with h4 | h4
  ·rw[List.getElem?_append_left (by omega)] at hi;rw[List.getElem?_append_left h4] at hq;exact h2 i k' q hi hq
  ·have h5:=(List.getElem?_eq_some_iff.1 hq).1;rw[List.length_append] at h5
   simp only[List.length_cons,List.length_nil] at h5
   have e:i=cs.length:=by omega
   subst e;rw[List.getElem?_append_right (Nat.le_refl _),Nat.sub_self] at hq;rw[<- h1,List.getElem?_append_right (Nat.le_refl _),Nat.sub_self] at hi
   cases hq; cases hi; exact h3
theorem zyp:∀(cs:List P4) {l:List Int},l∈zyk cs↔Fit l cs:=by
 have key:∀(n:Nat) (cs:List P4),cs.length=n->∀{l:List Int},l∈zyk cs↔Fit l cs:=by
  intro n
  induction n with
  | zero=>
   intro cs h l;rw[List.eq_nil_of_length_eq_zero h]
   show l∈[[]]↔_
   rw[List.mem_singleton];exact⟨fun h=>by rw[h]; exact⟨rfl,fun i k p hi=>by simp at hi⟩,fun h=>List.eq_nil_of_length_eq_zero h.1⟩
  | succ n ih=>
   intro cs h l;have hg:=List.getElem?_eq_getElem (show n < cs.length by omega)
   have e:cs=cs.take n++[cs[n]]:=by rw[<- zyn hg,List.take_of_length_le (by omega)]
   rw[e,zym,zyo];exact exists_congr fun l'=>exists_congr fun k=>and_congr_left fun _=>ih _ (by rw[List.length_take]; omega)
 intro cs;exact key cs.length cs rfl
theorem zyq{l:List Int}{cs:List P4}(h:Fit l cs):zyb l:=fun k hk=>by
 obtain⟨i,hi⟩:=List.mem_iff_getElem?.1 hk;have hl:=(List.getElem?_eq_some_iff.1 hi).1;exact zyg (h.2 i k _ hi (List.getElem?_eq_getElem (by rw[<- h.1]; exact hl)))
def nx(r:Rl)(p:P4)(q:Stt):List Stt:=(kl p).map fun k=>step r k q
def zyr(r:Rl)(s:Stt)(cs:List P4):List Stt:=(zyk cs).map (zxM r s)
theorem zys{r:Rl}{s q:Stt}{cs:List P4}:q∈zyr r s cs↔∃ks,Fit ks cs/\zxM r s ks=q:=by
 unfold zyr;rw[List.mem_map];exact exists_congr fun ks=>and_congr_left fun _=>zyp cs
theorem zyt{r:Rl}{s q:Stt}{cs:List P4}{p:P4}:q∈zyr r s (cs++[p])↔∃q',q'∈zyr r s cs/\q∈nx r p q':=by
 rw[zys]
 constructor
 ·rintro⟨ks,h1,h2⟩
  obtain⟨l',k,h3,h4,rfl⟩:=zyo.1 h1;rw[zxQ] at h2;exact⟨_,zys.2 ⟨l',h3,rfl⟩,List.mem_map.2 ⟨k,h4,h2⟩⟩
 ·rintro⟨q',h1,h2⟩
  obtain⟨l',h3,rfl⟩:=zys.1 h1;obtain⟨k,h4,h5⟩:=List.mem_map.1 h2;exact⟨l'++[k],zyo.2 ⟨l',k,h3,h4,rfl⟩,by rw[zxQ]; exact h5⟩
theorem zyu{r:Rl}(h:zw7 r){s:Stt}(hs:SOk r s){cs:List P4}:∀q∈zyr r s cs,SOk r q:=fun q hq=>by
 obtain⟨ks,_,rfl⟩:=zys.1 hq;exact zxO h ks hs
open Classical in
def mL(l:List Stt):Option (Stt->Option Bool):=some fun q=>if q∈l then some true else none
theorem zyv{l l':List Stt}(h:∀q,q∈l↔q∈l'):mL l=mL l':=by
 unfold mL
 congr 1
 funext q
 by_cases hq:q∈l
 ·rw[if_pos hq,if_pos ((h q).1 hq)]
 ·rw[if_neg hq,if_neg fun h'=>hq ((h q).2 h')]
theorem zyw:mL []=some fun _=>none:=by
 unfold mL
 congr 1
theorem zyx{l:List Stt}{q:Stt}(h:q∈l):zqG (mL l) q=some true:=if_pos h
theorem zyy{l:List Stt}{q:Stt}:zqG (mL l) q ≠ none↔q∈l:=by
 constructor
 ·intro h
  by_cases hq:q∈l
  ·exact hq
  ·exact absurd (show zqG (mL l) q=none from if_neg hq) h
 ·intro h;rw[zyx h]; simp
open Classical in
theorem zyz{l:List Stt}{q:Stt}:zqH (mL l) q true=some (mL (l++[q])):=by
 show some (some _)=some (some _)
 congr 2
 funext j
 by_cases hj:j=q
 ·rw[if_pos hj,if_pos (by rw[hj]; simp)]
 ·rw[if_neg hj]
  show(if j∈l then some true else none)=if j∈l++[q] then some true else none
  by_cases h2:j∈l
  ·rw[if_pos h2,if_pos (List.mem_append_left _ h2)]
  ·rw[if_neg h2,if_neg fun h=>(List.mem_append.1 h).elim h2 fun h=>hj (List.mem_singleton.1 h)]
theorem SOk.fit{r:Rl}(h:zw7 r)(hc:r.Classes<=6){q:Stt}(hq:SOk r q):MK.fit q:=by
 have:=h.rest;unfold SOk at hq
 show zl6 .i64 q.cls/\zl6 .i64 q.since/\True
 exact⟨fI (by omega),fI (by omega),trivial⟩
theorem zyA{α:Type}:∀l:List α,∃ks:List α,ks.Nodup/\∀k,k∈ks↔k∈l
 | []=>⟨[],List.nodup_nil,fun _=>Iff.rfl⟩
 | a::l=>by
  obtain⟨ks,h1,h2⟩:=zyA l
  by_cases h:a∈ks
  ·refine⟨ks,h1,fun k=>?_⟩;rw[h2,List.mem_cons];exact⟨.inr,fun hk=>hk.elim (fun he=>by rw[he]; exact(h2 a).1 h) id⟩
  ·exact⟨a::ks,List.nodup_cons.2 ⟨h,h1⟩,fun k=>by rw[List.mem_cons,List.mem_cons,h2]⟩
theorem zyB{r:Rl}(h:zw7 r)(hc:r.Classes<=6){l:List Stt}(hl:∀q∈l,SOk r q){R:Type}{g:List Stt->Option R}{v:R}(hg:∀ks,(∀q,q∈ks↔q∈l)->g ks=some v):zrd (mL l) g=some v:=by
 obtain⟨ks0,h1,h2⟩:=zyA l;have hk:∀ks:List Stt,zrc (mL l) ks->∀q,q∈ks↔q∈l:=fun ks hks q=>(hks.2 q).trans ⟨fun hq=>zyy.1 hq.2,fun hq=>⟨(hl q hq).fit h hc,zyy.2 hq⟩⟩;exact zrf (ks0:=ks0) ⟨h1,fun q=>(h2 q).trans ⟨fun hq=>⟨(hl q hq).fit h hc,zyy.2 hq⟩,fun hq=>zyy.1 hq.2⟩⟩ fun ks hks=>hg ks (hk ks hks)
theorem zyC{w:Wk}(h:zw7 w.r)(hc:w.r.Classes<=6)(hw:w.kinds=zxV){q:Stt}(hq:SOk w.r q){rest:List Stt}{K:Option (Stt->Option Bool)->List Stt->Option (Option (Stt->Option Bool))}:∀(ks:List Int) (A:List Stt),zyb ks ->
  ztx w q rest K ks (mL A)=K (mL (A++ks.map fun k=>step w.r k q)) rest
 | [],A,_=>by rw[ztx,List.map_nil,List.append_nil]
 | k::ks,A,hk=>by
  rw[ztx,hw];have hkb:=hk k (List.mem_cons_self ..);have ih:=zyC h hc hw hq (rest:=rest) (K:=K) ks (A++[step w.r k q]) fun x hx=>hk x (List.mem_cons_of_mem _ hx);refine(zx8 h hc hq hkb (G:=fun s=>gd (MK.fit s) ((zqH (mL A) s true).bind fun w'=>ztx w q rest K ks w'))).trans ?_
  show gd (MK.fit (step w.r k q)) _=_
  rw[zqs ((zxL h k hq).fit h hc),zyz,obs,ih,List.append_assoc]; rfl
theorem zyD{w:Wk}(h:zw7 w.r)(hc:w.r.Classes<=6)(hw:w.kinds=zxV){l:List Stt}(hl:∀q∈l,SOk w.r q){i:Nat}{p:P4}(hi:w.can[i]? = some p):∀(n d:Nat) (rem A:List Stt),rem.length=n->n < d->(∀q∈rem,q∈l) ->
  zty w (mL l) (i:Int) d (mL A) rem=some (mL (A++rem.flatMap (nx w.r p)))
 | n,0,_,_,_,h,_=>by omega
 | n,d+1,rem,A,hn,hd,hr=>by
  rw[zty];refine zrj (fun l1 a l2 he=>?_) fun he=>?_
  ·have ha:=hr a (by rw[he]; simp);rw[zyx ha,obs,zry hi,obs,zyj,obs,zyC h hc hw (hl a ha) _ _ fun k hk=>zyg hk]
   have hlen:(l1++l2).length+1=n:=by rw[<- hn,he]; simp; omega
   rw[zyD h hc hw hl hi ((l1++l2).length) d (l1++l2) _ rfl (by omega) fun q hq=>hr q (by rw[he]; rcases List.mem_append.1 hq with h1 | h1 <;> simp[h1])]
   congr 1
   refine zyv fun q=>?_;rw[he]
   simp only[List.mem_append,List.mem_flatMap,List.mem_cons]
   show(q∈A\/q∈nx w.r p a)\/_↔_
   constructor
   ·rintro ((h1 | h1) | ⟨b,h1,h2⟩)
    ·exact .inl h1
    ·exact .inr ⟨a,.inr (.inl rfl),h1⟩
    ·exact .inr ⟨b,h1.elim .inl fun h=>.inr (.inr h),h2⟩
   ·rintro (h1 | ⟨b,h1,h2⟩)
    ·exact .inl (.inl h1)
    ·rcases h1 with h1 | rfl | h1
     ·exact .inr ⟨b,.inl h1,h2⟩
     ·exact .inl (.inr h2)
     ·exact .inr ⟨b,.inr h1,h2⟩
  ·subst he;rw[List.flatMap_nil,List.append_nil]
theorem zyE{w:Wk}(h:zw7 w.r)(hc:w.r.Classes<=6)(hw:w.kinds=zxV){l:List Stt}(hl:∀q∈l,SOk w.r q){i:Nat}{p:P4}(hi:w.can[i]? = some p):ztz w (mL l) (i:Int)=some (mL (l.flatMap (nx w.r p))):=by
 unfold ztz;refine zyB h hc hl fun ks hks=>?_;rw[<- zyw,zyD h hc hw hl hi ks.length (ks.length+1) ks [] rfl (by omega) fun q hq=>(hks q).1 hq,List.nil_append]
 congr 1
 refine zyv fun q=>?_
 simp only[List.mem_flatMap]
 exact exists_congr fun a=>and_congr_left fun _=>hks a
theorem zyF{w:Wk}(h:zw7 w.r)(hc:w.r.Classes<=6)(hw:w.kinds=zxV)(hf:SOk w.r ⟨w.zone.First,w.r.Rest⟩){n:Nat}(hn:n<=w.can.length)(hn2:n<=1000):ztB w (n:Int)=some (mL (zyr w.r ⟨w.zone.First,w.r.Rest⟩ (w.can.take n))):=by
 unfold ztB ztw;rw[obs,zqs (hf.fit h hc),<- zyw,zyz,obs];refine zw4 (n:=n) (fun d (s:Option (Stt->Option Bool)) x=>ztA w (n:Int) d s x) (fun k=>mL (zyr w.r ⟨w.zone.First,w.r.Rest⟩ (w.can.take k))) (fun d k hk=>?_) (fun d=>?_) (Int.toNat (n:Int)+1) 0 (by omega) (by omega)
 ·have hg:=List.getElem?_eq_getElem (show k < w.can.length by omega)
  show ztA w (n:Int) (d+1) _ _=_
  rw[ztA,if_pos (by omega),zyE h hc hw (zyu h hf) hg,obs,zqs (fI (by omega))]
  congr 1
  refine zyv fun q=>?_;rw[zyn hg,zyt,List.mem_flatMap]
 ·show ztA w (n:Int) (d+1) _ _=_
  rw[ztA,if_neg (Int.lt_irrefl _)]
def mkC(f:Nat->Bool):C6:=⟨f 0,f 1,f 2,f 3,f 4,f 5⟩
theorem zyG{f g:Nat->Bool}(h:∀k,k < 6->(f k=true↔g k=true)):mkC f=mkC g:=by
 have e:∀k,k < 6->f k=g k:=fun k hk=>Bool.eq_iff_iff.2 (h k hk);unfold mkC;rw[e 0 (by omega),e 1 (by omega),e 2 (by omega),e 3 (by omega),e 4 (by omega),e 5 (by omega)]
theorem zyH{f:Nat->Bool}{k:Nat}(hk:k < 6):([(mkC f).c0,(mkC f).c1,(mkC f).c2,(mkC f).c3,(mkC f).c4,(mkC f).c5]:List Bool)[k]? = some (f k):=by
 match k,hk with
 | 0,_=>rfl
 | 1,_=>rfl
 | 2,_=>rfl
 | 3,_=>rfl
 | 4,_=>rfl
 | 5,_=>rfl
def clB(l:List Stt)(c:Nat):Bool:=l.any fun q=>q.cls == (c:Int)
theorem zyI{l:List Stt}{c:Nat}:clB l c=true↔∃q∈l,q.cls=(c:Int):=by
 unfold clB;rw[List.any_eq_true];exact exists_congr fun q=>and_congr_right fun _=>beq_iff_eq
theorem zyJ{r:Rl}(hc:r.Classes<=6){l:List Stt}(hl:∀q∈l,SOk r q):∀(n d:Nat) (rem:List Stt) (f:Nat->Bool),rem.length=n->n < d->(∀q∈rem,q∈l) ->
  ztu (mL l) d (f 0) (f 1) (f 2) (f 3) (f 4) (f 5) rem=some (mkC fun c=>f c || clB rem c)
 | n,0,_,_,_,h,_=>by omega
 | n,d+1,rem,f,hn,hd,hr=>by
  rw[ztu];refine zrj (fun l1 a l2 he=>?_) fun he=>?_
  ·have ha:=hr a (by rw[he]; simp);have hb:=(hl a ha).1
   have hlen:(l1++l2).length+1=n:=by rw[<- hn,he]; simp; omega
   rw[zyx ha,obs,zqs ⟨hb.1,by omega⟩,zxx f hb.1,zxx f hb.1,zxx f hb.1,zxx f hb.1,zxx f hb.1,zxx f hb.1]
   rw[zyJ hc hl ((l1++l2).length) d (l1++l2) (upF f a.cls.toNat true) rfl (by omega) fun q hq=>hr q (by rw[he]; rcases List.mem_append.1 hq with h1 | h1 <;> simp[h1])]
   congr 1
   refine zyG fun k _=>?_;rw[Bool.or_eq_true,Bool.or_eq_true,zxy,zyI,zyI,he]
   simp only[List.mem_append,List.mem_cons]
   constructor
   ·rintro ((h1 | h1) | ⟨b,h1,h2⟩)
    ·exact .inl h1
    ·exact .inr ⟨a,.inr (.inl rfl),by omega⟩
    ·exact .inr ⟨b,h1.elim .inl fun h=>.inr (.inr h),h2⟩
   ·rintro (h1 | ⟨b,h1,h2⟩)
    ·exact .inl (.inl h1)
    ·rcases h1 with h1 | rfl | h1
     ·exact .inr ⟨b,.inl h1,h2⟩
     ·exact .inl (.inr (by omega))
     ·exact .inr ⟨b,.inr h1,h2⟩
  ·subst he
   show some (mkC f)=_
   congr 1
   exact zyG fun k _=>by rw[Bool.or_eq_true]; exact⟨.inl,fun h=>h.elim id fun h=>by cases h⟩
theorem zyK{r:Rl}(h:zw7 r)(hc:r.Classes<=6){l:List Stt}(hl:∀q∈l,SOk r q):ztv (mL l)=some (mkC (clB l)):=by
 unfold ztv;refine zyB h hc hl fun ks hks=>?_;have e:=zyJ hc hl ks.length (ks.length+1) ks (fun _=>false) rfl (by omega) fun q hq=>(hks q).1 hq;have e:ztu (mL l) (ks.length+1) false false false false false false ks=_:=e;rw[e]
 congr 1
 refine zyG fun k _=>?_;rw[Bool.or_eq_true,zyI,zyI];exact⟨fun h=>h.elim (fun h=>by cases h) fun⟨q,h1,h2⟩=>⟨q,(hks q).1 h1,h2⟩,fun⟨q,h1,h2⟩=>.inr ⟨q,(hks q).2 h1,h2⟩⟩
def zyL(f:Nat->Bool)(n:Nat):List Int:=((List.range n).filter f).map fun c:Nat=>(c:Int)
theorem zyM(f:Nat->Bool)(n:Nat):zyL f (n+1)=zyL f n++if f n=true then [(n:Int)] else []:=by
 unfold zyL;rw[List.range_succ,List.filter_append,List.map_append]
 congr 1
 cases h:f n <;> simp[h]
theorem zyN{f:Nat->Bool}{n:Nat}{x:Int}:x∈zyL f n↔0<=x/\x < n/\f x.toNat=true:=by
 unfold zyL;rw[List.mem_map]
 constructor
 ·rintro⟨c,hc,rfl⟩
  rw[List.mem_filter,List.mem_range] at hc;exact⟨by omega,by omega,hc.2⟩
 ·rintro⟨h1,h2,h3⟩
  exact⟨x.toNat,List.mem_filter.2 ⟨List.mem_range.2 (by omega),h3⟩,by omega⟩
theorem zyO(f:Nat->Bool)(n:Nat):(zyL f n).length<=n:=by
 unfold zyL;rw[List.length_map];exact Nat.le_trans (List.length_filter_le _ _) (by rw[List.length_range]; exact Nat.le_refl _)
theorem zyP{f:Nat->Bool}:ztn (mkC f)=some (zyL f 6):=by
 unfold ztn;refine zw4 (n:=6) (fun d (s:List Int) x=>ztm (mkC f) d s x) (fun k=>zyL f k) (fun d k hk=>?_) (fun d=>?_) (Int.toNat 6+1) 0 (by omega) (by show 6 - 0 < 6+1; omega)
 ·show ztm (mkC f) (d+1) _ _=_
  have:=zyO f k;rw[ztm,if_pos (by omega),zry (zyH hk),obs,zyM]
  cases f k with
  | true=>rw[if_pos rfl,if_pos rfl,zqs (by omega),zqs (fI (by omega))]
  | false=>rw[if_neg (by decide),if_neg (by decide),zqs (fI (by omega)),List.append_nil]
 ·show ztm (mkC f) (d+1) _ _=_
  rw[ztm,if_neg (by omega)]
def zyQ(r:Rl)(z:Zn)(n:Nat):List Stt:=zyr r (st0 r z) ((zx1 r z).can.take n)
theorem zyR{r:Rl}{z:Zn}(h:VZ r z){n:Nat}:∀q∈zyQ r z n,SOk r q:=zyu h.full.rl h.st0
theorem zyS{r:Rl}{z:Zn}(h:VZ r z){i:Nat}(hi:i < z.Years.length):ztU r z (i:Int)=some (zyL (clB (zyQ r z (i+1))) 6,0):=by
 have h6:=h.y6;unfold ztU;rw[zx5 h (by omega),obs,if_pos rfl,zqs (fI (by omega)),show(i:Int)+1=((i+1:Nat):Int) by omega];have e:ztB (zx1 r z) ((i+1:Nat):Int)=some (mL (zyQ r z (i+1))):=zyF (w:=zx1 r z) h.full.rl h.c6 rfl h.st0 (n:=i+1) (by show i+1<=(z.Years.map _).length; rw[List.length_map]; omega) (by omega)
 show(ztB (zx1 r z) _).bind _=_
 rw[e,obs,zyK (r:=r) (l:=zyQ r z (i+1)) h.full.rl h.c6 (zyR h),obs,zyP,obs]
theorem zyT{r:Rl}{z:Zn}(h:VZ r z){n:Int}(hn:¬ (0<=n/\n<=(z.Years.length:Int) - 1)):ztU r z n=some ([],2):=by
 obtain⟨w,e⟩:=zx6 h hn;unfold ztU;rw[e,obs,if_neg (show ¬ (2:Int)=0 by decide)]
theorem zyU{r:Rl}{z:Zn}(h1:r.Price.length<=1000)(h2:z.Years.length<=1000)(h:zxa r z ≠ 0){n:Int}:ztU r z n=some ([],zxa r z):=by
 obtain⟨w,e⟩:=zx7 h1 h2 h;unfold ztU;rw[e,obs,if_neg h]
end
end Go.Proofs.Ytlpjlgmoaipoiaa

namespace Go.Proofs.Ytlpjlgmoaipoiaa
open _root_.Go.Proofs.Try
open Go.Abs
set_option maxRecDepth 100000
noncomputable section
theorem zyV{c:Int}(hc:0<=c/\c < 6):ztl c=some (mkC fun k=>decide ((k:Int)=c)):=by
 unfold ztl;rw[zqs hc]
 have e:∀k:Nat,sti c k true false=decide ((k:Int)=c):=fun k=>by
  unfold sti
  by_cases h:c=(k:Int)
  ·rw[if_pos h,decide_eq_true h.symm]
  ·rw[if_neg h,decide_eq_false fun h'=>h h'.symm]
 rw[e,e,e,e,e,e]; rfl
def mvB(l:List Stt)(c:Int):Bool:=l.any fun q=>q.cls != c
def syB(l:List Stt)(c:Int):Bool:=l.any fun q=>q.cls == c
theorem zyW{l:List Stt}{c:Int}:mvB l c=true↔∃q∈l,q.cls ≠ c:=by
 unfold mvB;rw[List.any_eq_true];exact exists_congr fun q=>and_congr_right fun _=>bne_iff_ne
theorem zyX{l:List Stt}{c:Int}:syB l c=true↔∃q∈l,q.cls=c:=by
 unfold syB;rw[List.any_eq_true];exact exists_congr fun q=>and_congr_right fun _=>beq_iff_eq
theorem zyY{r:Rl}(hc6:r.Classes<=6){l:List Stt}(hl:∀q∈l,SOk r q)(hne:l ≠ []){c:Int}(hc:0<=c/\c < 6) :
  (!(((mkC (clB l)).c0 == (mkC fun k=>decide ((k:Int)=c)).c0) && (((mkC (clB l)).c1 == (mkC fun k=>decide ((k:Int)=c)).c1) && (((mkC (clB l)).c2 == (mkC fun k=>decide ((k:Int)=c)).c2) && (((mkC (clB l)).c3 == (mkC fun k=>decide ((k:Int)=c)).c3) && (((mkC (clB l)).c4 == (mkC fun k=>decide ((k:Int)=c)).c4) && ((mkC (clB l)).c5 == (mkC fun k=>decide ((k:Int)=c)).c5)))))))=mvB l c:=by
 have e:(((mkC (clB l)).c0 == (mkC fun k=>decide ((k:Int)=c)).c0) && (((mkC (clB l)).c1 == (mkC fun k=>decide ((k:Int)=c)).c1) && (((mkC (clB l)).c2 == (mkC fun k=>decide ((k:Int)=c)).c2) && (((mkC (clB l)).c3 == (mkC fun k=>decide ((k:Int)=c)).c3) && (((mkC (clB l)).c4 == (mkC fun k=>decide ((k:Int)=c)).c4) && ((mkC (clB l)).c5 == (mkC fun k=>decide ((k:Int)=c)).c5))))))=true↔∀k:Nat,k < 6->clB l k=decide ((k:Int)=c):=by
  simp only[Bool.and_eq_true,beq_iff_eq]
  constructor
  ·rintro⟨h0,h1,h2,h3,h4,h5⟩ k hk
   match k,hk with
   | 0,_=>exact h0
   | 1,_=>exact h1
   | 2,_=>exact h2
   | 3,_=>exact h3
   | 4,_=>exact h4
   | 5,_=>exact h5
  ·intro h;exact⟨h 0 (by omega),h 1 (by omega),h 2 (by omega),h 3 (by omega),h 4 (by omega),h 5 (by omega)⟩
 rw[Bool.eq_iff_iff,Bool.not_eq_true',<- Bool.not_eq_true,e,zyW]
 constructor
 ·intro h;refine Classical.byContradiction fun hn=>h fun k hk=>?_;have hall:∀q∈l,q.cls=c:=fun q hq=>Classical.byContradiction fun h'=>hn ⟨q,hq,h'⟩;rw[Bool.eq_iff_iff,zyI,decide_eq_true_eq]
  constructor
  ·rintro⟨q,h1,h2⟩; rw[<- h2]; exact hall q h1
  ·intro h1;obtain⟨q,hq⟩:=List.exists_mem_of_ne_nil l hne;exact⟨q,hq,by rw[hall q hq,h1]⟩
 ·rintro⟨q,hq,hne⟩ h
  have hb:=(hl q hq).1;have h8:=h q.cls.toNat (by omega);rw[Bool.eq_iff_iff,zyI,decide_eq_true_eq] at h8;exact hne ((Int.toNat_of_nonneg hb.1).symm.trans (h8.1 ⟨q,hq,(Int.toNat_of_nonneg hb.1).symm⟩))
def zyZ(m s:Bool):Int:=if s=true then (if m=true then 3 else 2) else 1
theorem zy0{r:Rl}{y:Yr}(hy:zw5 y):kl (mkP (kB r y)) ≠ []:=by
 obtain⟨⟨h1,h2,h3,h4⟩,⟨h5,h6,h7,h8⟩,_⟩:=hy;have hb:=zxs r y y.Losses.Lo y.Premiums.Lo;have:kN r y y.Losses.Lo y.Premiums.Lo∈kl (mkP (kB r y)):=zyh.2 ⟨hb,zxD.2 ⟨_,_,⟨Int.le_refl _,h2⟩,⟨Int.le_refl _,h6⟩,by omega⟩⟩;intro h
 rw[h] at this; cases this
theorem zy1{w:Wk}(h:zw7 w.r)(hc:w.r.Classes<=6)(hw:w.kinds=zxV){l:List Stt}(hl:∀q∈l,SOk w.r q){i:Nat}{p:P4}(hi:w.can[i]? = some p)(hp:kl p ≠ []):∀(n d:Nat) (rem:List Stt) (b1 b2:Bool),rem.length=n->n < d->(∀q∈rem,q∈l) ->
  ztC w (i:Int) (mL l) d b1 b2 rem=some (zyZ (b1 || rem.any fun q=>mvB (nx w.r p q) q.cls) (b2 || rem.any fun q=>syB (nx w.r p q) q.cls))
 | n,0,_,_,_,_,h,_=>by omega
 | n,d+1,rem,b1,b2,hn,hd,hr=>by
  rw[ztC];refine zrj (fun l1 a l2 he=>?_) fun he=>?_
  ·have ha:=hr a (by rw[he]; simp);have hs:=hl a ha;have hb:=hs.1
   have hlen:(l1++l2).length+1=n:=by rw[<- hn,he]; simp; omega
   have hnx:∀q∈nx w.r p a,SOk w.r q:=fun q hq=>by
    obtain⟨k,_,rfl⟩:=List.mem_map.1 hq;exact zxL h k hs
   have hne:nx w.r p a ≠ []:=by
    unfold nx;intro h';exact hp (List.map_eq_nil_iff.1 h')
   have ih:=fun b1 b2=>zy1 h hc hw hl hi hp ((l1++l2).length) d (l1++l2) b1 b2 rfl (by omega) fun q hq=>hr q (by rw[he]; rcases List.mem_append.1 hq with h1 | h1 <;> simp[h1])
   have ef:ztz w (mL [a]) (i:Int)=some (mL (nx w.r p a)):=by
    have:=zyE h hc hw (l:=[a]) (fun q hq=>by rw[List.mem_singleton.1 hq]; exact hs) hi;rw[this]
    congr 1
    exact zyv fun q=>by simp
   rw[zyx ha,obs,zqs (hs.fit h hc),<- zyw,zyz,obs,List.nil_append,ef,obs,zyK h hc hnx,obs]
   have hsy:idx ([(mkC (clB (nx w.r p a))).c0,(mkC (clB (nx w.r p a))).c1,(mkC (clB (nx w.r p a))).c2,(mkC (clB (nx w.r p a))).c3,(mkC (clB (nx w.r p a))).c4,(mkC (clB (nx w.r p a))).c5]:List Bool) a.cls=some (syB (nx w.r p a) a.cls):=by
    have e0:a.cls=((a.cls.toNat:Nat):Int):=by omega
    rw[e0,zry (zyH (by omega)),<- e0]
    congr 1
    rw[Bool.eq_iff_iff,zyI,zyX,<- e0]
   have hm:(!(((mkC (clB (nx w.r p a))).c0 == (mkC fun k=>decide ((k:Int)=a.cls)).c0) && (((mkC (clB (nx w.r p a))).c1 == (mkC fun k=>decide ((k:Int)=a.cls)).c1) && (((mkC (clB (nx w.r p a))).c2 == (mkC fun k=>decide ((k:Int)=a.cls)).c2) && (((mkC (clB (nx w.r p a))).c3 == (mkC fun k=>decide ((k:Int)=a.cls)).c3) && (((mkC (clB (nx w.r p a))).c4 == (mkC fun k=>decide ((k:Int)=a.cls)).c4) && ((mkC (clB (nx w.r p a))).c5 == (mkC fun k=>decide ((k:Int)=a.cls)).c5)))))))=mvB (nx w.r p a) a.cls:=zyY hc hnx hne (by omega)
   have any_e:∀(g:Stt->Bool),rem.any g=(g a || (l1++l2).any g):=fun g=>by
    rw[he,List.any_append,List.any_cons,List.any_append]
    cases l1.any g <;> cases g a <;> cases l2.any g <;> rfl
   rw[any_e,any_e]
   cases b1 with
   | true=>
    rw[if_pos rfl]
    cases b2 with
    | true=>rw[if_pos rfl,ih,Bool.true_or,Bool.true_or,Bool.true_or,Bool.true_or]
    | false=>rw[if_neg (by decide),hsy,obs,ih,Bool.true_or,Bool.true_or,Bool.false_or]
   | false=>
    rw[if_neg (by decide),zyV (by omega),obs]
    cases b2 with
    | true=>rw[if_pos rfl,hm,ih,Bool.true_or,Bool.true_or,Bool.false_or]
    | false=>rw[if_neg (by decide),hsy,obs,hm,ih,Bool.false_or,Bool.false_or]
  ·subst he;rw[List.any_nil,List.any_nil,Bool.or_false,Bool.or_false];unfold zyZ
   cases b1 <;> cases b2 <;> rfl
def zy2(r:Rl)(z:Zn)(i:Nat)(p:P4):Int:=zyZ ((zyQ r z i).any fun q=>mvB (nx r p q) q.cls) ((zyQ r z i).any fun q=>syB (nx r p q) q.cls)
theorem zy3{r:Rl}{z:Zn}{i:Nat}{y:Yr}(h:z.Years[i]? = some y):(zx1 r z).can[i]? = some (mkP (kB r y)):=by
 show(z.Years.map _)[i]? = _
 rw[List.getElem?_map,h]; rfl
theorem zy4{l l':List Stt}(h:∀q,q∈l↔q∈l')(g:Stt->Bool):l.any g=l'.any g:=by
 rw[Bool.eq_iff_iff,List.any_eq_true,List.any_eq_true];exact exists_congr fun q=>and_congr_left fun _=>h q
theorem zy5{r:Rl}{z:Zn}(h:VZ r z){i:Nat}{y:Yr}(hi:z.Years[i]? = some y):ztV r z (i:Int)=some (zy2 r z i (mkP (kB r y)),0):=by
 have h6:=h.y6;have hil:=(List.getElem?_eq_some_iff.1 hi).1;unfold ztV;rw[zx5 h (by omega),obs,if_pos rfl];have e:ztB (zx1 r z) (i:Int)=some (mL (zyQ r z i)):=zyF (w:=zx1 r z) h.full.rl h.c6 rfl h.st0 (n:=i) (by show i<=(z.Years.map _).length; rw[List.length_map]; omega) (by omega)
 show(ztD (zx1 r z) _).bind _=_
 unfold ztD;rw[e,obs]
 have e2:zrd (mL (zyQ r z i)) (fun ks=>ztC (zx1 r z) (i:Int) (mL (zyQ r z i)) (ks.length+1) false false ks)=some (zy2 r z i (mkP (kB r y))):=by
  refine zyB h.full.rl h.c6 (zyR h) fun ks hks=>?_;rw[zy1 (w:=zx1 r z) h.full.rl h.c6 rfl (zyR h) (zy3 hi) (zy0 (h.full.ys y (List.mem_of_getElem? hi))) ks.length (ks.length+1) ks false false rfl (by omega) fun q hq=>(hks q).1 hq,Bool.false_or,Bool.false_or,zy4 hks,zy4 hks]; rfl
 rw[e2,obs]
theorem zy6{r:Rl}{z:Zn}(h:VZ r z){n:Int}(hn:¬ (0<=n/\n<=(z.Years.length:Int) - 1)):ztV r z n=some (0,2):=by
 obtain⟨w,e⟩:=zx6 h hn;unfold ztV;rw[e,obs,if_neg (show ¬ (2:Int)=0 by decide)]
theorem zy7{r:Rl}{z:Zn}(h1:r.Price.length<=1000)(h2:z.Years.length<=1000)(h:zxa r z ≠ 0){n:Int}:ztV r z n=some (0,zxa r z):=by
 obtain⟨w,e⟩:=zx7 h1 h2 h;unfold ztV;rw[e,obs,if_neg h]
theorem zy8{l:List Int}(h:l ≠ [])(hl:l.length<=1048577):zsO l=some (zrK l):=by
 unfold zsO
 cases l with
 | nil=>exact absurd rfl h
 | cons x l=>
  rw[if_neg (by rw[List.length_cons]; omega),zrz rfl,obs];refine(zrJ (l:=x::l) (fun s a=>min s a) (fun d s k=>zsN (x::l) d s k) (fun s=>some s) (fun d k s a hk=>?_) (fun d s=>?_) _ 0 x (Nat.zero_le _) (by omega)).trans ?_
  ·have hkl:=(List.getElem?_eq_some_iff.1 hk).1
   show zsN (x::l) (d+1) s (k:Int)=_
   rw[zsN,if_pos (by omega),zry hk,obs]
   by_cases hc:a < s
   ·rw[if_pos hc,zqs (fI (by omega)),Int.min_eq_right (by omega)]
   ·rw[if_neg hc,zqs (fI (by omega)),Int.min_eq_left (by omega)]
  ·show zsN (x::l) (d+1) s _=_
   rw[zsN,if_neg (Int.lt_irrefl _)]
  ·rw[List.drop_zero]
   show some (l.foldl min (min x x))=_
   rw[Int.min_self]; rfl
theorem zy9{l:List Int}(h:l ≠ [])(hl:l.length<=1048577):zsQ l=some (zrL l):=by
 unfold zsQ
 cases l with
 | nil=>exact absurd rfl h
 | cons x l=>
  rw[if_neg (by rw[List.length_cons]; omega),zrz rfl,obs];refine(zrJ (l:=x::l) (fun s a=>max s a) (fun d s k=>zsP (x::l) d s k) (fun s=>some s) (fun d k s a hk=>?_) (fun d s=>?_) _ 1 x (by rw[List.length_cons]; omega) (by rw[List.length_cons]; omega)).trans ?_
  ·have hkl:=(List.getElem?_eq_some_iff.1 hk).1
   show zsP (x::l) (d+1) s (k:Int)=_
   rw[zsP,if_pos (by omega),zry hk,obs,zqs (fI (by omega))]
  ·show zsP (x::l) (d+1) s _=_
   rw[zsP,if_neg (Int.lt_irrefl _)]
  ·rfl
theorem zza(f:Nat->Bool)(n:Nat):(zyL f n).Pairwise (· < ·):=by
 unfold zyL;rw[List.pairwise_map]
 exact(List.pairwise_lt_range.filter _).imp fun h=>by omega
theorem zzb{L:List Int}(h:L.Pairwise (· < ·)){i j:Nat}{a c:Int}(hi:L[i]? = some a)(hj:L[j]? = some c)(hij:i<=j):a<=c:=by
 obtain⟨h1,rfl⟩:=List.getElem?_eq_some_iff.1 hi;obtain⟨h2,rfl⟩:=List.getElem?_eq_some_iff.1 hj
 rcases Nat.lt_or_eq_of_le hij with h3 | rfl
 ·exact Int.le_of_lt (List.pairwise_iff_getElem.1 h i j h1 h2 h3)
 ·exact Int.le_refl _
def zzc(r:Rl)(c:Int):Int:=(r.Price[c.toNat]?).getD 0
theorem zzd{r:Rl}(h:zw7 r){c:Int}(hc:0<=c/\c<=r.Classes - 1):idx r.Price c=some (zzc r c):=by
 have:=h.pl;unfold zzc;rw[show idx r.Price c=r.Price[c.toNat]? from if_pos hc.1,List.getElem?_eq_getElem (by omega)]; rfl
theorem zze{r:Rl}(h:zw7 r):∀(j i:Nat),i<=j->j < r.Price.length->zzc r (i:Int)<=zzc r (j:Int)
 | 0,i,hi,_=>by rw[show i=0 by omega]; exact Int.le_refl _
 | j+1,i,hi,hj=>by
  rcases Nat.lt_or_eq_of_le hi with h1 | rfl
  ·have h2:=zze h j i (by omega) (by omega);have g1:=List.getElem?_eq_getElem hj;have g0:=List.getElem?_eq_getElem (show j < r.Price.length by omega);have h3:=h.so (j+1) hj (by omega) _ _ g1 g0;unfold zzc at h2 ⊢;rw[Int.toNat_natCast,Int.toNat_natCast] at h2 ⊢;rw[g0] at h2;rw[g1]
   show _<=r.Price[j+1]
   have h2:_<=r.Price[j]:=h2
   omega
  ·exact Int.le_refl _
theorem zzf{r:Rl}(h:zw7 r){a b:Int}(ha:0<=a)(hab:a<=b)(hb:b<=r.Classes - 1):zzc r a<=zzc r b:=by
 have:=h.pl;have:=zze h b.toNat a.toNat (by omega) (by omega)
 rwa [show(a.toNat:Int)=a by omega,show(b.toNat:Int)=b by omega] at this
theorem zzg{r:Rl}(hc:r.Classes<=6){l:List Stt}(hl:∀q∈l,SOk r q){c:Int}:c∈zyL (clB l) 6↔∃q∈l,q.cls=c:=by
 rw[zyN]
 constructor
 ·rintro⟨h1,h2,h3⟩
  obtain⟨q,hq,h4⟩:=zyI.1 h3;exact⟨q,hq,by omega⟩
 ·rintro⟨q,hq,rfl⟩
  have:=(hl q hq).1;exact⟨this.1,by omega,zyI.2 ⟨q,hq,by omega⟩⟩
theorem zzh{r:Rl}{s:Stt}:∀(n:Nat) (cs:List P4),cs.length=n->(∀p∈cs,kl p ≠ [])->∃q,q∈zyr r s cs
 | 0,cs,h,_=>by
  rw[List.eq_nil_of_length_eq_zero h];exact⟨s,List.mem_singleton.2 rfl⟩
 | n+1,cs,h,hc=>by
  have hg:=List.getElem?_eq_getElem (show n < cs.length by omega)
  have e:cs=cs.take n++[cs[n]]:=by rw[<- zyn hg,List.take_of_length_le (by omega)]
  obtain⟨q,hq⟩:=zzh (r:=r) (s:=s) n (cs.take n) (by rw[List.length_take]; omega) fun p hp=>hc p (List.mem_of_mem_take hp);obtain⟨k,hk⟩:=List.exists_mem_of_ne_nil _ (hc _ (List.getElem_mem (show n < cs.length by omega)));exact⟨step r k q,by rw[e,zyt]; exact⟨q,hq,List.mem_map.2 ⟨k,hk,rfl⟩⟩⟩
theorem zzi{r:Rl}{z:Zn}(h:VZ r z):∀p∈(zx1 r z).can,kl p ≠ []:=fun p hp=>by
 obtain⟨y,hy,rfl⟩:=List.mem_map.1 (show p∈z.Years.map _ from hp);exact zy0 (h.full.ys y hy)
theorem zzj{r:Rl}{z:Zn}(h:VZ r z)(n:Nat):∃q,q∈zyQ r z n:=zzh _ _ rfl fun p hp=>zzi h p (List.mem_of_mem_take hp)
def zzk(r:Rl)(z:Zn)(n:Nat):List Int:=zyL (clB (zyQ r z n)) 6
theorem zzl{r:Rl}{z:Zn}(h:VZ r z){n:Nat}{c:Int}:c∈zzk r z n↔∃q∈zyQ r z n,q.cls=c:=zzg h.c6 (zyR h)
theorem zzm{r:Rl}{z:Zn}(h:VZ r z){n:Nat}{c:Int}(hc:c∈zzk r z n):0<=c/\c<=r.Classes - 1:=by
 obtain⟨q,hq,rfl⟩:=(zzl h).1 hc;exact(zyR h q hq).1
theorem zzn{r:Rl}{z:Zn}:(zx1 r z).can.length=z.Years.length:=List.length_map _
theorem zzo{r:Rl}{z:Zn}(h:VZ r z):ztG (zx1 r z)=some ((zzk r z z.Years.length).map (zzc r)):=by
 have h6:=h.y6;have e:ztB (zx1 r z) (z.Years.length:Int)=some (mL (zyQ r z z.Years.length)):=zyF (w:=zx1 r z) h.full.rl h.c6 rfl h.st0 (n:=z.Years.length) (by rw[zzn]; exact Nat.le_refl _) (by omega);unfold ztG ztE;rw[zzn,e,obs,zyK (r:=r) h.full.rl h.c6 (zyR h),obs,obs,zyP,obs]
 show ztF (zx1 r z) (zzk r z z.Years.length) _ _ _=_
 have hl:(zzk r z z.Years.length).length<=6:=zyO _ _
 exact zrD (l:=zzk r z z.Years.length) (zzc r) (F:=fun d acc x=>ztF (zx1 r z) (zzk r z z.Years.length) d acc x) (fun acc=>some acc) (fun d k acc a hk ha=>by
  have hkl:=(List.getElem?_eq_some_iff.1 hk).1
  show ztF _ _ (d+1) _ _=_
  rw[ztF,if_pos (by omega),zry hk,obs,show idx (zx1 r z).r.Price a=_ from zzd h.full.rl (zzm h (List.mem_of_getElem? hk)),obs,zqs (by omega),zqs (fI (by omega))]) (fun d acc=>by
  show ztF _ _ (d+1) _ _=_
  rw[ztF,if_neg (Int.lt_irrefl _)]) (Nat.lt_succ_self _)
theorem zzp{r:Rl}{z:Zn}(h:VZ r z){a b:Int}(ha:(zzk r z z.Years.length)[0]? = some a)(hb:(zzk r z z.Years.length)[(zzk r z z.Years.length).length - 1]? = some b):ztW r z=some (⟨zzc r a,zzc r b⟩,0):=by
 unfold ztW;have hl:(zzk r z z.Years.length).length<=6:=zyO _ _;have hs:(zzk r z z.Years.length).Pairwise (· < ·):=zza _ _;have hbd:∀c∈zzk r z z.Years.length,0<=c/\c<=r.Classes - 1:=fun c hc=>zzm h hc;rw[zx2 h,obs,if_pos rfl,zzo h,obs];generalize zzk r z z.Years.length=L at ha hb hl hs hbd
 have hne:L.map (zzc r) ≠ []:=fun he=>by
  rw[List.map_eq_nil_iff.1 he] at ha; cases ha
 rw[zy8 hne (by rw[List.length_map]; omega),obs,zy9 hne (by rw[List.length_map]; omega),obs];obtain⟨m1,m2⟩:=zrO hne;obtain⟨m3,m4⟩:=zrP hne;have ham:=List.mem_of_getElem? ha;have hbm:=List.mem_of_getElem? hb
 have e1:zrK (L.map (zzc r))=zzc r a:=by
  obtain⟨c,hc,he⟩:=List.mem_map.1 m1;obtain⟨i,hi⟩:=List.mem_iff_getElem?.1 hc;have h1:=zzf h.full.rl (hbd a ham).1 (zzb hs ha hi (Nat.zero_le _)) (hbd c hc).2;have h2:=m2 _ (List.mem_map.2 ⟨a,ham,rfl⟩)
  omega
 have e2:zrL (L.map (zzc r))=zzc r b:=by
  obtain⟨c,hc,he⟩:=List.mem_map.1 m3;obtain⟨i,hi⟩:=List.mem_iff_getElem?.1 hc;have hil:=(List.getElem?_eq_some_iff.1 hi).1;have h1:=zzf h.full.rl (hbd c hc).1 (zzb hs hi hb (by omega)) (hbd b hbm).2;have h2:=m4 _ (List.mem_map.2 ⟨b,hbm,rfl⟩)
  omega
 rw[e1,e2]
def zzq(r:Rl)(z:Zn)(i:Nat):Bool:=match z.Years[i]? with | some y=>decide (1 < (kl (mkP (kB r y))).length) | none=>false
theorem zzr{l:List Int}(hl:l.length<=1000):ztt l=some l:=by
 have key:∀(l acc:List Int),l.length+acc.length<=1000->ztr l acc=some (acc++l):=by
  intro l
  induction l with
  | nil=>intro acc _; rw[ztr,List.append_nil]
  | cons a l ih=>
   intro acc h;rw[List.length_cons] at h;rw[ztr,zqs (by omega),ih (acc++[a]) (by rw[List.length_append]; show _+(acc.length+1)<=_; omega),List.append_assoc]; rfl
 unfold ztt zts;rw[key l [] (by simpa using hl),obs]; rfl
theorem zzs(p:P4):(kl p).length<=4:=by
 unfold kl
 cases p with
 | mk a b c d=>cases a <;> cases b <;> cases c <;> cases d <;> decide
theorem zzt{r:Rl}{z:Zn}(h:VZ r z):ztI (zx1 r z)=some (zyL (zzq r z) z.Years.length):=by
 have h6:=h.y6;unfold ztI;rw[zzn];refine zw4 (n:=z.Years.length) (fun d (s:List Int) x=>ztH (zx1 r z) d s x) (fun k=>zyL (zzq r z) k) (fun d k hk=>?_) (fun d=>?_) (z.Years.length+1) 0 (by omega) (by omega)
 ·have hg:=List.getElem?_eq_getElem hk;have hk4:=zzs (mkP (kB r z.Years[k]));have hn:=zyO (zzq r z) k
  show ztH (zx1 r z) (d+1) _ _=_
  rw[ztH,zzn,if_pos (by omega),zry (zy3 hg),obs,zyj,obs,zzr (by omega),obs,zyM]
  have e:zzq r z k=decide (1 < (kl (mkP (kB r z.Years[k]))).length):=by unfold zzq; rw[hg]
  by_cases hc:1 < (kl (mkP (kB r z.Years[k]))).length
  ·rw[if_pos (by omega),zqs (by omega),zqs (fI (by omega)),if_pos (by rw[e]; exact decide_eq_true hc)]
  ·rw[if_neg (by omega),zqs (fI (by omega)),if_neg (by rw[e,decide_eq_false hc]; decide),List.append_nil]
 ·show ztH (zx1 r z) (d+1) _ _=_
  rw[ztH,zzn,if_neg (Int.lt_irrefl _)]
theorem zzu{r:Rl}{z:Zn}(h:VZ r z):ztX r z=some (zyL (zzq r z) z.Years.length,0):=by
 unfold ztX;rw[zx2 h,obs,if_pos rfl,zzt h,obs]
def zzv:P4:=⟨false,true,true,true⟩
def zzw(r:Rl)(z:Zn)(S:Nat->Bool):List P4:=z.Years.mapIdx fun i y=>if (S i && zxq r y)=true then zzv else mkP (kB r y)
theorem zzx{r:Rl}{z:Zn}{S:Nat->Bool}{i:Nat}{y:Yr}(h:z.Years[i]? = some y):(zzw r z S)[i]? = some (if (S i && zxq r y)=true then zzv else mkP (kB r y)):=by
 unfold zzw;rw[List.getElem?_mapIdx,h]; rfl
theorem zzy{r:Rl}{z:Zn}{S:Nat->Bool}:(zzw r z S).length=z.Years.length:=by
 unfold zzw;rw[List.length_mapIdx]
theorem zzz{r:Rl}{z:Zn}{S:Nat->Bool}{cs:List P4}(hl:cs.length=z.Years.length)(h:∀i y,z.Years[i]? = some y->cs[i]? = some (if (S i && zxq r y)=true then zzv else mkP (kB r y))):cs=zzw r z S:=by
 refine List.ext_getElem? fun i=>?_
 rcases Nat.lt_or_ge i z.Years.length with hi | hi
 ·have hg:=List.getElem?_eq_getElem hi;rw[h i _ hg,zzx hg]
 ·rw[List.getElem?_eq_none (by omega),List.getElem?_eq_none (by rw[zzy]; exact hi)]
theorem zzA{r:Rl}{z:Zn}:(zx1 r z).can=zzw r z fun _=>false:=zzz zzn fun i y hy=>by
 rw[zy3 hy,if_neg (by simp)]
theorem zzB{r:Rl}{z:Zn}{S S':Nat->Bool}(h:∀i,i < z.Years.length->S i=S' i):zzw r z S=zzw r z S':=zzz zzy fun i y hy=>by
 rw[zzx hy,h i (List.getElem?_eq_some_iff.1 hy).1]
theorem zzC{r:Rl}{z:Zn}(h:VZ r z){S:Nat->Bool}:∀p∈zzw r z S,kl p ≠ []:=fun p hp=>by
 obtain⟨i,hi⟩:=List.mem_iff_getElem?.1 hp;have hil:=(List.getElem?_eq_some_iff.1 hi).1;rw[zzy] at hil;have hg:=List.getElem?_eq_getElem hil;rw[zzx hg] at hi
 injection hi with hi
 subst hi
 split
 ·exact fun h'=>by cases h'
 ·exact zy0 (h.full.ys _ (List.getElem_mem hil))
def zzD(r:Rl)(z:Zn)(S:Nat->Bool):Wk:={ r:=r,zone:=z,kinds:=zxV,can:=zzw r z S }
theorem zzE{L:List Int}{k:Nat}{v:Int}(hv:L[k]? = some v)(j:Nat):inD (L.take (k+1)) j=(inD (L.take k) j || decide ((j:Int)=v)):=by
 unfold inD;rw[zyn hv,Bool.eq_iff_iff,Bool.or_eq_true,decide_eq_true_eq,decide_eq_true_eq,decide_eq_true_eq,List.mem_append,List.mem_singleton]
theorem zzF{r:Rl}{z:Zn}{S:Nat->Bool}{v:Nat}{y:Yr}(hv:z.Years[v]? = some y)(hc:zxq r y=true):(zzw r z S).set v zzv=zzw r z fun j=>S j || decide ((j:Int)=(v:Int)):=by
 refine zzz (by rw[List.length_set]; exact zzy) fun i y' hy=>?_
 by_cases h:v=i
 ·subst h
  rw[hv] at hy; cases hy
  rw[List.getElem?_set_self (by rw[zzy]; exact(List.getElem?_eq_some_iff.1 hv).1),decide_eq_true rfl,Bool.or_true,hc]; rfl
 ·rw[List.getElem?_set_ne h,zzx hy,decide_eq_false (by omega),Bool.or_false]
theorem zzG{r:Rl}{z:Zn}{S:Nat->Bool}{v:Nat}{y:Yr}(hv:z.Years[v]? = some y)(hc:zxq r y=false):zzw r z S=zzw r z fun j=>S j || decide ((j:Int)=(v:Int)):=by
 refine zzz zzy fun i y' hy=>?_;rw[zzx hy]
 by_cases h:v=i
 ·subst h
  rw[hv] at hy; cases hy
  rw[hc,Bool.and_false,Bool.and_false]
 ·rw[decide_eq_false (by omega),Bool.or_false]
theorem zzH{r:Rl}{z:Zn}(h:VZ r z){L:List Int}(hL:∀v∈L,0<=v/\v < z.Years.length)(hl:L.length<=1000):ztL (zx1 r z) L=some (zzD r z (inD L)):=by
 have h6:=h.y6;unfold ztL ztJ;have hcl:=zzn (r:=r) (z:=z);rw[zqs (by rw[List.length_nil]; omega),obs,List.nil_append,zzA];refine zw4 (n:=L.length) (fun d (s:List P4) x=>ztK (zx1 r z) L d r.Classes r.Good r.Bad r.Rest r.Fewest z.First s x) (fun k=>zzw r z (inD (L.take k))) (fun d k hk=>?_) (fun d=>?_) (L.length+1) 0 (by omega) (by omega)
 ·have hg:=List.getElem?_eq_getElem hk;have hv:=hL _ (List.getElem_mem hk);generalize L[k]=v at hg hv;have hy:=List.getElem?_eq_getElem (show v.toNat < z.Years.length by omega)
  have ev:((v.toNat:Nat):Int)=v:=by omega
  show ztK (zx1 r z) L (d+1) _ _ _ _ _ _ _ _=_
  have e1:idx (zx1 r z).zone.Years v=some (z.Years[v.toNat]'(by omega)):=by
   have:=zry hy
   rwa [ev] at this
  have e2:=zzx (r:=r) (S:=inD (L.take k)) hy;have e3:=zry e2;rw[ev] at e3
  have e4:(fun j=>inD (L.take k) j || decide ((j:Int)=((v.toNat:Nat):Int)))=inD (L.take (k+1)):=funext fun j=>by rw[zzE hg,ev]
  rw[ztK,if_pos (by omega),zry hg,obs,e1,obs,zxr,obs]
  show(if zxq r _=true then _ else _)=_
  by_cases hc:zxq r (z.Years[v.toNat]'(by omega))=true
  ·rw[if_pos hc]
   show((idx (zzw r z (inD (L.take k))) v).bind _)=_
   rw[e3,obs,zqs (fI (by omega))]
   show ztK (zx1 r z) L d _ _ _ _ _ _ ((zzw r z (inD (L.take k))).set v.toNat zzv) _=_
   rw[zzF hy hc,e4]
  ·rw[if_neg hc,zqs (fI (by omega)),<- e4,<- zzG hy (by simpa using hc)]
 ·show ztK (zx1 r z) L (d+1) _ _ _ _ _ _ _ _=_
  rw[ztK,if_neg (Int.lt_irrefl _),List.take_length]; rfl
def zzI(r:Rl)(z:Zn)(S:Nat->Bool)(n:Nat):List Stt:=zyr r (st0 r z) ((zzw r z S).take n)
theorem zzJ{r:Rl}{z:Zn}(h:VZ r z){S:Nat->Bool}{n:Nat}:∀q∈zzI r z S n,SOk r q:=zyu h.full.rl h.st0
theorem zzK{r:Rl}{z:Zn}{n:Nat}:zzI r z (fun _=>false) n=zyQ r z n:=by
 unfold zzI zyQ;rw[zzA]
theorem zzL{r:Rl}{z:Zn}(h:VZ r z){S:Nat->Bool}:ztE (zzD r z S)=some (mkC (clB (zzI r z S z.Years.length))):=by
 have h6:=h.y6;unfold ztE;have e:ztB (zzD r z S) (z.Years.length:Int)=some (mL (zzI r z S z.Years.length)):=zyF (w:=zzD r z S) h.full.rl h.c6 rfl h.st0 (n:=z.Years.length) (by show z.Years.length<=(zzw r z S).length; rw[zzy]; exact Nat.le_refl _) (by omega);rw[show((zzD r z S).can.length:Int)=(z.Years.length:Int) from by show((zzw r z S).length:Int)=_; rw[zzy],e,obs,zyK (r:=r) h.full.rl h.c6 (zzJ h),obs]
def zzM(r:Rl)(z:Zn)(c:Nat)(S:Nat->Bool):Bool:=clB (zzI r z S z.Years.length) c
theorem zzN{r:Rl}{z:Zn}{c:Nat}{S S':Nat->Bool}(h:∀i,i < z.Years.length->S i=S' i):zzM r z c S=zzM r z c S':=by
 unfold zzM zzI;rw[zzB h]
theorem zzO{r:Rl}{z:Zn}(h:VZ r z){c:Nat}(hc:c < 6){L:List Int}(hL:Inc z.Years.length 0 L):ztO (zx1 r z) (c:Int) L=some (zzM r z c (inD L)):=by
 have h6:=h.y6;have hll:=zwD hL;unfold ztO;rw[zzH h (fun v hv=>by have:=hL.2 v hv; omega) (by omega),obs,zzL h,obs,zry (zyH hc)]; rfl
def zzP(r:Rl)(z:Zn)(c:Nat)(L:List Int):Bool:=zzM r z c (inD L)
theorem zzQ{r:Rl}{z:Zn}(h:VZ r z){c:Nat}(hc:c < 6):ztP (zx1 r z) (c:Int)=some (zrp z.Years.length (zzP r z c),((zoi z.Years.length).find? (zzP r z c)).isSome):=by
 have h6:=h.y6;unfold ztP;rw[zzn,zqs ⟨by omega,fun L hL=>by rw[zzO h hc (zwE.1 hL)]; rfl⟩]
 have e:∀L∈zoi z.Years.length,((ztO (zx1 r z) (c:Int) L).getD false)=zzP r z c L:=fun L hL=>by rw[zzO h hc (zwE.1 hL)]; rfl
 have e2:(zoi z.Years.length).find? (fun L=>(ztO (zx1 r z) (c:Int) L).getD false)=(zoi z.Years.length).find? (zzP r z c):=by
  have key:∀l:List (List Int),(∀L∈l,((ztO (zx1 r z) (c:Int) L).getD false)=zzP r z c L)->l.find? (fun L=>(ztO (zx1 r z) (c:Int) L).getD false)=l.find? (zzP r z c):=by
   intro l
   induction l with
   | nil=>intro _; rfl
   | cons a l ih=>
    intro hl;rw[List.find?_cons,List.find?_cons,hl a (List.mem_cons_self ..),ih fun L hL=>hl L (List.mem_cons_of_mem _ hL)]
  exact key _ e
 unfold zrp;rw[e2]
theorem zzR{r:Rl}(h:zw7 r)(hc:r.Classes<=6){c:Int}:Ev (zs9 r c) (0<=c/\c<=r.Classes - 1):=by
 have:=h.c0;unfold zs9;refine Ev.gd (fI (by omega)) ?_;exact(show Ev (zsK ⟨0,r.Classes - 1⟩ c) _ from zxc).ret
theorem zzS{r:Rl}{z:Zn}(h:VZ r z){c:Nat}(hc:(c:Int)<=r.Classes - 1)(hn:∀L,Inc z.Years.length 0 L->zzP r z c L=false):ztY r z (c:Int)=some ([],7):=by
 have hc6:=h.c6;unfold ztY;rw[zx2 h,obs,if_pos rfl,(zzR h.full.rl h.c6).some_of ⟨by omega,hc⟩,obs,if_pos rfl,zzQ h (by omega),obs]
 have e:(zoi z.Years.length).find? (zzP r z c)=none:=List.find?_eq_none.2 fun L hL=>by rw[hn L (zwE.1 hL)]; decide
 rw[e]; rfl
theorem zzT{r:Rl}{z:Zn}(h:VZ r z){c:Nat}(hc:(c:Int)<=r.Classes - 1)(hn:∃L,Inc z.Years.length 0 L/\zzP r z c L=true):ztY r z (c:Int)=some (zrp z.Years.length (zzP r z c),0):=by
 have hc6:=h.c6;unfold ztY;rw[zx2 h,obs,if_pos rfl,(zzR h.full.rl h.c6).some_of ⟨by omega,hc⟩,obs,if_pos rfl,zzQ h (by omega),obs];obtain⟨L,h1,h2⟩:=hn
 have e:((zoi z.Years.length).find? (zzP r z c)).isSome=true:=by
  rw[List.find?_isSome];exact⟨L,zwE.2 h1,h2⟩
 rw[e]; rfl
theorem zzU{r:Rl}{z:Zn}(h:VZ r z){c:Int}(hc:¬ (0<=c/\c<=r.Classes - 1)):ztY r z c=some ([],2):=by
 unfold ztY;rw[zx2 h,obs,if_pos rfl,(zzR h.full.rl h.c6).some_not hc,obs,if_neg (by decide)]
theorem zzV{r:Rl}{z:Zn}(h1:r.Price.length<=1000)(h2:z.Years.length<=1000)(h:zxa r z ≠ 0){c:Int}:ztY r z c=some ([],zxa r z):=by
 obtain⟨w,e⟩:=zx3 h1 h2 h;unfold ztY;rw[e,obs,if_neg h]
theorem zzW{b:Nat}(hb:b < 65536):∀(d p:Nat) (acc:List Int),p<=16->16 - p < d->acc=zwF b p->zsA (b:Int) d acc (p:Int)=some (zwG b)
 | 0,_,_,_,h,_=>by omega
 | d+1,p,acc,hp,h,ha=>by
  have hle:b / 2 ^ p<=b:=Nat.div_le_self _ _;rw[zsA,wu (show p<=64 by omega)]
  have hq:(b:Int) / 2 ^ ((p:Int)).toNat=((b / 2 ^ p:Nat):Int):=by rw[Int.toNat_natCast]; simp
  rw[hq]
  clear hq
  have hl:=zwK (b:=b) p;have hbit:b.testBit p=decide (b / 2 ^ p % 2=1):=Nat.testBit_eq_decide_div_mod_eq ..
  have h16:p=16->b / 2 ^ p=0:=fun he=>by subst he; exact Nat.div_eq_of_lt (by omega)
  have h0':b / 2 ^ p=0->zwF b p=zwG b:=fun h9=>by
   have:=zwJ (b:=b) (p:=p) (fun q hq=>zjo h9 hq) (16 - p);rw[show p+(16 - p)=16 by omega] at this;exact this.symm
  generalize b / 2 ^ p=q at hle hbit h16 h0' ⊢;rw[zqs (by omega),zqs (by omega),zqs (by omega),zqs (fI (by omega))]
  by_cases h0:0 < q
  ·have hp16:p < 16:=by
    rcases Nat.lt_or_ge p 16 with h1 | h1
    ·exact h1
    ·have:=h16 (by omega); omega
   rw[if_pos (by omega),zqs (by omega),zqs (by omega),zqs (by omega),zqs (fI (by omega)),zqs (by omega),zqs (by omega),zqs (fI (by omega))]
   by_cases h1:q % 2=1
   ·rw[if_pos (by omega),zqs (show acc.length < 1048576 by rw[ha]; omega),zqs (fI (by omega)),show(p:Int)+1=((p+1:Nat):Int) by omega];refine zzW hb d (p+1) _ (by omega) (by omega) ?_
    show _=zwF b p++(if b.testBit p then [(p:Int)] else [])
    rw[ha,hbit,h1]; rfl
   ·rw[if_neg (by omega),zqs (fI (by omega)),show(p:Int)+1=((p+1:Nat):Int) by omega];refine zzW hb d (p+1) _ (by omega) (by omega) ?_
    show _=zwF b p++(if b.testBit p then [(p:Int)] else [])
    rw[ha,hbit,decide_eq_false h1]; simp
  ·rw[if_neg (by omega),ha];exact congrArg some (h0' (by omega))
theorem zzX{b:Nat}(hb:b < 65536):zsB (b:Int)=some (zwG b):=zzW hb 1000000 0 [] (Nat.zero_le _) (by omega) rfl
theorem zzY{a b:List Int}(hl:a.length<=1000):∀(d k:Nat),k<=a.length->a.length - k < d->zsC a b d (k:Int)=some (bef (a.drop k) (b.drop k))
 | 0,_,_,h=>by omega
 | d+1,k,hk,h=>by
  rw[zsC]
  by_cases hka:k < a.length
  ·rw[if_pos (by omega)];have da:=List.drop_eq_getElem_cons hka;have ga:=List.getElem?_eq_getElem hka
   by_cases hkb:k < b.length
   ·have db:=List.drop_eq_getElem_cons hkb;have gb:=List.getElem?_eq_getElem hkb;rw[if_pos (by omega),zry ga,obs,zry gb,obs,da,db];unfold bef
    by_cases he:a[k]=b[k]
    ·rw[if_pos he,if_pos he,zqs (fI (by omega)),show(k:Int)+1=((k+1:Nat):Int) by omega];exact zzY hl d (k+1) (by omega) (by omega)
    ·rw[if_neg he,if_neg he,obs,obs]
   ·rw[if_neg (by omega),da,List.drop_eq_nil_of_le (show b.length<=k by omega),decide_eq_false (by omega)]; rfl
  ·rw[if_neg (by omega),List.drop_eq_nil_of_le (show a.length<=k by omega)]
   by_cases hkb:k < b.length
   ·rw[List.drop_eq_getElem_cons hkb,decide_eq_true (by omega)]; rfl
   ·rw[List.drop_eq_nil_of_le (show b.length<=k by omega),decide_eq_false (by omega)]; rfl
theorem zzZ{a b:List Int}(hl:a.length<=1000):zsD a b=some (bef a b):=zzY hl (a.length+1) 0 (Nat.zero_le _) (by omega)
theorem zz0{a b:List Int}(hl:a.length<=1000):zsE a b=some (shB a b):=by
 unfold zsE shB
 by_cases h1:a.length < b.length
 ·rw[if_pos (by omega),decide_eq_true h1]; rfl
 ·rw[if_neg (by omega),decide_eq_false h1]
  by_cases h2:a.length=b.length
  ·rw[if_pos (by omega),zzZ hl,decide_eq_true h2]; simp
  ·rw[if_neg (by omega),decide_eq_false h2]; simp
theorem zz1{b:Nat}:(zwG b).length<=16:=zwK 16
structure zz2 (n:Nat) (P:(Nat->Bool)->Prop) (M:List Int):Prop where
 inc:Inc n 0 M
 ok:P (inD M)
 min:∀D,Inc n 0 D->P (inD D)->D=M\/shB M D=true
theorem zz2.uniq{n:Nat}{P:(Nat->Bool)->Prop}{M M':List Int}(h:zz2 n P M)(h':zz2 n P M'):M=M':=by
 rcases h.min M' h'.inc h'.ok with h1 | h1
 ·exact h1.symm
 ·rcases h'.min M h.inc h.ok with h2 | h2
  ·exact h2
  ·rw[zwS h1] at h2; cases h2
def zz3(p:P4)(i:Nat):Bool:=(([p.p0,p.p1,p.p2,p.p3]:List Bool)[i]?).getD false
theorem zz4{p:P4}{i:Nat}(h:i < 4):([p.p0,p.p1,p.p2,p.p3]:List Bool)[i]? = some (zz3 p i):=by
 match i,h with
 | 0,_=>rfl
 | 1,_=>rfl
 | 2,_=>rfl
 | 3,_=>rfl
theorem zz5(p:P4):zyL (zz3 p) 4=kl p:=by
 cases p with
 | mk a b c d=>cases a <;> cases b <;> cases c <;> cases d <;> rfl
theorem zz6{l:List (List Int)}{p:P4}{x:Nat}{a:List Int}(hx:l[x]? = some a)(ha:a.length<=100)(hl:l.length<=10000){acc:List (List Int)}(hacc:acc.length<=100000){K:List (List Int)->Int->Option (List (List Int))} :
  zsr l p (x:Int) K (Int.toNat 4+1) acc 0=K (acc++(kl p).map fun k=>a++[k]) ((x:Int)+1):=by
 have hxl:=(List.getElem?_eq_some_iff.1 hx).1
 refine zw4 (n:=4) (fun d (s:List (List Int)) y=>zsr l p (x:Int) K d s y) (fun k=>acc++(zyL (zz3 p) k).map fun k=>a++[k]) (fun d k hk=>?_) (fun d=>?_) (Int.toNat 4+1) 0 (by omega) (by show 4 - 0 < 4+1; omega) |> fun h=>(show zsr l p (x:Int) K (Int.toNat 4+1) acc 0=_ from by
  have e:acc++(zyL (zz3 p) 0).map (fun k=>a++[k])=acc:=List.append_nil _;have h:zsr l p (x:Int) K (Int.toNat 4+1) (acc++(zyL (zz3 p) 0).map fun k=>a++[k]) 0=K (acc++(kl p).map fun k=>a++[k]) ((x:Int)+1):=h
  rwa [e] at h)
 ·have hn:=zyO (zz3 p) k
  have hal:(acc++(zyL (zz3 p) k).map fun k=>a++[k]).length < 1048576:=by rw[List.length_append,List.length_map]; omega
  show zsr l p (x:Int) K (d+1) _ _=_
  rw[zsr,if_pos (by omega),zry (zz4 hk),obs,zyM]
  cases zz3 p k with
  | true=>
   rw[if_pos rfl,if_pos rfl,zry hx,obs,List.nil_append,zqs (by rw[List.length_nil]; omega),zqs (by omega),zqs hal,zqs (fI (by omega)),List.map_append,<- List.append_assoc]; rfl
  | false=>rw[if_neg (by decide),if_neg (by decide),zqs (fI (by omega)),List.append_nil]
 ·show zsr l p (x:Int) K (d+1) _ _=_
  rw[zsr,if_neg (by omega),zqs (fI (by omega)),zz5]
def zz7(p:P4)(l:List (List Int)):List (List Int):=l.flatMap fun a=>(kl p).map fun k=>a++[k]
theorem zz8(p:P4):∀l:List (List Int),(zz7 p l).length<=4 * l.length
 | []=>Nat.le_refl _
 | a::l=>by
  have:=zz8 p l;have:=zzs p
  unfold zz7 at *
  rw[List.flatMap_cons,List.length_append,List.length_map,List.length_cons]
  omega
theorem zz9{l:List (List Int)}{p:P4}{y:Int}(hy:0<=y/\y<=1000)(ha:∀a∈l,a.length<=100)(hl:l.length<=10000){K:List (List Int)->Int->Option (List (List Int))} :
  zss l y p K (l.length+1) [] 0=K (zz7 p l) (y+1):=by
 refine zw4 (n:=l.length) (fun d (s:List (List Int)) x=>zss l y p K d s x) (fun k=>zz7 p (l.take k)) (fun d k hk=>?_) (fun d=>?_) (l.length+1) 0 (by omega) (by omega)
 ·have hg:=List.getElem?_eq_getElem hk;have h4:=zz8 p (l.take k);rw[List.length_take] at h4
  show zss l y p K (d+1) _ _=_
  rw[zss,if_pos (by omega),zz6 hg (ha _ (List.getElem_mem hk)) hl (by omega),zyn hg]
  congr 1
  unfold zz7;rw[List.flatMap_append,List.flatMap_cons,List.flatMap_nil,List.append_nil]
 ·show zss l y p K (d+1) _ _=_
  rw[zss,if_neg (Int.lt_irrefl _),zqs (fI (by omega)),List.take_length]
theorem L46{l:List (List Int)}{p:P4}{x:Int}{K:List (List Int)->Int->Option (List (List Int))}:∀(d:Nat) (acc:List (List Int)) (k:Int),zsp l p x K d acc k=zsr l p x K d acc k
 | 0,_,_=>rfl
 | d+1,acc,k=>by rw[zsp,zsr]; simp only[L46]
theorem L35{l:List (List Int)}{p:P4}{y:Int}{K:List (List Int)->Int->Option (List (List Int))}:∀(d:Nat) (acc:List (List Int)) (x:Int),zsq l y p K d acc x=zss l y p K d acc x
 | 0,_,_=>rfl
 | d+1,acc,x=>by
  rw[zsq,zss,L46,show zsq l y p K d=zss l y p K d from funext fun a=>funext fun b=>L35 d a b]
theorem L26{l:List (List Int)}{x:Int}{K:List (List Int)->Int->Option (List (List Int))}:∀(d:Nat) (acc:List (List Int)) (k:Int),zsn l x K d acc k=zsr l zzv x K d acc k
 | 0,_,_=>rfl
 | d+1,acc,k=>by rw[zsn,zsr]; simp only[L26]; rfl
theorem L15{l:List (List Int)}{y:Int}{K:List (List Int)->Int->Option (List (List Int))}:∀(d:Nat) (acc:List (List Int)) (x:Int),zso l y K d acc x=zss l y zzv K d acc x
 | 0,_,_=>rfl
 | d+1,acc,x=>by
  rw[zso,zss,L26,show zso l y K d=zss l y zzv K d from funext fun a=>funext fun b=>L15 d a b]
theorem zAa{r:Rl}{y:Yr}(hy:zw5 y):kB r y 0 = !zxq r y:=by
 obtain⟨⟨h1,h2,h3,h4⟩,⟨h5,h6,h7,h8⟩,_⟩:=hy;rw[Bool.eq_iff_iff,zxD,Bool.not_eq_true']
 constructor
 ·rintro⟨l,p,_,_,h⟩; exact zxt.1 h
 ·intro h; exact⟨_,_,⟨Int.le_refl _,h2⟩,⟨Int.le_refl _,h6⟩,zxt.2 h⟩
theorem zAb:∀(n:Nat) (cs:List P4),cs.length=n->(zyk cs).length<=4 ^ n
 | 0,cs,h=>by rw[List.eq_nil_of_length_eq_zero h]; exact Nat.le_refl _
 | n+1,cs,h=>by
  have hg:=List.getElem?_eq_getElem (show n < cs.length by omega)
  have e:cs=cs.take n++[cs[n]]:=by rw[<- zyn hg,List.take_of_length_le (by omega)]
  have ih:=zAb n (cs.take n) (by rw[List.length_take]; omega);have h4:=zz8 cs[n] (zyk (cs.take n));rw[e,zyl,Nat.pow_succ]
  show(zz7 cs[n] (zyk (cs.take n))).length<=_
  omega
theorem zAc{n:Nat}(h:n<=6):4 ^ n<=4096:=Nat.pow_le_pow_right (by omega) h
theorem zAd{r:Rl}{z:Zn}(h:VZ r z){b:Nat}(hb:b < 65536):zsu r z (b:Int)=some (zyk (zzw r z fun i=>b.testBit i)):=by
 have h6:=h.y6;refine zw4 (n:=z.Years.length) (fun d (s:List (List Int)) x=>zst r z (b:Int) d s x) (fun k=>zyk ((zzw r z fun i=>b.testBit i).take k)) (fun d k hk=>?_) (fun d=>?_) 1000000 0 (by omega) (by omega)
 ·have hg:=List.getElem?_eq_getElem hk;have hy:=h.full.ys _ (List.getElem_mem hk);have hc:=zzx (r:=r) (S:=fun i=>b.testBit i) hg;have hle:b / 2 ^ k<=b:=Nat.div_le_self _ _;have hbit:b.testBit k=decide (b / 2 ^ k % 2=1):=Nat.testBit_eq_decide_div_mod_eq ..
  have hq:(b:Int) / 2 ^ ((k:Int)).toNat=((b / 2 ^ k:Nat):Int):=by rw[Int.toNat_natCast]; simp
  have htl:((zzw r z fun i=>b.testBit i).take k).length=k:=by rw[List.length_take,zzy]; omega
  have hlen:=zAb k _ htl;have hp4:=zAc (n:=k) (by omega)
  have hall:∀a∈zyk ((zzw r z fun i=>b.testBit i).take k),a.length<=100:=fun a ha=>by
   have:=((zyp _).1 ha).1
   omega
  have hadd:∀p,zz7 p (zyk ((zzw r z fun i=>b.testBit i).take k))=zyk ((zzw r z fun i=>b.testBit i).take k++[p]):=fun p=>(zyl _ _).symm
  show zst r z (b:Int) (d+1) _ _=_
  rw[zst,wu (show k<=64 by omega),if_pos (by omega),zry hg,obs,zxK h.full.rl hy,obs,hq];rw[zyn hc];generalize (zzw r z fun i=>b.testBit i).take k=cs at hlen hall hadd;generalize z.Years[k]=y at hg hy
  clear hq hc
  show _=zst r z (b:Int) d (zyk (cs++[if (b.testBit k && zxq r y)=true then zzv else mkP (kB r y)])) _
  rw[hbit];generalize b / 2 ^ k=q at hle;rw[zqs (by omega),zqs (by omega),zqs (by omega),zqs (fI (by omega)),zqs (by omega),zqs (by omega),zqs (fI (by omega))]
  by_cases h1:q % 2=1
  ·rw[if_pos (by omega),decide_eq_true h1,Bool.true_and,show idx ([(mkP (kB r y)).p0,(mkP (kB r y)).p1,(mkP (kB r y)).p2,(mkP (kB r y)).p3]:List Bool) 0=some (kB r y 0) from rfl,obs,zAa hy]
   cases hcn:zxq r y with
   | true=>rw[Bool.not_true,if_neg (by decide),if_pos rfl,L15,zz9 (by omega) hall (by omega),hadd]
   | false=>rw[Bool.not_false,if_pos rfl,if_neg (by decide),L35,zz9 (by omega) hall (by omega),hadd]
  ·rw[if_neg (by omega),decide_eq_false h1,Bool.false_and,if_neg (by decide),zz9 (by omega) hall (by omega),hadd]
 ·show zst r z (b:Int) (d+1) _ _=_
  rw[zst,if_neg (Int.lt_irrefl _),List.take_of_length_le (by rw[zzy]; exact Nat.le_refl _)]
theorem zAe{l:List Int}{cs:List P4}(h:Fit l cs)(m:Nat):Fit (l.take m) (cs.take m):=by
 refine⟨by rw[List.length_take,List.length_take,h.1],fun i k p hi hp=>?_⟩;rw[List.getElem?_take] at hi hp
 by_cases hm:i < m
 ·rw[if_pos hm] at hi hp; exact h.2 i k p hi hp
 ·rw[if_neg hm] at hi; cases hi
theorem zAf{cs:List P4}(hc:∀p∈cs,kl p ≠ []){m:Nat}:∀(n:Nat) {l:List Int},n+m=cs.length->Fit l (cs.take m)->∃l',Fit l' cs/\l'.take m=l
 | 0,l,hn,h=>⟨l,by rwa [List.take_of_length_le (by omega)] at h,by rw[List.take_of_length_le (by have:=h.1; rw[List.length_take] at this; omega)]⟩
 | n+1,l,hn,h=>by
  have hg:=List.getElem?_eq_getElem (show m < cs.length by omega);obtain⟨k,hk⟩:=List.exists_mem_of_ne_nil _ (hc _ (List.getElem_mem (show m < cs.length by omega)));obtain⟨l',h1,h2⟩:=zAf hc (m:=m+1) n (l:=l++[k]) (by omega) (by rw[zyn hg,zyo]; exact⟨l,k,h,hk,rfl⟩);refine⟨l',h1,?_⟩;have hl:=h.1;rw[List.length_take] at hl;have e:=congrArg (List.take m) h2;rw[List.take_take,Nat.min_eq_left (by omega),List.take_left' (by omega)] at e;exact e
theorem zAg{g:Nat->Bool}:zsv (g 0) (g 1) (g 2) (g 3) (g 4) (g 5) (Int.toNat 6+1) [] 0=some (zyL g 6):=by
 refine zw4 (n:=6) (fun d (s:List Int) x=>zsv (g 0) (g 1) (g 2) (g 3) (g 4) (g 5) d s x) (fun k=>zyL g k) (fun d k hk=>?_) (fun d=>?_) (Int.toNat 6+1) 0 (by omega) (by show 6 - 0 < 6+1; omega)
 ·show zsv _ _ _ _ _ _ (d+1) _ _=_
  have:=zyO g k;rw[zsv,if_pos (by omega),show idx ([g 0,g 1,g 2,g 3,g 4,g 5]:List Bool) (k:Int)=some (g k) from zry (zyH (f:=g) hk),obs,zyM]
  cases g k with
  | true=>rw[if_pos rfl,if_pos rfl,zqs (by omega),zqs (fI (by omega))]
  | false=>rw[if_neg (by decide),if_neg (by decide),zqs (fI (by omega)),List.append_nil]
 ·show zsv _ _ _ _ _ _ (d+1) _ _=_
  rw[zsv,if_neg (by omega)]
theorem zAh{r:Rl}{z:Zn}(h:VZ r z){all:List (List Int)}(hall:all.length<=10000)(hk:∀l∈all,zyb l/\l.length=z.Years.length){m:Nat}(hm:m<=z.Years.length):∀(n x d:Nat) (f:Nat->Bool),n+x=all.length->n < d ->
  ∃g:Nat->Bool,zsw r z ((m:Int) - 1) all d (f 0) (f 1) (f 2) (f 3) (f 4) (f 5) (x:Int)=some (zyL g 6)/\∀c,g c=true↔f c=true\/∃l∈all.drop x,(zxM r (st0 r z) (l.take m)).cls=(c:Int)
 | 0,x,0,f,_,hd=>by omega
 | 0,x,d+1,f,hx,_=>⟨f,by rw[zsw,if_neg (by omega),zAg],fun c=>⟨.inl,fun q=>q.elim id fun⟨l,hl,_⟩=>by rw[List.drop_eq_nil_of_le (by omega)] at hl; cases hl⟩⟩
 | n+1,x,0,f,_,hd=>by omega
 | n+1,x,d+1,f,hx,hd=>by
  have h6:=h.y6
  have hxl:x < all.length:=by omega
  have hg:=List.getElem?_eq_getElem hxl;obtain⟨hks,hll⟩:=hk _ (List.getElem_mem hxl);have hdr:=List.drop_eq_getElem_cons hxl;generalize all[x]=l at hg hks hll hdr;have hs:=zxO h.full.rl (l.take m) h.st0;have hb:=hs.1;have hc6:=h.c6;obtain⟨g,h1,h2⟩:=zAh h hall hk hm n (x+1) d (upF f (zxM r (st0 r z) (l.take m)).cls.toNat true) (by omega) (by omega);refine⟨g,?_,fun c=>(h2 c).trans ?_⟩
  ·rw[<- h1,zsw,if_pos (by omega)]
   have e:(x:Int)+1=((x+1:Nat):Int):=by omega
   by_cases hm0:m=0
   ·subst hm0;have hf:=h.full.first;have ef:(zxM r (st0 r z) (l.take 0)).cls=z.First:=rfl;rw[ef,if_neg (by omega),zqs ⟨hf.1,by omega⟩,zqs (fI (by omega)),zxx f hf.1,zxx f hf.1,zxx f hf.1,zxx f hf.1,zxx f hf.1,zxx f hf.1,e]
   ·have em:(m:Int) - 1=((m - 1:Nat):Int):=by omega
    have hcg:=zxT r l ⟨z.First,r.Rest⟩ (m - 1) (by omega);rw[show m - 1+1=m by omega] at hcg
    have hi:idx (zxN r ⟨z.First,r.Rest⟩ l) ((m:Int) - 1)=some (zxM r (st0 r z) (l.take m)).cls:=by rw[em]; exact zry hcg
    rw[if_pos (by omega),zry hg,obs,zyf h.full.rl h.c6 hks (by omega) h.full.first,obs,hi,obs];generalize (zxM r (st0 r z) (l.take m)).cls=c at hb;rw[zqs ⟨hb.1,by omega⟩,zqs (fI (by omega)),zxx f hb.1,zxx f hb.1,zxx f hb.1,zxx f hb.1,zxx f hb.1,zxx f hb.1,e]
  ·rw[zxy,hdr]
   constructor
   ·rintro ((h3 | h3) | ⟨l',h3,h4⟩)
    ·exact .inl h3
    ·exact .inr ⟨l,List.mem_cons_self ..,by omega⟩
    ·exact .inr ⟨l',List.mem_cons_of_mem _ h3,h4⟩
   ·rintro (h3 | ⟨l',h3,h4⟩)
    ·exact .inl (.inl h3)
    ·rcases List.mem_cons.1 h3 with rfl | h5
     ·exact .inl (.inr (by omega))
     ·exact .inr ⟨l',h5,h4⟩
theorem zAi{f g:Nat->Bool}{n:Nat}(h:∀k,k < n->(f k=true↔g k=true)):zyL f n=zyL g n:=by
 induction n with
 | zero=>rfl
 | succ n ih=>
  rw[zyM,zyM,ih fun k hk=>h k (by omega),show f n=g n from Bool.eq_iff_iff.2 (h n (by omega))]
theorem zAj{r:Rl}{z:Zn}(h:VZ r z)(S:Nat->Bool):(zyk (zzw r z S)).length<=10000/\∀l∈zyk (zzw r z S),zyb l/\l.length=z.Years.length:=by
 have h6:=h.y6;have h1:=zAb z.Years.length (zzw r z S) zzy;have h2:=zAc h6;refine⟨by omega,fun l hl=>?_⟩;have hf:=(zyp _).1 hl;exact⟨zyq hf,by rw[hf.1,zzy]⟩
theorem zAk{r:Rl}{z:Zn}(h:VZ r z){S:Nat->Bool}{m:Nat}(hm:m<=z.Years.length){c:Int}:(∃q∈zzI r z S m,q.cls=c)↔∃l∈zyk (zzw r z S),(zxM r (st0 r z) (l.take m)).cls=c:=by
 constructor
 ·rintro⟨q,hq,hc⟩
  obtain⟨ks,h1,rfl⟩:=zys.1 hq;obtain⟨l,h2,h3⟩:=zAf (zzC h) (z.Years.length - m) (by rw[zzy]; omega) h1;exact⟨l,(zyp _).2 h2,by rw[h3]; exact hc⟩
 ·rintro⟨l,hl,hc⟩
  exact⟨_,zys.2 ⟨l.take m,zAe ((zyp _).1 hl) m,rfl⟩,hc⟩
theorem zAl{r:Rl}{z:Zn}(h:VZ r z){b:Nat}(hb:b < 65536){m:Nat}(hm:m<=z.Years.length):zsx r z ((m:Int) - 1) (b:Int)=some (zyL (clB (zzI r z (fun i=>b.testBit i) m)) 6):=by
 obtain⟨f1,f2⟩:=zAj h fun i=>b.testBit i;unfold zsx;rw[zAd h hb,obs];obtain⟨g,h1,h2⟩:=zAh h f1 f2 hm (zyk (zzw r z fun i=>b.testBit i)).length 0 ((zyk (zzw r z fun i=>b.testBit i)).length+1) (fun _=>false) (by omega) (by omega);have h1:zsw r z ((m:Int) - 1) (zyk (zzw r z fun i=>b.testBit i)) ((zyk (zzw r z fun i=>b.testBit i)).length+1) false false false false false false 0=_:=h1;rw[h1]
 congr 1
 refine zAi fun c _=>(h2 c).trans ?_;rw[zyI,zAk h hm,List.drop_zero];exact⟨fun q=>q.elim (fun q=>by cases q) id,.inr⟩
theorem zAm:(fun i=>(0:Nat).testBit i)=fun _=>false:=funext fun i=>Nat.zero_testBit i
theorem zAn{r:Rl}{z:Zn}(h:VZ r z){m:Nat}(hm:m<=z.Years.length):zsx r z ((m:Int) - 1) 0=some (zzk r z m):=by
 have e:=zAl h (b:=0) (by omega) hm;rw[zAm,zzK] at e;exact e
def mvL(r:Rl)(z:Zn)(i:Nat)(l:List Int):Bool:=(zxM r (st0 r z) (l.take (i+1))).cls != (zxM r (st0 r z) (l.take i)).cls
theorem zAo{r:Rl}{z:Zn}(h:VZ r z){all:List (List Int)}(hall:all.length<=10000)(hk:∀l∈all,zyb l/\l.length=z.Years.length){i:Nat}(hi:i < z.Years.length) :
  zsy r z (i:Int) all (all.length+1) 0 0=some (if ((all.filter (mvL r z i)).length:Int)=(all.length:Int) then 1 else if ((all.filter (mvL r z i)).length:Int)=0 then 2 else 3):=by
 have h6:=h.y6;refine zw4 (n:=all.length) (fun d (s:Int) x=>zsy r z (i:Int) all d s x) (fun k=>(((all.take k).filter (mvL r z i)).length:Int)) (fun d k hkl=>?_) (fun d=>?_) (all.length+1) 0 (by omega) (by omega)
 ·have hg:=List.getElem?_eq_getElem hkl;obtain⟨hks,hll⟩:=hk _ (List.getElem_mem hkl);have hfl:((all.take k).filter (mvL r z i)).length<=k:=Nat.le_trans (List.length_filter_le _ _) (by rw[List.length_take]; omega);rw[zyn hg,List.filter_append,List.length_append];generalize all[k]=l at hg hks hll;have hc1:idx (zxN r ⟨z.First,r.Rest⟩ l) (i:Int)=some (zxM r (st0 r z) (l.take (i+1))).cls:=zry (zxT r l ⟨z.First,r.Rest⟩ i (by omega))
  show zsy r z (i:Int) all (d+1) _ _=_
  rw[zsy,if_pos (by omega),zry hg,obs,zyf h.full.rl h.c6 hks (by omega) h.full.first,obs]
  have hfin:∀c:Int,c=(zxM r (st0 r z) (l.take i)).cls->(if (zxM r (st0 r z) (l.take (i+1))).cls=c then gd (zl6 .i64 ((k:Int)+1)) (zsy r z (i:Int) all d (((all.take k).filter (mvL r z i)).length:Int) ((k:Int)+1)) else gd (zl6 .i64 ((((all.take k).filter (mvL r z i)).length:Int)+1)) (gd (zl6 .i64 ((k:Int)+1)) (zsy r z (i:Int) all d ((((all.take k).filter (mvL r z i)).length:Int)+1) ((k:Int)+1))))=zsy r z (i:Int) all d ((((all.take k).filter (mvL r z i)).length+([l].filter (mvL r z i)).length:Nat):Int) ((k:Int)+1):=by
   intro c hc;subst hc
   by_cases hm:(zxM r (st0 r z) (l.take (i+1))).cls=(zxM r (st0 r z) (l.take i)).cls
   ·rw[if_pos hm,zqs (fI (by omega)),List.filter_cons_of_neg (by unfold mvL; rw[hm]; simp)]; rfl
   ·rw[if_neg hm,zqs (fI (by omega)),zqs (fI (by omega)),List.filter_cons_of_pos (by unfold mvL; simpa using hm)]; rfl
  by_cases h0:0 < i
  ·have em:(i:Int) - 1=((i - 1:Nat):Int):=by omega
   have hcg:=zxT r l ⟨z.First,r.Rest⟩ (i - 1) (by omega);rw[show i - 1+1=i by omega] at hcg;rw[if_pos (by omega),zqs (fI (by omega)),em,zry hcg,obs,hc1,obs];exact hfin _ rfl
  ·have hi0:i=0:=by omega
   subst hi0;rw[if_neg (by omega),hc1,obs];exact hfin _ rfl
 ·show zsy r z (i:Int) all (d+1) _ _=_
  rw[zsy,if_neg (Int.lt_irrefl _),List.take_length]
  split
  ·rfl
  ·split <;> rfl
theorem zAp{r:Rl}{z:Zn}(h:VZ r z){i:Nat}{y:Yr}(hi:z.Years[i]? = some y):((zyQ r z i).any fun q=>mvB (nx r (mkP (kB r y)) q) q.cls)=true↔∃l∈zyk (zx1 r z).can,mvL r z i l=true:=by
 have hil:=(List.getElem?_eq_some_iff.1 hi).1;have hcan:=zy3 (r:=r) hi;rw[List.any_eq_true]
 constructor
 ·rintro⟨q,hq,h1⟩
  obtain⟨q',hq',h2⟩:=zyW.1 h1;obtain⟨ks,h3,rfl⟩:=zys.1 hq;obtain⟨k,h4,rfl⟩:=List.mem_map.1 hq';obtain⟨l,h5,h6⟩:=zAf (zzi h) (m:=i+1) (z.Years.length - (i+1)) (l:=ks++[k]) (by rw[zzn]; omega) (by rw[zyn hcan,zyo]; exact⟨ks,k,h3,h4,rfl⟩);refine⟨l,(zyp _).2 h5,?_⟩
  have hkl:ks.length=i:=by rw[h3.1,List.length_take,zzn]; omega
  have e:=congrArg (List.take i) h6;rw[List.take_take,Nat.min_eq_left (by omega),List.take_left' hkl] at e;unfold mvL;rw[h6,e,zxQ];exact bne_iff_ne.2 h2
 ·rintro⟨l,hl,h1⟩
  have hf:=(zyp _).1 hl
  have hll:l.length=z.Years.length:=by rw[hf.1,zzn]
  have hg:=List.getElem?_eq_getElem (show i < l.length by omega);refine⟨zxM r (st0 r z) (l.take i),zys.2 ⟨l.take i,zAe hf i,rfl⟩,zyW.2 ⟨_,List.mem_map.2 ⟨l[i],hf.2 i _ _ hg hcan,rfl⟩,?_⟩⟩;unfold mvL at h1;rw[zya hg] at h1;exact bne_iff_ne.1 h1
theorem zAq{r:Rl}{z:Zn}(h:VZ r z){i:Nat}{y:Yr}(hi:z.Years[i]? = some y):((zyQ r z i).any fun q=>syB (nx r (mkP (kB r y)) q) q.cls)=true↔∃l∈zyk (zx1 r z).can,mvL r z i l=false:=by
 have hil:=(List.getElem?_eq_some_iff.1 hi).1;have hcan:=zy3 (r:=r) hi;rw[List.any_eq_true]
 constructor
 ·rintro⟨q,hq,h1⟩
  obtain⟨q',hq',h2⟩:=zyX.1 h1;obtain⟨ks,h3,rfl⟩:=zys.1 hq;obtain⟨k,h4,rfl⟩:=List.mem_map.1 hq';obtain⟨l,h5,h6⟩:=zAf (zzi h) (m:=i+1) (z.Years.length - (i+1)) (l:=ks++[k]) (by rw[zzn]; omega) (by rw[zyn hcan,zyo]; exact⟨ks,k,h3,h4,rfl⟩);refine⟨l,(zyp _).2 h5,?_⟩
  have hkl:ks.length=i:=by rw[h3.1,List.length_take,zzn]; omega
  have e:=congrArg (List.take i) h6;rw[List.take_take,Nat.min_eq_left (by omega),List.take_left' hkl] at e;unfold mvL;rw[h6,e,zxQ];exact bne_eq_false_iff_eq.2 h2
 ·rintro⟨l,hl,h1⟩
  have hf:=(zyp _).1 hl
  have hll:l.length=z.Years.length:=by rw[hf.1,zzn]
  have hg:=List.getElem?_eq_getElem (show i < l.length by omega);refine⟨zxM r (st0 r z) (l.take i),zys.2 ⟨l.take i,zAe hf i,rfl⟩,zyX.2 ⟨_,List.mem_map.2 ⟨l[i],hf.2 i _ _ hg hcan,rfl⟩,?_⟩⟩;unfold mvL at h1;rw[zya hg] at h1;exact bne_eq_false_iff_eq.1 h1
theorem zAr{α:Type}{g:α->Bool}:∀{l:List α},(l.filter g).length=l.length↔∀a∈l,g a=true
 | []=>by simp
 | a::l=>by
  have ih:=zAr (g:=g) (l:=l);have hle:=List.length_filter_le g l
  cases hg:g a with
  | true=>
   rw[List.filter_cons_of_pos hg,List.length_cons,List.length_cons]
   constructor
   ·intro h b hb
    rcases List.mem_cons.1 hb with rfl | hb
    ·exact hg
    ·exact ih.1 (by omega) b hb
   ·intro h;have:=ih.2 fun b hb=>h b (List.mem_cons_of_mem _ hb)
    omega
  | false=>
   rw[List.filter_cons_of_neg (by rw[hg]; decide),List.length_cons];exact⟨fun h=>by omega,fun h=>by rw[h a (List.mem_cons_self ..)] at hg; cases hg⟩
theorem zAs{r:Rl}{z:Zn}(h:VZ r z){i:Nat}{y:Yr}(hi:z.Years[i]? = some y):zsz r z (i:Int)=some (zy2 r z i (mkP (kB r y))):=by
 have hil:=(List.getElem?_eq_some_iff.1 hi).1;have e:=zAd h (b:=0) (by omega);rw[zAm,<- zzA] at e;have e:zsu r z 0=some (zyk (zx1 r z).can):=e;have hf:=zAj h fun _=>false;rw[<- zzA] at hf;have hm:=zAp h hi;have hs:=zAq h hi;unfold zsz;rw[e,obs,zAo h hf.1 hf.2 hil];unfold zy2 zyZ
 congr 1
 have hne:zyk (zx1 r z).can ≠ []:=fun he=>by
  obtain⟨q,hq⟩:=zzj h z.Years.length;obtain⟨ks,h1,_⟩:=zys.1 hq;rw[List.take_of_length_le (by rw[zzn]; exact Nat.le_refl _)] at h1;have:=(zyp _).2 h1
  rw[he] at this; cases this
 generalize zyk (zx1 r z).can=all at hm hs hne;generalize ((zyQ r z i).any fun q=>mvB (nx r (mkP (kB r y)) q) q.cls)=bm at hm;generalize ((zyQ r z i).any fun q=>syB (nx r (mkP (kB r y)) q) q.cls)=bs at hs
 cases bs with
 | false=>
  rw[if_neg (show ¬ false=true by decide)];refine if_pos ?_;rw[zAr.2 fun a ha=>?_]
  cases hg:mvL r z i a with
  | true=>rfl
  | false=>exact absurd (hs.2 ⟨a,ha,hg⟩) (by decide)
 | true=>
  rw[if_pos rfl];obtain⟨l,hl,h1⟩:=hs.1 rfl
  have hn1:¬ ((all.filter (mvL r z i)).length:Int)=(all.length:Int):=fun he=>by
   have:=zAr.1 (show(all.filter (mvL r z i)).length=all.length by omega) l hl
   rw[h1] at this; cases this
  rw[if_neg hn1]
  cases bm with
  | true=>
   obtain⟨l',hl',h2⟩:=hm.1 rfl;have:l'∈all.filter (mvL r z i):=List.mem_filter.2 ⟨hl',h2⟩;have hp:0 < (all.filter (mvL r z i)).length:=List.length_pos_of_mem this;rw[if_neg (by omega),if_pos rfl]
  | false=>
   have:all.filter (mvL r z i)=[]:=List.filter_eq_nil_iff.2 fun a ha hg=>by
    have:=hm.2 ⟨a,ha,hg⟩; cases this
   rw[this]; rfl
theorem zAt{l:List Int}{n:Int}(hl:l.length<=1000):Ev (zsG l n) (n∈l):=by
 have key:=zrG (l:=l) (F:=fun d x=>zsF l n d x) (ok:=fun a=>¬ a=n) (bad:=some true) (fin:=some false) (fun d k a ha=>by
  have hk:=(List.getElem?_eq_some_iff.1 ha).1
  show(_->zsF l n (d+1) _=_)/\(_->zsF l n (d+1) _=_)
  rw[zsF,if_pos (by omega),zry ha,obs]
  refine⟨fun h=>by rw[if_neg h,zqs (fI (by omega))],fun h=>by rw[if_pos (Classical.not_not.1 h)]⟩) (fun d=>by show zsF l n (d+1) _=_; rw[zsF,if_neg (Int.lt_irrefl _)]) (d:=l.length+1) (by omega)
 unfold zsG
 by_cases h:n∈l
 ·rw[key.2 fun q=>q n h rfl]; exact Ev.tt h
 ·rw[key.1 fun a ha he=>h (he ▸ ha)]; exact Ev.ff h
theorem zAu{a b:List Int}(ha:a.length<=1000):Ev (zsJ a b) (a=b):=by
 unfold zsJ
 by_cases hl:a.length=b.length
 ·rw[if_pos (by omega),zzZ ha,obs]
  rcases zwN a b with h | h | h
  ·subst h;rw[zwL,if_neg (by decide),zzZ ha,zwL,obs]; exact Ev.tt rfl
  ·rw[h,if_pos rfl]
   exact Ev.ff fun he=>by subst he; rw[zwL] at h; cases h
  ·rw[zwM h,if_neg (by decide),zzZ (by omega),h,obs]
   exact Ev.ff fun he=>by subst he; rw[zwL] at h; cases h
 ·rw[if_neg (by omega)]; exact Ev.ff fun he=>hl (by rw[he])
theorem zAv{a:List Int}(ha:a.length<=1000):zsJ a a=some true:=(zAu ha).some_of rfl
theorem zAw{n:Nat}(h:n<=6):2 ^ n<=64:=Nat.pow_le_pow_right (by omega) h
theorem zAx{n:Nat}(h:n<=6):(1:Int) * 2 ^ (Int.toNat (zmb .u64 (n:Int)))=((2 ^ n:Nat):Int):=by rw[wu (by omega),Int.toNat_natCast,Int.one_mul,Int.natCast_pow]; rfl
theorem zAy{r:Rl}{z:Zn}(h:VZ r z){c b:Nat}:zzM r z c (inD (zwG b))=zzM r z c fun i=>b.testBit i:=zzN fun i hi=>zw2 (n:=z.Years.length) (by have:=h.y6; omega) hi
theorem zAz{r:Rl}{z:Zn}{S:Nat->Bool}{c:Nat}(hc:c < 6):Ev (zsG (zyL (clB (zzI r z S z.Years.length)) 6) (c:Int)) (zzM r z c S=true):=by
 have:=zyO (clB (zzI r z S z.Years.length)) 6;refine(zAt (by omega)).imp ?_;rw[zyN,Int.toNat_natCast];unfold zzM;exact⟨fun h=>h.2.2,fun h=>⟨by omega,by omega,h⟩⟩
theorem zAA{r:Rl}{z:Zn}(h:VZ r z){c:Nat}(hc:c < 6):∀(d x:Nat) (best:List Int) (found:Bool),x<=2 ^ z.Years.length->2 ^ z.Years.length - x < d ->
  (found=true->zz2 z.Years.length (fun S=>zzM r z c S=true) best\/True)->(found=true->Inc z.Years.length 0 best/\zzM r z c (inD best)=true)->(∀b,b < x->zzM r z c (fun i=>b.testBit i)=true->found=true/\(zwG b=best\/shB best (zwG b)=true)) ->
  ∃res,zsH r z (c:Int) d best found (x:Int)=some res/\((res.2=true/\zz2 z.Years.length (fun S=>zzM r z c S=true) res.1)\/(res.2=false/\∀D,Inc z.Years.length 0 D->zzM r z c (inD D)=false))
 | 0,x,best,found,_,hd,_,_,_=>by omega
 | d+1,x,best,found,hx,hd,_,h2,h3=>by
  have h6:=h.y6;have hp:=zAw (n:=z.Years.length) h6;have hp0:=Nat.two_pow_pos z.Years.length;rw[zsH,zAx h6,wu (by omega),zqs (by omega),zqs (by omega),zqs (by omega),zqs (fI (by omega))]
  by_cases hxe:x=2 ^ z.Years.length
  ·rw[if_neg (by omega)];refine⟨_,rfl,?_⟩
   cases found with
   | true=>
    refine .inl ⟨rfl,(h2 rfl).1,(h2 rfl).2,fun D hD hD2=>?_⟩;obtain⟨b,hb,rfl⟩:=zw3 (n:=z.Years.length) (by omega) hD;exact(h3 b (by omega) (by rw[<- zAy h]; exact hD2)).2
   | false=>
    refine .inr ⟨rfl,fun D hD=>?_⟩;obtain⟨b,hb,rfl⟩:=zw3 (n:=z.Years.length) (by omega) hD
    cases hq:zzM r z c (inD (zwG b)) with
    | false=>rfl
    | true=>exact absurd (h3 b (by omega) (by rw[<- zAy h]; exact hq)).1 (by decide)
  ·have hl:=zz1 (b:=x)
   have hxl:x < 2 ^ z.Years.length:=by omega
   have hi:Inc z.Years.length 0 (zwG x):=zw1 (by omega) hxl
   have hnext:(x:Int)+1=((x+1:Nat):Int):=by omega
   have hre:zsx r z ((z.Years.length:Int) - 1) (x:Int)=some (zyL (clB (zzI r z (fun i=>x.testBit i) z.Years.length)) 6):=zAl h (b:=x) (by omega) (Nat.le_refl _);have hhas:=zAz (r:=r) (z:=z) (S:=fun i=>x.testBit i) hc;have gx:zl6 .i64 ((x:Int)+1):=fI (by omega);rw[if_pos (by omega),zzX (by omega),obs];obtain⟨q,hq1,hq2⟩:=hhas
   have take:q=true->(found=true->shB (zwG x) best=true)->∃res,zsH r z (c:Int) d (zwG x) true ((x:Int)+1)=some res/\((res.2=true/\zz2 z.Years.length (fun S=>zzM r z c S=true) res.1)\/(res.2=false/\∀D,Inc z.Years.length 0 D->zzM r z c (inD D)=false)):=fun hqt hs=>by
    rw[hnext];refine zAA h hc d (x+1) (zwG x) true (by omega) (by omega) (fun _=>.inr trivial) (fun _=>⟨hi,by rw[zAy h]; exact hq2.1 hqt⟩) fun b hb hbr=>⟨rfl,?_⟩
    rcases Nat.lt_or_ge b x with h5 | h5
    ·obtain⟨hf,h6⟩:=h3 b h5 hbr
     rcases h6 with h6 | h6
     ·rw[h6]; exact .inr (hs hf)
     ·exact .inr (zwQ (hs hf) h6)
    ·rw[show b=x by omega]; exact .inl rfl
   have skip:(zzM r z c (fun i=>x.testBit i)=true->found=true/\(zwG x=best\/shB best (zwG x)=true))->∃res,zsH r z (c:Int) d best found ((x:Int)+1)=some res/\((res.2=true/\zz2 z.Years.length (fun S=>zzM r z c S=true) res.1)\/(res.2=false/\∀D,Inc z.Years.length 0 D->zzM r z c (inD D)=false)):=fun hs=>by
    rw[hnext];refine zAA h hc d (x+1) best found (by omega) (by omega) (fun _=>.inr trivial) h2 fun b hb hbr=>?_
    rcases Nat.lt_or_ge b x with h5 | h5
    ·exact h3 b h5 hbr
    ·rw[show b=x by omega] at hbr ⊢;exact hs hbr
   cases found with
   | true=>
    rw[if_pos rfl,zz0 (by omega),obs]
    cases hs:shB (zwG x) best with
    | true=>
     rw[if_pos rfl,zqs (fI (by omega)),hre,obs,hq1,obs]
     cases q with
     | true=>rw[if_pos rfl,zqs gx]; exact take rfl fun _=>hs
     | false=>rw[if_neg (by decide),zqs gx]; exact skip fun hc'=>absurd (hq2.2 hc') (by decide)
    | false=>
     rw[if_neg (by decide),zqs gx];refine skip fun _=>⟨rfl,?_⟩
     rcases zwR (zwG x) best with h6 | h6 | h6
     ·exact .inl h6
     ·rw[hs] at h6; cases h6
     ·exact .inr h6
   | false=>
    rw[if_neg (by decide),zqs (fI (by omega)),hre,obs,hq1,obs]
    cases q with
    | true=>rw[if_pos rfl,zqs gx]; exact take rfl fun hf=>by cases hf
    | false=>rw[if_neg (by decide),zqs gx]; exact skip fun hc'=>absurd (hq2.2 hc') (by decide)
theorem zAB{r:Rl}{z:Zn}(h:VZ r z){c:Nat}(hc:c < 6):∃res,zsI r z (c:Int)=some res/\((res.2=true/\zz2 z.Years.length (fun S=>zzM r z c S=true) res.1)\/(res.2=false/\∀D,Inc z.Years.length 0 D->zzM r z c (inD D)=false)):=by
 have hp:=zAw (n:=z.Years.length) h.y6
 exact zAA h hc 1000000 0 [] false (Nat.zero_le _) (by omega) (fun h=>by cases h) (fun h=>by cases h) fun b hb=>by omega
theorem zAC{r:Rl}{z:Zn}{c:Nat}(hn:∃L,Inc z.Years.length 0 L/\zzP r z c L=true):zz2 z.Years.length (fun S=>zzM r z c S=true) (zrp z.Years.length (zzP r z c)):=by
 obtain⟨h1,h2,h3⟩:=zwY hn;exact⟨h1,h2,h3⟩
theorem zAD{r:Rl}{z:Zn}(h:VZ r z){c:Nat}(hc:(c:Int)<=r.Classes - 1):(∃M,ztY r z (c:Int)=some (M,0)/\zz2 z.Years.length (fun S=>zzM r z c S=true) M)\/(ztY r z (c:Int)=some ([],7)/\∀D,Inc z.Years.length 0 D->zzM r z c (inD D)=false):=by
 by_cases hn:∃L,Inc z.Years.length 0 L/\zzP r z c L=true
 ·exact .inl ⟨_,zzT h hc hn,zAC hn⟩
 ·have hf:∀D,Inc z.Years.length 0 D->zzP r z c D=false:=fun D hD=>by
   cases hq:zzP r z c D with
   | false=>rfl
   | true=>exact absurd ⟨D,hD,hq⟩ hn
  exact .inr ⟨zzS h hc hf,hf⟩
theorem zAE{l:List Int}(hl:l.length<=1000):ztZ l=some l:=by
 unfold ztZ;rw[zqs (by rw[List.length_nil]; omega)]; rfl
theorem zAF{r:Rl}(h:r.Price.length<=1000):zt1 r=some r:=by
 unfold zt1;rw[zAE h,obs]
theorem zAG{z:Zn}(h:z.Years.length<=1000):zt3 z=some z:=by
 unfold zt3
 exact(zrD (l:=z.Years) id (F:=fun d acc x=>zt2 z d z.First acc x) (fun acc=>some ({ First:=z.First,Years:=acc }:Zn)) (fun d k acc a hk ha=>by
  have hkl:=(List.getElem?_eq_some_iff.1 hk).1
  show zt2 z (d+1) _ _ _=_
  rw[zt2,if_pos (by omega),zry hk,obs]
  show gd _ _=_
  rw[zqs (by omega),zqs (fI (by omega))]; rfl) (fun d acc=>by
  show zt2 z (d+1) _ _ _=_
  rw[zt2,if_neg (Int.lt_irrefl _)]) (d:=1000000) (by omega)).trans (by rw[List.map_id])
theorem zAH{r:Rl}{z:Zn}:Ev (zt4 r z) (r.Price.length<=9/\z.Years.length<=9):=by
 unfold zt4;exact(Ev.ite fun _=>Ev.dec Iff.rfl).imp (by omega)
theorem zAI{r:Rl}{z:Zn}(h1:r.Price.length<=1000)(h2:z.Years.length<=1000):zt5 r z=some (zxa r z):=by
 unfold zt5;rw[zxp h1 h2,obs]
theorem VZ.pl{r:Rl}{z:Zn}(h:VZ r z):r.Price.length<=6:=by
 have h1:=h.full.rl.pl;have h2:=h.c6
 omega
theorem zAJ{r:Rl}{z:Zn}(h1:r.Price.length<=1000)(h2:z.Years.length<=1000)(h:zxa r z ≠ 0){n:Int}:zt6 r z n=some (zxa r z):=by
 unfold zt6;rw[zAI h1 h2,obs,if_neg h]
theorem zAK{r:Rl}{z:Zn}(h:VZ r z){n:Int}(hn:0<=n/\n<=(z.Years.length:Int) - 1):zt6 r z n=some 0:=by
 have h6:=h.y6;have:=h.pl;unfold zt6;rw[zAI (by omega) (by omega),obs,zxb.2 h,if_pos rfl,zqs (fI (by omega)),zxn.some_of hn,obs,if_pos rfl]
theorem zAL{r:Rl}{z:Zn}(h:VZ r z){n:Int}(hn:¬ (0<=n/\n<=(z.Years.length:Int) - 1)):zt6 r z n=some 2:=by
 have h6:=h.y6;have:=h.pl;unfold zt6;rw[zAI (by omega) (by omega),obs,zxb.2 h,if_pos rfl,zqs (fI (by omega)),zxn.some_not hn,obs,if_neg (by decide)]
def zAM:Rl:={ Classes:=4,Good:=40,Bad:=120,Rest:=1,Fewest:=5,Price:=[10,20,40,80] }
def yrN(a b c d p:Int):Yr:={ Losses:=⟨a,b⟩,Premiums:=⟨c,d⟩,Parcels:=p,Exempt:=false }
def zAN:Zn:={ First:=1,Years:=[yrN 50 50 100 102 9,yrN 130 131 108 109 9,yrN 10 10 100 100 3,yrN 30 30 100 100 9,yrN 39 41 100 100 9] }
theorem zAO:zt8=some zAM:=rfl
theorem zAP:zt9=some zAN:=rfl
theorem zAQ{r:Rl}{z:Zn}(h1:1<=r.Classes/\r.Classes<=6)(h2:(r.Price.length:Int)=r.Classes)(h3:0<=r.Good/\r.Good<=r.Bad/\r.Bad<=300)(h4:0<=r.Rest/\r.Rest<=4)(h5:0<=r.Fewest/\r.Fewest<=100)(h6:∀x∈r.Price,1<=x/\x<=10000)(h7:r.Price.Pairwise (·<=·))(h8:0<=z.First/\z.First<=r.Classes - 1)(h9:∀y∈z.Years,zw5 y)(h10:z.Years.length<=6):VZ r z:=
 ⟨⟨⟨h1.1,h2,h3,h4,h5,h6,fun j hj h0 x y hx hy=>by
  obtain⟨q1,rfl⟩:=List.getElem?_eq_some_iff.1 hx;obtain⟨q2,rfl⟩:=List.getElem?_eq_some_iff.1 hy;have:=List.pairwise_iff_getElem.1 h7 (j - 1) j q2 q1 (by omega)
  omega⟩,h8,h9⟩,h1.2,h10⟩
instance (r:Rg):Decidable (RgP r):=by unfold RgP; infer_instance
instance (y:Yr):Decidable (zw5 y):=by unfold zw5; infer_instance
theorem vEx:VZ zAM zAN:=zAQ (by decide) (by decide) (by decide) (by decide) (by decide) (by decide) (by decide) (by decide) (by decide) (by decide)
theorem zAR:zyL (clB (zyQ zAM zAN 4)) 6=[0,2]:=by decide +kernel
theorem zAS:zzk zAM zAN 5=[0,1,2]:=by decide +kernel
theorem zAT:zy2 zAM zAN 0 (mkP (kB zAM (yrN 50 50 100 102 9)))=2:=by decide +kernel
theorem zAU:zy2 zAM zAN 3 (mkP (kB zAM (yrN 30 30 100 100 9)))=3:=by decide +kernel
theorem zAV:zyL (zzq zAM zAN) 5=[1,4]:=by decide +kernel
theorem zAW:zzP zAM zAN 3 [0]=true:=by decide +kernel
theorem zAX:zrp 5 (zzP zAM zAN 3)=[0]:=by decide +kernel
theorem zAY:zua=some true:=by
 have e1:ztU zAM zAN 3=some ([0,2],0):=(zyS vEx (i:=3) (by decide)).trans (by rw[zAR]);have e2:ztU zAM zAN 4=some ([0,1,2],0):=(zyS vEx (i:=4) (by decide)).trans (by rw[show zyL (clB (zyQ zAM zAN (4+1))) 6=[0,1,2] from zAS]);have e3:ztV zAM zAN 0=some (2,0):=(zy5 vEx (i:=0) (y:=yrN 50 50 100 102 9) rfl).trans (by rw[zAT]);have e4:ztV zAM zAN 3=some (3,0):=(zy5 vEx (i:=3) (y:=yrN 30 30 100 100 9) rfl).trans (by rw[zAU]);have e5:ztW zAM zAN=some (⟨10,40⟩,0):=(zzp vEx (a:=0) (b:=2) (by rw[show zzk zAM zAN zAN.Years.length=[0,1,2] from zAS]; rfl) (by rw[show zzk zAM zAN zAN.Years.length=[0,1,2] from zAS]; rfl)).trans rfl;have e6:ztX zAM zAN=some ([1,4],0):=(zzu vEx).trans (by rw[show zyL (zzq zAM zAN) zAN.Years.length=[1,4] from zAV]);have e7:ztY zAM zAN 3=some ([0],0):=(zzT vEx (c:=3) (by decide) ⟨[0],⟨by decide,fun v hv=>by rw[List.mem_singleton.1 hv]; decide⟩,zAW⟩).trans (by rw[show zrp zAN.Years.length (zzP zAM zAN 3)=[0] from zAX]);have s1:zsJ [0,2] [0,2]=some true:=zAv (by decide);have s2:zsJ [0,1,2] [0,1,2]=some true:=zAv (by decide);have s3:zsJ [1,4] [1,4]=some true:=zAv (by decide);have s4:zsJ [0] [0]=some true:=zAv (by decide);have b1:zt7 10 40=some ⟨10,40⟩:=rfl;unfold zua
 simp only[zAO,zAP,obs,e1,e2,e3,e4,e5,e6,e7,s1,s2,s3,s4,b1,if_true]
 rw[zqs (fI (by decide)),zqs (fI (by decide)),zqs (fI (by decide)),zqs (fI (by decide))]
 simp
theorem aw:(zua.bind fun r=>some r)=some true:=by rw[zAY]; rfl
theorem nl(x:Int):((([]:List Int),x).1.length:Int)=0:=rfl
theorem zAZ{r:Rl}{z:Zn}{n:Int}(_:zr4 r)(_:zr7 z)(_:zl6 .i64 n):zub r z n=some true:=by
 unfold zub
 refine zAH.pick (fun ht=>?_) fun _=>by rw[if_neg (by decide)]; exact aw
 have h1:r.Price.length<=1000:=by omega
 have h2:z.Years.length<=1000:=by omega
 rw[if_pos rfl,zAF h1,obs,zAG h2,obs]
 by_cases hf:zxa r z=0
 ·have hv:=zxb.1 hf
  by_cases hn:0<=n/\n<=(z.Years.length:Int) - 1
  ·obtain⟨i,rfl⟩:∃i:Nat,n=(i:Int):=⟨n.toNat,by omega⟩
   have hil:i < z.Years.length:=by omega
   have hg:=List.getElem?_eq_getElem hil;have hr:=zAn hv (m:=i+1) (by omega);rw[show((i+1:Nat):Int) - 1=(i:Int) by omega] at hr;rw[zyS hv hil,obs,obs,obs,zy5 hv hg,obs,zAK hv hn,obs,if_pos rfl,if_pos rfl,if_pos rfl,hr,obs,show zsJ (zyL (clB (zyQ r z (i+1))) 6) (zzk r z (i+1))=some true from zAv (by have:=zyO (clB (zyQ r z (i+1))) 6; omega),obs,if_pos rfl,zAs hv hg,obs,if_pos rfl]; exact aw
  ·rw[zyT hv hn,obs,obs,obs,zy6 hv hn,obs,zAL hv hn,obs,if_neg (by decide),if_pos rfl,if_pos rfl,if_pos (nl _),if_pos rfl]; exact aw
 ·rw[zyU h1 h2 hf,obs,obs,obs,zy7 h1 h2 hf,obs,zAJ h1 h2 hf,obs,if_neg hf,if_pos rfl,if_pos rfl,if_pos (nl _),if_pos rfl]; exact aw
theorem zA0{r:Rl}{z:Zn}{c:Int}(_:zr4 r)(_:zr7 z)(_:zl6 .i64 c):zuc r z c=some true:=by
 unfold zuc
 refine zAH.pick (fun ht=>?_) fun _=>by rw[if_neg (by decide)]; exact aw
 have h1:r.Price.length<=1000:=by omega
 have h2:z.Years.length<=1000:=by omega
 rw[if_pos rfl]
 by_cases c6:z.Years.length=6
 ·rw[if_pos (by omega)]; exact aw
 rw[if_neg (by omega),zAF h1,obs,zAG h2,obs]
 by_cases hf:zxa r z=0
 ·have hv:=zxb.1 hf;have hc0:=hv.full.rl.c0;have hc6:=hv.c6
  by_cases hc:0<=c/\c<=r.Classes - 1
  ·obtain⟨k,rfl⟩:∃k:Nat,c=(k:Int):=⟨c.toNat,by omega⟩;obtain⟨⟨M',b⟩,e1,e2⟩:=zAB hv (c:=k) (by omega)
   rcases zAD hv hc.2 with ⟨M,q1,q2⟩ | ⟨q1,q2⟩
   ·rw[q1,obs,zAI h1 h2,obs,if_pos hf,zqs (fI (by omega)),zxn.some_of hc,obs,if_pos rfl,e1,obs]
    rcases e2 with ⟨e2,e3⟩ | ⟨_,e3⟩
    ·have e:=q2.uniq e3;have hl:=zwD q2.inc;have e2:b=true:=e2;have e:M=M':=e;subst e2 e;rw[if_pos rfl,if_pos rfl,zAv (show M.length<=1000 by omega),obs,if_pos rfl]; exact aw
    ·have:=e3 M q2.inc;have h9:zzM r z k (inD M)=true:=q2.ok
     rw[this] at h9; cases h9
   ·rw[q1,obs,zAI h1 h2,obs,if_pos hf,zqs (fI (by omega)),zxn.some_of hc,obs,if_pos rfl,e1,obs]
    rcases e2 with ⟨_,e3⟩ | ⟨e2,_⟩
    ·have:=q2 _ e3.inc;have h9:zzM r z k (inD M')=true:=e3.ok
     rw[show zzM r z k (inD M')=false from this] at h9; cases h9
    ·have e2:b=false:=e2;subst e2;rw[if_neg (show ¬ false=true by decide),if_pos rfl,if_pos (nl _)]; exact aw
  ·rw[zzU hv hc,obs,zAI h1 h2,obs,if_pos hf,zqs (fI (by omega)),zxn.some_not hc,obs,if_neg (by decide),if_pos rfl,if_pos (nl _)]; exact aw
 ·rw[zzV h1 h2 hf,obs,zAI h1 h2,obs,if_neg hf,if_pos rfl,if_pos (nl _)]; exact aw
end
end Go.Proofs.Ytlpjlgmoaipoiaa

namespace Go.Proofs.Ytlpjlgmoaipoiaa
open _root_.Go.Proofs.Try
open Go.ChangeShapes Go.WideShapes Go.ChangeAt Go.RowKit Go.Abs
set_option maxRecDepth 100000
theorem op3:zrR prog 3 Int (zl6 .i64):=zrS (by kernel_rfl)
theorem zA1:zrR prog 22 (List Int) (fun l=>l.length<=maxLen/\∀a0∈l,zl6 .i64 a0):=zrV (by kernel_rfl) (by kernel_rfl) op3
theorem zA2:zrR prog 24 Rl zr4:=zr0 (fs:=[(3,0),(3,1),(3,2),(3,3),(3,4),(22,5)]) (by kernel_rfl) (by kernel_rfl) (zrZ (α:=Int) (ok:=zl6 .i64) (k:=1) op3 (by kernel_rfl) rfl (zrZ (α:=Int) (ok:=zl6 .i64) (k:=1) op3 (by kernel_rfl) rfl (zrZ (α:=Int) (ok:=zl6 .i64) (k:=1) op3 (by kernel_rfl) rfl (zrZ (α:=Int) (ok:=zl6 .i64) (k:=1) op3 (by kernel_rfl) rfl (zrZ (α:=Int) (ok:=zl6 .i64) (k:=1) op3 (by kernel_rfl) rfl (zrZ (α:=List Int) (ok:=(fun l=>l.length<=maxLen/\∀a0∈l,zl6 .i64 a0)) (k:=1) zA1 (by kernel_rfl) rfl zrY)))))) (by kernel_rfl) fun m vs h=>by
 obtain⟨a0,c0,r0,m0,h0,p0,k0,s0,⟨a1,c1,r1,m1,h1,p1,k1,s1,⟨a2,c2,r2,m2,h2,p2,k2,s2,⟨a3,c3,r3,m3,h3,p3,k3,s3,⟨a4,c4,r4,m4,h4,p4,k4,s4,⟨a5,c5,r5,m5,h5,p5,k5,s5,rfl⟩⟩⟩⟩⟩⟩:=h;have p0:c0=[.int .i64 a0]:=p0; subst p0;have p1:c1=[.int .i64 a1]:=p1; subst p1;have p2:c2=[.int .i64 a2]:=p2; subst p2;have p3:c3=[.int .i64 a3]:=p3; subst p3;have p4:c4=[.int .i64 a4]:=p4; subst p4;obtain⟨d5,rfl,p5⟩:=p5;subst h5 h4 h3 h2 h1 h0;exact⟨⟨a0,a1,a2,a3,a4,a5⟩,⟨_,rfl,p5⟩,⟨k0,k1,k2,k3,k4,k5⟩⟩
theorem zA3:zrR prog 63 Rg zr2:=zr0 (fs:=[(3,0),(3,1)]) (by kernel_rfl) (by kernel_rfl) (zrZ (α:=Int) (ok:=zl6 .i64) (k:=1) op3 (by kernel_rfl) rfl (zrZ (α:=Int) (ok:=zl6 .i64) (k:=1) op3 (by kernel_rfl) rfl zrY)) (by kernel_rfl) fun m vs h=>by
 obtain⟨a0,c0,r0,m0,h0,p0,k0,s0,⟨a1,c1,r1,m1,h1,p1,k1,s1,rfl⟩⟩:=h;have p0:c0=[.int .i64 a0]:=p0; subst p0;have p1:c1=[.int .i64 a1]:=p1; subst p1;subst h1 h0;exact⟨⟨a0,a1⟩,rfl,⟨k0,k1⟩⟩
theorem op4:zrR prog 4 Bool (fun _=>True):=zrT (by kernel_rfl)
theorem zA4:zrR prog 75 Yr zr5:=zr0 (fs:=[(63,0),(63,2),(3,4),(4,5)]) (by kernel_rfl) (by kernel_rfl) (zrZ (α:=Rg) (ok:=zr2) (k:=2) zA3 (by kernel_rfl) rfl (zrZ (α:=Rg) (ok:=zr2) (k:=2) zA3 (by kernel_rfl) rfl (zrZ (α:=Int) (ok:=zl6 .i64) (k:=1) op3 (by kernel_rfl) rfl (zrZ (α:=Bool) (ok:=(fun _=>True)) (k:=1) op4 (by kernel_rfl) rfl zrY)))) (by kernel_rfl) fun m vs h=>by
 obtain⟨a0,c0,r0,m0,h0,p0,k0,s0,⟨a1,c1,r1,m1,h1,p1,k1,s1,⟨a2,c2,r2,m2,h2,p2,k2,s2,⟨a3,c3,r3,m3,h3,p3,k3,s3,rfl⟩⟩⟩⟩:=h;have p0:c0=[.int .i64 a0.Lo,.int .i64 a0.Hi]:=p0; subst p0;have p1:c1=[.int .i64 a1.Lo,.int .i64 a1.Hi]:=p1; subst p1;have p2:c2=[.int .i64 a2]:=p2; subst p2;have p3:c3=[.bool a3]:=p3; subst p3;subst h3 h2 h1 h0;exact⟨⟨a0,a1,a2,a3⟩,rfl,⟨k0,k1,k2,k3⟩⟩
theorem zA5:zrR prog 25 (List Yr) (fun l=>l.length<=maxLen/\∀a0∈l,zr5 a0):=zrV (by kernel_rfl) (by kernel_rfl) zA4
theorem zA6:zrR prog 27 Zn zr7:=zr0 (fs:=[(3,0),(25,1)]) (by kernel_rfl) (by kernel_rfl) (zrZ (α:=Int) (ok:=zl6 .i64) (k:=1) op3 (by kernel_rfl) rfl (zrZ (α:=List Yr) (ok:=(fun l=>l.length<=maxLen/\∀a0∈l,zr5 a0)) (k:=1) zA5 (by kernel_rfl) rfl zrY)) (by kernel_rfl) fun m vs h=>by
 obtain⟨a0,c0,r0,m0,h0,p0,k0,s0,⟨a1,c1,r1,m1,h1,p1,k1,s1,rfl⟩⟩:=h;have p0:c0=[.int .i64 a0]:=p0; subst p0;obtain⟨d1,rfl,p1⟩:=p1;subst h1 h0;exact⟨⟨a0,a1⟩,⟨_,rfl,p1⟩,⟨k0,k1⟩⟩
theorem zA7:laidOutB prog=true:=by kernel_rfl
theorem zA8:ownKnob prog.godebug=none:=by kernel_rfl
theorem zA9(os:Os)(started:os.Started)(H:Type)(enc:TypeId × Value->H) :
    ReturnsInHanded {} Try.checked os 6 .any (Rows.zoneFalseSpec.pre6 enc Try.prog Try.f6 Rows.zoneFalseRow.domain false) (Rows.zoneFalseSpec.post enc Try.prog Try.f6 false true false false):=by
  refine returnsInHanded_of_change (C:=Try.checked) zA8 started (by kernel_rfl) Try.func6
    (ChangeSpec.witness6 (enc:=enc) (C:=Try.checked) false ⟨#[],#[.agg #[.int .i64 0,.int .i64 0,.int .i64 0,.int .i64 0,.int .i64 0,.slice none 0 0],.agg #[.int .i64 0,.slice none 0 0],.int .i64 0],[]⟩ 8 (by kernel_rfl) (by kernel_rfl) (by kernel_rfl) (by kernel_rfl)) ?_
  intro W base args ds gs before hval0 hW hcnd _;have hval:∀(j:Nat) t v,Try.f6.params[j]? = some t->args[j]? = some v->Value.okWide Try.prog W .any base t v:=hval0;have hW':=hW;obtain⟨p,q,hA0,hV,rfl,hfz,hnd⟩:=hW;have hA:DataW.TrodAll enc Try.prog W 0 (fun _=>true) true Try.f6.params.toList args.toList ds p:=hA0;rw[Try.params6] at hA hval;obtain⟨v0,v1,v2,d0,d1,d2,p0,p1,p2,rfl,rfl,rfl,h0,h1,h2⟩:=trodAll_three hA;obtain⟨rfl,rfl⟩:=trodVars_none hV;obtain⟨n2,hv2⟩:=okWide_int Try.underlying3 (hval 2 3 v2 rfl rfl)
  have hlt:∀x∈p0++p1++p2,x.block < W.heap.size:=fun x hx=>by simpa using hW'.lt x (by simpa using hx)
  obtain⟨fu0,hf0⟩:=id h0;obtain⟨fu1,hf1⟩:=id h1;obtain⟨fu2,hf2⟩:=id h2
  clear hA0 hval0
  obtain⟨e0,m0,w0,a_0,le0,sv0,lay0,cr0,zvP,ok0⟩:=zA2 H enc W true _ _ _ hf0 _ _ (Lay.nil W);obtain⟨e1,m1,w1,a_1,le1,sv1,lay1,cr1,rep1,ok1⟩:=zA6 H enc W true _ _ _ hf1 e0 m0 lay0;obtain⟨e2,m2,w2,a_2,le2,sv2,lay2,cr2,rep2,ok2⟩:=op3 H enc W true _ _ _ hf2 e1 m1 lay1;obtain⟨c0_5,rfl,g0_5⟩:=zvP
  obtain⟨cs0,hv0,cl0⟩:∃cs,v0=.agg cs/\v0.cells.toList=cs.toList:=by
    have hl:=cr0.length
    cases v0 with
    | agg cs=>exact⟨cs,rfl,rfl⟩
    | _=>exact absurd hl (by simp[Value.cells])
  subst hv0;obtain⟨c1_1,rfl,g1_1⟩:=rep1
  obtain⟨cs1,hv1,cl1⟩:∃cs,v1=.agg cs/\v1.cells.toList=cs.toList:=by
    have hl:=cr1.length
    cases v1 with
    | agg cs=>exact⟨cs,rfl,rfl⟩
    | _=>exact absurd hl (by simp[Value.cells])
  subst hv1;have rep2:w2=[.int .i64 a_2]:=rep2;subst rep2 hv2
  have ha2:n2=a_2:=by
    cases cr2 with
    | cons h _=>have h:Value.int .i64 n2=.int .i64 a_2:=h; cases h; rfl
  subst ha2;have hargs:zeq (VR e2) [.agg 6 [.int .i64 a_0.Classes,.int .i64 a_0.Good,.int .i64 a_0.Bad,.int .i64 a_0.Rest,.int .i64 a_0.Fewest,c0_5],.agg 2 [.int .i64 a_1.First,c1_1],.c (.int .i64 n2)] [.agg cs0,.agg cs1,.int .i64 n2]:=.cons ⟨cs0,rfl,(cr0.mono fun _ _=>CR.mono (le1.trans le2)),rfl⟩ (.cons ⟨cs1,rfl,(cr1.mono fun _ _=>CR.mono le2),rfl⟩ (.cons rfl .nil));refine(callsIn_wide.1 (zqy fits htab (zwB (r:=a_0) (z:=a_1) (class_:=n2) lay2.pre ((g0_5.subv sv1).subv sv2) (g1_1.subv sv2) (zA0 ok0 ok1 ok2) (Q:=fun v _=>v=.c (.bool true)) fun _ _=>rfl) lay2.hr (args':=#[.agg cs0,.agg cs1,.int .i64 n2]) hargs 0)).mono fun en W' hp=>?_;obtain⟨v,v',e',m',rfl,hst,hvr,rfl⟩:=hp;have hv':v'=.bool true:=hvr;subst hv';have hbelow:=lay2.below hst
  refine⟨_,rfl,[d0,d1,d2],[],p0++p1++p2,[],p0++(p1++p2),[],by simpa using hW',trodAll_mk1 (shut_bool Try.underlying4 _),
    trodAll_mk3 (Below.trod zA7 (by kernel_rfl) (of_decide_eq_true (by kernel_rfl)) h0 hbelow fun x hx=>hlt x (by simp[hx])) (Below.trod zA7 (by kernel_rfl) (of_decide_eq_true (by kernel_rfl)) h1 hbelow fun x hx=>hlt x (by simp[hx])) (Below.trod zA7 (by kernel_rfl) (of_decide_eq_true (by kernel_rfl)) h2 hbelow fun x hx=>hlt x (by simp[hx])),rfl,lay2.kept hst _,fun hc=>by cases hc⟩
theorem ZoneFalse_holds:Rows.ZoneFalseSaid:=
 OpenClaim.holds_of_wide 6 Try.f6 rfl rfl rfl rfl rfl rfl rfl ⟨rfl,rfl,rfl,rfl,rfl⟩ rfl rfl rfl rfl rfl (by kernel_rfl) Try.func6 (by kernel_rfl)
  (of_decide_eq_true (by kernel_rfl)) (by unfold Func.isWrapper; first | (rw[if_pos (by decide +kernel)]; kernel_rfl) | (rw[if_neg (by decide +kernel)]; exact⟨rfl,rfl⟩))
  (fun os started H enc _=>zA9 os started H enc)
end Go.Proofs.Ytlpjlgmoaipoiaa

