/- An evaluator of code, its soundness, and what functions of the program do. Condition: none; a lemma text. -/
import Derived.Test.YtkcmdghjgoaggaaTdH

namespace Go.Proofs.Ytkcmdghjgoaggaa
open _root_.Go.Proofs.Try
open Go.Abs
set_option maxRecDepth 100000
noncomputable section
def zvL(f:M)(x:C)(g:Oc->Option (Int)):Prop:=∀(f' m:M) (a0:Oc) (r:Int) (Q:V->M->Prop),Sub f f'->Pre f' m->g a0=some r->(∀m',Ext m m'->Q (.c (.int .i64 r)) m')->zmx prog tbl [.agg 11 [(.int .i64 a0.pays.p0),(.int .i64 a0.pays.p1),(.int .i64 a0.pays.p2),(.int .i64 a0.pays.p3),(.int .i64 a0.pays.p4),(.int .i64 a0.keeps.p0),(.int .i64 a0.keeps.p1),(.int .i64 a0.keeps.p2),(.int .i64 a0.keeps.p3),(.int .i64 a0.keeps.p4),(.int .i64 a0.society)]] x m Q
theorem zvL.sub{f m:M}{x:C}{g:Oc->Option (Int)}(h:zvL f x g)(s:Sub f m):zvL m x g:=fun f' m' a0 r Q hs=>h f' m' a0 r Q (s.trans hs)
theorem zvM:KL prog 81 P5:=zqQ (n:=5) (ks:=[.int .i64,.int .i64,.int .i64,.int .i64,.int .i64]) (by kernel_rfl) (by kernel_rfl) (cs:=fun k=>[.int .i64 k.p0,.int .i64 k.p1,.int .i64 k.p2,.int .i64 k.p3,.int .i64 k.p4]) (fun _=>rfl) fun a b fa fb=>⟨_,_,(zqP (zqM fa.1 fb.1) (zqP (zqM fa.2.1 fb.2.1) (zqP (zqM fa.2.2.1 fb.2.2.1) (zqP (zqM fa.2.2.2.1 fb.2.2.2.1) (zqP (zqM fa.2.2.2.2.1 fb.2.2.2.2.1) zqO))))),⟨fun h=>by obtain⟨ap0,ap1,ap2,ap3,ap4⟩:=a; obtain⟨bp0,bp1,bp2,bp3,bp4⟩:=b; simp_all,fun h=>by subst h; exact⟨rfl,rfl,rfl,rfl,rfl,trivial⟩⟩⟩
theorem zvN:∀a b:P5,MK.enc a=MK.enc b->a=b:=fun a b h=>by
 obtain⟨ap0,ap1,ap2,ap3,ap4⟩:=a; obtain⟨bp0,bp1,bp2,bp3,bp4⟩:=b
 injection h with h1 h2
 simp only[List.cons.injEq,C.int.injEq,true_and,and_true] at h2
 simp_all
theorem zvO:TA prog 43 4:=⟨107,by kernel_rfl,by kernel_rfl,by kernel_rfl⟩
theorem zvP:TA prog 128 11:=⟨83,by kernel_rfl,by kernel_rfl,by kernel_rfl⟩
theorem zvQ{p:Pg}{ca100 ca102 ca103:C}{m f:M}{Q:V->M->Prop}{rz:List (List Int)}(hS:Pre f m)(ha100:Sl f ca100 p.Losses)(ha102:Sl f ca102 p.Treaties)(ha103:Sl f ca103 p.Reports)(hp:zts p=some rz)(hq:∀m' f' c0,Grw m f m' f'->ItW prog tbl f' c0 rz->Q (.c c0) m'):Wc prog tbl 70 [.agg 4 [ca100,Il p.Reserve,ca102,ca103]] m Q:=by
 have y:=hS.st;obtain⟨z,_⟩:=zr8;refine w70 ?_;unfold zts at hp;intro J g;obtain⟨a,d,A,h⟩:=y.blk g z 1;refine⟨_,_,_,_,h.bk.ra,?_⟩;obtain⟨i,j,hp⟩:=zqq hp;refine zuU (p:=p) d.pre ha100 ha102 ha103 j fun N B D n o=>?_;obtain⟨e,F⟩:=d.callG n a;refine⟨_,rfl,?_⟩;obtain⟨G,q,hp⟩:=zqq hp;refine zvH (l:=i) e.pre o q fun O r s t u=>?_;obtain⟨w,I⟩:=e.callG t a;refine⟨_,rfl,?_⟩;obtain rfl:=oi hp;exact hq _ r s w.grw u
theorem zvR{p:Pg}{losses:List Int}{ca100 ca102 ca103 ca200:C}{m f:M}{Q:V->M->Prop}{rz:List Int × Int × Int}(hS:Pre f m)(ha100:Sl f ca100 p.Losses)(ha102:Sl f ca102 p.Treaties)(ha103:Sl f ca103 p.Reports)(ha200:Sl f ca200 losses)(hp:ztt p losses=some rz)(hq:∀m' f' c0,Grw m f m' f'->Sl f' c0 rz.1->Q (.tup [.c c0,.c (Il rz.2.1),.c (Il rz.2.2)]) m'):Wc prog tbl 8 [.agg 4 [ca100,Il p.Reserve,ca102,ca103],.c ca200] m Q:=by
 have S0:=hS.st;obtain⟨τ0,_⟩:=zr8;refine w8 ?_;unfold ztt at hp;intro m0 aa;obtain⟨q,A,Mb,B⟩:=S0.blk aa τ0 1;refine⟨_,_,_,_,B.bk.ra,?_⟩;obtain⟨Nb,ba,hp⟩:=zqq hp;refine zuV (p:=p) A.pre ha100 ha102 ha103 ba fun m6 ca=>?_;obtain⟨r,da⟩:=A.call ca q;have D:=B.k da;refine⟨_,rfl,?_⟩;refine zqZ hp (fun ea hp=>?_) fun ea hp=>?_
 ·obtain rfl:=oi hp;exact hq _ f .sl0 r.grw (Sl.nil _)
 refine⟨_,_,_,_,D.bk.ra,?_⟩;obtain⟨Ob,fa,hp⟩:=zqq hp;refine zuW (p:=p) (losses:=losses) r.pre ha100 ha102 ha103 ha200 fa fun Yb ga=>?_;obtain⟨F,ha⟩:=r.call ga q;have G:=D.k ha;refine⟨_,rfl,?_⟩;refine zq1 hp (fun ia hp=>?_) fun ia hp=>?_
 ·obtain rfl:=oi hp;exact hq _ f .sl0 F.grw (Sl.nil _)
 refine⟨_,_,_,_,G.bk.ra,?_⟩;refine w32 ?_;intro m0i221 ja;obtain⟨ka,la,ma,na⟩:=F.blk ja q 2;have oa:=G.k ma;intro m1i221 pa;obtain⟨qa,sa,I,ta⟩:=la.blk pa ka 3;have ua:=oa.k I;have va:=na.k I;intro m2i221 wa;obtain⟨J,N,s,z⟩:=sa.growK wa qa 4;have xa:=ua.k s;have O:=va.k s;have ya:=ta.k s;have za:=z 0 (by decide);have Aa:=z 1 (by decide);refine⟨_,_,_,_,O.bk.ra,?_⟩;obtain⟨d,Ba,hp⟩:=zqq hp;refine zut N.pre  Ba fun m8i221 Pb Ca Da Ea Fa Ga=>?_;obtain⟨Ha,e⟩:=N.callG Ea J;have Ia:=xa.k e;have P:=O.k e;have Ja:=ya.k e;have Ka:=za.k e;have La:=Aa.k e;refine⟨_,_,_,_,_,_,_,_,_,_,_,_,_,_,_,_,_,_,rfl,(by rw[show zaL cmC _=true from zoX (zqu ha100.noFn (zqu rfl (zqu ha102.noFn (zqu ha103.noFn zqv))))]; exact(P.bk.ra)),?_⟩;intro m27i221 Ma;obtain⟨Na,g,Oa⟩:=Rs.setM (K:=Mt) (V':=Oc) Ka Ha Ma;have Pa:=Ia.k g;have S:=P.k g;have Qa:=Ja.k g;have Ra:=La.k g;refine⟨(by rw[show zaL cmC _=true from zoX (zqu ha100.noFn (zqu rfl (zqu ha102.noFn (zqu ha103.noFn zqv))))]; exact(S.bk.ra)),?_⟩;intro m28i221 Sa;obtain⟨Ta,h,Ua⟩:=Rs.setS (K:=P5) (α:=Oc) Ra Na Sa;have Va:=Pa.k h;have Wa:=S.k h;have Xa:=Qa.k h;have Ya:=Oa.k h;refine⟨(by rw[show zaL cmC _=true from zoX (zqu ha100.noFn (zqu rfl (zqu ha102.noFn (zqu ha103.noFn zqv))))]; exact(Wa.bk.ra)),?_⟩;obtain⟨Za,ab,t,u,bb⟩:=Xa.sto Ta [ca100,Il p.Reserve,ca102,ca103,Il d.k0.part.Lo,Il d.k0.part.Hi,Il d.k0.above.Lo,Il d.k0.above.Hi,Il d.k0.most.Lo,Il d.k0.most.Hi,Il d.k0.times.Lo,Il d.k0.times.Hi,Ca,Il d.k1.part.Lo,Il d.k1.part.Hi,Il d.k1.above.Lo,Il d.k1.above.Hi,Il d.k1.most.Lo,Il d.k1.most.Hi,Il d.k1.times.Lo,Il d.k1.times.Hi,Da,(.map (m1i221.nxt+0)),(.map (m1i221.nxt+1))]
 have cb:=Va.k u;have T:=Ya.k u;have db:=Ua.k u;refine⟨Za,ab,?_⟩;refine⟨_,_,_,_,_,_,_,_,_,_,_,_,_,_,_,_,_,_,_,_,_,_,_,_,bb.bk.ra,_,_,_,_,_,_,_,_,_,_,_,_,_,_,_,_,_,_,_,_,_,_,_,_,rfl,?_⟩;obtain⟨a,eb,hp⟩:=zqq hp;refine zu7 (w:=({ p:=p,kinds:=d,shared:=(some fun _=>none:Option (Mt->Option (Oc))),played:=() }:WkP)) (losses:=losses) t.pre (ha100.sub e.fs) (ha102.sub e.fs) (ha103.sub e.fs) Fa Ga (T.mc t) (show zrD _ _ _ from db.noFn) (ha200.sub e.fs) eb fun Zb fb Z=>?_;obtain⟨gb,hb,Qb⟩:=t.callM T fb Z;have ib:=cb.k hb;refine⟨_,_,_,_,_,_,_,_,_,_,_,rfl,?_⟩;intro ac jb;obtain⟨kb,mb,ob,pb⟩:=gb.blk jb J 6;have qb:=ib.k ob;obtain⟨rb,sb,tb,ub,vb⟩:=pb.sto mb [Il a.1.pays.p0,Il a.1.pays.p1,Il a.1.pays.p2,Il a.1.pays.p3,Il a.1.pays.p4,Il a.1.keeps.p0,Il a.1.keeps.p1,Il a.1.keeps.p2,Il a.1.keeps.p3,Il a.1.keeps.p4,Il a.1.society];have wb:=qb.k ub;refine⟨rb,sb,?_⟩;refine⟨trivial,trivial,_,wb.bk.rc rfl,ha102.isSl,?_⟩
 try rw[ha102.slLen]
 obtain⟨Rb,y,Sb,n⟩:=vb.freeze tb;obtain⟨Tb,hp⟩:=zqr hp;obtain⟨xb,yb,zb⟩:=Bk.arS (α:=Int) (o:=0) (l:=([a.1.pays.p0,a.1.pays.p1,a.1.pays.p2,a.1.pays.p3,a.1.pays.p4]:List Int)) (i:=Int.toNat (0:Int)) (j:=Int.toNat (p.Treaties.length:Int)) n rfl (Nat.le_of_ble_eq_true rfl) (Go.Abs.zrg _ ([a.1.pays.p0,a.1.pays.p1,a.1.pays.p2,a.1.pays.p3,a.1.pays.p4]:List Int)) (by omega) (by show Int.toNat (p.Treaties.length:Int)<=5; omega);refine⟨Int.toNat (0:Int),Int.toNat (p.Treaties.length:Int),rfl,(show(p.Treaties.length:Int)=((Int.toNat (p.Treaties.length:Int):Nat):Int) by omega),xb,yb,?_⟩;obtain⟨Ub,Ab,hp⟩:=zqq hp;refine zvb (l:=((([a.1.pays.p0,a.1.pays.p1,a.1.pays.p2,a.1.pays.p3,a.1.pays.p4]:List Int).take (Int.toNat (p.Treaties.length:Int))).drop (Int.toNat (0:Int)))) y.pre zb Ab fun bc Vb Bb Cb Db=>?_;obtain⟨Wb,Y,Eb,Fb⟩:=y.callO Cb Db kb 7;refine⟨_,rfl,trivial,_,(n.sub (Sub.trans Eb.fs Y.sub)).rc rfl,((n.sub y.sub).rc rfl),?_⟩;obtain⟨Gb,Hb,Xb,Ib⟩:=Fb.freeze Y;obtain rfl:=oi hp;exact hq _ Gb Bb Hb.grw Ib
theorem zvS{p:Pg}{ca100 ca102 ca103:C}{m f:M}{Q:V->M->Prop}{rz:Wk}(hS:Pre f m)(ha100:Sl f ca100 p.Losses)(ha102:Sl f ca102 p.Treaties)(ha103:Sl f ca103 p.Reports)(hp:ztv p=some rz)(hq:∀m' f' c0 c2 c3 c12 c21 c22 c23,Grw m f m' f'->Sl f' c0 rz.p.Losses->Sl f' c2 rz.p.Treaties->Sl f' c3 rz.p.Reports->zuc f' c12 rz.kinds.k0.takes->zuc f' c21 rz.kinds.k1.takes->zrD f' c22 rz.shared->MiS f' c23 rz.played->Q (.agg 24 [c0,Il rz.p.Reserve,c2,c3,Il rz.kinds.k0.part.Lo,Il rz.kinds.k0.part.Hi,Il rz.kinds.k0.above.Lo,Il rz.kinds.k0.above.Hi,Il rz.kinds.k0.most.Lo,Il rz.kinds.k0.most.Hi,Il rz.kinds.k0.times.Lo,Il rz.kinds.k0.times.Hi,c12,Il rz.kinds.k1.part.Lo,Il rz.kinds.k1.part.Hi,Il rz.kinds.k1.above.Lo,Il rz.kinds.k1.above.Hi,Il rz.kinds.k1.most.Lo,Il rz.kinds.k1.most.Hi,Il rz.kinds.k1.times.Lo,Il rz.kinds.k1.times.Hi,c21,c22,c23]) m'):Wc prog tbl 39 [.agg 4 [ca100,Il p.Reserve,ca102,ca103]] m Q:=by
 have S0:=hS.st;obtain⟨τ0,_⟩:=zr8;refine w39 ?_;unfold ztv at hp;intro m0 eb;obtain⟨fb,gb,Fe,hb⟩:=S0.blk eb τ0 1;intro m1 jb;obtain⟨kb,mb,ob,pb⟩:=gb.blk jb fb 2;have ma:=hb.k ob;refine⟨_,_,_,_,ma.bk.ra,?_⟩;refine w32 ?_;intro m0i364 qb;obtain⟨rb,sb,na,tb⟩:=mb.blk qb kb 3;have ub:=ma.k na;have vb:=pb.k na;intro m1i364 wb;obtain⟨xb,yb,ia,zb⟩:=sb.blk wb rb 4;have Ab:=ub.k ia;have Bb:=vb.k ia;have Cb:=tb.k ia;intro m2i364 Db;obtain⟨oa,pa,ga,la⟩:=yb.growK Db xb 5;have Eb:=Ab.k ga;have Fb:=Bb.k ga;have qa:=Cb.k ga;have Gb:=zb.k ga;have Hb:=la 0 (by decide);have Ib:=la 1 (by decide);refine⟨_,_,_,_,qa.bk.ra,?_⟩;obtain⟨c,Jb,hp⟩:=zqq hp;refine zut pa.pre  Jb fun m8i364 Ge h i Kb sa ta=>?_;obtain⟨Mb,g⟩:=pa.callG Kb oa;have Nb:=Eb.k g;have Ob:=Fb.k g;have ua:=qa.k g;have Pb:=Gb.k g;have Qb:=Hb.k g;have Rb:=Ib.k g;refine⟨_,_,_,_,_,_,_,_,_,_,_,_,_,_,_,_,_,_,rfl,(by rw[show zaL cmC _=true from zoX (zqu ha100.noFn (zqu rfl (zqu ha102.noFn (zqu ha103.noFn zqv))))]; exact(ua.bk.ra)),?_⟩;intro m27i364 Sb;obtain⟨Tb,Z,Ub⟩:=Rs.setM (K:=Mt) (V':=Oc) Qb Mb Sb;have Vb:=Nb.k Z;have Wb:=Ob.k Z;have va:=ua.k Z;have Xb:=Pb.k Z;have Yb:=Rb.k Z;refine⟨(by rw[show zaL cmC _=true from zoX (zqu ha100.noFn (zqu rfl (zqu ha102.noFn (zqu ha103.noFn zqv))))]; exact(va.bk.ra)),?_⟩;intro m28i364 Zb;obtain⟨ac,aa,bc⟩:=Rs.setS (K:=P5) (α:=Oc) Yb Tb Zb;have cc:=Vb.k aa;have dc:=Wb.k aa;have wa:=va.k aa;have ec:=Xb.k aa;have fc:=Ub.k aa;refine⟨(by rw[show zaL cmC _=true from zoX (zqu ha100.noFn (zqu rfl (zqu ha102.noFn (zqu ha103.noFn zqv))))]; exact(wa.bk.ra)),?_⟩
 obtain⟨ha,gc,hc,ba,xa⟩:=ec.sto ac [ca100,Il p.Reserve,ca102,ca103,Il c.k0.part.Lo,Il c.k0.part.Hi,Il c.k0.above.Lo,Il c.k0.above.Hi,Il c.k0.most.Lo,Il c.k0.most.Hi,Il c.k0.times.Lo,Il c.k0.times.Hi,h,Il c.k1.part.Lo,Il c.k1.part.Hi,Il c.k1.above.Lo,Il c.k1.above.Hi,Il c.k1.most.Lo,Il c.k1.most.Hi,Il c.k1.times.Lo,Il c.k1.times.Hi,i,(.map (m1i364.nxt+0)),(.map (m1i364.nxt+1))];have ic:=cc.k ba;have jc:=dc.k ba;have kc:=wa.k ba;have nc:=fc.k ba;have pc:=bc.k ba;refine⟨ha,gc,?_⟩;refine⟨_,_,_,_,_,_,_,_,_,_,_,_,_,_,_,_,_,_,_,_,_,_,_,_,xa.bk.ra,_,_,_,_,_,_,_,_,_,_,_,_,_,_,_,_,_,_,_,_,_,_,_,_,rfl,?_⟩;intro Re qc;obtain⟨ya,sc,J,tc⟩:=hc.blk qc oa 7;have uc:=ic.k J;have vc:=jc.k J;have wc:=kc.k J;have xc:=xa.k J;have yc:=nc.k J;have zc:=pc.k J;obtain⟨Ac,Bc,za,N,Cc⟩:=tc.sto sc [ca100,Il p.Reserve,ca102,ca103,Il c.k0.part.Lo,Il c.k0.part.Hi,Il c.k0.above.Lo,Il c.k0.above.Hi,Il c.k0.most.Lo,Il c.k0.most.Hi,Il c.k0.times.Lo,Il c.k0.times.Hi,h,Il c.k1.part.Lo,Il c.k1.part.Hi,Il c.k1.above.Lo,Il c.k1.above.Hi,Il c.k1.most.Lo,Il c.k1.most.Hi,Il c.k1.times.Lo,Il c.k1.times.Hi,i,(.map (m1i364.nxt+0)),(.map (m1i364.nxt+1))];have Aa:=uc.k N;have Dc:=vc.k N;have Ec:=wc.k N;have Fc:=xc.k N;have Gc:=yc.k N;have Hc:=zc.k N;refine⟨Ac,Bc,?_⟩;refine⟨_,_,_,_,Aa.bk.ra,?_⟩;obtain⟨He,Ic,hp⟩:=zqq hp;refine zvQ (p:=p) za.pre (ha100.sub g.fs) (ha102.sub g.fs) (ha103.sub g.fs) Ic fun Se Ie Je Jc Kc=>?_;obtain⟨Nc,e⟩:=za.callG Jc ya;have Ba:=Aa.k e;have Ca:=Dc.k e;have Da:=Ec.k e;have Ea:=Fc.k e;have Fa:=Cc.k e;have Ga:=Gc.k e;have Ha:=Hc.k e
 refine⟨_,rfl,?_⟩;refine zru (α:=List Int) Nc Kc (σ:=(Option (Mt->Option (Oc))) × (Option (P5->Option (List Oc))) × (Nat->Prop)) 8 (fun st bb=>(False\/(False\/(False\/(False\/(False\/(False\/(st.2.2 bb)))))))) (fun st gG gF gT gM=>(Lb gG gF gT gM 1 m.nxt 4 [ca100,Il p.Reserve,ca102,ca103])/\(Lb gG gF gT gM 2 m0.nxt 24 [.sl0,Il 0,.sl0,.sl0,Il 0,Il 0,Il 0,Il 0,Il 0,Il 0,Il 0,Il 0,C.nilFn,Il 0,Il 0,Il 0,Il 0,Il 0,Il 0,Il 0,Il 0,C.nilFn,C.map0,C.map0])/\(Lb gG gF gT gM 3 m1.nxt 4 [ca100,Il p.Reserve,ca102,ca103])/\(Lb gG gF gT gM 4 m0i364.nxt 24 [ca100,Il p.Reserve,ca102,ca103,Il c.k0.part.Lo,Il c.k0.part.Hi,Il c.k0.above.Lo,Il c.k0.above.Hi,Il c.k0.most.Lo,Il c.k0.most.Hi,Il c.k0.times.Lo,Il c.k0.times.Hi,h,Il c.k1.part.Lo,Il c.k1.part.Hi,Il c.k1.above.Lo,Il c.k1.above.Hi,Il c.k1.most.Lo,Il c.k1.most.Hi,Il c.k1.times.Lo,Il c.k1.times.Hi,i,(.map (m1i364.nxt+0)),(.map (m1i364.nxt+1))])/\(Lb gG gF gT gM 7 ha.nxt 24 [ca100,Il p.Reserve,ca102,ca103,Il c.k0.part.Lo,Il c.k0.part.Hi,Il c.k0.above.Lo,Il c.k0.above.Hi,Il c.k0.most.Lo,Il c.k0.most.Hi,Il c.k0.times.Lo,Il c.k0.times.Hi,h,Il c.k1.part.Lo,Il c.k1.part.Hi,Il c.k1.above.Lo,Il c.k1.above.Hi,Il c.k1.most.Lo,Il c.k1.most.Hi,Il c.k1.times.Lo,Il c.k1.times.Hi,i,(.map (m1i364.nxt+0)),(.map (m1i364.nxt+1))])/\(Mo gG gF gT gM 5 (.map (m1i364.nxt+0)) st.1)/\(MoS gG gF gT gM 6 (.map (m1i364.nxt+1)) st.2.1 st.2.2)) (fun rr_ st=>ztu p c rr_ st.1 st.2.1=some rz) (fun ex st=>False) (fun st=>(Gux.and (Gux.lb Ba.bk.lt (by decide)) (Gux.and (Gux.lb Ca.bk.lt (by decide)) (Gux.and (Gux.lb Da.bk.lt (by decide)) (Gux.and (Gux.lb Ea.bk.lt (by decide)) (Gux.and (Gux.lb Fa.bk.lt (by decide)) (Gux.and (Gux.mo Ga.lt (by decide)) (Gux.moz Ha.lt (by decide))))))))) (st0:=((some fun _=>none:Option (Mt->Option (Oc))),(some fun _=>none:Option (P5->Option (List Oc))),(fun _=>False))) (τ:=ya) ⟨Ba,Ca,Da,Ea,Fa,Ga,Ha⟩ hp ?_ ?_ ?_ ?_
 ·intro Ia Pc st l n ca s Ke ze Ae Be _ _ Qc da hA Qa hp hrep Ce Ra Sa;obtain⟨Me,rfl,⟨Rc,_⟩⟩:=hrep;obtain⟨O,ea,ja⟩:=st;obtain⟨P,t,S,T,u,y,z⟩:=hA
  replace P:Lb s l n ca 1 m.nxt 4 [ca100,Il p.Reserve,ca102,ca103]:=P
  replace t:Lb s l n ca 2 m0.nxt 24 [.sl0,Il 0,.sl0,.sl0,Il 0,Il 0,Il 0,Il 0,Il 0,Il 0,Il 0,Il 0,C.nilFn,Il 0,Il 0,Il 0,Il 0,Il 0,Il 0,Il 0,Il 0,C.nilFn,C.map0,C.map0]:=t
  replace S:Lb s l n ca 3 m1.nxt 4 [ca100,Il p.Reserve,ca102,ca103]:=S
  replace T:Lb s l n ca 4 m0i364.nxt 24 [ca100,Il p.Reserve,ca102,ca103,Il c.k0.part.Lo,Il c.k0.part.Hi,Il c.k0.above.Lo,Il c.k0.above.Hi,Il c.k0.most.Lo,Il c.k0.most.Hi,Il c.k0.times.Lo,Il c.k0.times.Hi,h,Il c.k1.part.Lo,Il c.k1.part.Hi,Il c.k1.above.Lo,Il c.k1.above.Hi,Il c.k1.most.Lo,Il c.k1.most.Hi,Il c.k1.times.Lo,Il c.k1.times.Hi,i,(.map (m1i364.nxt+0)),(.map (m1i364.nxt+1))]:=T
  replace u:Lb s l n ca 7 ha.nxt 24 [ca100,Il p.Reserve,ca102,ca103,Il c.k0.part.Lo,Il c.k0.part.Hi,Il c.k0.above.Lo,Il c.k0.above.Hi,Il c.k0.most.Lo,Il c.k0.most.Hi,Il c.k0.times.Lo,Il c.k0.times.Hi,h,Il c.k1.part.Lo,Il c.k1.part.Hi,Il c.k1.above.Lo,Il c.k1.above.Hi,Il c.k1.most.Lo,Il c.k1.most.Hi,Il c.k1.times.Lo,Il c.k1.times.Hi,i,(.map (m1i364.nxt+0)),(.map (m1i364.nxt+1))]:=u
  replace y:Mo s l n ca 5 (.map (m1i364.nxt+0)) O:=y
  replace z:MoS s l n ca 6 (.map (m1i364.nxt+1)) ea ja:=z
  replace hp:ztu p c (Ia::Pc) O ea=some rz:=hp
  rw[ztu] at hp;refine⟨_,rfl,?_⟩;refine Ra _ _ _ _ Qc Qa fun Te Ne ka A Ta Ua=>?_;have Tc:=P.k A;have Uc:=t.k A;have Vc:=S.k A;have Xc:=T.k A;have Ja:=u.k A;have Ka:=y.k A;have La:=z.k A;refine⟨_,_,_,_,_,_,_,_,_,_,_,_,_,_,_,_,_,_,_,_,_,_,_,_,Ja.bk.ra,?_⟩;obtain⟨d,Yc,hp⟩:=zqq hp;refine zu7 (w:=({ p:=p,kinds:=c,shared:=O,played:=() }:WkP)) (losses:=Ia) ka.pre (ha100.sub (Sub.trans (Sub.trans g.fs e.fs) da)) (ha102.sub (Sub.trans (Sub.trans g.fs e.fs) da)) (ha103.sub (Sub.trans (Sub.trans g.fs e.fs) da)) (sa.sub (Sub.trans e.fs da)) (ta.sub (Sub.trans e.fs da)) (Ka.mc ka) (show zrD _ _ _ from La.noFn) Rc Yc fun Ue Zc Va=>?_;obtain⟨ad,B,bd⟩:=ka.callM Ka Zc Va;have cd:=Tc.k B;have dd:=Uc.k B;have ed:=Vc.k B;have fd:=Xc.k B;have hd:=Ja.k B;have jd:=La.k B;have Wa:=Ta.k B;refine⟨_,_,_,_,_,_,_,_,_,_,_,rfl,?_⟩;intro Ve kd;obtain⟨ld,md,o,nd⟩:=ad.blk kd n 9;have od:=cd.k o;have pd:=dd.k o;have qd:=ed.k o;have sd:=fd.k o;have td:=hd.k o;have ud:=bd.k o;have vd:=jd.k o;have Xa:=Wa.k o;obtain⟨xd,yd,zd,q,Ma⟩:=nd.sto md [Il d.1.pays.p0,Il d.1.pays.p1,Il d.1.pays.p2,Il d.1.pays.p3,Il d.1.pays.p4,Il d.1.keeps.p0,Il d.1.keeps.p1,Il d.1.keeps.p2,Il d.1.keeps.p3,Il d.1.keeps.p4,Il d.1.society];have Ad:=od.k q;have Cd:=pd.k q;have Dd:=qd.k q;have Ed:=sd.k q;have Na:=td.k q;have Fd:=ud.k q;have Gd:=vd.k q;have Ya:=Xa.k q;refine⟨xd,yd,?_⟩;refine⟨trivial,_,Na.bk.rc rfl,trivial,_,_,_,_,_,Ma.bk.rp (k:=0) (j:=5) rfl (by omega),_,_,_,_,_,_,_,_,_,_,_,Ma.bk.ra,?_⟩;intro Oe Hd
  obtain⟨Pe,Id,r,Jd⟩:=zd.blk Hd ld 10;have Ld:=Ad.k r;have Md:=Cd.k r;have Nd:=Dd.k r;have Od:=Ed.k r;have Pd:=Na.k r;have Qd:=Fd.k r;have Rd:=Gd.k r;have Za:=Ya.k r;obtain⟨Sd,hp⟩:=zqr hp;obtain⟨Td,hp⟩:=zqr hp;obtain⟨Ud,Vd,hp⟩:=zqq hp;obtain⟨Wd,Oa,Xd,Yd,Zd,ae,Qe,be,ce,de,ee,fe,D,ge⟩:=MoS.opa zvP zvM Id Rd (k:=d.1.pays) Sd (a:=d.1) Jd rfl (show Rp.rep (α:=Oc) l _ d.1 from rfl) Td Vd (kv:=.agg 5 [Il d.1.pays.p0,Il d.1.pays.p1,Il d.1.pays.p2,Il d.1.pays.p3,Il d.1.pays.p4]) rfl;have he:=Ld.k D;have ie:=Md.k D;have je:=Nd.k D;have ke:=Od.k D;have me:=Pd.k D;have oe:=Qd.k D;have ab:=Za.k D;refine⟨Wd,Oa,Xd,ce,Yd,Zd,de,Oa,ae,rfl,ee,?_⟩;exact Sa .nrm (d.2,Ud,be) _ _ _ _ fe ⟨he,ie,je,ke,me,oe,ge⟩ ab Ua hp
 ·intro st F G I pe fa hA hp;obtain⟨O,ea,ja⟩:=st
  replace hp:ztu p c [] O ea=some rz:=hp
  obtain⟨P,t,S,T,u,y,z⟩:=hA
  replace P:Lb (Fm.of m) F G I 1 m.nxt 4 [ca100,Il p.Reserve,ca102,ca103]:=P
  replace t:Lb (Fm.of m) F G I 2 m0.nxt 24 [.sl0,Il 0,.sl0,.sl0,Il 0,Il 0,Il 0,Il 0,Il 0,Il 0,Il 0,Il 0,C.nilFn,Il 0,Il 0,Il 0,Il 0,Il 0,Il 0,Il 0,Il 0,C.nilFn,C.map0,C.map0]:=t
  replace S:Lb (Fm.of m) F G I 3 m1.nxt 4 [ca100,Il p.Reserve,ca102,ca103]:=S
  replace T:Lb (Fm.of m) F G I 4 m0i364.nxt 24 [ca100,Il p.Reserve,ca102,ca103,Il c.k0.part.Lo,Il c.k0.part.Hi,Il c.k0.above.Lo,Il c.k0.above.Hi,Il c.k0.most.Lo,Il c.k0.most.Hi,Il c.k0.times.Lo,Il c.k0.times.Hi,h,Il c.k1.part.Lo,Il c.k1.part.Hi,Il c.k1.above.Lo,Il c.k1.above.Hi,Il c.k1.most.Lo,Il c.k1.most.Hi,Il c.k1.times.Lo,Il c.k1.times.Hi,i,(.map (m1i364.nxt+0)),(.map (m1i364.nxt+1))]:=T
  replace u:Lb (Fm.of m) F G I 7 ha.nxt 24 [ca100,Il p.Reserve,ca102,ca103,Il c.k0.part.Lo,Il c.k0.part.Hi,Il c.k0.above.Lo,Il c.k0.above.Hi,Il c.k0.most.Lo,Il c.k0.most.Hi,Il c.k0.times.Lo,Il c.k0.times.Hi,h,Il c.k1.part.Lo,Il c.k1.part.Hi,Il c.k1.above.Lo,Il c.k1.above.Hi,Il c.k1.most.Lo,Il c.k1.most.Hi,Il c.k1.times.Lo,Il c.k1.times.Hi,i,(.map (m1i364.nxt+0)),(.map (m1i364.nxt+1))]:=u
  replace y:Mo (Fm.of m) F G I 5 (.map (m1i364.nxt+0)) O:=y
  replace z:MoS (Fm.of m) F G I 6 (.map (m1i364.nxt+1)) ea ja:=z
  rw[ztu] at hp;refine⟨_,_,_,_,_,_,_,_,_,_,_,_,_,_,_,_,_,_,_,_,_,_,_,_,u.bk.ra,?_⟩;obtain⟨qe,re,se,Pa,te⟩:=t.sto pe [ca100,Il p.Reserve,ca102,ca103,Il c.k0.part.Lo,Il c.k0.part.Hi,Il c.k0.above.Lo,Il c.k0.above.Hi,Il c.k0.most.Lo,Il c.k0.most.Hi,Il c.k0.times.Lo,Il c.k0.times.Hi,h,Il c.k1.part.Lo,Il c.k1.part.Hi,Il c.k1.above.Lo,Il c.k1.above.Hi,Il c.k1.most.Lo,Il c.k1.most.Hi,Il c.k1.times.Lo,Il c.k1.times.Hi,i,(.map (m1i364.nxt+0)),(.map (m1i364.nxt+1))];have ue:=y.k Pa;have ve:=z.k Pa;refine⟨qe,re,?_⟩;refine⟨_,_,_,_,_,_,_,_,_,_,_,_,_,_,_,_,_,_,_,_,_,_,_,_,te.bk.ra,?_⟩;obtain⟨we,xe,Y,cb⟩:=ve.freeze se;have ye:=ue.k Y;obtain rfl:=oi hp;exact hq _ we ca100 ca102 ca103 h i (.map (m1i364.nxt+0)) (.map (m1i364.nxt+1)) xe.grw (ha100.sub (Sub.trans (Sub.trans (Sub.trans g.fs e.fs) fa) Y.fs)) (ha102.sub (Sub.trans (Sub.trans (Sub.trans g.fs e.fs) fa) Y.fs)) (ha103.sub (Sub.trans (Sub.trans (Sub.trans g.fs e.fs) fa) Y.fs)) (sa.sub (Sub.trans (Sub.trans e.fs fa) Y.fs)) (ta.sub (Sub.trans (Sub.trans e.fs fa) Y.fs)) (show zrD _ _ _ from ye.mi.noFn) cb
 ·intro id st _ _ _ _ _ _ hn; first | exact hn.elim | (cases hn)
 ·intro st _ _ _ _ _ _ hn; first | exact hn.elim | (cases hn)
theorem zvT{w:Wk}{reports:List Rpt}{ca100 ca102 ca103 ca112 ca121 ca122 ca123 ca200:C}{m f:M}{Q:V->M->Prop}{rz:Bool}(hS:Pre f m)(_ha100:Sl f ca100 w.p.Losses)(_ha102:Sl f ca102 w.p.Treaties)(_ha103:Sl f ca103 w.p.Reports)(_ha112:zuc f ca112 w.kinds.k0.takes)(_ha121:zuc f ca121 w.kinds.k1.takes)(_ha122:zrD f ca122 w.shared)(ha123:MiS f ca123 w.played)(ha200:Sl f ca200 reports)(hp:ztw w reports=some rz)(hq:∀m',Ext m m'->Q (.c (.bool rz)) m'):Wc prog tbl 41 [.agg 24 [ca100,Il w.p.Reserve,ca102,ca103,Il w.kinds.k0.part.Lo,Il w.kinds.k0.part.Hi,Il w.kinds.k0.above.Lo,Il w.kinds.k0.above.Hi,Il w.kinds.k0.most.Lo,Il w.kinds.k0.most.Hi,Il w.kinds.k0.times.Lo,Il w.kinds.k0.times.Hi,ca112,Il w.kinds.k1.part.Lo,Il w.kinds.k1.part.Hi,Il w.kinds.k1.above.Lo,Il w.kinds.k1.above.Hi,Il w.kinds.k1.most.Lo,Il w.kinds.k1.most.Hi,Il w.kinds.k1.times.Lo,Il w.kinds.k1.times.Hi,ca121,ca122,ca123],.c ca200] m Q:=by
 have S0:=hS.st;obtain⟨τ0,_⟩:=zr8;refine w41 ?_;unfold ztw at hp;intro m0 T;obtain⟨Y,Z,La,q⟩:=S0.blk T τ0 1;refine⟨trivial,_,q.bk.rc rfl,?_⟩;obtain⟨Ga,aa,D,F,G⟩:=MiS.rng zvN Z ha123 Y 2;have hp:=zrm hp D;refine⟨aa,F,?_⟩;intro m3 ba;obtain⟨ca,da,ea,fa⟩:=G m3 ba;have e:=q.k ea;intro R4 Fa
 have hgo:∀(g:Nat) (b5:Bool) (h:List P5) (o:M) (d:Nat->Nat),St (Fm.of m) f f o->Lb (Fm.of m) f d o 1 m.nxt 24 [ca100,Il w.p.Reserve,ca102,ca103,Il w.kinds.k0.part.Lo,Il w.kinds.k0.part.Hi,Il w.kinds.k0.above.Lo,Il w.kinds.k0.above.Hi,Il w.kinds.k0.most.Lo,Il w.kinds.k0.most.Hi,Il w.kinds.k0.times.Lo,Il w.kinds.k0.times.Hi,ca112,Il w.kinds.k1.part.Lo,Il w.kinds.k1.part.Hi,Il w.kinds.k1.above.Lo,Il w.kinds.k1.above.Hi,Il w.kinds.k1.most.Lo,Il w.kinds.k1.most.Hi,Il w.kinds.k1.times.Lo,Il w.kinds.k1.times.Hi,ca121,ca122,ca123]->IrS (Fm.of m) f d o 2 m0.nxt ca123 w.played h->pcanHold_L0 w reports g h=some rz->R4 [.c (.bool b5)] o:=by
  intro g
  induction g with
  | zero=>intro b5 h o d j e r hp; cases hp
  | succ g ha=>
   intro b5 h o d j e r hp;refine Fa _ _ ?_;rw[pcanHold_L0] at hp;obtain⟨l7,I,J,N⟩:=r.next j;refine⟨l7,I,fun ia=>?_,fun u8 u9 Ta ja=>?_⟩
   ·have hp:=zrp (J ia) hp;obtain rfl:=oi hp;exact hq _ j.ext'
   obtain⟨ka,a,la,ma,Pa,O,Ha,P,s,Qa,t,na,u⟩:=N _ _ _ ja;have hp:=zrq O hp;obtain⟨oa,S,hp⟩:=zqq hp;obtain rfl:oa=ma:=oi (S.symm.trans P);generalize ka++la=Ra at hp u;have pa:=e.k na;refine⟨_,_,_,_,_,_,s,?_⟩;intro Ua qa;obtain⟨y,l,z,sa⟩:=t.blk qa d 3;have ta:=pa.k z;have ua:=u.k z t.sub l (by decide);obtain⟨va,wa,i,A,xa⟩:=sa.sto l [Il a.p0,Il a.p1,Il a.p2,Il a.p3,Il a.p4];have ya:=ta.k A;have za:=ua.k A l.sub i (by decide);refine⟨va,wa,?_⟩;refine⟨_,_,_,_,_,xa.bk.ra,?_⟩;obtain⟨Sa,Aa,hp⟩:=zqq hp;refine zu4 (p:=a) (reports:=reports) i.pre ha200 Aa fun Va Ba=>?_;obtain⟨n,B⟩:=i.call Ba y;have Ca:=ya.k B;have Da:=za.k B i.sub n (by decide);refine⟨_,rfl,?_⟩;refine zq0 hp (fun Ea hp=>?_) fun Ea hp=>?_; rotate_left
   ·exact ha _ _ _ y n Ca Da hp
   obtain rfl:=oi hp;exact hq _ n.ext'
 exact hgo _ _ _ _ ca da e fa hp
theorem zvU{w:Wk}{number:Oc->Option (Int)}{ca100 ca102 ca103 ca112 ca121 ca122 ca123 ca200:C}{m f:M}{Q:V->M->Prop}{rz:Rg}(hS:Pre f m)(_ha100:Sl f ca100 w.p.Losses)(_ha102:Sl f ca102 w.p.Treaties)(ha103:Sl f ca103 w.p.Reports)(_ha112:zuc f ca112 w.kinds.k0.takes)(_ha121:zuc f ca121 w.kinds.k1.takes)(_ha122:zrD f ca122 w.shared)(ha123:MiS f ca123 w.played)(ha200:zvL f ca200 number)(hp:zty w number=some rz)(hq:∀m',Ext m m'->Q (.agg 2 [Il rz.Lo,Il rz.Hi]) m'):Wc prog tbl 46 [.agg 24 [ca100,Il w.p.Reserve,ca102,ca103,Il w.kinds.k0.part.Lo,Il w.kinds.k0.part.Hi,Il w.kinds.k0.above.Lo,Il w.kinds.k0.above.Hi,Il w.kinds.k0.most.Lo,Il w.kinds.k0.most.Hi,Il w.kinds.k0.times.Lo,Il w.kinds.k0.times.Hi,ca112,Il w.kinds.k1.part.Lo,Il w.kinds.k1.part.Hi,Il w.kinds.k1.above.Lo,Il w.kinds.k1.above.Hi,Il w.kinds.k1.most.Lo,Il w.kinds.k1.most.Hi,Il w.kinds.k1.times.Lo,Il w.kinds.k1.times.Hi,ca121,ca122,ca123],.c ca200] m Q:=by
 have S0:=hS.st;obtain⟨τ0,_⟩:=zr8;refine w46 ?_;unfold zty at hp;intro m0 Va;obtain⟨Wa,Xa,Xc,Ya⟩:=S0.blk Va τ0 1;intro m1 Za;obtain⟨ab,bb,cb,db⟩:=Xa.blk Za Wa 2;have qa:=Ya.k cb;refine⟨trivial,_,qa.bk.rc rfl,?_⟩;obtain⟨Rc,eb,Ja,Ka,La⟩:=MiS.rng zvN bb ha123 ab 3;have hp:=zrm hp Ja;refine⟨eb,Ka,?_⟩;intro m4 fb;obtain⟨gb,hb,sa,ib⟩:=La m4 fb;have D:=qa.k sa;have s:=db.k sa;intro R5 Kc
 have hgo:∀(t:Nat) (c6:C) (o:List Int) (F:List P5) (m7:M) (h:Nat->Nat),St (Fm.of m) f f m7->Lb (Fm.of m) f h m7 1 m.nxt 24 [ca100,Il w.p.Reserve,ca102,ca103,Il w.kinds.k0.part.Lo,Il w.kinds.k0.part.Hi,Il w.kinds.k0.above.Lo,Il w.kinds.k0.above.Hi,Il w.kinds.k0.most.Lo,Il w.kinds.k0.most.Hi,Il w.kinds.k0.times.Lo,Il w.kinds.k0.times.Hi,ca112,Il w.kinds.k1.part.Lo,Il w.kinds.k1.part.Hi,Il w.kinds.k1.above.Lo,Il w.kinds.k1.above.Hi,Il w.kinds.k1.most.Lo,Il w.kinds.k1.most.Hi,Il w.kinds.k1.times.Lo,Il w.kinds.k1.times.Hi,ca121,ca122,ca123]->Lb (Fm.of m) f h m7 2 m0.nxt 2 [Il 0,Il 0]->Ow (Fm.of m) f h m7 4 c6 o->IrS (Fm.of m) f h m7 3 m1.nxt ca123 w.played F->pboundsW_L0 w number t o F=some rz->R5 [.c c6] m7:=by
  intro t
  induction t with
  | zero=>intro c6 o F m7 h G D s d da hp; cases hp
  | succ t ta=>
   intro c6 o F m7 h G D s d da hp;refine Kc _ _ ?_;rw[pboundsW_L0] at hp;obtain⟨l8,Na,Oa,Pa⟩:=da.next G;refine⟨l8,Na,fun jb=>?_,fun fd hd Nc kb=>?_⟩
   ·have hp:=zrp (Oa jb) hp;obtain⟨bd,I,ua,va⟩:=d.freeze G;have mb:=s.k ua;have ob:=da.k ua G.sub I (by decide);obtain⟨pb,qb,hp⟩:=zqq hp;refine zup (l:=o) I.pre va qb fun id rb=>?_;obtain⟨J,wa⟩:=I.call rb h;have sb:=mb.k wa;have tb:=ob.k wa I.sub J (by decide);refine⟨_,rfl,?_⟩;obtain⟨ub,vb,hp⟩:=zqq hp;refine zuq (l:=o) J.pre va vb fun jd wb=>?_;obtain⟨ea,xa⟩:=J.call wb h;have xb:=sb.k xa;have yb:=tb.k xa J.sub ea (by decide);refine⟨_,rfl,?_⟩;obtain⟨zb,Ab,ya,Bb,Cb⟩:=xb.sto ea [Il pb,Il ub];have cd:=yb.k Bb ea.sub ya (by decide);refine⟨zb,Ab,?_⟩;refine⟨_,_,Cb.bk.ra,?_⟩;obtain rfl:=oi hp;exact hq _ ya.ext'
   obtain⟨Db,e,Eb,Fb,dd,Qa,Tc,Ra,za,N,Aa,fa,Ba⟩:=Pa _ _ _ kb;have hp:=zrq Qa hp;obtain⟨Ca,Sa,hp⟩:=zqq hp;obtain rfl:Ca=Fb:=oi (Sa.symm.trans Ra);generalize Db++Eb=Da at hp Ba;have Gb:=D.k fa;have Hb:=s.k fa;have d:=d.k fa;refine⟨_,_,_,_,_,_,za,?_⟩;intro kd Ib;obtain⟨ga,ha,O,Jb⟩:=Aa.blk Ib h 5;have Kb:=Gb.k O;have Mb:=Hb.k O;have d:=d.k O;have Nb:=Ba.k O Aa.sub ha (by decide);obtain⟨Ob,Pb,P,S,Ea⟩:=Jb.sto ha [Il e.p0,Il e.p1,Il e.p2,Il e.p3,Il e.p4];have Fa:=Kb.k S;have Qb:=Mb.k S;have d:=d.k S;have Rb:=Nb.k S ha.sub P (by decide);refine⟨Ob,Pb,?_⟩;refine⟨_,_,_,_,_,Ea.bk.ra,trivial,trivial,_,Fa.bk.rc rfl,?_⟩;obtain⟨ed,Sb,hp⟩:=zqq hp;refine zu4 (p:=e) (reports:=w.p.Reports) P.pre ha103 Sb fun ld Tb=>?_;obtain⟨ia,u⟩:=P.call Tb ga;have q:=Fa.k u;have r:=Qb.k u;have T:=Ea.k u;have d:=d.k u;have Ga:=Rb.k u P.sub ia (by decide);refine⟨_,rfl,?_⟩;refine zq1 hp (fun Ub hp=>?_) fun Ub hp=>?_
   ·exact ta _ _ _ _ ga ia q r d Ga hp
   refine⟨N.isSl,?_⟩;intro Pc Vb
   have hgo:∀(Y:Nat) (na:C) (oa:Int) (Z:List Int) (n:M) (i:Nat->Nat),St (Fm.of m) f f n->Lb (Fm.of m) f i n 1 m.nxt 24 [ca100,Il w.p.Reserve,ca102,ca103,Il w.kinds.k0.part.Lo,Il w.kinds.k0.part.Hi,Il w.kinds.k0.above.Lo,Il w.kinds.k0.above.Hi,Il w.kinds.k0.most.Lo,Il w.kinds.k0.most.Hi,Il w.kinds.k0.times.Lo,Il w.kinds.k0.times.Hi,ca112,Il w.kinds.k1.part.Lo,Il w.kinds.k1.part.Hi,Il w.kinds.k1.above.Lo,Il w.kinds.k1.above.Hi,Il w.kinds.k1.most.Lo,Il w.kinds.k1.most.Hi,Il w.kinds.k1.times.Lo,Il w.kinds.k1.times.Hi,ca121,ca122,ca123]->Lb (Fm.of m) f i n 2 m0.nxt 2 [Il 0,Il 0]->Lb (Fm.of m) f i n 5 Nc.nxt 5 [Il e.p0,Il e.p1,Il e.p2,Il e.p3,Il e.p4]->Ow (Fm.of m) f i n 4 na Z->IrS (Fm.of m) f i n 3 m1.nxt ca123 w.played Da->ztx number Ca Da (pboundsW_L0 w number t) Y Z oa=some rz->Pc [.c na,.c (Il oa)] n:=by
    intro Y
    induction Y with
    | zero=>intro na oa Z n i y q r T j ja hp; cases hp
    | succ Y Ta=>
     intro na oa Z n i y q r T j ja hp;refine Vb _ _ _ ?_;rw[ztx] at hp
     try rw[N.slLen]
     refine ifd hp (fun Wb hp=>?_) fun Wb hp=>?_; rotate_left
     ·exact ta _ _ _ _ i y q r j ja hp
     obtain⟨g,ka,hp⟩:=zqq hp;obtain⟨Qc,Ua,pa,ka⟩:=zqk ka;obtain⟨_,Xb⟩:=zsd N ka;refine⟨Qc,Ua,(by first|exact pa|(rw[N.slLen];exact pa)),_,_,_,_,_,_,_,_,_,_,_,(Xb _ y.sub).1,?_⟩;intro md Yb;obtain⟨Zb,la,z,ac⟩:=y.blk Yb i 6;have bc:=q.k z;have cc:=r.k z;have dc:=T.k z;have j:=j.k z;have ec:=ja.k z y.sub la (by decide);obtain⟨fc,gc,aa,A,hc⟩:=ac.sto la [Il g.pays.p0,Il g.pays.p1,Il g.pays.p2,Il g.pays.p3,Il g.pays.p4,Il g.keeps.p0,Il g.keeps.p1,Il g.keeps.p2,Il g.keeps.p3,Il g.keeps.p4,Il g.society];have ic:=bc.k A;have jc:=cc.k A;have kc:=dc.k A;have j:=j.k A;have nc:=ec.k A la.sub aa (by decide);refine⟨fc,gc,?_⟩;refine⟨_,_,_,_,_,_,_,_,_,_,_,hc.bk.ra,?_⟩;obtain⟨Ha,pc,hp⟩:=zqq hp;refine ha200 _ _ _ _ _ (Sub.refl _) aa.pre  pc fun nd qc=>?_;obtain⟨ma,B⟩:=aa.call qc Zb;have sc:=ic.k B;have tc:=jc.k B;have uc:=kc.k B;have j:=j.k B;have vc:=nc.k B aa.sub ma (by decide);refine⟨_,rfl,?_⟩;obtain⟨wc,hp⟩:=zqr hp;intro od xc;obtain⟨yc,zc,Ac,Bc,Ia,ba,Cc⟩:=j.app' zui ma (a:=Ha) (show Rp.rep (α:=Int) f _ Ha from rfl) wc xc;have Dc:=sc.k ba;have Ec:=tc.k ba;have Fc:=uc.k ba;have Gc:=vc.k ba ma.sub Ia (by decide);refine⟨yc,zc,Bc,?_⟩;refine gdi hp fun Hc hp=>?_;exact Ta _ _ _ _ Ac Ia Dc Ec Fc Cc Gc hp
   exact hgo _ _ _ _ _ ga ia q r T d Ga hp
 exact hgo _ _ _ _ _ gb hb D s (Ow.nil _ _ _ _ _) ib hp
theorem zvV{p:Pg}{ca100 ca102 ca103:C}{m f:M}{Q:V->M->Prop}{rz:Wk × Int}(hS:Pre f m)(ha100:Sl f ca100 p.Losses)(ha102:Sl f ca102 p.Treaties)(ha103:Sl f ca103 p.Reports)(hp:ztz p=some rz)(hq:∀m' f' c0 c2 c3 c12 c21 c22 c23,Grw m f m' f'->Sl f' c0 rz.1.p.Losses->Sl f' c2 rz.1.p.Treaties->Sl f' c3 rz.1.p.Reports->zuc f' c12 rz.1.kinds.k0.takes->zuc f' c21 rz.1.kinds.k1.takes->zrD f' c22 rz.1.shared->MiS f' c23 rz.1.played->Q (.tup [.agg 24 [c0,Il rz.1.p.Reserve,c2,c3,Il rz.1.kinds.k0.part.Lo,Il rz.1.kinds.k0.part.Hi,Il rz.1.kinds.k0.above.Lo,Il rz.1.kinds.k0.above.Hi,Il rz.1.kinds.k0.most.Lo,Il rz.1.kinds.k0.most.Hi,Il rz.1.kinds.k0.times.Lo,Il rz.1.kinds.k0.times.Hi,c12,Il rz.1.kinds.k1.part.Lo,Il rz.1.kinds.k1.part.Hi,Il rz.1.kinds.k1.above.Lo,Il rz.1.kinds.k1.above.Hi,Il rz.1.kinds.k1.most.Lo,Il rz.1.kinds.k1.most.Hi,Il rz.1.kinds.k1.times.Lo,Il rz.1.kinds.k1.times.Hi,c21,c22,c23],.c (Il rz.2)]) m'):Wc prog tbl 45 [.agg 4 [ca100,Il p.Reserve,ca102,ca103]] m Q:=by
 have S0:=hS.st;obtain⟨τ0,_⟩:=zr8;refine w45 ?_;unfold ztz at hp;intro m0 ga;obtain⟨ha,ia,db,ja⟩:=S0.blk ga τ0 1;intro m1 ka;obtain⟨h,D,la,ma⟩:=ia.blk ka ha 2;have F:=ja.k la;refine⟨_,_,_,_,F.bk.ra,?_⟩;obtain⟨eb,na,hp⟩:=zqq hp;refine zuV (p:=p) D.pre ha100 ha102 ha103 na fun m7 oa=>?_;obtain⟨i,G⟩:=D.call oa h;have pa:=F.k G;have I:=ma.k G;refine⟨_,rfl,?_⟩;refine zqZ hp (fun qa hp=>?_) fun qa hp=>?_
 ·obtain⟨sa,ta,ua,fb,va⟩:=I.sto i [.sl0,Il 0,.sl0,.sl0,Il 0,Il 0,Il 0,Il 0,Il 0,Il 0,Il 0,Il 0,C.nilFn,Il 0,Il 0,Il 0,Il 0,Il 0,Il 0,Il 0,Il 0,C.nilFn,C.map0,C.map0];refine⟨sa,ta,?_⟩;refine⟨_,_,_,_,_,_,_,_,_,_,_,_,_,_,_,_,_,_,_,_,_,_,_,_,va.bk.ra,?_⟩
  have Xa:zuc f .nilFn (fun _ _ _=>none):=by refine⟨rfl,?_⟩; intro j l _ _ _ n o _ _ d; exact absurd d (by intro e; cases e)
  have Ya:zuc f .nilFn (fun _ _ _=>none):=by refine⟨rfl,?_⟩; intro j l _ _ _ n o _ _ d; exact absurd d (by intro e; cases e)
  have ca:zuc f .nilFn (fun _ _ _=>none):=by refine⟨rfl,?_⟩; intro j l _ _ _ n o _ _ d; exact absurd d (by intro e; cases e)
  have da:zuc f .nilFn (fun _ _ _=>none):=by refine⟨rfl,?_⟩; intro j l _ _ _ n o _ _ d; exact absurd d (by intro e; cases e)
  obtain rfl:=oi hp;exact hq _ f .sl0 .sl0 .sl0 C.nilFn C.nilFn C.map0 C.map0 ua.grw (Sl.nil _) (Sl.nil _) (Sl.nil _) ca da (show zrD _ _ _ from rfl) (MiS.nil0 _)
 refine⟨_,_,_,_,pa.bk.ra,?_⟩;obtain⟨a,wa,hp⟩:=zqq hp;refine zvS (p:=p) i.pre ha100 ha102 ha103 wa fun jb g q r s t u y z xa J N A O P S T=>?_;obtain⟨ya,za⟩:=i.callG xa h;have Aa:=I.k za;refine⟨_,_,_,_,_,_,_,_,_,_,_,_,_,_,_,_,_,_,_,_,_,_,_,_,rfl,?_⟩;intro kb Ba;obtain⟨Ca,Da,Ea,Fa⟩:=ya.blk Ba h 3;have Ga:=Aa.k Ea;obtain⟨Ha,Ia,Y,Ja,B⟩:=Fa.sto Da [q,Il a.p.Reserve,r,s,Il a.kinds.k0.part.Lo,Il a.kinds.k0.part.Hi,Il a.kinds.k0.above.Lo,Il a.kinds.k0.above.Hi,Il a.kinds.k0.most.Lo,Il a.kinds.k0.most.Hi,Il a.kinds.k0.times.Lo,Il a.kinds.k0.times.Hi,t,Il a.kinds.k1.part.Lo,Il a.kinds.k1.part.Hi,Il a.kinds.k1.above.Lo,Il a.kinds.k1.above.Hi,Il a.kinds.k1.most.Lo,Il a.kinds.k1.most.Hi,Il a.kinds.k1.times.Lo,Il a.kinds.k1.times.Hi,u,y,z];have Ka:=Ga.k Ja;refine⟨Ha,Ia,?_⟩;refine⟨_,_,_,_,_,_,_,_,_,_,_,_,_,_,_,_,_,_,_,_,_,_,_,_,B.bk.ra,trivial,trivial,_,B.bk.rc rfl,?_⟩;obtain⟨gb,La,hp⟩:=zqq hp;refine zvT (w:=({ p:=a.p,kinds:=a.kinds,shared:=(),played:=a.played }:Wk)) (reports:=a.p.Reports) Y.pre J N A O P (show zrD _ _ _ from S.noFn) T A La fun mb Ma=>?_;obtain⟨Z,aa⟩:=Y.call Ma Ca;have ba:=Ka.k aa;have Na:=B.k aa;refine⟨_,rfl,?_⟩;refine zq1 hp (fun Oa hp=>?_) fun Oa hp=>?_; rotate_left
 ·refine⟨_,_,_,_,_,_,_,_,_,_,_,_,_,_,_,_,_,_,_,_,_,_,_,_,Na.bk.ra,?_⟩;obtain⟨Pa,Qa,Ra,hb,Sa⟩:=ba.sto Z [q,Il a.p.Reserve,r,s,Il a.kinds.k0.part.Lo,Il a.kinds.k0.part.Hi,Il a.kinds.k0.above.Lo,Il a.kinds.k0.above.Hi,Il a.kinds.k0.most.Lo,Il a.kinds.k0.most.Hi,Il a.kinds.k0.times.Lo,Il a.kinds.k0.times.Hi,t,Il a.kinds.k1.part.Lo,Il a.kinds.k1.part.Hi,Il a.kinds.k1.above.Lo,Il a.kinds.k1.above.Hi,Il a.kinds.k1.most.Lo,Il a.kinds.k1.most.Hi,Il a.kinds.k1.times.Lo,Il a.kinds.k1.times.Hi,u,y,z];refine⟨Pa,Qa,?_⟩;refine⟨_,_,_,_,_,_,_,_,_,_,_,_,_,_,_,_,_,_,_,_,_,_,_,_,Sa.bk.ra,?_⟩;obtain rfl:=oi hp;exact hq _ g q r s t u y z Ra.grw J N A O P (show zrD _ _ _ from S.noFn) T
 obtain⟨Ta,Ua,Va,ib,Wa⟩:=ba.sto Z [.sl0,Il 0,.sl0,.sl0,Il 0,Il 0,Il 0,Il 0,Il 0,Il 0,Il 0,Il 0,C.nilFn,Il 0,Il 0,Il 0,Il 0,Il 0,Il 0,Il 0,Il 0,C.nilFn,C.map0,C.map0];refine⟨Ta,Ua,?_⟩;refine⟨_,_,_,_,_,_,_,_,_,_,_,_,_,_,_,_,_,_,_,_,_,_,_,_,Wa.bk.ra,?_⟩
 have Za:zuc g .nilFn (fun _ _ _=>none):=by refine⟨rfl,?_⟩; intro j l _ _ _ n o _ _ d; exact absurd d (by intro e; cases e)
 have ab:zuc g .nilFn (fun _ _ _=>none):=by refine⟨rfl,?_⟩; intro j l _ _ _ n o _ _ d; exact absurd d (by intro e; cases e)
 have ea:zuc g .nilFn (fun _ _ _=>none):=by refine⟨rfl,?_⟩; intro j l _ _ _ n o _ _ d; exact absurd d (by intro e; cases e)
 have fa:zuc g .nilFn (fun _ _ _=>none):=by refine⟨rfl,?_⟩; intro j l _ _ _ n o _ _ d; exact absurd d (by intro e; cases e)
 obtain rfl:=oi hp;exact hq _ g .sl0 .sl0 .sl0 C.nilFn C.nilFn C.map0 C.map0 Va.grw (Sl.nil _) (Sl.nil _) (Sl.nil _) ea fa (show zrD _ _ _ from rfl) (MiS.nil0 _)
theorem zvW{o:Oc}{treaty:Int}{b0:Nat}{m f:M}{Q:V->M->Prop}{rz:Int}(hS:Pre f m)(hb0:Bk f b0 1 [Il treaty])(hp:ztA o treaty=some rz)(hq:∀m',Ext m m'->Q (.c (Il rz)) m'):Wc prog tbl 47 [.agg 11 [Il o.pays.p0,Il o.pays.p1,Il o.pays.p2,Il o.pays.p3,Il o.pays.p4,Il o.keeps.p0,Il o.keeps.p1,Il o.keeps.p2,Il o.keeps.p3,Il o.keeps.p4,Il o.society],.c (.ptr b0 0)] m Q:=by
 have j:=hS.st;obtain⟨n,_⟩:=zr8;refine c47 ?_;unfold ztA at hp;intro t h;obtain⟨p,d,q,i⟩:=j.blk h n 1;refine⟨_,(hb0.sub d.sub).rc rfl,trivial,trivial,?_⟩;obtain⟨r,a,hp⟩:=zqq hp;obtain⟨s,e,g,a⟩:=zqk a;refine⟨s,e,g,_,(i.bk.rc (zqV (l:=([o.pays.p0,o.pays.p1,o.pays.p2,o.pays.p3,o.pays.p4]:List Int)) (enc:=(C.int .i64)) 0 rfl a)),?_⟩;obtain rfl:=oi hp;exact hq _ d.ext'
theorem zvX{o:Oc}{treaty:Int}{b0:Nat}{m f:M}{Q:V->M->Prop}{rz:Int}(hS:Pre f m)(hb0:Bk f b0 1 [Il treaty])(hp:ztB o treaty=some rz)(hq:∀m',Ext m m'->Q (.c (Il rz)) m'):Wc prog tbl 48 [.agg 11 [Il o.pays.p0,Il o.pays.p1,Il o.pays.p2,Il o.pays.p3,Il o.pays.p4,Il o.keeps.p0,Il o.keeps.p1,Il o.keeps.p2,Il o.keeps.p3,Il o.keeps.p4,Il o.society],.c (.ptr b0 0)] m Q:=by
 have j:=hS.st;obtain⟨n,_⟩:=zr8;refine c48 ?_;unfold ztB at hp;intro t h;obtain⟨p,d,q,i⟩:=j.blk h n 1;refine⟨_,(hb0.sub d.sub).rc rfl,trivial,trivial,?_⟩;obtain⟨r,a,hp⟩:=zqq hp;obtain⟨s,e,g,a⟩:=zqk a;refine⟨s,e,g,_,(i.bk.rc (zqV (l:=([o.keeps.p0,o.keeps.p1,o.keeps.p2,o.keeps.p3,o.keeps.p4]:List Int)) (enc:=(C.int .i64)) 5 rfl a)),?_⟩;obtain rfl:=oi hp;exact hq _ d.ext'
theorem zvY{p:Pg}{ca100 ca102 ca103:C}{m f:M}{Q:V->M->Prop}{rz:List Bd × Int}(hS:Pre f m)(ha100:Sl f ca100 p.Losses)(ha102:Sl f ca102 p.Treaties)(ha103:Sl f ca103 p.Reports)(hp:ztD p=some rz)(hq:∀m' f' c0,Grw m f m' f'->Sl f' c0 rz.1->Q (.tup [.c c0,.c (Il rz.2)]) m'):Wc prog tbl 17 [.agg 4 [ca100,Il p.Reserve,ca102,ca103]] m Q:=by
 have S0:=hS.st;obtain⟨τ0,_⟩:=zr8;refine w17 ?_;unfold ztD at hp;intro m0 ya;obtain⟨ba,ca,Bb,da⟩:=S0.blk ya τ0 1;refine⟨_,_,_,_,da.bk.ra,?_⟩;obtain⟨d,za,hp⟩:=zqq hp;refine zvV (p:=p) ca.pre ha100 ha102 ha103 za fun m6 A ea fa ga ha ia ja ka Aa B D F G I J N=>?_;obtain⟨Ba,Ca⟩:=ca.callG Aa ba;have Da:=da.k Ca;refine⟨_,_,_,_,_,_,_,_,_,_,_,_,_,_,_,_,_,_,_,_,_,_,_,_,_,rfl,?_⟩;intro Gb Ea;obtain⟨Fa,Ga,Ha,Ia⟩:=Ba.blk Ea ba 2;have Ja:=Da.k Ha;obtain⟨Ka,La,la,Ma,q⟩:=Ia.sto Ga [ea,Il d.1.p.Reserve,fa,ga,Il d.1.kinds.k0.part.Lo,Il d.1.kinds.k0.part.Hi,Il d.1.kinds.k0.above.Lo,Il d.1.kinds.k0.above.Hi,Il d.1.kinds.k0.most.Lo,Il d.1.kinds.k0.most.Hi,Il d.1.kinds.k0.times.Lo,Il d.1.kinds.k0.times.Hi,ha,Il d.1.kinds.k1.part.Lo,Il d.1.kinds.k1.part.Hi,Il d.1.kinds.k1.above.Lo,Il d.1.kinds.k1.above.Hi,Il d.1.kinds.k1.most.Lo,Il d.1.kinds.k1.most.Hi,Il d.1.kinds.k1.times.Lo,Il d.1.kinds.k1.times.Hi,ia,ja,ka];have l:=Ja.k Ma;refine⟨Ka,La,?_⟩;refine zqZ hp (fun Na hp=>?_) fun Na hp=>?_
 ·obtain rfl:=oi hp;exact hq _ A .sl0 la.grw (Sl.nil _)
 refine⟨trivial,_,l.bk.rc rfl,ha102.isSl,?_⟩;intro Ab zb
 have hgo:∀(s:Nat) (Z:C) (n:Int) (t:List Bd) (o:M) (i:M) (j:Nat->Nat),St (Fm.of m) f i o->Sub A i->Lb (Fm.of m) i j o 1 m.nxt 4 [ca100,Il p.Reserve,ca102,ca103]->Lb (Fm.of m) i j o 2 m6.nxt 24 [ea,Il d.1.p.Reserve,fa,ga,Il d.1.kinds.k0.part.Lo,Il d.1.kinds.k0.part.Hi,Il d.1.kinds.k0.above.Lo,Il d.1.kinds.k0.above.Hi,Il d.1.kinds.k0.most.Lo,Il d.1.kinds.k0.most.Hi,Il d.1.kinds.k0.times.Lo,Il d.1.kinds.k0.times.Hi,ha,Il d.1.kinds.k1.part.Lo,Il d.1.kinds.k1.part.Hi,Il d.1.kinds.k1.above.Lo,Il d.1.kinds.k1.above.Hi,Il d.1.kinds.k1.most.Lo,Il d.1.kinds.k1.most.Hi,Il d.1.kinds.k1.times.Lo,Il d.1.kinds.k1.times.Hi,ia,ja,ka]->Ow (Fm.of m) i j o 3 Z t->ztC p d s t n=some rz->Ab [.c Z,.c (Il n)] o:=by
  intro s
  induction s with
  | zero=>intro Z n t o i j O e l q h hp; cases hp
  | succ s Oa=>
   intro Z n t o i j O e l q h hp;refine zb _ _ _ ?_;rw[ztC] at hp
   try rw[ha102.slLen]
   refine ifd hp (fun Pa hp=>?_) fun Pa hp=>?_; rotate_left
   ·obtain⟨Qa,Ra,Cb,Sa⟩:=h.freeze O;obtain rfl:=oi hp;exact hq _ Qa Z Ra.grw Sa
   intro Hb Ta;obtain⟨ma,Ua,P,Va⟩:=O.blk Ta j 4;have Wa:=l.k P;have Xa:=q.k P;have h:=h.k P;obtain⟨Ya,Za,ab,S,bb⟩:=Va.sto Ua [Il n];have cb:=Wa.k S;have na:=Xa.k S;have h:=h.k S;refine⟨Ya,Za,?_⟩;refine⟨_,_,_,_,_,_,_,_,_,_,_,_,_,_,_,_,_,_,_,_,_,_,_,_,na.bk.ra,?_⟩;obtain⟨u,oa,g,aa⟩:=bb.freeze ab;have db:=cb.k g;have pa:=na.k g;have h:=h.k g
   have wa:zvL u ((C.fn (Fn.func 47) [] [(W.c (C0.ptr o.nxt 0))])) (fun y=>ztA y n):=by
    intro f' m' y r Q hs hpre  hg hq;exact zvW hpre (aa.sub hs) hg hq
   obtain⟨qa,eb,hp⟩:=zqq hp;refine zvU (w:=({ p:=d.1.p,kinds:=d.1.kinds,shared:=(),played:=d.1.played }:Wk)) (number:=(fun y=>ztA y n)) oa.pre (B.sub (Sub.trans e g.fs)) (D.sub (Sub.trans e g.fs)) (F.sub (Sub.trans e g.fs)) (G.sub (Sub.trans e g.fs)) (I.sub (Sub.trans e g.fs)) (show zrD _ _ _ from J.noFn) (N.sub (Sub.trans e g.fs)) wa eb fun Ib fb=>?_;obtain⟨sa,T⟩:=oa.call fb ma;have gb:=db.k T;have ta:=pa.k T;have h:=h.k T;refine⟨_,_,rfl,_,_,_,_,_,_,_,_,_,_,_,_,_,_,_,_,_,_,_,_,_,_,_,_,ta.bk.ra,(by rw[show zaL cmC _=true from (zrK (zoW B.noFn) (zrK (zoW rfl) (zrK (zoW D.noFn) (zrK (zoW F.noFn) (zrK (zoW rfl) (zrK (zoW rfl) (zrK (zoW rfl) (zrK (zoW rfl) (zrK (zoW rfl) (zrK (zoW rfl) (zrK (zoW rfl) (zrK (zoW rfl) (zrK (zrI G.1) (zrK (zoW rfl) (zrK (zoW rfl) (zrK (zoW rfl) (zrK (zoW rfl) (zrK (zoW rfl) (zrK (zoW rfl) (zrK (zoW rfl) (zrK (zoW rfl) (zrK (zrI I.1) (zrK (zoW J.noFn) (zrK (zoW N.noFn) zrJ))))))))))))))))))))))))]; exact(pa.bk.ra)),?_⟩
   have xa:zvL u ((C.fn (Fn.func 48) [] [(W.c (C0.ptr o.nxt 0))])) (fun z=>ztB z n):=by
    intro f' m' z r Q hs hpre  hg hq;exact zvX hpre (aa.sub hs) hg hq
   obtain⟨ua,hb,hp⟩:=zqq hp;refine zvU (w:=({ p:=d.1.p,kinds:=d.1.kinds,shared:=(),played:=d.1.played }:Wk)) (number:=(fun z=>ztB z n)) sa.pre (B.sub (Sub.trans e g.fs)) (D.sub (Sub.trans e g.fs)) (F.sub (Sub.trans e g.fs)) (G.sub (Sub.trans e g.fs)) (I.sub (Sub.trans e g.fs)) (show zrD _ _ _ from J.noFn) (N.sub (Sub.trans e g.fs)) xa hb fun Jb ib=>?_;obtain⟨jb,Y⟩:=sa.call ib ma;have kb:=gb.k Y;have mb:=ta.k Y;have h:=h.k Y;refine⟨_,_,rfl,?_⟩;obtain⟨ob,hp⟩:=zqr hp;intro Kb pb;obtain⟨qb,rb,sb,tb,ub,va,vb⟩:=h.app' zvO jb (a:=({ Pays:=qa,Keeps:=ua }:Bd)) (show Rp.rep (α:=Bd) u _ ({ Pays:=qa,Keeps:=ua }:Bd) from rfl) ob pb;have wb:=kb.k va;have xb:=mb.k va;refine⟨qb,rb,tb,?_⟩;refine gdi hp fun yb hp=>?_;exact Oa _ _ _ _ u sb ub (Sub.trans e g.fs) wb xb vb hp
 exact hgo _ _ _ _ _ A Fa la (Sub.refl _) l q (Ow.nil _ _ _ _ _) hp
theorem zvZ{p:Pg}{ca100 ca102 ca103:C}{m f:M}{Q:V->M->Prop}{rz:Rg × Int}(hS:Pre f m)(ha100:Sl f ca100 p.Losses)(ha102:Sl f ca102 p.Treaties)(ha103:Sl f ca103 p.Reports)(hp:ztE p=some rz)(hq:∀m',Ext m m'->Q (.tup [.agg 2 [Il rz.1.Lo,Il rz.1.Hi],.c (Il rz.2)]) m'):Wc prog tbl 28 [.agg 4 [ca100,Il p.Reserve,ca102,ca103]] m Q:=by
 have S0:=hS.st;obtain⟨τ0,_⟩:=zr8;refine w28 ?_;unfold ztE at hp;intro m0 n;obtain⟨o,q,Fa,s⟩:=S0.blk n τ0 1;intro m1 t;obtain⟨g,h,u,y⟩:=q.blk t o 2;have z:=s.k u;refine⟨_,_,_,_,z.bk.ra,?_⟩;obtain⟨a,A,hp⟩:=zqq hp;refine zvV (p:=p) h.pre ha100 ha102 ha103 A fun m7 B D F G I J N O P S T Y Z aa ba ca=>?_;obtain⟨da,ea⟩:=h.callG P g;have fa:=y.k ea;refine⟨_,_,_,_,_,_,_,_,_,_,_,_,_,_,_,_,_,_,_,_,_,_,_,_,_,rfl,?_⟩;intro Ka ga;obtain⟨ha,ia,ja,ka⟩:=da.blk ga g 3;have la:=fa.k ja;obtain⟨ma,na,e,oa,pa⟩:=ka.sto ia [D,Il a.1.p.Reserve,F,G,Il a.1.kinds.k0.part.Lo,Il a.1.kinds.k0.part.Hi,Il a.1.kinds.k0.above.Lo,Il a.1.kinds.k0.above.Hi,Il a.1.kinds.k0.most.Lo,Il a.1.kinds.k0.most.Hi,Il a.1.kinds.k0.times.Lo,Il a.1.kinds.k0.times.Hi,I,Il a.1.kinds.k1.part.Lo,Il a.1.kinds.k1.part.Hi,Il a.1.kinds.k1.above.Lo,Il a.1.kinds.k1.above.Hi,Il a.1.kinds.k1.most.Lo,Il a.1.kinds.k1.most.Hi,Il a.1.kinds.k1.times.Lo,Il a.1.kinds.k1.times.Hi,J,N,O];have i:=la.k oa;refine⟨ma,na,?_⟩;refine zqZ hp (fun qa hp=>?_) fun qa hp=>?_
 ·obtain⟨sa,ta,ua,Ga,va⟩:=i.sto e [Il 0,Il 0];refine⟨sa,ta,?_⟩;refine⟨_,_,va.bk.ra,?_⟩;obtain rfl:=oi hp;exact hq _ ua.ext'
 refine⟨_,_,_,_,_,_,_,_,_,_,_,_,_,_,_,_,_,_,_,_,_,_,_,_,pa.bk.ra,?_⟩
 have l:zvL B ((C.fn (Fn.func 60) [] [])) (fun d=>ztd d):=by
  intro f' m' d r Q hs hpre  hg hq;exact zu2 hpre  hg hq
 obtain⟨j,wa,hp⟩:=zqq hp;refine zvU (w:=({ p:=a.1.p,kinds:=a.1.kinds,shared:=(),played:=a.1.played }:Wk)) (number:=(fun d=>ztd d)) e.pre S T Y Z aa (show zrD _ _ _ from ba.noFn) ca l wa fun La xa=>?_;obtain⟨ya,za⟩:=e.call xa ha;have Aa:=i.k za;refine⟨_,_,rfl,?_⟩;obtain⟨Ba,Ca,Da,Ha,Ea⟩:=Aa.sto ya [Il j.Lo,Il j.Hi];refine⟨Ba,Ca,?_⟩;refine⟨_,_,Ea.bk.ra,?_⟩;obtain rfl:=oi hp;exact hq _ Da.ext'
theorem zv0{p:Pg}{set:List Int}{ca100 ca102 ca103 ca200:C}{m f:M}{Q:V->M->Prop}{rz:Rg}(hS:Pre f m)(ha100:Sl f ca100 p.Losses)(ha102:Sl f ca102 p.Treaties)(ha103:Sl f ca103 p.Reports)(ha200:Sl f ca200 set)(hp:ztF p set=some rz)(hq:∀m',Ext m m'->Q (.agg 2 [Il rz.Lo,Il rz.Hi]) m'):Wc prog tbl 36 [.agg 4 [ca100,Il p.Reserve,ca102,ca103],.c ca200] m Q:=by
 have S0:=hS.st;obtain⟨τ0,_⟩:=zr8;refine w36 ?_;unfold ztF at hp;intro m0 n;obtain⟨o,q,pa,s⟩:=S0.blk n τ0 1;intro m1 t;obtain⟨d,g,u,y⟩:=q.blk t o 2;have z:=s.k u;refine⟨_,_,_,_,z.bk.ra,?_⟩;obtain⟨A,B,hp⟩:=zqq hp;refine zu0 (p:=p) (set:=set) g.pre ha100 ha102 ha103 ha200 B fun m7 qa sa ta ua D F G I=>?_;obtain⟨h,J⟩:=g.callG D d;have N:=y.k J;refine⟨_,_,_,_,rfl,?_⟩;obtain⟨e,O,hp⟩:=zqq hp;refine zvS (p:=A) h.pre F G I O fun Fa P va wa xa ya za Aa Ba S T Y Z aa ba ca da=>?_;obtain⟨i,ea⟩:=h.callG S d;have fa:=N.k ea;refine⟨_,_,_,_,_,_,_,_,_,_,_,_,_,_,_,_,_,_,_,_,_,_,_,_,rfl,?_⟩
 have l:zvL P ((C.fn (Fn.func 60) [] [])) (fun a=>ztd a):=by
  intro f' m' a r Q hs hpre  hg hq;exact zu2 hpre  hg hq
 obtain⟨j,ga,hp⟩:=zqq hp;refine zvU (w:=({ p:=e.p,kinds:=e.kinds,shared:=(),played:=e.played }:Wk)) (number:=(fun a=>ztd a)) i.pre T Y Z aa ba (show zrD _ _ _ from ca.noFn) da l ga fun Ga ha=>?_;obtain⟨ia,ja⟩:=i.call ha d;have ka:=fa.k ja;refine⟨_,_,rfl,?_⟩;obtain⟨la,ma,na,Ca,oa⟩:=ka.sto ia [Il j.Lo,Il j.Hi];refine⟨la,ma,?_⟩;refine⟨_,_,oa.bk.ra,?_⟩;obtain rfl:=oi hp;exact hq _ na.ext'
theorem zv1{p:Pg}{set:List Int}{ca100 ca102 ca103 ca200:C}{m f:M}{Q:V->M->Prop}{rz:Bool}(hS:Pre f m)(ha100:Sl f ca100 p.Losses)(ha102:Sl f ca102 p.Treaties)(ha103:Sl f ca103 p.Reports)(ha200:Sl f ca200 set)(hp:ztG p set=some rz)(hq:∀m',Ext m m'->Q (.c (.bool rz)) m'):Wc prog tbl 44 [.agg 4 [ca100,Il p.Reserve,ca102,ca103],.c ca200] m Q:=by
 have r:=hS.st;obtain⟨s,_⟩:=zr8;refine w44 ?_;unfold ztG at hp;intro t e;obtain⟨g,d,o,a⟩:=r.blk e s 1;refine⟨_,_,_,_,a.bk.ra,?_⟩;obtain⟨q,h,hp⟩:=zqq hp;refine zv0 (p:=p) (set:=set) d.pre ha100 ha102 ha103 ha200 h fun u i=>?_;obtain⟨j,l⟩:=d.call i g;have n:=a.k l;refine⟨_,_,rfl,trivial,_,n.bk.rc rfl,(a.bk.rc rfl),?_⟩;obtain rfl:=oi hp;exact hq _ j.ext'
theorem zv2{p:Pg}{set:List Int}{ca100 ca102 ca103 ca200:C}{m f:M}{Q:V->M->Prop}{rz:Rg × Int}(hS:Pre f m)(ha100:Sl f ca100 p.Losses)(ha102:Sl f ca102 p.Treaties)(ha103:Sl f ca103 p.Reports)(ha200:Sl f ca200 set)(hp:ztH p set=some rz)(hq:∀m',Ext m m'->Q (.tup [.agg 2 [Il rz.1.Lo,Il rz.1.Hi],.c (Il rz.2)]) m'):Wc prog tbl 10 [.agg 4 [ca100,Il p.Reserve,ca102,ca103],.c ca200] m Q:=by
 have S0:=hS.st;obtain⟨τ0,_⟩:=zr8;refine w10 ?_;unfold ztH at hp;intro m0 s;obtain⟨t,u,la,w⟩:=S0.blk s τ0 1;intro m1 y;obtain⟨a,g,z,A⟩:=u.blk y t 2;have h:=w.k z;refine⟨_,_,_,_,h.bk.ra,?_⟩;obtain⟨ma,B,hp⟩:=zqq hp;refine zuV (p:=p) g.pre ha100 ha102 ha103 B fun m7 D=>?_;obtain⟨d,i⟩:=g.call D a;have j:=h.k i;have n:=A.k i;refine⟨_,rfl,?_⟩;refine zqZ hp (fun F hp=>?_) fun F hp=>?_
 ·obtain⟨G,I,J,na,N⟩:=n.sto d [Il 0,Il 0];refine⟨G,I,?_⟩;refine⟨_,_,N.bk.ra,?_⟩;obtain rfl:=oi hp;exact hq _ J.ext'
 refine⟨_,_,_,_,j.bk.ra,?_⟩;obtain⟨oa,O,hp⟩:=zqq hp;refine zuY (p:=p) (l:=set) d.pre ha100 ha102 ha103 ha200 O fun ua P=>?_;obtain⟨e,o⟩:=d.call P a;have S:=j.k o;have q:=n.k o;refine⟨_,rfl,?_⟩;refine zq1 hp (fun T hp=>?_) fun T hp=>?_
 ·obtain⟨Y,Z,aa,pa,ba⟩:=q.sto e [Il 0,Il 0];refine⟨Y,Z,?_⟩;refine⟨_,_,ba.bk.ra,?_⟩;obtain rfl:=oi hp;exact hq _ aa.ext'
 refine⟨_,_,_,_,S.bk.ra,?_⟩;obtain⟨r,ca,hp⟩:=zqq hp;refine zv0 (p:=p) (set:=set) e.pre ha100 ha102 ha103 ha200 ca fun va da=>?_;obtain⟨ea,fa⟩:=e.call da a;have ga:=q.k fa;refine⟨_,_,rfl,?_⟩;obtain⟨ha,ia,ja,qa,ka⟩:=ga.sto ea [Il r.Lo,Il r.Hi];refine⟨ha,ia,?_⟩;refine⟨_,_,ka.bk.ra,?_⟩;obtain rfl:=oi hp;exact hq _ ja.ext'
theorem zv3{p:Pg}{ca100 ca102 ca103:C}{m f:M}{Q:V->M->Prop}{rz:List Int × Bool}(hS:Pre f m)(ha100:Sl f ca100 p.Losses)(ha102:Sl f ca102 p.Treaties)(ha103:Sl f ca103 p.Reports)(hp:ztK p=some rz)(hq:∀m' f' c0,Grw m f m' f'->Sl f' c0 rz.1->Q (.tup [.c c0,.c (.bool rz.2)]) m'):Wc prog tbl 37 [.agg 4 [ca100,Il p.Reserve,ca102,ca103]] m Q:=by
 have S0:=hS.st;obtain⟨τ0,_⟩:=zr8;refine w37 ?_;unfold ztK at hp;intro m0 sb;obtain⟨tb,ub,Fd,vb⟩:=S0.blk sb τ0 1;intro m1 xb;obtain⟨yb,zb,Ab,Bb⟩:=ub.blk xb tb 2;have Cb:=vb.k Ab;intro m2 Db;obtain⟨Eb,Fb,Fa,G⟩:=zb.blk Db yb 3;have P:=Cb.k Fa;have I:=Bb.k Fa;refine⟨trivial,_,P.bk.rc rfl,ha102.isSl,?_⟩;obtain⟨Ga,hp⟩:=zqr hp;refine⟨(by first|exact Ga|(rw[ha102.slLen];exact Ga)),?_⟩;intro R4 zd
 have hgo:∀(y:Nat) (x5:Int) (z:C) (S:List Int) (J:Bool) (m6:M) (s:M) (t:Nat->Nat),St (Fm.of m) f s m6->Sub f s->Lb (Fm.of m) s t m6 1 m.nxt 4 [ca100,Il p.Reserve,ca102,ca103]->Lb (Fm.of m) s t m6 2 m0.nxt 1 [z]->Lb (Fm.of m) s t m6 3 m1.nxt 1 [.bool J]->Ow (Fm.of m) s t m6 4 z S->ztJ p y S J x5=some rz->R4 [.c (Il x5)] m6:=by
  intro y
  induction y with
  | zero=>intro x5 z S J m6 s t na d P I G o hp; cases hp
  | succ y yd=>
   intro x5 z S J m6 s t na d P I G o hp;refine zd _ _ ?_;rw[ztJ] at hp
   try rw[ha102.slLen]
   refine ifd hp (fun Gb hp=>?_) fun Gb hp=>?_; rotate_left
   ·refine⟨_,I.bk.rc rfl,_,G.bk.rc rfl,?_⟩;obtain⟨Hb,Ib,Jb,Ha,Kb⟩:=I.sto na [z];have Ia:=G.k Ha;have o:=o.k Ha;refine⟨Hb,Ib,?_⟩;refine⟨(Ia.bk.rc rfl),?_⟩;obtain⟨Mb,Nb,Ob,Ja,Pb⟩:=Ia.sto Jb [.bool J];have Qb:=Kb.k Ja;have o:=o.k Ja;refine⟨Mb,Nb,?_⟩;refine⟨_,Qb.bk.rc rfl,_,Pb.bk.rc rfl,?_⟩;obtain⟨Rb,Sb,Gd,Tb⟩:=o.freeze Ob;obtain rfl:=oi hp;exact hq _ Rb z Sb.grw Tb
   try rw[ha102.slLen]
   obtain⟨Hd,Ub,hp⟩:=zqq hp;refine zvK (n:=(p.Treaties.length:Int)) (size:=x5) na.pre  Ub fun m8 Id Jd Vb Wb=>?_;obtain⟨Xb,e⟩:=na.callG Vb t;have Ka:=P.k e;have La:=I.k e;have Ma:=G.k e;have o:=o.k e;refine⟨_,rfl,?_⟩;refine zru (α:=List Int) Xb Wb (σ:=(List Int) × C × Bool) 5 (fun st bb=>(False\/(False\/((zqU st.2.1 bb)\/False)))) (fun st gG gF gT gM=>(Lb gG gF gT gM 1 m.nxt 4 [ca100,Il p.Reserve,ca102,ca103])/\(Lb gG gF gT gM 2 m0.nxt 1 [st.2.1])/\(Ow gG gF gT gM 4 st.2.1 st.1)/\(Lb gG gF gT gM 3 m1.nxt 1 [.bool st.2.2])) (fun rr_ st=>ztI p x5 (ztJ p y) rr_ st.1 st.2.2=some rz) (fun ex st=>False) (fun st=>(Gux.and (Gux.lb Ka.bk.lt (by decide)) (Gux.and (Gux.lb La.bk.lt (by decide)) (Gux.and (Gux.ow (by decide)) (Gux.lb Ma.bk.lt (by decide)))))) (st0:=(S,z,J)) (τ:=t) ⟨Ka,La,o,Ma⟩ hp ?_ ?_ ?_ ?_
   ·intro A Yb st oa i Na pa Ld Ad Cd Dd _ _ Zb g hA fb hp hrep Ed gb u;obtain⟨Md,rfl,⟨N,_⟩⟩:=hrep;obtain⟨j,q,r⟩:=st;obtain⟨B,D,a,F⟩:=hA
    replace B:Lb pa oa i Na 1 m.nxt 4 [ca100,Il p.Reserve,ca102,ca103]:=B
    replace D:Lb pa oa i Na 2 m0.nxt 1 [q]:=D
    replace a:Ow pa oa i Na 4 q j:=a
    replace F:Lb pa oa i Na 3 m1.nxt 1 [.bool r]:=F
    replace hp:ztI p x5 (ztJ p y) (A::Yb) j r=some rz:=hp
    rw[ztI] at hp;refine⟨_,rfl,?_⟩;refine gb _ _ _ _ Zb fb fun fe Nd Oa qa hb w=>?_;have Pa:=B.k qa;have ac:=D.k qa;have bc:=F.k qa;have a:=a.k qa;refine⟨_,_,_,_,Pa.bk.ra,?_⟩;have Od:=a;obtain⟨Pd,cc,hp⟩:=zqq hp;refine zuY (p:=p) (l:=A) Oa.pre (ha100.sub (Sub.trans (Sub.trans d e.fs) g)) (ha102.sub (Sub.trans (Sub.trans d e.fs) g)) (ha103.sub (Sub.trans (Sub.trans d e.fs) g)) N cc fun ge dc=>?_;obtain⟨T,Y⟩:=Oa.call dc i;have O:=Pa.k Y;have sa:=ac.k Y;have ta:=bc.k Y;have a:=a.k Y;have ua:=hb.k Y;refine⟨_,rfl,?_⟩;refine zq1 hp (fun ec hp=>?_) fun ec hp=>?_
    ·exact u .nrm (j,q,r) _ _ _ _ T ⟨O,sa,a,ta⟩ ua w hp
    refine⟨_,ta.bk.rc rfl,?_⟩;refine zq0 hp (fun fc hp=>?_) fun fc hp=>?_; rotate_left
    ·refine⟨_,_,_,_,O.bk.ra,?_⟩;have Qd:=a;obtain⟨Rd,gc,hp⟩:=zqq hp;refine zv1 (p:=p) (set:=A) T.pre (ha100.sub (Sub.trans (Sub.trans d e.fs) g)) (ha102.sub (Sub.trans (Sub.trans d e.fs) g)) (ha103.sub (Sub.trans (Sub.trans d e.fs) g)) N gc fun he hc=>?_;obtain⟨va,Z⟩:=T.call hc i;have Qa:=O.k Z;have Ra:=sa.k Z;have Sa:=ta.k Z;have a:=a.k Z;have Ca:=ua.k Z;refine⟨_,rfl,?_⟩;refine zq0 hp (fun ic hp=>?_) fun ic hp=>?_; rotate_left
     ·exact u .nrm (j,q,r) _ _ _ _ va ⟨Qa,Ra,a,Sa⟩ Ca w hp
     obtain⟨jc,kc,hp⟩:=zqq hp;refine zvb (l:=A) va.pre N kc fun ie Sd Ta nc pc=>?_;obtain⟨Td,qc,aa,ba⟩:=va.callO nc pc i 4;have sc:=Qa.k aa;have tc:=Ra.k aa;have uc:=Sa.k aa;have a:=a.k aa;have ib:=Ca.k aa;refine⟨_,rfl,?_⟩;obtain⟨vc,wc,xc,ca,yc⟩:=tc.sto qc [Ta];have zc:=sc.k ca;have Ac:=uc.k ca;have a:=a.k ca;have ba:=ba.k ca;have jb:=ib.k ca;refine⟨vc,wc,?_⟩;obtain⟨Bc,Cc,Dc,da,Ec⟩:=Ac.sto xc [.bool true];have Fc:=zc.k da;have Gc:=yc.k da;have a:=a.k da;have ba:=ba.k da;have kb:=jb.k da;refine⟨Bc,Cc,?_⟩;exact u .nrm (jc,Ta,true) _ _ _ _ Dc ⟨Fc,Gc,ba,Ec⟩ kb w hp
    refine⟨_,_,_,_,O.bk.ra,?_⟩;have Ud:=a;obtain⟨Vd,Hc,hp⟩:=zqq hp;refine zuZ (p:=p) (set:=A) T.pre (ha100.sub (Sub.trans (Sub.trans d e.fs) g)) (ha102.sub (Sub.trans (Sub.trans d e.fs) g)) (ha103.sub (Sub.trans (Sub.trans d e.fs) g)) N Hc fun je Ic=>?_;obtain⟨Ua,ea⟩:=T.call Ic i;have Va:=O.k ea;have Wa:=sa.k ea;have Jc:=ta.k ea;have a:=a.k ea;have mb:=ua.k ea;refine⟨_,rfl,_,_,_,_,Va.bk.ra,(by rw[show zaL cmC _=true from zoX (zqu ha100.noFn (zqu rfl (zqu ha102.noFn (zqu ha103.noFn zqv))))]; exact(O.bk.ra)),_,Wa.bk.rc rfl,(by rw[show cmC _=true from zoW (a.noFn)]; exact(sa.bk.rc rfl)),?_⟩;have h:=a;obtain⟨Wd,Kc,wa,Nc⟩:=a.freeze Ua;obtain⟨Xd,Pc,hp⟩:=zqq hp;refine zuZ (p:=p) (set:=j) Kc.pre (ha100.sub (Sub.trans (Sub.trans (Sub.trans d e.fs) g) wa.fs)) (ha102.sub (Sub.trans (Sub.trans (Sub.trans d e.fs) g) wa.fs)) (ha103.sub (Sub.trans (Sub.trans (Sub.trans d e.fs) g) wa.fs)) Nc Pc fun ke Qc=>?_;obtain⟨xa,fa⟩:=Ua.call Qc i;have ya:=Va.k fa;have Xa:=Wa.k fa;have Ya:=Jc.k fa;have h:=h.k fa;have Da:=mb.k fa;refine⟨_,rfl,?_⟩;refine ifd hp (fun Rc hp=>?_) fun Rc hp=>?_
    ·exact u .nrm (j,q,r) _ _ _ _ xa ⟨ya,Xa,h,Ya⟩ Da w hp
    refine⟨_,_,_,_,ya.bk.ra,?_⟩;have Yd:=h;obtain⟨Zd,Tc,hp⟩:=zqq hp;refine zv1 (p:=p) (set:=A) xa.pre (ha100.sub (Sub.trans (Sub.trans d e.fs) g)) (ha102.sub (Sub.trans (Sub.trans d e.fs) g)) (ha103.sub (Sub.trans (Sub.trans d e.fs) g)) N Tc fun me Uc=>?_;obtain⟨za,ga⟩:=xa.call Uc i;have Za:=ya.k ga;have ab:=Xa.k ga;have cb:=Ya.k ga;have h:=h.k ga;have Ea:=Da.k ga;refine⟨_,rfl,?_⟩;refine zq0 hp (fun Vc hp=>?_) fun Vc hp=>?_; rotate_left
    ·exact u .nrm (j,q,r) _ _ _ _ za ⟨Za,ab,h,cb⟩ Ea w hp
    obtain⟨Xc,Yc,hp⟩:=zqq hp;refine zvb (l:=A) za.pre N Yc fun oe ae db Zc ad=>?_;obtain⟨be,bd,ha,ia⟩:=za.callO Zc ad i 4;have cd:=Za.k ha;have dd:=ab.k ha;have ed:=cb.k ha;have h:=h.k ha;have ob:=Ea.k ha;refine⟨_,rfl,?_⟩;obtain⟨fd,hd,jd,ja,kd⟩:=dd.sto bd [db];have ld:=cd.k ja;have md:=ed.k ja;have h:=h.k ja;have ia:=ia.k ja;have pb:=ob.k ja;refine⟨fd,hd,?_⟩;obtain⟨nd,od,pd,ka,qd⟩:=md.sto jd [.bool true];have sd:=ld.k ka;have td:=kd.k ka;have h:=h.k ka;have ia:=ia.k ka;have qb:=pb.k ka;refine⟨nd,od,?_⟩;exact u .nrm (Xc,db,true) _ _ _ _ pd ⟨sd,td,ia,qd⟩ qb w hp
   ·intro st la ma eb ud vd hA hp;obtain⟨j,q,r⟩:=st
    replace hp:ztI p x5 (ztJ p y) [] j r=some rz:=hp
    obtain⟨B,D,a,F⟩:=hA
    replace B:Lb (Fm.of m) la ma eb 1 m.nxt 4 [ca100,Il p.Reserve,ca102,ca103]:=B
    replace D:Lb (Fm.of m) la ma eb 2 m0.nxt 1 [q]:=D
    replace a:Ow (Fm.of m) la ma eb 4 q j:=a
    replace F:Lb (Fm.of m) la ma eb 3 m1.nxt 1 [.bool r]:=F
    rw[ztI] at hp;refine gdi hp fun xd hp=>?_;exact yd _ _ _ _ _ la ma ud (Sub.trans (Sub.trans d e.fs) vd) B D F a hp
   ·intro id st _ _ _ _ _ _ hn; first | exact hn.elim | (cases hn)
   ·intro st _ _ _ _ _ _ hn; first | exact hn.elim | (cases hn)
 exact hgo _ _ _ _ _ _ f Eb Fb (Sub.refl _) P I G (Ow.nil _ _ _ _ _) hp
theorem zv4{p:Pg}{ca100 ca102 ca103:C}{m f:M}{Q:V->M->Prop}{rz:List Int × Int × Int}(hS:Pre f m)(ha100:Sl f ca100 p.Losses)(ha102:Sl f ca102 p.Treaties)(ha103:Sl f ca103 p.Reports)(hp:ztL p=some rz)(hq:∀m' f' c0,Grw m f m' f'->Sl f' c0 rz.1->Q (.tup [.c c0,.c (Il rz.2.1),.c (Il rz.2.2)]) m'):Wc prog tbl 11 [.agg 4 [ca100,Il p.Reserve,ca102,ca103]] m Q:=by
 have P:=hS.st;obtain⟨S,_⟩:=zr8;refine w11 ?_;unfold ztL at hp;intro Z o;obtain⟨d,h,I,i⟩:=P.blk o S 1;refine⟨_,_,_,_,i.bk.ra,?_⟩;obtain⟨J,q,hp⟩:=zqq hp;refine zuV (p:=p) h.pre ha100 ha102 ha103 q fun m6 r=>?_;obtain⟨e,s⟩:=h.call r d;have j:=i.k s;refine⟨_,rfl,?_⟩;refine zqZ hp (fun t hp=>?_) fun t hp=>?_
 ·obtain rfl:=oi hp;exact hq _ f .sl0 e.grw (Sl.nil _)
 refine⟨_,_,_,_,j.bk.ra,?_⟩;obtain⟨u,w,hp⟩:=zqq hp;refine zv3 (p:=p) e.pre ha100 ha102 ha103 w fun T l y z n=>?_;obtain⟨g,a⟩:=e.callG z d;have A:=j.k a;refine⟨_,_,rfl,?_⟩;refine zq1 hp (fun B hp=>?_) fun B hp=>?_
 ·obtain rfl:=oi hp;exact hq _ l .sl0 g.grw (Sl.nil _)
 refine⟨_,_,_,_,A.bk.ra,?_⟩;obtain⟨N,D,hp⟩:=zqq hp;refine zuZ (p:=p) (set:=u.1) g.pre (ha100.sub a.fs) (ha102.sub a.fs) (ha103.sub a.fs) n D fun Y F=>?_;obtain⟨G,O⟩:=g.call F d;refine⟨_,rfl,?_⟩;obtain rfl:=oi hp;exact hq _ l y G.grw n
theorem zv5{p:Pg}{set:List Int}{price:Int}{ca100 ca102 ca103 ca200:C}{m f:M}{Q:V->M->Prop}{rz:Bool}(hS:Pre f m)(ha100:Sl f ca100 p.Losses)(ha102:Sl f ca102 p.Treaties)(ha103:Sl f ca103 p.Reports)(ha200:Sl f ca200 set)(hp:ztM p set price=some rz)(hq:∀m',Ext m m'->Q (.c (.bool rz)) m'):Wc prog tbl 16 [.agg 4 [ca100,Il p.Reserve,ca102,ca103],.c ca200,.c (Il price)] m Q:=by
 have S0:=hS.st;obtain⟨τ0,_⟩:=zr8;refine w16 ?_;unfold ztM at hp;intro m0 o;obtain⟨a,h,O,i⟩:=S0.blk o τ0 1;refine⟨_,_,_,_,i.bk.ra,?_⟩;obtain⟨P,q,hp⟩:=zqq hp;refine zuV (p:=p) h.pre ha100 ha102 ha103 q fun m6 r=>?_;obtain⟨d,s⟩:=h.call r a;have j:=i.k s;refine⟨_,rfl,?_⟩;refine ifd hp (fun t hp=>?_) fun t hp=>?_; rotate_left
 ·obtain rfl:=oi hp;exact hq _ d.ext'
 refine⟨_,_,_,_,j.bk.ra,?_⟩;obtain⟨S,u,hp⟩:=zqq hp;refine zuY (p:=p) (l:=set) d.pre ha100 ha102 ha103 ha200 u fun ca w=>?_;obtain⟨e,y⟩:=d.call w a;have n:=j.k y;refine⟨_,rfl,?_⟩;refine zq0 hp (fun z hp=>?_) fun z hp=>?_; rotate_left
 ·obtain rfl:=oi hp;exact hq _ e.ext'
 refine⟨_,_,_,_,n.bk.ra,?_⟩;obtain⟨T,A,hp⟩:=zqq hp;refine zuZ (p:=p) (set:=set) e.pre ha100 ha102 ha103 ha200 A fun da B=>?_;obtain⟨g,D⟩:=e.call B a;have F:=n.k D;refine⟨_,rfl,?_⟩;refine ifd hp (fun G hp=>?_) fun G hp=>?_; rotate_left
 ·obtain rfl:=oi hp;exact hq _ g.ext'
 refine⟨_,_,_,_,F.bk.ra,?_⟩;obtain⟨Y,I,hp⟩:=zqq hp;refine zv1 (p:=p) (set:=set) g.pre ha100 ha102 ha103 ha200 I fun ea J=>?_;obtain⟨N,Z⟩:=g.call J a;refine⟨_,rfl,?_⟩;obtain rfl:=oi hp;exact hq _ N.ext'
theorem zv6{n:Int}{w:Wk}{b0:Nat}{p:Pg}{b1:Nat}{cb000 cb002 cb003 cb012 cb021 cb022 cb023 cb100 cb102 cb103:C}{m f:M}{Q:V->M->Prop}{rz:Bool}(hS:Pre f m)(hb0:Bk f b0 24 [cb000,Il w.p.Reserve,cb002,cb003,Il w.kinds.k0.part.Lo,Il w.kinds.k0.part.Hi,Il w.kinds.k0.above.Lo,Il w.kinds.k0.above.Hi,Il w.kinds.k0.most.Lo,Il w.kinds.k0.most.Hi,Il w.kinds.k0.times.Lo,Il w.kinds.k0.times.Hi,cb012,Il w.kinds.k1.part.Lo,Il w.kinds.k1.part.Hi,Il w.kinds.k1.above.Lo,Il w.kinds.k1.above.Hi,Il w.kinds.k1.most.Lo,Il w.kinds.k1.most.Hi,Il w.kinds.k1.times.Lo,Il w.kinds.k1.times.Hi,cb021,cb022,cb023])(hb000:Sl f cb000 w.p.Losses)(hb002:Sl f cb002 w.p.Treaties)(hb003:Sl f cb003 w.p.Reports)(hb012:zuc f cb012 w.kinds.k0.takes)(hb021:zuc f cb021 w.kinds.k1.takes)(hb022:zrD f cb022 w.shared)(hb023:MiS f cb023 w.played)(hb1:Bk f b1 4 [cb100,Il p.Reserve,cb102,cb103])(_hb100:Sl f cb100 p.Losses)(_hb102:Sl f cb102 p.Treaties)(hb103:Sl f cb103 p.Reports)(hp:ztN n w p=some rz)(hq:∀m',Ext m m'->Q (.c (.bool rz)) m'):Wc prog tbl 49 [.c (Il n),.c (.ptr b0 0),.c (.ptr b1 0)] m Q:=by
 have a:=hS.st;obtain⟨u,_⟩:=zr8;refine c49 ?_;unfold ztN at hp;refine⟨_,_,_,_,_,_,_,_,_,_,_,_,_,_,_,_,_,_,_,_,_,_,_,_,(hb0.sub a.sub).ra,trivial,_,(hb1.sub a.sub).rc rfl,?_⟩;refine gdi hp fun d hp=>?_;obtain⟨r,hp⟩:=zqr hp;obtain⟨e,g,h⟩:=hb103.subC (i:=Int.toNat (0:Int)) (j:=Int.toNat (n+1)) (by omega) (by omega);refine⟨_,_,rfl,(show(n+1)=((Int.toNat (n+1):Nat):Int) by omega),e,g,?_⟩;obtain⟨s,l,hp⟩:=zqq hp;refine zvT (w:=({ p:=w.p,kinds:=w.kinds,shared:=(),played:=w.played }:Wk)) (reports:=((p.Reports.take (Int.toNat (n+1))).drop (Int.toNat (0:Int)))) a.pre hb000 hb002 hb003 hb012 hb021 (show zrD _ _ _ from hb022.noFn) hb023 h l fun y o=>?_;obtain⟨q,t⟩:=a.call o u;refine⟨_,rfl,?_⟩;obtain rfl:=oi hp;exact hq _ q.ext'
theorem zv7{n:Int}{p:Int->Option (Bool)}{ca200:C}{m f:M}{Q:V->M->Prop}{rz:Int}(hS:Pre f m)(ha200:zug f ca200 p)(hp:ztP n p=some rz)(hq:∀m',Ext m m'->Q (.c (Il rz)) m'):Wc prog tbl 50 [.c (Il n),.c ca200] m Q:=by
 have G:=hS.st;obtain⟨I,_⟩:=zr8;refine w50 ?_;unfold ztP at hp;intro J B
 have hgo:∀(d:Nat) (i:Int) (j:Int) (l:M) (a:Nat->Nat),St (Fm.of m) f f l->ztO p d i j=some rz->J [.c (Il i),.c (Il j)] l:=by
  intro d
  induction d with
  | zero=>intro i j l a e hp; cases hp
  | succ d h=>
   intro i j l a e hp;refine B _ _ _ ?_;rw[ztO] at hp;refine ifd hp (fun o hp=>?_) fun o hp=>?_; rotate_left
   ·obtain rfl:=oi hp;exact hq _ e.ext'
   refine gdi hp fun q hp=>?_;refine gdi hp fun r hp=>?_;refine gdi hp fun s hp=>?_;refine gdi hp fun t hp=>?_;refine gdi hp fun u hp=>?_;obtain⟨D,w,hp⟩:=zqq hp;refine ha200 _ _ _ _ _ (Sub.refl _) e.pre  w fun N y=>?_;obtain⟨g,F⟩:=e.call y a;refine⟨_,rfl,?_⟩;refine zq1 hp (fun z hp=>?_) fun z hp=>?_; rotate_left
   ·exact h _ _ _ a g hp
   refine gdi hp fun A hp=>?_;exact h _ _ _ a g hp
 exact hgo _ _ _ _ I G hp
theorem zv8{p:Pg}{ca100 ca102 ca103:C}{m f:M}{Q:V->M->Prop}{rz:Int × Int}(hS:Pre f m)(ha100:Sl f ca100 p.Losses)(ha102:Sl f ca102 p.Treaties)(ha103:Sl f ca103 p.Reports)(hp:ztQ p=some rz)(hq:∀m',Ext m m'->Q (.tup [.c (Il rz.1),.c (Il rz.2)]) m'):Wc prog tbl 19 [.agg 4 [ca100,Il p.Reserve,ca102,ca103]] m Q:=by
 have S0:=hS.st;obtain⟨τ0,_⟩:=zr8;refine w19 ?_;unfold ztQ at hp;intro m0 A;obtain⟨i,q,Ca,s⟩:=S0.blk A τ0 1;refine⟨_,_,_,_,s.bk.ra,?_⟩;obtain⟨Da,B,hp⟩:=zqq hp;refine zuV (p:=p) q.pre ha100 ha102 ha103 B fun m6 D=>?_;obtain⟨j,F⟩:=q.call D i;have t:=s.k F;refine⟨_,rfl,?_⟩;refine zqZ hp (fun G hp=>?_) fun G hp=>?_
 ·obtain rfl:=oi hp;exact hq _ j.ext'
 refine⟨_,_,_,_,t.bk.ra,?_⟩;obtain⟨a,I,hp⟩:=zqq hp;refine zvS (p:=p) j.pre ha100 ha102 ha103 I fun Ba Ea J N O P S T Y Z aa ba ca da ea fa ga=>?_;obtain⟨ha,g⟩:=j.callG Z i;have ia:=t.k g;refine⟨_,_,_,_,_,_,_,_,_,_,_,_,_,_,_,_,_,_,_,_,_,_,_,_,rfl,?_⟩;intro Ka ja;obtain⟨ka,la,ma,na⟩:=ha.blk ja i 2;have oa:=ia.k ma;obtain⟨pa,qa,sa,ta,ua⟩:=na.sto la [J,Il a.p.Reserve,N,O,Il a.kinds.k0.part.Lo,Il a.kinds.k0.part.Hi,Il a.kinds.k0.above.Lo,Il a.kinds.k0.above.Hi,Il a.kinds.k0.most.Lo,Il a.kinds.k0.most.Hi,Il a.kinds.k0.times.Lo,Il a.kinds.k0.times.Hi,P,Il a.kinds.k1.part.Lo,Il a.kinds.k1.part.Hi,Il a.kinds.k1.above.Lo,Il a.kinds.k1.above.Hi,Il a.kinds.k1.most.Lo,Il a.kinds.k1.most.Hi,Il a.kinds.k1.times.Lo,Il a.kinds.k1.times.Hi,S,T,Y];have u:=oa.k ta;refine⟨pa,qa,?_⟩;refine⟨trivial,_,u.bk.rc rfl,ha103.isSl,?_⟩
 try rw[ha103.slLen]
 obtain⟨Fa,va,d,y⟩:=ua.freeze sa;have wa:=u.k d;obtain⟨xa,w,e,o⟩:=wa.freeze va
 have z:zug xa ((C.fn (Fn.func 49) [] [(W.c (C0.ptr Ba.nxt 0)),(W.c (C0.ptr m.nxt 0))])) (fun h=>ztN h a p):=by
  intro f' m' h r Q hs hpre  hg hq;exact zv6 hpre ((y.sub e.fs).sub hs) ((aa.sub (Sub.trans d.fs e.fs)).sub hs) ((ba.sub (Sub.trans d.fs e.fs)).sub hs) ((ca.sub (Sub.trans d.fs e.fs)).sub hs) ((da.sub (Sub.trans d.fs e.fs)).sub hs) ((ea.sub (Sub.trans d.fs e.fs)).sub hs) ((fa.sub (Sub.trans d.fs e.fs)).sub hs) ((ga.sub (Sub.trans d.fs e.fs)).sub hs) (o.sub hs) ((ha100.sub (Sub.trans (Sub.trans g.fs d.fs) e.fs)).sub hs) ((ha102.sub (Sub.trans (Sub.trans g.fs d.fs) e.fs)).sub hs) ((ha103.sub (Sub.trans (Sub.trans g.fs d.fs) e.fs)).sub hs) hg hq
 obtain⟨Ga,ya,hp⟩:=zqq hp;refine zv7 (n:=(p.Reports.length:Int)) (p:=(fun h=>ztN h a p)) w.pre z ya fun La za=>?_;obtain⟨l,Ha⟩:=w.call za ka;refine⟨_,rfl,trivial,_,(o.sub l.sub).rc rfl,ha103.isSl,?_⟩
 try rw[ha103.slLen]
 refine ifd hp (fun Aa hp=>?_) fun Aa hp=>?_
 ·obtain rfl:=oi hp;exact hq _ l.ext'
 obtain rfl:=oi hp;exact hq _ l.ext'
theorem zv9{list:List Int}{w:Wk}{b0:Nat}{p:Pg}{b1:Nat}{ca100 cb000 cb002 cb003 cb012 cb021 cb022 cb023 cb100 cb102 cb103:C}{m f:M}{Q:V->M->Prop}{rz:Bool}(hS:Pre f m)(ha100:Sl f ca100 list)(hb0:Bk f b0 24 [cb000,Il w.p.Reserve,cb002,cb003,Il w.kinds.k0.part.Lo,Il w.kinds.k0.part.Hi,Il w.kinds.k0.above.Lo,Il w.kinds.k0.above.Hi,Il w.kinds.k0.most.Lo,Il w.kinds.k0.most.Hi,Il w.kinds.k0.times.Lo,Il w.kinds.k0.times.Hi,cb012,Il w.kinds.k1.part.Lo,Il w.kinds.k1.part.Hi,Il w.kinds.k1.above.Lo,Il w.kinds.k1.above.Hi,Il w.kinds.k1.most.Lo,Il w.kinds.k1.most.Hi,Il w.kinds.k1.times.Lo,Il w.kinds.k1.times.Hi,cb021,cb022,cb023])(hb000:Sl f cb000 w.p.Losses)(hb002:Sl f cb002 w.p.Treaties)(hb003:Sl f cb003 w.p.Reports)(hb012:zuc f cb012 w.kinds.k0.takes)(hb021:zuc f cb021 w.kinds.k1.takes)(hb022:zrD f cb022 w.shared)(hb023:MiS f cb023 w.played)(hb1:Bk f b1 4 [cb100,Il p.Reserve,cb102,cb103])(_hb100:Sl f cb100 p.Losses)(_hb102:Sl f cb102 p.Treaties)(hb103:Sl f cb103 p.Reports)(hp:ztR list w p=some rz)(hq:∀m',Ext m m'->Q (.c (.bool rz)) m'):Wc prog tbl 40 [.c ca100,.c (.ptr b0 0),.c (.ptr b1 0)] m Q:=by
 have e:=hS.st;obtain⟨r,_⟩:=zr8;refine c40 ?_;unfold ztR at hp;refine⟨_,_,_,_,_,_,_,_,_,_,_,_,_,_,_,_,_,_,_,_,_,_,_,_,(hb0.sub e.sub).ra,trivial,_,(hb1.sub e.sub).rc rfl,?_⟩;obtain⟨g,h,hp⟩:=zqq hp;refine zva (l:=p.Reports) (out:=list) e.pre hb103 ha100 h fun z s t i j=>?_;obtain⟨d,a⟩:=e.callG i r;refine⟨_,rfl,(by rw[show zaL cmC _=true from (zrK (zoW hb000.noFn) (zrK (zoW rfl) (zrK (zoW hb002.noFn) (zrK (zoW hb003.noFn) (zrK (zoW rfl) (zrK (zoW rfl) (zrK (zoW rfl) (zrK (zoW rfl) (zrK (zoW rfl) (zrK (zoW rfl) (zrK (zoW rfl) (zrK (zoW rfl) (zrK (zrI hb012.1) (zrK (zoW rfl) (zrK (zoW rfl) (zrK (zoW rfl) (zrK (zoW rfl) (zrK (zoW rfl) (zrK (zoW rfl) (zrK (zoW rfl) (zrK (zoW rfl) (zrK (zrI hb021.1) (zrK (zoW hb022.noFn) (zrK (zoW hb023.noFn) zrJ))))))))))))))))))))))))]; exact((hb0.sub (Sub.trans a.fs d.sub)).ra)),?_⟩;obtain⟨u,n,hp⟩:=zqq hp;refine zvT (w:=({ p:=w.p,kinds:=w.kinds,shared:=(),played:=w.played }:Wk)) (reports:=g) d.pre (hb000.sub a.fs) (hb002.sub a.fs) (hb003.sub a.fs) (hb012.sub a.fs) (hb021.sub a.fs) (show zrD _ _ _ from hb022.noFn) (hb023.sub a.fs) j n fun A o=>?_;obtain⟨q,y⟩:=d.call o r;refine⟨_,rfl,?_⟩;obtain rfl:=oi hp;exact hq _ q.ext'
theorem zwa{p:Pg}{ca100 ca102 ca103:C}{m f:M}{Q:V->M->Prop}{rz:List Int × Int}(hS:Pre f m)(ha100:Sl f ca100 p.Losses)(ha102:Sl f ca102 p.Treaties)(ha103:Sl f ca103 p.Reports)(hp:ztS p=some rz)(hq:∀m' f' c0,Grw m f m' f'->Sl f' c0 rz.1->Q (.tup [.c c0,.c (Il rz.2)]) m'):Wc prog tbl 13 [.agg 4 [ca100,Il p.Reserve,ca102,ca103]] m Q:=by
 have S0:=hS.st;obtain⟨τ0,_⟩:=zr8;refine w13 ?_;unfold ztS at hp;intro m0 z;obtain⟨i,l,Fa,o⟩:=S0.blk z τ0 1;refine⟨_,_,_,_,o.bk.ra,?_⟩;obtain⟨Ga,A,hp⟩:=zqq hp;refine zuV (p:=p) l.pre ha100 ha102 ha103 A fun m6 B=>?_;obtain⟨j,D⟩:=l.call B i;have q:=o.k D;refine⟨_,rfl,?_⟩;refine zqZ hp (fun F hp=>?_) fun F hp=>?_
 ·obtain rfl:=oi hp;exact hq _ f .sl0 j.grw (Sl.nil _)
 refine⟨_,_,_,_,q.bk.ra,?_⟩;obtain⟨a,G,hp⟩:=zqq hp;refine zvS (p:=p) j.pre ha100 ha102 ha103 G fun Ea Ha I J N O P S T Y Z aa ba ca da ea fa=>?_;obtain⟨ga,g⟩:=j.callG Y i;have ha:=q.k g;refine⟨_,_,_,_,_,_,_,_,_,_,_,_,_,_,_,_,_,_,_,_,_,_,_,_,rfl,?_⟩;intro Oa ia;obtain⟨ja,ka,la,ma⟩:=ga.blk ia i 2;have na:=ha.k la;obtain⟨oa,pa,qa,sa,ta⟩:=ma.sto ka [I,Il a.p.Reserve,J,N,Il a.kinds.k0.part.Lo,Il a.kinds.k0.part.Hi,Il a.kinds.k0.above.Lo,Il a.kinds.k0.above.Hi,Il a.kinds.k0.most.Lo,Il a.kinds.k0.most.Hi,Il a.kinds.k0.times.Lo,Il a.kinds.k0.times.Hi,O,Il a.kinds.k1.part.Lo,Il a.kinds.k1.part.Hi,Il a.kinds.k1.above.Lo,Il a.kinds.k1.above.Hi,Il a.kinds.k1.most.Lo,Il a.kinds.k1.most.Hi,Il a.kinds.k1.times.Lo,Il a.kinds.k1.times.Hi,P,S,T];have s:=na.k sa;refine⟨oa,pa,?_⟩;refine⟨trivial,_,s.bk.rc rfl,ha103.isSl,?_⟩
 try rw[ha103.slLen]
 obtain⟨Ia,ua,d,u⟩:=ta.freeze qa;have va:=s.k d;obtain⟨wa,t,e,w⟩:=va.freeze ua
 have y:zvq wa ((C.fn (Fn.func 40) [] [(W.c (C0.ptr Ea.nxt 0)),(W.c (C0.ptr m.nxt 0))])) (fun h=>ztR h a p):=by
  intro f' m' h Ja r Q hs hpre xa hg hq;exact zv9 hpre xa ((u.sub e.fs).sub hs) ((Z.sub (Sub.trans d.fs e.fs)).sub hs) ((aa.sub (Sub.trans d.fs e.fs)).sub hs) ((ba.sub (Sub.trans d.fs e.fs)).sub hs) ((ca.sub (Sub.trans d.fs e.fs)).sub hs) ((da.sub (Sub.trans d.fs e.fs)).sub hs) ((ea.sub (Sub.trans d.fs e.fs)).sub hs) ((fa.sub (Sub.trans d.fs e.fs)).sub hs) (w.sub hs) ((ha100.sub (Sub.trans (Sub.trans g.fs d.fs) e.fs)).sub hs) ((ha102.sub (Sub.trans (Sub.trans g.fs d.fs) e.fs)).sub hs) ((ha103.sub (Sub.trans (Sub.trans g.fs d.fs) e.fs)).sub hs) hg hq
 obtain⟨Ka,ya,hp⟩:=zqq hp;refine zvw (n:=(p.Reports.length:Int)) (passes:=(fun h=>ztR h a p)) t.pre y ya fun Pa za Aa Ba Ca=>?_;obtain⟨Da,La⟩:=t.callG Ba ja;refine⟨_,rfl,?_⟩;obtain rfl:=oi hp;exact hq _ za Aa Da.grw Ca
theorem zwb{a:List Int}{b:List Int}{ca100 ca200:C}{m f:M}{Q:V->M->Prop}{rz:Bool}(hS:Pre f m)(ha100:Sl f ca100 a)(ha200:Sl f ca200 b)(hp:ztU a b=some rz)(hq:∀m',Ext m m'->Q (.c (.bool rz)) m'):Wc prog tbl 14 [.c ca100,.c ca200] m Q:=by
 have z:=hS.st;obtain⟨F,_⟩:=zr8;refine w14 ?_;unfold ztU at hp;refine⟨ha100.isSl,ha200.isSl,?_⟩
 try rw[ha100.slLen]
 try rw[ha200.slLen]
 refine zqZ hp (fun p hp=>?_) fun p hp=>?_
 ·obtain rfl:=oi hp;exact hq _ z.ext'
 intro G A
 have hgo:∀(e:Nat) (w:Bool) (q:Int) (r:M) (g:Nat->Nat),St (Fm.of m) f f r->ztT a b e q=some rz->G [.c (.bool w),.c (Il q)] r:=by
  intro e
  induction e with
  | zero=>intro w q r g d hp; cases hp
  | succ e y=>
   intro w q r g d hp;refine A _ _ _ ?_;rw[ztT] at hp;refine⟨ha100.isSl,?_⟩
   try rw[ha100.slLen]
   refine ifd hp (fun s hp=>?_) fun s hp=>?_; rotate_left
   ·obtain rfl:=oi hp;exact hq _ d.ext'
   obtain⟨B,h,hp⟩:=zqq hp;obtain⟨I,n,j,h⟩:=zqk h;refine⟨I,n,(by first|exact j|(rw[ha100.slLen];exact j)),_,(ha100.rdI h d.sub),?_⟩;obtain⟨D,i,hp⟩:=zqq hp;obtain⟨J,o,l,i⟩:=zqk i;refine⟨J,o,(by first|exact l|(rw[ha200.slLen];exact l)),_,(ha200.rdI i d.sub),?_⟩;refine zqZ hp (fun t hp=>?_) fun t hp=>?_
   ·obtain rfl:=oi hp;exact hq _ d.ext'
   refine gdi hp fun u hp=>?_;exact y _ _ _ g d hp
 exact hgo _ _ _ _ F z hp
theorem zwc{low:Int}{high:Int}{m f:M}{Q:V->M->Prop}{rz:Rg}(hS:Pre f m)(hp:ztV low high=some rz)(hq:∀m',Ext m m'->Q (.agg 2 [Il rz.Lo,Il rz.Hi]) m'):Wc prog tbl 15 [.c (Il low),.c (Il high)] m Q:=by
 have p:=hS.st;obtain⟨q,_⟩:=zr8;refine w15 ?_;unfold ztV at hp;intro r a;obtain⟨l,d,n,e⟩:=p.blk a q 1;obtain⟨g,h,i,o,j⟩:=e.sto d [Il low,Il high];refine⟨g,h,?_⟩;refine⟨_,_,j.bk.ra,?_⟩;obtain rfl:=oi hp;exact hq _ i.ext'
theorem zwd{reports:List Rpt}{ca100:C}{m f:M}{Q:V->M->Prop}{rz:Pg}(hS:Pre f m)(ha100:Sl f ca100 reports)(hp:ztW reports=some rz)(hq:∀m' f' c0 c2 c3,Grw m f m' f'->Sl f' c0 rz.Losses->Sl f' c2 rz.Treaties->Sl f' c3 rz.Reports->Q (.agg 4 [c0,Il rz.Reserve,c2,c3]) m'):Wc prog tbl 9 [.c ca100] m Q:=by
 have S0:=hS.st;obtain⟨τ0,_⟩:=zr8;refine w9 ?_;unfold ztW at hp;intro m0 t;obtain⟨e,h,qa,u⟩:=S0.blk t τ0 1;obtain⟨a,w,hp⟩:=zqq hp;refine zwc (low:=(100:Int)) (high:=(120:Int)) h.pre  w fun m2 y=>?_;obtain⟨i,z⟩:=h.call y e;have A:=u.k z;refine⟨_,_,rfl,?_⟩;obtain⟨d,B,hp⟩:=zqq hp;refine zwc (low:=(300:Int)) (high:=(300:Int)) i.pre  B fun m6 D=>?_;obtain⟨F,G⟩:=i.call D e;have I:=A.k G;refine⟨_,_,rfl,?_⟩;intro m9 J;obtain⟨N,O,P,S⟩:=F.blk J e 2;have T:=I.k P;intro va Y;obtain⟨sa,Z,j,aa⟩:=O.blk Y N 3;have ba:=T.k j;have ca:=S.k j;obtain⟨da,ea,fa,n,ga⟩:=ba.sto Z [(C.sl m6.nxt 0 2 0 (Option.some 2)),(Il (200:Int)),(C.sl m9.nxt 0 3 0 (Option.some 3)),ca100];have ha:=ca.k n;have ia:=aa.k n;refine⟨da,ea,?_⟩;refine⟨_,_,_,_,ga.bk.ra,?_⟩;obtain⟨o,ja,p,r⟩:=ha.freeze fa;have ka:=ia.k p;have la:Sl o (C.sl m6.nxt 0 2 0 (Option.some 2)) ([a,d]:List Rg):=Bk.sl (α:=Rg) (l:=([a,d]:List Rg)) r (show Cat (α:=Rg) o [Il a.Lo,Il a.Hi,Il d.Lo,Il d.Hi] ([a,d]:List Rg) from ⟨[Il a.Lo,Il a.Hi],_,rfl,rfl,⟨[Il d.Lo,Il d.Hi],_,rfl,rfl,rfl⟩⟩) rfl rfl _;obtain⟨g,ma,q,s⟩:=ka.freeze ja;have na:Sl g (C.sl m9.nxt 0 3 0 (Option.some 3)) ([({ Kind:=(0:Int),Part:=(25:Int),Above:=(0:Int),Most:=(0:Int),Times:=(0:Int),Price:=(50:Int),Of:=(-1:Int) }:Ty),({ Kind:=(1:Int),Part:=(0:Int),Above:=(50:Int),Most:=(100:Int),Times:=(0:Int),Price:=(30:Int),Of:=(-1:Int) }:Ty),({ Kind:=(1:Int),Part:=(0:Int),Above:=(20:Int),Most:=(40:Int),Times:=(1:Int),Price:=(5:Int),Of:=(0:Int) }:Ty)]:List Ty):=Bk.sl (α:=Ty) (l:=([({ Kind:=(0:Int),Part:=(25:Int),Above:=(0:Int),Most:=(0:Int),Times:=(0:Int),Price:=(50:Int),Of:=(-1:Int) }:Ty),({ Kind:=(1:Int),Part:=(0:Int),Above:=(50:Int),Most:=(100:Int),Times:=(0:Int),Price:=(30:Int),Of:=(-1:Int) }:Ty),({ Kind:=(1:Int),Part:=(0:Int),Above:=(20:Int),Most:=(40:Int),Times:=(1:Int),Price:=(5:Int),Of:=(0:Int) }:Ty)]:List Ty)) s (show Cat (α:=Ty) g [Il 0,(Il (25:Int)),Il 0,Il 0,Il 0,(Il (50:Int)),(Il (-1:Int)),(Il (1:Int)),Il 0,(Il (50:Int)),(Il (100:Int)),Il 0,(Il (30:Int)),(Il (-1:Int)),(Il (1:Int)),Il 0,(Il (20:Int)),(Il (40:Int)),(Il (1:Int)),(Il (5:Int)),Il 0] ([({ Kind:=(0:Int),Part:=(25:Int),Above:=(0:Int),Most:=(0:Int),Times:=(0:Int),Price:=(50:Int),Of:=(-1:Int) }:Ty),({ Kind:=(1:Int),Part:=(0:Int),Above:=(50:Int),Most:=(100:Int),Times:=(0:Int),Price:=(30:Int),Of:=(-1:Int) }:Ty),({ Kind:=(1:Int),Part:=(0:Int),Above:=(20:Int),Most:=(40:Int),Times:=(1:Int),Price:=(5:Int),Of:=(0:Int) }:Ty)]:List Ty) from ⟨[Il 0,(Il (25:Int)),Il 0,Il 0,Il 0,(Il (50:Int)),(Il (-1:Int))],_,rfl,rfl,⟨[(Il (1:Int)),Il 0,(Il (50:Int)),(Il (100:Int)),Il 0,(Il (30:Int)),(Il (-1:Int))],_,rfl,rfl,⟨[(Il (1:Int)),Il 0,(Il (20:Int)),(Il (40:Int)),(Il (1:Int)),(Il (5:Int)),Il 0],_,rfl,rfl,rfl⟩⟩⟩) rfl rfl _
 obtain rfl:=oi hp;exact hq _ g (C.sl m6.nxt 0 2 0 (Option.some 2)) (C.sl m9.nxt 0 3 0 (Option.some 3)) ca100 ma.grw (la.sub q.fs) na (ha100.sub (Sub.trans p.fs q.fs))
theorem zwe{m f:M}{Q:V->M->Prop}{rz:List Rpt}(hS:Pre f m)(hp:ztX=some rz)(hq:∀m' f' c0,Grw m f m' f'->Sl f' c0 rz->Q (.c c0) m'):Wc prog tbl 18 [] m Q:=by
 have y:=hS.st;obtain⟨w,_⟩:=zr8;refine w18 ?_;unfold ztX at hp;obtain⟨a,i,hp⟩:=zqq hp;refine zwc (low:=(103:Int)) (high:=(110:Int)) y.pre  i fun I j=>?_;obtain⟨g,A⟩:=y.call j w;refine⟨_,_,rfl,?_⟩;obtain⟨d,n,hp⟩:=zqq hp;refine zwc (low:=(45:Int)) (high:=(46:Int)) g.pre  n fun z o=>?_;obtain⟨p,B⟩:=g.call o w;refine⟨_,_,rfl,?_⟩;intro J q;obtain⟨D,r,F,s⟩:=p.blk q w 1;obtain⟨e,t,G,h⟩:=s.freeze r;have u:Sl e (C.sl z.nxt 0 2 0 (Option.some 2)) ([({ Treaty:=(0:Int),Paid:=a }:Rpt),({ Treaty:=(2:Int),Paid:=d }:Rpt)]:List Rpt):=Bk.sl (α:=Rpt) (l:=([({ Treaty:=(0:Int),Paid:=a }:Rpt),({ Treaty:=(2:Int),Paid:=d }:Rpt)]:List Rpt)) h (show Cat (α:=Rpt) e [Il 0,Il a.Lo,Il a.Hi,(Il (2:Int)),Il d.Lo,Il d.Hi] ([({ Treaty:=(0:Int),Paid:=a }:Rpt),({ Treaty:=(2:Int),Paid:=d }:Rpt)]:List Rpt) from ⟨[Il 0,Il a.Lo,Il a.Hi],_,rfl,rfl,⟨[(Il (2:Int)),Il d.Lo,Il d.Hi],_,rfl,rfl,rfl⟩⟩) rfl rfl _;obtain rfl:=oi hp;exact hq _ e (C.sl z.nxt 0 2 0 (Option.some 2)) t.grw u
theorem zwf{n:Int}{m f:M}{Q:V->M->Prop}{rz:Pg}(hS:Pre f m)(hp:ztY n=some rz)(hq:∀m' f' c0 c2 c3,Grw m f m' f'->Sl f' c0 rz.Losses->Sl f' c2 rz.Treaties->Sl f' c3 rz.Reports->Q (.agg 4 [c0,Il rz.Reserve,c2,c3]) m'):Wc prog tbl 12 [.c (Il n)] m Q:=by
 have S0:=hS.st;obtain⟨τ0,_⟩:=zr8;refine w12 ?_;unfold ztY at hp;intro m0 j;obtain⟨h,i,ga,l⟩:=S0.blk j τ0 1;obtain⟨o,p,hp⟩:=zqq hp;refine zwd (reports:=[]) i.pre (Sl.nil _) p fun m2 q a d e r s t u=>?_;obtain⟨w,y⟩:=i.callG r h;have z:=l.k y;refine⟨_,_,_,_,rfl,?_⟩;intro m7 A;obtain⟨ha,B,D,F⟩:=w.blk A h 2;have G:=z.k D;obtain⟨I,J,N,O,P⟩:=F.sto B [a,Il o.Reserve,d,e];have S:=G.k O;refine⟨I,J,?_⟩;refine⟨trivial,?_⟩;obtain⟨T,Y,Z,aa,g⟩:=P.sto1 N 1 (Il n) (by simp) rfl
 replace g:Lb _ _ _ _ _ _ _ [a,Il n,d,e]:=g
 have ba:=S.k aa;refine⟨T,Y,?_⟩;refine⟨_,_,_,_,g.bk.ra,?_⟩;obtain⟨ca,da,ea,ia,fa⟩:=ba.sto Z [a,Il n,d,e];refine⟨ca,da,?_⟩;refine⟨_,_,_,_,fa.bk.ra,?_⟩;obtain rfl:=oi hp;exact hq _ q a d e ea.grw s t u
theorem zwg{m f:M}{Q:V->M->Prop}{rz:Bool}(hS:Pre f m)(hp:ztZ=some rz)(hq:∀m',Ext m m'->Q (.c (.bool rz)) m'):Wc prog tbl 21 [] m Q:=by
 have S0:=hS.st;obtain⟨τ0,_⟩:=zr8;refine w21 ?_;unfold ztZ at hp;obtain⟨cb,db,hp⟩:=zqq hp;refine zwd (reports:=[]) S0.pre (Sl.nil _) db fun m1 Sf Tf Uf Vf eb fb gb hb=>?_;obtain⟨ib,Wf⟩:=S0.callG eb τ0;refine⟨_,_,_,_,rfl,?_⟩;intro m6 jb;obtain⟨z,kb,Xf,mb⟩:=ib.blk jb τ0 1;obtain⟨ea,fa,N,Va⟩:=mb.freeze kb;have ob:Sl ea (C.sl m1.nxt 0 2 0 (Option.some 2)) ([(100:Int),(300:Int)]:List Int):=Bk.sl (α:=Int) (l:=([(100:Int),(300:Int)]:List Int)) Va (show Cat (α:=Int) ea [(Il (100:Int)),(Il (300:Int))] ([(100:Int),(300:Int)]:List Int) from ⟨[(Il (100:Int))],_,rfl,rfl,⟨[(Il (300:Int))],_,rfl,rfl,rfl⟩⟩) rfl rfl _;obtain⟨pb,qb,hp⟩:=zqq hp;refine zvR (p:=cb) (losses:=([(100:Int),(300:Int)]:List Int)) fa.pre (fb.sub N.fs) (gb.sub N.fs) (hb.sub N.fs) ob qb fun m8 Yf Zf rb sb=>?_;obtain⟨ga,ag⟩:=fa.callG rb z;refine⟨_,_,_,rfl,?_⟩;obtain⟨tb,ub,hp⟩:=zqq hp;refine zwd (reports:=[]) ga.pre (Sl.nil _) ub fun Ah bg cg dg eg vb wb xb yb=>?_;obtain⟨ha,zb⟩:=ga.callG vb z;refine⟨_,_,_,_,rfl,?_⟩;obtain⟨fg,Ab,hp⟩:=zqq hp;refine zvY (p:=tb) ha.pre wb xb yb Ab fun Bh gg hg Bb A=>?_;obtain⟨ia,Cb⟩:=ha.callG Bb z;refine⟨_,_,rfl,?_⟩;obtain⟨Db,Eb,hp⟩:=zqq hp;refine zwd (reports:=[]) ia.pre (Sl.nil _) Eb fun Ch ig jg kg lg Fb Gb Hb Ib=>?_;obtain⟨ja,w⟩:=ia.callG Fb z;refine⟨_,_,_,_,rfl,?_⟩;obtain⟨ka,Jb,hp⟩:=zqq hp;refine zvZ (p:=Db) ja.pre Gb Hb Ib Jb fun Dh Kb=>?_;obtain⟨Mb,mg⟩:=ja.call Kb z;refine⟨_,_,_,rfl,?_⟩;intro Eh Nb;obtain⟨la,Ob,ng,Pb⟩:=Mb.blk Nb z 2;obtain⟨Qb,Rb,ma,og,Sb⟩:=Pb.sto Ob [Il ka.1.Lo,Il ka.1.Hi]
 refine⟨Qb,Rb,?_⟩;obtain⟨Tb,Ub,hp⟩:=zqq hp;refine zwd (reports:=[]) ma.pre (Sl.nil _) Ub fun Pf pg qg rg sg Vb Wb Xb Yb=>?_;obtain⟨Zb,t⟩:=ma.callG Vb la;have ac:=Sb.k t;refine⟨_,_,_,_,rfl,?_⟩;intro Fh bc;obtain⟨na,cc,dc,ec⟩:=Zb.blk bc la 3;have fc:=ac.k dc;obtain⟨oa,pa,e,Wa⟩:=ec.freeze cc;have gc:=fc.k e;have hc:Sl oa (C.sl Pf.nxt 0 1 0 (Option.some 1)) ([(1:Int)]:List Int):=Bk.sl (α:=Int) (l:=([(1:Int)]:List Int)) Wa (show Cat (α:=Int) oa [(Il (1:Int))] ([(1:Int)]:List Int) from ⟨[(Il (1:Int))],_,rfl,rfl,rfl⟩) rfl rfl _;obtain⟨qa,ic,hp⟩:=zqq hp;refine zv2 (p:=Tb) (set:=([(1:Int)]:List Int)) pa.pre (Wb.sub e.fs) (Xb.sub e.fs) (Yb.sub e.fs) hc ic fun Gh jc=>?_;obtain⟨kc,nc⟩:=pa.call jc na;have pc:=gc.k nc;refine⟨_,_,_,rfl,?_⟩;intro Hh qc;obtain⟨q,sc,tc,uc⟩:=kc.blk qc na 4;have vc:=pc.k tc;obtain⟨wc,xc,sa,yc,zc⟩:=uc.sto sc [Il qa.1.Lo,Il qa.1.Hi];have Ac:=vc.k yc;refine⟨wc,xc,?_⟩;obtain⟨Bc,Cc,hp⟩:=zqq hp;refine zwf (n:=(300:Int)) sa.pre  Cc fun Ih tg ug vg xg Dc Ec Fc Gc=>?_;obtain⟨ta,r⟩:=sa.callG Dc q;have Hc:=Ac.k r;have Ic:=zc.k r;refine⟨_,_,_,_,rfl,?_⟩;obtain⟨ua,Jc,hp⟩:=zqq hp;refine zv4 (p:=Bc) ta.pre Ec Fc Gc Jc fun Jh zg Ag Kc va=>?_;obtain⟨wa,s⟩:=ta.callG Kc q;have Nc:=Hc.k s;have Pc:=Ic.k s;refine⟨_,_,_,rfl,?_⟩;obtain⟨Qc,Rc,hp⟩:=zqq hp;refine zwe wa.pre  Rc fun Kh Bg Cg Tc Uc=>?_;obtain⟨xa,g⟩:=wa.callG Tc q;have Vc:=Nc.k g;have Xc:=Pc.k g;refine⟨_,rfl,?_⟩;obtain⟨Yc,Zc,hp⟩:=zqq hp;refine zwd (reports:=Qc) xa.pre Uc Zc fun Lh Dg Eg Fg Gg ad bd cd dd=>?_
 obtain⟨ya,h⟩:=xa.callG ad q;have ed:=Vc.k h;have fd:=Xc.k h;refine⟨_,_,_,_,rfl,?_⟩;obtain⟨Hg,hd,hp⟩:=zqq hp;refine zv8 (p:=Yc) ya.pre bd cd dd hd fun Mh id=>?_;obtain⟨za,Aa⟩:=ya.call id q;have jd:=ed.k Aa;have kd:=fd.k Aa;refine⟨_,_,rfl,?_⟩;obtain⟨ld,md,hp⟩:=zqq hp;refine zwe za.pre  md fun Nh Ig Jg nd od=>?_;obtain⟨Ba,i⟩:=za.callG nd q;have pd:=jd.k i;have qd:=kd.k i;refine⟨_,rfl,?_⟩;obtain⟨sd,td,hp⟩:=zqq hp;refine zwd (reports:=ld) Ba.pre od td fun Oh Kg Lg Mg Ng ud vd xd yd=>?_;obtain⟨Ca,j⟩:=Ba.callG ud q;have zd:=pd.k j;have Ad:=qd.k j;refine⟨_,_,_,_,rfl,?_⟩;obtain⟨Cd,Dd,hp⟩:=zqq hp;refine zwa (p:=sd) Ca.pre vd xd yd Dd fun Qf Og Qg Ed Fd=>?_;obtain⟨Da,o⟩:=Ca.callG Ed q;have Gd:=zd.k o;have Hd:=Ad.k o;refine⟨_,_,rfl,?_⟩;refine ifd hp (fun Id hp=>?_) fun Id hp=>?_; rotate_left
 ·obtain rfl:=oi hp;exact hq _ Da.ext'
 intro Ph Jd;obtain⟨u,Ld,Ea,Md⟩:=Da.blk Jd q 5;have Nd:=Gd.k Ea;have Od:=Hd.k Ea;obtain⟨Fa,Ga,d,Xa⟩:=Md.freeze Ld;have Pd:=Nd.k d;have Qd:=Od.k d;have Rd:Sl Fa (C.sl Qf.nxt 0 3 0 (Option.some 3)) ([(100:Int),(100:Int),(45:Int)]:List Int):=Bk.sl (α:=Int) (l:=([(100:Int),(100:Int),(45:Int)]:List Int)) Xa (show Cat (α:=Int) Fa [(Il (100:Int)),(Il (100:Int)),(Il (45:Int))] ([(100:Int),(100:Int),(45:Int)]:List Int) from ⟨[(Il (100:Int))],_,rfl,rfl,⟨[(Il (100:Int))],_,rfl,rfl,⟨[(Il (45:Int))],_,rfl,rfl,rfl⟩⟩⟩) rfl rfl _;obtain⟨Sg,Sd,hp⟩:=zqq hp;refine zwb (a:=pb.1) (b:=([(100:Int),(100:Int),(45:Int)]:List Int)) Ga.pre (sb.sub (Sub.trans (Sub.trans (Sub.trans (Sub.trans (Sub.trans (Sub.trans (Sub.trans (Sub.trans (Sub.trans (Sub.trans (Sub.trans (Sub.trans zb.fs Cb.fs) w.fs) t.fs) e.fs) r.fs) s.fs) g.fs) h.fs) i.fs) j.fs) o.fs) d.fs)) Rd Sd fun Qh Td=>?_;obtain⟨y,Ha⟩:=Ga.call Td u;have Ud:=Pd.k Ha;have Vd:=Qd.k Ha;refine⟨_,rfl,?_⟩;refine zq0 hp (fun Wd hp=>?_) fun Wd hp=>?_; rotate_left
 ·obtain rfl:=oi hp;exact hq _ y.ext'
 refine ifd hp (fun Xd hp=>?_) fun Xd hp=>?_; rotate_left
 ·obtain rfl:=oi hp;exact hq _ y.ext'
 refine ifd hp (fun Yd hp=>?_) fun Yd hp=>?_; rotate_left
 ·obtain rfl:=oi hp;exact hq _ y.ext'
 refine⟨A.isSl,?_⟩
 try rw[A.slLen]
 refine ifd hp (fun Zd hp=>?_) fun Zd hp=>?_; rotate_left
 ·obtain rfl:=oi hp;exact hq _ y.ext'
 obtain⟨Tg,O,hp⟩:=zqq hp;obtain⟨Rf,Ya,ca,O⟩:=zqk O;obtain⟨_,P⟩:=zsc A O;refine⟨Rf,Ya,(by first|exact ca|(rw[A.slLen];exact ca)),_,_,_,_,(P _ (Sub.trans (Sub.trans (Sub.trans (Sub.trans (Sub.trans (Sub.trans (Sub.trans (Sub.trans (Sub.trans (Sub.trans (Sub.trans w.fs t.fs) e.fs) r.fs) s.fs) g.fs) h.fs) i.fs) j.fs) o.fs) d.fs) y.sub)).1,?_⟩;obtain⟨Ug,ae,hp⟩:=zqq hp;refine zwc (low:=(100:Int)) (high:=(105:Int)) y.pre  ae fun Rh be=>?_;obtain⟨S,Ia⟩:=y.call be u;have ce:=Ud.k Ia;have de:=Vd.k Ia;refine⟨_,_,rfl,(P _ (Sub.trans (Sub.trans (Sub.trans (Sub.trans (Sub.trans (Sub.trans (Sub.trans (Sub.trans (Sub.trans (Sub.trans (Sub.trans w.fs t.fs) e.fs) r.fs) s.fs) g.fs) h.fs) i.fs) j.fs) o.fs) d.fs) S.sub)).1,?_⟩;obtain⟨Vg,ee,hp⟩:=zqq hp;refine zwc (low:=(55:Int)) (high:=(55:Int)) S.pre  ee fun qh fe=>?_;obtain⟨B,Ja⟩:=S.call fe u;have ge:=ce.k Ja;have he:=de.k Ja;refine⟨_,_,rfl,(P _ (Sub.trans (Sub.trans (Sub.trans (Sub.trans (Sub.trans (Sub.trans (Sub.trans (Sub.trans (Sub.trans (Sub.trans (Sub.trans w.fs t.fs) e.fs) r.fs) s.fs) g.fs) h.fs) i.fs) j.fs) o.fs) d.fs) B.sub)).1,?_⟩;refine gdi hp fun ie hp=>?_;refine gdi hp fun je hp=>?_;refine gdi hp fun ke hp=>?_;refine gdi hp fun me hp=>?_;refine gdi hp fun oe hp=>?_;refine gdi hp fun pe hp=>?_;refine gdi hp fun qe hp=>?_;refine gdi hp fun re hp=>?_;refine zq0 hp (fun se hp=>?_) fun se hp=>?_; rotate_left
 ·obtain rfl:=oi hp;exact hq _ B.ext'
 obtain⟨Xg,T,hp⟩:=zqq hp;obtain⟨Kf,Za,da,T⟩:=zqk T;obtain⟨_,Y⟩:=zsc A T;refine⟨Kf,Za,(by first|exact da|(rw[A.slLen];exact da)),_,_,_,_,(Y _ (Sub.trans (Sub.trans (Sub.trans (Sub.trans (Sub.trans (Sub.trans (Sub.trans (Sub.trans (Sub.trans (Sub.trans (Sub.trans w.fs t.fs) e.fs) r.fs) s.fs) g.fs) h.fs) i.fs) j.fs) o.fs) d.fs) B.sub)).1,?_⟩;obtain⟨Zg,te,hp⟩:=zqq hp;refine zwc (low:=(45:Int)) (high:=(50:Int)) B.pre  te fun rh ue=>?_;obtain⟨Z,Ka⟩:=B.call ue u;have ve:=ge.k Ka;have we:=he.k Ka;refine⟨_,_,rfl,(Y _ (Sub.trans (Sub.trans (Sub.trans (Sub.trans (Sub.trans (Sub.trans (Sub.trans (Sub.trans (Sub.trans (Sub.trans (Sub.trans w.fs t.fs) e.fs) r.fs) s.fs) g.fs) h.fs) i.fs) j.fs) o.fs) d.fs) Z.sub)).1,?_⟩;obtain⟨ah,xe,hp⟩:=zqq hp;refine zwc (low:=(45:Int)) (high:=(50:Int)) Z.pre  xe fun th ye=>?_;obtain⟨D,La⟩:=Z.call ye u;have Ma:=ve.k La;have ze:=we.k La;refine⟨_,_,rfl,(Y _ (Sub.trans (Sub.trans (Sub.trans (Sub.trans (Sub.trans (Sub.trans (Sub.trans (Sub.trans (Sub.trans (Sub.trans (Sub.trans w.fs t.fs) e.fs) r.fs) s.fs) g.fs) h.fs) i.fs) j.fs) o.fs) d.fs) D.sub)).1,?_⟩;refine gdi hp fun Ae hp=>?_;refine gdi hp fun Be hp=>?_;refine gdi hp fun Ce hp=>?_;refine gdi hp fun De hp=>?_;refine gdi hp fun Ee hp=>?_;refine gdi hp fun Fe hp=>?_;refine gdi hp fun Ge hp=>?_;refine gdi hp fun He hp=>?_;refine zq0 hp (fun Ie hp=>?_) fun Ie hp=>?_; rotate_left
 ·obtain rfl:=oi hp;exact hq _ D.ext'
 refine ifd hp (fun Je hp=>?_) fun Je hp=>?_; rotate_left
 ·obtain rfl:=oi hp;exact hq _ D.ext'
 refine⟨_,_,Ma.bk.ra,?_⟩;obtain⟨bh,Ke,hp⟩:=zqq hp;refine zwc (low:=(200:Int)) (high:=(215:Int)) D.pre  Ke fun uh Me=>?_;obtain⟨G,Na⟩:=D.call Me u;have Ne:=Ma.k Na;have Oa:=ze.k Na;refine⟨_,_,rfl,(Ne.bk.ra),?_⟩;refine gdi hp fun Oe hp=>?_;refine gdi hp fun Pe hp=>?_;refine gdi hp fun Qe hp=>?_;refine gdi hp fun Re hp=>?_;refine zq0 hp (fun Se hp=>?_) fun Se hp=>?_; rotate_left
 ·obtain rfl:=oi hp;exact hq _ G.ext'
 refine ifd hp (fun Te hp=>?_) fun Te hp=>?_; rotate_left
 ·obtain rfl:=oi hp;exact hq _ G.ext'
 refine⟨_,_,Oa.bk.ra,?_⟩;obtain⟨ch,Ue,hp⟩:=zqq hp;refine zwc (low:=(300:Int)) (high:=(320:Int)) G.pre  Ue fun Lf Ve=>?_;obtain⟨aa,We⟩:=G.call Ve u;have Xe:=Oa.k We;refine⟨_,_,rfl,(Xe.bk.ra),?_⟩;refine gdi hp fun Ye hp=>?_;refine gdi hp fun Ze hp=>?_;refine gdi hp fun af hp=>?_;refine gdi hp fun bf hp=>?_;refine zq0 hp (fun cf hp=>?_) fun cf hp=>?_; rotate_left
 ·obtain rfl:=oi hp;exact hq _ aa.ext'
 refine ifd hp (fun df hp=>?_) fun df hp=>?_; rotate_left
 ·obtain rfl:=oi hp;exact hq _ aa.ext'
 intro vh ef;obtain⟨I,gf,dh,hf⟩:=aa.blk ef u 6;obtain⟨Pa,Qa,ba,ab⟩:=hf.freeze gf;have jf:Sl Pa (C.sl Lf.nxt 0 2 0 (Option.some 2)) ([(0:Int),(1:Int)]:List Int):=Bk.sl (α:=Int) (l:=([(0:Int),(1:Int)]:List Int)) ab (show Cat (α:=Int) Pa [Il 0,(Il (1:Int))] ([(0:Int),(1:Int)]:List Int) from ⟨[Il 0],_,rfl,rfl,⟨[(Il (1:Int))],_,rfl,rfl,rfl⟩⟩) rfl rfl _;obtain⟨eh,kf,hp⟩:=zqq hp;refine zwb (a:=ua.1) (b:=([(0:Int),(1:Int)]:List Int)) Qa.pre (va.sub (Sub.trans (Sub.trans (Sub.trans (Sub.trans (Sub.trans (Sub.trans g.fs h.fs) i.fs) j.fs) o.fs) d.fs) ba.fs)) jf kf fun wh lf=>?_;obtain⟨J,fh⟩:=Qa.call lf I;refine⟨_,rfl,?_⟩;refine zq0 hp (fun mf hp=>?_) fun mf hp=>?_; rotate_left
 ·obtain rfl:=oi hp;exact hq _ J.ext'
 refine ifd hp (fun nf hp=>?_) fun nf hp=>?_; rotate_left
 ·obtain rfl:=oi hp;exact hq _ J.ext'
 obtain⟨pf,qf,hp⟩:=zqq hp;refine zwf (n:=(300:Int)) J.pre  qf fun xh gh hh ih jh rf sf tf uf=>?_;obtain⟨Ra,Sa⟩:=J.callG rf I;refine⟨_,_,_,_,rfl,?_⟩;obtain⟨kh,vf,hp⟩:=zqq hp;refine zv5 (p:=pf) (set:=ua.1) (price:=(80:Int)) Ra.pre sf tf uf (va.sub (Sub.trans (Sub.trans (Sub.trans (Sub.trans (Sub.trans (Sub.trans (Sub.trans g.fs h.fs) i.fs) j.fs) o.fs) d.fs) ba.fs) Sa.fs)) vf fun Mf wf=>?_;obtain⟨F,lh⟩:=Ra.call wf I;refine⟨_,rfl,?_⟩;refine zq0 hp (fun xf hp=>?_) fun xf hp=>?_; rotate_left
 ·obtain rfl:=oi hp;exact hq _ F.ext'
 refine ifd hp (fun yf hp=>?_) fun yf hp=>?_; rotate_left
 ·obtain rfl:=oi hp;exact hq _ F.ext'
 refine ifd hp (fun zf hp=>?_) fun zf hp=>?_; rotate_left
 ·obtain rfl:=oi hp;exact hq _ F.ext'
 refine ifd hp (fun Af hp=>?_) fun Af hp=>?_; rotate_left
 ·obtain rfl:=oi hp;exact hq _ F.ext'
 intro yh Bf;obtain⟨Cf,Df,mh,Ef⟩:=F.blk Bf I 7;obtain⟨Ta,Ua,Ff,bb⟩:=Ef.freeze Df;have Gf:Sl Ta (C.sl Mf.nxt 0 1 0 (Option.some 1)) ([(0:Int)]:List Int):=Bk.sl (α:=Int) (l:=([(0:Int)]:List Int)) bb (show Cat (α:=Int) Ta [Il 0] ([(0:Int)]:List Int) from ⟨[Il 0],_,rfl,rfl,rfl⟩) rfl rfl _;obtain⟨nh,Hf,hp⟩:=zqq hp;refine zwb (a:=Cd.1) (b:=([(0:Int)]:List Int)) Ua.pre (Fd.sub (Sub.trans (Sub.trans (Sub.trans d.fs ba.fs) Sa.fs) Ff.fs)) Gf Hf fun zh If=>?_;obtain⟨Jf,oh⟩:=Ua.call If Cf;refine⟨_,rfl,?_⟩;obtain rfl:=oi hp;exact hq _ Jf.ext'
theorem zwh{m f:M}{Q:V->M->Prop}{rz:List Rpt}(hS:Pre f m)(hp:zt0=some rz)(hq:∀m' f' c0,Grw m f m' f'->On m f' m' c0 rz->Q (.c c0) m'):Wc prog tbl 18 [] m Q:=by
 have h:=hS.st;obtain⟨g,_⟩:=zr8;refine w18 ?_;unfold zt0 at hp;obtain⟨a,i,hp⟩:=zqq hp;refine zwc (low:=(103:Int)) (high:=(110:Int)) h.pre  i fun D j=>?_;obtain⟨e,z⟩:=h.call j g;refine⟨_,_,rfl,?_⟩;obtain⟨d,n,hp⟩:=zqq hp;refine zwc (low:=(45:Int)) (high:=(46:Int)) e.pre  n fun o p=>?_;obtain⟨q,A⟩:=e.call p g;refine⟨_,_,rfl,?_⟩;intro y r;obtain⟨s,t,B,u⟩:=q.blk r g 1;have w:Ow (Fm.of m) f s y 1 (C.sl o.nxt 0 2 0 (Option.some 2)) ([({ Treaty:=(0:Int),Paid:=a }:Rpt),({ Treaty:=(2:Int),Paid:=d }:Rpt)]:List Rpt):=u.owL (α:=Rpt) (l:=([({ Treaty:=(0:Int),Paid:=a }:Rpt),({ Treaty:=(2:Int),Paid:=d }:Rpt)]:List Rpt)) (show Cat (α:=Rpt) f [Il 0,Il a.Lo,Il a.Hi,(Il (2:Int)),Il d.Lo,Il d.Hi] ([({ Treaty:=(0:Int),Paid:=a }:Rpt),({ Treaty:=(2:Int),Paid:=d }:Rpt)]:List Rpt) from ⟨[Il 0,Il a.Lo,Il a.Hi],_,rfl,rfl,⟨[(Il (2:Int)),Il d.Lo,Il d.Hi],_,rfl,rfl,rfl⟩⟩) rfl rfl rfl;obtain rfl:=oi hp;exact hq _ f (C.sl o.nxt 0 2 0 (Option.some 2)) t.grw w.on
theorem zwi{reports:List Rpt}{ca100:C}{m f:M}{Q:V->M->Prop}{rz:PgT}(hS:Pre f m)(ha100:Sl f ca100 reports)(hp:zt1 reports=some rz)(hq:∀m' f' c0 c2 c3,Grw m f m' f'->Sl f' c0 rz.Losses->On m f' m' c2 rz.Treaties->Sl f' c3 rz.Reports->Q (.agg 4 [c0,Il rz.Reserve,c2,c3]) m'):Wc prog tbl 9 [.c ca100] m Q:=by
 have S0:=hS.st;obtain⟨τ0,_⟩:=zr8;refine w9 ?_;unfold zt1 at hp;intro m0 r;obtain⟨g,h,pa,s⟩:=S0.blk r τ0 1;obtain⟨a,t,hp⟩:=zqq hp;refine zwc (low:=(100:Int)) (high:=(120:Int)) h.pre  t fun m2 u=>?_;obtain⟨i,w⟩:=h.call u g;have y:=s.k w;refine⟨_,_,rfl,?_⟩;obtain⟨d,z,hp⟩:=zqq hp;refine zwc (low:=(300:Int)) (high:=(300:Int)) i.pre  z fun A B=>?_;obtain⟨D,F⟩:=i.call B g;have G:=y.k F;refine⟨_,_,rfl,?_⟩;intro I J;obtain⟨N,O,P,S⟩:=D.blk J g 2;have T:=G.k P;intro qa Y;obtain⟨Z,aa,j,ba⟩:=O.blk Y N 3;have ca:=T.k j;have da:=S.k j;obtain⟨n,ea,fa,o,ga⟩:=ca.sto aa [(C.sl A.nxt 0 2 0 (Option.some 2)),(Il (200:Int)),(C.sl I.nxt 0 3 0 (Option.some 3)),ca100];have ha:=da.k o;have ia:=ba.k o;refine⟨n,ea,?_⟩;refine⟨_,_,_,_,ga.bk.ra,?_⟩;obtain⟨e,ja,p,q⟩:=ha.freeze fa;have ka:=ia.k p;have la:Sl e (C.sl A.nxt 0 2 0 (Option.some 2)) ([a,d]:List Rg):=Bk.sl (α:=Rg) (l:=([a,d]:List Rg)) q (show Cat (α:=Rg) e [Il a.Lo,Il a.Hi,Il d.Lo,Il d.Hi] ([a,d]:List Rg) from ⟨[Il a.Lo,Il a.Hi],_,rfl,rfl,⟨[Il d.Lo,Il d.Hi],_,rfl,rfl,rfl⟩⟩) rfl rfl _;have ma:Ow (Fm.of m) e Z n 3 (C.sl I.nxt 0 3 0 (Option.some 3)) ([({ Kind:=(0:Int),Part:=(25:Int),Above:=(0:Int),Most:=(0:Int),Times:=(0:Int),Price:=(50:Int),Of:=(-1:Int) }:Ty),({ Kind:=(1:Int),Part:=(0:Int),Above:=(50:Int),Most:=(100:Int),Times:=(0:Int),Price:=(30:Int),Of:=(-1:Int) }:Ty),({ Kind:=(1:Int),Part:=(0:Int),Above:=(20:Int),Most:=(40:Int),Times:=(1:Int),Price:=(5:Int),Of:=(0:Int) }:Ty)]:List Ty):=ka.owL (α:=Ty) (l:=([({ Kind:=(0:Int),Part:=(25:Int),Above:=(0:Int),Most:=(0:Int),Times:=(0:Int),Price:=(50:Int),Of:=(-1:Int) }:Ty),({ Kind:=(1:Int),Part:=(0:Int),Above:=(50:Int),Most:=(100:Int),Times:=(0:Int),Price:=(30:Int),Of:=(-1:Int) }:Ty),({ Kind:=(1:Int),Part:=(0:Int),Above:=(20:Int),Most:=(40:Int),Times:=(1:Int),Price:=(5:Int),Of:=(0:Int) }:Ty)]:List Ty)) (show Cat (α:=Ty) e [Il 0,(Il (25:Int)),Il 0,Il 0,Il 0,(Il (50:Int)),(Il (-1:Int)),(Il (1:Int)),Il 0,(Il (50:Int)),(Il (100:Int)),Il 0,(Il (30:Int)),(Il (-1:Int)),(Il (1:Int)),Il 0,(Il (20:Int)),(Il (40:Int)),(Il (1:Int)),(Il (5:Int)),Il 0] ([({ Kind:=(0:Int),Part:=(25:Int),Above:=(0:Int),Most:=(0:Int),Times:=(0:Int),Price:=(50:Int),Of:=(-1:Int) }:Ty),({ Kind:=(1:Int),Part:=(0:Int),Above:=(50:Int),Most:=(100:Int),Times:=(0:Int),Price:=(30:Int),Of:=(-1:Int) }:Ty),({ Kind:=(1:Int),Part:=(0:Int),Above:=(20:Int),Most:=(40:Int),Times:=(1:Int),Price:=(5:Int),Of:=(0:Int) }:Ty)]:List Ty) from ⟨[Il 0,(Il (25:Int)),Il 0,Il 0,Il 0,(Il (50:Int)),(Il (-1:Int))],_,rfl,rfl,⟨[(Il (1:Int)),Il 0,(Il (50:Int)),(Il (100:Int)),Il 0,(Il (30:Int)),(Il (-1:Int))],_,rfl,rfl,⟨[(Il (1:Int)),Il 0,(Il (20:Int)),(Il (40:Int)),(Il (1:Int)),(Il (5:Int)),Il 0],_,rfl,rfl,rfl⟩⟩⟩) rfl rfl rfl
 obtain rfl:=oi hp;exact hq _ e (C.sl A.nxt 0 2 0 (Option.some 2)) (C.sl I.nxt 0 3 0 (Option.some 3)) ca100 ja.grw la ma.on (ha100.sub p.fs)
theorem zwj{reports:List Rpt}{ca100:C}{m f:M}{Q:V->M->Prop}{rz:PgL}(hS:Pre f m)(ha100:Sl f ca100 reports)(hp:zt2 reports=some rz)(hq:∀m' f' c0 c2 c3,Grw m f m' f'->On m f' m' c0 rz.Losses->Sl f' c2 rz.Treaties->Sl f' c3 rz.Reports->Q (.agg 4 [c0,Il rz.Reserve,c2,c3]) m'):Wc prog tbl 9 [.c ca100] m Q:=by
 have S0:=hS.st;obtain⟨τ0,_⟩:=zr8;refine w9 ?_;unfold zt2 at hp;intro m0 r;obtain⟨g,h,pa,s⟩:=S0.blk r τ0 1;obtain⟨a,t,hp⟩:=zqq hp;refine zwc (low:=(100:Int)) (high:=(120:Int)) h.pre  t fun m2 u=>?_;obtain⟨i,w⟩:=h.call u g;have y:=s.k w;refine⟨_,_,rfl,?_⟩;obtain⟨d,z,hp⟩:=zqq hp;refine zwc (low:=(300:Int)) (high:=(300:Int)) i.pre  z fun A B=>?_;obtain⟨D,F⟩:=i.call B g;have G:=y.k F;refine⟨_,_,rfl,?_⟩;intro I J;obtain⟨N,O,P,S⟩:=D.blk J g 2;have T:=G.k P;intro qa Y;obtain⟨Z,aa,j,ba⟩:=O.blk Y N 3;have ca:=T.k j;have da:=S.k j;obtain⟨n,ea,fa,o,ga⟩:=ca.sto aa [(C.sl A.nxt 0 2 0 (Option.some 2)),(Il (200:Int)),(C.sl I.nxt 0 3 0 (Option.some 3)),ca100];have ha:=da.k o;have ia:=ba.k o;refine⟨n,ea,?_⟩;refine⟨_,_,_,_,ga.bk.ra,?_⟩;obtain⟨e,ja,p,q⟩:=ia.freeze fa;have ka:=ha.k p;have la:Sl e (C.sl I.nxt 0 3 0 (Option.some 3)) ([({ Kind:=(0:Int),Part:=(25:Int),Above:=(0:Int),Most:=(0:Int),Times:=(0:Int),Price:=(50:Int),Of:=(-1:Int) }:Ty),({ Kind:=(1:Int),Part:=(0:Int),Above:=(50:Int),Most:=(100:Int),Times:=(0:Int),Price:=(30:Int),Of:=(-1:Int) }:Ty),({ Kind:=(1:Int),Part:=(0:Int),Above:=(20:Int),Most:=(40:Int),Times:=(1:Int),Price:=(5:Int),Of:=(0:Int) }:Ty)]:List Ty):=Bk.sl (α:=Ty) (l:=([({ Kind:=(0:Int),Part:=(25:Int),Above:=(0:Int),Most:=(0:Int),Times:=(0:Int),Price:=(50:Int),Of:=(-1:Int) }:Ty),({ Kind:=(1:Int),Part:=(0:Int),Above:=(50:Int),Most:=(100:Int),Times:=(0:Int),Price:=(30:Int),Of:=(-1:Int) }:Ty),({ Kind:=(1:Int),Part:=(0:Int),Above:=(20:Int),Most:=(40:Int),Times:=(1:Int),Price:=(5:Int),Of:=(0:Int) }:Ty)]:List Ty)) q (show Cat (α:=Ty) e [Il 0,(Il (25:Int)),Il 0,Il 0,Il 0,(Il (50:Int)),(Il (-1:Int)),(Il (1:Int)),Il 0,(Il (50:Int)),(Il (100:Int)),Il 0,(Il (30:Int)),(Il (-1:Int)),(Il (1:Int)),Il 0,(Il (20:Int)),(Il (40:Int)),(Il (1:Int)),(Il (5:Int)),Il 0] ([({ Kind:=(0:Int),Part:=(25:Int),Above:=(0:Int),Most:=(0:Int),Times:=(0:Int),Price:=(50:Int),Of:=(-1:Int) }:Ty),({ Kind:=(1:Int),Part:=(0:Int),Above:=(50:Int),Most:=(100:Int),Times:=(0:Int),Price:=(30:Int),Of:=(-1:Int) }:Ty),({ Kind:=(1:Int),Part:=(0:Int),Above:=(20:Int),Most:=(40:Int),Times:=(1:Int),Price:=(5:Int),Of:=(0:Int) }:Ty)]:List Ty) from ⟨[Il 0,(Il (25:Int)),Il 0,Il 0,Il 0,(Il (50:Int)),(Il (-1:Int))],_,rfl,rfl,⟨[(Il (1:Int)),Il 0,(Il (50:Int)),(Il (100:Int)),Il 0,(Il (30:Int)),(Il (-1:Int))],_,rfl,rfl,⟨[(Il (1:Int)),Il 0,(Il (20:Int)),(Il (40:Int)),(Il (1:Int)),(Il (5:Int)),Il 0],_,rfl,rfl,rfl⟩⟩⟩) rfl rfl _
 have ma:Ow (Fm.of m) e Z n 2 (C.sl A.nxt 0 2 0 (Option.some 2)) ([a,d]:List Rg):=ka.owL (α:=Rg) (l:=([a,d]:List Rg)) (show Cat (α:=Rg) e [Il a.Lo,Il a.Hi,Il d.Lo,Il d.Hi] ([a,d]:List Rg) from ⟨[Il a.Lo,Il a.Hi],_,rfl,rfl,⟨[Il d.Lo,Il d.Hi],_,rfl,rfl,rfl⟩⟩) rfl rfl rfl;obtain rfl:=oi hp;exact hq _ e (C.sl A.nxt 0 2 0 (Option.some 2)) (C.sl I.nxt 0 3 0 (Option.some 3)) ca100 ja.grw ma.on la (ha100.sub p.fs)
set_option maxHeartbeats 4000000 in
theorem zwk{m f:M}{Q:V->M->Prop}{rz:Bool}(hS:Pre f m)(hp:zt3=some rz)(hq:∀m',Ext m m'->Q (.c (.bool rz)) m'):Wc prog tbl 3 [] m Q:=by
 have S0:=hS.st;obtain⟨τ0,_⟩:=zr8;refine w3 ?_;unfold zt3 at hp;obtain⟨zt,At,hp⟩:=zqq hp;refine zwd (reports:=[]) S0.pre (Sl.nil _) At fun m1 kB lB mB nB Bt Ct Dt Et=>?_;obtain⟨Ft,oB⟩:=S0.callG Bt τ0;refine⟨_,_,_,_,rfl,?_⟩;intro m6 Gt;obtain⟨Zc,Ht,pB,Jt⟩:=Ft.blk Gt τ0 1;obtain⟨Ae,Be,ad,Pf⟩:=Jt.freeze Ht;have Kt:Sl Ae (C.sl m1.nxt 0 2 0 (Option.some 2)) ([(120:Int),(300:Int)]:List Int):=Bk.sl (α:=Int) (l:=([(120:Int),(300:Int)]:List Int)) Pf (show Cat (α:=Int) Ae [(Il (120:Int)),(Il (300:Int))] ([(120:Int),(300:Int)]:List Int) from ⟨[(Il (120:Int))],_,rfl,rfl,⟨[(Il (300:Int))],_,rfl,rfl,rfl⟩⟩) rfl rfl _;obtain⟨Lt,Nt,hp⟩:=zqq hp;refine zvR (p:=zt) (losses:=([(120:Int),(300:Int)]:List Int)) Be.pre (Ct.sub ad.fs) (Dt.sub ad.fs) (Et.sub ad.fs) Kt Nt fun m8 qB rB Ot Pt=>?_;obtain⟨Ce,sB⟩:=Be.callG Ot Zc;refine⟨_,_,_,rfl,?_⟩;obtain⟨Qt,Rt,hp⟩:=zqq hp;refine zwd (reports:=[]) Ce.pre (Sl.nil _) Rt fun lA tB uB wB xB Tt Ut Vt Yt=>?_;obtain⟨Zt,au⟩:=Ce.callG Tt Zc;refine⟨_,_,_,_,rfl,?_⟩;intro OE bu;obtain⟨De,cu,yB,du⟩:=Zt.blk bu Zc 2;obtain⟨Ee,Fe,Ub,Qf⟩:=du.freeze cu;have eu:Sl Ee (C.sl lA.nxt 0 1 0 (Option.some 1)) ([(0:Int)]:List Int):=Bk.sl (α:=Int) (l:=([(0:Int)]:List Int)) Qf (show Cat (α:=Int) Ee [Il 0] ([(0:Int)]:List Int) from ⟨[Il 0],_,rfl,rfl,rfl⟩) rfl rfl _;obtain⟨Ge,fu,hp⟩:=zqq hp;refine zv2 (p:=Qt) (set:=([(0:Int)]:List Int)) Fe.pre (Ut.sub Ub.fs) (Vt.sub Ub.fs) (Yt.sub Ub.fs) eu fu fun PE gu=>?_;obtain⟨hu,zB⟩:=Fe.call gu De;refine⟨_,_,_,rfl,?_⟩
 intro QE iu;obtain⟨pb,ju,AB,ku⟩:=hu.blk iu De 3;obtain⟨lu,mu,He,BB,nu⟩:=ku.sto ju [Il Ge.1.Lo,Il Ge.1.Hi];refine⟨lu,mu,?_⟩;obtain⟨ou,pu,hp⟩:=zqq hp;refine zwf (n:=(320:Int)) He.pre  pu fun SE CB DB EB FB qu ru su tu=>?_;obtain⟨Ie,Je⟩:=He.callG qu pb;have uu:=nu.k Je;refine⟨_,_,_,_,rfl,?_⟩;obtain⟨vu,xu,hp⟩:=zqq hp;refine zv4 (p:=ou) Ie.pre ru su tu xu fun TE GB HB yu zu=>?_;obtain⟨Ke,Me⟩:=Ie.callG yu pb;have Au:=uu.k Me;refine⟨_,_,_,rfl,?_⟩;obtain⟨Bu,Cu,hp⟩:=zqq hp;refine zwf (n:=(315:Int)) Ke.pre  Cu fun UE IB JB KB LB Du Eu Fu Gu=>?_;obtain⟨Ne,bd⟩:=Ke.callG Du pb;have Hu:=Au.k bd;refine⟨_,_,_,_,rfl,?_⟩;obtain⟨Iu,Ju,hp⟩:=zqq hp;refine zv4 (p:=Bu) Ne.pre Eu Fu Gu Ju fun VE MB NB Ku Lu=>?_;obtain⟨Oe,cd⟩:=Ne.callG Ku pb;have Mu:=Hu.k cd;refine⟨_,_,_,rfl,?_⟩;obtain⟨Nu,Ou,hp⟩:=zqq hp;refine zwd (reports:=[]) Oe.pre (Sl.nil _) Ou fun WE OB PB QB RB Pu Qu Ru Su=>?_;obtain⟨Pe,Vb⟩:=Oe.callG Pu pb;have Tu:=Mu.k Vb;refine⟨_,_,_,_,rfl,?_⟩;obtain⟨SB,Uu,hp⟩:=zqq hp;refine zwa (p:=Nu) Pe.pre Qu Ru Su Uu fun Qe UB VB Vu Re=>?_;obtain⟨Wu,Wb⟩:=Pe.callG Vu pb;have Xu:=Tu.k Wb;refine⟨_,_,rfl,?_⟩;intro mA Yu;obtain⟨Zu,Se,av,Xb⟩:=Wu.growK Yu pb 4;have bv:=Xu.k av;have cv:=Xb 0 (by decide);have dv:=Xb 1 (by decide);have fv:=Xb 2 (by decide);refine zqZ hp (fun gv hp=>?_) fun gv hp=>?_
 ·obtain rfl:=oi hp;exact hq _ Se.ext'
 intro XE hv;obtain⟨dd,iv,Yb,jv⟩:=Se.blk hv Zu 7;have kv:=bv.k Yb;have lv:=cv.k Yb;have nv:=dv.k Yb;have ov:=fv.k Yb;obtain⟨Te,Ue,qb,Rf⟩:=jv.freeze iv;have pv:=kv.k qb;have qv:=lv.k qb;have rv:=nv.k qb;have sv:=ov.k qb;have tv:Sl Te (C.sl mA.nxt 0 3 0 (Option.some 3)) ([(105:Int),(100:Int),(50:Int)]:List Int):=Bk.sl (α:=Int) (l:=([(105:Int),(100:Int),(50:Int)]:List Int)) Rf (show Cat (α:=Int) Te [(Il (105:Int)),(Il (100:Int)),(Il (50:Int))] ([(105:Int),(100:Int),(50:Int)]:List Int) from ⟨[(Il (105:Int))],_,rfl,rfl,⟨[(Il (100:Int))],_,rfl,rfl,⟨[(Il (50:Int))],_,rfl,rfl,rfl⟩⟩⟩) rfl rfl _;obtain⟨WB,uv,hp⟩:=zqq hp;refine zwb (a:=Lt.1) (b:=([(105:Int),(100:Int),(50:Int)]:List Int)) Ue.pre (Pt.sub (Sub.trans (Sub.trans (Sub.trans (Sub.trans (Sub.trans (Sub.trans (Sub.trans (Sub.trans au.fs Ub.fs) Je.fs) Me.fs) bd.fs) cd.fs) Vb.fs) Wb.fs) qb.fs)) tv uv fun YE vv=>?_;obtain⟨Ib,Zb⟩:=Ue.call vv dd;have Ve:=pv.k Zb;have wv:=qv.k Zb;have xv:=rv.k Zb;have yv:=sv.k Zb;refine⟨_,rfl,?_⟩;refine zq1 hp (fun zv hp=>?_) fun zv hp=>?_
 ·obtain rfl:=oi hp;exact hq _ Ib.ext'
 refine zqZ hp (fun Av hp=>?_) fun Av hp=>?_
 ·obtain rfl:=oi hp;exact hq _ Ib.ext'
 refine zqZ hp (fun Bv hp=>?_) fun Bv hp=>?_
 ·obtain rfl:=oi hp;exact hq _ Ib.ext'
 refine⟨_,_,Ve.bk.ra,?_⟩;obtain⟨XB,Cv,hp⟩:=zqq hp;refine zwc (low:=(300:Int)) (high:=(315:Int)) Ib.pre  Cv fun nA Dv=>?_;obtain⟨ed,ac⟩:=Ib.call Dv dd;have Fv:=Ve.k ac;have Gv:=wv.k ac;have Hv:=xv.k ac;have Iv:=yv.k ac;refine⟨_,_,rfl,(Fv.bk.ra),?_⟩;refine gdi hp fun Jv hp=>?_;refine gdi hp fun Kv hp=>?_;refine gdi hp fun Lv hp=>?_;refine gdi hp fun Mv hp=>?_;refine zq1 hp (fun Nv hp=>?_) fun Nv hp=>?_
 ·obtain rfl:=oi hp;exact hq _ ed.ext'
 refine zqZ hp (fun Ov hp=>?_) fun Ov hp=>?_
 ·obtain rfl:=oi hp;exact hq _ ed.ext'
 intro ZE Pv;obtain⟨We,Qv,fd,Rv⟩:=ed.blk Pv dd 8;have Sv:=Gv.k fd;have Tv:=Hv.k fd;have Uv:=Iv.k fd;obtain⟨Xe,Ye,Jb,Sf⟩:=Rv.freeze Qv;have Vv:=Sv.k Jb;have Wv:=Tv.k Jb;have Xv:=Uv.k Jb;have Yv:Sl Xe (C.sl nA.nxt 0 1 0 (Option.some 1)) ([(1:Int)]:List Int):=Bk.sl (α:=Int) (l:=([(1:Int)]:List Int)) Sf (show Cat (α:=Int) Xe [(Il (1:Int))] ([(1:Int)]:List Int) from ⟨[(Il (1:Int))],_,rfl,rfl,rfl⟩) rfl rfl _;obtain⟨YB,Zv,hp⟩:=zqq hp;refine zwb (a:=vu.1) (b:=([(1:Int)]:List Int)) Ye.pre (zu.sub (Sub.trans (Sub.trans (Sub.trans (Sub.trans (Sub.trans bd.fs cd.fs) Vb.fs) Wb.fs) qb.fs) Jb.fs)) Yv Zv fun oA bw=>?_;obtain⟨bc,hd⟩:=Ye.call bw We;have cw:=Vv.k hd;have dw:=Wv.k hd;have ew:=Xv.k hd;refine⟨_,rfl,?_⟩;refine zq1 hp (fun fw hp=>?_) fun fw hp=>?_
 ·obtain rfl:=oi hp;exact hq _ bc.ext'
 refine zqZ hp (fun gw hp=>?_) fun gw hp=>?_
 ·obtain rfl:=oi hp;exact hq _ bc.ext'
 refine zqZ hp (fun hw hp=>?_) fun hw hp=>?_
 ·obtain rfl:=oi hp;exact hq _ bc.ext'
 intro aF iw;obtain⟨cb,jw,id,kw⟩:=bc.blk iw We 9;have lw:=cw.k id;have mw:=dw.k id;have nw:=ew.k id;obtain⟨Ze,af,cc,Tf⟩:=kw.freeze jw;have pw:=lw.k cc;have qw:=mw.k cc;have sw:=nw.k cc;have tw:Sl Ze (C.sl oA.nxt 0 1 0 (Option.some 1)) ([(0:Int)]:List Int):=Bk.sl (α:=Int) (l:=([(0:Int)]:List Int)) Tf (show Cat (α:=Int) Ze [Il 0] ([(0:Int)]:List Int) from ⟨[Il 0],_,rfl,rfl,rfl⟩) rfl rfl _;obtain⟨ZB,uw,hp⟩:=zqq hp;refine zwb (a:=Iu.1) (b:=([(0:Int)]:List Int)) af.pre (Lu.sub (Sub.trans (Sub.trans (Sub.trans (Sub.trans Vb.fs Wb.fs) qb.fs) Jb.fs) cc.fs)) tw uw fun bF vw=>?_;obtain⟨Fb,jd⟩:=af.call vw cb;have ww:=pw.k jd;have xw:=qw.k jd;have yw:=sw.k jd;refine⟨_,rfl,?_⟩;refine zq1 hp (fun zw hp=>?_) fun zw hp=>?_
 ·obtain rfl:=oi hp;exact hq _ Fb.ext'
 refine zqZ hp (fun Aw hp=>?_) fun Aw hp=>?_
 ·obtain rfl:=oi hp;exact hq _ Fb.ext'
 refine zqZ hp (fun Bw hp=>?_) fun Bw hp=>?_
 ·obtain rfl:=oi hp;exact hq _ Fb.ext'
 refine⟨Re.isSl,?_⟩
 try rw[Re.slLen]
 refine zqZ hp (fun Cw hp=>?_) fun Cw hp=>?_
 ·obtain rfl:=oi hp;exact hq _ Fb.ext'
 obtain⟨Dw,Ew,hp⟩:=zqq hp;refine zwf (n:=(315:Int)) Fb.pre  Ew fun cF aC bC cC dC Fw Gw Hw Iw=>?_;obtain⟨Jw,kd⟩:=Fb.callG Fw cb;have Kw:=ww.k kd;have Lw:=xw.k kd;have Mw:=yw.k kd;refine⟨_,_,_,_,rfl,?_⟩;intro dF Nw;obtain⟨Pw,bf,Qw⟩:=Kw.set Jw Nw;have Rw:=Lw.k bf;have Sw:=Mw.k bf;obtain⟨cf,df,Kb,Uf⟩:=Qw.freeze Pw;have Tw:=Rw.k Kb;have Uw:=Sw.k Kb;have Vw:Sl cf (C.sl (Qe.nxt+0) 0 1 0 (Option.some 1)) ([(0:Int)]:List Int):=Bk.sl (α:=Int) (l:=([(0:Int)]:List Int)) Uf (show Cat (α:=Int) cf [Il 0] ([(0:Int)]:List Int) from ⟨[Il 0],_,rfl,rfl,rfl⟩) rfl rfl _;obtain⟨eC,Ww,hp⟩:=zqq hp;refine zv5 (p:=Dw) (set:=([(0:Int)]:List Int)) (price:=(49:Int)) df.pre (Gw.sub Kb.fs) (Hw.sub Kb.fs) (Iw.sub Kb.fs) Vw Ww fun eF Xw=>?_;obtain⟨ld,ef⟩:=df.call Xw cb;have Yw:=Tw.k ef;have Zw:=Uw.k ef;refine⟨_,rfl,?_⟩;refine zq0 hp (fun ax hp=>?_) fun ax hp=>?_
 ·obtain rfl:=oi hp;exact hq _ ld.ext'
 obtain⟨bx,cx,hp⟩:=zqq hp;refine zwf (n:=(314:Int)) ld.pre  cx fun fF fC gC hC iC dx ex fx gx=>?_;obtain⟨hx,gf⟩:=ld.callG dx cb;have jx:=Yw.k gf;have kx:=Zw.k gf;refine⟨_,_,_,_,rfl,?_⟩;intro gF lx;obtain⟨mx,nx,ox⟩:=jx.set hx lx;have px:=kx.k nx;obtain⟨hf,jf,dc,Vf⟩:=ox.freeze mx;have qx:=px.k dc;have rx:Sl hf (C.sl (Qe.nxt+1) 0 1 0 (Option.some 1)) ([(0:Int)]:List Int):=Bk.sl (α:=Int) (l:=([(0:Int)]:List Int)) Vf (show Cat (α:=Int) hf [Il 0] ([(0:Int)]:List Int) from ⟨[Il 0],_,rfl,rfl,rfl⟩) rfl rfl _;obtain⟨jC,sx,hp⟩:=zqq hp;refine zv5 (p:=bx) (set:=([(0:Int)]:List Int)) (price:=(50:Int)) jf.pre (ex.sub dc.fs) (fx.sub dc.fs) (gx.sub dc.fs) rx sx fun hF tx=>?_;obtain⟨md,ux⟩:=jf.call tx cb;have vx:=qx.k ux;refine⟨_,rfl,?_⟩;refine zq0 hp (fun wx hp=>?_) fun wx hp=>?_
 ·obtain rfl:=oi hp;exact hq _ md.ext'
 obtain⟨xx,yx,hp⟩:=zqq hp;refine zwf (n:=(315:Int)) md.pre  yx fun iF kC lC mC nC zx Ax Bx Cx=>?_;obtain⟨Dx,Fx⟩:=md.callG zx cb;have Gx:=vx.k Fx;refine⟨_,_,_,_,rfl,?_⟩;intro oC Hx;obtain⟨Ix,pC,Jx⟩:=Gx.set Dx Hx;obtain⟨kf,lf,nd,Wf⟩:=Jx.freeze Ix;have Kx:Sl kf (C.sl (Qe.nxt+2) 0 2 0 (Option.some 2)) ([(0:Int),(2:Int)]:List Int):=Bk.sl (α:=Int) (l:=([(0:Int),(2:Int)]:List Int)) Wf (show Cat (α:=Int) kf [Il 0,(Il (2:Int))] ([(0:Int),(2:Int)]:List Int) from ⟨[Il 0],_,rfl,rfl,⟨[(Il (2:Int))],_,rfl,rfl,rfl⟩⟩) rfl rfl _;obtain⟨qC,Lx,hp⟩:=zqq hp;refine zv5 (p:=xx) (set:=([(0:Int),(2:Int)]:List Int)) (price:=(99:Int)) lf.pre (Ax.sub nd.fs) (Bx.sub nd.fs) (Cx.sub nd.fs) Kx Lx fun rC Mx=>?_;obtain⟨od,sC⟩:=lf.call Mx cb;refine⟨_,rfl,?_⟩;refine zq0 hp (fun Nx hp=>?_) fun Nx hp=>?_
 ·obtain rfl:=oi hp;exact hq _ od.ext'
 obtain⟨Ox,Px,hp⟩:=zqq hp;refine zwd (reports:=[]) od.pre (Sl.nil _) Px fun Qx tC uC vC wC Rx Sx Tx Ux=>?_;obtain⟨Vx,xC⟩:=od.callG Rx cb;refine⟨_,_,_,_,rfl,?_⟩;intro yC Wx;obtain⟨pd,Xx,zC,Yx⟩:=Vx.blk Wx cb 10;obtain⟨mf,nf,qd,Xf⟩:=Yx.freeze Xx;have Zx:Sl mf (C.sl Qx.nxt 0 2 0 (Option.some 2)) ([(99:Int),(300:Int)]:List Int):=Bk.sl (α:=Int) (l:=([(99:Int),(300:Int)]:List Int)) Xf (show Cat (α:=Int) mf [(Il (99:Int)),(Il (300:Int))] ([(99:Int),(300:Int)]:List Int) from ⟨[(Il (99:Int))],_,rfl,rfl,⟨[(Il (300:Int))],_,rfl,rfl,rfl⟩⟩) rfl rfl _;obtain⟨AC,ay,hp⟩:=zqq hp;refine zvR (p:=Ox) (losses:=([(99:Int),(300:Int)]:List Int)) nf.pre (Sx.sub qd.fs) (Tx.sub qd.fs) (Ux.sub qd.fs) Zx ay fun BC CC DC cy EC=>?_;obtain⟨pf,FC⟩:=nf.callG cy pd;refine⟨_,_,_,rfl,?_⟩;obtain⟨dy,ey,hp⟩:=zqq hp;refine zwd (reports:=[]) pf.pre (Sl.nil _) ey fun fy GC HC IC JC gy hy iy jy=>?_;obtain⟨ky,KC⟩:=pf.callG gy pd;refine⟨_,_,_,_,rfl,?_⟩;intro LC ly;obtain⟨sd,my,MC,ny⟩:=ky.blk ly pd 11;obtain⟨qf,rf,td,Yf⟩:=ny.freeze my;have oy:Sl qf (C.sl fy.nxt 0 1 0 (Option.some 1)) ([(100:Int)]:List Int):=Bk.sl (α:=Int) (l:=([(100:Int)]:List Int)) Yf (show Cat (α:=Int) qf [(Il (100:Int))] ([(100:Int)]:List Int) from ⟨[(Il (100:Int))],_,rfl,rfl,rfl⟩) rfl rfl _;obtain⟨NC,py,hp⟩:=zqq hp;refine zvR (p:=dy) (losses:=([(100:Int)]:List Int)) rf.pre (hy.sub td.fs) (iy.sub td.fs) (jy.sub td.fs) oy py fun OC PC QC qy RC=>?_;obtain⟨sf,SC⟩:=rf.callG qy sd;refine⟨_,_,_,rfl,?_⟩;obtain⟨ry,sy,hp⟩:=zqq hp;refine zwd (reports:=[]) sf.pre (Sl.nil _) sy fun uy UC VC WC XC vy wy xy yy=>?_
 obtain⟨zy,YC⟩:=sf.callG vy sd;refine⟨_,_,_,_,rfl,?_⟩;intro ZC Ay;obtain⟨ud,By,aD,Cy⟩:=zy.blk Ay sd 12;obtain⟨tf,uf,vd,Zf⟩:=Cy.freeze By;have Dy:Sl tf (C.sl uy.nxt 0 1 0 (Option.some 1)) ([(2:Int)]:List Int):=Bk.sl (α:=Int) (l:=([(2:Int)]:List Int)) Zf (show Cat (α:=Int) tf [(Il (2:Int))] ([(2:Int)]:List Int) from ⟨[(Il (2:Int))],_,rfl,rfl,rfl⟩) rfl rfl _;obtain⟨bD,Ey,hp⟩:=zqq hp;refine zv2 (p:=ry) (set:=([(2:Int)]:List Int)) uf.pre (wy.sub vd.fs) (xy.sub vd.fs) (yy.sub vd.fs) Dy Ey fun cD Fy=>?_;obtain⟨vf,dD⟩:=uf.call Fy ud;refine⟨_,_,_,rfl,?_⟩;obtain⟨Gy,Hy,hp⟩:=zqq hp;refine zwd (reports:=[]) vf.pre (Sl.nil _) Hy fun Iy eD fD gD hD Jy Ky Ly My=>?_;obtain⟨Ny,iD⟩:=vf.callG Jy ud;refine⟨_,_,_,_,rfl,?_⟩;intro jD Oy;obtain⟨ec,Py,kD,Qy⟩:=Ny.blk Oy ud 13;obtain⟨wf,xf,xd,ag⟩:=Qy.freeze Py;have Ry:Sl wf (C.sl Iy.nxt 0 2 0 (Option.some 2)) ([(1:Int),(0:Int)]:List Int):=Bk.sl (α:=Int) (l:=([(1:Int),(0:Int)]:List Int)) ag (show Cat (α:=Int) wf [(Il (1:Int)),Il 0] ([(1:Int),(0:Int)]:List Int) from ⟨[(Il (1:Int))],_,rfl,rfl,⟨[Il 0],_,rfl,rfl,rfl⟩⟩) rfl rfl _;obtain⟨lD,Sy,hp⟩:=zqq hp;refine zv2 (p:=Gy) (set:=([(1:Int),(0:Int)]:List Int)) xf.pre (Ky.sub xd.fs) (Ly.sub xd.fs) (My.sub xd.fs) Ry Sy fun mD Uy=>?_;obtain⟨yf,nD⟩:=xf.call Uy ec;refine⟨_,_,_,rfl,?_⟩;obtain⟨Vy,Xy,hp⟩:=zqq hp;refine zwd (reports:=[]) yf.pre (Sl.nil _) Xy fun oD pD qD rD sD Yy Zy az bz=>?_;obtain⟨zf,tD⟩:=yf.callG Yy ec;refine⟨_,_,_,_,rfl,?_⟩;obtain⟨uD,cz,hp⟩:=zqq hp;refine zv4 (p:=Vy) zf.pre Zy az bz cz fun vD wD xD dz yD=>?_
 obtain⟨Af,zD⟩:=zf.callG dz ec;refine⟨_,_,_,rfl,?_⟩;obtain⟨ez,fz,hp⟩:=zqq hp;refine zwh Af.pre  fz fun AD BD CD gz hz=>?_;obtain⟨Mb,iz,DD,jz⟩:=Af.callO gz hz ec 14;refine⟨_,rfl,?_⟩;obtain⟨ED,Bf,FD,kz⟩:=jz.freeze iz;obtain⟨lz,mz,hp⟩:=zqq hp;refine zwd (reports:=ez) Bf.pre kz mz fun GD HD ID JD KD nz oz pz qz=>?_;obtain⟨Cf,LD⟩:=Bf.callG nz Mb;refine⟨_,_,_,_,rfl,?_⟩;obtain⟨MD,sz,hp⟩:=zqq hp;refine zvY (p:=lz) Cf.pre oz pz qz sz fun ND OD PD tz QD=>?_;obtain⟨Df,RD⟩:=Cf.callG tz Mb;refine⟨_,_,rfl,?_⟩;obtain⟨uz,vz,hp⟩:=zqq hp;refine zwd (reports:=[]) Df.pre (Sl.nil _) vz fun SD TD UD VD WD xz yz zz Az=>?_;obtain⟨Ef,XD⟩:=Df.callG xz Mb;refine⟨_,_,_,_,rfl,?_⟩;obtain⟨ZD,Bz,hp⟩:=zqq hp;refine zv8 (p:=uz) Ef.pre yz zz Az Bz fun aE Cz=>?_;obtain⟨Ff,bE⟩:=Ef.call Cz Mb;refine⟨_,_,rfl,?_⟩;obtain⟨rb,Dz,hp⟩:=zqq hp;refine zwi (reports:=[]) Ff.pre (Sl.nil _) Dz fun cE dE Ez Fz Gz Hz Iz Jz Kz=>?_;obtain⟨Lz,Gf,eE,o⟩:=Ff.callO Hz Jz Mb 15;refine⟨_,_,_,_,rfl,?_⟩;obtain⟨sb,Mz,hp⟩:=zqq hp;refine zwi (reports:=[]) Gf.pre (Sl.nil _) Mz fun fE gE Nz Oz Pz Qz Rz Sz Tz=>?_;obtain⟨Uz,Hf,yd,q⟩:=Gf.callO Qz Sz Lz 16;have o:=o.k yd;refine⟨_,_,_,_,rfl,?_⟩;obtain⟨tb,Vz,hp⟩:=zqq hp;refine zwi (reports:=[]) Hf.pre (Sl.nil _) Vz fun hE iE Wz Xz Yz Zz aA bA cA=>?_;obtain⟨dA,If,Gb,r⟩:=Hf.callO Zz bA Uz 17;have o:=o.k Gb;have q:=q.k Gb;refine⟨_,_,_,_,rfl,?_⟩;obtain⟨ub,eA,hp⟩:=zqq hp;refine zwi (reports:=[]) If.pre (Sl.nil _) eA fun jE kE fA gA bg hA iA cg dg=>?_
 obtain⟨eg,Jf,db,d⟩:=If.callO hA cg dA 18;have o:=o.k db;have q:=q.k db;have r:=r.k db;refine⟨_,_,_,_,rfl,?_⟩;obtain⟨eb,fg,hp⟩:=zqq hp;refine zwi (reports:=[]) Jf.pre (Sl.nil _) fg fun lE EA gg hg ig jg kg lg mg=>?_;obtain⟨ng,Ad,La,e⟩:=Jf.callO jg lg eg 19;have o:=o.k La;have q:=q.k La;have r:=r.k La;have d:=d.k La;refine⟨_,_,_,_,rfl,?_⟩;obtain⟨fc,og,hp⟩:=zqq hp;refine zwh Ad.pre  og fun mE FA Cd pg qg=>?_;obtain⟨rg,sg,Da,g⟩:=Ad.callO pg qg ng 20;have o:=o.k Da;have q:=q.k Da;have r:=r.k Da;have d:=d.k Da;have e:=e.k Da;refine⟨_,rfl,?_⟩;refine w9 ?_;intro m0i1035 tg;obtain⟨gc,Dd,kb,ug⟩:=sg.blk tg rg 21;have o:=o.k kb;have q:=q.k kb;have r:=r.k kb;have d:=d.k kb;have e:=e.k kb;have g:=g.k kb;obtain⟨Ua,vg,hp⟩:=zqq hp;refine zwc (low:=(100:Int)) (high:=(120:Int)) Dd.pre  vg fun m2i1035 xg=>?_;obtain⟨Ed,fb⟩:=Dd.call xg gc;have zg:=ug.k fb;have o:=o.k fb;have q:=q.k fb;have r:=r.k fb;have d:=d.k fb;have e:=e.k fb;have g:=g.k fb;refine⟨_,_,rfl,?_⟩;obtain⟨Va,Ag,hp⟩:=zqq hp;refine zwc (low:=(300:Int)) (high:=(300:Int)) Ed.pre  Ag fun m6i1035 Bg=>?_;obtain⟨Cg,gb⟩:=Ed.call Bg gc;have Dg:=zg.k gb;have o:=o.k gb;have q:=q.k gb;have r:=r.k gb;have d:=d.k gb;have e:=e.k gb;have g:=g.k gb;refine⟨_,_,rfl,?_⟩;intro m9i1035 Eg;obtain⟨Fg,Gg,hb,Hg⟩:=Cg.blk Eg gc 22;have Ig:=Dg.k hb;have o:=o.k hb;have q:=q.k hb;have r:=r.k hb;have d:=d.k hb;have e:=e.k hb;have g:=g.k hb;intro m10i1035 Jg;obtain⟨Kg,Lg,Wa,Mg⟩:=Gg.blk Jg Fg 23;have Ng:=Ig.k Wa;have Og:=Hg.k Wa;have o:=o.k Wa;have q:=q.k Wa;have r:=r.k Wa;have d:=d.k Wa;have e:=e.k Wa;have g:=g.k Wa
 obtain⟨Qg,Sg,Fd,Xa,Tg⟩:=Ng.sto Lg [(C.sl m6i1035.nxt 0 2 0 (Option.some 2)),(Il (200:Int)),(C.sl m9i1035.nxt 0 3 0 (Option.some 3)),Cd];have Ug:=Og.k Xa;have Vg:=Mg.k Xa;have o:=o.k Xa;have q:=q.k Xa;have r:=r.k Xa;have d:=d.k Xa;have e:=e.k Xa;have g:=g.k Xa;refine⟨Qg,Sg,?_⟩;refine⟨_,_,_,_,Tg.bk.ra,_,_,_,_,rfl,?_⟩;obtain⟨ib,Xg,hp⟩:=zqq hp;refine zwj (reports:=[]) Fd.pre (Sl.nil _) Xg fun nE GA Zg ah bh ch dh eh fh=>?_;obtain⟨Gd,Hd,da,i⟩:=Fd.callO ch dh Kg 24;have gh:=Ug.k da;have hh:=Vg.k da;have o:=o.k da;have q:=q.k da;have r:=r.k da;have d:=d.k da;have e:=e.k da;have g:=g.k da;refine⟨_,_,_,_,rfl,?_⟩;obtain⟨wb,ih,hp⟩:=zqq hp;refine zwd (reports:=[]) Hd.pre (Sl.nil _) ih fun oE HA jh Id Jd kh IA lh mh=>?_;obtain⟨nh,Y⟩:=Hd.callG kh Gd;have oh:=gh.k Y;have ph:=hh.k Y;have o:=o.k Y;have q:=q.k Y;have r:=r.k Y;have d:=d.k Y;have e:=e.k Y;have g:=g.k Y;have i:=i.k Y;refine⟨_,_,_,_,rfl,?_⟩;intro pE qh;obtain⟨rh,th,Ta,uh⟩:=nh.blk qh Gd 25;have vh:=oh.k Ta;have wh:=ph.k Ta;have o:=o.k Ta;have q:=q.k Ta;have r:=r.k Ta;have d:=d.k Ta;have e:=e.k Ta;have g:=g.k Ta;have i:=i.k Ta;intro qE xh;obtain⟨yh,zh,Qa,Ah⟩:=th.blk xh rh 26;have Bh:=vh.k Qa;have Ch:=wh.k Qa;have Dh:=uh.k Qa;have o:=o.k Qa;have q:=q.k Qa;have r:=r.k Qa;have d:=d.k Qa;have e:=e.k Qa;have g:=g.k Qa;have i:=i.k Qa;intro rE Eh;obtain⟨Fh,Gh,Oa,Hh⟩:=zh.blk Eh yh 27;have Ih:=Bh.k Oa;have Jh:=Ch.k Oa;have Kh:=Dh.k Oa;have Lh:=Ah.k Oa;have o:=o.k Oa;have q:=q.k Oa;have r:=r.k Oa;have d:=d.k Oa;have e:=e.k Oa;have g:=g.k Oa;have i:=i.k Oa
 intro sE Mh;obtain⟨Nh,Oh,Ma,Ph⟩:=Gh.blk Mh Fh 28;have Qh:=Ih.k Ma;have Rh:=Jh.k Ma;have Sh:=Kh.k Ma;have Th:=Lh.k Ma;have Uh:=Hh.k Ma;have o:=o.k Ma;have q:=q.k Ma;have r:=r.k Ma;have d:=d.k Ma;have e:=e.k Ma;have g:=g.k Ma;have i:=i.k Ma;intro tE Vh;obtain⟨Wh,Xh,Ka,Yh⟩:=Oh.blk Vh Nh 29;have Zh:=Qh.k Ka;have ai:=Rh.k Ka;have bi:=Sh.k Ka;have ci:=Th.k Ka;have ei:=Uh.k Ka;have fi:=Ph.k Ka;have o:=o.k Ka;have q:=q.k Ka;have r:=r.k Ka;have d:=d.k Ka;have e:=e.k Ka;have g:=g.k Ka;have i:=i.k Ka;intro uE gi;obtain⟨hi,ii,Fa,ji⟩:=Xh.blk gi Wh 30;have ki:=Zh.k Fa;have ni:=ai.k Fa;have pi:=bi.k Fa;have qi:=ci.k Fa;have ri:=ei.k Fa;have si:=fi.k Fa;have ti:=Yh.k Fa;have o:=o.k Fa;have q:=q.k Fa;have r:=r.k Fa;have d:=d.k Fa;have e:=e.k Fa;have g:=g.k Fa;have i:=i.k Fa;intro vE ui;obtain⟨vi,wi,Ea,xi⟩:=ii.blk ui hi 31;have yi:=ki.k Ea;have zi:=ni.k Ea;have Ai:=pi.k Ea;have Bi:=qi.k Ea;have Ci:=ri.k Ea;have Di:=si.k Ea;have Ei:=ti.k Ea;have Fi:=ji.k Ea;have o:=o.k Ea;have q:=q.k Ea;have r:=r.k Ea;have d:=d.k Ea;have e:=e.k Ea;have g:=g.k Ea;have i:=i.k Ea;intro wE Gi;obtain⟨Ld,Ii,la,Ji⟩:=wi.blk Gi vi 32;have Ki:=yi.k la;have Ni:=zi.k la;have Oi:=Ai.k la;have Pi:=Bi.k la;have Qi:=Ci.k la;have Ri:=Di.k la;have Si:=Ei.k la;have Ti:=Fi.k la;have Ui:=xi.k la;have o:=o.k la;have q:=q.k la;have r:=r.k la;have d:=d.k la;have e:=e.k la;have g:=g.k la;have i:=i.k la;obtain⟨Vi,Wi,Xi,ma,Yi⟩:=Oi.sto Ii [Ez,Il rb.Reserve,Fz,Gz];have Zi:=Ki.k ma;have aj:=Ni.k ma;have bj:=Pi.k ma;have cj:=Qi.k ma;have dj:=Ri.k ma;have ej:=Si.k ma;have fj:=Ti.k ma;have gj:=Ui.k ma;have hj:=Ji.k ma;have o:=o.k ma;have q:=q.k ma;have r:=r.k ma;have d:=d.k ma;have e:=e.k ma;have g:=g.k ma;have i:=i.k ma
 refine⟨Vi,Wi,?_⟩;obtain⟨ij,jj,kj,na,lj⟩:=bj.sto Xi [Nz,Il sb.Reserve,Oz,Pz];have mj:=Zi.k na;have nj:=aj.k na;have oj:=Yi.k na;have pj:=cj.k na;have qj:=dj.k na;have rj:=ej.k na;have sj:=fj.k na;have tj:=gj.k na;have uj:=hj.k na;have o:=o.k na;have q:=q.k na;have r:=r.k na;have d:=d.k na;have e:=e.k na;have g:=g.k na;have i:=i.k na;refine⟨ij,jj,?_⟩;obtain⟨vj,wj,xj,oa,yj⟩:=pj.sto kj [Wz,Il tb.Reserve,Xz,Yz];have zj:=mj.k oa;have Aj:=nj.k oa;have Bj:=oj.k oa;have Cj:=lj.k oa;have Dj:=qj.k oa;have Ej:=rj.k oa;have Fj:=sj.k oa;have Gj:=tj.k oa;have Hj:=uj.k oa;have o:=o.k oa;have q:=q.k oa;have r:=r.k oa;have d:=d.k oa;have e:=e.k oa;have g:=g.k oa;have i:=i.k oa;refine⟨vj,wj,?_⟩;obtain⟨Ij,Jj,Kj,pa,Lj⟩:=Dj.sto xj [fA,Il ub.Reserve,gA,bg];have Mj:=zj.k pa;have Nj:=Aj.k pa;have Oj:=Bj.k pa;have Pj:=Cj.k pa;have Qj:=yj.k pa;have Rj:=Ej.k pa;have Sj:=Fj.k pa;have Tj:=Gj.k pa;have Uj:=Hj.k pa;have o:=o.k pa;have q:=q.k pa;have r:=r.k pa;have d:=d.k pa;have e:=e.k pa;have g:=g.k pa;have i:=i.k pa;refine⟨Ij,Jj,?_⟩;obtain⟨Vj,Wj,Xj,qa,Yj⟩:=Rj.sto Kj [gg,Il eb.Reserve,hg,ig];have Zj:=Mj.k qa;have ak:=Nj.k qa;have ck:=Oj.k qa;have dk:=Pj.k qa;have ek:=Qj.k qa;have fk:=Lj.k qa;have gk:=Sj.k qa;have hk:=Tj.k qa;have ik:=Uj.k qa;have o:=o.k qa;have q:=q.k qa;have r:=r.k qa;have d:=d.k qa;have e:=e.k qa;have g:=g.k qa;have i:=i.k qa;refine⟨Vj,Wj,?_⟩;obtain⟨jk,kk,mk,sa,nk⟩:=gk.sto Xj [(C.sl m6i1035.nxt 0 2 0 (Option.some 2)),(Il (200:Int)),(C.sl m9i1035.nxt 0 3 0 (Option.some 3)),Cd];have ok:=Zj.k sa;have pk:=ak.k sa;have qk:=ck.k sa;have sk:=dk.k sa;have uk:=ek.k sa;have vk:=fk.k sa;have wk:=Yj.k sa;have xk:=hk.k sa;have yk:=ik.k sa;have o:=o.k sa;have q:=q.k sa;have r:=r.k sa;have d:=d.k sa;have e:=e.k sa;have g:=g.k sa;have i:=i.k sa
 refine⟨jk,kk,?_⟩;obtain⟨zk,Ak,Ck,ta,Dk⟩:=xk.sto mk [Zg,Il ib.Reserve,ah,bh];have Ek:=ok.k ta;have Fk:=pk.k ta;have Gk:=qk.k ta;have Hk:=sk.k ta;have Ik:=uk.k ta;have Jk:=vk.k ta;have Kk:=wk.k ta;have Lk:=nk.k ta;have Mk:=yk.k ta;have o:=o.k ta;have q:=q.k ta;have r:=r.k ta;have d:=d.k ta;have e:=e.k ta;have g:=g.k ta;have i:=i.k ta;refine⟨zk,Ak,?_⟩;obtain⟨Nk,Ok,Qk,ua,Sk⟩:=Mk.sto Ck [jh,Il wb.Reserve,Id,Jd];have Tk:=Ek.k ua;have Uk:=Fk.k ua;have Md:=Gk.k ua;have Vk:=Hk.k ua;have Xk:=Ik.k ua;have Yk:=Jk.k ua;have Zk:=Kk.k ua;have al:=Lk.k ua;have bl:=Dk.k ua;have o:=o.k ua;have q:=q.k ua;have r:=r.k ua;have d:=d.k ua;have e:=e.k ua;have g:=g.k ua;have i:=i.k ua;refine⟨Nk,Ok,?_⟩;refine⟨trivial,_,Md.bk.rc rfl,?_⟩;obtain⟨A,xb,hp⟩:=zqq hp;obtain⟨hc,Nb,yc,xb⟩:=zqk xb;refine⟨hc,Nb,(by first|exact yc|(rw[o.slLen];exact yc)),(o.isPt xb _),?_⟩;obtain⟨cl,dl,el,va,J⟩:=o.setP Qk (a':=({ Kind:=(2:Int),Part:=A.Part,Above:=A.Above,Most:=A.Most,Times:=A.Times,Price:=A.Price,Of:=A.Of }:Ty)) xb [Il A.Kind,Il A.Part,Il A.Above,Il A.Most,Il A.Times,Il A.Price,Il A.Of] (fun _ h=>h) 0 [(Il (2:Int))] (Nat.le_of_ble_eq_true rfl) rfl
 have zc:Int.toNat (0:Int)=hc:=by rw[Nb]; rfl
 rw[<- zc] at J;have pA:=Nb;have fl:(rb.Treaties.set (Int.toNat (0:Int)) ({ Kind:=(2:Int),Part:=A.Part,Above:=A.Above,Most:=A.Most,Times:=A.Times,Price:=A.Price,Of:=A.Of }:Ty))[hc]? = some ({ Kind:=(2:Int),Part:=A.Part,Above:=A.Above,Most:=A.Most,Times:=A.Times,Price:=A.Price,Of:=A.Of }:Ty):=(congrArg (fun z=>(rb.Treaties.set z ({ Kind:=(2:Int),Part:=A.Part,Above:=A.Above,Most:=A.Most,Times:=A.Times,Price:=A.Price,Of:=A.Of }:Ty))[hc]?) zc).trans (List.getElem?_set_self (List.getElem?_eq_some_iff.1 xb).1);have qA:=(List.getElem?_eq_some_iff.1 fl).1;have gl:=Tk.k va;have hl:=Uk.k va;have il:=Md.k va;have Nd:=Vk.k va;have jl:=Xk.k va;have kl:=Yk.k va;have ll:=Zk.k va;have ml:=al.k va;have nl:=bl.k va;have ol:=Sk.k va;have q:=q.k va;have r:=r.k va;have d:=d.k va;have e:=e.k va;have g:=g.k va;have i:=i.k va;refine⟨cl,dl,?_⟩;refine⟨trivial,_,Nd.bk.rc rfl,?_⟩;obtain⟨B,yb,hp⟩:=zqq hp;obtain⟨ic,Ob,Ac,yb⟩:=zqk yb;refine⟨ic,Ob,(by first|exact Ac|(rw[q.slLen];exact Ac)),(q.isPt yb _),?_⟩;obtain⟨pl,ql,rl,wa,I⟩:=q.setP el (a':=({ Kind:=B.Kind,Part:=(0:Int),Above:=B.Above,Most:=B.Most,Times:=B.Times,Price:=B.Price,Of:=B.Of }:Ty)) yb [Il B.Kind,Il B.Part,Il B.Above,Il B.Most,Il B.Times,Il B.Price,Il B.Of] (fun _ h=>h) 1 [Il 0] (Nat.le_of_ble_eq_true rfl) rfl
 have Bc:Int.toNat (0:Int)=ic:=by rw[Ob]; rfl
 rw[<- Bc] at I;have rA:=Ob;have tl:(sb.Treaties.set (Int.toNat (0:Int)) ({ Kind:=B.Kind,Part:=(0:Int),Above:=B.Above,Most:=B.Most,Times:=B.Times,Price:=B.Price,Of:=B.Of }:Ty))[ic]? = some ({ Kind:=B.Kind,Part:=(0:Int),Above:=B.Above,Most:=B.Most,Times:=B.Times,Price:=B.Price,Of:=B.Of }:Ty):=(congrArg (fun z=>(sb.Treaties.set z ({ Kind:=B.Kind,Part:=(0:Int),Above:=B.Above,Most:=B.Most,Times:=B.Times,Price:=B.Price,Of:=B.Of }:Ty))[ic]?) Bc).trans (List.getElem?_set_self (List.getElem?_eq_some_iff.1 yb).1);have sA:=(List.getElem?_eq_some_iff.1 tl).1;have ul:=gl.k wa;have vl:=hl.k wa;have wl:=il.k wa;have xl:=Nd.k wa;have Od:=jl.k wa;have yl:=kl.k wa;have zl:=ll.k wa;have Al:=ml.k wa;have Bl:=nl.k wa;have Cl:=ol.k wa;have r:=r.k wa;have d:=d.k wa;have e:=e.k wa;have g:=g.k wa;have i:=i.k wa;have J:=J.k wa;refine⟨pl,ql,?_⟩;refine⟨trivial,_,Od.bk.rc rfl,?_⟩;obtain⟨D,zb,hp⟩:=zqq hp;obtain⟨jc,Pb,Cc,zb⟩:=zqk zb;refine⟨jc,Pb,(by first|exact Cc|(rw[r.slLen];exact Cc)),(r.isPt zb _),?_⟩;obtain⟨Dl,El,Fl,xa,y⟩:=r.setP rl (a':=({ Kind:=D.Kind,Part:=D.Part,Above:=D.Above,Most:=(0:Int),Times:=D.Times,Price:=D.Price,Of:=D.Of }:Ty)) zb [Il D.Kind,Il D.Part,Il D.Above,Il D.Most,Il D.Times,Il D.Price,Il D.Of] (fun _ h=>h) 3 [Il 0] (Nat.le_of_ble_eq_true rfl) rfl
 have Dc:Int.toNat (1:Int)=jc:=by rw[Pb]; rfl
 rw[<- Dc] at y;have tA:=Pb;have Gl:(tb.Treaties.set (Int.toNat (1:Int)) ({ Kind:=D.Kind,Part:=D.Part,Above:=D.Above,Most:=(0:Int),Times:=D.Times,Price:=D.Price,Of:=D.Of }:Ty))[jc]? = some ({ Kind:=D.Kind,Part:=D.Part,Above:=D.Above,Most:=(0:Int),Times:=D.Times,Price:=D.Price,Of:=D.Of }:Ty):=(congrArg (fun z=>(tb.Treaties.set z ({ Kind:=D.Kind,Part:=D.Part,Above:=D.Above,Most:=(0:Int),Times:=D.Times,Price:=D.Price,Of:=D.Of }:Ty))[jc]?) Dc).trans (List.getElem?_set_self (List.getElem?_eq_some_iff.1 zb).1);have uA:=(List.getElem?_eq_some_iff.1 Gl).1;have Hl:=ul.k xa;have Jl:=vl.k xa;have Kl:=wl.k xa;have Ll:=xl.k xa;have Ml:=Od.k xa;have Pd:=yl.k xa;have Nl:=zl.k xa;have Ol:=Al.k xa;have Pl:=Bl.k xa;have Ql:=Cl.k xa;have d:=d.k xa;have e:=e.k xa;have g:=g.k xa;have i:=i.k xa;have J:=J.k xa;have I:=I.k xa;refine⟨Dl,El,?_⟩;refine⟨trivial,_,Pd.bk.rc rfl,?_⟩;obtain⟨F,Ab,hp⟩:=zqq hp;obtain⟨kc,Qb,Ec,Ab⟩:=zqk Ab;refine⟨kc,Qb,(by first|exact Ec|(rw[d.slLen];exact Ec)),(d.isPt Ab _),?_⟩;obtain⟨Rl,Tl,Ul,ya,w⟩:=d.setP Fl (a':=({ Kind:=F.Kind,Part:=F.Part,Above:=F.Above,Most:=F.Most,Times:=(1:Int),Price:=F.Price,Of:=F.Of }:Ty)) Ab [Il F.Kind,Il F.Part,Il F.Above,Il F.Most,Il F.Times,Il F.Price,Il F.Of] (fun _ h=>h) 4 [(Il (1:Int))] (Nat.le_of_ble_eq_true rfl) rfl
 have Fc:Int.toNat (0:Int)=kc:=by rw[Qb]; rfl
 rw[<- Fc] at w;have vA:=Qb;have Vl:(ub.Treaties.set (Int.toNat (0:Int)) ({ Kind:=F.Kind,Part:=F.Part,Above:=F.Above,Most:=F.Most,Times:=(1:Int),Price:=F.Price,Of:=F.Of }:Ty))[kc]? = some ({ Kind:=F.Kind,Part:=F.Part,Above:=F.Above,Most:=F.Most,Times:=(1:Int),Price:=F.Price,Of:=F.Of }:Ty):=(congrArg (fun z=>(ub.Treaties.set z ({ Kind:=F.Kind,Part:=F.Part,Above:=F.Above,Most:=F.Most,Times:=(1:Int),Price:=F.Price,Of:=F.Of }:Ty))[kc]?) Fc).trans (List.getElem?_set_self (List.getElem?_eq_some_iff.1 Ab).1);have wA:=(List.getElem?_eq_some_iff.1 Vl).1;have Xl:=Hl.k ya;have Yl:=Jl.k ya;have Zl:=Kl.k ya;have am:=Ll.k ya;have bm:=Ml.k ya;have cm:=Pd.k ya;have Qd:=Nl.k ya;have dm:=Ol.k ya;have em:=Pl.k ya;have fm:=Ql.k ya;have e:=e.k ya;have g:=g.k ya;have i:=i.k ya;have J:=J.k ya;have I:=I.k ya;have y:=y.k ya;refine⟨Rl,Tl,?_⟩;refine⟨trivial,_,Qd.bk.rc rfl,?_⟩;obtain⟨G,Bb,hp⟩:=zqq hp;obtain⟨nc,Rb,Gc,Bb⟩:=zqk Bb;refine⟨nc,Rb,(by first|exact Gc|(rw[e.slLen];exact Gc)),(e.isPt Bb _),?_⟩;obtain⟨gm,hm,im,za,u⟩:=e.setP Ul (a':=({ Kind:=G.Kind,Part:=G.Part,Above:=G.Above,Most:=G.Most,Times:=G.Times,Price:=G.Price,Of:=(2:Int) }:Ty)) Bb [Il G.Kind,Il G.Part,Il G.Above,Il G.Most,Il G.Times,Il G.Price,Il G.Of] (fun _ h=>h) 6 [(Il (2:Int))] (Nat.le_of_ble_eq_true rfl) rfl
 have Hc:Int.toNat (2:Int)=nc:=by rw[Rb]; rfl
 rw[<- Hc] at u;have xA:=Rb;have jm:(eb.Treaties.set (Int.toNat (2:Int)) ({ Kind:=G.Kind,Part:=G.Part,Above:=G.Above,Most:=G.Most,Times:=G.Times,Price:=G.Price,Of:=(2:Int) }:Ty))[nc]? = some ({ Kind:=G.Kind,Part:=G.Part,Above:=G.Above,Most:=G.Most,Times:=G.Times,Price:=G.Price,Of:=(2:Int) }:Ty):=(congrArg (fun z=>(eb.Treaties.set z ({ Kind:=G.Kind,Part:=G.Part,Above:=G.Above,Most:=G.Most,Times:=G.Times,Price:=G.Price,Of:=(2:Int) }:Ty))[nc]?) Hc).trans (List.getElem?_set_self (List.getElem?_eq_some_iff.1 Bb).1);have yA:=(List.getElem?_eq_some_iff.1 jm).1;have km:=Xl.k za;have lm:=Yl.k za;have mm:=Zl.k za;have nm:=am.k za;have om:=bm.k za;have pm:=cm.k za;have qm:=Qd.k za;have Rd:=dm.k za;have rm:=em.k za;have sm:=fm.k za;have g:=g.k za;have i:=i.k za;have J:=J.k za;have I:=I.k za;have y:=y.k za;have w:=w.k za;refine⟨gm,hm,?_⟩;refine⟨trivial,_,Rd.bk.rc rfl,?_⟩;obtain⟨Ya,Cb,hp⟩:=zqq hp;obtain⟨pc,Sb,Ic,Cb⟩:=zqk Cb;refine⟨pc,Sb,(by first|exact Ic|(rw[g.slLen];exact Ic)),(g.isPt Cb _),?_⟩;obtain⟨tm,um,Sd,Aa,s⟩:=g.setP im (a':=({ Treaty:=(3:Int),Paid:=Ya.Paid }:Rpt)) Cb [Il Ya.Treaty,Il Ya.Paid.Lo,Il Ya.Paid.Hi] (fun _ h=>h) 0 [(Il (3:Int))] (Nat.le_of_ble_eq_true rfl) rfl
 have Jc:Int.toNat (0:Int)=pc:=by rw[Sb]; rfl
 rw[<- Jc] at s;have zA:=Sb;have vm:(fc.set (Int.toNat (0:Int)) ({ Treaty:=(3:Int),Paid:=Ya.Paid }:Rpt))[pc]? = some ({ Treaty:=(3:Int),Paid:=Ya.Paid }:Rpt):=(congrArg (fun z=>(fc.set z ({ Treaty:=(3:Int),Paid:=Ya.Paid }:Rpt))[pc]?) Jc).trans (List.getElem?_set_self (List.getElem?_eq_some_iff.1 Cb).1);have AA:=(List.getElem?_eq_some_iff.1 vm).1;have wm:=km.k Aa;have xm:=lm.k Aa;have ym:=mm.k Aa;have zm:=nm.k Aa;have Am:=om.k Aa;have Bm:=pm.k Aa;have Cm:=qm.k Aa;have Dm:=Rd.k Aa;have Td:=rm.k Aa;have Em:=sm.k Aa;have i:=i.k Aa;have J:=J.k Aa;have I:=I.k Aa;have y:=y.k Aa;have w:=w.k Aa;have u:=u.k Aa;refine⟨tm,um,?_⟩;refine⟨trivial,_,Td.bk.rc rfl,?_⟩;obtain⟨jb,Gm,hp⟩:=zqq hp;refine zwc (low:=(100:Int)) (high:=(1001:Int)) Sd.pre  Gm fun xE Hm=>?_;obtain⟨Im,ia⟩:=Sd.call Hm Ld;have Jm:=wm.k ia;have Km:=xm.k ia;have Lm:=ym.k ia;have Mm:=zm.k ia;have Nm:=Am.k ia;have Om:=Bm.k ia;have Pm:=Cm.k ia;have Qm:=Dm.k ia;have Ud:=Td.k ia;have Rm:=Em.k ia;have i:=i.k ia;have J:=J.k ia;have I:=I.k ia;have y:=y.k ia;have w:=w.k ia;have u:=u.k ia;have s:=s.k ia;refine⟨_,_,rfl,(by rw[show cmC _=true from zoW (i.noFn)]; exact(Ud.bk.rc rfl)),?_⟩;obtain⟨Vd,Db,hp⟩:=zqq hp;obtain⟨qc,Tb,Kc,Db⟩:=zqk Db;refine⟨qc,Tb,(by first|exact Kc|(rw[i.slLen];exact Kc)),?_⟩;obtain⟨sc,Sm,Tm,Ba,t⟩:=i.setP Im (a':=jb) Db [Il Vd.Lo,Il Vd.Hi] (fun _ h=>h) 0 [Il jb.Lo,Il jb.Hi] (Nat.le_of_ble_eq_true rfl) rfl
 have Nc:Int.toNat (0:Int)=qc:=by rw[Tb]; rfl
 rw[<- Nc] at t;have BA:=Tb;have Um:(ib.Losses.set (Int.toNat (0:Int)) jb)[qc]? = some jb:=(congrArg (fun z=>(ib.Losses.set z jb)[qc]?) Nc).trans (List.getElem?_set_self (List.getElem?_eq_some_iff.1 Db).1);have CA:=(List.getElem?_eq_some_iff.1 Um).1;have Vm:=Jm.k Ba;have Wm:=Km.k Ba;have Xm:=Lm.k Ba;have Ym:=Mm.k Ba;have Zm:=Nm.k Ba;have an:=Om.k Ba;have bn:=Pm.k Ba;have cn:=Qm.k Ba;have dn:=Ud.k Ba;have en:=Rm.k Ba;have J:=J.k Ba;have I:=I.k Ba;have y:=y.k Ba;have w:=w.k Ba;have u:=u.k Ba;have s:=s.k Ba;refine⟨sc,(by have h9:=Sm; rw[i.add0 Db] at h9; exact h9),?_⟩;obtain⟨JA,hp⟩:=zqr hp;obtain⟨vb,Pc⟩:∃n:Nat,(5:Int)=(n:Int):=⟨Int.toNat (5:Int),by omega⟩
 have Kf:Int.toNat (5:Int)=vb:=by omega
 refine⟨vb,vb,Pc,Pc,Nat.le_refl _,(by omega),?_⟩;intro yE fn;obtain⟨Wd,gn,ja,hn⟩:=Tm.blk fn Ld 33;have j:=Lb.mkS (β:=Rg) (a:=({ Lo:=(0:Int),Hi:=(0:Int) }:Rg)) hn rfl Kf;have jn:=Vm.k ja;have kn:=Wm.k ja;have ln:=Xm.k ja;have nn:=Ym.k ja;have pn:=Zm.k ja;have qn:=an.k ja;have rn:=bn.k ja;have sn:=cn.k ja;have tn:=dn.k ja;have un:=en.k ja;have J:=J.k ja;have I:=I.k ja;have y:=y.k ja;have w:=w.k ja;have u:=u.k ja;have s:=s.k ja;have t:=t.k ja;refine⟨trivial,?_⟩;obtain⟨vn,xn,Xd,ka,tc⟩:=un.sto1 gn 0 (.sl sc.nxt 0 vb 0 (some vb)) (by simp) rfl
 replace tc:Lb _ _ _ _ _ _ _ [(.sl sc.nxt 0 vb 0 (some vb)),Il wb.Reserve,Id,Jd]:=tc
 have yn:=jn.k ka;have zn:=kn.k ka;have An:=ln.k ka;have Bn:=nn.k ka;have Cn:=pn.k ka;have Dn:=qn.k ka;have En:=rn.k ka;have Fn:=sn.k ka;have Gn:=tn.k ka;have J:=J.k ka;have I:=I.k ka;have y:=y.k ka;have w:=w.k ka;have u:=u.k ka;have s:=s.k ka;have t:=t.k ka;have j:=j.k ka;refine⟨vn,xn,?_⟩;obtain⟨Eb,Hn,hp⟩:=zqq hp;refine zwd (reports:=[]) Xd.pre (Sl.nil _) Hn fun zE KA In Yd Zd Jn LA Kn Ln=>?_;obtain⟨Nn,O⟩:=Xd.callG Jn Wd;have Pn:=yn.k O;have Qn:=zn.k O;have Rn:=An.k O;have Sn:=Bn.k O;have Tn:=Cn.k O;have Un:=Dn.k O;have Vn:=En.k O;have Xn:=Fn.k O;have Yn:=Gn.k O;have Zn:=tc.k O;have J:=J.k O;have I:=I.k O;have y:=y.k O;have w:=w.k O;have u:=u.k O;have s:=s.k O;have t:=t.k O;have j:=j.k O;refine⟨_,_,_,_,rfl,?_⟩;intro AE ao;obtain⟨uc,bo,ea,co⟩:=Nn.blk ao Wd 34;have eo:=Pn.k ea;have fo:=Qn.k ea;have go:=Rn.k ea;have ho:=Sn.k ea;have io:=Tn.k ea;have jo:=Un.k ea;have ko:=Vn.k ea;have lo:=Xn.k ea;have oo:=Yn.k ea;have po:=Zn.k ea;have J:=J.k ea;have I:=I.k ea;have y:=y.k ea;have w:=w.k ea;have u:=u.k ea;have s:=s.k ea;have t:=t.k ea;have j:=j.k ea;obtain⟨qo,ro,ae,fa,so⟩:=co.sto bo [In,Il Eb.Reserve,Yd,Zd];have uo:=eo.k fa;have xo:=fo.k fa;have yo:=go.k fa;have zo:=ho.k fa;have Ao:=io.k fa;have Bo:=jo.k fa;have Co:=ko.k fa;have Do:=lo.k fa;have Eo:=oo.k fa;have Fo:=po.k fa;have J:=J.k fa;have I:=I.k fa;have y:=y.k fa;have w:=w.k fa;have u:=u.k fa;have s:=s.k fa;have t:=t.k fa;have j:=j.k fa;refine⟨qo,ro,?_⟩;obtain⟨Za,Go,hp⟩:=zqq hp;refine zwc (low:=(0:Int)) (high:=(99:Int)) ae.pre  Go fun BE Ho=>?_
 obtain⟨be,Z⟩:=ae.call Ho uc;have Io:=uo.k Z;have Jo:=xo.k Z;have Ko:=yo.k Z;have No:=zo.k Z;have Oo:=Ao.k Z;have Po:=Bo.k Z;have Qo:=Co.k Z;have Ro:=Do.k Z;have So:=Eo.k Z;have To:=Fo.k Z;have Uo:=so.k Z;have J:=J.k Z;have I:=I.k Z;have y:=y.k Z;have w:=w.k Z;have u:=u.k Z;have s:=s.k Z;have t:=t.k Z;have j:=j.k Z;refine⟨_,_,rfl,?_⟩;obtain⟨ab,Vo,hp⟩:=zqq hp;refine zwc (low:=(0:Int)) (high:=(15:Int)) be.pre  Vo fun zd Xo=>?_;obtain⟨Yo,aa⟩:=be.call Xo uc;have Zo:=Io.k aa;have ap:=Jo.k aa;have bp:=Ko.k aa;have cp:=No.k aa;have dp:=Oo.k aa;have ep:=Po.k aa;have fp:=Qo.k aa;have gp:=Ro.k aa;have ip:=So.k aa;have jp:=To.k aa;have lp:=Uo.k aa;have J:=J.k aa;have I:=I.k aa;have y:=y.k aa;have w:=w.k aa;have u:=u.k aa;have s:=s.k aa;have t:=t.k aa;have j:=j.k aa;refine⟨_,_,rfl,?_⟩;intro CE np;obtain⟨Pa,op,ba,pp⟩:=Yo.blk np uc 35;have qp:=Zo.k ba;have sp:=ap.k ba;have tp:=bp.k ba;have vp:=cp.k ba;have wp:=dp.k ba;have xp:=ep.k ba;have yp:=fp.k ba;have zp:=gp.k ba;have Ap:=ip.k ba;have Bp:=jp.k ba;have Cp:=lp.k ba;have J:=J.k ba;have I:=I.k ba;have y:=y.k ba;have w:=w.k ba;have u:=u.k ba;have s:=s.k ba;have t:=t.k ba;have j:=j.k ba;refine⟨trivial,?_⟩;obtain⟨Dp,Ep,bb,ca,vc⟩:=Cp.sto1 op 0 (C.sl zd.nxt 0 2 0 (Option.some 2)) (by simp) rfl
 replace vc:Lb _ _ _ _ _ _ _ [(C.sl zd.nxt 0 2 0 (Option.some 2)),Il Eb.Reserve,Yd,Zd]:=vc
 have Fp:=qp.k ca;have Gp:=sp.k ca;have Hp:=tp.k ca;have Ip:=vp.k ca;have Jp:=wp.k ca;have Lp:=xp.k ca;have Np:=yp.k ca;have Op:=zp.k ca;have Pp:=Ap.k ca;have Qp:=Bp.k ca;have Rp:=pp.k ca;have J:=J.k ca;have I:=I.k ca;have y:=y.k ca;have w:=w.k ca;have u:=u.k ca;have s:=s.k ca;have t:=t.k ca;have j:=j.k ca;refine⟨Dp,Ep,?_⟩;refine ifd hp (fun Sp hp=>?_) fun Sp hp=>?_; rotate_left
 ·obtain rfl:=oi hp;exact hq _ bb.ext'
 refine ifd hp (fun Tp hp=>?_) fun Tp hp=>?_; rotate_left
 ·obtain rfl:=oi hp;exact hq _ bb.ext'
 refine ifd hp (fun Up hp=>?_) fun Up hp=>?_; rotate_left
 ·obtain rfl:=oi hp;exact hq _ bb.ext'
 refine ifd hp (fun Vp hp=>?_) fun Vp hp=>?_; rotate_left
 ·obtain rfl:=oi hp;exact hq _ bb.ext'
 refine ifd hp (fun Wp hp=>?_) fun Wp hp=>?_; rotate_left
 ·obtain rfl:=oi hp;exact hq _ bb.ext'
 refine ifd hp (fun Xp hp=>?_) fun Xp hp=>?_; rotate_left
 ·obtain rfl:=oi hp;exact hq _ bb.ext'
 refine ifd hp (fun Yp hp=>?_) fun Yp hp=>?_; rotate_left
 ·obtain rfl:=oi hp;exact hq _ bb.ext'
 refine⟨_,_,_,_,Hp.bk.ra,?_⟩;obtain⟨MA,ce,N,Zp⟩:=J.freeze bb;have aq:=Fp.k N;have bq:=Gp.k N;have cq:=Ip.k N;have dq:=Jp.k N;have eq:=Lp.k N;have fq:=Np.k N;have gq:=Op.k N;have iq:=Pp.k N;have jq:=Qp.k N;have kq:=vc.k N;have lq:=Rp.k N;have I:=I.k N;have y:=y.k N;have w:=w.k N;have u:=u.k N;have s:=s.k N;have t:=t.k N;have j:=j.k N;obtain⟨NA,mq,hp⟩:=zqq hp;have Qc:=@zuV ({ Losses:=rb.Losses,Reserve:=rb.Reserve,Treaties:=(rb.Treaties.set (Int.toNat (0:Int)) ({ Kind:=(2:Int),Part:=A.Part,Above:=A.Above,Most:=A.Most,Times:=A.Times,Price:=A.Price,Of:=A.Of }:Ty)),Reports:=rb.Reports }:Pg)
 dsimp only at Qc
 refine Qc ce.pre (Iz.sub (Sub.trans (Sub.trans (Sub.trans (Sub.trans (Sub.trans (Sub.trans (Sub.trans (Sub.trans yd.fs Gb.fs) db.fs) La.fs) Da.fs) da.fs) Y.fs) O.fs) N.fs)) Zp (Kz.sub (Sub.trans (Sub.trans (Sub.trans (Sub.trans (Sub.trans (Sub.trans (Sub.trans (Sub.trans yd.fs Gb.fs) db.fs) La.fs) Da.fs) da.fs) Y.fs) O.fs) N.fs)) mq fun DE nq=>?_;obtain⟨de,ga⟩:=ce.call nq Pa;have oq:=aq.k ga;have pq:=bq.k ga;have qq:=cq.k ga;have rq:=dq.k ga;have sq:=eq.k ga;have tq:=fq.k ga;have uq:=gq.k ga;have vq:=iq.k ga;have wq:=jq.k ga;have xq:=kq.k ga;have yq:=lq.k ga;have I:=I.k ga;have y:=y.k ga;have w:=w.k ga;have u:=u.k ga;have s:=s.k ga;have t:=t.k ga;have j:=j.k ga;refine⟨_,rfl,?_⟩;refine ifd hp (fun zq hp=>?_) fun zq hp=>?_; rotate_left
 ·obtain rfl:=oi hp;exact hq _ de.ext'
 refine⟨_,_,_,_,qq.bk.ra,?_⟩;obtain⟨OA,ee,P,Aq⟩:=I.freeze de;have Bq:=oq.k P;have Cq:=pq.k P;have Dq:=rq.k P;have Eq:=sq.k P;have Fq:=tq.k P;have Gq:=uq.k P;have Hq:=vq.k P;have Iq:=wq.k P;have Jq:=xq.k P;have Kq:=yq.k P;have y:=y.k P;have w:=w.k P;have u:=u.k P;have s:=s.k P;have t:=t.k P;have j:=j.k P;obtain⟨PA,Lq,hp⟩:=zqq hp;have Rc:=@zuV ({ Losses:=sb.Losses,Reserve:=sb.Reserve,Treaties:=(sb.Treaties.set (Int.toNat (0:Int)) ({ Kind:=B.Kind,Part:=(0:Int),Above:=B.Above,Most:=B.Most,Times:=B.Times,Price:=B.Price,Of:=B.Of }:Ty)),Reports:=sb.Reports }:Pg)
 dsimp only at Rc
 refine Rc ee.pre (Rz.sub (Sub.trans (Sub.trans (Sub.trans (Sub.trans (Sub.trans (Sub.trans (Sub.trans (Sub.trans Gb.fs db.fs) La.fs) Da.fs) da.fs) Y.fs) O.fs) N.fs) P.fs)) Aq (Tz.sub (Sub.trans (Sub.trans (Sub.trans (Sub.trans (Sub.trans (Sub.trans (Sub.trans (Sub.trans Gb.fs db.fs) La.fs) Da.fs) da.fs) Y.fs) O.fs) N.fs) P.fs)) Lq fun EE Mq=>?_;obtain⟨fe,Ca⟩:=ee.call Mq Pa;have Nq:=Bq.k Ca;have Pq:=Cq.k Ca;have Qq:=Dq.k Ca;have Rq:=Eq.k Ca;have Sq:=Fq.k Ca;have Tq:=Gq.k Ca;have Uq:=Hq.k Ca;have Vq:=Iq.k Ca;have Wq:=Jq.k Ca;have Xq:=Kq.k Ca;have y:=y.k Ca;have w:=w.k Ca;have u:=u.k Ca;have s:=s.k Ca;have t:=t.k Ca;have j:=j.k Ca;refine⟨_,rfl,?_⟩;refine ifd hp (fun Yq hp=>?_) fun Yq hp=>?_; rotate_left
 ·obtain rfl:=oi hp;exact hq _ fe.ext'
 refine⟨_,_,_,_,Qq.bk.ra,?_⟩;obtain⟨QA,ge,S,Zq⟩:=y.freeze fe;have ar:=Nq.k S;have br:=Pq.k S;have cr:=Rq.k S;have dr:=Sq.k S;have er:=Tq.k S;have fr:=Uq.k S;have gr:=Vq.k S;have hr:=Wq.k S;have ir:=Xq.k S;have w:=w.k S;have u:=u.k S;have s:=s.k S;have t:=t.k S;have j:=j.k S;obtain⟨RA,jr,hp⟩:=zqq hp;have Tc:=@zuV ({ Losses:=tb.Losses,Reserve:=tb.Reserve,Treaties:=(tb.Treaties.set (Int.toNat (1:Int)) ({ Kind:=D.Kind,Part:=D.Part,Above:=D.Above,Most:=(0:Int),Times:=D.Times,Price:=D.Price,Of:=D.Of }:Ty)),Reports:=tb.Reports }:Pg)
 dsimp only at Tc
 refine Tc ge.pre (aA.sub (Sub.trans (Sub.trans (Sub.trans (Sub.trans (Sub.trans (Sub.trans (Sub.trans (Sub.trans db.fs La.fs) Da.fs) da.fs) Y.fs) O.fs) N.fs) P.fs) S.fs)) Zq (cA.sub (Sub.trans (Sub.trans (Sub.trans (Sub.trans (Sub.trans (Sub.trans (Sub.trans (Sub.trans db.fs La.fs) Da.fs) da.fs) Y.fs) O.fs) N.fs) P.fs) S.fs)) jr fun FE kr=>?_;obtain⟨he,Ga⟩:=ge.call kr Pa;have lr:=ar.k Ga;have mr:=br.k Ga;have nr:=cr.k Ga;have pr:=dr.k Ga;have qr:=er.k Ga;have rr:=fr.k Ga;have sr:=gr.k Ga;have tr:=hr.k Ga;have ur:=ir.k Ga;have w:=w.k Ga;have u:=u.k Ga;have s:=s.k Ga;have t:=t.k Ga;have j:=j.k Ga;refine⟨_,rfl,?_⟩;refine ifd hp (fun vr hp=>?_) fun vr hp=>?_; rotate_left
 ·obtain rfl:=oi hp;exact hq _ he.ext'
 refine⟨_,_,_,_,nr.bk.ra,?_⟩;obtain⟨SA,ie,T,xr⟩:=w.freeze he;have yr:=lr.k T;have zr:=mr.k T;have Ar:=pr.k T;have Br:=qr.k T;have Cr:=rr.k T;have Dr:=sr.k T;have Er:=tr.k T;have Gr:=ur.k T;have u:=u.k T;have s:=s.k T;have t:=t.k T;have j:=j.k T;obtain⟨UA,Hr,hp⟩:=zqq hp;have Uc:=@zuV ({ Losses:=ub.Losses,Reserve:=ub.Reserve,Treaties:=(ub.Treaties.set (Int.toNat (0:Int)) ({ Kind:=F.Kind,Part:=F.Part,Above:=F.Above,Most:=F.Most,Times:=(1:Int),Price:=F.Price,Of:=F.Of }:Ty)),Reports:=ub.Reports }:Pg)
 dsimp only at Uc
 refine Uc ie.pre (iA.sub (Sub.trans (Sub.trans (Sub.trans (Sub.trans (Sub.trans (Sub.trans (Sub.trans (Sub.trans La.fs Da.fs) da.fs) Y.fs) O.fs) N.fs) P.fs) S.fs) T.fs)) xr (dg.sub (Sub.trans (Sub.trans (Sub.trans (Sub.trans (Sub.trans (Sub.trans (Sub.trans (Sub.trans La.fs Da.fs) da.fs) Y.fs) O.fs) N.fs) P.fs) S.fs) T.fs)) Hr fun GE Jr=>?_;obtain⟨je,Na⟩:=ie.call Jr Pa;have Kr:=yr.k Na;have Lr:=zr.k Na;have Mr:=Ar.k Na;have Nr:=Br.k Na;have Or:=Cr.k Na;have Pr:=Dr.k Na;have Qr:=Er.k Na;have Rr:=Gr.k Na;have u:=u.k Na;have s:=s.k Na;have t:=t.k Na;have j:=j.k Na;refine⟨_,rfl,?_⟩;refine ifd hp (fun Sr hp=>?_) fun Sr hp=>?_; rotate_left
 ·obtain rfl:=oi hp;exact hq _ je.ext'
 refine⟨_,_,_,_,Mr.bk.ra,?_⟩;obtain⟨VA,ke,ha,Tr⟩:=u.freeze je;have Ur:=Kr.k ha;have Vr:=Lr.k ha;have Xr:=Nr.k ha;have Yr:=Or.k ha;have Zr:=Pr.k ha;have bs:=Qr.k ha;have cs:=Rr.k ha;have s:=s.k ha;have t:=t.k ha;have j:=j.k ha;obtain⟨WA,ds,hp⟩:=zqq hp;have Vc:=@zuV ({ Losses:=eb.Losses,Reserve:=eb.Reserve,Treaties:=(eb.Treaties.set (Int.toNat (2:Int)) ({ Kind:=G.Kind,Part:=G.Part,Above:=G.Above,Most:=G.Most,Times:=G.Times,Price:=G.Price,Of:=(2:Int) }:Ty)),Reports:=eb.Reports }:Pg)
 dsimp only at Vc
 refine Vc ke.pre (kg.sub (Sub.trans (Sub.trans (Sub.trans (Sub.trans (Sub.trans (Sub.trans (Sub.trans (Sub.trans Da.fs da.fs) Y.fs) O.fs) N.fs) P.fs) S.fs) T.fs) ha.fs)) Tr (mg.sub (Sub.trans (Sub.trans (Sub.trans (Sub.trans (Sub.trans (Sub.trans (Sub.trans (Sub.trans Da.fs da.fs) Y.fs) O.fs) N.fs) P.fs) S.fs) T.fs) ha.fs)) ds fun HE es=>?_;obtain⟨me,Ra⟩:=ke.call es Pa;have gs:=Ur.k Ra;have hs:=Vr.k Ra;have js:=Xr.k Ra;have ks:=Yr.k Ra;have ms:=Zr.k Ra;have ns:=bs.k Ra;have os:=cs.k Ra;have s:=s.k Ra;have t:=t.k Ra;have j:=j.k Ra;refine⟨_,rfl,?_⟩;refine ifd hp (fun ps hp=>?_) fun ps hp=>?_; rotate_left
 ·obtain rfl:=oi hp;exact hq _ me.ext'
 refine⟨_,_,_,_,js.bk.ra,?_⟩;obtain⟨oe,qs,Ha,Lf⟩:=gs.freeze me;have ss:=hs.k Ha;have ts:=ks.k Ha;have us:=ms.k Ha;have vs:=ns.k Ha;have ws:=os.k Ha;have s:=s.k Ha;have t:=t.k Ha;have j:=j.k Ha;have xs:Sl oe (C.sl m6i1035.nxt 0 2 0 (Option.some 2)) ([Ua,Va]:List Rg):=Bk.sl (α:=Rg) (l:=([Ua,Va]:List Rg)) Lf (show Cat (α:=Rg) oe [Il Ua.Lo,Il Ua.Hi,Il Va.Lo,Il Va.Hi] ([Ua,Va]:List Rg) from ⟨[Il Ua.Lo,Il Ua.Hi],_,rfl,rfl,⟨[Il Va.Lo,Il Va.Hi],_,rfl,rfl,rfl⟩⟩) rfl rfl _;obtain⟨pe,ys,Ia,Mf⟩:=ss.freeze qs;have zs:=ts.k Ia;have As:=us.k Ia;have Bs:=vs.k Ia;have Cs:=ws.k Ia;have s:=s.k Ia;have t:=t.k Ia;have j:=j.k Ia;have Ds:Sl pe (C.sl m9i1035.nxt 0 3 0 (Option.some 3)) ([({ Kind:=(0:Int),Part:=(25:Int),Above:=(0:Int),Most:=(0:Int),Times:=(0:Int),Price:=(50:Int),Of:=(-1:Int) }:Ty),({ Kind:=(1:Int),Part:=(0:Int),Above:=(50:Int),Most:=(100:Int),Times:=(0:Int),Price:=(30:Int),Of:=(-1:Int) }:Ty),({ Kind:=(1:Int),Part:=(0:Int),Above:=(20:Int),Most:=(40:Int),Times:=(1:Int),Price:=(5:Int),Of:=(0:Int) }:Ty)]:List Ty):=Bk.sl (α:=Ty) (l:=([({ Kind:=(0:Int),Part:=(25:Int),Above:=(0:Int),Most:=(0:Int),Times:=(0:Int),Price:=(50:Int),Of:=(-1:Int) }:Ty),({ Kind:=(1:Int),Part:=(0:Int),Above:=(50:Int),Most:=(100:Int),Times:=(0:Int),Price:=(30:Int),Of:=(-1:Int) }:Ty),({ Kind:=(1:Int),Part:=(0:Int),Above:=(20:Int),Most:=(40:Int),Times:=(1:Int),Price:=(5:Int),Of:=(0:Int) }:Ty)]:List Ty)) Mf (show Cat (α:=Ty) pe [Il 0,(Il (25:Int)),Il 0,Il 0,Il 0,(Il (50:Int)),(Il (-1:Int)),(Il (1:Int)),Il 0,(Il (50:Int)),(Il (100:Int)),Il 0,(Il (30:Int)),(Il (-1:Int)),(Il (1:Int)),Il 0,(Il (20:Int)),(Il (40:Int)),(Il (1:Int)),(Il (5:Int)),Il 0] ([({ Kind:=(0:Int),Part:=(25:Int),Above:=(0:Int),Most:=(0:Int),Times:=(0:Int),Price:=(50:Int),Of:=(-1:Int) }:Ty),({ Kind:=(1:Int),Part:=(0:Int),Above:=(50:Int),Most:=(100:Int),Times:=(0:Int),Price:=(30:Int),Of:=(-1:Int) }:Ty),({ Kind:=(1:Int),Part:=(0:Int),Above:=(20:Int),Most:=(40:Int),Times:=(1:Int),Price:=(5:Int),Of:=(0:Int) }:Ty)]:List Ty) from ⟨[Il 0,(Il (25:Int)),Il 0,Il 0,Il 0,(Il (50:Int)),(Il (-1:Int))],_,rfl,rfl,⟨[(Il (1:Int)),Il 0,(Il (50:Int)),(Il (100:Int)),Il 0,(Il (30:Int)),(Il (-1:Int))],_,rfl,rfl,⟨[(Il (1:Int)),Il 0,(Il (20:Int)),(Il (40:Int)),(Il (1:Int)),(Il (5:Int)),Il 0],_,rfl,rfl,rfl⟩⟩⟩) rfl rfl _
 obtain⟨XA,qe,Ja,Es⟩:=s.freeze ys;have Fs:=zs.k Ja;have Gs:=As.k Ja;have Hs:=Bs.k Ja;have Is:=Cs.k Ja;have t:=t.k Ja;have j:=j.k Ja;obtain⟨YA,Js,hp⟩:=zqq hp;have Xc:=@zuV ({ Losses:=([Ua,Va]:List Rg),Reserve:=(200:Int),Treaties:=([({ Kind:=(0:Int),Part:=(25:Int),Above:=(0:Int),Most:=(0:Int),Times:=(0:Int),Price:=(50:Int),Of:=(-1:Int) }:Ty),({ Kind:=(1:Int),Part:=(0:Int),Above:=(50:Int),Most:=(100:Int),Times:=(0:Int),Price:=(30:Int),Of:=(-1:Int) }:Ty),({ Kind:=(1:Int),Part:=(0:Int),Above:=(20:Int),Most:=(40:Int),Times:=(1:Int),Price:=(5:Int),Of:=(0:Int) }:Ty)]:List Ty),Reports:=(fc.set (Int.toNat (0:Int)) ({ Treaty:=(3:Int),Paid:=Ya.Paid }:Rpt)) }:Pg)
 dsimp only at Xc
 refine Xc qe.pre (xs.sub (Sub.trans Ia.fs Ja.fs)) (Ds.sub Ja.fs) Es Js fun IE Ks=>?_;obtain⟨re,mb⟩:=qe.call Ks Pa;have Ms:=Fs.k mb;have Ns:=Gs.k mb;have Os:=Hs.k mb;have Ps:=Is.k mb;have t:=t.k mb;have j:=j.k mb;refine⟨_,rfl,?_⟩;refine ifd hp (fun Qs hp=>?_) fun Qs hp=>?_; rotate_left
 ·obtain rfl:=oi hp;exact hq _ re.ext'
 refine⟨_,_,_,_,Ms.bk.ra,?_⟩;obtain⟨ZA,se,Sa,Ss⟩:=t.freeze re;have Ts:=Ns.k Sa;have Us:=Os.k Sa;have Vs:=Ps.k Sa;have j:=j.k Sa;obtain⟨aB,Ws,hp⟩:=zqq hp;have Yc:=@zuV ({ Losses:=(ib.Losses.set (Int.toNat (0:Int)) jb),Reserve:=ib.Reserve,Treaties:=ib.Treaties,Reports:=ib.Reports }:Pg)
 dsimp only at Yc
 refine Yc se.pre Ss (eh.sub (Sub.trans (Sub.trans (Sub.trans (Sub.trans (Sub.trans (Sub.trans (Sub.trans (Sub.trans (Sub.trans (Sub.trans Y.fs O.fs) N.fs) P.fs) S.fs) T.fs) ha.fs) Ha.fs) Ia.fs) Ja.fs) Sa.fs)) (fh.sub (Sub.trans (Sub.trans (Sub.trans (Sub.trans (Sub.trans (Sub.trans (Sub.trans (Sub.trans (Sub.trans (Sub.trans Y.fs O.fs) N.fs) P.fs) S.fs) T.fs) ha.fs) Ha.fs) Ia.fs) Ja.fs) Sa.fs)) Ws fun JE Xs=>?_;obtain⟨te,Hb⟩:=se.call Xs Pa;have Ys:=Ts.k Hb;have Zs:=Us.k Hb;have bt:=Vs.k Hb;have j:=j.k Hb;refine⟨_,rfl,?_⟩;refine ifd hp (fun ct hp=>?_) fun ct hp=>?_; rotate_left
 ·obtain rfl:=oi hp;exact hq _ te.ext'
 refine⟨_,_,_,_,Ys.bk.ra,?_⟩;obtain⟨bB,ue,ob,dt⟩:=j.freeze te;have et:=Zs.k ob;have ft:=bt.k ob;obtain⟨cB,gt,hp⟩:=zqq hp;refine zuV (p:=({ Losses:=(List.replicate (Int.toNat (5:Int)) ({ Lo:=(0:Int),Hi:=(0:Int) }:Rg)),Reserve:=wb.Reserve,Treaties:=wb.Treaties,Reports:=wb.Reports }:Pg)) ue.pre dt (lh.sub (Sub.trans (Sub.trans (Sub.trans (Sub.trans (Sub.trans (Sub.trans (Sub.trans (Sub.trans (Sub.trans (Sub.trans O.fs N.fs) P.fs) S.fs) T.fs) ha.fs) Ha.fs) Ia.fs) Ja.fs) Sa.fs) ob.fs)) (mh.sub (Sub.trans (Sub.trans (Sub.trans (Sub.trans (Sub.trans (Sub.trans (Sub.trans (Sub.trans (Sub.trans (Sub.trans O.fs N.fs) P.fs) S.fs) T.fs) ha.fs) Ha.fs) Ia.fs) Ja.fs) Sa.fs) ob.fs)) gt fun KE ht=>?_;obtain⟨ve,we⟩:=ue.call ht Pa;have it:=et.k we;have jt:=ft.k we;refine⟨_,rfl,?_⟩;refine ifd hp (fun kt hp=>?_) fun kt hp=>?_; rotate_left
 ·obtain rfl:=oi hp;exact hq _ ve.ext'
 refine⟨_,_,_,_,it.bk.ra,?_⟩;obtain⟨xe,ye,ze,Nf⟩:=jt.freeze ve;have mt:Sl xe (C.sl zd.nxt 0 2 0 (Option.some 2)) ([Za,ab]:List Rg):=Bk.sl (α:=Rg) (l:=([Za,ab]:List Rg)) Nf (show Cat (α:=Rg) xe [Il Za.Lo,Il Za.Hi,Il ab.Lo,Il ab.Hi] ([Za,ab]:List Rg) from ⟨[Il Za.Lo,Il Za.Hi],_,rfl,rfl,⟨[Il ab.Lo,Il ab.Hi],_,rfl,rfl,rfl⟩⟩) rfl rfl _;obtain⟨dB,nt,hp⟩:=zqq hp;refine zuV (p:=({ Losses:=([Za,ab]:List Rg),Reserve:=Eb.Reserve,Treaties:=Eb.Treaties,Reports:=Eb.Reports }:Pg)) ye.pre mt (Kn.sub (Sub.trans (Sub.trans (Sub.trans (Sub.trans (Sub.trans (Sub.trans (Sub.trans (Sub.trans (Sub.trans (Sub.trans N.fs P.fs) S.fs) T.fs) ha.fs) Ha.fs) Ia.fs) Ja.fs) Sa.fs) ob.fs) ze.fs)) (Ln.sub (Sub.trans (Sub.trans (Sub.trans (Sub.trans (Sub.trans (Sub.trans (Sub.trans (Sub.trans (Sub.trans (Sub.trans N.fs P.fs) S.fs) T.fs) ha.fs) Ha.fs) Ia.fs) Ja.fs) Sa.fs) ob.fs) ze.fs)) nt fun LE ot=>?_;obtain⟨wc,eB⟩:=ye.call ot Pa;refine⟨_,rfl,?_⟩;refine ifd hp (fun pt hp=>?_) fun pt hp=>?_; rotate_left
 ·obtain rfl:=oi hp;exact hq _ wc.ext'
 obtain⟨fB,qt,hp⟩:=zqq hp;refine zuV (p:=({ Losses:=[],Reserve:=(0:Int),Treaties:=[],Reports:=[] }:Pg)) wc.pre (Sl.nil _) (Sl.nil _) (Sl.nil _) qt fun ME rt=>?_;obtain⟨xc,gB⟩:=wc.call rt Pa;refine⟨_,rfl,?_⟩;refine ifd hp (fun ut hp=>?_) fun ut hp=>?_; rotate_left
 ·obtain rfl:=oi hp;exact hq _ xc.ext'
 obtain⟨hB,vt,hp⟩:=zqq hp;refine zwg xc.pre  vt fun NE wt=>?_;obtain⟨yt,iB⟩:=xc.call wt Pa;refine⟨_,rfl,?_⟩;obtain rfl:=oi hp;exact hq _ yt.ext'
end
end Go.Proofs.Ytkcmdghjgoaggaa

namespace Go.Proofs.Ytkcmdghjgoaggaa
open _root_.Go.Proofs.Try
open Go.Abs
set_option maxRecDepth 100000
noncomputable section
def Inc(n fr:Nat)(T:List Int):Prop:=T.Pairwise (· < ·)/\∀v∈T,(fr:Int)<=v/\v < n
theorem Inc.cons{n fr:Nat}{x:Int}{T:List Int}:Inc n fr (x::T)↔((fr:Int)<=x/\x < n)/\Inc n (x+1).toNat T:=by
 unfold Inc;rw[List.pairwise_cons]
 constructor
 ·rintro⟨⟨h1,h2⟩,h3⟩
  have hx:=h3 x (List.mem_cons_self ..);exact⟨hx,h2,fun v hv=>by have:=h1 v hv; have:=h3 v (List.mem_cons_of_mem _ hv); omega⟩
 ·rintro⟨hx,h2,h3⟩
  refine⟨⟨fun v hv=>by have:=h3 v hv; omega,h2⟩,fun v hv=>?_⟩
  rcases List.mem_cons.1 hv with rfl | hv
  ·exact hx
  ·have:=h3 v hv; omega
theorem zwl{n:Nat}{D:List Int}:∀{d:Nat} {pre:List Int} {fr:Nat},D∈zrw n d pre fr↔∃T,D=pre++T/\T.length=d/\Inc n fr T
 | 0,pre,fr=>by
  show D∈[pre]↔_
  rw[List.mem_singleton]
  constructor
  ·rintro rfl; exact⟨[],by simp,rfl,.nil,fun v hv=>by cases hv⟩
  ·rintro⟨T,h1,h2,_⟩
   rw[List.eq_nil_of_length_eq_zero h2,List.append_nil] at h1; exact h1
 | d+1,pre,fr=>by
  show D∈zrv (fun x=>zrw n d (pre++[(x:Int)]) (x+1)) (n - fr) fr↔_
  rw[zvf]
  constructor
  ·rintro⟨x,h1,h2,h3⟩
   obtain⟨T,h4,h5,h6⟩:=zwl.1 h3;refine⟨(x:Int)::T,by rw[h4]; simp,by simp[h5],Inc.cons.2 ⟨by omega,?_⟩⟩;rw[show((x:Int)+1).toNat=x+1 by omega]; exact h6
  ·rintro⟨T,h1,h2,h3⟩
   cases T with
   | nil=>simp at h2
   | cons v T=>
    obtain⟨h4,h5⟩:=Inc.cons.1 h3;refine⟨v.toNat,by omega,by omega,zwl.2 ⟨T,?_,by simpa using h2,?_⟩⟩
    ·rw[show((v.toNat:Nat):Int)=v by omega,h1]; simp
    ·rw[show v.toNat+1=(v+1).toNat by omega]; exact h5
theorem zwm{n:Nat}:∀{T:List Int} {fr:Nat},Inc n fr T->T.length<=n - fr
 | [],_,_=>Nat.zero_le _
 | v::T,fr,h=>by
  obtain⟨h1,h2⟩:=Inc.cons.1 h;have:=zwm h2
  simp only[List.length_cons]
  omega
theorem zwn{n:Nat}{D:List Int}:D∈zoj n↔Inc n 0 D:=by
 unfold zoj;rw[zvf]
 constructor
 ·rintro⟨s,_,_,h⟩
  obtain⟨T,h1,_,h2⟩:=zwl.1 h;rw[h1]; exact h2
 ·intro h;have:=zwm h;exact⟨D.length,Nat.zero_le _,by omega,zwl.2 ⟨D,rfl,rfl,h⟩⟩
def inD(D:List Int)(j:Nat):Bool:=decide ((j:Int)∈D)
def zwo(b:Nat):Nat->List Int
 | 0=>[]
 | p+1=>zwo b p++(if b.testBit p then [(p:Int)] else [])
def zwp(b:Nat):List Int:=zwo b 16
theorem zwq{b:Nat}{v:Int}:∀{p:Nat},v∈zwo b p↔0<=v/\v < p/\b.testBit v.toNat=true
 | 0=>⟨fun h=>(by cases h),fun h=>by omega⟩
 | p+1=>by
  show v∈zwo b p++_↔_
  rw[List.mem_append,zwq]
  constructor
  ·rintro (h | h)
   ·exact⟨h.1,by omega,h.2.2⟩
   ·by_cases hb:b.testBit p=true
    ·rw[if_pos hb,List.mem_singleton] at h;subst h; exact⟨by omega,by omega,hb⟩
    ·rw[if_neg hb] at h; cases h
  ·rintro⟨h1,h2,h3⟩
   by_cases hv:v=(p:Int)
   ·subst hv;have h4:b.testBit p=true:=h3;rw[if_pos h4]; exact .inr (List.mem_singleton.2 rfl)
   ·exact .inl ⟨h1,by omega,h3⟩
theorem zwr{b:Nat}:∀p:Nat,(zwo b p).Pairwise (· < ·)
 | 0=>.nil
 | p+1=>by
  show(zwo b p++_).Pairwise _
  rw[List.pairwise_append];refine⟨zwr p,?_,fun a ha c hc=>?_⟩
  ·split
   ·exact List.pairwise_singleton _ _
   ·exact .nil
  ·have:=zwq.1 ha
   split at hc
   ·rw[List.mem_singleton] at hc; omega
   ·cases hc
theorem zws{b p:Nat}(h:∀q,p<=q->b.testBit q=false):∀k,zwo b (p+k)=zwo b p
 | 0=>rfl
 | k+1=>by
  show zwo b (p+k)++(if b.testBit (p+k) then _ else _)=_
  rw[h (p+k) (by omega),zws h k]; simp
def bef:List Int->List Int->Bool
 | [],[]=>false
 | [],_::_=>true
 | _::_,[]=>false
 | x::a,y::b=>if x=y then bef a b else decide (x < y)
def shB(a b:List Int):Bool:=decide (a.length < b.length) || (decide (a.length=b.length) && bef a b)
theorem zwt:∀A:List Int,bef A A=false
 | []=>rfl
 | x::A=>by show(if x=x then bef A A else _)=_; rw[if_pos rfl,zwt A]
theorem zwu:∀{A B:List Int},bef A B=true->bef B A=false
 | [],[],h=>by cases h
 | [],_::_,_=>rfl
 | _::_,[],h=>by cases h
 | x::A,y::B,h=>by
  have h':(if x=y then bef A B else decide (x < y))=true:=h
  show(if y=x then bef B A else decide (y < x))=false
  by_cases hxy:x=y
  ·rw[if_pos hxy] at h'; rw[if_pos hxy.symm]; exact zwu h'
  ·rw[if_neg hxy] at h'; rw[if_neg fun h=>hxy h.symm];have:=of_decide_eq_true h';exact decide_eq_false (by omega)
theorem zwv{A B:List Int}(h:shB A B=true):shB B A=false:=by
 unfold shB at h ⊢;rw[Bool.or_eq_true,Bool.and_eq_true,decide_eq_true_eq,decide_eq_true_eq] at h
 rcases h with h | ⟨h1,h2⟩
 ·rw[decide_eq_false (by omega),decide_eq_false (by omega)]; rfl
 ·rw[decide_eq_false (by omega),zwu h2]; simp
theorem zww(x y:Int)(A B:List Int)(hxy:x < y):∀pre:List Int,bef (pre++x::A) (pre++y::B)=true
 | []=>by show(if x=y then _ else decide (x < y))=true; rw[if_neg (by omega),decide_eq_true hxy]
 | p::pre=>by show(if p=p then bef (pre++x::A) (pre++y::B) else _)=true; rw[if_pos rfl]; exact zww x y A B hxy pre
theorem zwx{α:Type}{R:α->α->Prop}(g:Nat->List α)(h1:∀x,(g x).Pairwise R)(h2:∀x y,x < y->∀a∈g x,∀b∈g y,R a b):∀e x,(zrv g e x).Pairwise R
 | 0,_=>.nil
 | e+1,x=>by
  show(g x++zrv g e (x+1)).Pairwise R
  rw[List.pairwise_append];refine⟨h1 x,zwx g h1 h2 e (x+1),fun a ha b hb=>?_⟩;obtain⟨j,h3,_,h4⟩:=(zvf g b e (x+1)).1 hb;exact h2 x j (by omega) a ha b h4
theorem zwy{n:Nat}:∀(d:Nat) (pre:List Int) (fr:Nat),(zrw n d pre fr).Pairwise fun a b=>bef a b=true
 | 0,pre,fr=>List.pairwise_singleton _ _
 | d+1,pre,fr=>zwx _ (fun x=>zwy d _ _) (fun x y hxy a ha b hb=>by
  obtain⟨T,h1,_,_⟩:=zwl.1 ha;obtain⟨T',h2,_,_⟩:=zwl.1 hb;rw[h1,h2,List.append_assoc,List.append_assoc]
  exact zww _ _ _ _ (by omega) pre) _ _
theorem zwz(n:Nat):(zoj n).Pairwise fun a b=>shB a b=true:=
 zwx _ (fun s=>(zwy s [] 0).imp_of_mem fun {a b} ha hb hab=>by
  have h1:=zvo ha;have h2:=zvo hb;unfold shB
  rw[hab,decide_eq_true (show a.length=b.length by omega)]; simp) (fun s s' hs a ha b hb=>by
  have h1:=zvo ha;have h2:=zvo hb;unfold shB
  rw[decide_eq_true (by omega)]; rfl) _ _
theorem zwA{t:List Int->Bool}:∀{l:List (List Int)},l.Pairwise (fun a b=>shB a b=true)->∀{D D':List Int},l.find? t=some D->D'∈l->t D'=true->D'=D\/shB D D'=true
 | [],_,_,_,h,_,_=>by cases h
 | a::l,hp,D,D',h,hm,ht=>by
  rw[List.pairwise_cons] at hp;rw[List.find?_cons] at h
  cases hta:t a with
  | true=>
   rw[hta] at h;have:a=D:=oi h;subst this
   rcases List.mem_cons.1 hm with rfl | h1
   ·exact .inl rfl
   ·exact .inr (hp.1 _ h1)
  | false=>
   rw[hta] at h
   rcases List.mem_cons.1 hm with rfl | h1
   ·rw[hta] at ht; cases ht
   ·exact zwA hp.2 h h1 ht
theorem zwB{n:Nat}{t:List Int->Bool}(h:∃D,Inc n 0 D/\t D=true):Inc n 0 (zrx n t)/\t (zrx n t)=true/\∀D,Inc n 0 D->t D=true->D=zrx n t\/shB (zrx n t) D=true:=by
 obtain⟨D0,h1,h2⟩:=h;unfold zrx
 cases hf:(zoj n).find? t with
 | none=>exact absurd h2 (by have:=List.find?_eq_none.1 hf D0 (zwn.2 h1); simpa using this)
 | some D=>exact⟨zwn.1 (List.mem_of_find?_eq_some hf),List.find?_some hf,fun D' h3 h4=>zwA (zwz n) hf (zwn.2 h3) h4⟩
theorem zwC:∀(n:Nat) (S:Nat->Bool),∃b,b < 2 ^ n/\∀q,q < n->b.testBit q=S q
 | 0,S=>⟨0,by decide,fun q hq=>by omega⟩
 | n+1,S=>by
  obtain⟨b,h1,h2⟩:=zwC n fun q=>S (q+1);refine⟨2 * b+(if S 0 then 1 else 0),?_,fun q hq=>?_⟩
  ·rw[Nat.pow_succ]; split <;> omega
  ·cases q with
   | zero=>
    rw[Nat.testBit_zero]
    cases S 0 with
    | true=>exact decide_eq_true (by simp only[if_true]; omega)
    | false=>exact decide_eq_false (by simp)
   | succ q=>
    rw[Nat.testBit_succ,<- h2 q (by omega)]
    congr 1
    split <;> omega
theorem zwD:∀{A B:List Int},A.Pairwise (· < ·)->B.Pairwise (· < ·)->(∀v,v∈A↔v∈B)->A=B
 | [],[],_,_,_=>rfl
 | [],b::B,_,_,h=>by have:=(h b).2 (List.mem_cons_self ..); cases this
 | a::A,[],_,_,h=>by have:=(h a).1 (List.mem_cons_self ..); cases this
 | a::A,b::B,hA,hB,h=>by
  rw[List.pairwise_cons] at hA hB
  have hab:a=b:=by
   rcases List.mem_cons.1 ((h a).1 (List.mem_cons_self ..)) with h1 | h1
   ·exact h1
   ·rcases List.mem_cons.1 ((h b).2 (List.mem_cons_self ..)) with h2 | h2
    ·exact h2.symm
    ·have:=hA.1 _ h2; have:=hB.1 _ h1; omega
  subst hab
  congr 1
  refine zwD hA.2 hB.2 fun v=>?_;have hv:=h v;rw[List.mem_cons,List.mem_cons] at hv
  constructor
  ·intro h1
   rcases hv.1 (.inr h1) with h2 | h2
   ·have:=hA.1 _ h1; omega
   ·exact h2
  ·intro h1
   rcases hv.2 (.inr h1) with h2 | h2
   ·have:=hB.1 _ h1; omega
   ·exact h2
theorem zwE{n b:Nat}(_hn:n<=16)(hb:b < 2 ^ n):Inc n 0 (zwp b):=
 ⟨zwr 16,fun v hv=>by
  obtain⟨h1,h2,h3⟩:=zwq.1 hv;refine⟨by omega,?_⟩
  by_cases h4:v < n
  ·exact h4
  ·have:=Nat.testBit_lt_two_pow (Nat.lt_of_lt_of_le hb (Nat.pow_le_pow_right (by omega) (show n<=v.toNat by omega)))
   rw[this] at h3; cases h3⟩
theorem zwF{n b k:Nat}(hn:n<=16)(hk:k < n):inD (zwp b) k=b.testBit k:=by
 unfold inD
 have:((k:Nat):Int)∈zwp b↔b.testBit k=true:=by
  unfold zwp;rw[zwq];exact⟨fun h=>h.2.2,fun h=>⟨by omega,by omega,h⟩⟩
 cases hb:b.testBit k with
 | true=>exact decide_eq_true (this.2 hb)
 | false=>exact decide_eq_false fun h=>by rw[this.1 h] at hb; cases hb
theorem zwG{n:Nat}{D:List Int}(hn:n<=16)(hD:Inc n 0 D):∃b,b < 2 ^ n/\zwp b=D:=by
 obtain⟨b,h1,h2⟩:=zwC n (inD D);refine⟨b,h1,zwD (zwr 16) hD.1 fun v=>?_⟩
 constructor
 ·intro hv;obtain⟨h3,h4⟩:=(zwE hn h1).2 v hv;obtain⟨_,_,h5⟩:=zwq.1 hv;rw[h2 _ (by omega)] at h5;have:=of_decide_eq_true h5
  rwa [show((v.toNat:Nat):Int)=v by omega] at this
 ·intro hv;have h3:=hD.2 v hv;refine zwq.2 ⟨by omega,by omega,?_⟩;rw[h2 _ (by omega)];exact decide_eq_true (by rw[show((v.toNat:Nat):Int)=v by omega]; exact hv)
theorem zwH{S β:Type}{n:Nat}(F:Nat->S->Int->Option β)(st:Nat->S){fin:Option β}(hstep:∀d k,k < n->F (d+1) (st k) (k:Int)=F d (st (k+1)) ((k:Int)+1))(hend:∀d,F (d+1) (st n) (n:Int)=fin) :
  ∀d k,k<=n->n - k < d->F d (st k) (k:Int)=fin
 | 0,k,_,h=>by omega
 | d+1,k,hk,h=>by
  by_cases hkn:k=n
  ·subst hkn; exact hend d
  ·rw[hstep d k (by omega),show(k:Int)+1=((k+1:Nat):Int) by omega];exact zwH F st hstep hend d (k+1) (by omega) (by omega)
def mk5(f:Nat->Int):P5:=⟨f 0,f 1,f 2,f 3,f 4⟩
def l5{α:Type}(f:Nat->α):List α:=[f 0,f 1,f 2,f 3,f 4]
theorem zwI{α:Type}{f:Nat->α}{k:Nat}(hk:k < 5):(l5 f)[k]? = some (f k):=by
 match k,hk with
 | 0,_=>rfl
 | 1,_=>rfl
 | 2,_=>rfl
 | 3,_=>rfl
 | 4,_=>rfl
theorem zwJ{α:Type}{f:Nat->α}{k:Nat}(hk:k < 5):idx (l5 f) (k:Int)=some (f k):=zrQ (zwI hk)
theorem zwK{α:Type}{f:Nat->α}{i:Int}(h0:0<=i)(h5:i < 5):idx (l5 f) i=some (f i.toNat):=by
 have:=zwJ (f:=f) (k:=i.toNat) (by omega)
 rwa [show((i.toNat:Nat):Int)=i by omega] at this
theorem zwL{f g:Nat->Int}(h:mk5 f=mk5 g){k:Nat}(hk:k < 5):f k=g k:=by
 have h:=P5.mk.inj h
 match k,hk with
 | 0,_=>exact h.1
 | 1,_=>exact h.2.1
 | 2,_=>exact h.2.2.1
 | 3,_=>exact h.2.2.2.1
 | 4,_=>exact h.2.2.2.2
def upF{α:Type}(f:Nat->α)(k:Nat)(a:α):Nat->α:=fun j=>if j=k then a else f j
theorem zwM{α:Type}(f:Nat->α)(k:Nat)(a:α):upF f k a k=a:=if_pos rfl
theorem zwN{α:Type}(f:Nat->α){k j:Nat}(a:α)(h:j ≠ k):upF f k a j=f j:=if_neg h
theorem zwO{α:Type}(f:Nat->α)(k:Nat)(a:α)(j:Nat):sti (k:Int) j a (f j)=upF f k a j:=by
 unfold sti upF
 by_cases h:j=k
 ·rw[if_pos h,if_pos (by omega)]
 ·rw[if_neg h,if_neg (by omega)]
theorem zwP{α:Type}(f:Nat->α){i:Int}(hi:0<=i)(a:α)(j:Nat):sti i j a (f j)=upF f i.toNat a j:=by
 have:=zwO f i.toNat a j
 rwa [show((i.toNat:Nat):Int)=i by omega] at this
def RgV(r:Rg)(hi:Int):Prop:=0<=r.Lo/\r.Lo<=r.Hi/\r.Hi<=hi
def zgo(t:Ty):Prop:=(t.Kind=0/\(1<=t.Part/\t.Part<=100)/\t.Above=0/\t.Most=0/\t.Times=0)\/(t.Kind=1/\t.Part=0/\(0<=t.Above/\t.Above<=1000)/\(1<=t.Most/\t.Most<=1000)/\0<=t.Times/\t.Times<=3)
def zwQ(t:Ty):Prop:=zgo t/\0<=t.Price/\t.Price<=1000
def zwR(ts:List Ty):Prop:=∀(i:Nat) (t:Ty),ts[i]? = some t->-1<=t.Of/\t.Of<=(i:Int) - 1
def zwS(p:Pg)(r:Rpt):Prop:=(0<=r.Treaty/\r.Treaty<=(p.Treaties.length:Int) - 1)/\RgV r.Paid 10000
structure zwT (p:Pg):Prop where
 ls:∀r∈p.Losses,RgV r 1000
 res:0<=p.Reserve/\p.Reserve<=10000
 ts:∀t∈p.Treaties,zwQ t
 of':zwR p.Treaties
 rs:∀r∈p.Reports,zwS p r
def zwU(p:Pg):Prop:=4 < p.Losses.length\/5 < p.Treaties.length\/5 < p.Reports.length
def zwV:List Rg->Int
 | []=>1
 | r::l=>(r.Hi - r.Lo+1) * zwV l
open Classical in
def zwW(p:Pg):Int:=if zwU p then 3 else if zwT p then (if 1500 < zwV p.Losses then 3 else 0) else 1
structure VP (p:Pg):Prop extends zwT p where
 l4:p.Losses.length<=4
 t5:p.Treaties.length<=5
 r5:p.Reports.length<=5
 many:zwV p.Losses<=1500
theorem zwX{p:Pg}:zwW p=0↔VP p:=by
 unfold zwW
 by_cases h:zwU p
 ·rw[if_pos h]; exact⟨fun h=>by omega,fun h2=>by have:=h2.l4; have:=h2.t5; have:=h2.r5; unfold zwU at h; omega⟩
 ·rw[if_neg h];unfold zwU at h
  by_cases hf:zwT p
  ·rw[if_pos hf]
   by_cases hm:1500 < zwV p.Losses
   ·rw[if_pos hm]; exact⟨fun h=>by omega,fun h=>by have:=h.many; omega⟩
   ·rw[if_neg hm]; exact⟨fun _=>⟨hf,by omega,by omega,by omega,by omega⟩,fun _=>rfl⟩
  ·rw[if_neg hf]; exact⟨fun h=>by omega,fun h=>absurd ⟨h.ls,h.res,h.ts,h.of',h.rs⟩ hf⟩
theorem zwY{r:Rg}{n:Int}:Ev (zsj r n) (r.Lo<=n/\n<=r.Hi):=Ev.ite fun _=>Ev.dec Iff.rfl
theorem zwZ{a b:Int}{r:Rg}:Ev (zsk { Lo:=a,Hi:=b } r) (a<=r.Lo/\r.Lo<=r.Hi/\r.Hi<=b):=Ev.ite fun _=>Ev.ite fun _=>Ev.dec Iff.rfl
theorem zw0{k:Kd}{t:Ty}:Ev (zst k t) ((k.part.Lo<=t.Part/\t.Part<=k.part.Hi)/\(k.above.Lo<=t.Above/\t.Above<=k.above.Hi)/\(k.most.Lo<=t.Most/\t.Most<=k.most.Hi)/\k.times.Lo<=t.Times/\t.Times<=k.times.Hi):=
 zwY.and fun _=>zwY.and fun _=>zwY.and fun _=>zwY.ret
def zw1:K2:={ k0:={ part:={ Lo:=1,Hi:=100 },above:={ Lo:=0,Hi:=0 },most:={ Lo:=0,Hi:=0 },times:={ Lo:=0,Hi:=0 },takes:=(fun t a b=>zsq t a b) },k1:={ part:={ Lo:=0,Hi:=0 },above:={ Lo:=0,Hi:=1000 },most:={ Lo:=1,Hi:=1000 },times:={ Lo:=0,Hi:=3 },takes:=(fun t a b=>zsr t a b) } }
theorem zw2:zss=some zw1:=rfl
theorem zw3{t:Ty}:Ev (zsu zw1 t) (zwQ t):=by
 unfold zsu
 show Ev ((zsj { Lo:=0,Hi:=1 } t.Kind).bind _) _
 refine(zwY.and (K:=zgo t/\0<=t.Price/\t.Price<=1000) fun hk=>?_).imp ?_
 ·by_cases h0:t.Kind=0
  ·rw[if_pos h0];refine(zw0.and fun _=>(show Ev (zsj { Lo:=0,Hi:=1000 } t.Price) _ from zwY).ret).imp ?_
   show((1<=t.Part/\t.Part<=100)/\(0<=t.Above/\t.Above<=0)/\(0<=t.Most/\t.Most<=0)/\0<=t.Times/\t.Times<=0)/\(0<=t.Price/\t.Price<=1000)↔_
   unfold zgo; omega
  ·have h1:t.Kind=1:=by
    have hk:0<=t.Kind/\t.Kind<=1:=hk
    omega
   rw[if_neg h0,if_pos h1];refine(zw0.and fun _=>(show Ev (zsj { Lo:=0,Hi:=1000 } t.Price) _ from zwY).ret).imp ?_
   show((0<=t.Part/\t.Part<=0)/\(0<=t.Above/\t.Above<=1000)/\(1<=t.Most/\t.Most<=1000)/\0<=t.Times/\t.Times<=3)/\(0<=t.Price/\t.Price<=1000)↔_
   unfold zgo; omega
 ·show((0<=t.Kind/\t.Kind<=1)/\zgo t/\0<=t.Price/\t.Price<=1000)↔zwQ t
  unfold zwQ zgo; omega
theorem gR{l:List Rg}{p:Rg->Option Bool}:∀{d:Nat} {x:Int},zsB l p d x=gIdx l p d x
 | 0,_=>rfl
 | d+1,x=>by unfold zsB gIdx; simp only[gR]
theorem gT{l:List Ty}{p:Ty->Option Bool}:∀{d:Nat} {x:Int},zsG l p d x=gIdx l p d x
 | 0,_=>rfl
 | d+1,x=>by unfold zsG gIdx; simp only[gT]
theorem gQ{l:List Rpt}{p:Rpt->Option Bool}:∀{d:Nat} {x:Int},zsL l p d x=gIdx l p d x
 | 0,_=>rfl
 | d+1,x=>by unfold zsL gIdx; simp only[gQ]
theorem gI{l:List Int}{p:Int->Option Bool}:∀{d:Nat} {x:Int},zsQ l p d x=gIdx l p d x
 | 0,_=>rfl
 | d+1,x=>by unfold zsQ gIdx; simp only[gI]
theorem zw4{p:Pg}{n:Int}(h:zrZ p.Treaties):Ev (zsw p n) (0<=n/\n<=(p.Treaties.length:Int) - 1):=by
 unfold zsw;unfold zrZ at h;refine Ev.gd (fI (by omega)) ?_;exact(show Ev (zsj { Lo:=0,Hi:=(p.Treaties.length:Int) - 1 } n) _ from zwY).ret
theorem zw5{p:Pg}{r:Rpt}(h:zrZ p.Treaties):Ev (zsx p r) (zwS p r):=(zw4 h).and fun _=>(zwZ (a:=0) (b:=10000)).ret
theorem zw6{p:Pg}(h:zrZ p.Treaties):Ev (zsz p) (zwR p.Treaties):=by
 unfold zrZ at h;refine(Ev.loop (n:=p.Treaties.length) (F:=fun d x=>zsy p d x) (ok:=fun j=>∀t,p.Treaties[j]? = some t->-1<=t.Of/\t.Of<=(j:Int) - 1) (fin:=some true) (P:=True) (fun d k hk=>?_) (fun d=>?_) (by omega) (fun _=>Ev.tt trivial)).imp ?_
 ·have hg:=List.getElem?_eq_getElem hk
  show(_->zsy p (d+1) (k:Int)=_)/\(_->zsy p (d+1) (k:Int)=_)
  rw[zsy,if_pos (by omega),zrQ hg,obs,zqs (fI (by omega))];exact(show Ev (zsj { Lo:=-1,Hi:=(k:Int) - 1 } (p.Treaties[k]).Of) (∀t,p.Treaties[k]? = some t->-1<=t.Of/\t.Of<=(k:Int) - 1) from zwY.imp ⟨fun h t ht=>by rw[hg] at ht; cases ht; exact h,fun h=>h _ hg⟩).step (by rw[if_pos rfl,zqs (fI (by omega))]) (by rw[if_neg (by decide)])
 ·show zsy p (d+1) _=_
  rw[zsy,if_neg (Int.lt_irrefl _)]
 ·exact⟨fun h i t ht=>h.1 i (List.getElem?_eq_some_iff.1 ht).1 t ht,fun h=>⟨fun j _ t ht=>h j t ht,trivial⟩⟩
theorem zw7{p:Pg}(h1:zrZ p.Losses)(h2:zrZ p.Treaties)(h3:zrZ p.Reports):Ev (zsW p) (zwT p):=by
 unfold zsW;rw[zw2,obs]
 show Ev ((zsE p.Losses fun a=>zsk { Lo:=0,Hi:=1000 } a).bind _) _
 refine((Ev.each (q:=fun r=>RgV r 1000) (fun a _=>zwZ) h1.lt gR).and fun _=>(show Ev (zsj { Lo:=0,Hi:=10000 } p.Reserve) _ from zwY).and fun _=>(Ev.each (q:=zwQ) (fun a _=>zw3) h2.lt gT).and fun _=>(zw6 h2).and fun _=>(Ev.each (q:=zwS p) (fun a _=>zw5 h2) h3.lt gQ).ret).imp ?_;exact⟨fun⟨a,b,c,d,e⟩=>⟨a,b,c,d,e⟩,fun⟨a,b,c,d,e⟩=>⟨a,b,c,d,e⟩⟩
theorem zw8{p:Pg}:Ev (zsv p) (zwU p):=by
 unfold zsv zwU
 by_cases h:(4:Int) < p.Losses.length
 ·rw[if_pos h]; exact Ev.tt (by omega)
 ·rw[if_neg h]
  by_cases h2:(5:Int) < p.Treaties.length
  ·rw[if_pos h2]; exact Ev.tt (by omega)
  ·rw[if_neg h2]; exact Ev.dec (by omega)
theorem zw9{r:Rg}(h:RgV r 1000):zsX r=some (r.Hi - r.Lo+1):=by
 unfold RgV at h;unfold zsX;rw[zqs (fI (by omega)),zqs (fI (by omega))]
theorem zxa:∀{l:List Rg},(∀r∈l,RgV r 1000)->l.length<=4->1<=zwV l/\zwV l<=1001 ^ l.length
 | [],_,_=>⟨Int.le_refl _,Int.le_refl _⟩
 | r::l,h,h4=>by
  have h1:=h r (List.mem_cons_self ..);obtain⟨h2,h3⟩:=zxa (l:=l) (fun r hr=>h r (List.mem_cons_of_mem _ hr)) (by simp only[List.length_cons] at h4; omega);unfold RgV at h1
  show 1<=(r.Hi - r.Lo+1) * zwV l/\(r.Hi - r.Lo+1) * zwV l<=1001 ^ (l.length+1)
  have h5:1 * 1<=(r.Hi - r.Lo+1) * zwV l:=Int.mul_le_mul (by omega) h2 (by omega) (by omega);have h6:(r.Hi - r.Lo+1) * zwV l<=1001 * 1001 ^ l.length:=Int.mul_le_mul (by omega) h3 (by omega) (by omega);refine⟨by omega,?_⟩;rw[Int.pow_succ,Int.mul_comm ((1001:Int) ^ l.length)]; exact h6
theorem zxb{n:Nat}(h:n<=4):(1001:Int) ^ n<=1004006004001:=by
 match n,h with
 | 0,_=>decide
 | 1,_=>decide
 | 2,_=>decide
 | 3,_=>decide
 | 4,_=>decide
theorem zxc{l:List Rg}{k:Nat}{r:Rg}(h:l[k]? = some r):zwV (l.take (k+1))=zwV (l.take k) * (r.Hi - r.Lo+1):=by
 induction l generalizing k with
 | nil=>cases h
 | cons a l ih=>
  cases k with
  | zero=>cases h; show(r.Hi - r.Lo+1) * 1=1 * (r.Hi - r.Lo+1); rw[Int.one_mul,Int.mul_one]
  | succ k=>
   rw[List.take_succ_cons,List.take_succ_cons]
   show(a.Hi - a.Lo+1) * zwV (l.take (k+1))=(a.Hi - a.Lo+1) * zwV (l.take k) * _
   rw[ih h,Int.mul_assoc]
theorem zxd{l:List Rg}(h:∀r∈l,RgV r 1000)(h4:l.length<=4)(k:Nat):1<=zwV (l.take k)/\zwV (l.take k)<=1004006004001:=by
 have h1:=zxa (l:=l.take k) (fun r hr=>h r (List.mem_of_mem_take hr)) (by rw[List.length_take]; omega);have h2:=zxb (n:=(l.take k).length) (by rw[List.length_take]; omega)
 omega
theorem zxe{l:List Rg}(h:∀r∈l,RgV r 1000)(h4:l.length<=4):zsZ l=some (zwV l):=by
 unfold zsZ;have key:=zwH (n:=l.length) (fun d s x=>zsY l d s x) (fun k=>zwV (l.take k)) (fin:=some (zwV l)) (fun d k hk=>?_) (fun d=>?_) (l.length+1) 0 (by omega) (by omega)
 ·exact key
 ·have hg:=List.getElem?_eq_getElem hk;have hr:=h _ (List.getElem_mem hk);have hb:=zxd h h4 k;have hb2:=zxd h h4 (k+1);rw[zxc hg] at hb2
  show zsY l (d+1) _ _=_
  rw[zsY,if_pos (by omega),zrQ hg,obs,zw9 hr,obs,zqs (by omega),zqs (by unfold RgV at hr; omega),zqs (fI (by omega)),zqs (fI (by omega)),<- zxc hg]
 ·show zsY l (d+1) _ _=_
  rw[zsY,if_neg (by omega),List.take_length]
theorem zxf{p:Pg}(h4:p.Losses.length<=1000):zs1 p=some p.Losses:=by
 unfold zs1;have key:=zwH (n:=p.Losses.length) (fun d s x=>zs0 p d s x) (fun k=>p.Losses.take k) (fin:=some p.Losses) (fun d k hk=>?_) (fun d=>?_) (p.Losses.length+1) 0 (by omega) (by omega)
 ·exact key
 ·have hg:=List.getElem?_eq_getElem hk
  show zs0 p (d+1) _ _=_
  rw[zs0,if_pos (by omega),zrQ hg,obs,zqs (by rw[List.length_take]; omega),zqs (fI (by omega)),List.take_add_one,hg]; rfl
 ·show zs0 p (d+1) _ _=_
  rw[zs0,if_neg (by omega),List.take_length]
theorem zxg{p:Pg}(h1:zrZ p.Losses)(h2:zrZ p.Treaties)(h3:zrZ p.Reports):zs2 p=some (zwW p):=by
 unfold zs2 zwW;refine zw8.pick (fun h=>?_) fun h=>?_
 ·rw[if_pos rfl,if_pos h]
 ·rw[if_neg (by decide),if_neg h];unfold zwU at h;refine(zw7 h1 h2 h3).pick (fun h=>?_) fun h=>?_
  ·rw[if_pos rfl,if_pos h,zxf (by omega),obs,zxe h.ls (by omega),obs]
   split <;> rfl
  ·rw[if_neg (by decide),if_neg h]
end
end Go.Proofs.Ytkcmdghjgoaggaa

namespace Go.Proofs.Ytkcmdghjgoaggaa
open _root_.Go.Proofs.Try
open Go.Abs
set_option maxRecDepth 100000
noncomputable section
theorem zxh{l:List Int}(h:l ≠ [])(hl:l.length<=1048577):zsn l=some (zr2 l):=by
 unfold zsn
 cases l with
 | nil=>exact absurd rfl h
 | cons x l=>
  rw[if_neg (by rw[List.length_cons]; omega),zrS rfl,obs];refine(zr1 (l:=x::l) (fun s a=>min s a) (fun d s k=>zsm (x::l) d s k) (fun s=>some s) (fun d k s a hk=>?_) (fun d s=>?_) _ 0 x (Nat.zero_le _) (by omega)).trans ?_
  ·have hkl:=(List.getElem?_eq_some_iff.1 hk).1
   show zsm (x::l) (d+1) s (k:Int)=_
   rw[zsm,if_pos (by omega),zrQ hk,obs]
   by_cases hc:a < s
   ·rw[if_pos hc,zqs (fI (by omega)),Int.min_eq_right (by omega)]
   ·rw[if_neg hc,zqs (fI (by omega)),Int.min_eq_left (by omega)]
  ·show zsm (x::l) (d+1) s _=_
   rw[zsm,if_neg (Int.lt_irrefl _)]
  ·rw[List.drop_zero]
   show some (l.foldl min (min x x))=_
   rw[Int.min_self]; rfl
theorem zxi{l:List Int}(h:l ≠ [])(hl:l.length<=1048577):zsp l=some (zr3 l):=by
 unfold zsp
 cases l with
 | nil=>exact absurd rfl h
 | cons x l=>
  rw[if_neg (by rw[List.length_cons]; omega),zrS rfl,obs];refine(zr1 (l:=x::l) (fun s a=>max s a) (fun d s k=>zso (x::l) d s k) (fun s=>some s) (fun d k s a hk=>?_) (fun d s=>?_) _ 1 x (by rw[List.length_cons]; omega) (by rw[List.length_cons]; omega)).trans ?_
  ·have hkl:=(List.getElem?_eq_some_iff.1 hk).1
   show zso (x::l) (d+1) s (k:Int)=_
   rw[zso,if_pos (by omega),zrQ hk,obs,zqs (fI (by omega))]
  ·show zso (x::l) (d+1) s _=_
   rw[zso,if_neg (Int.lt_irrefl _)]
  ·rfl
def zxj(t:Ty):Int:=t.Most * (t.Times+1)
def zxk(t:Ty)(a b:Int):Int:=if t.Kind=0 then a * t.Part / 100 else min (min (max 0 (a - t.Above)) t.Most) (zxj t - b)
theorem zxl{t:Ty}(ht:zgo t):0<=zxj t/\zxj t<=4000:=by
 unfold zxj
 rcases ht with ⟨_,_,_,h,_⟩ | ⟨_,_,_,h1,h2⟩
 ·rw[h,Int.zero_mul]; omega
 ·have:=Int.mul_le_mul (a:=t.Most) (b:=t.Times+1) (c:=1000) (d:=4) (by omega) (by omega) (by omega) (by omega);have:=Int.mul_nonneg (a:=t.Most) (b:=t.Times+1) (by omega) (by omega)
  omega
theorem zxm{t:Ty}{a:Int}(hp:1<=t.Part/\t.Part<=100)(ha:0<=a/\a<=100000):(0<=a * t.Part/\a * t.Part<=10000000)/\0<=a * t.Part / 100/\a * t.Part / 100<=a:=by
 have h1:=Int.mul_nonneg (a:=a) (b:=t.Part) (by omega) (by omega);have h2:=Int.mul_le_mul_of_nonneg_left (a:=t.Part) (b:=100) (c:=a) (by omega) (by omega)
 omega
theorem zxn{t:Ty}(ht:zgo t){a b:Int}(ha:0<=a/\a<=100000)(hb:t.Kind=1->b<=zxj t):0<=zxk t a b/\zxk t a b<=a/\(t.Kind=1->b+zxk t a b<=zxj t):=by
 unfold zxk
 rcases ht with ⟨h0,hp,_⟩ | ⟨h0,_,h3,h4,h5⟩
 ·have h1:=zxm hp ha;rw[if_pos h0]
  omega
 ·have hb:=hb h0;rw[if_neg (by omega)]
  omega
theorem zxo{t:Ty}(hp:1<=t.Part/\t.Part<=100){a b:Int}(ha:0<=a/\a<=100000):zsq t a b=some (a * t.Part / 100):=by
 have h1:=zxm hp ha;unfold zsq;rw[zqs (by omega),zqs (by omega),zqs (fI (by omega)),zqs (by omega),zqs (by omega),zqs (fI (by omega))]
theorem zxp{t:Ty}(ht:zgo t)(h1:t.Kind=1){a b:Int}(ha:0<=a/\a<=100000)(hb:-100000<=b/\b<=100000):zsr t a b=some (zxk t a b):=by
 have hc:=zxl ht;unfold zgo at ht;unfold zxj at hc;unfold zsr zxk;rw[zqs (fI (by omega)),zqs (fI (by omega)),zqs (by omega),zqs (by omega),zqs (fI (by omega)),zqs (fI (by omega)),zxh (by simp) (by simp),obs,if_neg (by omega)]
 rfl
structure DS where
 pays:Nat->Int
 keeps:Nat->Int
 soc:Int
def zxq(t:Ty)(k:Nat)(P:Nat->Int)(s:DS):DS:=
 if t.Of = -1 then ⟨upF s.pays k (zxk t s.soc (P k)),upF s.keeps k (zxk t s.soc (P k)),s.soc - zxk t s.soc (P k)⟩
 else ⟨upF s.pays k (zxk t (s.keeps t.Of.toNat) (P k)),upF (upF s.keeps t.Of.toNat (s.keeps t.Of.toNat - zxk t (s.keeps t.Of.toNat) (P k))) k (zxk t (s.keeps t.Of.toNat) (P k)),s.soc⟩
def dN(ts:List Ty)(P:Nat->Int)(x:Int):Nat->DS
 | 0=>⟨fun _=>0,fun _=>0,x⟩
 | k+1=>match ts[k]? with
  | some t=>zxq t k P (dN ts P x k)
  | none=>dN ts P x k
theorem zxr{ts:List Ty}{P:Nat->Int}{x:Int}{k:Nat}{t:Ty}(h:ts[k]? = some t):dN ts P x (k+1)=zxq t k P (dN ts P x k):=by
 show(match ts[k]? with | some t=>zxq t k P (dN ts P x k) | none=>dN ts P x k)=_
 rw[h]
def zxs(ts:List Ty)(P:Nat->Int):Prop:=∀(j:Nat) (t:Ty),ts[j]? = some t->t.Kind=1->P j<=zxj t
structure zxt (ts:List Ty):Prop where
 k:∀t∈ts,zgo t
 o:zwR ts
theorem VP.tsOk{p:Pg}(h:VP p):zxt p.Treaties:=⟨fun t ht=>(h.ts t ht).1,h.of'⟩
structure DI (ts:List Ty) (P:Nat->Int) (x:Int) (k:Nat) (s:DS):Prop where
 soc:0<=s.soc/\s.soc<=x
 pays:∀j,0<=s.pays j/\s.pays j<=x
 keeps:∀j,0<=s.keeps j/\s.keeps j<=x
 z:∀j,k<=j->s.pays j=0/\s.keeps j=0
 cap:zxs ts fun j=>P j+s.pays j
theorem zxu{ts:List Ty}(hts:zxt ts){P:Nat->Int}(hP:zxs ts P){x:Int}(hx:0<=x/\x<=100000):∀k,k<=ts.length->DI ts P x k (dN ts P x k)
 | 0,_=>⟨⟨hx.1,Int.le_refl _⟩,fun _=>⟨Int.le_refl _,hx.1⟩,fun _=>⟨Int.le_refl _,hx.1⟩,fun _ _=>⟨rfl,rfl⟩,fun j t ht h1=>by have:=hP j t ht h1; show P j+0<=_; omega⟩
 | k+1,hk=>by
  have ih:=zxu hts hP hx k (by omega);have hg:=List.getElem?_eq_getElem (show k < ts.length by omega);have hkd:=hts.k _ (List.getElem_mem (show k < ts.length by omega));have hof:=hts.o k _ hg;rw[zxr hg];generalize dN ts P x k=s at ih ⊢;generalize ts[k]'(by omega)=t at hg hkd hof;have hcp:t.Kind=1->P k<=zxj t:=hP k t hg;unfold zxq
  by_cases h1:t.Of = -1
  ·rw[if_pos h1];have hs:=ih.soc;have hb:=zxn hkd (a:=s.soc) (by omega) hcp;refine⟨by show 0<=s.soc - zxk t s.soc (P k)/\s.soc - zxk t s.soc (P k)<=x; omega,fun j=>?_,fun j=>?_,fun j hj=>?_,fun j t' ht' h'=>?_⟩
   ·show 0<=upF s.pays k _ j/\upF s.pays k _ j<=x
    by_cases hjk:j=k
    ·subst hjk; rw[zwM]; omega
    ·rw[zwN _ _ hjk]; exact ih.pays j
   ·show 0<=upF s.keeps k _ j/\upF s.keeps k _ j<=x
    by_cases hjk:j=k
    ·subst hjk; rw[zwM]; omega
    ·rw[zwN _ _ hjk]; exact ih.keeps j
   ·show upF s.pays k _ j=0/\upF s.keeps k _ j=0
    rw[zwN _ _ (by omega),zwN _ _ (by omega)]; exact ih.z j (by omega)
   ·show P j+upF s.pays k _ j<=_
    by_cases hjk:j=k
    ·subst hjk; rw[hg] at ht'; cases ht'; rw[zwM]; exact hb.2.2 h'
    ·rw[zwN _ _ hjk]; exact ih.cap j t' ht' h'
  ·rw[if_neg h1];have hs:=ih.soc;have hk':=ih.keeps t.Of.toNat;have hb:=zxn hkd (a:=s.keeps t.Of.toNat) (by omega) hcp;refine⟨hs,fun j=>?_,fun j=>?_,fun j hj=>?_,fun j t' ht' h'=>?_⟩
   ·show 0<=upF s.pays k _ j/\upF s.pays k _ j<=x
    by_cases hjk:j=k
    ·subst hjk; rw[zwM]; omega
    ·rw[zwN _ _ hjk]; exact ih.pays j
   ·show 0<=upF (upF s.keeps _ _) k _ j/\upF (upF s.keeps _ _) k _ j<=x
    by_cases hjk:j=k
    ·subst hjk; rw[zwM]; omega
    ·rw[zwN _ _ hjk]
     by_cases hjo:j=t.Of.toNat
     ·subst hjo; rw[zwM]; omega
     ·rw[zwN _ _ hjo]; exact ih.keeps j
   ·show upF s.pays k _ j=0/\upF (upF s.keeps _ _) k _ j=0
    rw[zwN _ _ (by omega),zwN _ _ (by omega),zwN _ _ (by omega)]; exact ih.z j (by omega)
   ·show P j+upF s.pays k _ j<=_
    by_cases hjk:j=k
    ·subst hjk; rw[hg] at ht'; cases ht'; rw[zwM]; exact hb.2.2 h'
    ·rw[zwN _ _ hjk]; exact ih.cap j t' ht' h'
def ocN(s:DS):Oc:={ pays:=mk5 s.pays,keeps:=mk5 s.keeps,society:=s.soc }
def wkD(p:Pg):WkD:={ p:=p,kinds:=zw1,shared:=(),played:=() }
theorem zxv{p:Pg}(h:VP p){P:Nat->Int}(hP:zxs p.Treaties P)(hb:∀j,0<=P j/\P j<=100000){x:Int}(hx:0<=x/\x<=1000):zth (wkD p) { loss:=x,paid:=mk5 P }=some (ocN (dN p.Treaties P x p.Treaties.length)):=by
 have h5:=h.t5;unfold zth
 show ztg (wkD p) _ (p.Treaties.length+1) _ _ _ _ _ _ _ _ _ _ x 0=_
 have key:=zwH (n:=p.Treaties.length) (fun d (s:DS) y=>ztg (wkD p) { loss:=x,paid:=mk5 P } d (s.pays 0) (s.pays 1) (s.pays 2) (s.pays 3) (s.pays 4) (s.keeps 0) (s.keeps 1) (s.keeps 2) (s.keeps 3) (s.keeps 4) s.soc y) (fun k=>dN p.Treaties P x k) (fin:=some (ocN (dN p.Treaties P x p.Treaties.length))) (fun d k hk=>?_) (fun d=>?_) (p.Treaties.length+1) 0 (by omega) (by omega)
 ·exact key
 ·have hg:=List.getElem?_eq_getElem hk;have hkd:=h.tsOk.k _ (List.getElem_mem hk);have hof:=h.of' k _ hg;have ih:=zxu h.tsOk hP (x:=x) (by omega) k (by omega);rw[zxr hg];generalize dN p.Treaties P x k=s at ih ⊢;rw[ztg,if_pos (show(k:Int) < ((wkD p).p.Treaties.length:Int) by show(k:Int) < (p.Treaties.length:Int); omega),show idx (wkD p).p.Treaties (k:Int)=_ from zrQ hg,obs];generalize p.Treaties[k]=t at hg hkd hof;have hPk:idx (l5 P) (k:Int)=some (P k):=zwJ (by omega);have hs:=ih.soc;have hbk:=hb k;have hcp:t.Kind=1->P k<=zxj t:=hP k t hg;have hup:∀(f:Nat->Int) (a:Int) (j:Nat),sti (k:Int) j a (f j)=upF f k a j:=fun f a j=>zwO f k a j;unfold zxq
  by_cases h1:t.Of = -1
  ·have htk:=zxn hkd (a:=s.soc) (by omega) hcp;rw[if_pos h1,if_pos h1]
   by_cases h0:t.Kind=0
   ·have e0:zxk t s.soc (P k)=s.soc * t.Part / 100:=if_pos h0;rw[if_pos h0]
    show((idx (l5 P) (k:Int)).bind _)=_
    rw[hPk,obs,show(wkD p).kinds.k0.takes t s.soc (P k)=some (zxk t s.soc (P k)) from (zxo (b:=P k) (by unfold zgo at hkd; omega) (by omega)).trans (by rw[e0]),obs,zqs (fI (by omega)),zqs (by omega),zqs (by omega),zqs (fI (by omega))]
    simp only[hup]
   ·rw[if_neg h0,if_pos (show t.Kind=1 by unfold zgo at hkd; omega)]
    show((idx (l5 P) (k:Int)).bind _)=_
    rw[hPk,obs,show(wkD p).kinds.k1.takes t s.soc (P k)=some (zxk t s.soc (P k)) from zxp hkd (by unfold zgo at hkd; omega) (by omega) (by omega),obs,zqs (fI (by omega)),zqs (by omega),zqs (by omega),zqs (fI (by omega))]
    simp only[hup]
  ·have ho:0<=t.Of/\t.Of < 5:=by omega
   have hk':=ih.keeps t.Of.toNat;have htk:=zxn hkd (a:=s.keeps t.Of.toNat) (by omega) hcp;have hOk:idx (l5 s.keeps) t.Of=some (s.keeps t.Of.toNat):=zwK ho.1 ho.2;have huo:∀(f:Nat->Int) (a:Int) (j:Nat),sti t.Of j a (f j)=upF f t.Of.toNat a j:=fun f a j=>zwP f ho.1 a j;rw[if_neg h1,if_neg h1,zqs ho]
   by_cases h0:t.Kind=0
   ·have e0:zxk t (s.keeps t.Of.toNat) (P k)=s.keeps t.Of.toNat * t.Part / 100:=if_pos h0;rw[if_pos h0]
    show((idx (l5 s.keeps) t.Of).bind _)=_
    rw[hOk,obs]
    show((idx (l5 P) (k:Int)).bind _)=_
    rw[hPk,obs,show(wkD p).kinds.k0.takes t (s.keeps t.Of.toNat) (P k)=some (zxk t (s.keeps t.Of.toNat) (P k)) from (zxo (b:=P k) (by unfold zgo at hkd; omega) (by omega)).trans (by rw[e0]),obs]
    show((idx (l5 s.keeps) t.Of).bind _)=_
    rw[hOk,obs,zqs (fI (by omega)),zqs (by omega),zqs (by omega),zqs (fI (by omega))]
    simp only[huo,hup]
   ·rw[if_neg h0,if_pos (show t.Kind=1 by unfold zgo at hkd; omega)]
    show((idx (l5 s.keeps) t.Of).bind _)=_
    rw[hOk,obs]
    show((idx (l5 P) (k:Int)).bind _)=_
    rw[hPk,obs,show(wkD p).kinds.k1.takes t (s.keeps t.Of.toNat) (P k)=some (zxk t (s.keeps t.Of.toNat) (P k)) from zxp hkd (by unfold zgo at hkd; omega) (by omega) (by omega),obs]
    show((idx (l5 s.keeps) t.Of).bind _)=_
    rw[hOk,obs,zqs (fI (by omega)),zqs (by omega),zqs (by omega),zqs (fI (by omega))]
    simp only[huo,hup]
 ·rw[ztg,if_neg (show ¬ (p.Treaties.length:Int) < ((wkD p).p.Treaties.length:Int) by show ¬ (p.Treaties.length:Int) < (p.Treaties.length:Int); omega)]; rfl
def zxw(a b:DS):DS:=⟨fun j=>a.pays j+b.pays j,fun j=>a.keeps j+b.keeps j,a.soc+b.soc⟩
def zxx:DS:=⟨fun _=>0,fun _=>0,0⟩
def zxy(ts:List Ty)(s:DS)(x:Int):DS:=zxw s (dN ts s.pays x ts.length)
def zxz(ts:List Ty)(L:List Int):DS:=L.foldl (zxy ts) zxx
structure SI (ts:List Ty) (B:Int) (s:DS):Prop where
 soc:0<=s.soc/\s.soc<=B
 pays:∀j,0<=s.pays j/\s.pays j<=B
 keeps:∀j,0<=s.keeps j/\s.keeps j<=B
 z:∀j,ts.length<=j->s.pays j=0/\s.keeps j=0
 cap:zxs ts s.pays
theorem zxA{ts:List Ty}(h:zxt ts):zxs ts fun _=>0:=fun _ t ht _=>(zxl (h.k t (List.mem_of_getElem? ht))).1
theorem SI.zero{ts:List Ty}(h:zxt ts):SI ts 0 zxx:=⟨⟨Int.le_refl _,Int.le_refl _⟩,fun _=>⟨Int.le_refl _,Int.le_refl _⟩,fun _=>⟨Int.le_refl _,Int.le_refl _⟩,fun _ _=>⟨rfl,rfl⟩,zxA h⟩
theorem SI.step{ts:List Ty}(hts:zxt ts){B:Int}{s:DS}(h:SI ts B s){x:Int}(hx:0<=x/\x<=100000):SI ts (B+x) (zxy ts s x):=by
 have hd:=zxu hts h.cap hx ts.length (Nat.le_refl _);refine⟨?_,fun j=>?_,fun j=>?_,fun j hj=>?_,hd.cap⟩
 ·have:=h.soc; have:=hd.soc; show 0<=s.soc+_/\s.soc+_<=_; omega
 ·have:=h.pays j; have:=hd.pays j; show 0<=s.pays j+_/\s.pays j+_<=_; omega
 ·have:=h.keeps j; have:=hd.keeps j; show 0<=s.keeps j+_/\s.keeps j+_<=_; omega
 ·have:=h.z j hj; have:=hd.z j hj; show s.pays j+_=0/\s.keeps j+_=0; omega
def zxB(L:List Int):Int:=L.foldl (· + ·) 0
theorem zxC(L:List Int):∀a,L.foldl (· + ·) a=a+zxB L:=by
 unfold zxB
 induction L with
 | nil=>intro a; show a=a+0; omega
 | cons x L ih=>intro a; show L.foldl _ (a+x)=a+L.foldl _ (0+x); rw[ih,ih (0+x)]; omega
theorem zxD(x:Int)(L:List Int):zxB (x::L)=x+zxB L:=by
 show L.foldl _ (0+x)=_
 rw[zxC]; omega
theorem zxE{ts:List Ty}(hts:zxt ts):∀{L:List Int},(∀x∈L,0<=x/\x<=100000)->∀{B:Int} {s:DS},SI ts B s->SI ts (B+zxB L) (L.foldl (zxy ts) s)
 | [],_,B,s,h=>by show SI ts (B+0) s; rw[Int.add_zero]; exact h
 | x::L,hL,B,s,h=>by
  rw[zxD,<- Int.add_assoc];exact zxE hts (fun y hy=>hL y (List.mem_cons_of_mem _ hy)) (h.step hts (hL x (List.mem_cons_self ..)))
theorem zxF{ts:List Ty}(hts:zxt ts){L:List Int}(hL:∀x∈L,0<=x/\x<=100000):SI ts (zxB L) (zxz ts L):=by
 have:=zxE hts hL (SI.zero hts)
 rwa [Int.zero_add] at this
theorem zxG{L:List Int}(hL:∀x∈L,0<=x/\x<=1000):0<=zxB L/\zxB L<=1000 * L.length:=by
 induction L with
 | nil=>exact⟨Int.le_refl _,Int.le_refl _⟩
 | cons x L ih=>
  have h1:=hL x (List.mem_cons_self ..);have h2:=ih fun y hy=>hL y (List.mem_cons_of_mem _ hy);rw[zxD,List.length_cons]
  omega
theorem zxH{a b:DS}(ha:(∀j,-1000000<=a.pays j/\a.pays j<=1000000)/\(∀j,-1000000<=a.keeps j/\a.keeps j<=1000000)/\-1000000<=a.soc/\a.soc<=1000000)(hb:(∀j,-1000000<=b.pays j/\b.pays j<=1000000)/\(∀j,-1000000<=b.keeps j/\b.keeps j<=1000000)/\-1000000<=b.soc/\b.soc<=1000000):ztc (ocN a) (ocN b)=some (ocN (zxw a b)):=by
 obtain⟨a1,a2,a3⟩:=ha;obtain⟨b1,b2,b3⟩:=hb;unfold ztc
 let st:Nat->DS:=fun k=>⟨fun j=>if j < k then a.pays j+b.pays j else a.pays j,fun j=>if j < k then a.keeps j+b.keeps j else a.keeps j,a.soc⟩
 have key:=zwH (n:=5) (fun d (s:DS) y=>ztb (ocN b) d (s.pays 0) (s.pays 1) (s.pays 2) (s.pays 3) (s.pays 4) (s.keeps 0) (s.keeps 1) (s.keeps 2) (s.keeps 3) (s.keeps 4) s.soc y) st (fin:=some (ocN (zxw a b))) (fun d k hk=>?_) (fun d=>?_) 6 0 (by omega) (by omega)
 ·exact key
 ·have p1:=a1 k; have p2:=b1 k; have p3:=a2 k; have p4:=b2 k;have e1:(st k).pays k=a.pays k:=if_neg (by omega);have e2:(st k).keeps k=a.keeps k:=if_neg (by omega)
  have u1:∀j,sti (k:Int) j (a.pays k+b.pays k) ((st k).pays j)=(st (k+1)).pays j:=fun j=>by
   rw[zwO]
   show(if j=k then _ else (if j < k then a.pays j+b.pays j else a.pays j))=if j < k+1 then a.pays j+b.pays j else a.pays j
   by_cases h:j=k
   ·subst h; rw[if_pos rfl,if_pos (by omega)]
   ·by_cases h2:j < k
    ·rw[if_neg h,if_pos h2,if_pos (by omega)]
    ·rw[if_neg h,if_neg h2,if_neg (by omega)]
  have u2:∀j,sti (k:Int) j (a.keeps k+b.keeps k) ((st k).keeps j)=(st (k+1)).keeps j:=fun j=>by
   rw[zwO]
   show(if j=k then _ else (if j < k then a.keeps j+b.keeps j else a.keeps j))=if j < k+1 then a.keeps j+b.keeps j else a.keeps j
   by_cases h:j=k
   ·subst h; rw[if_pos rfl,if_pos (by omega)]
   ·by_cases h2:j < k
    ·rw[if_neg h,if_pos h2,if_pos (by omega)]
    ·rw[if_neg h,if_neg h2,if_neg (by omega)]
  rw[ztb,if_pos (by omega)]
  show((idx (l5 (st k).pays) (k:Int)).bind _)=_
  rw[zwJ hk,obs]
  show((idx (l5 b.pays) (k:Int)).bind _)=_
  rw[zwJ hk,obs,e1,zqs (fI (by omega)),zqs (by omega)]
  show((idx (l5 (st k).keeps) (k:Int)).bind _)=_
  rw[zwJ hk,obs]
  show((idx (l5 b.keeps) (k:Int)).bind _)=_
  rw[zwJ hk,obs,e2,zqs (fI (by omega)),zqs (by omega),zqs (fI (by omega)),u1 0,u1 1,u1 2,u1 3,u1 4,u2 0,u2 1,u2 2,u2 3,u2 4]
 ·rw[ztb,if_neg (by omega)]
  show gd (zl7 .i64 (a.soc+b.soc)) _=_
  rw[zqs (fI (by omega))]; rfl
def zxI(p:Pg)(M:Option (Mt->Option Oc)):Prop:=∃f,M=some f/\∀m o,f m=some o->zth (wkD p) m=some o
theorem zxI.nil(p:Pg):zxI p (some fun _=>none):=⟨_,rfl,fun _ _ h=>by cases h⟩
def wkP(p:Pg)(M:Option (Mt->Option Oc)):WkP:={ p:=p,kinds:=zw1,shared:=M,played:=() }
open Classical in
theorem zxJ{p:Pg}{M:Option (Mt->Option Oc)}(hM:zxI p M){m:Mt}{o:Oc}(hf:MK.fit m)(hd:zth (wkD p) m=some o):∃M',zti (wkP p M) m=some (o,M')/\zxI p M':=by
 obtain⟨f,rfl,hf2⟩:=hM;unfold zti;rw[zqs hf]
 cases hfm:f m with
 | none=>
  refine⟨some fun j=>if j=m then some o else f j,?_,_,rfl,fun j o' h=>?_⟩
  ·rw[zqS (show zqJ (wkP p (some f)).shared m=none from hfm),show zth ({ p:=(wkP p (some f)).p,kinds:=(wkP p (some f)).kinds,shared:=(),played:=() }:WkD) m=some o from hd,obs,zqs hf]
   show(Option.bind (some _) _)=_
   rw[obs]
  ·by_cases hj:j=m
   ·rw[if_pos hj] at h; cases h; rw[hj]; exact hd
   ·rw[if_neg hj] at h; exact hf2 j o' h
 | some o'=>
  have:=hf2 m o' hfm;rw[hd] at this
  cases this
  exact⟨some f,by rw[zqT (show zqJ (wkP p (some f)).shared m=some o from hfm)]; rfl,f,rfl,hf2⟩
theorem zxK{p:Pg}(h:VP p){L:List Int}(hL:∀x∈L,0<=x/\x<=1000)(hl:L.length<=4){w:WkP}(hw:w.p=p/\w.kinds=zw1):∀(d k:Nat) (s:DS) (M:Option (Mt->Option Oc)),k<=L.length->L.length - k < d->SI p.Treaties (1000 * k) s->zxI p M ->
  ∃M',ztj w L d (s.pays 0) (s.pays 1) (s.pays 2) (s.pays 3) (s.pays 4) (s.keeps 0) (s.keeps 1) (s.keeps 2) (s.keeps 3) (s.keeps 4) s.soc M (k:Int)=some (ocN ((L.drop k).foldl (zxy p.Treaties) s),M')/\zxI p M'
 | 0,_,_,_,_,hd,_,_=>by omega
 | d+1,k,s,M,hk,hd,hs,hM=>by
  rw[ztj]
  by_cases hkl:k < L.length
  ·have hg:=List.getElem?_eq_getElem hkl;have hx:=hL _ (List.getElem_mem hkl);have hp:=hs.pays;have hkp:=hs.keeps;have hso:=hs.soc
   have hb:∀j,0<=s.pays j/\s.pays j<=100000:=fun j=>by have:=hp j; omega
   have hdv:=zxv h hs.cap hb hx;have hdi:=zxu h.tsOk hs.cap (x:=L[k]) (by omega) p.Treaties.length (Nat.le_refl _);obtain⟨M',q1,q2⟩:=zxJ hM (m:={ loss:=L[k],paid:=mk5 s.pays }) ⟨fI (by show _<=L[k]/\L[k] < _; omega),fI (by have:=hb 0; show _<=s.pays 0/\s.pays 0 < _; omega),fI (by have:=hb 1; show _<=s.pays 1/\s.pays 1 < _; omega),fI (by have:=hb 2; show _<=s.pays 2/\s.pays 2 < _; omega),fI (by have:=hb 3; show _<=s.pays 3/\s.pays 3 < _; omega),fI (by have:=hb 4; show _<=s.pays 4/\s.pays 4 < _; omega),trivial⟩ hdv;rw[if_pos (by omega),zrQ hg,obs,hw.1,hw.2]
   show ∃M',((zti (wkP p M) { loss:=L[k],paid:=mk5 s.pays }).bind _)=_/\_
   rw[q1,obs]
   show ∃M',((ztc (ocN s) (ocN (dN p.Treaties s.pays L[k] p.Treaties.length))).bind _)=_/\_
   rw[zxH ⟨fun j=>by have:=hp j; omega,fun j=>by have:=hkp j; omega,by omega⟩ ⟨fun j=>by have:=hdi.pays j; omega,fun j=>by have:=hdi.keeps j; omega,by have:=hdi.soc; omega⟩,obs,zqs (fI (by omega)),show(k:Int)+1=((k+1:Nat):Int) by omega,List.drop_eq_getElem_cons hkl];have hs':=hs.step h.tsOk (x:=L[k]) (by omega);refine zxK h hL hl hw d (k+1) (zxy p.Treaties s L[k]) M' (by omega) (by omega) ⟨?_,fun j=>?_,fun j=>?_,hs'.z,hs'.cap⟩ q2
   ·have:=hs'.soc; omega
   ·have:=hs'.pays j; omega
   ·have:=hs'.keeps j; omega
  ·rw[if_neg (by omega),List.drop_eq_nil_of_le (by omega)];exact⟨M,rfl,hM⟩
theorem zxL{p:Pg}(h:VP p){L:List Int}(hL:∀x∈L,0<=x/\x<=1000)(hl:L.length<=4){M:Option (Mt->Option Oc)}(hM:zxI p M):∃M',ztk (wkP p M) L=some (ocN (zxz p.Treaties L),M')/\zxI p M':=
 zxK h hL hl (w:=wkP p M) ⟨rfl,rfl⟩ (L.length+1) 0 zxx M (Nat.zero_le _) (by omega) (SI.zero h.tsOk) hM
end
end Go.Proofs.Ytkcmdghjgoaggaa

