/- An evaluator of code, its soundness, and what functions of the program do. Condition: none; a lemma text. -/
import Derived.Test.YtkcmdghjgoaggaaGreatTbH

namespace Go.Proofs.YtkcmdghjgoaggaaGreat
open _root_.Go.Proofs.Tryz
open Go.Abs
set_option maxRecDepth 100000
noncomputable section
def zw8(f:M)(x:C)(g:Oc->Option (Int)):Prop:=∀(f' m:M) (a0:Oc) (r:Int) (Q:V->M->Prop),Sub f f'->Pre f' m->g a0=some r->(∀m',Ext m m'->Q (.c (.int .i64 r)) m')->zmx prog tbl [.agg 11 [(.int .i64 a0.pays.p0),(.int .i64 a0.pays.p1),(.int .i64 a0.pays.p2),(.int .i64 a0.pays.p3),(.int .i64 a0.pays.p4),(.int .i64 a0.keeps.p0),(.int .i64 a0.keeps.p1),(.int .i64 a0.keeps.p2),(.int .i64 a0.keeps.p3),(.int .i64 a0.keeps.p4),(.int .i64 a0.society)]] x m Q
theorem zw8.sub{f m:M}{x:C}{g:Oc->Option (Int)}(h:zw8 f x g)(s:Sub f m):zw8 m x g:=fun f' m' a0 r Q hs=>h f' m' a0 r Q (s.trans hs)
theorem zw9:KL prog 107 P5:=zqR (n:=5) (ks:=[.int .i64,.int .i64,.int .i64,.int .i64,.int .i64]) (by kernel_rfl) (by kernel_rfl) (cs:=fun k=>[.int .i64 k.p0,.int .i64 k.p1,.int .i64 k.p2,.int .i64 k.p3,.int .i64 k.p4]) (fun _=>rfl) fun a b fa fb=>⟨_,_,(zqQ (zqN fa.1 fb.1) (zqQ (zqN fa.2.1 fb.2.1) (zqQ (zqN fa.2.2.1 fb.2.2.1) (zqQ (zqN fa.2.2.2.1 fb.2.2.2.1) (zqQ (zqN fa.2.2.2.2.1 fb.2.2.2.2.1) zqP))))),⟨fun h=>by obtain⟨ap0,ap1,ap2,ap3,ap4⟩:=a; obtain⟨bp0,bp1,bp2,bp3,bp4⟩:=b; simp_all,fun h=>by subst h; exact⟨rfl,rfl,rfl,rfl,rfl,trivial⟩⟩⟩
theorem zxa:∀a b:P5,MK.enc a=MK.enc b->a=b:=fun a b h=>by
 obtain⟨ap0,ap1,ap2,ap3,ap4⟩:=a; obtain⟨bp0,bp1,bp2,bp3,bp4⟩:=b
 injection h with h1 h2
 simp only[List.cons.injEq,C.int.injEq,true_and,and_true] at h2
 simp_all
theorem zxb:TA prog 33 2:=⟨51,by kernel_rfl,by kernel_rfl,by kernel_rfl⟩
theorem zxc:TA prog 47 4:=⟨62,by kernel_rfl,by kernel_rfl,by kernel_rfl⟩
theorem zxd:TA prog 165 11:=⟨109,by kernel_rfl,by kernel_rfl,by kernel_rfl⟩
theorem zxe{p:Pg}{ca100 ca102 ca103:C}{m f:M}{Q:V->M->Prop}{rz:List (List Int)}(hS:Pre f m)(ha100:Sl f ca100 p.Losses)(ha102:Sl f ca102 p.Treaties)(ha103:Sl f ca103 p.Reports)(hp:zt5 p=some rz)(hq:∀m' f' c0,Grw m f m' f'->ItW prog tbl f' c0 rz->Q (.c c0) m'):Wc prog tbl 116 [.agg 4 [ca100,Il p.Reserve,ca102,ca103]] m Q:=by
 have y:=hS.st;obtain⟨z,_⟩:=zsk;refine zuV ?_;unfold zt5 at hp;intro J g;obtain⟨a,d,A,h⟩:=y.blk g z 1;refine⟨_,_,_,_,h.bk.ra,?_⟩;obtain⟨i,j,hp⟩:=zqq hp;refine zwf (p:=p) d.pre ha100 ha102 ha103 j fun N B D n o=>?_;obtain⟨e,F⟩:=d.callG n a;refine⟨_,rfl,?_⟩;obtain⟨G,q,hp⟩:=zqq hp;refine zw4 (l:=i) e.pre o q fun O r s t u=>?_;obtain⟨w,I⟩:=e.callG t a;refine⟨_,rfl,?_⟩;obtain rfl:=oi hp;exact hq _ r s w.grw u
theorem zxf{p:Pg}{losses:List Int}{ca100 ca102 ca103 ca200:C}{m f:M}{Q:V->M->Prop}{rz:List Int × Int × Int}(hS:Pre f m)(ha100:Sl f ca100 p.Losses)(ha102:Sl f ca102 p.Treaties)(ha103:Sl f ca103 p.Reports)(ha200:Sl f ca200 losses)(hp:zt6 p losses=some rz)(hq:∀m' f' c0,Grw m f m' f'->Sl f' c0 rz.1->Q (.tup [.c c0,.c (Il rz.2.1),.c (Il rz.2.2)]) m'):Wc prog tbl 15 [.agg 4 [ca100,Il p.Reserve,ca102,ca103],.c ca200] m Q:=by
 have S0:=hS.st;obtain⟨τ0,_⟩:=zsk;refine w15 ?_;unfold zt6 at hp;intro m0 aa;obtain⟨q,A,Mb,B⟩:=S0.blk aa τ0 1;refine⟨_,_,_,_,B.bk.ra,?_⟩;obtain⟨Nb,ba,hp⟩:=zqq hp;refine zwg (p:=p) A.pre ha100 ha102 ha103 ba fun m6 ca=>?_;obtain⟨r,da⟩:=A.call ca q;have D:=B.k da;refine⟨_,rfl,?_⟩;refine zq0 hp (fun ea hp=>?_) fun ea hp=>?_
 ·obtain rfl:=oi hp;exact hq _ f .sl0 r.grw (Sl.nil _)
 refine⟨_,_,_,_,D.bk.ra,?_⟩;obtain⟨Ob,fa,hp⟩:=zqq hp;refine zwh (p:=p) (losses:=losses) r.pre ha100 ha102 ha103 ha200 fa fun Yb ga=>?_;obtain⟨F,ha⟩:=r.call ga q;have G:=D.k ha;refine⟨_,rfl,?_⟩;refine zq2 hp (fun ia hp=>?_) fun ia hp=>?_
 ·obtain rfl:=oi hp;exact hq _ f .sl0 F.grw (Sl.nil _)
 refine⟨_,_,_,_,G.bk.ra,?_⟩;refine w58 ?_;intro m0i221 ja;obtain⟨ka,la,ma,na⟩:=F.blk ja q 2;have oa:=G.k ma;intro m1i221 pa;obtain⟨qa,sa,I,ta⟩:=la.blk pa ka 3;have ua:=oa.k I;have va:=na.k I;intro m2i221 wa;obtain⟨J,N,s,z⟩:=sa.growK wa qa 4;have xa:=ua.k s;have O:=va.k s;have ya:=ta.k s;have za:=z 0 (by decide);have Aa:=z 1 (by decide);refine⟨_,_,_,_,O.bk.ra,?_⟩;obtain⟨d,Ba,hp⟩:=zqq hp;refine zvO N.pre  Ba fun m8i221 Pb Ca Da Ea Fa Ga=>?_;obtain⟨Ha,e⟩:=N.callG Ea J;have Ia:=xa.k e;have P:=O.k e;have Ja:=ya.k e;have Ka:=za.k e;have La:=Aa.k e;refine⟨_,_,_,_,_,_,_,_,_,_,_,_,_,_,_,_,_,_,rfl,(by rw[show zaL cmC _=true from zoX (zqt ha100.noFn (zqt rfl (zqt ha102.noFn (zqt ha103.noFn zqu))))]; exact(P.bk.ra)),?_⟩;intro m27i221 Ma;obtain⟨Na,g,Oa⟩:=Rs.setM (K:=Mt) (V':=Oc) Ka Ha Ma;have Pa:=Ia.k g;have S:=P.k g;have Qa:=Ja.k g;have Ra:=La.k g;refine⟨(by rw[show zaL cmC _=true from zoX (zqt ha100.noFn (zqt rfl (zqt ha102.noFn (zqt ha103.noFn zqu))))]; exact(S.bk.ra)),?_⟩;intro m28i221 Sa;obtain⟨Ta,h,Ua⟩:=Rs.setS (K:=P5) (α:=Oc) Ra Na Sa;have Va:=Pa.k h;have Wa:=S.k h;have Xa:=Qa.k h;have Ya:=Oa.k h;refine⟨(by rw[show zaL cmC _=true from zoX (zqt ha100.noFn (zqt rfl (zqt ha102.noFn (zqt ha103.noFn zqu))))]; exact(Wa.bk.ra)),?_⟩;obtain⟨Za,ab,t,u,bb⟩:=Xa.sto Ta [ca100,Il p.Reserve,ca102,ca103,Il d.k0.part.Lo,Il d.k0.part.Hi,Il d.k0.above.Lo,Il d.k0.above.Hi,Il d.k0.most.Lo,Il d.k0.most.Hi,Il d.k0.times.Lo,Il d.k0.times.Hi,Ca,Il d.k1.part.Lo,Il d.k1.part.Hi,Il d.k1.above.Lo,Il d.k1.above.Hi,Il d.k1.most.Lo,Il d.k1.most.Hi,Il d.k1.times.Lo,Il d.k1.times.Hi,Da,(.map (m1i221.nxt+0)),(.map (m1i221.nxt+1))]
 have cb:=Va.k u;have T:=Ya.k u;have db:=Ua.k u;refine⟨Za,ab,?_⟩;refine⟨_,_,_,_,_,_,_,_,_,_,_,_,_,_,_,_,_,_,_,_,_,_,_,_,bb.bk.ra,_,_,_,_,_,_,_,_,_,_,_,_,_,_,_,_,_,_,_,_,_,_,_,_,rfl,?_⟩;obtain⟨a,eb,hp⟩:=zqq hp;refine zws (w:=({ p:=p,kinds:=d,shared:=(some fun _=>none:Option (Mt->Option (Oc))),played:=() }:WkP)) (losses:=losses) t.pre (ha100.sub e.fs) (ha102.sub e.fs) (ha103.sub e.fs) Fa Ga (T.mc t) (show zrF _ _ _ from db.noFn) (ha200.sub e.fs) eb fun Zb fb Z=>?_;obtain⟨gb,hb,Qb⟩:=t.callM T fb Z;have ib:=cb.k hb;refine⟨_,_,_,_,_,_,_,_,_,_,_,rfl,?_⟩;intro ac jb;obtain⟨kb,mb,ob,pb⟩:=gb.blk jb J 6;have qb:=ib.k ob;obtain⟨rb,sb,tb,ub,vb⟩:=pb.sto mb [Il a.1.pays.p0,Il a.1.pays.p1,Il a.1.pays.p2,Il a.1.pays.p3,Il a.1.pays.p4,Il a.1.keeps.p0,Il a.1.keeps.p1,Il a.1.keeps.p2,Il a.1.keeps.p3,Il a.1.keeps.p4,Il a.1.society];have wb:=qb.k ub;refine⟨rb,sb,?_⟩;refine⟨trivial,trivial,_,wb.bk.rc rfl,ha102.isSl,?_⟩
 try rw[ha102.slLen]
 obtain⟨Rb,y,Sb,n⟩:=vb.freeze tb;obtain⟨Tb,hp⟩:=zqr hp;obtain⟨xb,yb,zb⟩:=Bk.arS (α:=Int) (o:=0) (l:=([a.1.pays.p0,a.1.pays.p1,a.1.pays.p2,a.1.pays.p3,a.1.pays.p4]:List Int)) (i:=Int.toNat (0:Int)) (j:=Int.toNat (p.Treaties.length:Int)) n rfl (Nat.le_of_ble_eq_true rfl) (Go.Abs.zri _ ([a.1.pays.p0,a.1.pays.p1,a.1.pays.p2,a.1.pays.p3,a.1.pays.p4]:List Int)) (by omega) (by show Int.toNat (p.Treaties.length:Int)<=5; omega);refine⟨Int.toNat (0:Int),Int.toNat (p.Treaties.length:Int),rfl,(show(p.Treaties.length:Int)=((Int.toNat (p.Treaties.length:Int):Nat):Int) by omega),xb,yb,?_⟩;obtain⟨Ub,Ab,hp⟩:=zqq hp;refine zww (l:=((([a.1.pays.p0,a.1.pays.p1,a.1.pays.p2,a.1.pays.p3,a.1.pays.p4]:List Int).take (Int.toNat (p.Treaties.length:Int))).drop (Int.toNat (0:Int)))) y.pre zb Ab fun bc Vb Bb Cb Db=>?_;obtain⟨Wb,Y,Eb,Fb⟩:=y.callO Cb Db kb 7;refine⟨_,rfl,trivial,_,(n.sub (Sub.trans Eb.fs Y.sub)).rc rfl,((n.sub y.sub).rc rfl),?_⟩;obtain⟨Gb,Hb,Xb,Ib⟩:=Fb.freeze Y;obtain rfl:=oi hp;exact hq _ Gb Bb Hb.grw Ib
theorem zxg{p:Pg}{ca100 ca102 ca103:C}{m f:M}{Q:V->M->Prop}{rz:Wk}(hS:Pre f m)(ha100:Sl f ca100 p.Losses)(ha102:Sl f ca102 p.Treaties)(ha103:Sl f ca103 p.Reports)(hp:zt8 p=some rz)(hq:∀m' f' c0 c2 c3 c12 c21 c22 c23,Grw m f m' f'->Sl f' c0 rz.p.Losses->Sl f' c2 rz.p.Treaties->Sl f' c3 rz.p.Reports->zvo f' c12 rz.kinds.k0.takes->zvo f' c21 rz.kinds.k1.takes->zrF f' c22 rz.shared->MiS f' c23 rz.played->Q (.agg 24 [c0,Il rz.p.Reserve,c2,c3,Il rz.kinds.k0.part.Lo,Il rz.kinds.k0.part.Hi,Il rz.kinds.k0.above.Lo,Il rz.kinds.k0.above.Hi,Il rz.kinds.k0.most.Lo,Il rz.kinds.k0.most.Hi,Il rz.kinds.k0.times.Lo,Il rz.kinds.k0.times.Hi,c12,Il rz.kinds.k1.part.Lo,Il rz.kinds.k1.part.Hi,Il rz.kinds.k1.above.Lo,Il rz.kinds.k1.above.Hi,Il rz.kinds.k1.most.Lo,Il rz.kinds.k1.most.Hi,Il rz.kinds.k1.times.Lo,Il rz.kinds.k1.times.Hi,c21,c22,c23]) m'):Wc prog tbl 82 [.agg 4 [ca100,Il p.Reserve,ca102,ca103]] m Q:=by
 have S0:=hS.st;obtain⟨τ0,_⟩:=zsk;refine w82 ?_;unfold zt8 at hp;intro m0 eb;obtain⟨fb,gb,Fe,hb⟩:=S0.blk eb τ0 1;intro m1 jb;obtain⟨kb,mb,ob,pb⟩:=gb.blk jb fb 2;have ma:=hb.k ob;refine⟨_,_,_,_,ma.bk.ra,?_⟩;refine w58 ?_;intro m0i364 qb;obtain⟨rb,sb,na,tb⟩:=mb.blk qb kb 3;have ub:=ma.k na;have vb:=pb.k na;intro m1i364 wb;obtain⟨xb,yb,ia,zb⟩:=sb.blk wb rb 4;have Ab:=ub.k ia;have Bb:=vb.k ia;have Cb:=tb.k ia;intro m2i364 Db;obtain⟨oa,pa,ga,la⟩:=yb.growK Db xb 5;have Eb:=Ab.k ga;have Fb:=Bb.k ga;have qa:=Cb.k ga;have Gb:=zb.k ga;have Hb:=la 0 (by decide);have Ib:=la 1 (by decide);refine⟨_,_,_,_,qa.bk.ra,?_⟩;obtain⟨c,Jb,hp⟩:=zqq hp;refine zvO pa.pre  Jb fun m8i364 Ge h i Kb sa ta=>?_;obtain⟨Mb,g⟩:=pa.callG Kb oa;have Nb:=Eb.k g;have Ob:=Fb.k g;have ua:=qa.k g;have Pb:=Gb.k g;have Qb:=Hb.k g;have Rb:=Ib.k g;refine⟨_,_,_,_,_,_,_,_,_,_,_,_,_,_,_,_,_,_,rfl,(by rw[show zaL cmC _=true from zoX (zqt ha100.noFn (zqt rfl (zqt ha102.noFn (zqt ha103.noFn zqu))))]; exact(ua.bk.ra)),?_⟩;intro m27i364 Sb;obtain⟨Tb,Z,Ub⟩:=Rs.setM (K:=Mt) (V':=Oc) Qb Mb Sb;have Vb:=Nb.k Z;have Wb:=Ob.k Z;have va:=ua.k Z;have Xb:=Pb.k Z;have Yb:=Rb.k Z;refine⟨(by rw[show zaL cmC _=true from zoX (zqt ha100.noFn (zqt rfl (zqt ha102.noFn (zqt ha103.noFn zqu))))]; exact(va.bk.ra)),?_⟩;intro m28i364 Zb;obtain⟨ac,aa,bc⟩:=Rs.setS (K:=P5) (α:=Oc) Yb Tb Zb;have cc:=Vb.k aa;have dc:=Wb.k aa;have wa:=va.k aa;have ec:=Xb.k aa;have fc:=Ub.k aa;refine⟨(by rw[show zaL cmC _=true from zoX (zqt ha100.noFn (zqt rfl (zqt ha102.noFn (zqt ha103.noFn zqu))))]; exact(wa.bk.ra)),?_⟩
 obtain⟨ha,gc,hc,ba,xa⟩:=ec.sto ac [ca100,Il p.Reserve,ca102,ca103,Il c.k0.part.Lo,Il c.k0.part.Hi,Il c.k0.above.Lo,Il c.k0.above.Hi,Il c.k0.most.Lo,Il c.k0.most.Hi,Il c.k0.times.Lo,Il c.k0.times.Hi,h,Il c.k1.part.Lo,Il c.k1.part.Hi,Il c.k1.above.Lo,Il c.k1.above.Hi,Il c.k1.most.Lo,Il c.k1.most.Hi,Il c.k1.times.Lo,Il c.k1.times.Hi,i,(.map (m1i364.nxt+0)),(.map (m1i364.nxt+1))];have ic:=cc.k ba;have jc:=dc.k ba;have kc:=wa.k ba;have nc:=fc.k ba;have pc:=bc.k ba;refine⟨ha,gc,?_⟩;refine⟨_,_,_,_,_,_,_,_,_,_,_,_,_,_,_,_,_,_,_,_,_,_,_,_,xa.bk.ra,_,_,_,_,_,_,_,_,_,_,_,_,_,_,_,_,_,_,_,_,_,_,_,_,rfl,?_⟩;intro Re qc;obtain⟨ya,sc,J,tc⟩:=hc.blk qc oa 7;have uc:=ic.k J;have vc:=jc.k J;have wc:=kc.k J;have xc:=xa.k J;have yc:=nc.k J;have zc:=pc.k J;obtain⟨Ac,Bc,za,N,Cc⟩:=tc.sto sc [ca100,Il p.Reserve,ca102,ca103,Il c.k0.part.Lo,Il c.k0.part.Hi,Il c.k0.above.Lo,Il c.k0.above.Hi,Il c.k0.most.Lo,Il c.k0.most.Hi,Il c.k0.times.Lo,Il c.k0.times.Hi,h,Il c.k1.part.Lo,Il c.k1.part.Hi,Il c.k1.above.Lo,Il c.k1.above.Hi,Il c.k1.most.Lo,Il c.k1.most.Hi,Il c.k1.times.Lo,Il c.k1.times.Hi,i,(.map (m1i364.nxt+0)),(.map (m1i364.nxt+1))];have Aa:=uc.k N;have Dc:=vc.k N;have Ec:=wc.k N;have Fc:=xc.k N;have Gc:=yc.k N;have Hc:=zc.k N;refine⟨Ac,Bc,?_⟩;refine⟨_,_,_,_,Aa.bk.ra,?_⟩;obtain⟨He,Ic,hp⟩:=zqq hp;refine zxe (p:=p) za.pre (ha100.sub g.fs) (ha102.sub g.fs) (ha103.sub g.fs) Ic fun Se Ie Je Jc Kc=>?_;obtain⟨Nc,e⟩:=za.callG Jc ya;have Ba:=Aa.k e;have Ca:=Dc.k e;have Da:=Ec.k e;have Ea:=Fc.k e;have Fa:=Cc.k e;have Ga:=Gc.k e;have Ha:=Hc.k e
 refine⟨_,rfl,?_⟩;refine zrw (α:=List Int) Nc Kc (σ:=(Option (Mt->Option (Oc))) × (Option (P5->Option (List Oc))) × (Nat->Prop)) 8 (fun st bb=>(False\/(False\/(False\/(False\/(False\/(False\/(st.2.2 bb)))))))) (fun st gG gF gT gM=>(Lb gG gF gT gM 1 m.nxt 4 [ca100,Il p.Reserve,ca102,ca103])/\(Lb gG gF gT gM 2 m0.nxt 24 [.sl0,Il 0,.sl0,.sl0,Il 0,Il 0,Il 0,Il 0,Il 0,Il 0,Il 0,Il 0,C.nilFn,Il 0,Il 0,Il 0,Il 0,Il 0,Il 0,Il 0,Il 0,C.nilFn,C.map0,C.map0])/\(Lb gG gF gT gM 3 m1.nxt 4 [ca100,Il p.Reserve,ca102,ca103])/\(Lb gG gF gT gM 4 m0i364.nxt 24 [ca100,Il p.Reserve,ca102,ca103,Il c.k0.part.Lo,Il c.k0.part.Hi,Il c.k0.above.Lo,Il c.k0.above.Hi,Il c.k0.most.Lo,Il c.k0.most.Hi,Il c.k0.times.Lo,Il c.k0.times.Hi,h,Il c.k1.part.Lo,Il c.k1.part.Hi,Il c.k1.above.Lo,Il c.k1.above.Hi,Il c.k1.most.Lo,Il c.k1.most.Hi,Il c.k1.times.Lo,Il c.k1.times.Hi,i,(.map (m1i364.nxt+0)),(.map (m1i364.nxt+1))])/\(Lb gG gF gT gM 7 ha.nxt 24 [ca100,Il p.Reserve,ca102,ca103,Il c.k0.part.Lo,Il c.k0.part.Hi,Il c.k0.above.Lo,Il c.k0.above.Hi,Il c.k0.most.Lo,Il c.k0.most.Hi,Il c.k0.times.Lo,Il c.k0.times.Hi,h,Il c.k1.part.Lo,Il c.k1.part.Hi,Il c.k1.above.Lo,Il c.k1.above.Hi,Il c.k1.most.Lo,Il c.k1.most.Hi,Il c.k1.times.Lo,Il c.k1.times.Hi,i,(.map (m1i364.nxt+0)),(.map (m1i364.nxt+1))])/\(Mo gG gF gT gM 5 (.map (m1i364.nxt+0)) st.1)/\(MoS gG gF gT gM 6 (.map (m1i364.nxt+1)) st.2.1 st.2.2)) (fun rr_ st=>zt7 p c rr_ st.1 st.2.1=some rz) (fun ex st=>False) (fun st=>(Gux.and (Gux.lb Ba.bk.lt (by decide)) (Gux.and (Gux.lb Ca.bk.lt (by decide)) (Gux.and (Gux.lb Da.bk.lt (by decide)) (Gux.and (Gux.lb Ea.bk.lt (by decide)) (Gux.and (Gux.lb Fa.bk.lt (by decide)) (Gux.and (Gux.mo Ga.lt (by decide)) (Gux.moz Ha.lt (by decide))))))))) (st0:=((some fun _=>none:Option (Mt->Option (Oc))),(some fun _=>none:Option (P5->Option (List Oc))),(fun _=>False))) (τ:=ya) ⟨Ba,Ca,Da,Ea,Fa,Ga,Ha⟩ hp ?_ ?_ ?_ ?_
 ·intro Ia Pc st l n ca s Ke ze Ae Be _ _ Qc da hA Qa hp hrep Ce Ra Sa;obtain⟨Me,rfl,⟨Rc,_⟩⟩:=hrep;obtain⟨O,ea,ja⟩:=st;obtain⟨P,t,S,T,u,y,z⟩:=hA
  replace P:Lb s l n ca 1 m.nxt 4 [ca100,Il p.Reserve,ca102,ca103]:=P
  replace t:Lb s l n ca 2 m0.nxt 24 [.sl0,Il 0,.sl0,.sl0,Il 0,Il 0,Il 0,Il 0,Il 0,Il 0,Il 0,Il 0,C.nilFn,Il 0,Il 0,Il 0,Il 0,Il 0,Il 0,Il 0,Il 0,C.nilFn,C.map0,C.map0]:=t
  replace S:Lb s l n ca 3 m1.nxt 4 [ca100,Il p.Reserve,ca102,ca103]:=S
  replace T:Lb s l n ca 4 m0i364.nxt 24 [ca100,Il p.Reserve,ca102,ca103,Il c.k0.part.Lo,Il c.k0.part.Hi,Il c.k0.above.Lo,Il c.k0.above.Hi,Il c.k0.most.Lo,Il c.k0.most.Hi,Il c.k0.times.Lo,Il c.k0.times.Hi,h,Il c.k1.part.Lo,Il c.k1.part.Hi,Il c.k1.above.Lo,Il c.k1.above.Hi,Il c.k1.most.Lo,Il c.k1.most.Hi,Il c.k1.times.Lo,Il c.k1.times.Hi,i,(.map (m1i364.nxt+0)),(.map (m1i364.nxt+1))]:=T
  replace u:Lb s l n ca 7 ha.nxt 24 [ca100,Il p.Reserve,ca102,ca103,Il c.k0.part.Lo,Il c.k0.part.Hi,Il c.k0.above.Lo,Il c.k0.above.Hi,Il c.k0.most.Lo,Il c.k0.most.Hi,Il c.k0.times.Lo,Il c.k0.times.Hi,h,Il c.k1.part.Lo,Il c.k1.part.Hi,Il c.k1.above.Lo,Il c.k1.above.Hi,Il c.k1.most.Lo,Il c.k1.most.Hi,Il c.k1.times.Lo,Il c.k1.times.Hi,i,(.map (m1i364.nxt+0)),(.map (m1i364.nxt+1))]:=u
  replace y:Mo s l n ca 5 (.map (m1i364.nxt+0)) O:=y
  replace z:MoS s l n ca 6 (.map (m1i364.nxt+1)) ea ja:=z
  replace hp:zt7 p c (Ia::Pc) O ea=some rz:=hp
  rw[zt7] at hp;refine⟨_,rfl,?_⟩;refine Ra _ _ _ _ Qc Qa fun Te Ne ka A Ta Ua=>?_;have Tc:=P.k A;have Uc:=t.k A;have Vc:=S.k A;have Xc:=T.k A;have Ja:=u.k A;have Ka:=y.k A;have La:=z.k A;refine⟨_,_,_,_,_,_,_,_,_,_,_,_,_,_,_,_,_,_,_,_,_,_,_,_,Ja.bk.ra,?_⟩;obtain⟨d,Yc,hp⟩:=zqq hp;refine zws (w:=({ p:=p,kinds:=c,shared:=O,played:=() }:WkP)) (losses:=Ia) ka.pre (ha100.sub (Sub.trans (Sub.trans g.fs e.fs) da)) (ha102.sub (Sub.trans (Sub.trans g.fs e.fs) da)) (ha103.sub (Sub.trans (Sub.trans g.fs e.fs) da)) (sa.sub (Sub.trans e.fs da)) (ta.sub (Sub.trans e.fs da)) (Ka.mc ka) (show zrF _ _ _ from La.noFn) Rc Yc fun Ue Zc Va=>?_;obtain⟨ad,B,bd⟩:=ka.callM Ka Zc Va;have cd:=Tc.k B;have dd:=Uc.k B;have ed:=Vc.k B;have fd:=Xc.k B;have hd:=Ja.k B;have jd:=La.k B;have Wa:=Ta.k B;refine⟨_,_,_,_,_,_,_,_,_,_,_,rfl,?_⟩;intro Ve kd;obtain⟨ld,md,o,nd⟩:=ad.blk kd n 9;have od:=cd.k o;have pd:=dd.k o;have qd:=ed.k o;have sd:=fd.k o;have td:=hd.k o;have ud:=bd.k o;have vd:=jd.k o;have Xa:=Wa.k o;obtain⟨xd,yd,zd,q,Ma⟩:=nd.sto md [Il d.1.pays.p0,Il d.1.pays.p1,Il d.1.pays.p2,Il d.1.pays.p3,Il d.1.pays.p4,Il d.1.keeps.p0,Il d.1.keeps.p1,Il d.1.keeps.p2,Il d.1.keeps.p3,Il d.1.keeps.p4,Il d.1.society];have Ad:=od.k q;have Cd:=pd.k q;have Dd:=qd.k q;have Ed:=sd.k q;have Na:=td.k q;have Fd:=ud.k q;have Gd:=vd.k q;have Ya:=Xa.k q;refine⟨xd,yd,?_⟩;refine⟨trivial,_,Na.bk.rc rfl,trivial,_,_,_,_,_,Ma.bk.rp (k:=0) (j:=5) rfl (by omega),_,_,_,_,_,_,_,_,_,_,_,Ma.bk.ra,?_⟩;intro Oe Hd
  obtain⟨Pe,Id,r,Jd⟩:=zd.blk Hd ld 10;have Ld:=Ad.k r;have Md:=Cd.k r;have Nd:=Dd.k r;have Od:=Ed.k r;have Pd:=Na.k r;have Qd:=Fd.k r;have Rd:=Gd.k r;have Za:=Ya.k r;obtain⟨Sd,hp⟩:=zqr hp;obtain⟨Td,hp⟩:=zqr hp;obtain⟨Ud,Vd,hp⟩:=zqq hp;obtain⟨Wd,Oa,Xd,Yd,Zd,ae,Qe,be,ce,de,ee,fe,D,ge⟩:=MoS.opa zxd zw9 Id Rd (k:=d.1.pays) Sd (a:=d.1) Jd rfl (show Rp.rep (α:=Oc) l _ d.1 from rfl) Td Vd (kv:=.agg 5 [Il d.1.pays.p0,Il d.1.pays.p1,Il d.1.pays.p2,Il d.1.pays.p3,Il d.1.pays.p4]) rfl;have he:=Ld.k D;have ie:=Md.k D;have je:=Nd.k D;have ke:=Od.k D;have me:=Pd.k D;have oe:=Qd.k D;have ab:=Za.k D;refine⟨Wd,Oa,Xd,ce,Yd,Zd,de,Oa,ae,rfl,ee,?_⟩;exact Sa .nrm (d.2,Ud,be) _ _ _ _ fe ⟨he,ie,je,ke,me,oe,ge⟩ ab Ua hp
 ·intro st F G I pe fa hA hp;obtain⟨O,ea,ja⟩:=st
  replace hp:zt7 p c [] O ea=some rz:=hp
  obtain⟨P,t,S,T,u,y,z⟩:=hA
  replace P:Lb (Fm.of m) F G I 1 m.nxt 4 [ca100,Il p.Reserve,ca102,ca103]:=P
  replace t:Lb (Fm.of m) F G I 2 m0.nxt 24 [.sl0,Il 0,.sl0,.sl0,Il 0,Il 0,Il 0,Il 0,Il 0,Il 0,Il 0,Il 0,C.nilFn,Il 0,Il 0,Il 0,Il 0,Il 0,Il 0,Il 0,Il 0,C.nilFn,C.map0,C.map0]:=t
  replace S:Lb (Fm.of m) F G I 3 m1.nxt 4 [ca100,Il p.Reserve,ca102,ca103]:=S
  replace T:Lb (Fm.of m) F G I 4 m0i364.nxt 24 [ca100,Il p.Reserve,ca102,ca103,Il c.k0.part.Lo,Il c.k0.part.Hi,Il c.k0.above.Lo,Il c.k0.above.Hi,Il c.k0.most.Lo,Il c.k0.most.Hi,Il c.k0.times.Lo,Il c.k0.times.Hi,h,Il c.k1.part.Lo,Il c.k1.part.Hi,Il c.k1.above.Lo,Il c.k1.above.Hi,Il c.k1.most.Lo,Il c.k1.most.Hi,Il c.k1.times.Lo,Il c.k1.times.Hi,i,(.map (m1i364.nxt+0)),(.map (m1i364.nxt+1))]:=T
  replace u:Lb (Fm.of m) F G I 7 ha.nxt 24 [ca100,Il p.Reserve,ca102,ca103,Il c.k0.part.Lo,Il c.k0.part.Hi,Il c.k0.above.Lo,Il c.k0.above.Hi,Il c.k0.most.Lo,Il c.k0.most.Hi,Il c.k0.times.Lo,Il c.k0.times.Hi,h,Il c.k1.part.Lo,Il c.k1.part.Hi,Il c.k1.above.Lo,Il c.k1.above.Hi,Il c.k1.most.Lo,Il c.k1.most.Hi,Il c.k1.times.Lo,Il c.k1.times.Hi,i,(.map (m1i364.nxt+0)),(.map (m1i364.nxt+1))]:=u
  replace y:Mo (Fm.of m) F G I 5 (.map (m1i364.nxt+0)) O:=y
  replace z:MoS (Fm.of m) F G I 6 (.map (m1i364.nxt+1)) ea ja:=z
  rw[zt7] at hp;refine⟨_,_,_,_,_,_,_,_,_,_,_,_,_,_,_,_,_,_,_,_,_,_,_,_,u.bk.ra,?_⟩;obtain⟨qe,re,se,Pa,te⟩:=t.sto pe [ca100,Il p.Reserve,ca102,ca103,Il c.k0.part.Lo,Il c.k0.part.Hi,Il c.k0.above.Lo,Il c.k0.above.Hi,Il c.k0.most.Lo,Il c.k0.most.Hi,Il c.k0.times.Lo,Il c.k0.times.Hi,h,Il c.k1.part.Lo,Il c.k1.part.Hi,Il c.k1.above.Lo,Il c.k1.above.Hi,Il c.k1.most.Lo,Il c.k1.most.Hi,Il c.k1.times.Lo,Il c.k1.times.Hi,i,(.map (m1i364.nxt+0)),(.map (m1i364.nxt+1))];have ue:=y.k Pa;have ve:=z.k Pa;refine⟨qe,re,?_⟩;refine⟨_,_,_,_,_,_,_,_,_,_,_,_,_,_,_,_,_,_,_,_,_,_,_,_,te.bk.ra,?_⟩;obtain⟨we,xe,Y,cb⟩:=ve.freeze se;have ye:=ue.k Y;obtain rfl:=oi hp;exact hq _ we ca100 ca102 ca103 h i (.map (m1i364.nxt+0)) (.map (m1i364.nxt+1)) xe.grw (ha100.sub (Sub.trans (Sub.trans (Sub.trans g.fs e.fs) fa) Y.fs)) (ha102.sub (Sub.trans (Sub.trans (Sub.trans g.fs e.fs) fa) Y.fs)) (ha103.sub (Sub.trans (Sub.trans (Sub.trans g.fs e.fs) fa) Y.fs)) (sa.sub (Sub.trans (Sub.trans e.fs fa) Y.fs)) (ta.sub (Sub.trans (Sub.trans e.fs fa) Y.fs)) (show zrF _ _ _ from ye.mi.noFn) cb
 ·intro id st _ _ _ _ _ _ hn; first | exact hn.elim | (cases hn)
 ·intro st _ _ _ _ _ _ hn; first | exact hn.elim | (cases hn)
theorem zxh{w:Wk}{reports:List Rpt}{ca100 ca102 ca103 ca112 ca121 ca122 ca123 ca200:C}{m f:M}{Q:V->M->Prop}{rz:Bool}(hS:Pre f m)(_ha100:Sl f ca100 w.p.Losses)(_ha102:Sl f ca102 w.p.Treaties)(_ha103:Sl f ca103 w.p.Reports)(_ha112:zvo f ca112 w.kinds.k0.takes)(_ha121:zvo f ca121 w.kinds.k1.takes)(_ha122:zrF f ca122 w.shared)(ha123:MiS f ca123 w.played)(ha200:Sl f ca200 reports)(hp:zt9 w reports=some rz)(hq:∀m',Ext m m'->Q (.c (.bool rz)) m'):Wc prog tbl 84 [.agg 24 [ca100,Il w.p.Reserve,ca102,ca103,Il w.kinds.k0.part.Lo,Il w.kinds.k0.part.Hi,Il w.kinds.k0.above.Lo,Il w.kinds.k0.above.Hi,Il w.kinds.k0.most.Lo,Il w.kinds.k0.most.Hi,Il w.kinds.k0.times.Lo,Il w.kinds.k0.times.Hi,ca112,Il w.kinds.k1.part.Lo,Il w.kinds.k1.part.Hi,Il w.kinds.k1.above.Lo,Il w.kinds.k1.above.Hi,Il w.kinds.k1.most.Lo,Il w.kinds.k1.most.Hi,Il w.kinds.k1.times.Lo,Il w.kinds.k1.times.Hi,ca121,ca122,ca123],.c ca200] m Q:=by
 have S0:=hS.st;obtain⟨τ0,_⟩:=zsk;refine w84 ?_;unfold zt9 at hp;intro m0 T;obtain⟨Y,Z,La,q⟩:=S0.blk T τ0 1;refine⟨trivial,_,q.bk.rc rfl,?_⟩;obtain⟨Ga,aa,D,F,G⟩:=MiS.rng zxa Z ha123 Y 2;have hp:=zro hp D;refine⟨aa,F,?_⟩;intro m3 ba;obtain⟨ca,da,ea,fa⟩:=G m3 ba;have e:=q.k ea;intro R4 Fa
 have hgo:∀(g:Nat) (b5:Bool) (h:List P5) (o:M) (d:Nat->Nat),St (Fm.of m) f f o->Lb (Fm.of m) f d o 1 m.nxt 24 [ca100,Il w.p.Reserve,ca102,ca103,Il w.kinds.k0.part.Lo,Il w.kinds.k0.part.Hi,Il w.kinds.k0.above.Lo,Il w.kinds.k0.above.Hi,Il w.kinds.k0.most.Lo,Il w.kinds.k0.most.Hi,Il w.kinds.k0.times.Lo,Il w.kinds.k0.times.Hi,ca112,Il w.kinds.k1.part.Lo,Il w.kinds.k1.part.Hi,Il w.kinds.k1.above.Lo,Il w.kinds.k1.above.Hi,Il w.kinds.k1.most.Lo,Il w.kinds.k1.most.Hi,Il w.kinds.k1.times.Lo,Il w.kinds.k1.times.Hi,ca121,ca122,ca123]->IrS (Fm.of m) f d o 2 m0.nxt ca123 w.played h->pcanHold_L0 w reports g h=some rz->R4 [.c (.bool b5)] o:=by
  intro g
  induction g with
  | zero=>intro b5 h o d j e r hp; cases hp
  | succ g ha=>
   intro b5 h o d j e r hp;refine Fa _ _ ?_;rw[pcanHold_L0] at hp;obtain⟨l7,I,J,N⟩:=r.next j;refine⟨l7,I,fun ia=>?_,fun u8 u9 Ta ja=>?_⟩
   ·have hp:=zrr (J ia) hp;obtain rfl:=oi hp;exact hq _ j.ext'
   obtain⟨ka,a,la,ma,Pa,O,Ha,P,s,Qa,t,na,u⟩:=N _ _ _ ja;have hp:=zrs O hp;obtain⟨oa,S,hp⟩:=zqq hp;obtain rfl:oa=ma:=oi (S.symm.trans P);generalize ka++la=Ra at hp u;have pa:=e.k na;refine⟨_,_,_,_,_,_,s,?_⟩;intro Ua qa;obtain⟨y,l,z,sa⟩:=t.blk qa d 3;have ta:=pa.k z;have ua:=u.k z t.sub l (by decide);obtain⟨va,wa,i,A,xa⟩:=sa.sto l [Il a.p0,Il a.p1,Il a.p2,Il a.p3,Il a.p4];have ya:=ta.k A;have za:=ua.k A l.sub i (by decide);refine⟨va,wa,?_⟩;refine⟨_,_,_,_,_,xa.bk.ra,?_⟩;obtain⟨Sa,Aa,hp⟩:=zqq hp;refine zwp (p:=a) (reports:=reports) i.pre ha200 Aa fun Va Ba=>?_;obtain⟨n,B⟩:=i.call Ba y;have Ca:=ya.k B;have Da:=za.k B i.sub n (by decide);refine⟨_,rfl,?_⟩;refine zq1 hp (fun Ea hp=>?_) fun Ea hp=>?_; rotate_left
   ·exact ha _ _ _ y n Ca Da hp
   obtain rfl:=oi hp;exact hq _ n.ext'
 exact hgo _ _ _ _ ca da e fa hp
theorem zxi{w:Wk}{number:Oc->Option (Int)}{ca100 ca102 ca103 ca112 ca121 ca122 ca123 ca200:C}{m f:M}{Q:V->M->Prop}{rz:Rg}(hS:Pre f m)(_ha100:Sl f ca100 w.p.Losses)(_ha102:Sl f ca102 w.p.Treaties)(ha103:Sl f ca103 w.p.Reports)(_ha112:zvo f ca112 w.kinds.k0.takes)(_ha121:zvo f ca121 w.kinds.k1.takes)(_ha122:zrF f ca122 w.shared)(ha123:MiS f ca123 w.played)(ha200:zw8 f ca200 number)(hp:zub w number=some rz)(hq:∀m',Ext m m'->Q (.agg 2 [Il rz.Lo,Il rz.Hi]) m'):Wc prog tbl 68 [.agg 24 [ca100,Il w.p.Reserve,ca102,ca103,Il w.kinds.k0.part.Lo,Il w.kinds.k0.part.Hi,Il w.kinds.k0.above.Lo,Il w.kinds.k0.above.Hi,Il w.kinds.k0.most.Lo,Il w.kinds.k0.most.Hi,Il w.kinds.k0.times.Lo,Il w.kinds.k0.times.Hi,ca112,Il w.kinds.k1.part.Lo,Il w.kinds.k1.part.Hi,Il w.kinds.k1.above.Lo,Il w.kinds.k1.above.Hi,Il w.kinds.k1.most.Lo,Il w.kinds.k1.most.Hi,Il w.kinds.k1.times.Lo,Il w.kinds.k1.times.Hi,ca121,ca122,ca123],.c ca200] m Q:=by
 have S0:=hS.st;obtain⟨τ0,_⟩:=zsk;refine w68 ?_;unfold zub at hp;intro m0 Va;obtain⟨Wa,Xa,Xc,Ya⟩:=S0.blk Va τ0 1;intro m1 Za;obtain⟨ab,bb,cb,db⟩:=Xa.blk Za Wa 2;have qa:=Ya.k cb;refine⟨trivial,_,qa.bk.rc rfl,?_⟩;obtain⟨Rc,eb,Ja,Ka,La⟩:=MiS.rng zxa bb ha123 ab 3;have hp:=zro hp Ja;refine⟨eb,Ka,?_⟩;intro m4 fb;obtain⟨gb,hb,sa,ib⟩:=La m4 fb;have D:=qa.k sa;have s:=db.k sa;intro R5 Kc
 have hgo:∀(t:Nat) (c6:C) (o:List Int) (F:List P5) (m7:M) (h:Nat->Nat),St (Fm.of m) f f m7->Lb (Fm.of m) f h m7 1 m.nxt 24 [ca100,Il w.p.Reserve,ca102,ca103,Il w.kinds.k0.part.Lo,Il w.kinds.k0.part.Hi,Il w.kinds.k0.above.Lo,Il w.kinds.k0.above.Hi,Il w.kinds.k0.most.Lo,Il w.kinds.k0.most.Hi,Il w.kinds.k0.times.Lo,Il w.kinds.k0.times.Hi,ca112,Il w.kinds.k1.part.Lo,Il w.kinds.k1.part.Hi,Il w.kinds.k1.above.Lo,Il w.kinds.k1.above.Hi,Il w.kinds.k1.most.Lo,Il w.kinds.k1.most.Hi,Il w.kinds.k1.times.Lo,Il w.kinds.k1.times.Hi,ca121,ca122,ca123]->Lb (Fm.of m) f h m7 2 m0.nxt 2 [Il 0,Il 0]->Ow (Fm.of m) f h m7 4 c6 o->IrS (Fm.of m) f h m7 3 m1.nxt ca123 w.played F->pboundsW_L0 w number t o F=some rz->R5 [.c c6] m7:=by
  intro t
  induction t with
  | zero=>intro c6 o F m7 h G D s d da hp; cases hp
  | succ t ta=>
   intro c6 o F m7 h G D s d da hp;refine Kc _ _ ?_;rw[pboundsW_L0] at hp;obtain⟨l8,Na,Oa,Pa⟩:=da.next G;refine⟨l8,Na,fun jb=>?_,fun fd hd Nc kb=>?_⟩
   ·have hp:=zrr (Oa jb) hp;obtain⟨bd,I,ua,va⟩:=d.freeze G;have mb:=s.k ua;have ob:=da.k ua G.sub I (by decide);obtain⟨pb,qb,hp⟩:=zqq hp;refine zvK (l:=o) I.pre va qb fun id rb=>?_;obtain⟨J,wa⟩:=I.call rb h;have sb:=mb.k wa;have tb:=ob.k wa I.sub J (by decide);refine⟨_,rfl,?_⟩;obtain⟨ub,vb,hp⟩:=zqq hp;refine zvL (l:=o) J.pre va vb fun jd wb=>?_;obtain⟨ea,xa⟩:=J.call wb h;have xb:=sb.k xa;have yb:=tb.k xa J.sub ea (by decide);refine⟨_,rfl,?_⟩;obtain⟨zb,Ab,ya,Bb,Cb⟩:=xb.sto ea [Il pb,Il ub];have cd:=yb.k Bb ea.sub ya (by decide);refine⟨zb,Ab,?_⟩;refine⟨_,_,Cb.bk.ra,?_⟩;obtain rfl:=oi hp;exact hq _ ya.ext'
   obtain⟨Db,e,Eb,Fb,dd,Qa,Tc,Ra,za,N,Aa,fa,Ba⟩:=Pa _ _ _ kb;have hp:=zrs Qa hp;obtain⟨Ca,Sa,hp⟩:=zqq hp;obtain rfl:Ca=Fb:=oi (Sa.symm.trans Ra);generalize Db++Eb=Da at hp Ba;have Gb:=D.k fa;have Hb:=s.k fa;have d:=d.k fa;refine⟨_,_,_,_,_,_,za,?_⟩;intro kd Ib;obtain⟨ga,ha,O,Jb⟩:=Aa.blk Ib h 5;have Kb:=Gb.k O;have Mb:=Hb.k O;have d:=d.k O;have Nb:=Ba.k O Aa.sub ha (by decide);obtain⟨Ob,Pb,P,S,Ea⟩:=Jb.sto ha [Il e.p0,Il e.p1,Il e.p2,Il e.p3,Il e.p4];have Fa:=Kb.k S;have Qb:=Mb.k S;have d:=d.k S;have Rb:=Nb.k S ha.sub P (by decide);refine⟨Ob,Pb,?_⟩;refine⟨_,_,_,_,_,Ea.bk.ra,trivial,trivial,_,Fa.bk.rc rfl,?_⟩;obtain⟨ed,Sb,hp⟩:=zqq hp;refine zwp (p:=e) (reports:=w.p.Reports) P.pre ha103 Sb fun ld Tb=>?_;obtain⟨ia,u⟩:=P.call Tb ga;have q:=Fa.k u;have r:=Qb.k u;have T:=Ea.k u;have d:=d.k u;have Ga:=Rb.k u P.sub ia (by decide);refine⟨_,rfl,?_⟩;refine zq2 hp (fun Ub hp=>?_) fun Ub hp=>?_
   ·exact ta _ _ _ _ ga ia q r d Ga hp
   refine⟨N.isSl,?_⟩;intro Pc Vb
   have hgo:∀(Y:Nat) (na:C) (oa:Int) (Z:List Int) (n:M) (i:Nat->Nat),St (Fm.of m) f f n->Lb (Fm.of m) f i n 1 m.nxt 24 [ca100,Il w.p.Reserve,ca102,ca103,Il w.kinds.k0.part.Lo,Il w.kinds.k0.part.Hi,Il w.kinds.k0.above.Lo,Il w.kinds.k0.above.Hi,Il w.kinds.k0.most.Lo,Il w.kinds.k0.most.Hi,Il w.kinds.k0.times.Lo,Il w.kinds.k0.times.Hi,ca112,Il w.kinds.k1.part.Lo,Il w.kinds.k1.part.Hi,Il w.kinds.k1.above.Lo,Il w.kinds.k1.above.Hi,Il w.kinds.k1.most.Lo,Il w.kinds.k1.most.Hi,Il w.kinds.k1.times.Lo,Il w.kinds.k1.times.Hi,ca121,ca122,ca123]->Lb (Fm.of m) f i n 2 m0.nxt 2 [Il 0,Il 0]->Lb (Fm.of m) f i n 5 Nc.nxt 5 [Il e.p0,Il e.p1,Il e.p2,Il e.p3,Il e.p4]->Ow (Fm.of m) f i n 4 na Z->IrS (Fm.of m) f i n 3 m1.nxt ca123 w.played Da->zua number Ca Da (pboundsW_L0 w number t) Y Z oa=some rz->Pc [.c na,.c (Il oa)] n:=by
    intro Y
    induction Y with
    | zero=>intro na oa Z n i y q r T j ja hp; cases hp
    | succ Y Ta=>
     intro na oa Z n i y q r T j ja hp;refine Vb _ _ _ ?_;rw[zua] at hp
     try rw[N.slLen]
     refine ifd hp (fun Wb hp=>?_) fun Wb hp=>?_; rotate_left
     ·exact ta _ _ _ _ i y q r j ja hp
     obtain⟨g,ka,hp⟩:=zqq hp;obtain⟨Qc,Ua,pa,ka⟩:=zqk ka;obtain⟨_,Xb⟩:=zst N ka;refine⟨Qc,Ua,(by first|exact pa|(rw[N.slLen];exact pa)),_,_,_,_,_,_,_,_,_,_,_,(Xb _ y.sub).1,?_⟩;intro md Yb;obtain⟨Zb,la,z,ac⟩:=y.blk Yb i 6;have bc:=q.k z;have cc:=r.k z;have dc:=T.k z;have j:=j.k z;have ec:=ja.k z y.sub la (by decide);obtain⟨fc,gc,aa,A,hc⟩:=ac.sto la [Il g.pays.p0,Il g.pays.p1,Il g.pays.p2,Il g.pays.p3,Il g.pays.p4,Il g.keeps.p0,Il g.keeps.p1,Il g.keeps.p2,Il g.keeps.p3,Il g.keeps.p4,Il g.society];have ic:=bc.k A;have jc:=cc.k A;have kc:=dc.k A;have j:=j.k A;have nc:=ec.k A la.sub aa (by decide);refine⟨fc,gc,?_⟩;refine⟨_,_,_,_,_,_,_,_,_,_,_,hc.bk.ra,?_⟩;obtain⟨Ha,pc,hp⟩:=zqq hp;refine ha200 _ _ _ _ _ (Sub.refl _) aa.pre  pc fun nd qc=>?_;obtain⟨ma,B⟩:=aa.call qc Zb;have sc:=ic.k B;have tc:=jc.k B;have uc:=kc.k B;have j:=j.k B;have vc:=nc.k B aa.sub ma (by decide);refine⟨_,rfl,?_⟩;obtain⟨wc,hp⟩:=zqr hp;intro od xc;obtain⟨yc,zc,Ac,Bc,Ia,ba,Cc⟩:=j.app' zvu ma (a:=Ha) (show Rp.rep (α:=Int) f _ Ha from rfl) wc xc;have Dc:=sc.k ba;have Ec:=tc.k ba;have Fc:=uc.k ba;have Gc:=vc.k ba ma.sub Ia (by decide);refine⟨yc,zc,Bc,?_⟩;refine gdi hp fun Hc hp=>?_;exact Ta _ _ _ _ Ac Ia Dc Ec Fc Cc Gc hp
   exact hgo _ _ _ _ _ ga ia q r T d Ga hp
 exact hgo _ _ _ _ _ gb hb D s (Ow.nil _ _ _ _ _) ib hp
theorem zxj{p:Pg}{ca100 ca102 ca103:C}{m f:M}{Q:V->M->Prop}{rz:Wk × Int}(hS:Pre f m)(ha100:Sl f ca100 p.Losses)(ha102:Sl f ca102 p.Treaties)(ha103:Sl f ca103 p.Reports)(hp:zuc p=some rz)(hq:∀m' f' c0 c2 c3 c12 c21 c22 c23,Grw m f m' f'->Sl f' c0 rz.1.p.Losses->Sl f' c2 rz.1.p.Treaties->Sl f' c3 rz.1.p.Reports->zvo f' c12 rz.1.kinds.k0.takes->zvo f' c21 rz.1.kinds.k1.takes->zrF f' c22 rz.1.shared->MiS f' c23 rz.1.played->Q (.tup [.agg 24 [c0,Il rz.1.p.Reserve,c2,c3,Il rz.1.kinds.k0.part.Lo,Il rz.1.kinds.k0.part.Hi,Il rz.1.kinds.k0.above.Lo,Il rz.1.kinds.k0.above.Hi,Il rz.1.kinds.k0.most.Lo,Il rz.1.kinds.k0.most.Hi,Il rz.1.kinds.k0.times.Lo,Il rz.1.kinds.k0.times.Hi,c12,Il rz.1.kinds.k1.part.Lo,Il rz.1.kinds.k1.part.Hi,Il rz.1.kinds.k1.above.Lo,Il rz.1.kinds.k1.above.Hi,Il rz.1.kinds.k1.most.Lo,Il rz.1.kinds.k1.most.Hi,Il rz.1.kinds.k1.times.Lo,Il rz.1.kinds.k1.times.Hi,c21,c22,c23],.c (Il rz.2)]) m'):Wc prog tbl 67 [.agg 4 [ca100,Il p.Reserve,ca102,ca103]] m Q:=by
 have S0:=hS.st;obtain⟨τ0,_⟩:=zsk;refine w67 ?_;unfold zuc at hp;intro m0 ga;obtain⟨ha,ia,db,ja⟩:=S0.blk ga τ0 1;intro m1 ka;obtain⟨h,D,la,ma⟩:=ia.blk ka ha 2;have F:=ja.k la;refine⟨_,_,_,_,F.bk.ra,?_⟩;obtain⟨eb,na,hp⟩:=zqq hp;refine zwg (p:=p) D.pre ha100 ha102 ha103 na fun m7 oa=>?_;obtain⟨i,G⟩:=D.call oa h;have pa:=F.k G;have I:=ma.k G;refine⟨_,rfl,?_⟩;refine zq0 hp (fun qa hp=>?_) fun qa hp=>?_
 ·obtain⟨sa,ta,ua,fb,va⟩:=I.sto i [.sl0,Il 0,.sl0,.sl0,Il 0,Il 0,Il 0,Il 0,Il 0,Il 0,Il 0,Il 0,C.nilFn,Il 0,Il 0,Il 0,Il 0,Il 0,Il 0,Il 0,Il 0,C.nilFn,C.map0,C.map0];refine⟨sa,ta,?_⟩;refine⟨_,_,_,_,_,_,_,_,_,_,_,_,_,_,_,_,_,_,_,_,_,_,_,_,va.bk.ra,?_⟩
  have Xa:zvo f .nilFn (fun _ _ _=>none):=by refine⟨rfl,?_⟩; intro j l _ _ _ n o _ _ d; exact absurd d (by intro e; cases e)
  have Ya:zvo f .nilFn (fun _ _ _=>none):=by refine⟨rfl,?_⟩; intro j l _ _ _ n o _ _ d; exact absurd d (by intro e; cases e)
  have ca:zvo f .nilFn (fun _ _ _=>none):=by refine⟨rfl,?_⟩; intro j l _ _ _ n o _ _ d; exact absurd d (by intro e; cases e)
  have da:zvo f .nilFn (fun _ _ _=>none):=by refine⟨rfl,?_⟩; intro j l _ _ _ n o _ _ d; exact absurd d (by intro e; cases e)
  obtain rfl:=oi hp;exact hq _ f .sl0 .sl0 .sl0 C.nilFn C.nilFn C.map0 C.map0 ua.grw (Sl.nil _) (Sl.nil _) (Sl.nil _) ca da (show zrF _ _ _ from rfl) (MiS.nil0 _)
 refine⟨_,_,_,_,pa.bk.ra,?_⟩;obtain⟨a,wa,hp⟩:=zqq hp;refine zxg (p:=p) i.pre ha100 ha102 ha103 wa fun jb g q r s t u y z xa J N A O P S T=>?_;obtain⟨ya,za⟩:=i.callG xa h;have Aa:=I.k za;refine⟨_,_,_,_,_,_,_,_,_,_,_,_,_,_,_,_,_,_,_,_,_,_,_,_,rfl,?_⟩;intro kb Ba;obtain⟨Ca,Da,Ea,Fa⟩:=ya.blk Ba h 3;have Ga:=Aa.k Ea;obtain⟨Ha,Ia,Y,Ja,B⟩:=Fa.sto Da [q,Il a.p.Reserve,r,s,Il a.kinds.k0.part.Lo,Il a.kinds.k0.part.Hi,Il a.kinds.k0.above.Lo,Il a.kinds.k0.above.Hi,Il a.kinds.k0.most.Lo,Il a.kinds.k0.most.Hi,Il a.kinds.k0.times.Lo,Il a.kinds.k0.times.Hi,t,Il a.kinds.k1.part.Lo,Il a.kinds.k1.part.Hi,Il a.kinds.k1.above.Lo,Il a.kinds.k1.above.Hi,Il a.kinds.k1.most.Lo,Il a.kinds.k1.most.Hi,Il a.kinds.k1.times.Lo,Il a.kinds.k1.times.Hi,u,y,z];have Ka:=Ga.k Ja;refine⟨Ha,Ia,?_⟩;refine⟨_,_,_,_,_,_,_,_,_,_,_,_,_,_,_,_,_,_,_,_,_,_,_,_,B.bk.ra,trivial,trivial,_,B.bk.rc rfl,?_⟩;obtain⟨gb,La,hp⟩:=zqq hp;refine zxh (w:=({ p:=a.p,kinds:=a.kinds,shared:=(),played:=a.played }:Wk)) (reports:=a.p.Reports) Y.pre J N A O P (show zrF _ _ _ from S.noFn) T A La fun mb Ma=>?_;obtain⟨Z,aa⟩:=Y.call Ma Ca;have ba:=Ka.k aa;have Na:=B.k aa;refine⟨_,rfl,?_⟩;refine zq2 hp (fun Oa hp=>?_) fun Oa hp=>?_; rotate_left
 ·refine⟨_,_,_,_,_,_,_,_,_,_,_,_,_,_,_,_,_,_,_,_,_,_,_,_,Na.bk.ra,?_⟩;obtain⟨Pa,Qa,Ra,hb,Sa⟩:=ba.sto Z [q,Il a.p.Reserve,r,s,Il a.kinds.k0.part.Lo,Il a.kinds.k0.part.Hi,Il a.kinds.k0.above.Lo,Il a.kinds.k0.above.Hi,Il a.kinds.k0.most.Lo,Il a.kinds.k0.most.Hi,Il a.kinds.k0.times.Lo,Il a.kinds.k0.times.Hi,t,Il a.kinds.k1.part.Lo,Il a.kinds.k1.part.Hi,Il a.kinds.k1.above.Lo,Il a.kinds.k1.above.Hi,Il a.kinds.k1.most.Lo,Il a.kinds.k1.most.Hi,Il a.kinds.k1.times.Lo,Il a.kinds.k1.times.Hi,u,y,z];refine⟨Pa,Qa,?_⟩;refine⟨_,_,_,_,_,_,_,_,_,_,_,_,_,_,_,_,_,_,_,_,_,_,_,_,Sa.bk.ra,?_⟩;obtain rfl:=oi hp;exact hq _ g q r s t u y z Ra.grw J N A O P (show zrF _ _ _ from S.noFn) T
 obtain⟨Ta,Ua,Va,ib,Wa⟩:=ba.sto Z [.sl0,Il 0,.sl0,.sl0,Il 0,Il 0,Il 0,Il 0,Il 0,Il 0,Il 0,Il 0,C.nilFn,Il 0,Il 0,Il 0,Il 0,Il 0,Il 0,Il 0,Il 0,C.nilFn,C.map0,C.map0];refine⟨Ta,Ua,?_⟩;refine⟨_,_,_,_,_,_,_,_,_,_,_,_,_,_,_,_,_,_,_,_,_,_,_,_,Wa.bk.ra,?_⟩
 have Za:zvo g .nilFn (fun _ _ _=>none):=by refine⟨rfl,?_⟩; intro j l _ _ _ n o _ _ d; exact absurd d (by intro e; cases e)
 have ab:zvo g .nilFn (fun _ _ _=>none):=by refine⟨rfl,?_⟩; intro j l _ _ _ n o _ _ d; exact absurd d (by intro e; cases e)
 have ea:zvo g .nilFn (fun _ _ _=>none):=by refine⟨rfl,?_⟩; intro j l _ _ _ n o _ _ d; exact absurd d (by intro e; cases e)
 have fa:zvo g .nilFn (fun _ _ _=>none):=by refine⟨rfl,?_⟩; intro j l _ _ _ n o _ _ d; exact absurd d (by intro e; cases e)
 obtain rfl:=oi hp;exact hq _ g .sl0 .sl0 .sl0 C.nilFn C.nilFn C.map0 C.map0 Va.grw (Sl.nil _) (Sl.nil _) (Sl.nil _) ea fa (show zrF _ _ _ from rfl) (MiS.nil0 _)
theorem zxk{o:Oc}{treaty:Int}{b0:Nat}{m f:M}{Q:V->M->Prop}{rz:Int}(hS:Pre f m)(hb0:Bk f b0 1 [Il treaty])(hp:zud o treaty=some rz)(hq:∀m',Ext m m'->Q (.c (Il rz)) m'):Wc prog tbl 69 [.agg 11 [Il o.pays.p0,Il o.pays.p1,Il o.pays.p2,Il o.pays.p3,Il o.pays.p4,Il o.keeps.p0,Il o.keeps.p1,Il o.keeps.p2,Il o.keeps.p3,Il o.keeps.p4,Il o.society],.c (.ptr b0 0)] m Q:=by
 have j:=hS.st;obtain⟨n,_⟩:=zsk;refine c69 ?_;unfold zud at hp;intro t h;obtain⟨p,d,q,i⟩:=j.blk h n 1;refine⟨_,(hb0.sub d.sub).rc rfl,trivial,trivial,?_⟩;obtain⟨r,a,hp⟩:=zqq hp;obtain⟨s,e,g,a⟩:=zqk a;refine⟨s,e,g,_,(i.bk.rc (zqW (l:=([o.pays.p0,o.pays.p1,o.pays.p2,o.pays.p3,o.pays.p4]:List Int)) (enc:=(C.int .i64)) 0 rfl a)),?_⟩;obtain rfl:=oi hp;exact hq _ d.ext'
theorem zxl{o:Oc}{treaty:Int}{b0:Nat}{m f:M}{Q:V->M->Prop}{rz:Int}(hS:Pre f m)(hb0:Bk f b0 1 [Il treaty])(hp:zue o treaty=some rz)(hq:∀m',Ext m m'->Q (.c (Il rz)) m'):Wc prog tbl 70 [.agg 11 [Il o.pays.p0,Il o.pays.p1,Il o.pays.p2,Il o.pays.p3,Il o.pays.p4,Il o.keeps.p0,Il o.keeps.p1,Il o.keeps.p2,Il o.keeps.p3,Il o.keeps.p4,Il o.society],.c (.ptr b0 0)] m Q:=by
 have j:=hS.st;obtain⟨n,_⟩:=zsk;refine c70 ?_;unfold zue at hp;intro t h;obtain⟨p,d,q,i⟩:=j.blk h n 1;refine⟨_,(hb0.sub d.sub).rc rfl,trivial,trivial,?_⟩;obtain⟨r,a,hp⟩:=zqq hp;obtain⟨s,e,g,a⟩:=zqk a;refine⟨s,e,g,_,(i.bk.rc (zqW (l:=([o.keeps.p0,o.keeps.p1,o.keeps.p2,o.keeps.p3,o.keeps.p4]:List Int)) (enc:=(C.int .i64)) 5 rfl a)),?_⟩;obtain rfl:=oi hp;exact hq _ d.ext'
theorem zxm{p:Pg}{ca100 ca102 ca103:C}{m f:M}{Q:V->M->Prop}{rz:List Bd × Int}(hS:Pre f m)(ha100:Sl f ca100 p.Losses)(ha102:Sl f ca102 p.Treaties)(ha103:Sl f ca103 p.Reports)(hp:zug p=some rz)(hq:∀m' f' c0,Grw m f m' f'->Sl f' c0 rz.1->Q (.tup [.c c0,.c (Il rz.2)]) m'):Wc prog tbl 24 [.agg 4 [ca100,Il p.Reserve,ca102,ca103]] m Q:=by
 have S0:=hS.st;obtain⟨τ0,_⟩:=zsk;refine w24 ?_;unfold zug at hp;intro m0 ya;obtain⟨ba,ca,Bb,da⟩:=S0.blk ya τ0 1;refine⟨_,_,_,_,da.bk.ra,?_⟩;obtain⟨d,za,hp⟩:=zqq hp;refine zxj (p:=p) ca.pre ha100 ha102 ha103 za fun m6 A ea fa ga ha ia ja ka Aa B D F G I J N=>?_;obtain⟨Ba,Ca⟩:=ca.callG Aa ba;have Da:=da.k Ca;refine⟨_,_,_,_,_,_,_,_,_,_,_,_,_,_,_,_,_,_,_,_,_,_,_,_,_,rfl,?_⟩;intro Gb Ea;obtain⟨Fa,Ga,Ha,Ia⟩:=Ba.blk Ea ba 2;have Ja:=Da.k Ha;obtain⟨Ka,La,la,Ma,q⟩:=Ia.sto Ga [ea,Il d.1.p.Reserve,fa,ga,Il d.1.kinds.k0.part.Lo,Il d.1.kinds.k0.part.Hi,Il d.1.kinds.k0.above.Lo,Il d.1.kinds.k0.above.Hi,Il d.1.kinds.k0.most.Lo,Il d.1.kinds.k0.most.Hi,Il d.1.kinds.k0.times.Lo,Il d.1.kinds.k0.times.Hi,ha,Il d.1.kinds.k1.part.Lo,Il d.1.kinds.k1.part.Hi,Il d.1.kinds.k1.above.Lo,Il d.1.kinds.k1.above.Hi,Il d.1.kinds.k1.most.Lo,Il d.1.kinds.k1.most.Hi,Il d.1.kinds.k1.times.Lo,Il d.1.kinds.k1.times.Hi,ia,ja,ka];have l:=Ja.k Ma;refine⟨Ka,La,?_⟩;refine zq0 hp (fun Na hp=>?_) fun Na hp=>?_
 ·obtain rfl:=oi hp;exact hq _ A .sl0 la.grw (Sl.nil _)
 refine⟨trivial,_,l.bk.rc rfl,ha102.isSl,?_⟩;intro Ab zb
 have hgo:∀(s:Nat) (Z:C) (n:Int) (t:List Bd) (o:M) (i:M) (j:Nat->Nat),St (Fm.of m) f i o->Sub A i->Lb (Fm.of m) i j o 1 m.nxt 4 [ca100,Il p.Reserve,ca102,ca103]->Lb (Fm.of m) i j o 2 m6.nxt 24 [ea,Il d.1.p.Reserve,fa,ga,Il d.1.kinds.k0.part.Lo,Il d.1.kinds.k0.part.Hi,Il d.1.kinds.k0.above.Lo,Il d.1.kinds.k0.above.Hi,Il d.1.kinds.k0.most.Lo,Il d.1.kinds.k0.most.Hi,Il d.1.kinds.k0.times.Lo,Il d.1.kinds.k0.times.Hi,ha,Il d.1.kinds.k1.part.Lo,Il d.1.kinds.k1.part.Hi,Il d.1.kinds.k1.above.Lo,Il d.1.kinds.k1.above.Hi,Il d.1.kinds.k1.most.Lo,Il d.1.kinds.k1.most.Hi,Il d.1.kinds.k1.times.Lo,Il d.1.kinds.k1.times.Hi,ia,ja,ka]->Ow (Fm.of m) i j o 3 Z t->zuf p d s t n=some rz->Ab [.c Z,.c (Il n)] o:=by
  intro s
  induction s with
  | zero=>intro Z n t o i j O e l q h hp; cases hp
  | succ s Oa=>
   intro Z n t o i j O e l q h hp;refine zb _ _ _ ?_;rw[zuf] at hp
   try rw[ha102.slLen]
   refine ifd hp (fun Pa hp=>?_) fun Pa hp=>?_; rotate_left
   ·obtain⟨Qa,Ra,Cb,Sa⟩:=h.freeze O;obtain rfl:=oi hp;exact hq _ Qa Z Ra.grw Sa
   intro Hb Ta;obtain⟨ma,Ua,P,Va⟩:=O.blk Ta j 4;have Wa:=l.k P;have Xa:=q.k P;have h:=h.k P;obtain⟨Ya,Za,ab,S,bb⟩:=Va.sto Ua [Il n];have cb:=Wa.k S;have na:=Xa.k S;have h:=h.k S;refine⟨Ya,Za,?_⟩;refine⟨_,_,_,_,_,_,_,_,_,_,_,_,_,_,_,_,_,_,_,_,_,_,_,_,na.bk.ra,?_⟩;obtain⟨u,oa,g,aa⟩:=bb.freeze ab;have db:=cb.k g;have pa:=na.k g;have h:=h.k g
   have wa:zw8 u ((C.fn (Fn.func 69) [] [(W.c (C0.ptr o.nxt 0))])) (fun y=>zud y n):=by
    intro f' m' y r Q hs hpre  hg hq;exact zxk hpre (aa.sub hs) hg hq
   obtain⟨qa,eb,hp⟩:=zqq hp;refine zxi (w:=({ p:=d.1.p,kinds:=d.1.kinds,shared:=(),played:=d.1.played }:Wk)) (number:=(fun y=>zud y n)) oa.pre (B.sub (Sub.trans e g.fs)) (D.sub (Sub.trans e g.fs)) (F.sub (Sub.trans e g.fs)) (G.sub (Sub.trans e g.fs)) (I.sub (Sub.trans e g.fs)) (show zrF _ _ _ from J.noFn) (N.sub (Sub.trans e g.fs)) wa eb fun Ib fb=>?_;obtain⟨sa,T⟩:=oa.call fb ma;have gb:=db.k T;have ta:=pa.k T;have h:=h.k T;refine⟨_,_,rfl,_,_,_,_,_,_,_,_,_,_,_,_,_,_,_,_,_,_,_,_,_,_,_,_,ta.bk.ra,(by rw[show zaL cmC _=true from (zrM (zoW B.noFn) (zrM (zoW rfl) (zrM (zoW D.noFn) (zrM (zoW F.noFn) (zrM (zoW rfl) (zrM (zoW rfl) (zrM (zoW rfl) (zrM (zoW rfl) (zrM (zoW rfl) (zrM (zoW rfl) (zrM (zoW rfl) (zrM (zoW rfl) (zrM (zrK G.1) (zrM (zoW rfl) (zrM (zoW rfl) (zrM (zoW rfl) (zrM (zoW rfl) (zrM (zoW rfl) (zrM (zoW rfl) (zrM (zoW rfl) (zrM (zoW rfl) (zrM (zrK I.1) (zrM (zoW J.noFn) (zrM (zoW N.noFn) zrL))))))))))))))))))))))))]; exact(pa.bk.ra)),?_⟩
   have xa:zw8 u ((C.fn (Fn.func 70) [] [(W.c (C0.ptr o.nxt 0))])) (fun z=>zue z n):=by
    intro f' m' z r Q hs hpre  hg hq;exact zxl hpre (aa.sub hs) hg hq
   obtain⟨ua,hb,hp⟩:=zqq hp;refine zxi (w:=({ p:=d.1.p,kinds:=d.1.kinds,shared:=(),played:=d.1.played }:Wk)) (number:=(fun z=>zue z n)) sa.pre (B.sub (Sub.trans e g.fs)) (D.sub (Sub.trans e g.fs)) (F.sub (Sub.trans e g.fs)) (G.sub (Sub.trans e g.fs)) (I.sub (Sub.trans e g.fs)) (show zrF _ _ _ from J.noFn) (N.sub (Sub.trans e g.fs)) xa hb fun Jb ib=>?_;obtain⟨jb,Y⟩:=sa.call ib ma;have kb:=gb.k Y;have mb:=ta.k Y;have h:=h.k Y;refine⟨_,_,rfl,?_⟩;obtain⟨ob,hp⟩:=zqr hp;intro Kb pb;obtain⟨qb,rb,sb,tb,ub,va,vb⟩:=h.app' zxc jb (a:=({ Pays:=qa,Keeps:=ua }:Bd)) (show Rp.rep (α:=Bd) u _ ({ Pays:=qa,Keeps:=ua }:Bd) from rfl) ob pb;have wb:=kb.k va;have xb:=mb.k va;refine⟨qb,rb,tb,?_⟩;refine gdi hp fun yb hp=>?_;exact Oa _ _ _ _ u sb ub (Sub.trans e g.fs) wb xb vb hp
 exact hgo _ _ _ _ _ A Fa la (Sub.refl _) l q (Ow.nil _ _ _ _ _) hp
theorem zxn{p:Pg}{ca100 ca102 ca103:C}{m f:M}{Q:V->M->Prop}{rz:Rg × Int}(hS:Pre f m)(ha100:Sl f ca100 p.Losses)(ha102:Sl f ca102 p.Treaties)(ha103:Sl f ca103 p.Reports)(hp:zuh p=some rz)(hq:∀m',Ext m m'->Q (.tup [.agg 2 [Il rz.1.Lo,Il rz.1.Hi],.c (Il rz.2)]) m'):Wc prog tbl 25 [.agg 4 [ca100,Il p.Reserve,ca102,ca103]] m Q:=by
 have S0:=hS.st;obtain⟨τ0,_⟩:=zsk;refine w25 ?_;unfold zuh at hp;intro m0 n;obtain⟨o,q,Fa,s⟩:=S0.blk n τ0 1;intro m1 t;obtain⟨g,h,u,y⟩:=q.blk t o 2;have z:=s.k u;refine⟨_,_,_,_,z.bk.ra,?_⟩;obtain⟨a,A,hp⟩:=zqq hp;refine zxj (p:=p) h.pre ha100 ha102 ha103 A fun m7 B D F G I J N O P S T Y Z aa ba ca=>?_;obtain⟨da,ea⟩:=h.callG P g;have fa:=y.k ea;refine⟨_,_,_,_,_,_,_,_,_,_,_,_,_,_,_,_,_,_,_,_,_,_,_,_,_,rfl,?_⟩;intro Ka ga;obtain⟨ha,ia,ja,ka⟩:=da.blk ga g 3;have la:=fa.k ja;obtain⟨ma,na,e,oa,pa⟩:=ka.sto ia [D,Il a.1.p.Reserve,F,G,Il a.1.kinds.k0.part.Lo,Il a.1.kinds.k0.part.Hi,Il a.1.kinds.k0.above.Lo,Il a.1.kinds.k0.above.Hi,Il a.1.kinds.k0.most.Lo,Il a.1.kinds.k0.most.Hi,Il a.1.kinds.k0.times.Lo,Il a.1.kinds.k0.times.Hi,I,Il a.1.kinds.k1.part.Lo,Il a.1.kinds.k1.part.Hi,Il a.1.kinds.k1.above.Lo,Il a.1.kinds.k1.above.Hi,Il a.1.kinds.k1.most.Lo,Il a.1.kinds.k1.most.Hi,Il a.1.kinds.k1.times.Lo,Il a.1.kinds.k1.times.Hi,J,N,O];have i:=la.k oa;refine⟨ma,na,?_⟩;refine zq0 hp (fun qa hp=>?_) fun qa hp=>?_
 ·obtain⟨sa,ta,ua,Ga,va⟩:=i.sto e [Il 0,Il 0];refine⟨sa,ta,?_⟩;refine⟨_,_,va.bk.ra,?_⟩;obtain rfl:=oi hp;exact hq _ ua.ext'
 refine⟨_,_,_,_,_,_,_,_,_,_,_,_,_,_,_,_,_,_,_,_,_,_,_,_,pa.bk.ra,?_⟩
 have l:zw8 B ((C.fn (Fn.func 71) [] [])) (fun d=>ztQ d):=by
  intro f' m' d r Q hs hpre  hg hq;exact zwn hpre  hg hq
 obtain⟨j,wa,hp⟩:=zqq hp;refine zxi (w:=({ p:=a.1.p,kinds:=a.1.kinds,shared:=(),played:=a.1.played }:Wk)) (number:=(fun d=>ztQ d)) e.pre S T Y Z aa (show zrF _ _ _ from ba.noFn) ca l wa fun La xa=>?_;obtain⟨ya,za⟩:=e.call xa ha;have Aa:=i.k za;refine⟨_,_,rfl,?_⟩;obtain⟨Ba,Ca,Da,Ha,Ea⟩:=Aa.sto ya [Il j.Lo,Il j.Hi];refine⟨Ba,Ca,?_⟩;refine⟨_,_,Ea.bk.ra,?_⟩;obtain rfl:=oi hp;exact hq _ Da.ext'
theorem zxo{p:Pg}{set:List Int}{ca100 ca102 ca103 ca200:C}{m f:M}{Q:V->M->Prop}{rz:Rg}(hS:Pre f m)(ha100:Sl f ca100 p.Losses)(ha102:Sl f ca102 p.Treaties)(ha103:Sl f ca103 p.Reports)(ha200:Sl f ca200 set)(hp:zui p set=some rz)(hq:∀m',Ext m m'->Q (.agg 2 [Il rz.Lo,Il rz.Hi]) m'):Wc prog tbl 78 [.agg 4 [ca100,Il p.Reserve,ca102,ca103],.c ca200] m Q:=by
 have S0:=hS.st;obtain⟨τ0,_⟩:=zsk;refine w78 ?_;unfold zui at hp;intro m0 n;obtain⟨o,q,pa,s⟩:=S0.blk n τ0 1;intro m1 t;obtain⟨d,g,u,y⟩:=q.blk t o 2;have z:=s.k u;refine⟨_,_,_,_,z.bk.ra,?_⟩;obtain⟨A,B,hp⟩:=zqq hp;refine zwl (p:=p) (set:=set) g.pre ha100 ha102 ha103 ha200 B fun m7 qa sa ta ua D F G I=>?_;obtain⟨h,J⟩:=g.callG D d;have N:=y.k J;refine⟨_,_,_,_,rfl,?_⟩;obtain⟨e,O,hp⟩:=zqq hp;refine zxg (p:=A) h.pre F G I O fun Fa P va wa xa ya za Aa Ba S T Y Z aa ba ca da=>?_;obtain⟨i,ea⟩:=h.callG S d;have fa:=N.k ea;refine⟨_,_,_,_,_,_,_,_,_,_,_,_,_,_,_,_,_,_,_,_,_,_,_,_,rfl,?_⟩
 have l:zw8 P ((C.fn (Fn.func 71) [] [])) (fun a=>ztQ a):=by
  intro f' m' a r Q hs hpre  hg hq;exact zwn hpre  hg hq
 obtain⟨j,ga,hp⟩:=zqq hp;refine zxi (w:=({ p:=e.p,kinds:=e.kinds,shared:=(),played:=e.played }:Wk)) (number:=(fun a=>ztQ a)) i.pre T Y Z aa ba (show zrF _ _ _ from ca.noFn) da l ga fun Ga ha=>?_;obtain⟨ia,ja⟩:=i.call ha d;have ka:=fa.k ja;refine⟨_,_,rfl,?_⟩;obtain⟨la,ma,na,Ca,oa⟩:=ka.sto ia [Il j.Lo,Il j.Hi];refine⟨la,ma,?_⟩;refine⟨_,_,oa.bk.ra,?_⟩;obtain rfl:=oi hp;exact hq _ na.ext'
theorem zxp{p:Pg}{set:List Int}{ca100 ca102 ca103 ca200:C}{m f:M}{Q:V->M->Prop}{rz:Bool}(hS:Pre f m)(ha100:Sl f ca100 p.Losses)(ha102:Sl f ca102 p.Treaties)(ha103:Sl f ca103 p.Reports)(ha200:Sl f ca200 set)(hp:zuj p set=some rz)(hq:∀m',Ext m m'->Q (.c (.bool rz)) m'):Wc prog tbl 80 [.agg 4 [ca100,Il p.Reserve,ca102,ca103],.c ca200] m Q:=by
 have r:=hS.st;obtain⟨s,_⟩:=zsk;refine w80 ?_;unfold zuj at hp;intro t e;obtain⟨g,d,o,a⟩:=r.blk e s 1;refine⟨_,_,_,_,a.bk.ra,?_⟩;obtain⟨q,h,hp⟩:=zqq hp;refine zxo (p:=p) (set:=set) d.pre ha100 ha102 ha103 ha200 h fun u i=>?_;obtain⟨j,l⟩:=d.call i g;have n:=a.k l;refine⟨_,_,rfl,trivial,_,n.bk.rc rfl,(a.bk.rc rfl),?_⟩;obtain rfl:=oi hp;exact hq _ j.ext'
theorem zxq{p:Pg}{set:List Int}{ca100 ca102 ca103 ca200:C}{m f:M}{Q:V->M->Prop}{rz:Rg × Int}(hS:Pre f m)(ha100:Sl f ca100 p.Losses)(ha102:Sl f ca102 p.Treaties)(ha103:Sl f ca103 p.Reports)(ha200:Sl f ca200 set)(hp:zuk p set=some rz)(hq:∀m',Ext m m'->Q (.tup [.agg 2 [Il rz.1.Lo,Il rz.1.Hi],.c (Il rz.2)]) m'):Wc prog tbl 30 [.agg 4 [ca100,Il p.Reserve,ca102,ca103],.c ca200] m Q:=by
 have S0:=hS.st;obtain⟨τ0,_⟩:=zsk;refine w30 ?_;unfold zuk at hp;intro m0 s;obtain⟨t,u,la,w⟩:=S0.blk s τ0 1;intro m1 y;obtain⟨a,g,z,A⟩:=u.blk y t 2;have h:=w.k z;refine⟨_,_,_,_,h.bk.ra,?_⟩;obtain⟨ma,B,hp⟩:=zqq hp;refine zwg (p:=p) g.pre ha100 ha102 ha103 B fun m7 D=>?_;obtain⟨d,i⟩:=g.call D a;have j:=h.k i;have n:=A.k i;refine⟨_,rfl,?_⟩;refine zq0 hp (fun F hp=>?_) fun F hp=>?_
 ·obtain⟨G,I,J,na,N⟩:=n.sto d [Il 0,Il 0];refine⟨G,I,?_⟩;refine⟨_,_,N.bk.ra,?_⟩;obtain rfl:=oi hp;exact hq _ J.ext'
 refine⟨_,_,_,_,j.bk.ra,?_⟩;obtain⟨oa,O,hp⟩:=zqq hp;refine zwj (p:=p) (l:=set) d.pre ha100 ha102 ha103 ha200 O fun ua P=>?_;obtain⟨e,o⟩:=d.call P a;have S:=j.k o;have q:=n.k o;refine⟨_,rfl,?_⟩;refine zq2 hp (fun T hp=>?_) fun T hp=>?_
 ·obtain⟨Y,Z,aa,pa,ba⟩:=q.sto e [Il 0,Il 0];refine⟨Y,Z,?_⟩;refine⟨_,_,ba.bk.ra,?_⟩;obtain rfl:=oi hp;exact hq _ aa.ext'
 refine⟨_,_,_,_,S.bk.ra,?_⟩;obtain⟨r,ca,hp⟩:=zqq hp;refine zxo (p:=p) (set:=set) e.pre ha100 ha102 ha103 ha200 ca fun va da=>?_;obtain⟨ea,fa⟩:=e.call da a;have ga:=q.k fa;refine⟨_,_,rfl,?_⟩;obtain⟨ha,ia,ja,qa,ka⟩:=ga.sto ea [Il r.Lo,Il r.Hi];refine⟨ha,ia,?_⟩;refine⟨_,_,ka.bk.ra,?_⟩;obtain rfl:=oi hp;exact hq _ ja.ext'
theorem zxr{p:Pg}{ca100 ca102 ca103:C}{m f:M}{Q:V->M->Prop}{rz:List Int × Bool}(hS:Pre f m)(ha100:Sl f ca100 p.Losses)(ha102:Sl f ca102 p.Treaties)(ha103:Sl f ca103 p.Reports)(hp:zun p=some rz)(hq:∀m' f' c0,Grw m f m' f'->Sl f' c0 rz.1->Q (.tup [.c c0,.c (.bool rz.2)]) m'):Wc prog tbl 81 [.agg 4 [ca100,Il p.Reserve,ca102,ca103]] m Q:=by
 have S0:=hS.st;obtain⟨τ0,_⟩:=zsk;refine w81 ?_;unfold zun at hp;intro m0 sb;obtain⟨tb,ub,Fd,vb⟩:=S0.blk sb τ0 1;intro m1 xb;obtain⟨yb,zb,Ab,Bb⟩:=ub.blk xb tb 2;have Cb:=vb.k Ab;intro m2 Db;obtain⟨Eb,Fb,Fa,G⟩:=zb.blk Db yb 3;have P:=Cb.k Fa;have I:=Bb.k Fa;refine⟨trivial,_,P.bk.rc rfl,ha102.isSl,?_⟩;obtain⟨Ga,hp⟩:=zqr hp;refine⟨(by first|exact Ga|(rw[ha102.slLen];exact Ga)),?_⟩;intro R4 zd
 have hgo:∀(y:Nat) (x5:Int) (z:C) (S:List Int) (J:Bool) (m6:M) (s:M) (t:Nat->Nat),St (Fm.of m) f s m6->Sub f s->Lb (Fm.of m) s t m6 1 m.nxt 4 [ca100,Il p.Reserve,ca102,ca103]->Lb (Fm.of m) s t m6 2 m0.nxt 1 [z]->Lb (Fm.of m) s t m6 3 m1.nxt 1 [.bool J]->Ow (Fm.of m) s t m6 4 z S->zum p y S J x5=some rz->R4 [.c (Il x5)] m6:=by
  intro y
  induction y with
  | zero=>intro x5 z S J m6 s t na d P I G o hp; cases hp
  | succ y yd=>
   intro x5 z S J m6 s t na d P I G o hp;refine zd _ _ ?_;rw[zum] at hp
   try rw[ha102.slLen]
   refine ifd hp (fun Gb hp=>?_) fun Gb hp=>?_; rotate_left
   ·refine⟨_,I.bk.rc rfl,_,G.bk.rc rfl,?_⟩;obtain⟨Hb,Ib,Jb,Ha,Kb⟩:=I.sto na [z];have Ia:=G.k Ha;have o:=o.k Ha;refine⟨Hb,Ib,?_⟩;refine⟨(Ia.bk.rc rfl),?_⟩;obtain⟨Mb,Nb,Ob,Ja,Pb⟩:=Ia.sto Jb [.bool J];have Qb:=Kb.k Ja;have o:=o.k Ja;refine⟨Mb,Nb,?_⟩;refine⟨_,Qb.bk.rc rfl,_,Pb.bk.rc rfl,?_⟩;obtain⟨Rb,Sb,Gd,Tb⟩:=o.freeze Ob;obtain rfl:=oi hp;exact hq _ Rb z Sb.grw Tb
   try rw[ha102.slLen]
   obtain⟨Hd,Ub,hp⟩:=zqq hp;refine zw7 (n:=(p.Treaties.length:Int)) (size:=x5) na.pre  Ub fun m8 Id Jd Vb Wb=>?_;obtain⟨Xb,e⟩:=na.callG Vb t;have Ka:=P.k e;have La:=I.k e;have Ma:=G.k e;have o:=o.k e;refine⟨_,rfl,?_⟩;refine zrw (α:=List Int) Xb Wb (σ:=(List Int) × C × Bool) 5 (fun st bb=>(False\/(False\/((zqV st.2.1 bb)\/False)))) (fun st gG gF gT gM=>(Lb gG gF gT gM 1 m.nxt 4 [ca100,Il p.Reserve,ca102,ca103])/\(Lb gG gF gT gM 2 m0.nxt 1 [st.2.1])/\(Ow gG gF gT gM 4 st.2.1 st.1)/\(Lb gG gF gT gM 3 m1.nxt 1 [.bool st.2.2])) (fun rr_ st=>zul p x5 (zum p y) rr_ st.1 st.2.2=some rz) (fun ex st=>False) (fun st=>(Gux.and (Gux.lb Ka.bk.lt (by decide)) (Gux.and (Gux.lb La.bk.lt (by decide)) (Gux.and (Gux.ow (by decide)) (Gux.lb Ma.bk.lt (by decide)))))) (st0:=(S,z,J)) (τ:=t) ⟨Ka,La,o,Ma⟩ hp ?_ ?_ ?_ ?_
   ·intro A Yb st oa i Na pa Ld Ad Cd Dd _ _ Zb g hA fb hp hrep Ed gb u;obtain⟨Md,rfl,⟨N,_⟩⟩:=hrep;obtain⟨j,q,r⟩:=st;obtain⟨B,D,a,F⟩:=hA
    replace B:Lb pa oa i Na 1 m.nxt 4 [ca100,Il p.Reserve,ca102,ca103]:=B
    replace D:Lb pa oa i Na 2 m0.nxt 1 [q]:=D
    replace a:Ow pa oa i Na 4 q j:=a
    replace F:Lb pa oa i Na 3 m1.nxt 1 [.bool r]:=F
    replace hp:zul p x5 (zum p y) (A::Yb) j r=some rz:=hp
    rw[zul] at hp;refine⟨_,rfl,?_⟩;refine gb _ _ _ _ Zb fb fun fe Nd Oa qa hb w=>?_;have Pa:=B.k qa;have ac:=D.k qa;have bc:=F.k qa;have a:=a.k qa;refine⟨_,_,_,_,Pa.bk.ra,?_⟩;have Od:=a;obtain⟨Pd,cc,hp⟩:=zqq hp;refine zwj (p:=p) (l:=A) Oa.pre (ha100.sub (Sub.trans (Sub.trans d e.fs) g)) (ha102.sub (Sub.trans (Sub.trans d e.fs) g)) (ha103.sub (Sub.trans (Sub.trans d e.fs) g)) N cc fun ge dc=>?_;obtain⟨T,Y⟩:=Oa.call dc i;have O:=Pa.k Y;have sa:=ac.k Y;have ta:=bc.k Y;have a:=a.k Y;have ua:=hb.k Y;refine⟨_,rfl,?_⟩;refine zq2 hp (fun ec hp=>?_) fun ec hp=>?_
    ·exact u .nrm (j,q,r) _ _ _ _ T ⟨O,sa,a,ta⟩ ua w hp
    refine⟨_,ta.bk.rc rfl,?_⟩;refine zq1 hp (fun fc hp=>?_) fun fc hp=>?_; rotate_left
    ·refine⟨_,_,_,_,O.bk.ra,?_⟩;have Qd:=a;obtain⟨Rd,gc,hp⟩:=zqq hp;refine zxp (p:=p) (set:=A) T.pre (ha100.sub (Sub.trans (Sub.trans d e.fs) g)) (ha102.sub (Sub.trans (Sub.trans d e.fs) g)) (ha103.sub (Sub.trans (Sub.trans d e.fs) g)) N gc fun he hc=>?_;obtain⟨va,Z⟩:=T.call hc i;have Qa:=O.k Z;have Ra:=sa.k Z;have Sa:=ta.k Z;have a:=a.k Z;have Ca:=ua.k Z;refine⟨_,rfl,?_⟩;refine zq1 hp (fun ic hp=>?_) fun ic hp=>?_; rotate_left
     ·exact u .nrm (j,q,r) _ _ _ _ va ⟨Qa,Ra,a,Sa⟩ Ca w hp
     obtain⟨jc,kc,hp⟩:=zqq hp;refine zww (l:=A) va.pre N kc fun ie Sd Ta nc pc=>?_;obtain⟨Td,qc,aa,ba⟩:=va.callO nc pc i 4;have sc:=Qa.k aa;have tc:=Ra.k aa;have uc:=Sa.k aa;have a:=a.k aa;have ib:=Ca.k aa;refine⟨_,rfl,?_⟩;obtain⟨vc,wc,xc,ca,yc⟩:=tc.sto qc [Ta];have zc:=sc.k ca;have Ac:=uc.k ca;have a:=a.k ca;have ba:=ba.k ca;have jb:=ib.k ca;refine⟨vc,wc,?_⟩;obtain⟨Bc,Cc,Dc,da,Ec⟩:=Ac.sto xc [.bool true];have Fc:=zc.k da;have Gc:=yc.k da;have a:=a.k da;have ba:=ba.k da;have kb:=jb.k da;refine⟨Bc,Cc,?_⟩;exact u .nrm (jc,Ta,true) _ _ _ _ Dc ⟨Fc,Gc,ba,Ec⟩ kb w hp
    refine⟨_,_,_,_,O.bk.ra,?_⟩;have Ud:=a;obtain⟨Vd,Hc,hp⟩:=zqq hp;refine zwk (p:=p) (set:=A) T.pre (ha100.sub (Sub.trans (Sub.trans d e.fs) g)) (ha102.sub (Sub.trans (Sub.trans d e.fs) g)) (ha103.sub (Sub.trans (Sub.trans d e.fs) g)) N Hc fun je Ic=>?_;obtain⟨Ua,ea⟩:=T.call Ic i;have Va:=O.k ea;have Wa:=sa.k ea;have Jc:=ta.k ea;have a:=a.k ea;have mb:=ua.k ea;refine⟨_,rfl,_,_,_,_,Va.bk.ra,(by rw[show zaL cmC _=true from zoX (zqt ha100.noFn (zqt rfl (zqt ha102.noFn (zqt ha103.noFn zqu))))]; exact(O.bk.ra)),_,Wa.bk.rc rfl,(by rw[show cmC _=true from zoW (a.noFn)]; exact(sa.bk.rc rfl)),?_⟩;have h:=a;obtain⟨Wd,Kc,wa,Nc⟩:=a.freeze Ua;obtain⟨Xd,Pc,hp⟩:=zqq hp;refine zwk (p:=p) (set:=j) Kc.pre (ha100.sub (Sub.trans (Sub.trans (Sub.trans d e.fs) g) wa.fs)) (ha102.sub (Sub.trans (Sub.trans (Sub.trans d e.fs) g) wa.fs)) (ha103.sub (Sub.trans (Sub.trans (Sub.trans d e.fs) g) wa.fs)) Nc Pc fun ke Qc=>?_;obtain⟨xa,fa⟩:=Ua.call Qc i;have ya:=Va.k fa;have Xa:=Wa.k fa;have Ya:=Jc.k fa;have h:=h.k fa;have Da:=mb.k fa;refine⟨_,rfl,?_⟩;refine ifd hp (fun Rc hp=>?_) fun Rc hp=>?_
    ·exact u .nrm (j,q,r) _ _ _ _ xa ⟨ya,Xa,h,Ya⟩ Da w hp
    refine⟨_,_,_,_,ya.bk.ra,?_⟩;have Yd:=h;obtain⟨Zd,Tc,hp⟩:=zqq hp;refine zxp (p:=p) (set:=A) xa.pre (ha100.sub (Sub.trans (Sub.trans d e.fs) g)) (ha102.sub (Sub.trans (Sub.trans d e.fs) g)) (ha103.sub (Sub.trans (Sub.trans d e.fs) g)) N Tc fun me Uc=>?_;obtain⟨za,ga⟩:=xa.call Uc i;have Za:=ya.k ga;have ab:=Xa.k ga;have cb:=Ya.k ga;have h:=h.k ga;have Ea:=Da.k ga;refine⟨_,rfl,?_⟩;refine zq1 hp (fun Vc hp=>?_) fun Vc hp=>?_; rotate_left
    ·exact u .nrm (j,q,r) _ _ _ _ za ⟨Za,ab,h,cb⟩ Ea w hp
    obtain⟨Xc,Yc,hp⟩:=zqq hp;refine zww (l:=A) za.pre N Yc fun oe ae db Zc ad=>?_;obtain⟨be,bd,ha,ia⟩:=za.callO Zc ad i 4;have cd:=Za.k ha;have dd:=ab.k ha;have ed:=cb.k ha;have h:=h.k ha;have ob:=Ea.k ha;refine⟨_,rfl,?_⟩;obtain⟨fd,hd,jd,ja,kd⟩:=dd.sto bd [db];have ld:=cd.k ja;have md:=ed.k ja;have h:=h.k ja;have ia:=ia.k ja;have pb:=ob.k ja;refine⟨fd,hd,?_⟩;obtain⟨nd,od,pd,ka,qd⟩:=md.sto jd [.bool true];have sd:=ld.k ka;have td:=kd.k ka;have h:=h.k ka;have ia:=ia.k ka;have qb:=pb.k ka;refine⟨nd,od,?_⟩;exact u .nrm (Xc,db,true) _ _ _ _ pd ⟨sd,td,ia,qd⟩ qb w hp
   ·intro st la ma eb ud vd hA hp;obtain⟨j,q,r⟩:=st
    replace hp:zul p x5 (zum p y) [] j r=some rz:=hp
    obtain⟨B,D,a,F⟩:=hA
    replace B:Lb (Fm.of m) la ma eb 1 m.nxt 4 [ca100,Il p.Reserve,ca102,ca103]:=B
    replace D:Lb (Fm.of m) la ma eb 2 m0.nxt 1 [q]:=D
    replace a:Ow (Fm.of m) la ma eb 4 q j:=a
    replace F:Lb (Fm.of m) la ma eb 3 m1.nxt 1 [.bool r]:=F
    rw[zul] at hp;refine gdi hp fun xd hp=>?_;exact yd _ _ _ _ _ la ma ud (Sub.trans (Sub.trans d e.fs) vd) B D F a hp
   ·intro id st _ _ _ _ _ _ hn; first | exact hn.elim | (cases hn)
   ·intro st _ _ _ _ _ _ hn; first | exact hn.elim | (cases hn)
 exact hgo _ _ _ _ _ _ f Eb Fb (Sub.refl _) P I G (Ow.nil _ _ _ _ _) hp
theorem zxs{p:Pg}{ca100 ca102 ca103:C}{m f:M}{Q:V->M->Prop}{rz:List Int × Int × Int}(hS:Pre f m)(ha100:Sl f ca100 p.Losses)(ha102:Sl f ca102 p.Treaties)(ha103:Sl f ca103 p.Reports)(hp:zuo p=some rz)(hq:∀m' f' c0,Grw m f m' f'->Sl f' c0 rz.1->Q (.tup [.c c0,.c (Il rz.2.1),.c (Il rz.2.2)]) m'):Wc prog tbl 35 [.agg 4 [ca100,Il p.Reserve,ca102,ca103]] m Q:=by
 have P:=hS.st;obtain⟨S,_⟩:=zsk;refine w35 ?_;unfold zuo at hp;intro Z o;obtain⟨d,h,I,i⟩:=P.blk o S 1;refine⟨_,_,_,_,i.bk.ra,?_⟩;obtain⟨J,q,hp⟩:=zqq hp;refine zwg (p:=p) h.pre ha100 ha102 ha103 q fun m6 r=>?_;obtain⟨e,s⟩:=h.call r d;have j:=i.k s;refine⟨_,rfl,?_⟩;refine zq0 hp (fun t hp=>?_) fun t hp=>?_
 ·obtain rfl:=oi hp;exact hq _ f .sl0 e.grw (Sl.nil _)
 refine⟨_,_,_,_,j.bk.ra,?_⟩;obtain⟨u,w,hp⟩:=zqq hp;refine zxr (p:=p) e.pre ha100 ha102 ha103 w fun T l y z n=>?_;obtain⟨g,a⟩:=e.callG z d;have A:=j.k a;refine⟨_,_,rfl,?_⟩;refine zq2 hp (fun B hp=>?_) fun B hp=>?_
 ·obtain rfl:=oi hp;exact hq _ l .sl0 g.grw (Sl.nil _)
 refine⟨_,_,_,_,A.bk.ra,?_⟩;obtain⟨N,D,hp⟩:=zqq hp;refine zwk (p:=p) (set:=u.1) g.pre (ha100.sub a.fs) (ha102.sub a.fs) (ha103.sub a.fs) n D fun Y F=>?_;obtain⟨G,O⟩:=g.call F d;refine⟨_,rfl,?_⟩;obtain rfl:=oi hp;exact hq _ l y G.grw n
theorem zxt{p:Pg}{set:List Int}{price:Int}{ca100 ca102 ca103 ca200:C}{m f:M}{Q:V->M->Prop}{rz:Bool}(hS:Pre f m)(ha100:Sl f ca100 p.Losses)(ha102:Sl f ca102 p.Treaties)(ha103:Sl f ca103 p.Reports)(ha200:Sl f ca200 set)(hp:zup p set price=some rz)(hq:∀m',Ext m m'->Q (.c (.bool rz)) m'):Wc prog tbl 31 [.agg 4 [ca100,Il p.Reserve,ca102,ca103],.c ca200,.c (Il price)] m Q:=by
 have S0:=hS.st;obtain⟨τ0,_⟩:=zsk;refine w31 ?_;unfold zup at hp;intro m0 o;obtain⟨a,h,O,i⟩:=S0.blk o τ0 1;refine⟨_,_,_,_,i.bk.ra,?_⟩;obtain⟨P,q,hp⟩:=zqq hp;refine zwg (p:=p) h.pre ha100 ha102 ha103 q fun m6 r=>?_;obtain⟨d,s⟩:=h.call r a;have j:=i.k s;refine⟨_,rfl,?_⟩;refine ifd hp (fun t hp=>?_) fun t hp=>?_; rotate_left
 ·obtain rfl:=oi hp;exact hq _ d.ext'
 refine⟨_,_,_,_,j.bk.ra,?_⟩;obtain⟨S,u,hp⟩:=zqq hp;refine zwj (p:=p) (l:=set) d.pre ha100 ha102 ha103 ha200 u fun ca w=>?_;obtain⟨e,y⟩:=d.call w a;have n:=j.k y;refine⟨_,rfl,?_⟩;refine zq1 hp (fun z hp=>?_) fun z hp=>?_; rotate_left
 ·obtain rfl:=oi hp;exact hq _ e.ext'
 refine⟨_,_,_,_,n.bk.ra,?_⟩;obtain⟨T,A,hp⟩:=zqq hp;refine zwk (p:=p) (set:=set) e.pre ha100 ha102 ha103 ha200 A fun da B=>?_;obtain⟨g,D⟩:=e.call B a;have F:=n.k D;refine⟨_,rfl,?_⟩;refine ifd hp (fun G hp=>?_) fun G hp=>?_; rotate_left
 ·obtain rfl:=oi hp;exact hq _ g.ext'
 refine⟨_,_,_,_,F.bk.ra,?_⟩;obtain⟨Y,I,hp⟩:=zqq hp;refine zxp (p:=p) (set:=set) g.pre ha100 ha102 ha103 ha200 I fun ea J=>?_;obtain⟨N,Z⟩:=g.call J a;refine⟨_,rfl,?_⟩;obtain rfl:=oi hp;exact hq _ N.ext'
theorem zxu{n:Int}{w:Wk}{b0:Nat}{p:Pg}{b1:Nat}{cb000 cb002 cb003 cb012 cb021 cb022 cb023 cb100 cb102 cb103:C}{m f:M}{Q:V->M->Prop}{rz:Bool}(hS:Pre f m)(hb0:Bk f b0 24 [cb000,Il w.p.Reserve,cb002,cb003,Il w.kinds.k0.part.Lo,Il w.kinds.k0.part.Hi,Il w.kinds.k0.above.Lo,Il w.kinds.k0.above.Hi,Il w.kinds.k0.most.Lo,Il w.kinds.k0.most.Hi,Il w.kinds.k0.times.Lo,Il w.kinds.k0.times.Hi,cb012,Il w.kinds.k1.part.Lo,Il w.kinds.k1.part.Hi,Il w.kinds.k1.above.Lo,Il w.kinds.k1.above.Hi,Il w.kinds.k1.most.Lo,Il w.kinds.k1.most.Hi,Il w.kinds.k1.times.Lo,Il w.kinds.k1.times.Hi,cb021,cb022,cb023])(hb000:Sl f cb000 w.p.Losses)(hb002:Sl f cb002 w.p.Treaties)(hb003:Sl f cb003 w.p.Reports)(hb012:zvo f cb012 w.kinds.k0.takes)(hb021:zvo f cb021 w.kinds.k1.takes)(hb022:zrF f cb022 w.shared)(hb023:MiS f cb023 w.played)(hb1:Bk f b1 4 [cb100,Il p.Reserve,cb102,cb103])(_hb100:Sl f cb100 p.Losses)(_hb102:Sl f cb102 p.Treaties)(hb103:Sl f cb103 p.Reports)(hp:zuq n w p=some rz)(hq:∀m',Ext m m'->Q (.c (.bool rz)) m'):Wc prog tbl 83 [.c (Il n),.c (.ptr b0 0),.c (.ptr b1 0)] m Q:=by
 have a:=hS.st;obtain⟨u,_⟩:=zsk;refine c83 ?_;unfold zuq at hp;refine⟨_,_,_,_,_,_,_,_,_,_,_,_,_,_,_,_,_,_,_,_,_,_,_,_,(hb0.sub a.sub).ra,trivial,_,(hb1.sub a.sub).rc rfl,?_⟩;refine gdi hp fun d hp=>?_;obtain⟨r,hp⟩:=zqr hp;obtain⟨e,g,h⟩:=hb103.subC (i:=Int.toNat (0:Int)) (j:=Int.toNat (n+1)) (by omega) (by omega);refine⟨_,_,rfl,(show(n+1)=((Int.toNat (n+1):Nat):Int) by omega),e,g,?_⟩;obtain⟨s,l,hp⟩:=zqq hp;refine zxh (w:=({ p:=w.p,kinds:=w.kinds,shared:=(),played:=w.played }:Wk)) (reports:=((p.Reports.take (Int.toNat (n+1))).drop (Int.toNat (0:Int)))) a.pre hb000 hb002 hb003 hb012 hb021 (show zrF _ _ _ from hb022.noFn) hb023 h l fun y o=>?_;obtain⟨q,t⟩:=a.call o u;refine⟨_,rfl,?_⟩;obtain rfl:=oi hp;exact hq _ q.ext'
theorem zxv{n:Int}{p:Int->Option (Bool)}{ca200:C}{m f:M}{Q:V->M->Prop}{rz:Int}(hS:Pre f m)(ha200:zvs f ca200 p)(hp:zus n p=some rz)(hq:∀m',Ext m m'->Q (.c (Il rz)) m'):Wc prog tbl 85 [.c (Il n),.c ca200] m Q:=by
 have G:=hS.st;obtain⟨I,_⟩:=zsk;refine w85 ?_;unfold zus at hp;intro J B
 have hgo:∀(d:Nat) (i:Int) (j:Int) (l:M) (a:Nat->Nat),St (Fm.of m) f f l->zur p d i j=some rz->J [.c (Il i),.c (Il j)] l:=by
  intro d
  induction d with
  | zero=>intro i j l a e hp; cases hp
  | succ d h=>
   intro i j l a e hp;refine B _ _ _ ?_;rw[zur] at hp;refine ifd hp (fun o hp=>?_) fun o hp=>?_; rotate_left
   ·obtain rfl:=oi hp;exact hq _ e.ext'
   refine gdi hp fun q hp=>?_;refine gdi hp fun r hp=>?_;refine gdi hp fun s hp=>?_;refine gdi hp fun t hp=>?_;refine gdi hp fun u hp=>?_;obtain⟨D,w,hp⟩:=zqq hp;refine ha200 _ _ _ _ _ (Sub.refl _) e.pre  w fun N y=>?_;obtain⟨g,F⟩:=e.call y a;refine⟨_,rfl,?_⟩;refine zq2 hp (fun z hp=>?_) fun z hp=>?_; rotate_left
   ·exact h _ _ _ a g hp
   refine gdi hp fun A hp=>?_;exact h _ _ _ a g hp
 exact hgo _ _ _ _ I G hp
theorem zxw{p:Pg}{ca100 ca102 ca103:C}{m f:M}{Q:V->M->Prop}{rz:Int × Int}(hS:Pre f m)(ha100:Sl f ca100 p.Losses)(ha102:Sl f ca102 p.Treaties)(ha103:Sl f ca103 p.Reports)(hp:zut p=some rz)(hq:∀m',Ext m m'->Q (.tup [.c (Il rz.1),.c (Il rz.2)]) m'):Wc prog tbl 38 [.agg 4 [ca100,Il p.Reserve,ca102,ca103]] m Q:=by
 have S0:=hS.st;obtain⟨τ0,_⟩:=zsk;refine w38 ?_;unfold zut at hp;intro m0 A;obtain⟨i,q,Ca,s⟩:=S0.blk A τ0 1;refine⟨_,_,_,_,s.bk.ra,?_⟩;obtain⟨Da,B,hp⟩:=zqq hp;refine zwg (p:=p) q.pre ha100 ha102 ha103 B fun m6 D=>?_;obtain⟨j,F⟩:=q.call D i;have t:=s.k F;refine⟨_,rfl,?_⟩;refine zq0 hp (fun G hp=>?_) fun G hp=>?_
 ·obtain rfl:=oi hp;exact hq _ j.ext'
 refine⟨_,_,_,_,t.bk.ra,?_⟩;obtain⟨a,I,hp⟩:=zqq hp;refine zxg (p:=p) j.pre ha100 ha102 ha103 I fun Ba Ea J N O P S T Y Z aa ba ca da ea fa ga=>?_;obtain⟨ha,g⟩:=j.callG Z i;have ia:=t.k g;refine⟨_,_,_,_,_,_,_,_,_,_,_,_,_,_,_,_,_,_,_,_,_,_,_,_,rfl,?_⟩;intro Ka ja;obtain⟨ka,la,ma,na⟩:=ha.blk ja i 2;have oa:=ia.k ma;obtain⟨pa,qa,sa,ta,ua⟩:=na.sto la [J,Il a.p.Reserve,N,O,Il a.kinds.k0.part.Lo,Il a.kinds.k0.part.Hi,Il a.kinds.k0.above.Lo,Il a.kinds.k0.above.Hi,Il a.kinds.k0.most.Lo,Il a.kinds.k0.most.Hi,Il a.kinds.k0.times.Lo,Il a.kinds.k0.times.Hi,P,Il a.kinds.k1.part.Lo,Il a.kinds.k1.part.Hi,Il a.kinds.k1.above.Lo,Il a.kinds.k1.above.Hi,Il a.kinds.k1.most.Lo,Il a.kinds.k1.most.Hi,Il a.kinds.k1.times.Lo,Il a.kinds.k1.times.Hi,S,T,Y];have u:=oa.k ta;refine⟨pa,qa,?_⟩;refine⟨trivial,_,u.bk.rc rfl,ha103.isSl,?_⟩
 try rw[ha103.slLen]
 obtain⟨Fa,va,d,y⟩:=ua.freeze sa;have wa:=u.k d;obtain⟨xa,w,e,o⟩:=wa.freeze va
 have z:zvs xa ((C.fn (Fn.func 83) [] [(W.c (C0.ptr Ba.nxt 0)),(W.c (C0.ptr m.nxt 0))])) (fun h=>zuq h a p):=by
  intro f' m' h r Q hs hpre  hg hq;exact zxu hpre ((y.sub e.fs).sub hs) ((aa.sub (Sub.trans d.fs e.fs)).sub hs) ((ba.sub (Sub.trans d.fs e.fs)).sub hs) ((ca.sub (Sub.trans d.fs e.fs)).sub hs) ((da.sub (Sub.trans d.fs e.fs)).sub hs) ((ea.sub (Sub.trans d.fs e.fs)).sub hs) ((fa.sub (Sub.trans d.fs e.fs)).sub hs) ((ga.sub (Sub.trans d.fs e.fs)).sub hs) (o.sub hs) ((ha100.sub (Sub.trans (Sub.trans g.fs d.fs) e.fs)).sub hs) ((ha102.sub (Sub.trans (Sub.trans g.fs d.fs) e.fs)).sub hs) ((ha103.sub (Sub.trans (Sub.trans g.fs d.fs) e.fs)).sub hs) hg hq
 obtain⟨Ga,ya,hp⟩:=zqq hp;refine zxv (n:=(p.Reports.length:Int)) (p:=(fun h=>zuq h a p)) w.pre z ya fun La za=>?_;obtain⟨l,Ha⟩:=w.call za ka;refine⟨_,rfl,trivial,_,(o.sub l.sub).rc rfl,ha103.isSl,?_⟩
 try rw[ha103.slLen]
 refine ifd hp (fun Aa hp=>?_) fun Aa hp=>?_
 ·obtain rfl:=oi hp;exact hq _ l.ext'
 obtain rfl:=oi hp;exact hq _ l.ext'
theorem zxx{list:List Int}{w:Wk}{b0:Nat}{p:Pg}{b1:Nat}{ca100 cb000 cb002 cb003 cb012 cb021 cb022 cb023 cb100 cb102 cb103:C}{m f:M}{Q:V->M->Prop}{rz:Bool}(hS:Pre f m)(ha100:Sl f ca100 list)(hb0:Bk f b0 24 [cb000,Il w.p.Reserve,cb002,cb003,Il w.kinds.k0.part.Lo,Il w.kinds.k0.part.Hi,Il w.kinds.k0.above.Lo,Il w.kinds.k0.above.Hi,Il w.kinds.k0.most.Lo,Il w.kinds.k0.most.Hi,Il w.kinds.k0.times.Lo,Il w.kinds.k0.times.Hi,cb012,Il w.kinds.k1.part.Lo,Il w.kinds.k1.part.Hi,Il w.kinds.k1.above.Lo,Il w.kinds.k1.above.Hi,Il w.kinds.k1.most.Lo,Il w.kinds.k1.most.Hi,Il w.kinds.k1.times.Lo,Il w.kinds.k1.times.Hi,cb021,cb022,cb023])(hb000:Sl f cb000 w.p.Losses)(hb002:Sl f cb002 w.p.Treaties)(hb003:Sl f cb003 w.p.Reports)(hb012:zvo f cb012 w.kinds.k0.takes)(hb021:zvo f cb021 w.kinds.k1.takes)(hb022:zrF f cb022 w.shared)(hb023:MiS f cb023 w.played)(hb1:Bk f b1 4 [cb100,Il p.Reserve,cb102,cb103])(_hb100:Sl f cb100 p.Losses)(_hb102:Sl f cb102 p.Treaties)(hb103:Sl f cb103 p.Reports)(hp:zuu list w p=some rz)(hq:∀m',Ext m m'->Q (.c (.bool rz)) m'):Wc prog tbl 86 [.c ca100,.c (.ptr b0 0),.c (.ptr b1 0)] m Q:=by
 have e:=hS.st;obtain⟨r,_⟩:=zsk;refine c86 ?_;unfold zuu at hp;refine⟨_,_,_,_,_,_,_,_,_,_,_,_,_,_,_,_,_,_,_,_,_,_,_,_,(hb0.sub e.sub).ra,trivial,_,(hb1.sub e.sub).rc rfl,?_⟩;obtain⟨g,h,hp⟩:=zqq hp;refine zwv (l:=p.Reports) (out:=list) e.pre hb103 ha100 h fun z s t i j=>?_;obtain⟨d,a⟩:=e.callG i r;refine⟨_,rfl,(by rw[show zaL cmC _=true from (zrM (zoW hb000.noFn) (zrM (zoW rfl) (zrM (zoW hb002.noFn) (zrM (zoW hb003.noFn) (zrM (zoW rfl) (zrM (zoW rfl) (zrM (zoW rfl) (zrM (zoW rfl) (zrM (zoW rfl) (zrM (zoW rfl) (zrM (zoW rfl) (zrM (zoW rfl) (zrM (zrK hb012.1) (zrM (zoW rfl) (zrM (zoW rfl) (zrM (zoW rfl) (zrM (zoW rfl) (zrM (zoW rfl) (zrM (zoW rfl) (zrM (zoW rfl) (zrM (zoW rfl) (zrM (zrK hb021.1) (zrM (zoW hb022.noFn) (zrM (zoW hb023.noFn) zrL))))))))))))))))))))))))]; exact((hb0.sub (Sub.trans a.fs d.sub)).ra)),?_⟩;obtain⟨u,n,hp⟩:=zqq hp;refine zxh (w:=({ p:=w.p,kinds:=w.kinds,shared:=(),played:=w.played }:Wk)) (reports:=g) d.pre (hb000.sub a.fs) (hb002.sub a.fs) (hb003.sub a.fs) (hb012.sub a.fs) (hb021.sub a.fs) (show zrF _ _ _ from hb022.noFn) (hb023.sub a.fs) j n fun A o=>?_;obtain⟨q,y⟩:=d.call o r;refine⟨_,rfl,?_⟩;obtain rfl:=oi hp;exact hq _ q.ext'
theorem zxy{p:Pg}{ca100 ca102 ca103:C}{m f:M}{Q:V->M->Prop}{rz:List Int × Int}(hS:Pre f m)(ha100:Sl f ca100 p.Losses)(ha102:Sl f ca102 p.Treaties)(ha103:Sl f ca103 p.Reports)(hp:zuv p=some rz)(hq:∀m' f' c0,Grw m f m' f'->Sl f' c0 rz.1->Q (.tup [.c c0,.c (Il rz.2)]) m'):Wc prog tbl 39 [.agg 4 [ca100,Il p.Reserve,ca102,ca103]] m Q:=by
 have S0:=hS.st;obtain⟨τ0,_⟩:=zsk;refine w39 ?_;unfold zuv at hp;intro m0 z;obtain⟨i,l,Fa,o⟩:=S0.blk z τ0 1;refine⟨_,_,_,_,o.bk.ra,?_⟩;obtain⟨Ga,A,hp⟩:=zqq hp;refine zwg (p:=p) l.pre ha100 ha102 ha103 A fun m6 B=>?_;obtain⟨j,D⟩:=l.call B i;have q:=o.k D;refine⟨_,rfl,?_⟩;refine zq0 hp (fun F hp=>?_) fun F hp=>?_
 ·obtain rfl:=oi hp;exact hq _ f .sl0 j.grw (Sl.nil _)
 refine⟨_,_,_,_,q.bk.ra,?_⟩;obtain⟨a,G,hp⟩:=zqq hp;refine zxg (p:=p) j.pre ha100 ha102 ha103 G fun Ea Ha I J N O P S T Y Z aa ba ca da ea fa=>?_;obtain⟨ga,g⟩:=j.callG Y i;have ha:=q.k g;refine⟨_,_,_,_,_,_,_,_,_,_,_,_,_,_,_,_,_,_,_,_,_,_,_,_,rfl,?_⟩;intro Oa ia;obtain⟨ja,ka,la,ma⟩:=ga.blk ia i 2;have na:=ha.k la;obtain⟨oa,pa,qa,sa,ta⟩:=ma.sto ka [I,Il a.p.Reserve,J,N,Il a.kinds.k0.part.Lo,Il a.kinds.k0.part.Hi,Il a.kinds.k0.above.Lo,Il a.kinds.k0.above.Hi,Il a.kinds.k0.most.Lo,Il a.kinds.k0.most.Hi,Il a.kinds.k0.times.Lo,Il a.kinds.k0.times.Hi,O,Il a.kinds.k1.part.Lo,Il a.kinds.k1.part.Hi,Il a.kinds.k1.above.Lo,Il a.kinds.k1.above.Hi,Il a.kinds.k1.most.Lo,Il a.kinds.k1.most.Hi,Il a.kinds.k1.times.Lo,Il a.kinds.k1.times.Hi,P,S,T];have s:=na.k sa;refine⟨oa,pa,?_⟩;refine⟨trivial,_,s.bk.rc rfl,ha103.isSl,?_⟩
 try rw[ha103.slLen]
 obtain⟨Ia,ua,d,u⟩:=ta.freeze qa;have va:=s.k d;obtain⟨wa,t,e,w⟩:=va.freeze ua
 have y:zwN wa ((C.fn (Fn.func 86) [] [(W.c (C0.ptr Ea.nxt 0)),(W.c (C0.ptr m.nxt 0))])) (fun h=>zuu h a p):=by
  intro f' m' h Ja r Q hs hpre xa hg hq;exact zxx hpre xa ((u.sub e.fs).sub hs) ((Z.sub (Sub.trans d.fs e.fs)).sub hs) ((aa.sub (Sub.trans d.fs e.fs)).sub hs) ((ba.sub (Sub.trans d.fs e.fs)).sub hs) ((ca.sub (Sub.trans d.fs e.fs)).sub hs) ((da.sub (Sub.trans d.fs e.fs)).sub hs) ((ea.sub (Sub.trans d.fs e.fs)).sub hs) ((fa.sub (Sub.trans d.fs e.fs)).sub hs) (w.sub hs) ((ha100.sub (Sub.trans (Sub.trans g.fs d.fs) e.fs)).sub hs) ((ha102.sub (Sub.trans (Sub.trans g.fs d.fs) e.fs)).sub hs) ((ha103.sub (Sub.trans (Sub.trans g.fs d.fs) e.fs)).sub hs) hg hq
 obtain⟨Ka,ya,hp⟩:=zqq hp;refine zwT (n:=(p.Reports.length:Int)) (passes:=(fun h=>zuu h a p)) t.pre y ya fun Pa za Aa Ba Ca=>?_;obtain⟨Da,La⟩:=t.callG Ba ja;refine⟨_,rfl,?_⟩;obtain rfl:=oi hp;exact hq _ za Aa Da.grw Ca
theorem zxz{l:List Int}{ca100:C}{m f:M}{Q:V->M->Prop}{rz:List Int}(hS:Pre f m)(ha100:Sl f ca100 l)(hp:zuw l=some rz)(hq:∀m' f' c0,Grw m f m' f'->Sl f' c0 rz->Q (.c c0) m'):Wc prog tbl 17 [.c ca100] m Q:=by
 have s:=hS.st;obtain⟨t,_⟩:=zsk;refine w17 ?_;unfold zuw at hp;obtain⟨d,hp⟩:=zqr hp;obtain⟨a,e,p,g,h,q,i⟩:=(Ow.nil (α:=Int) (Fm.of m) f t m 1).appL zvu s ha100 d;refine⟨a,e,g,?_⟩;obtain⟨j,n,r,o⟩:=i.freeze h;obtain rfl:=oi hp;exact hq _ j a n.grw o
theorem zxA{r:Rg}{m f:M}{Q:V->M->Prop}{rz:Rg}(hS:Pre f m)(hp:zux r=some rz)(hq:∀m',Ext m m'->Q (.agg 2 [Il rz.Lo,Il rz.Hi]) m'):Wc prog tbl 29 [.agg 2 [Il r.Lo,Il r.Hi]] m Q:=by
 have w:=hS.st;obtain⟨y,_⟩:=zsk;refine w29 ?_;unfold zux at hp;intro z c;obtain⟨d,e,s,g⟩:=w.blk c y 1;intro A h;obtain⟨t,i,j,l⟩:=e.blk h d 2;have a:=g.k j;refine⟨trivial,_,a.bk.rc rfl,trivial,_,a.bk.rc rfl,?_⟩;obtain⟨n,o,p,u,q⟩:=l.sto i [Il r.Lo,Il r.Hi];refine⟨n,o,?_⟩;refine⟨_,_,q.bk.ra,?_⟩;obtain rfl:=oi hp;exact hq _ p.ext'
theorem zxB{p:Pg}{ca100 ca102 ca103:C}{m f:M}{Q:V->M->Prop}{rz:Pg}(hS:Pre f m)(ha100:Sl f ca100 p.Losses)(ha102:Sl f ca102 p.Treaties)(ha103:Sl f ca103 p.Reports)(hp:zuB p=some rz)(hq:∀m' f' c0 c2 c3,Grw m f m' f'->Sl f' c0 rz.Losses->Sl f' c2 rz.Treaties->Sl f' c3 rz.Reports->Q (.agg 4 [c0,Il rz.Reserve,c2,c3]) m'):Wc prog tbl 16 [.agg 4 [ca100,Il p.Reserve,ca102,ca103]] m Q:=by
 have S0:=hS.st;obtain⟨τ0,_⟩:=zsk;refine w16 ?_;unfold zuB at hp;intro m0 ib;obtain⟨jb,kb,Id,mb⟩:=S0.blk ib τ0 1;intro m1 ob;obtain⟨pb,qb,rb,sb⟩:=kb.blk ob jb 2;have Na:=mb.k rb;refine⟨trivial,_,Na.bk.rc rfl,?_⟩;intro m3 tb;obtain⟨ub,vb,Oa,wb⟩:=qb.blk tb pb 3;have xb:=Na.k Oa;have yb:=sb.k Oa;obtain⟨zb,Ab,Bb,Pa,h⟩:=wb.sto vb [.sl0,Il p.Reserve,.sl0,.sl0];have g:=xb.k Pa;have i:=yb.k Pa;refine⟨zb,Ab,?_⟩;intro R5 Ad
 have hgo:∀(ja:Nat) (x6:Int) (l:C) (T:C) (Y:C) (z:List Rg) (Z:Int) (ka:List Ty) (la:List Rpt) (m7:M) (o:Nat->Nat),St (Fm.of m) f f m7->Lb (Fm.of m) f o m7 1 m.nxt 4 [ca100,Il p.Reserve,ca102,ca103]->Lb (Fm.of m) f o m7 2 m0.nxt 4 [.sl0,Il 0,.sl0,.sl0]->Lb (Fm.of m) f o m7 3 m1.nxt 4 [l,Il Z,T,Y]->Ow (Fm.of m) f o m7 4 l z->Ow (Fm.of m) f o m7 5 T ka->Ow (Fm.of m) f o m7 6 Y la->zuA p ja z Z ka la x6=some rz->R5 [.c (Il x6)] m7:=by
  intro ja
  induction ja with
  | zero=>intro x6 l T Y z Z ka la m7 o aa g i h d s t hp; cases hp
  | succ ja xd=>
   intro x6 l T Y z Z ka la m7 o aa g i h d s t hp;refine Ad _ _ ?_;rw[zuA] at hp;refine⟨trivial,_,g.bk.rc rfl,ha100.isSl,?_⟩
   try rw[ha100.slLen]
   refine ifd hp (fun Db hp=>?_) fun Db hp=>?_
   ·refine⟨trivial,_,h.bk.rc rfl,trivial,_,g.bk.rc rfl,?_⟩;obtain⟨Eb,va,hp⟩:=zqq hp;obtain⟨Cd,eb,Ja,va⟩:=zqk va;obtain⟨_,Fb⟩:=zsm ha100 va;refine⟨Cd,eb,(by first|exact Ja|(rw[ha100.slLen];exact Ja)),_,_,(Fb _ aa.sub).1,?_⟩;obtain⟨Qa,Gb,hp⟩:=zqq hp;refine zxA (r:=Eb) aa.pre  Gb fun Qd Hb=>?_;obtain⟨Ib,B⟩:=aa.call Hb o;have Jb:=g.k B;have Kb:=i.k B;have wa:=h.k B;have d:=d.k B;have s:=s.k B;have t:=t.k B;refine⟨_,_,rfl,(by rw[show cmC _=true from zoW (d.noFn)]; exact(wa.bk.rc rfl)),?_⟩;obtain⟨Mb,hp⟩:=zqr hp;intro Rd Ra;refine⟨(by rw[show cmC _=true from zoW (d.noFn)]; exact(wa.bk.ext (Bk.new Ra).2).rc rfl),?_⟩;obtain⟨xa,Nb,Ob,Pb,Qb,ba,ya⟩:=d.app' zxb Ib (a:=Qa) (show Rp.rep (α:=Rg) f _ Qa from rfl) Mb Ra;have Rb:=Jb.k ba;have Sb:=Kb.k ba;have Tb:=wa.k ba;have s:=s.k ba;have t:=t.k ba;refine⟨xa,Nb,Pb,?_⟩;refine⟨trivial,?_⟩;obtain⟨Ub,Vb,Wb,ca,za⟩:=Tb.sto1 Qb 0 xa (by simp) rfl
    replace za:Lb _ _ _ _ _ _ _ [xa,Il Z,T,Y]:=za
    have Xb:=Rb.k ca;have Yb:=Sb.k ca;have s:=s.k ca;have t:=t.k ca;have ya:=ya.k ca;refine⟨Ub,Vb,?_⟩;refine gdi hp fun Zb hp=>?_;exact xd _ _ _ _ _ _ _ _ _ Ob Wb Xb Yb za ya s t hp
   intro Dd yd
   have hgo:∀(ma:Nat) (Sa:Int) (u:C) (da:C) (ea:Int) (D:List Ty) (na:List Rpt) (P:M) (q:Nat->Nat),St (Fm.of m) f f P->Lb (Fm.of m) f q P 1 m.nxt 4 [ca100,Il p.Reserve,ca102,ca103]->Lb (Fm.of m) f q P 2 m0.nxt 4 [.sl0,Il 0,.sl0,.sl0]->Lb (Fm.of m) f q P 3 m1.nxt 4 [l,Il ea,u,da]->Ow (Fm.of m) f q P 5 u D->Ow (Fm.of m) f q P 6 da na->Ow (Fm.of m) f q P 4 l z->zuz p z ma ea D na Sa=some rz->Dd [.c (Il Sa)] P:=by
    intro ma
    induction ma with
    | zero=>intro Sa u da ea D na P q oa g i h e n d hp; cases hp
    | succ ma ac=>
     intro Sa u da ea D na P q oa g i h e n d hp;refine yd _ _ ?_;rw[zuz] at hp;refine⟨trivial,_,g.bk.rc rfl,ha102.isSl,?_⟩
     try rw[ha102.slLen]
     refine ifd hp (fun bc hp=>?_) fun bc hp=>?_
     ·refine⟨trivial,_,g.bk.rc rfl,?_⟩;obtain⟨w,Aa,hp⟩:=zqq hp;obtain⟨Ed,fb,Ka,Aa⟩:=zqk Aa;obtain⟨_,cc⟩:=zso ha102 Aa;refine⟨Ed,fb,(by first|exact Ka|(rw[ha102.slLen];exact Ka)),_,_,_,_,_,_,_,(cc _ oa.sub).1,?_⟩;intro Sd dc;obtain⟨Jd,ec,F,fc⟩:=oa.blk dc q 7;have gc:=g.k F;have hc:=i.k F;have ic:=h.k F;have d:=d.k F;have e:=e.k F;have n:=n.k F;obtain⟨jc,kc,nc,G,A⟩:=fc.sto ec [Il w.Kind,Il w.Part,Il w.Above,Il w.Most,Il w.Times,Il w.Price,Il w.Of];have pc:=gc.k G;have qc:=hc.k G;have Ta:=ic.k G;have d:=d.k G;have e:=e.k G;have n:=n.k G;refine⟨jc,kc,?_⟩;refine⟨trivial,_,Ta.bk.rc rfl,trivial,_,A.bk.rc rfl,trivial,_,A.bk.rc rfl,trivial,_,A.bk.rc rfl,trivial,_,A.bk.rc rfl,trivial,_,A.bk.rc rfl,trivial,_,A.bk.rc rfl,trivial,_,A.bk.rc rfl,?_⟩;obtain⟨sc,hp⟩:=zqr hp;intro Td tc;obtain⟨Ba,uc,vc,wc,xc,fa,Ca⟩:=e.app' zvv nc (a:=w) (show Rp.rep (α:=Ty) f _ w from rfl) sc tc;have yc:=pc.k fa;have zc:=qc.k fa;have Ac:=Ta.k fa;have d:=d.k fa;have n:=n.k fa;refine⟨Ba,uc,wc,?_⟩;refine⟨trivial,?_⟩;obtain⟨Bc,Cc,Dc,ga,Da⟩:=Ac.sto1 xc 2 Ba (by simp) rfl
      replace Da:Lb _ _ _ _ _ _ _ [l,Il ea,Ba,da]:=Da
      have Ec:=yc.k ga;have Fc:=zc.k ga;have d:=d.k ga;have n:=n.k ga;have Ca:=Ca.k ga;refine⟨Bc,Cc,?_⟩;refine gdi hp fun Gc hp=>?_;exact ac _ _ _ _ _ _ _ vc Dc Ec Fc Da Ca n d hp
     intro Fd zd
     have hgo:∀(pa:Nat) (Ua:Int) (I:C) (J:Int) (qa:List Rpt) (S:M) (y:Nat->Nat),St (Fm.of m) f f S->Lb (Fm.of m) f y S 1 m.nxt 4 [ca100,Il p.Reserve,ca102,ca103]->Lb (Fm.of m) f y S 2 m0.nxt 4 [.sl0,Il 0,.sl0,.sl0]->Lb (Fm.of m) f y S 3 m1.nxt 4 [l,Il J,u,I]->Ow (Fm.of m) f y S 6 I qa->Ow (Fm.of m) f y S 4 l z->Ow (Fm.of m) f y S 5 u D->zuy p z D pa J qa Ua=some rz->Fd [.c (Il Ua)] S:=by
      intro pa
      induction pa with
      | zero=>intro Ua I J qa S y N g i h j d e hp; cases hp
      | succ pa Hc=>
       intro Ua I J qa S y N g i h j d e hp;refine zd _ _ ?_;rw[zuy] at hp;refine⟨trivial,_,g.bk.rc rfl,ha103.isSl,?_⟩
       try rw[ha103.slLen]
       refine ifd hp (fun Ic hp=>?_) fun Ic hp=>?_; rotate_left
       ·refine⟨_,_,_,_,h.bk.ra,?_⟩;obtain⟨Jc,Kc,Nc,Ea,Pc⟩:=i.sto N [l,Il J,u,I];have d:=d.k Ea;have e:=e.k Ea;have j:=j.k Ea;refine⟨Jc,Kc,?_⟩;refine⟨_,_,_,_,Pc.bk.ra,?_⟩;obtain⟨Ld,Qc,Va,Rc⟩:=d.freeze Nc;have e:=e.k Va;have j:=j.k Va;obtain⟨Md,Tc,Wa,Uc⟩:=e.freeze Qc;have j:=j.k Wa;obtain⟨Vc,Xc,Xa,Yc⟩:=j.freeze Tc;obtain rfl:=oi hp;exact hq _ Vc l u I Xc.grw (Rc.sub (Sub.trans Wa.fs Xa.fs)) (Uc.sub Xa.fs) Yc
       refine⟨trivial,_,h.bk.rc rfl,trivial,_,g.bk.rc rfl,?_⟩;obtain⟨Ya,sa,hp⟩:=zqq hp;obtain⟨Gd,gb,La,sa⟩:=zqk sa;obtain⟨_,Za⟩:=zsq ha103 sa;refine⟨Gd,gb,(by first|exact La|(rw[ha103.slLen];exact La)),(ha103.isPt sa _),_,((Za _ N.sub).2.1 0 _ rfl),trivial,_,g.bk.rc rfl,?_⟩;obtain⟨Zc,ta,hp⟩:=zqq hp;obtain⟨Hd,hb,Ma,ta⟩:=zqk ta;obtain⟨_,ad⟩:=zsq ha103 ta;refine⟨Hd,hb,(by first|exact Ma|(rw[ha103.slLen];exact Ma)),(ha103.isPt ta _),_,_,((ad _ N.sub).2.2 1 2 (by omega) (by decide)),?_⟩;obtain⟨ab,bd,hp⟩:=zqq hp;refine zxA (r:=Zc.Paid) N.pre  bd fun Ud cd=>?_;obtain⟨bb,O⟩:=N.call cd y;have cb:=g.k O;have dd:=i.k O;have Fa:=h.k O;have d:=d.k O;have e:=e.k O;have j:=j.k O;refine⟨_,_,rfl,((Za _ bb.sub).2.1 0 _ rfl),(by rw[show cmC _=true from zoW (ha103.noFn)]; exact(cb.bk.rc rfl)),(by rw[show cmC _=true from zoW (j.noFn)]; exact(Fa.bk.rc rfl)),?_⟩;obtain⟨ed,hp⟩:=zqr hp;intro Vd db;refine⟨(by rw[show cmC _=true from zoW (j.noFn)]; exact(Fa.bk.ext (Bk.new db).2).rc rfl),?_⟩;obtain⟨Ga,fd,hd,id,jd,ha,Ha⟩:=j.app' zvw bb (a:=({ Treaty:=Ya.Treaty,Paid:=ab }:Rpt)) (show Rp.rep (α:=Rpt) f _ ({ Treaty:=Ya.Treaty,Paid:=ab }:Rpt) from rfl) ed db;have kd:=cb.k ha;have ld:=dd.k ha;have md:=Fa.k ha;have d:=d.k ha;have e:=e.k ha;refine⟨Ga,fd,id,?_⟩;refine⟨trivial,?_⟩;obtain⟨nd,od,pd,ia,Ia⟩:=md.sto1 jd 3 Ga (by simp) rfl
       replace Ia:Lb _ _ _ _ _ _ _ [l,Il J,u,Ga]:=Ia
       have qd:=kd.k ia;have sd:=ld.k ia;have d:=d.k ia;have e:=e.k ia;have Ha:=Ha.k ia;refine⟨nd,od,?_⟩;refine gdi hp fun td hp=>?_;exact Hc _ _ _ _ _ hd pd qd sd Ia Ha d e hp
     exact hgo _ _ _ _ _ _ q oa g i h n d e hp
   exact hgo _ _ _ _ _ _ _ _ o aa g i h s t d hp
 exact hgo _ _ _ _ _ _ _ _ _ _ ub Bb g i h (Ow.nil _ _ _ _ _) (Ow.nil _ _ _ _ _) (Ow.nil _ _ _ _ _) hp
theorem zxC{a:List Int}{b:List Int}{ca100 ca200:C}{m f:M}{Q:V->M->Prop}{rz:Bool}(hS:Pre f m)(ha100:Sl f ca100 a)(ha200:Sl f ca200 b)(hp:zuD a b=some rz)(hq:∀m',Ext m m'->Q (.c (.bool rz)) m'):Wc prog tbl 23 [.c ca100,.c ca200] m Q:=by
 have z:=hS.st;obtain⟨F,_⟩:=zsk;refine w23 ?_;unfold zuD at hp;refine⟨ha100.isSl,ha200.isSl,?_⟩
 try rw[ha100.slLen]
 try rw[ha200.slLen]
 refine zq0 hp (fun p hp=>?_) fun p hp=>?_
 ·obtain rfl:=oi hp;exact hq _ z.ext'
 intro G A
 have hgo:∀(e:Nat) (w:Bool) (q:Int) (r:M) (g:Nat->Nat),St (Fm.of m) f f r->zuC a b e q=some rz->G [.c (.bool w),.c (Il q)] r:=by
  intro e
  induction e with
  | zero=>intro w q r g d hp; cases hp
  | succ e y=>
   intro w q r g d hp;refine A _ _ _ ?_;rw[zuC] at hp;refine⟨ha100.isSl,?_⟩
   try rw[ha100.slLen]
   refine ifd hp (fun s hp=>?_) fun s hp=>?_; rotate_left
   ·obtain rfl:=oi hp;exact hq _ d.ext'
   obtain⟨B,h,hp⟩:=zqq hp;obtain⟨I,n,j,h⟩:=zqk h;refine⟨I,n,(by first|exact j|(rw[ha100.slLen];exact j)),_,(ha100.rdI h d.sub),?_⟩;obtain⟨D,i,hp⟩:=zqq hp;obtain⟨J,o,l,i⟩:=zqk i;refine⟨J,o,(by first|exact l|(rw[ha200.slLen];exact l)),_,(ha200.rdI i d.sub),?_⟩;refine zq0 hp (fun t hp=>?_) fun t hp=>?_
   ·obtain rfl:=oi hp;exact hq _ d.ext'
   refine gdi hp fun u hp=>?_;exact y _ _ _ g d hp
 exact hgo _ _ _ _ F z hp
theorem zxD{p:Pg}{ca100 ca102 ca103:C}{m f:M}{Q:V->M->Prop}{rz:Bool}(hS:Pre f m)(ha100:Sl f ca100 p.Losses)(ha102:Sl f ca102 p.Treaties)(ha103:Sl f ca103 p.Reports)(hp:zuE p=some rz)(hq:∀m',Ext m m'->Q (.c (.bool rz)) m'):Wc prog tbl 13 [.agg 4 [ca100,Il p.Reserve,ca102,ca103]] m Q:=by
 have D:=hS.st;obtain⟨F,_⟩:=zsk;refine w13 ?_;unfold zuE at hp;intro I h;obtain⟨g,a,y,d⟩:=D.blk h F 1;refine⟨trivial,_,d.bk.rc rfl,ha100.isSl,?_⟩
 try rw[ha100.slLen]
 refine ifd hp (fun i hp=>?_) fun i hp=>?_; rotate_left
 ·obtain rfl:=oi hp;exact hq _ a.ext'
 refine⟨trivial,_,d.bk.rc rfl,ha102.isSl,?_⟩
 try rw[ha102.slLen]
 refine ifd hp (fun j hp=>?_) fun j hp=>?_; rotate_left
 ·obtain rfl:=oi hp;exact hq _ a.ext'
 refine⟨trivial,_,d.bk.rc rfl,ha103.isSl,?_⟩
 try rw[ha103.slLen]
 refine ifd hp (fun l hp=>?_) fun l hp=>?_; rotate_left
 ·obtain rfl:=oi hp;exact hq _ a.ext'
 refine⟨_,_,_,_,d.bk.ra,?_⟩;obtain⟨z,n,hp⟩:=zqq hp;refine zvD (p:=p) a.pre ha100 ha102 ha103 n fun J o=>?_;obtain⟨e,q⟩:=a.call o g;have r:=d.k q;refine⟨_,rfl,?_⟩;refine zq0 hp (fun s hp=>?_) fun s hp=>?_
 ·obtain rfl:=oi hp;exact hq _ e.ext'
 refine⟨_,_,_,_,r.bk.ra,?_⟩;obtain⟨A,t,hp⟩:=zqq hp;refine zvC (p:=p) e.pre ha100 ha102 ha103 t fun G u=>?_;obtain⟨w,B⟩:=e.call u g;refine⟨_,rfl,?_⟩;obtain rfl:=oi hp;exact hq _ w.ext'
theorem zxE{low:Int}{high:Int}{m f:M}{Q:V->M->Prop}{rz:Rg}(hS:Pre f m)(hp:zuF low high=some rz)(hq:∀m',Ext m m'->Q (.agg 2 [Il rz.Lo,Il rz.Hi]) m'):Wc prog tbl 56 [.c (Il low),.c (Il high)] m Q:=by
 have p:=hS.st;obtain⟨q,_⟩:=zsk;refine w56 ?_;unfold zuF at hp;intro r a;obtain⟨l,d,n,e⟩:=p.blk a q 1;obtain⟨g,h,i,o,j⟩:=e.sto d [Il low,Il high];refine⟨g,h,?_⟩;refine⟨_,_,j.bk.ra,?_⟩;obtain rfl:=oi hp;exact hq _ i.ext'
theorem zxF{reports:List Rpt}{ca100:C}{m f:M}{Q:V->M->Prop}{rz:Pg}(hS:Pre f m)(ha100:Sl f ca100 reports)(hp:zuG reports=some rz)(hq:∀m' f' c0 c2 c3,Grw m f m' f'->Sl f' c0 rz.Losses->Sl f' c2 rz.Treaties->Sl f' c3 rz.Reports->Q (.agg 4 [c0,Il rz.Reserve,c2,c3]) m'):Wc prog tbl 53 [.c ca100] m Q:=by
 have S0:=hS.st;obtain⟨τ0,_⟩:=zsk;refine w53 ?_;unfold zuG at hp;intro m0 t;obtain⟨e,h,qa,u⟩:=S0.blk t τ0 1;obtain⟨a,w,hp⟩:=zqq hp;refine zxE (low:=(100:Int)) (high:=(120:Int)) h.pre  w fun m2 y=>?_;obtain⟨i,z⟩:=h.call y e;have A:=u.k z;refine⟨_,_,rfl,?_⟩;obtain⟨d,B,hp⟩:=zqq hp;refine zxE (low:=(300:Int)) (high:=(300:Int)) i.pre  B fun m6 D=>?_;obtain⟨F,G⟩:=i.call D e;have I:=A.k G;refine⟨_,_,rfl,?_⟩;intro m9 J;obtain⟨N,O,P,S⟩:=F.blk J e 2;have T:=I.k P;intro va Y;obtain⟨sa,Z,j,aa⟩:=O.blk Y N 3;have ba:=T.k j;have ca:=S.k j;obtain⟨da,ea,fa,n,ga⟩:=ba.sto Z [(C.sl m6.nxt 0 2 0 (Option.some 2)),(Il (200:Int)),(C.sl m9.nxt 0 3 0 (Option.some 3)),ca100];have ha:=ca.k n;have ia:=aa.k n;refine⟨da,ea,?_⟩;refine⟨_,_,_,_,ga.bk.ra,?_⟩;obtain⟨o,ja,p,r⟩:=ha.freeze fa;have ka:=ia.k p;have la:Sl o (C.sl m6.nxt 0 2 0 (Option.some 2)) ([a,d]:List Rg):=Bk.sl (α:=Rg) (l:=([a,d]:List Rg)) r (show Cat (α:=Rg) o [Il a.Lo,Il a.Hi,Il d.Lo,Il d.Hi] ([a,d]:List Rg) from ⟨[Il a.Lo,Il a.Hi],_,rfl,rfl,⟨[Il d.Lo,Il d.Hi],_,rfl,rfl,rfl⟩⟩) rfl rfl _;obtain⟨g,ma,q,s⟩:=ka.freeze ja;have na:Sl g (C.sl m9.nxt 0 3 0 (Option.some 3)) ([({ Kind:=(0:Int),Part:=(25:Int),Above:=(0:Int),Most:=(0:Int),Times:=(0:Int),Price:=(50:Int),Of:=(-1:Int) }:Ty),({ Kind:=(1:Int),Part:=(0:Int),Above:=(50:Int),Most:=(100:Int),Times:=(0:Int),Price:=(30:Int),Of:=(-1:Int) }:Ty),({ Kind:=(1:Int),Part:=(0:Int),Above:=(20:Int),Most:=(40:Int),Times:=(1:Int),Price:=(5:Int),Of:=(0:Int) }:Ty)]:List Ty):=Bk.sl (α:=Ty) (l:=([({ Kind:=(0:Int),Part:=(25:Int),Above:=(0:Int),Most:=(0:Int),Times:=(0:Int),Price:=(50:Int),Of:=(-1:Int) }:Ty),({ Kind:=(1:Int),Part:=(0:Int),Above:=(50:Int),Most:=(100:Int),Times:=(0:Int),Price:=(30:Int),Of:=(-1:Int) }:Ty),({ Kind:=(1:Int),Part:=(0:Int),Above:=(20:Int),Most:=(40:Int),Times:=(1:Int),Price:=(5:Int),Of:=(0:Int) }:Ty)]:List Ty)) s (show Cat (α:=Ty) g [Il 0,(Il (25:Int)),Il 0,Il 0,Il 0,(Il (50:Int)),(Il (-1:Int)),(Il (1:Int)),Il 0,(Il (50:Int)),(Il (100:Int)),Il 0,(Il (30:Int)),(Il (-1:Int)),(Il (1:Int)),Il 0,(Il (20:Int)),(Il (40:Int)),(Il (1:Int)),(Il (5:Int)),Il 0] ([({ Kind:=(0:Int),Part:=(25:Int),Above:=(0:Int),Most:=(0:Int),Times:=(0:Int),Price:=(50:Int),Of:=(-1:Int) }:Ty),({ Kind:=(1:Int),Part:=(0:Int),Above:=(50:Int),Most:=(100:Int),Times:=(0:Int),Price:=(30:Int),Of:=(-1:Int) }:Ty),({ Kind:=(1:Int),Part:=(0:Int),Above:=(20:Int),Most:=(40:Int),Times:=(1:Int),Price:=(5:Int),Of:=(0:Int) }:Ty)]:List Ty) from ⟨[Il 0,(Il (25:Int)),Il 0,Il 0,Il 0,(Il (50:Int)),(Il (-1:Int))],_,rfl,rfl,⟨[(Il (1:Int)),Il 0,(Il (50:Int)),(Il (100:Int)),Il 0,(Il (30:Int)),(Il (-1:Int))],_,rfl,rfl,⟨[(Il (1:Int)),Il 0,(Il (20:Int)),(Il (40:Int)),(Il (1:Int)),(Il (5:Int)),Il 0],_,rfl,rfl,rfl⟩⟩⟩) rfl rfl _
 obtain rfl:=oi hp;exact hq _ g (C.sl m6.nxt 0 2 0 (Option.some 2)) (C.sl m9.nxt 0 3 0 (Option.some 3)) ca100 ma.grw (la.sub q.fs) na (ha100.sub (Sub.trans p.fs q.fs))
theorem zxG{m f:M}{Q:V->M->Prop}{rz:List Rpt}(hS:Pre f m)(hp:zuH=some rz)(hq:∀m' f' c0,Grw m f m' f'->Sl f' c0 rz->Q (.c c0) m'):Wc prog tbl 55 [] m Q:=by
 have y:=hS.st;obtain⟨w,_⟩:=zsk;refine w55 ?_;unfold zuH at hp;obtain⟨a,i,hp⟩:=zqq hp;refine zxE (low:=(103:Int)) (high:=(110:Int)) y.pre  i fun I j=>?_;obtain⟨g,A⟩:=y.call j w;refine⟨_,_,rfl,?_⟩;obtain⟨d,n,hp⟩:=zqq hp;refine zxE (low:=(45:Int)) (high:=(46:Int)) g.pre  n fun z o=>?_;obtain⟨p,B⟩:=g.call o w;refine⟨_,_,rfl,?_⟩;intro J q;obtain⟨D,r,F,s⟩:=p.blk q w 1;obtain⟨e,t,G,h⟩:=s.freeze r;have u:Sl e (C.sl z.nxt 0 2 0 (Option.some 2)) ([({ Treaty:=(0:Int),Paid:=a }:Rpt),({ Treaty:=(2:Int),Paid:=d }:Rpt)]:List Rpt):=Bk.sl (α:=Rpt) (l:=([({ Treaty:=(0:Int),Paid:=a }:Rpt),({ Treaty:=(2:Int),Paid:=d }:Rpt)]:List Rpt)) h (show Cat (α:=Rpt) e [Il 0,Il a.Lo,Il a.Hi,(Il (2:Int)),Il d.Lo,Il d.Hi] ([({ Treaty:=(0:Int),Paid:=a }:Rpt),({ Treaty:=(2:Int),Paid:=d }:Rpt)]:List Rpt) from ⟨[Il 0,Il a.Lo,Il a.Hi],_,rfl,rfl,⟨[(Il (2:Int)),Il d.Lo,Il d.Hi],_,rfl,rfl,rfl⟩⟩) rfl rfl _;obtain rfl:=oi hp;exact hq _ e (C.sl z.nxt 0 2 0 (Option.some 2)) t.grw u
theorem zxH{n:Int}{m f:M}{Q:V->M->Prop}{rz:Pg}(hS:Pre f m)(hp:zuI n=some rz)(hq:∀m' f' c0 c2 c3,Grw m f m' f'->Sl f' c0 rz.Losses->Sl f' c2 rz.Treaties->Sl f' c3 rz.Reports->Q (.agg 4 [c0,Il rz.Reserve,c2,c3]) m'):Wc prog tbl 54 [.c (Il n)] m Q:=by
 have S0:=hS.st;obtain⟨τ0,_⟩:=zsk;refine w54 ?_;unfold zuI at hp;intro m0 j;obtain⟨h,i,ga,l⟩:=S0.blk j τ0 1;obtain⟨o,p,hp⟩:=zqq hp;refine zxF (reports:=[]) i.pre (Sl.nil _) p fun m2 q a d e r s t u=>?_;obtain⟨w,y⟩:=i.callG r h;have z:=l.k y;refine⟨_,_,_,_,rfl,?_⟩;intro m7 A;obtain⟨ha,B,D,F⟩:=w.blk A h 2;have G:=z.k D;obtain⟨I,J,N,O,P⟩:=F.sto B [a,Il o.Reserve,d,e];have S:=G.k O;refine⟨I,J,?_⟩;refine⟨trivial,?_⟩;obtain⟨T,Y,Z,aa,g⟩:=P.sto1 N 1 (Il n) (by simp) rfl
 replace g:Lb _ _ _ _ _ _ _ [a,Il n,d,e]:=g
 have ba:=S.k aa;refine⟨T,Y,?_⟩;refine⟨_,_,_,_,g.bk.ra,?_⟩;obtain⟨ca,da,ea,ia,fa⟩:=ba.sto Z [a,Il n,d,e];refine⟨ca,da,?_⟩;refine⟨_,_,_,_,fa.bk.ra,?_⟩;obtain rfl:=oi hp;exact hq _ q a d e ea.grw s t u
theorem zxI{m f:M}{Q:V->M->Prop}{rz:Bool}(hS:Pre f m)(hp:zuJ=some rz)(hq:∀m',Ext m m'->Q (.c (.bool rz)) m'):Wc prog tbl 14 [] m Q:=by
 have S0:=hS.st;obtain⟨τ0,_⟩:=zsk;refine w14 ?_;unfold zuJ at hp;obtain⟨cb,db,hp⟩:=zqq hp;refine zxF (reports:=[]) S0.pre (Sl.nil _) db fun m1 Sf Tf Uf Vf eb fb gb hb=>?_;obtain⟨ib,Wf⟩:=S0.callG eb τ0;refine⟨_,_,_,_,rfl,?_⟩;intro m6 jb;obtain⟨z,kb,Xf,mb⟩:=ib.blk jb τ0 1;obtain⟨ea,fa,N,Va⟩:=mb.freeze kb;have ob:Sl ea (C.sl m1.nxt 0 2 0 (Option.some 2)) ([(100:Int),(300:Int)]:List Int):=Bk.sl (α:=Int) (l:=([(100:Int),(300:Int)]:List Int)) Va (show Cat (α:=Int) ea [(Il (100:Int)),(Il (300:Int))] ([(100:Int),(300:Int)]:List Int) from ⟨[(Il (100:Int))],_,rfl,rfl,⟨[(Il (300:Int))],_,rfl,rfl,rfl⟩⟩) rfl rfl _;obtain⟨pb,qb,hp⟩:=zqq hp;refine zxf (p:=cb) (losses:=([(100:Int),(300:Int)]:List Int)) fa.pre (fb.sub N.fs) (gb.sub N.fs) (hb.sub N.fs) ob qb fun m8 Yf Zf rb sb=>?_;obtain⟨ga,ag⟩:=fa.callG rb z;refine⟨_,_,_,rfl,?_⟩;obtain⟨tb,ub,hp⟩:=zqq hp;refine zxF (reports:=[]) ga.pre (Sl.nil _) ub fun Ah bg cg dg eg vb wb xb yb=>?_;obtain⟨ha,zb⟩:=ga.callG vb z;refine⟨_,_,_,_,rfl,?_⟩;obtain⟨fg,Ab,hp⟩:=zqq hp;refine zxm (p:=tb) ha.pre wb xb yb Ab fun Bh gg hg Bb A=>?_;obtain⟨ia,Cb⟩:=ha.callG Bb z;refine⟨_,_,rfl,?_⟩;obtain⟨Db,Eb,hp⟩:=zqq hp;refine zxF (reports:=[]) ia.pre (Sl.nil _) Eb fun Ch ig jg kg lg Fb Gb Hb Ib=>?_;obtain⟨ja,w⟩:=ia.callG Fb z;refine⟨_,_,_,_,rfl,?_⟩;obtain⟨ka,Jb,hp⟩:=zqq hp;refine zxn (p:=Db) ja.pre Gb Hb Ib Jb fun Dh Kb=>?_;obtain⟨Mb,mg⟩:=ja.call Kb z;refine⟨_,_,_,rfl,?_⟩;intro Eh Nb;obtain⟨la,Ob,ng,Pb⟩:=Mb.blk Nb z 2;obtain⟨Qb,Rb,ma,og,Sb⟩:=Pb.sto Ob [Il ka.1.Lo,Il ka.1.Hi]
 refine⟨Qb,Rb,?_⟩;obtain⟨Tb,Ub,hp⟩:=zqq hp;refine zxF (reports:=[]) ma.pre (Sl.nil _) Ub fun Pf pg qg rg sg Vb Wb Xb Yb=>?_;obtain⟨Zb,t⟩:=ma.callG Vb la;have ac:=Sb.k t;refine⟨_,_,_,_,rfl,?_⟩;intro Fh bc;obtain⟨na,cc,dc,ec⟩:=Zb.blk bc la 3;have fc:=ac.k dc;obtain⟨oa,pa,e,Wa⟩:=ec.freeze cc;have gc:=fc.k e;have hc:Sl oa (C.sl Pf.nxt 0 1 0 (Option.some 1)) ([(1:Int)]:List Int):=Bk.sl (α:=Int) (l:=([(1:Int)]:List Int)) Wa (show Cat (α:=Int) oa [(Il (1:Int))] ([(1:Int)]:List Int) from ⟨[(Il (1:Int))],_,rfl,rfl,rfl⟩) rfl rfl _;obtain⟨qa,ic,hp⟩:=zqq hp;refine zxq (p:=Tb) (set:=([(1:Int)]:List Int)) pa.pre (Wb.sub e.fs) (Xb.sub e.fs) (Yb.sub e.fs) hc ic fun Gh jc=>?_;obtain⟨kc,nc⟩:=pa.call jc na;have pc:=gc.k nc;refine⟨_,_,_,rfl,?_⟩;intro Hh qc;obtain⟨q,sc,tc,uc⟩:=kc.blk qc na 4;have vc:=pc.k tc;obtain⟨wc,xc,sa,yc,zc⟩:=uc.sto sc [Il qa.1.Lo,Il qa.1.Hi];have Ac:=vc.k yc;refine⟨wc,xc,?_⟩;obtain⟨Bc,Cc,hp⟩:=zqq hp;refine zxH (n:=(300:Int)) sa.pre  Cc fun Ih tg ug vg xg Dc Ec Fc Gc=>?_;obtain⟨ta,r⟩:=sa.callG Dc q;have Hc:=Ac.k r;have Ic:=zc.k r;refine⟨_,_,_,_,rfl,?_⟩;obtain⟨ua,Jc,hp⟩:=zqq hp;refine zxs (p:=Bc) ta.pre Ec Fc Gc Jc fun Jh zg Ag Kc va=>?_;obtain⟨wa,s⟩:=ta.callG Kc q;have Nc:=Hc.k s;have Pc:=Ic.k s;refine⟨_,_,_,rfl,?_⟩;obtain⟨Qc,Rc,hp⟩:=zqq hp;refine zxG wa.pre  Rc fun Kh Bg Cg Tc Uc=>?_;obtain⟨xa,g⟩:=wa.callG Tc q;have Vc:=Nc.k g;have Xc:=Pc.k g;refine⟨_,rfl,?_⟩;obtain⟨Yc,Zc,hp⟩:=zqq hp;refine zxF (reports:=Qc) xa.pre Uc Zc fun Lh Dg Eg Fg Gg ad bd cd dd=>?_
 obtain⟨ya,h⟩:=xa.callG ad q;have ed:=Vc.k h;have fd:=Xc.k h;refine⟨_,_,_,_,rfl,?_⟩;obtain⟨Hg,hd,hp⟩:=zqq hp;refine zxw (p:=Yc) ya.pre bd cd dd hd fun Mh id=>?_;obtain⟨za,Aa⟩:=ya.call id q;have jd:=ed.k Aa;have kd:=fd.k Aa;refine⟨_,_,rfl,?_⟩;obtain⟨ld,md,hp⟩:=zqq hp;refine zxG za.pre  md fun Nh Ig Jg nd od=>?_;obtain⟨Ba,i⟩:=za.callG nd q;have pd:=jd.k i;have qd:=kd.k i;refine⟨_,rfl,?_⟩;obtain⟨sd,td,hp⟩:=zqq hp;refine zxF (reports:=ld) Ba.pre od td fun Oh Kg Lg Mg Ng ud vd xd yd=>?_;obtain⟨Ca,j⟩:=Ba.callG ud q;have zd:=pd.k j;have Ad:=qd.k j;refine⟨_,_,_,_,rfl,?_⟩;obtain⟨Cd,Dd,hp⟩:=zqq hp;refine zxy (p:=sd) Ca.pre vd xd yd Dd fun Qf Og Qg Ed Fd=>?_;obtain⟨Da,o⟩:=Ca.callG Ed q;have Gd:=zd.k o;have Hd:=Ad.k o;refine⟨_,_,rfl,?_⟩;refine ifd hp (fun Id hp=>?_) fun Id hp=>?_; rotate_left
 ·obtain rfl:=oi hp;exact hq _ Da.ext'
 intro Ph Jd;obtain⟨u,Ld,Ea,Md⟩:=Da.blk Jd q 5;have Nd:=Gd.k Ea;have Od:=Hd.k Ea;obtain⟨Fa,Ga,d,Xa⟩:=Md.freeze Ld;have Pd:=Nd.k d;have Qd:=Od.k d;have Rd:Sl Fa (C.sl Qf.nxt 0 3 0 (Option.some 3)) ([(100:Int),(100:Int),(45:Int)]:List Int):=Bk.sl (α:=Int) (l:=([(100:Int),(100:Int),(45:Int)]:List Int)) Xa (show Cat (α:=Int) Fa [(Il (100:Int)),(Il (100:Int)),(Il (45:Int))] ([(100:Int),(100:Int),(45:Int)]:List Int) from ⟨[(Il (100:Int))],_,rfl,rfl,⟨[(Il (100:Int))],_,rfl,rfl,⟨[(Il (45:Int))],_,rfl,rfl,rfl⟩⟩⟩) rfl rfl _;obtain⟨Sg,Sd,hp⟩:=zqq hp;refine zxC (a:=pb.1) (b:=([(100:Int),(100:Int),(45:Int)]:List Int)) Ga.pre (sb.sub (Sub.trans (Sub.trans (Sub.trans (Sub.trans (Sub.trans (Sub.trans (Sub.trans (Sub.trans (Sub.trans (Sub.trans (Sub.trans (Sub.trans zb.fs Cb.fs) w.fs) t.fs) e.fs) r.fs) s.fs) g.fs) h.fs) i.fs) j.fs) o.fs) d.fs)) Rd Sd fun Qh Td=>?_;obtain⟨y,Ha⟩:=Ga.call Td u;have Ud:=Pd.k Ha;have Vd:=Qd.k Ha;refine⟨_,rfl,?_⟩;refine zq1 hp (fun Wd hp=>?_) fun Wd hp=>?_; rotate_left
 ·obtain rfl:=oi hp;exact hq _ y.ext'
 refine ifd hp (fun Xd hp=>?_) fun Xd hp=>?_; rotate_left
 ·obtain rfl:=oi hp;exact hq _ y.ext'
 refine ifd hp (fun Yd hp=>?_) fun Yd hp=>?_; rotate_left
 ·obtain rfl:=oi hp;exact hq _ y.ext'
 refine⟨A.isSl,?_⟩
 try rw[A.slLen]
 refine ifd hp (fun Zd hp=>?_) fun Zd hp=>?_; rotate_left
 ·obtain rfl:=oi hp;exact hq _ y.ext'
 obtain⟨Tg,O,hp⟩:=zqq hp;obtain⟨Rf,Ya,ca,O⟩:=zqk O;obtain⟨_,P⟩:=zss A O;refine⟨Rf,Ya,(by first|exact ca|(rw[A.slLen];exact ca)),_,_,_,_,(P _ (Sub.trans (Sub.trans (Sub.trans (Sub.trans (Sub.trans (Sub.trans (Sub.trans (Sub.trans (Sub.trans (Sub.trans (Sub.trans w.fs t.fs) e.fs) r.fs) s.fs) g.fs) h.fs) i.fs) j.fs) o.fs) d.fs) y.sub)).1,?_⟩;obtain⟨Ug,ae,hp⟩:=zqq hp;refine zxE (low:=(100:Int)) (high:=(105:Int)) y.pre  ae fun Rh be=>?_;obtain⟨S,Ia⟩:=y.call be u;have ce:=Ud.k Ia;have de:=Vd.k Ia;refine⟨_,_,rfl,(P _ (Sub.trans (Sub.trans (Sub.trans (Sub.trans (Sub.trans (Sub.trans (Sub.trans (Sub.trans (Sub.trans (Sub.trans (Sub.trans w.fs t.fs) e.fs) r.fs) s.fs) g.fs) h.fs) i.fs) j.fs) o.fs) d.fs) S.sub)).1,?_⟩;obtain⟨Vg,ee,hp⟩:=zqq hp;refine zxE (low:=(55:Int)) (high:=(55:Int)) S.pre  ee fun qh fe=>?_;obtain⟨B,Ja⟩:=S.call fe u;have ge:=ce.k Ja;have he:=de.k Ja;refine⟨_,_,rfl,(P _ (Sub.trans (Sub.trans (Sub.trans (Sub.trans (Sub.trans (Sub.trans (Sub.trans (Sub.trans (Sub.trans (Sub.trans (Sub.trans w.fs t.fs) e.fs) r.fs) s.fs) g.fs) h.fs) i.fs) j.fs) o.fs) d.fs) B.sub)).1,?_⟩;refine gdi hp fun ie hp=>?_;refine gdi hp fun je hp=>?_;refine gdi hp fun ke hp=>?_;refine gdi hp fun me hp=>?_;refine gdi hp fun oe hp=>?_;refine gdi hp fun pe hp=>?_;refine gdi hp fun qe hp=>?_;refine gdi hp fun re hp=>?_;refine zq1 hp (fun se hp=>?_) fun se hp=>?_; rotate_left
 ·obtain rfl:=oi hp;exact hq _ B.ext'
 obtain⟨Xg,T,hp⟩:=zqq hp;obtain⟨Kf,Za,da,T⟩:=zqk T;obtain⟨_,Y⟩:=zss A T;refine⟨Kf,Za,(by first|exact da|(rw[A.slLen];exact da)),_,_,_,_,(Y _ (Sub.trans (Sub.trans (Sub.trans (Sub.trans (Sub.trans (Sub.trans (Sub.trans (Sub.trans (Sub.trans (Sub.trans (Sub.trans w.fs t.fs) e.fs) r.fs) s.fs) g.fs) h.fs) i.fs) j.fs) o.fs) d.fs) B.sub)).1,?_⟩;obtain⟨Zg,te,hp⟩:=zqq hp;refine zxE (low:=(45:Int)) (high:=(50:Int)) B.pre  te fun rh ue=>?_;obtain⟨Z,Ka⟩:=B.call ue u;have ve:=ge.k Ka;have we:=he.k Ka;refine⟨_,_,rfl,(Y _ (Sub.trans (Sub.trans (Sub.trans (Sub.trans (Sub.trans (Sub.trans (Sub.trans (Sub.trans (Sub.trans (Sub.trans (Sub.trans w.fs t.fs) e.fs) r.fs) s.fs) g.fs) h.fs) i.fs) j.fs) o.fs) d.fs) Z.sub)).1,?_⟩;obtain⟨ah,xe,hp⟩:=zqq hp;refine zxE (low:=(45:Int)) (high:=(50:Int)) Z.pre  xe fun th ye=>?_;obtain⟨D,La⟩:=Z.call ye u;have Ma:=ve.k La;have ze:=we.k La;refine⟨_,_,rfl,(Y _ (Sub.trans (Sub.trans (Sub.trans (Sub.trans (Sub.trans (Sub.trans (Sub.trans (Sub.trans (Sub.trans (Sub.trans (Sub.trans w.fs t.fs) e.fs) r.fs) s.fs) g.fs) h.fs) i.fs) j.fs) o.fs) d.fs) D.sub)).1,?_⟩;refine gdi hp fun Ae hp=>?_;refine gdi hp fun Be hp=>?_;refine gdi hp fun Ce hp=>?_;refine gdi hp fun De hp=>?_;refine gdi hp fun Ee hp=>?_;refine gdi hp fun Fe hp=>?_;refine gdi hp fun Ge hp=>?_;refine gdi hp fun He hp=>?_;refine zq1 hp (fun Ie hp=>?_) fun Ie hp=>?_; rotate_left
 ·obtain rfl:=oi hp;exact hq _ D.ext'
 refine ifd hp (fun Je hp=>?_) fun Je hp=>?_; rotate_left
 ·obtain rfl:=oi hp;exact hq _ D.ext'
 refine⟨_,_,Ma.bk.ra,?_⟩;obtain⟨bh,Ke,hp⟩:=zqq hp;refine zxE (low:=(200:Int)) (high:=(215:Int)) D.pre  Ke fun uh Me=>?_;obtain⟨G,Na⟩:=D.call Me u;have Ne:=Ma.k Na;have Oa:=ze.k Na;refine⟨_,_,rfl,(Ne.bk.ra),?_⟩;refine gdi hp fun Oe hp=>?_;refine gdi hp fun Pe hp=>?_;refine gdi hp fun Qe hp=>?_;refine gdi hp fun Re hp=>?_;refine zq1 hp (fun Se hp=>?_) fun Se hp=>?_; rotate_left
 ·obtain rfl:=oi hp;exact hq _ G.ext'
 refine ifd hp (fun Te hp=>?_) fun Te hp=>?_; rotate_left
 ·obtain rfl:=oi hp;exact hq _ G.ext'
 refine⟨_,_,Oa.bk.ra,?_⟩;obtain⟨ch,Ue,hp⟩:=zqq hp;refine zxE (low:=(300:Int)) (high:=(320:Int)) G.pre  Ue fun Lf Ve=>?_;obtain⟨aa,We⟩:=G.call Ve u;have Xe:=Oa.k We;refine⟨_,_,rfl,(Xe.bk.ra),?_⟩;refine gdi hp fun Ye hp=>?_;refine gdi hp fun Ze hp=>?_;refine gdi hp fun af hp=>?_;refine gdi hp fun bf hp=>?_;refine zq1 hp (fun cf hp=>?_) fun cf hp=>?_; rotate_left
 ·obtain rfl:=oi hp;exact hq _ aa.ext'
 refine ifd hp (fun df hp=>?_) fun df hp=>?_; rotate_left
 ·obtain rfl:=oi hp;exact hq _ aa.ext'
 intro vh ef;obtain⟨I,gf,dh,hf⟩:=aa.blk ef u 6;obtain⟨Pa,Qa,ba,ab⟩:=hf.freeze gf;have jf:Sl Pa (C.sl Lf.nxt 0 2 0 (Option.some 2)) ([(0:Int),(1:Int)]:List Int):=Bk.sl (α:=Int) (l:=([(0:Int),(1:Int)]:List Int)) ab (show Cat (α:=Int) Pa [Il 0,(Il (1:Int))] ([(0:Int),(1:Int)]:List Int) from ⟨[Il 0],_,rfl,rfl,⟨[(Il (1:Int))],_,rfl,rfl,rfl⟩⟩) rfl rfl _;obtain⟨eh,kf,hp⟩:=zqq hp;refine zxC (a:=ua.1) (b:=([(0:Int),(1:Int)]:List Int)) Qa.pre (va.sub (Sub.trans (Sub.trans (Sub.trans (Sub.trans (Sub.trans (Sub.trans g.fs h.fs) i.fs) j.fs) o.fs) d.fs) ba.fs)) jf kf fun wh lf=>?_;obtain⟨J,fh⟩:=Qa.call lf I;refine⟨_,rfl,?_⟩;refine zq1 hp (fun mf hp=>?_) fun mf hp=>?_; rotate_left
 ·obtain rfl:=oi hp;exact hq _ J.ext'
 refine ifd hp (fun nf hp=>?_) fun nf hp=>?_; rotate_left
 ·obtain rfl:=oi hp;exact hq _ J.ext'
 obtain⟨pf,qf,hp⟩:=zqq hp;refine zxH (n:=(300:Int)) J.pre  qf fun xh gh hh ih jh rf sf tf uf=>?_;obtain⟨Ra,Sa⟩:=J.callG rf I;refine⟨_,_,_,_,rfl,?_⟩;obtain⟨kh,vf,hp⟩:=zqq hp;refine zxt (p:=pf) (set:=ua.1) (price:=(80:Int)) Ra.pre sf tf uf (va.sub (Sub.trans (Sub.trans (Sub.trans (Sub.trans (Sub.trans (Sub.trans (Sub.trans g.fs h.fs) i.fs) j.fs) o.fs) d.fs) ba.fs) Sa.fs)) vf fun Mf wf=>?_;obtain⟨F,lh⟩:=Ra.call wf I;refine⟨_,rfl,?_⟩;refine zq1 hp (fun xf hp=>?_) fun xf hp=>?_; rotate_left
 ·obtain rfl:=oi hp;exact hq _ F.ext'
 refine ifd hp (fun yf hp=>?_) fun yf hp=>?_; rotate_left
 ·obtain rfl:=oi hp;exact hq _ F.ext'
 refine ifd hp (fun zf hp=>?_) fun zf hp=>?_; rotate_left
 ·obtain rfl:=oi hp;exact hq _ F.ext'
 refine ifd hp (fun Af hp=>?_) fun Af hp=>?_; rotate_left
 ·obtain rfl:=oi hp;exact hq _ F.ext'
 intro yh Bf;obtain⟨Cf,Df,mh,Ef⟩:=F.blk Bf I 7;obtain⟨Ta,Ua,Ff,bb⟩:=Ef.freeze Df;have Gf:Sl Ta (C.sl Mf.nxt 0 1 0 (Option.some 1)) ([(0:Int)]:List Int):=Bk.sl (α:=Int) (l:=([(0:Int)]:List Int)) bb (show Cat (α:=Int) Ta [Il 0] ([(0:Int)]:List Int) from ⟨[Il 0],_,rfl,rfl,rfl⟩) rfl rfl _;obtain⟨nh,Hf,hp⟩:=zqq hp;refine zxC (a:=Cd.1) (b:=([(0:Int)]:List Int)) Ua.pre (Fd.sub (Sub.trans (Sub.trans (Sub.trans d.fs ba.fs) Sa.fs) Ff.fs)) Gf Hf fun zh If=>?_;obtain⟨Jf,oh⟩:=Ua.call If Cf;refine⟨_,rfl,?_⟩;obtain rfl:=oi hp;exact hq _ Jf.ext'
theorem zxJ{p:Pg}{ca100 ca102 ca103:C}{m f:M}{Q:V->M->Prop}{rz:Bool}(hS:Pre f m)(ha100:Sl f ca100 p.Losses)(ha102:Sl f ca102 p.Treaties)(ha103:Sl f ca103 p.Reports)(hp:zuK p=some rz)(hq:∀m',Ext m m'->Q (.c (.bool rz)) m'):Wc prog tbl 43 [.agg 4 [ca100,Il p.Reserve,ca102,ca103]] m Q:=by
 have z:=hS.st;obtain⟨A,_⟩:=zsk;refine w43 ?_;unfold zuK at hp;intro D h;obtain⟨d,e,t,g⟩:=z.blk h A 1;refine⟨_,_,_,_,g.bk.ra,?_⟩;obtain⟨u,i,hp⟩:=zqq hp;refine zxD (p:=p) e.pre ha100 ha102 ha103 i fun F j=>?_;obtain⟨a,l⟩:=e.call j d;have n:=g.k l;refine⟨_,rfl,?_⟩;refine zq1 hp (fun o hp=>?_) fun o hp=>?_; rotate_left
 ·obtain rfl:=oi hp;exact hq _ a.ext'
 refine⟨_,_,_,_,n.bk.ra,?_⟩;obtain⟨w,q,hp⟩:=zqq hp;refine zvD (p:=p) a.pre ha100 ha102 ha103 q fun B r=>?_;obtain⟨s,y⟩:=a.call r d;refine⟨_,rfl,?_⟩;obtain rfl:=oi hp;exact hq _ s.ext'
set_option maxHeartbeats 4000000 in
theorem zxK{p:Pg}{bits:Int}{by_:Int}{ca100 ca102 ca103:C}{m f:M}{Q:V->M->Prop}{rz:Bool}(hS:Pre f m)(ha100:Sl f ca100 p.Losses)(ha102:Sl f ca102 p.Treaties)(ha103:Sl f ca103 p.Reports)(hp:zuL p bits by_=some rz)(hq:∀m',Ext m m'->Q (.c (.bool rz)) m'):Wc prog tbl 12 [.agg 4 [ca100,Il p.Reserve,ca102,ca103],.c (.int .u8 bits),.c (.int .u16 by_)] m Q:=by
 have S0:=hS.st;obtain⟨τ0,_⟩:=zsk;refine w12 ?_;unfold zuL at hp;intro m0 Ta;obtain⟨o,ca,jg,da⟩:=S0.blk Ta τ0 1;refine⟨_,_,_,_,da.bk.ra,?_⟩;obtain⟨kg,Ua,hp⟩:=zqq hp;refine zxJ (p:=p) ca.pre ha100 ha102 ha103 Ua fun m6 Va=>?_;obtain⟨N,Wa⟩:=ca.call Va o;have ea:=da.k Wa;refine⟨_,rfl,?_⟩;refine zq2 hp (fun Xa hp=>?_) fun Xa hp=>?_
 ·obtain⟨lg,Ya,hp⟩:=zqq hp;refine zxI N.pre  Ya fun m9 Za=>?_;obtain⟨ab,mg⟩:=N.call Za o;refine⟨_,rfl,?_⟩;obtain rfl:=oi hp;exact hq _ ab.ext'
 refine⟨_,_,_,_,ea.bk.ra,?_⟩;obtain⟨bb,cb,hp⟩:=zqq hp;refine zxB (p:=p) N.pre ha100 ha102 ha103 cb fun Fi ng og pg qg db eb fb gb=>?_;obtain⟨fa,e⟩:=N.callG db o;have hb:=ea.k e;refine⟨_,_,_,_,rfl,?_⟩;obtain⟨A,ib,hp⟩:=zqq hp;refine zxs (p:=bb) fa.pre eb fb gb ib fun Gi rg sg jb O=>?_;obtain⟨ga,g⟩:=fa.callG jb o;have ha:=hb.k g;refine⟨_,_,_,rfl,_,_,_,_,ha.bk.ra,?_⟩;obtain⟨kb,mb,hp⟩:=zqq hp;refine zvE (p:=p) ga.pre (ha100.sub (Sub.trans e.fs g.fs)) (ha102.sub (Sub.trans e.fs g.fs)) (ha103.sub (Sub.trans e.fs g.fs)) mb fun Ii ob=>?_;obtain⟨ia,pb⟩:=ga.call ob o;have qb:=ha.k pb;refine⟨_,rfl,?_⟩;refine gdi hp fun rb hp=>?_;refine gdi hp fun sb hp=>?_;refine gdi hp fun tb hp=>?_;refine gdi hp fun ub hp=>?_;refine gdi hp fun vb hp=>?_;obtain⟨ja,wb,hp⟩:=zqq hp;refine zvG (bits:=(((Nat.land (Int.toNat (zmc .i64 bits)) (Int.toNat kb)):Nat):Int)) ia.pre  wb fun Ji tg ug xb ka=>?_;obtain⟨la,d⟩:=ia.callG xb o;have ma:=qb.k d;refine⟨_,rfl,_,_,_,_,ma.bk.ra,?_⟩;obtain⟨yb,zb,hp⟩:=zqq hp;refine zxB (p:=p) la.pre (ha100.sub (Sub.trans (Sub.trans e.fs g.fs) d.fs)) (ha102.sub (Sub.trans (Sub.trans e.fs g.fs) d.fs)) (ha103.sub (Sub.trans (Sub.trans e.fs g.fs) d.fs)) zb fun Ki vg xg zg Ag Ab Bb Cb Db=>?_;obtain⟨na,h⟩:=la.callG Ab o;have Eb:=ma.k h;refine⟨_,_,_,_,rfl,?_⟩;obtain⟨Fb,Gb,hp⟩:=zqq hp;refine zxz (l:=ja) na.pre (ka.sub h.fs) Gb fun Ni Bg Cg Hb Ib=>?_;obtain⟨oa,a⟩:=na.callG Hb o;have Jb:=Eb.k a;refine⟨_,rfl,?_⟩;obtain⟨Dg,Kb,hp⟩:=zqq hp;refine zxt (p:=yb) (set:=Fb) (price:=(9999:Int)) oa.pre (Bb.sub a.fs) (Cb.sub a.fs) (Db.sub a.fs) Ib Kb fun Oi Mb=>?_
 obtain⟨pa,Nb⟩:=oa.call Mb o;have qa:=Jb.k Nb;refine⟨_,rfl,_,_,_,_,qa.bk.ra,?_⟩;obtain⟨Ob,Pb,hp⟩:=zqq hp;refine zxB (p:=p) pa.pre (ha100.sub (Sub.trans (Sub.trans (Sub.trans (Sub.trans e.fs g.fs) d.fs) h.fs) a.fs)) (ha102.sub (Sub.trans (Sub.trans (Sub.trans (Sub.trans e.fs g.fs) d.fs) h.fs) a.fs)) (ha103.sub (Sub.trans (Sub.trans (Sub.trans (Sub.trans e.fs g.fs) d.fs) h.fs) a.fs)) Pb fun Pi Eg Fg Gg Hg Qb Rb Sb Tb=>?_;obtain⟨sa,j⟩:=pa.callG Qb o;have Ub:=qa.k j;refine⟨_,_,_,_,rfl,?_⟩;obtain⟨Vb,Wb,hp⟩:=zqq hp;refine zxz (l:=ja) sa.pre (ka.sub (Sub.trans (Sub.trans h.fs a.fs) j.fs)) Wb fun Qi Ig Jg Xb Yb=>?_;obtain⟨ta,i⟩:=sa.callG Xb o;have Zb:=Ub.k i;refine⟨_,rfl,?_⟩;obtain⟨ua,ac,hp⟩:=zqq hp;refine zxq (p:=Ob) (set:=Vb) ta.pre (Rb.sub i.fs) (Sb.sub i.fs) (Tb.sub i.fs) Yb ac fun Ri bc=>?_;obtain⟨cc,dc⟩:=ta.call bc o;have ec:=Zb.k dc;refine⟨_,_,_,rfl,?_⟩;intro Si fc;obtain⟨B,gc,hc,ic⟩:=cc.blk fc o 2;have jc:=ec.k hc;obtain⟨kc,nc,n,pc,qc⟩:=ic.sto gc [Il ua.1.Lo,Il ua.1.Hi];have G:=jc.k pc;refine⟨kc,nc,?_⟩;refine zq0 hp (fun P hp=>?_) fun P hp=>?_; rotate_left
 ·refine zq3 P ?_;refine⟨trivial,_,qc.bk.rc rfl,trivial,_,G.bk.rc rfl,?_⟩;refine zq2 hp (fun sc hp=>?_) fun sc hp=>?_
  ·obtain rfl:=oi hp;exact hq _ n.ext'
  refine zq0 hp (fun tc hp=>?_) fun tc hp=>?_
  ·refine ifd hp (fun uc hp=>?_) fun uc hp=>?_; rotate_left
   ·obtain rfl:=oi hp;exact hq _ n.ext'
   refine zq2 hp (fun vc hp=>?_) fun vc hp=>?_; rotate_left
   ·obtain rfl:=oi hp;exact hq _ n.ext'
   obtain⟨Kg,wc,hp⟩:=zqq hp;refine zxI n.pre  wc fun Zh xc=>?_;obtain⟨yc,Lg⟩:=n.call xc B;refine⟨_,rfl,?_⟩;obtain rfl:=oi hp;exact hq _ yc.ext'
  refine⟨_,_,_,_,G.bk.ra,_,_,_,_,G.bk.ra,?_⟩;obtain⟨zc,Ac,hp⟩:=zqq hp;refine zvE (p:=p) n.pre (ha100.sub (Sub.trans (Sub.trans (Sub.trans (Sub.trans (Sub.trans (Sub.trans e.fs g.fs) d.fs) h.fs) a.fs) j.fs) i.fs)) (ha102.sub (Sub.trans (Sub.trans (Sub.trans (Sub.trans (Sub.trans (Sub.trans e.fs g.fs) d.fs) h.fs) a.fs) j.fs) i.fs)) (ha103.sub (Sub.trans (Sub.trans (Sub.trans (Sub.trans (Sub.trans (Sub.trans e.fs g.fs) d.fs) h.fs) a.fs) j.fs) i.fs)) Ac fun ai Bc=>?_;obtain⟨va,Cc⟩:=n.call Bc B;have wa:=G.k Cc;refine⟨_,rfl,(by rw[show zaL cmC _=true from zoX (zqt ha100.noFn (zqt rfl (zqt ha102.noFn (zqt ha103.noFn zqu))))]; exact(wa.bk.ra)),?_⟩;refine gdi hp fun Dc hp=>?_;refine gdi hp fun Ec hp=>?_;refine gdi hp fun Fc hp=>?_;refine gdi hp fun Gc hp=>?_;refine gdi hp fun Hc hp=>?_;obtain⟨Mg,Ic,hp⟩:=zqq hp;refine zvF (p:=p) (there:=(((Nat.land (Int.toNat (zmc .i64 bits)) (Int.toNat zc)):Nat):Int)) va.pre (ha100.sub (Sub.trans (Sub.trans (Sub.trans (Sub.trans (Sub.trans (Sub.trans e.fs g.fs) d.fs) h.fs) a.fs) j.fs) i.fs)) (ha102.sub (Sub.trans (Sub.trans (Sub.trans (Sub.trans (Sub.trans (Sub.trans e.fs g.fs) d.fs) h.fs) a.fs) j.fs) i.fs)) (ha103.sub (Sub.trans (Sub.trans (Sub.trans (Sub.trans (Sub.trans (Sub.trans e.fs g.fs) d.fs) h.fs) a.fs) j.fs) i.fs)) Ic fun bi Jc=>?_;obtain⟨Kc,Nc⟩:=va.call Jc B;have xa:=wa.k Nc;refine⟨_,rfl,_,_,_,_,xa.bk.ra,?_⟩;intro ci Pc;obtain⟨q,Qc,Rc,Tc⟩:=Kc.blk Pc B 4;have Uc:=xa.k Rc;obtain⟨Vc,Xc,Yc,Zc,ad⟩:=Tc.sto Qc [ca100,Il p.Reserve,ca102,ca103]
  have ya:=Uc.k Zc;refine⟨Vc,Xc,?_⟩;refine⟨trivial,_,ya.bk.rc rfl,?_⟩;refine gdi hp fun bd hp=>?_;refine gdi hp fun cd hp=>?_;refine gdi hp fun dd hp=>?_;obtain⟨ed,hp⟩:=zqr hp;refine⟨ed,trivial,?_⟩;obtain⟨fd,hd,za,id,S⟩:=ad.sto1 Yc 1 (Il (min (10000:Int) (p.Reserve+((zmc .i64 by_) % (500:Int))))) (by simp) rfl
  replace S:Lb _ _ _ _ _ _ _ [ca100,(Il (min (10000:Int) (p.Reserve+((zmc .i64 by_) % (500:Int))))),ca102,ca103]:=S
  have jd:=ya.k id;refine⟨fd,hd,?_⟩;refine⟨_,_,_,_,S.bk.ra,?_⟩;obtain⟨kd,ld,hp⟩:=zqq hp;refine zxB (p:=({ Losses:=p.Losses,Reserve:=(min (10000:Int) (p.Reserve+((zmc .i64 by_) % (500:Int)))),Treaties:=p.Treaties,Reports:=p.Reports }:Pg)) za.pre (ha100.sub (Sub.trans (Sub.trans (Sub.trans (Sub.trans (Sub.trans (Sub.trans e.fs g.fs) d.fs) h.fs) a.fs) j.fs) i.fs)) (ha102.sub (Sub.trans (Sub.trans (Sub.trans (Sub.trans (Sub.trans (Sub.trans e.fs g.fs) d.fs) h.fs) a.fs) j.fs) i.fs)) (ha103.sub (Sub.trans (Sub.trans (Sub.trans (Sub.trans (Sub.trans (Sub.trans e.fs g.fs) d.fs) h.fs) a.fs) j.fs) i.fs)) ld fun ei Ng Og Qg Sg md nd od pd=>?_;obtain⟨Aa,u⟩:=za.callG md q;have qd:=jd.k u;refine⟨_,_,_,_,rfl,?_⟩;obtain⟨Tg,sd,hp⟩:=zqq hp;refine zxs (p:=kd) Aa.pre nd od pd sd fun fi Ug Vg td Xg=>?_;obtain⟨Ba,w⟩:=Aa.callG td q;have Ca:=qd.k w;refine⟨_,_,_,rfl,_,_,_,_,Ca.bk.ra,?_⟩;obtain⟨ud,vd,hp⟩:=zqq hp;refine zxB (p:=p) Ba.pre (ha100.sub (Sub.trans (Sub.trans (Sub.trans (Sub.trans (Sub.trans (Sub.trans (Sub.trans (Sub.trans e.fs g.fs) d.fs) h.fs) a.fs) j.fs) i.fs) u.fs) w.fs)) (ha102.sub (Sub.trans (Sub.trans (Sub.trans (Sub.trans (Sub.trans (Sub.trans (Sub.trans (Sub.trans e.fs g.fs) d.fs) h.fs) a.fs) j.fs) i.fs) u.fs) w.fs)) (ha103.sub (Sub.trans (Sub.trans (Sub.trans (Sub.trans (Sub.trans (Sub.trans (Sub.trans (Sub.trans e.fs g.fs) d.fs) h.fs) a.fs) j.fs) i.fs) u.fs) w.fs)) vd fun gi Zg ah bh ch xd yd zd Ad=>?_;obtain⟨Da,I⟩:=Ba.callG xd q;have Cd:=Ca.k I;refine⟨_,_,_,_,rfl,?_⟩
  obtain⟨Dd,Ed,hp⟩:=zqq hp;refine zxz (l:=A.1) Da.pre (O.sub (Sub.trans (Sub.trans (Sub.trans (Sub.trans (Sub.trans (Sub.trans (Sub.trans d.fs h.fs) a.fs) j.fs) i.fs) u.fs) w.fs) I.fs)) Ed fun hi dh eh Fd Gd=>?_;obtain⟨Ea,D⟩:=Da.callG Fd q;have Hd:=Cd.k D;refine⟨_,rfl,?_⟩;obtain⟨fh,Id,hp⟩:=zqq hp;refine zxt (p:=ud) (set:=Dd) (price:=A.2.1) Ea.pre (yd.sub D.fs) (zd.sub D.fs) (Ad.sub D.fs) Gd Id fun ii Jd=>?_;obtain⟨T,Ld⟩:=Ea.call Jd q;have Md:=Hd.k Ld;refine⟨_,rfl,?_⟩;refine zq1 hp (fun Nd hp=>?_) fun Nd hp=>?_; rotate_left
  ·obtain rfl:=oi hp;exact hq _ T.ext'
  refine⟨_,_,_,_,Md.bk.ra,?_⟩;obtain⟨Od,Pd,hp⟩:=zqq hp;refine zxB (p:=p) T.pre (ha100.sub (Sub.trans (Sub.trans (Sub.trans (Sub.trans (Sub.trans (Sub.trans (Sub.trans (Sub.trans (Sub.trans (Sub.trans e.fs g.fs) d.fs) h.fs) a.fs) j.fs) i.fs) u.fs) w.fs) I.fs) D.fs)) (ha102.sub (Sub.trans (Sub.trans (Sub.trans (Sub.trans (Sub.trans (Sub.trans (Sub.trans (Sub.trans (Sub.trans (Sub.trans e.fs g.fs) d.fs) h.fs) a.fs) j.fs) i.fs) u.fs) w.fs) I.fs) D.fs)) (ha103.sub (Sub.trans (Sub.trans (Sub.trans (Sub.trans (Sub.trans (Sub.trans (Sub.trans (Sub.trans (Sub.trans (Sub.trans e.fs g.fs) d.fs) h.fs) a.fs) j.fs) i.fs) u.fs) w.fs) I.fs) D.fs)) Pd fun ji gh hh ih jh Qd Rd Sd Td=>?_;obtain⟨Fa,Ud⟩:=T.callG Qd q;refine⟨_,_,_,_,rfl,?_⟩;obtain⟨Vd,Wd,hp⟩:=zqq hp;refine zxz (l:=A.1) Fa.pre (O.sub (Sub.trans (Sub.trans (Sub.trans (Sub.trans (Sub.trans (Sub.trans (Sub.trans (Sub.trans (Sub.trans d.fs h.fs) a.fs) j.fs) i.fs) u.fs) w.fs) I.fs) D.fs) Ud.fs)) Wd fun ki kh lh Xd Yd=>?_;obtain⟨Ga,Y⟩:=Fa.callG Xd q;refine⟨_,rfl,?_⟩;refine gdi hp fun Zd hp=>?_;obtain⟨mh,ae,hp⟩:=zqq hp;refine zxt (p:=Od) (set:=Vd) (price:=(A.2.1 - (1:Int))) Ga.pre (Rd.sub Y.fs) (Sd.sub Y.fs) (Td.sub Y.fs) Yd ae fun ni be=>?_;obtain⟨r,nh⟩:=Ga.call be q;refine⟨_,rfl,?_⟩;refine zq2 hp (fun ce hp=>?_) fun ce hp=>?_; rotate_left
  ·obtain rfl:=oi hp;exact hq _ r.ext'
  refine zq2 hp (fun de hp=>?_) fun de hp=>?_
  ·refine ifd hp (fun ee hp=>?_) fun ee hp=>?_; rotate_left
   ·obtain rfl:=oi hp;exact hq _ r.ext'
   refine ifd hp (fun fe hp=>?_) fun fe hp=>?_; rotate_left
   ·obtain rfl:=oi hp;exact hq _ r.ext'
   obtain⟨oh,ge,hp⟩:=zqq hp;refine zxI r.pre  ge fun pi he=>?_;obtain⟨ie,ph⟩:=r.call he q;refine⟨_,rfl,?_⟩;obtain rfl:=oi hp;exact hq _ ie.ext'
  refine ifd hp (fun je hp=>?_) fun je hp=>?_; rotate_left
  ·obtain rfl:=oi hp;exact hq _ r.ext'
  refine ifd hp (fun ke hp=>?_) fun ke hp=>?_; rotate_left
  ·obtain rfl:=oi hp;exact hq _ r.ext'
  refine ifd hp (fun me hp=>?_) fun me hp=>?_; rotate_left
  ·obtain rfl:=oi hp;exact hq _ r.ext'
  obtain⟨qh,oe,hp⟩:=zqq hp;refine zxI r.pre  oe fun qi pe=>?_;obtain⟨qe,rh⟩:=r.call pe q;refine⟨_,rfl,?_⟩;obtain rfl:=oi hp;exact hq _ qe.ext'
 refine zq0 hp (fun re hp=>?_) fun re hp=>?_
 ·obtain rfl:=oi hp;exact hq _ n.ext'
 refine zq4 P ?_;refine zq2 hp (fun se hp=>?_) fun se hp=>?_
 ·obtain rfl:=oi hp;exact hq _ n.ext'
 refine zq0 hp (fun te hp=>?_) fun te hp=>?_
 ·refine ifd hp (fun ue hp=>?_) fun ue hp=>?_; rotate_left
  ·obtain rfl:=oi hp;exact hq _ n.ext'
  refine zq2 hp (fun ve hp=>?_) fun ve hp=>?_; rotate_left
  ·obtain rfl:=oi hp;exact hq _ n.ext'
  obtain⟨th,we,hp⟩:=zqq hp;refine zxI n.pre  we fun ri xe=>?_;obtain⟨ye,uh⟩:=n.call xe B;refine⟨_,rfl,?_⟩;obtain rfl:=oi hp;exact hq _ ye.ext'
 refine⟨_,_,_,_,G.bk.ra,_,_,_,_,G.bk.ra,?_⟩;obtain⟨ze,Ae,hp⟩:=zqq hp;refine zvE (p:=p) n.pre (ha100.sub (Sub.trans (Sub.trans (Sub.trans (Sub.trans (Sub.trans (Sub.trans e.fs g.fs) d.fs) h.fs) a.fs) j.fs) i.fs)) (ha102.sub (Sub.trans (Sub.trans (Sub.trans (Sub.trans (Sub.trans (Sub.trans e.fs g.fs) d.fs) h.fs) a.fs) j.fs) i.fs)) (ha103.sub (Sub.trans (Sub.trans (Sub.trans (Sub.trans (Sub.trans (Sub.trans e.fs g.fs) d.fs) h.fs) a.fs) j.fs) i.fs)) Ae fun si Be=>?_;obtain⟨Ha,Ce⟩:=n.call Be B;have Ia:=G.k Ce;refine⟨_,rfl,(by rw[show zaL cmC _=true from zoX (zqt ha100.noFn (zqt rfl (zqt ha102.noFn (zqt ha103.noFn zqu))))]; exact(Ia.bk.ra)),?_⟩;refine gdi hp fun De hp=>?_;refine gdi hp fun Ee hp=>?_;refine gdi hp fun Fe hp=>?_;refine gdi hp fun Ge hp=>?_;refine gdi hp fun He hp=>?_;obtain⟨vh,Ie,hp⟩:=zqq hp;refine zvF (p:=p) (there:=(((Nat.land (Int.toNat (zmc .i64 bits)) (Int.toNat ze)):Nat):Int)) Ha.pre (ha100.sub (Sub.trans (Sub.trans (Sub.trans (Sub.trans (Sub.trans (Sub.trans e.fs g.fs) d.fs) h.fs) a.fs) j.fs) i.fs)) (ha102.sub (Sub.trans (Sub.trans (Sub.trans (Sub.trans (Sub.trans (Sub.trans e.fs g.fs) d.fs) h.fs) a.fs) j.fs) i.fs)) (ha103.sub (Sub.trans (Sub.trans (Sub.trans (Sub.trans (Sub.trans (Sub.trans e.fs g.fs) d.fs) h.fs) a.fs) j.fs) i.fs)) Ie fun ti Je=>?_;obtain⟨Ke,Me⟩:=Ha.call Je B;have Ja:=Ia.k Me;refine⟨_,rfl,_,_,_,_,Ja.bk.ra,?_⟩;intro ui Ne;obtain⟨s,Oe,Pe,Qe⟩:=Ke.blk Ne B 3;have Re:=Ja.k Pe;obtain⟨Se,Te,Ue,Ve,We⟩:=Qe.sto Oe [ca100,Il p.Reserve,ca102,ca103]
 have Ka:=Re.k Ve;refine⟨Se,Te,?_⟩;refine⟨trivial,_,Ka.bk.rc rfl,?_⟩;refine gdi hp fun Xe hp=>?_;refine gdi hp fun Ye hp=>?_;refine gdi hp fun Ze hp=>?_;obtain⟨af,hp⟩:=zqr hp;refine⟨af,trivial,?_⟩;obtain⟨bf,cf,La,df,Z⟩:=We.sto1 Ue 1 (Il (min (10000:Int) (p.Reserve+((zmc .i64 by_) % (500:Int))))) (by simp) rfl
 replace Z:Lb _ _ _ _ _ _ _ [ca100,(Il (min (10000:Int) (p.Reserve+((zmc .i64 by_) % (500:Int))))),ca102,ca103]:=Z
 have ef:=Ka.k df;refine⟨bf,cf,?_⟩;refine⟨_,_,_,_,Z.bk.ra,?_⟩;obtain⟨gf,hf,hp⟩:=zqq hp;refine zxB (p:=({ Losses:=p.Losses,Reserve:=(min (10000:Int) (p.Reserve+((zmc .i64 by_) % (500:Int)))),Treaties:=p.Treaties,Reports:=p.Reports }:Pg)) La.pre (ha100.sub (Sub.trans (Sub.trans (Sub.trans (Sub.trans (Sub.trans (Sub.trans e.fs g.fs) d.fs) h.fs) a.fs) j.fs) i.fs)) (ha102.sub (Sub.trans (Sub.trans (Sub.trans (Sub.trans (Sub.trans (Sub.trans e.fs g.fs) d.fs) h.fs) a.fs) j.fs) i.fs)) (ha103.sub (Sub.trans (Sub.trans (Sub.trans (Sub.trans (Sub.trans (Sub.trans e.fs g.fs) d.fs) h.fs) a.fs) j.fs) i.fs)) hf fun vi wh xh yh zh jf kf lf mf=>?_;obtain⟨Ma,y⟩:=La.callG jf s;have nf:=ef.k y;refine⟨_,_,_,_,rfl,?_⟩;obtain⟨Ah,pf,hp⟩:=zqq hp;refine zxs (p:=gf) Ma.pre kf lf mf pf fun wi Bh Ch qf Dh=>?_;obtain⟨Na,z⟩:=Ma.callG qf s;have Oa:=nf.k z;refine⟨_,_,_,rfl,_,_,_,_,Oa.bk.ra,?_⟩;obtain⟨rf,sf,hp⟩:=zqq hp;refine zxB (p:=p) Na.pre (ha100.sub (Sub.trans (Sub.trans (Sub.trans (Sub.trans (Sub.trans (Sub.trans (Sub.trans (Sub.trans e.fs g.fs) d.fs) h.fs) a.fs) j.fs) i.fs) y.fs) z.fs)) (ha102.sub (Sub.trans (Sub.trans (Sub.trans (Sub.trans (Sub.trans (Sub.trans (Sub.trans (Sub.trans e.fs g.fs) d.fs) h.fs) a.fs) j.fs) i.fs) y.fs) z.fs)) (ha103.sub (Sub.trans (Sub.trans (Sub.trans (Sub.trans (Sub.trans (Sub.trans (Sub.trans (Sub.trans e.fs g.fs) d.fs) h.fs) a.fs) j.fs) i.fs) y.fs) z.fs)) sf fun xi Eh Fh Gh Hh tf uf vf wf=>?_;obtain⟨Pa,J⟩:=Na.callG tf s;have xf:=Oa.k J;refine⟨_,_,_,_,rfl,?_⟩
 obtain⟨yf,zf,hp⟩:=zqq hp;refine zxz (l:=A.1) Pa.pre (O.sub (Sub.trans (Sub.trans (Sub.trans (Sub.trans (Sub.trans (Sub.trans (Sub.trans d.fs h.fs) a.fs) j.fs) i.fs) y.fs) z.fs) J.fs)) zf fun yi Ih Jh Af Bf=>?_;obtain⟨Qa,F⟩:=Pa.callG Af s;have Cf:=xf.k F;refine⟨_,rfl,?_⟩;obtain⟨Kh,Df,hp⟩:=zqq hp;refine zxt (p:=rf) (set:=yf) (price:=A.2.1) Qa.pre (uf.sub F.fs) (vf.sub F.fs) (wf.sub F.fs) Bf Df fun zi Ef=>?_;obtain⟨aa,Ff⟩:=Qa.call Ef s;have Gf:=Cf.k Ff;refine⟨_,rfl,?_⟩;refine zq1 hp (fun Hf hp=>?_) fun Hf hp=>?_; rotate_left
 ·obtain rfl:=oi hp;exact hq _ aa.ext'
 refine⟨_,_,_,_,Gf.bk.ra,?_⟩;obtain⟨If,Jf,hp⟩:=zqq hp;refine zxB (p:=p) aa.pre (ha100.sub (Sub.trans (Sub.trans (Sub.trans (Sub.trans (Sub.trans (Sub.trans (Sub.trans (Sub.trans (Sub.trans (Sub.trans e.fs g.fs) d.fs) h.fs) a.fs) j.fs) i.fs) y.fs) z.fs) J.fs) F.fs)) (ha102.sub (Sub.trans (Sub.trans (Sub.trans (Sub.trans (Sub.trans (Sub.trans (Sub.trans (Sub.trans (Sub.trans (Sub.trans e.fs g.fs) d.fs) h.fs) a.fs) j.fs) i.fs) y.fs) z.fs) J.fs) F.fs)) (ha103.sub (Sub.trans (Sub.trans (Sub.trans (Sub.trans (Sub.trans (Sub.trans (Sub.trans (Sub.trans (Sub.trans (Sub.trans e.fs g.fs) d.fs) h.fs) a.fs) j.fs) i.fs) y.fs) z.fs) J.fs) F.fs)) Jf fun Ai Lh Mh Nh Oh Kf Lf Mf Nf=>?_;obtain⟨Ra,Of⟩:=aa.callG Kf s;refine⟨_,_,_,_,rfl,?_⟩;obtain⟨Pf,Qf,hp⟩:=zqq hp;refine zxz (l:=A.1) Ra.pre (O.sub (Sub.trans (Sub.trans (Sub.trans (Sub.trans (Sub.trans (Sub.trans (Sub.trans (Sub.trans (Sub.trans d.fs h.fs) a.fs) j.fs) i.fs) y.fs) z.fs) J.fs) F.fs) Of.fs)) Qf fun Bi Ph Qh Rf Sf=>?_;obtain⟨Sa,ba⟩:=Ra.callG Rf s;refine⟨_,rfl,?_⟩;refine gdi hp fun Tf hp=>?_;obtain⟨Rh,Uf,hp⟩:=zqq hp;refine zxt (p:=If) (set:=Pf) (price:=(A.2.1 - (1:Int))) Sa.pre (Lf.sub ba.fs) (Mf.sub ba.fs) (Nf.sub ba.fs) Sf Uf fun Ci Vf=>?_;obtain⟨t,Sh⟩:=Sa.call Vf s;refine⟨_,rfl,?_⟩;refine zq2 hp (fun Wf hp=>?_) fun Wf hp=>?_; rotate_left
 ·obtain rfl:=oi hp;exact hq _ t.ext'
 refine zq2 hp (fun Xf hp=>?_) fun Xf hp=>?_
 ·refine ifd hp (fun Yf hp=>?_) fun Yf hp=>?_; rotate_left
  ·obtain rfl:=oi hp;exact hq _ t.ext'
  refine ifd hp (fun Zf hp=>?_) fun Zf hp=>?_; rotate_left
  ·obtain rfl:=oi hp;exact hq _ t.ext'
  obtain⟨Th,ag,hp⟩:=zqq hp;refine zxI t.pre  ag fun Di bg=>?_;obtain⟨cg,Uh⟩:=t.call bg s;refine⟨_,rfl,?_⟩;obtain rfl:=oi hp;exact hq _ cg.ext'
 refine ifd hp (fun dg hp=>?_) fun dg hp=>?_; rotate_left
 ·obtain rfl:=oi hp;exact hq _ t.ext'
 refine ifd hp (fun eg hp=>?_) fun eg hp=>?_; rotate_left
 ·obtain rfl:=oi hp;exact hq _ t.ext'
 refine ifd hp (fun fg hp=>?_) fun fg hp=>?_; rotate_left
 ·obtain rfl:=oi hp;exact hq _ t.ext'
 obtain⟨Vh,gg,hp⟩:=zqq hp;refine zxI t.pre  gg fun Ei hg=>?_;obtain⟨ig,Wh⟩:=t.call hg s;refine⟨_,rfl,?_⟩;obtain rfl:=oi hp;exact hq _ ig.ext'
end
end Go.Proofs.YtkcmdghjgoaggaaGreat

namespace Go.Proofs.YtkcmdghjgoaggaaGreat
open _root_.Go.Proofs.Tryz
open Go.Abs
set_option maxRecDepth 100000
noncomputable section
def Inc(n fr:Nat)(T:List Int):Prop:=T.Pairwise (· < ·)/\∀v∈T,(fr:Int)<=v/\v < n
theorem Inc.cons{n fr:Nat}{x:Int}{T:List Int}:Inc n fr (x::T)↔((fr:Int)<=x/\x < n)/\Inc n (x+1).toNat T:=by
 unfold Inc;rw[List.pairwise_cons]
 constructor
 ·rintro⟨⟨h1,h2⟩,h3⟩
  have hx:=h3 x (List.mem_cons_self ..);exact⟨hx,h2,fun v hv=>by have:=h1 v hv; have:=h3 v (List.mem_cons_of_mem _ hv); omega⟩
 ·rintro⟨hx,h2,h3⟩
  refine⟨⟨fun v hv=>by have:=h3 v hv; omega,h2⟩,fun v hv=>?_⟩
  rcases List.mem_cons.1 hv with rfl | hv
  ·exact hx
  ·have:=h3 v hv; omega
theorem zxL{n:Nat}{D:List Int}:∀{d:Nat} {pre:List Int} {fr:Nat},D∈zry n d pre fr↔∃T,D=pre++T/\T.length=d/\Inc n fr T
 | 0,pre,fr=>by
  show D∈[pre]↔_
  rw[List.mem_singleton]
  constructor
  ·rintro rfl; exact⟨[],by simp,rfl,.nil,fun v hv=>by cases hv⟩
  ·rintro⟨T,h1,h2,_⟩
   rw[List.eq_nil_of_length_eq_zero h2,List.append_nil] at h1; exact h1
 | d+1,pre,fr=>by
  show D∈zrx (fun x=>zry n d (pre++[(x:Int)]) (x+1)) (n - fr) fr↔_
  rw[zwC]
  constructor
  ·rintro⟨x,h1,h2,h3⟩
   obtain⟨T,h4,h5,h6⟩:=zxL.1 h3;refine⟨(x:Int)::T,by rw[h4]; simp,by simp[h5],Inc.cons.2 ⟨by omega,?_⟩⟩;rw[show((x:Int)+1).toNat=x+1 by omega]; exact h6
  ·rintro⟨T,h1,h2,h3⟩
   cases T with
   | nil=>simp at h2
   | cons v T=>
    obtain⟨h4,h5⟩:=Inc.cons.1 h3;refine⟨v.toNat,by omega,by omega,zxL.2 ⟨T,?_,by simpa using h2,?_⟩⟩
    ·rw[show((v.toNat:Nat):Int)=v by omega,h1]; simp
    ·rw[show v.toNat+1=(v+1).toNat by omega]; exact h5
theorem zxM{n:Nat}:∀{T:List Int} {fr:Nat},Inc n fr T->T.length<=n - fr
 | [],_,_=>Nat.zero_le _
 | v::T,fr,h=>by
  obtain⟨h1,h2⟩:=Inc.cons.1 h;have:=zxM h2
  simp only[List.length_cons]
  omega
theorem zxN{n:Nat}{D:List Int}:D∈zoj n↔Inc n 0 D:=by
 unfold zoj;rw[zwC]
 constructor
 ·rintro⟨s,_,_,h⟩
  obtain⟨T,h1,_,h2⟩:=zxL.1 h;rw[h1]; exact h2
 ·intro h;have:=zxM h;exact⟨D.length,Nat.zero_le _,by omega,zxL.2 ⟨D,rfl,rfl,h⟩⟩
def inD(D:List Int)(j:Nat):Bool:=decide ((j:Int)∈D)
def zxO(b:Nat):Nat->List Int
 | 0=>[]
 | p+1=>zxO b p++(if b.testBit p then [(p:Int)] else [])
def zxP(b:Nat):List Int:=zxO b 16
theorem zxQ{b:Nat}{v:Int}:∀{p:Nat},v∈zxO b p↔0<=v/\v < p/\b.testBit v.toNat=true
 | 0=>⟨fun h=>(by cases h),fun h=>by omega⟩
 | p+1=>by
  show v∈zxO b p++_↔_
  rw[List.mem_append,zxQ]
  constructor
  ·rintro (h | h)
   ·exact⟨h.1,by omega,h.2.2⟩
   ·by_cases hb:b.testBit p=true
    ·rw[if_pos hb,List.mem_singleton] at h;subst h; exact⟨by omega,by omega,hb⟩
    ·rw[if_neg hb] at h; cases h
  ·rintro⟨h1,h2,h3⟩
   by_cases hv:v=(p:Int)
   ·subst hv;have h4:b.testBit p=true:=h3;rw[if_pos h4]; exact .inr (List.mem_singleton.2 rfl)
   ·exact .inl ⟨h1,by omega,h3⟩
theorem zxR{b:Nat}:∀p:Nat,(zxO b p).Pairwise (· < ·)
 | 0=>.nil
 | p+1=>by
  show(zxO b p++_).Pairwise _
  rw[List.pairwise_append];refine⟨zxR p,?_,fun a ha c hc=>?_⟩
  ·split
   ·exact List.pairwise_singleton _ _
   ·exact .nil
  ·have:=zxQ.1 ha
   split at hc
   ·rw[List.mem_singleton] at hc; omega
   ·cases hc
theorem zxS{b p:Nat}(h:∀q,p<=q->b.testBit q=false):∀k,zxO b (p+k)=zxO b p
 | 0=>rfl
 | k+1=>by
  show zxO b (p+k)++(if b.testBit (p+k) then _ else _)=_
  rw[h (p+k) (by omega),zxS h k]; simp
theorem zxT{b:Nat}:∀p,(zxO b p).length<=p
 | 0=>Nat.le_refl _
 | p+1=>by
  show(zxO b p++_).length<=_
  rw[List.length_append];have:=zxT (b:=b) p
  split <;> simp <;> omega
theorem zxU(b p:Nat):(b:Int) / 2 ^ p=((b / 2 ^ p:Nat):Int):=by simp
theorem zjo{b p q:Nat}(h:b / 2 ^ p=0)(hq:p<=q):b.testBit q=false:=by
 have h1:b < 2 ^ p:=by
  rcases Nat.lt_or_ge b (2 ^ p) with h2 | h2
  ·exact h2
  ·have:=Nat.div_pos h2 (Nat.two_pow_pos p); omega
 exact Nat.testBit_lt_two_pow (Nat.lt_of_lt_of_le h1 (Nat.pow_le_pow_right (by omega) hq))
def bef:List Int->List Int->Bool
 | [],[]=>false
 | [],_::_=>true
 | _::_,[]=>false
 | x::a,y::b=>if x=y then bef a b else decide (x < y)
def shB(a b:List Int):Bool:=decide (a.length < b.length) || (decide (a.length=b.length) && bef a b)
theorem zxV:∀A:List Int,bef A A=false
 | []=>rfl
 | x::A=>by show(if x=x then bef A A else _)=_; rw[if_pos rfl,zxV A]
theorem zxW:∀{A B:List Int},bef A B=true->bef B A=false
 | [],[],h=>by cases h
 | [],_::_,_=>rfl
 | _::_,[],h=>by cases h
 | x::A,y::B,h=>by
  have h':(if x=y then bef A B else decide (x < y))=true:=h
  show(if y=x then bef B A else decide (y < x))=false
  by_cases hxy:x=y
  ·rw[if_pos hxy] at h'; rw[if_pos hxy.symm]; exact zxW h'
  ·rw[if_neg hxy] at h'; rw[if_neg fun h=>hxy h.symm];have:=of_decide_eq_true h';exact decide_eq_false (by omega)
theorem zxX{A B:List Int}(h:shB A B=true):shB B A=false:=by
 unfold shB at h ⊢;rw[Bool.or_eq_true,Bool.and_eq_true,decide_eq_true_eq,decide_eq_true_eq] at h
 rcases h with h | ⟨h1,h2⟩
 ·rw[decide_eq_false (by omega),decide_eq_false (by omega)]; rfl
 ·rw[decide_eq_false (by omega),zxW h2]; simp
theorem zxY(x y:Int)(A B:List Int)(hxy:x < y):∀pre:List Int,bef (pre++x::A) (pre++y::B)=true
 | []=>by show(if x=y then _ else decide (x < y))=true; rw[if_neg (by omega),decide_eq_true hxy]
 | p::pre=>by show(if p=p then bef (pre++x::A) (pre++y::B) else _)=true; rw[if_pos rfl]; exact zxY x y A B hxy pre
theorem zxZ{α:Type}{R:α->α->Prop}(g:Nat->List α)(h1:∀x,(g x).Pairwise R)(h2:∀x y,x < y->∀a∈g x,∀b∈g y,R a b):∀e x,(zrx g e x).Pairwise R
 | 0,_=>.nil
 | e+1,x=>by
  show(g x++zrx g e (x+1)).Pairwise R
  rw[List.pairwise_append];refine⟨h1 x,zxZ g h1 h2 e (x+1),fun a ha b hb=>?_⟩;obtain⟨j,h3,_,h4⟩:=(zwC g b e (x+1)).1 hb;exact h2 x j (by omega) a ha b h4
theorem zx0{n:Nat}:∀(d:Nat) (pre:List Int) (fr:Nat),(zry n d pre fr).Pairwise fun a b=>bef a b=true
 | 0,pre,fr=>List.pairwise_singleton _ _
 | d+1,pre,fr=>zxZ _ (fun x=>zx0 d _ _) (fun x y hxy a ha b hb=>by
  obtain⟨T,h1,_,_⟩:=zxL.1 ha;obtain⟨T',h2,_,_⟩:=zxL.1 hb;rw[h1,h2,List.append_assoc,List.append_assoc]
  exact zxY _ _ _ _ (by omega) pre) _ _
theorem zx1(n:Nat):(zoj n).Pairwise fun a b=>shB a b=true:=
 zxZ _ (fun s=>(zx0 s [] 0).imp_of_mem fun {a b} ha hb hab=>by
  have h1:=zwL ha;have h2:=zwL hb;unfold shB
  rw[hab,decide_eq_true (show a.length=b.length by omega)]; simp) (fun s s' hs a ha b hb=>by
  have h1:=zwL ha;have h2:=zwL hb;unfold shB
  rw[decide_eq_true (by omega)]; rfl) _ _
theorem zx2{t:List Int->Bool}:∀{l:List (List Int)},l.Pairwise (fun a b=>shB a b=true)->∀{D D':List Int},l.find? t=some D->D'∈l->t D'=true->D'=D\/shB D D'=true
 | [],_,_,_,h,_,_=>by cases h
 | a::l,hp,D,D',h,hm,ht=>by
  rw[List.pairwise_cons] at hp;rw[List.find?_cons] at h
  cases hta:t a with
  | true=>
   rw[hta] at h;have:a=D:=oi h;subst this
   rcases List.mem_cons.1 hm with rfl | h1
   ·exact .inl rfl
   ·exact .inr (hp.1 _ h1)
  | false=>
   rw[hta] at h
   rcases List.mem_cons.1 hm with rfl | h1
   ·rw[hta] at ht; cases ht
   ·exact zx2 hp.2 h h1 ht
theorem zx3{n:Nat}{t:List Int->Bool}(h:∃D,Inc n 0 D/\t D=true):Inc n 0 (zrz n t)/\t (zrz n t)=true/\∀D,Inc n 0 D->t D=true->D=zrz n t\/shB (zrz n t) D=true:=by
 obtain⟨D0,h1,h2⟩:=h;unfold zrz
 cases hf:(zoj n).find? t with
 | none=>exact absurd h2 (by have:=List.find?_eq_none.1 hf D0 (zxN.2 h1); simpa using this)
 | some D=>exact⟨zxN.1 (List.mem_of_find?_eq_some hf),List.find?_some hf,fun D' h3 h4=>zx2 (zx1 n) hf (zxN.2 h3) h4⟩
theorem zx4:∀(n:Nat) (S:Nat->Bool),∃b,b < 2 ^ n/\∀q,q < n->b.testBit q=S q
 | 0,S=>⟨0,by decide,fun q hq=>by omega⟩
 | n+1,S=>by
  obtain⟨b,h1,h2⟩:=zx4 n fun q=>S (q+1);refine⟨2 * b+(if S 0 then 1 else 0),?_,fun q hq=>?_⟩
  ·rw[Nat.pow_succ]; split <;> omega
  ·cases q with
   | zero=>
    rw[Nat.testBit_zero]
    cases S 0 with
    | true=>exact decide_eq_true (by simp only[if_true]; omega)
    | false=>exact decide_eq_false (by simp)
   | succ q=>
    rw[Nat.testBit_succ,<- h2 q (by omega)]
    congr 1
    split <;> omega
theorem zx5:∀{A B:List Int},A.Pairwise (· < ·)->B.Pairwise (· < ·)->(∀v,v∈A↔v∈B)->A=B
 | [],[],_,_,_=>rfl
 | [],b::B,_,_,h=>by have:=(h b).2 (List.mem_cons_self ..); cases this
 | a::A,[],_,_,h=>by have:=(h a).1 (List.mem_cons_self ..); cases this
 | a::A,b::B,hA,hB,h=>by
  rw[List.pairwise_cons] at hA hB
  have hab:a=b:=by
   rcases List.mem_cons.1 ((h a).1 (List.mem_cons_self ..)) with h1 | h1
   ·exact h1
   ·rcases List.mem_cons.1 ((h b).2 (List.mem_cons_self ..)) with h2 | h2
    ·exact h2.symm
    ·have:=hA.1 _ h2; have:=hB.1 _ h1; omega
  subst hab
  congr 1
  refine zx5 hA.2 hB.2 fun v=>?_;have hv:=h v;rw[List.mem_cons,List.mem_cons] at hv
  constructor
  ·intro h1
   rcases hv.1 (.inr h1) with h2 | h2
   ·have:=hA.1 _ h1; omega
   ·exact h2
  ·intro h1
   rcases hv.2 (.inr h1) with h2 | h2
   ·have:=hB.1 _ h1; omega
   ·exact h2
theorem zx6{n b:Nat}(_hn:n<=16)(hb:b < 2 ^ n):Inc n 0 (zxP b):=
 ⟨zxR 16,fun v hv=>by
  obtain⟨h1,h2,h3⟩:=zxQ.1 hv;refine⟨by omega,?_⟩
  by_cases h4:v < n
  ·exact h4
  ·have:=Nat.testBit_lt_two_pow (Nat.lt_of_lt_of_le hb (Nat.pow_le_pow_right (by omega) (show n<=v.toNat by omega)))
   rw[this] at h3; cases h3⟩
theorem zx7{n b k:Nat}(hn:n<=16)(hk:k < n):inD (zxP b) k=b.testBit k:=by
 unfold inD
 have:((k:Nat):Int)∈zxP b↔b.testBit k=true:=by
  unfold zxP;rw[zxQ];exact⟨fun h=>h.2.2,fun h=>⟨by omega,by omega,h⟩⟩
 cases hb:b.testBit k with
 | true=>exact decide_eq_true (this.2 hb)
 | false=>exact decide_eq_false fun h=>by rw[this.1 h] at hb; cases hb
theorem zx8{n:Nat}{D:List Int}(hn:n<=16)(hD:Inc n 0 D):∃b,b < 2 ^ n/\zxP b=D:=by
 obtain⟨b,h1,h2⟩:=zx4 n (inD D);refine⟨b,h1,zx5 (zxR 16) hD.1 fun v=>?_⟩
 constructor
 ·intro hv;obtain⟨h3,h4⟩:=(zx6 hn h1).2 v hv;obtain⟨_,_,h5⟩:=zxQ.1 hv;rw[h2 _ (by omega)] at h5;have:=of_decide_eq_true h5
  rwa [show((v.toNat:Nat):Int)=v by omega] at this
 ·intro hv;have h3:=hD.2 v hv;refine zxQ.2 ⟨by omega,by omega,?_⟩;rw[h2 _ (by omega)];exact decide_eq_true (by rw[show((v.toNat:Nat):Int)=v by omega]; exact hv)
theorem zx9{S β:Type}{n:Nat}(F:Nat->S->Int->Option β)(st:Nat->S){fin:Option β}(hstep:∀d k,k < n->F (d+1) (st k) (k:Int)=F d (st (k+1)) ((k:Int)+1))(hend:∀d,F (d+1) (st n) (n:Int)=fin) :
  ∀d k,k<=n->n - k < d->F d (st k) (k:Int)=fin
 | 0,k,_,h=>by omega
 | d+1,k,hk,h=>by
  by_cases hkn:k=n
  ·subst hkn; exact hend d
  ·rw[hstep d k (by omega),show(k:Int)+1=((k+1:Nat):Int) by omega];exact zx9 F st hstep hend d (k+1) (by omega) (by omega)
def mk5(f:Nat->Int):P5:=⟨f 0,f 1,f 2,f 3,f 4⟩
def l5{α:Type}(f:Nat->α):List α:=[f 0,f 1,f 2,f 3,f 4]
theorem zya{α:Type}{f:Nat->α}{k:Nat}(hk:k < 5):(l5 f)[k]? = some (f k):=by
 match k,hk with
 | 0,_=>rfl
 | 1,_=>rfl
 | 2,_=>rfl
 | 3,_=>rfl
 | 4,_=>rfl
theorem zyb{α:Type}{f:Nat->α}{k:Nat}(hk:k < 5):idx (l5 f) (k:Int)=some (f k):=zrS (zya hk)
theorem zyc{α:Type}{f:Nat->α}{i:Int}(h0:0<=i)(h5:i < 5):idx (l5 f) i=some (f i.toNat):=by
 have:=zyb (f:=f) (k:=i.toNat) (by omega)
 rwa [show((i.toNat:Nat):Int)=i by omega] at this
theorem zyd{f g:Nat->Int}(h:mk5 f=mk5 g){k:Nat}(hk:k < 5):f k=g k:=by
 have h:=P5.mk.inj h
 match k,hk with
 | 0,_=>exact h.1
 | 1,_=>exact h.2.1
 | 2,_=>exact h.2.2.1
 | 3,_=>exact h.2.2.2.1
 | 4,_=>exact h.2.2.2.2
def upF{α:Type}(f:Nat->α)(k:Nat)(a:α):Nat->α:=fun j=>if j=k then a else f j
theorem zye{α:Type}(f:Nat->α)(k:Nat)(a:α):upF f k a k=a:=if_pos rfl
theorem zyf{α:Type}(f:Nat->α){k j:Nat}(a:α)(h:j ≠ k):upF f k a j=f j:=if_neg h
theorem zyg{α:Type}(f:Nat->α)(k:Nat)(a:α)(j:Nat):sti (k:Int) j a (f j)=upF f k a j:=by
 unfold sti upF
 by_cases h:j=k
 ·rw[if_pos h,if_pos (by omega)]
 ·rw[if_neg h,if_neg (by omega)]
theorem zyh{α:Type}(f:Nat->α){i:Int}(hi:0<=i)(a:α)(j:Nat):sti i j a (f j)=upF f i.toNat a j:=by
 have:=zyg f i.toNat a j
 rwa [show((i.toNat:Nat):Int)=i by omega] at this
def RgV(r:Rg)(hi:Int):Prop:=0<=r.Lo/\r.Lo<=r.Hi/\r.Hi<=hi
def zgo(t:Ty):Prop:=(t.Kind=0/\(1<=t.Part/\t.Part<=100)/\t.Above=0/\t.Most=0/\t.Times=0)\/(t.Kind=1/\t.Part=0/\(0<=t.Above/\t.Above<=1000)/\(1<=t.Most/\t.Most<=1000)/\0<=t.Times/\t.Times<=3)
def zyi(t:Ty):Prop:=zgo t/\0<=t.Price/\t.Price<=1000
def zyj(ts:List Ty):Prop:=∀(i:Nat) (t:Ty),ts[i]? = some t->-1<=t.Of/\t.Of<=(i:Int) - 1
def zyk(p:Pg)(r:Rpt):Prop:=(0<=r.Treaty/\r.Treaty<=(p.Treaties.length:Int) - 1)/\RgV r.Paid 10000
structure zyl (p:Pg):Prop where
 ls:∀r∈p.Losses,RgV r 1000
 res:0<=p.Reserve/\p.Reserve<=10000
 ts:∀t∈p.Treaties,zyi t
 of':zyj p.Treaties
 rs:∀r∈p.Reports,zyk p r
def zym(p:Pg):Prop:=4 < p.Losses.length\/5 < p.Treaties.length\/5 < p.Reports.length
def zyn:List Rg->Int
 | []=>1
 | r::l=>(r.Hi - r.Lo+1) * zyn l
open Classical in
def zyo(p:Pg):Int:=if zym p then 3 else if zyl p then (if 1500 < zyn p.Losses then 3 else 0) else 1
structure VP (p:Pg):Prop extends zyl p where
 l4:p.Losses.length<=4
 t5:p.Treaties.length<=5
 r5:p.Reports.length<=5
 many:zyn p.Losses<=1500
theorem zyp{p:Pg}:zyo p=0↔VP p:=by
 unfold zyo
 by_cases h:zym p
 ·rw[if_pos h]; exact⟨fun h=>by omega,fun h2=>by have:=h2.l4; have:=h2.t5; have:=h2.r5; unfold zym at h; omega⟩
 ·rw[if_neg h];unfold zym at h
  by_cases hf:zyl p
  ·rw[if_pos hf]
   by_cases hm:1500 < zyn p.Losses
   ·rw[if_pos hm]; exact⟨fun h=>by omega,fun h=>by have:=h.many; omega⟩
   ·rw[if_neg hm]; exact⟨fun _=>⟨hf,by omega,by omega,by omega,by omega⟩,fun _=>rfl⟩
  ·rw[if_neg hf]; exact⟨fun h=>by omega,fun h=>absurd ⟨h.ls,h.res,h.ts,h.of',h.rs⟩ hf⟩
theorem zyq{r:Rg}{n:Int}:Ev (zsW r n) (r.Lo<=n/\n<=r.Hi):=Ev.ite fun _=>Ev.dec Iff.rfl
theorem zyr{a b:Int}{r:Rg}:Ev (zsX { Lo:=a,Hi:=b } r) (a<=r.Lo/\r.Lo<=r.Hi/\r.Hi<=b):=Ev.ite fun _=>Ev.ite fun _=>Ev.dec Iff.rfl
theorem zys{k:Kd}{t:Ty}:Ev (zs6 k t) ((k.part.Lo<=t.Part/\t.Part<=k.part.Hi)/\(k.above.Lo<=t.Above/\t.Above<=k.above.Hi)/\(k.most.Lo<=t.Most/\t.Most<=k.most.Hi)/\k.times.Lo<=t.Times/\t.Times<=k.times.Hi):=
 zyq.and fun _=>zyq.and fun _=>zyq.and fun _=>zyq.ret
def zyt:K2:={ k0:={ part:={ Lo:=1,Hi:=100 },above:={ Lo:=0,Hi:=0 },most:={ Lo:=0,Hi:=0 },times:={ Lo:=0,Hi:=0 },takes:=(fun t a b=>zs3 t a b) },k1:={ part:={ Lo:=0,Hi:=0 },above:={ Lo:=0,Hi:=1000 },most:={ Lo:=1,Hi:=1000 },times:={ Lo:=0,Hi:=3 },takes:=(fun t a b=>zs4 t a b) } }
theorem zyu:zs5=some zyt:=rfl
theorem zyv{t:Ty}:Ev (zs7 zyt t) (zyi t):=by
 unfold zs7
 show Ev ((zsW { Lo:=0,Hi:=1 } t.Kind).bind _) _
 refine(zyq.and (K:=zgo t/\0<=t.Price/\t.Price<=1000) fun hk=>?_).imp ?_
 ·by_cases h0:t.Kind=0
  ·rw[if_pos h0];refine(zys.and fun _=>(show Ev (zsW { Lo:=0,Hi:=1000 } t.Price) _ from zyq).ret).imp ?_
   show((1<=t.Part/\t.Part<=100)/\(0<=t.Above/\t.Above<=0)/\(0<=t.Most/\t.Most<=0)/\0<=t.Times/\t.Times<=0)/\(0<=t.Price/\t.Price<=1000)↔_
   unfold zgo; omega
  ·have h1:t.Kind=1:=by
    have hk:0<=t.Kind/\t.Kind<=1:=hk
    omega
   rw[if_neg h0,if_pos h1];refine(zys.and fun _=>(show Ev (zsW { Lo:=0,Hi:=1000 } t.Price) _ from zyq).ret).imp ?_
   show((0<=t.Part/\t.Part<=0)/\(0<=t.Above/\t.Above<=1000)/\(1<=t.Most/\t.Most<=1000)/\0<=t.Times/\t.Times<=3)/\(0<=t.Price/\t.Price<=1000)↔_
   unfold zgo; omega
 ·show((0<=t.Kind/\t.Kind<=1)/\zgo t/\0<=t.Price/\t.Price<=1000)↔zyi t
  unfold zyi zgo; omega
theorem gR{l:List Rg}{p:Rg->Option Bool}:∀{d:Nat} {x:Int},zte l p d x=gIdx l p d x
 | 0,_=>rfl
 | d+1,x=>by unfold zte gIdx; simp only[gR]
theorem gT{l:List Ty}{p:Ty->Option Bool}:∀{d:Nat} {x:Int},ztj l p d x=gIdx l p d x
 | 0,_=>rfl
 | d+1,x=>by unfold ztj gIdx; simp only[gT]
theorem gQ{l:List Rpt}{p:Rpt->Option Bool}:∀{d:Nat} {x:Int},zto l p d x=gIdx l p d x
 | 0,_=>rfl
 | d+1,x=>by unfold zto gIdx; simp only[gQ]
theorem gI{l:List Int}{p:Int->Option Bool}:∀{d:Nat} {x:Int},ztt l p d x=gIdx l p d x
 | 0,_=>rfl
 | d+1,x=>by unfold ztt gIdx; simp only[gI]
theorem zyw{p:Pg}{n:Int}(h:zr2 p.Treaties):Ev (zs9 p n) (0<=n/\n<=(p.Treaties.length:Int) - 1):=by
 unfold zs9;unfold zr2 at h;refine Ev.gd (fI (by omega)) ?_;exact(show Ev (zsW { Lo:=0,Hi:=(p.Treaties.length:Int) - 1 } n) _ from zyq).ret
theorem zyx{p:Pg}{r:Rpt}(h:zr2 p.Treaties):Ev (zta p r) (zyk p r):=(zyw h).and fun _=>(zyr (a:=0) (b:=10000)).ret
theorem zyy{p:Pg}(h:zr2 p.Treaties):Ev (ztc p) (zyj p.Treaties):=by
 unfold zr2 at h;refine(Ev.loop (n:=p.Treaties.length) (F:=fun d x=>ztb p d x) (ok:=fun j=>∀t,p.Treaties[j]? = some t->-1<=t.Of/\t.Of<=(j:Int) - 1) (fin:=some true) (P:=True) (fun d k hk=>?_) (fun d=>?_) (by omega) (fun _=>Ev.tt trivial)).imp ?_
 ·have hg:=List.getElem?_eq_getElem hk
  show(_->ztb p (d+1) (k:Int)=_)/\(_->ztb p (d+1) (k:Int)=_)
  rw[ztb,if_pos (by omega),zrS hg,obs,zqs (fI (by omega))];exact(show Ev (zsW { Lo:=-1,Hi:=(k:Int) - 1 } (p.Treaties[k]).Of) (∀t,p.Treaties[k]? = some t->-1<=t.Of/\t.Of<=(k:Int) - 1) from zyq.imp ⟨fun h t ht=>by rw[hg] at ht; cases ht; exact h,fun h=>h _ hg⟩).step (by rw[if_pos rfl,zqs (fI (by omega))]) (by rw[if_neg (by decide)])
 ·show ztb p (d+1) _=_
  rw[ztb,if_neg (Int.lt_irrefl _)]
 ·exact⟨fun h i t ht=>h.1 i (List.getElem?_eq_some_iff.1 ht).1 t ht,fun h=>⟨fun j _ t ht=>h j t ht,trivial⟩⟩
theorem zyz{p:Pg}(h1:zr2 p.Losses)(h2:zr2 p.Treaties)(h3:zr2 p.Reports):Ev (ztz p) (zyl p):=by
 unfold ztz;rw[zyu,obs]
 show Ev ((zth p.Losses fun a=>zsX { Lo:=0,Hi:=1000 } a).bind _) _
 refine((Ev.each (q:=fun r=>RgV r 1000) (fun a _=>zyr) h1.lt gR).and fun _=>(show Ev (zsW { Lo:=0,Hi:=10000 } p.Reserve) _ from zyq).and fun _=>(Ev.each (q:=zyi) (fun a _=>zyv) h2.lt gT).and fun _=>(zyy h2).and fun _=>(Ev.each (q:=zyk p) (fun a _=>zyx h2) h3.lt gQ).ret).imp ?_;exact⟨fun⟨a,b,c,d,e⟩=>⟨a,b,c,d,e⟩,fun⟨a,b,c,d,e⟩=>⟨a,b,c,d,e⟩⟩
theorem zyA{p:Pg}:Ev (zs8 p) (zym p):=by
 unfold zs8 zym
 by_cases h:(4:Int) < p.Losses.length
 ·rw[if_pos h]; exact Ev.tt (by omega)
 ·rw[if_neg h]
  by_cases h2:(5:Int) < p.Treaties.length
  ·rw[if_pos h2]; exact Ev.tt (by omega)
  ·rw[if_neg h2]; exact Ev.dec (by omega)
theorem zyB{r:Rg}(h:RgV r 1000):ztA r=some (r.Hi - r.Lo+1):=by
 unfold RgV at h;unfold ztA;rw[zqs (fI (by omega)),zqs (fI (by omega))]
theorem zyC:∀{l:List Rg},(∀r∈l,RgV r 1000)->l.length<=4->1<=zyn l/\zyn l<=1001 ^ l.length
 | [],_,_=>⟨Int.le_refl _,Int.le_refl _⟩
 | r::l,h,h4=>by
  have h1:=h r (List.mem_cons_self ..);obtain⟨h2,h3⟩:=zyC (l:=l) (fun r hr=>h r (List.mem_cons_of_mem _ hr)) (by simp only[List.length_cons] at h4; omega);unfold RgV at h1
  show 1<=(r.Hi - r.Lo+1) * zyn l/\(r.Hi - r.Lo+1) * zyn l<=1001 ^ (l.length+1)
  have h5:1 * 1<=(r.Hi - r.Lo+1) * zyn l:=Int.mul_le_mul (by omega) h2 (by omega) (by omega);have h6:(r.Hi - r.Lo+1) * zyn l<=1001 * 1001 ^ l.length:=Int.mul_le_mul (by omega) h3 (by omega) (by omega);refine⟨by omega,?_⟩;rw[Int.pow_succ,Int.mul_comm ((1001:Int) ^ l.length)]; exact h6
theorem zyD{n:Nat}(h:n<=4):(1001:Int) ^ n<=1004006004001:=by
 match n,h with
 | 0,_=>decide
 | 1,_=>decide
 | 2,_=>decide
 | 3,_=>decide
 | 4,_=>decide
theorem zyE{l:List Rg}{k:Nat}{r:Rg}(h:l[k]? = some r):zyn (l.take (k+1))=zyn (l.take k) * (r.Hi - r.Lo+1):=by
 induction l generalizing k with
 | nil=>cases h
 | cons a l ih=>
  cases k with
  | zero=>cases h; show(r.Hi - r.Lo+1) * 1=1 * (r.Hi - r.Lo+1); rw[Int.one_mul,Int.mul_one]
  | succ k=>
   rw[List.take_succ_cons,List.take_succ_cons]
   show(a.Hi - a.Lo+1) * zyn (l.take (k+1))=(a.Hi - a.Lo+1) * zyn (l.take k) * _
   rw[ih h,Int.mul_assoc]
theorem zyF{l:List Rg}(h:∀r∈l,RgV r 1000)(h4:l.length<=4)(k:Nat):1<=zyn (l.take k)/\zyn (l.take k)<=1004006004001:=by
 have h1:=zyC (l:=l.take k) (fun r hr=>h r (List.mem_of_mem_take hr)) (by rw[List.length_take]; omega);have h2:=zyD (n:=(l.take k).length) (by rw[List.length_take]; omega)
 omega
theorem zyG{l:List Rg}(h:∀r∈l,RgV r 1000)(h4:l.length<=4):ztC l=some (zyn l):=by
 unfold ztC;have key:=zx9 (n:=l.length) (fun d s x=>ztB l d s x) (fun k=>zyn (l.take k)) (fin:=some (zyn l)) (fun d k hk=>?_) (fun d=>?_) (l.length+1) 0 (by omega) (by omega)
 ·exact key
 ·have hg:=List.getElem?_eq_getElem hk;have hr:=h _ (List.getElem_mem hk);have hb:=zyF h h4 k;have hb2:=zyF h h4 (k+1);rw[zyE hg] at hb2
  show ztB l (d+1) _ _=_
  rw[ztB,if_pos (by omega),zrS hg,obs,zyB hr,obs,zqs (by omega),zqs (by unfold RgV at hr; omega),zqs (fI (by omega)),zqs (fI (by omega)),<- zyE hg]
 ·show ztB l (d+1) _ _=_
  rw[ztB,if_neg (by omega),List.take_length]
theorem zyH{p:Pg}(h4:p.Losses.length<=1000):ztE p=some p.Losses:=by
 unfold ztE;have key:=zx9 (n:=p.Losses.length) (fun d s x=>ztD p d s x) (fun k=>p.Losses.take k) (fin:=some p.Losses) (fun d k hk=>?_) (fun d=>?_) (p.Losses.length+1) 0 (by omega) (by omega)
 ·exact key
 ·have hg:=List.getElem?_eq_getElem hk
  show ztD p (d+1) _ _=_
  rw[ztD,if_pos (by omega),zrS hg,obs,zqs (by rw[List.length_take]; omega),zqs (fI (by omega)),List.take_add_one,hg]; rfl
 ·show ztD p (d+1) _ _=_
  rw[ztD,if_neg (by omega),List.take_length]
theorem zyI{p:Pg}(h1:zr2 p.Losses)(h2:zr2 p.Treaties)(h3:zr2 p.Reports):ztF p=some (zyo p):=by
 unfold ztF zyo;refine zyA.pick (fun h=>?_) fun h=>?_
 ·rw[if_pos rfl,if_pos h]
 ·rw[if_neg (by decide),if_neg h];unfold zym at h;refine(zyz h1 h2 h3).pick (fun h=>?_) fun h=>?_
  ·rw[if_pos rfl,if_pos h,zyH (by omega),obs,zyG h.ls (by omega),obs]
   split <;> rfl
  ·rw[if_neg (by decide),if_neg h]
theorem zyJ{n lo hi:Int}:Ev (zsu n lo hi) (lo<=n/\n<=hi):=Ev.ite fun _=>Ev.dec Iff.rfl
theorem zyK{r:Rg}{a b:Int}:Ev (zsv r a b) (a<=r.Lo/\r.Lo<=r.Hi/\r.Hi<=b):=Ev.ite fun _=>Ev.ite fun _=>Ev.dec Iff.rfl
theorem zyL{t:Ty}{k:Nat}(hk:k<=1000):Ev (zsx t (k:Int)) (zyi t/\-1<=t.Of/\t.Of<=(k:Int) - 1):=by
 unfold zsx;refine(zyJ.and (K:=(-1<=t.Of/\t.Of<=(k:Int) - 1)/\(0<=t.Times/\t.Times<=3)/\zgo t) fun _=>Ev.gd (fI (by omega)) (zyJ.and fun _=>zyJ.and fun _=>?_)).imp ?_
 ·by_cases h0:t.Kind=0
  ·rw[if_pos h0];refine(zyJ.and fun _=>Ev.ite fun _=>Ev.ite fun _=>Ev.dec Iff.rfl).imp ?_;unfold zgo; omega
  ·rw[if_neg h0];refine(Ev.ite fun _=>Ev.ite fun _=>zyJ.and fun _=>zyJ.ret).imp ?_;unfold zgo; omega
 ·unfold zyi zgo; omega
theorem zyM{r:Rg}(h:RgV r 1000):zsw r=some (r.Hi - r.Lo+1):=by
 unfold RgV at h;unfold zsw;rw[zqs (fI (by omega)),zqs (fI (by omega))]
def zyN(l:List Rg):Nat->Int
 | 0=>1
 | k+1=>match l[k]? with
  | some r=>min 2000 (zyN l k * (r.Hi - r.Lo+1))
  | none=>zyN l k
theorem zyO{l:List Rg}(h:∀r∈l,RgV r 1000)(h4:l.length<=4):∀k,k<=l.length->(1<=zyN l k/\zyN l k<=2000)/\(zyN l k=zyn (l.take k)\/(1500 < zyN l k/\1500 < zyn (l.take k)))
 | 0,_=>⟨by show(1:Int)<=1/\(1:Int)<=2000; omega,.inl rfl⟩
 | k+1,hk=>by
  obtain⟨h1,h2⟩:=zyO h h4 k (by omega);have hg:=List.getElem?_eq_getElem (show k < l.length by omega);have hr:=h _ (List.getElem_mem (show k < l.length by omega));have hb:=zyF h h4 (k+1);have hb0:=zyF h h4 k;rw[zyE hg] at hb ⊢;unfold RgV at hr
  have e:zyN l (k+1)=min 2000 (zyN l k * ((l[k]'(by omega)).Hi - (l[k]'(by omega)).Lo+1)):=by
   show(match l[k]? with | some r=>min 2000 (zyN l k * (r.Hi - r.Lo+1)) | none=>zyN l k)=_
   rw[hg]
  rw[e];generalize hc:(l[k]'(by omega)).Hi - (l[k]'(by omega)).Lo+1=c at hb ⊢;have h5:zyN l k * 1<=zyN l k * c:=Int.mul_le_mul_of_nonneg_left (by omega) (by omega);have h6:zyn (l.take k) * 1<=zyn (l.take k) * c:=Int.mul_le_mul_of_nonneg_left (by omega) (by omega);refine⟨by omega,?_⟩
  rcases h2 with h2 | h2
  ·rw[h2] at h5 ⊢
   by_cases h7:zyn (l.take k) * c<=2000
   ·exact .inl (by omega)
   ·exact .inr (by omega)
  ·exact .inr (by omega)
theorem zyP{p:Pg}(h:∀r∈p.Losses,RgV r 1000)(h4:p.Losses.length<=4):zsz p=some (zyN p.Losses p.Losses.length):=by
 unfold zsz;have key:=zx9 (n:=p.Losses.length) (fun d s x=>zsy p d s x) (fun k=>zyN p.Losses k) (fin:=some (zyN p.Losses p.Losses.length)) (fun d k hk=>?_) (fun d=>?_) 1000000 0 (by omega) (by omega)
 ·exact key
 ·have hg:=List.getElem?_eq_getElem hk;have hr:=h _ (List.getElem_mem hk);obtain⟨hb,_⟩:=zyO h h4 k (by omega)
  have e:zyN p.Losses (k+1)=min 2000 (zyN p.Losses k * ((p.Losses[k]).Hi - (p.Losses[k]).Lo+1)):=by
   show(match p.Losses[k]? with | some r=>min 2000 (zyN p.Losses k * (r.Hi - r.Lo+1)) | none=>zyN p.Losses k)=_
   rw[hg]
  have hrr:=hr;unfold RgV at hrr;have h5:zyN p.Losses k * ((p.Losses[k]).Hi - (p.Losses[k]).Lo+1)<=2000 * 1001:=Int.mul_le_mul (by omega) (by omega) (by omega) (by omega);have h6:0<=zyN p.Losses k * ((p.Losses[k]).Hi - (p.Losses[k]).Lo+1):=Int.mul_nonneg (by omega) (by omega)
  show zsy p (d+1) _ _=_
  rw[zsy,if_pos (by omega),zrS hg,obs,zyM hr,obs,zqs (by omega),zqs (by omega),zqs (fI (by omega)),zqs (fI (by omega)),e]
 ·show zsy p (d+1) _ _=_
  rw[zsy,if_neg (by omega)]
theorem zyQ{p:Pg}(h:VP p):zsz p=some (zyn p.Losses):=by
 rw[zyP h.ls h.l4];have h1:=(zyO h.ls h.l4 _ (Nat.le_refl _)).2;rw[List.take_length] at h1;have:=h.many
 congr 1
 omega
theorem zyR{p:Pg}(h1:p.Losses.length<=100)(h2:p.Treaties.length<=100)(h3:p.Reports.length<=100):zsC p=some (zyo p):=by
 unfold zsC zyo zym
 by_cases c1:4 < p.Losses.length
 ·rw[if_pos (by omega),if_pos (.inl c1)]
 rw[if_neg (by omega)]
 by_cases c2:5 < p.Treaties.length
 ·rw[if_pos (by omega),if_pos (.inr (.inl c2))]
 rw[if_neg (by omega)]
 by_cases c3:5 < p.Reports.length
 ·rw[if_pos (by omega),if_pos (.inr (.inr c3))]
 rw[if_neg (by omega),if_neg (show ¬ (4 < p.Losses.length\/5 < p.Treaties.length\/5 < p.Reports.length) by omega)]
 refine zyJ.pick (fun c5=>?_) fun c5=>by rw[if_neg (by decide),if_neg fun h=>c5 h.res]
 rw[if_pos rfl]
 have kL:=zr1 (l:=p.Losses) (F:=fun d x=>zsB p d 0 x) (ok:=fun r=>RgV r 1000) (bad:=some 1) (fin:=zsA p 1000000 0 0) (fun d k a hk=>by
  have hkl:=(List.getElem?_eq_some_iff.1 hk).1
  show(RgV a 1000->zsB p (d+1) 0 (k:Int)=_)/\_
  rw[zsB,if_pos (by omega),zrS hk,obs]
  exact Ev.step zyK (by rw[if_pos rfl,zqs (fI (by omega))]) (by rw[if_neg (by decide)])) (fun d=>by show zsB p (d+1) 0 _=_; rw[zsB,if_neg (Int.lt_irrefl _)]) (d:=1000000) (by omega)
 have kT:=zrW (n:=p.Treaties.length) (F:=fun d x=>zsA p d 0 x) (ok:=fun j=>∀t,p.Treaties[j]? = some t->zyi t/\-1<=t.Of/\t.Of<=(j:Int) - 1) (bad:=some 1) (fin:=prFault_L2 p 1000000 0) (fun d k hk=>by
  have hg:=List.getElem?_eq_getElem hk
  show(_->zsA p (d+1) 0 (k:Int)=_)/\(_->zsA p (d+1) 0 (k:Int)=_)
  rw[zsA,if_pos (by omega),zrS hg,obs]
  exact((zyL (t:=p.Treaties[k]) (k:=k) (by omega)).imp ⟨fun h t ht=>by rw[hg] at ht; cases ht; exact h,fun h=>h _ hg⟩).step (by rw[if_pos rfl,zqs (fI (by omega))]) (by rw[if_neg (by decide)])) (fun d=>by show zsA p (d+1) 0 _=_; rw[zsA,if_neg (Int.lt_irrefl _)]) (d:=1000000) (by omega)
 have kR:=zr1 (l:=p.Reports) (F:=fun d x=>prFault_L2 p d x) (ok:=zyk p) (bad:=some 1) (fin:=(zsz p).bind fun r=>if (1500:Int) < r then some 3 else some 0) (fun d k a hk=>by
  have hkl:=(List.getElem?_eq_some_iff.1 hk).1
  show(zyk p a->prFault_L2 p (d+1) (k:Int)=_)/\(¬ zyk p a->prFault_L2 p (d+1) (k:Int)=_)
  rw[prFault_L2,if_pos (by omega),zrS hk,obs,zqs (fI (by omega)),obs];refine⟨fun h=>?_,fun h=>?_⟩
  ·rw[zyJ.some_of h.1,obs,if_pos rfl,zyK.some_of h.2,obs,if_pos rfl,zqs (fI (by omega))]
  ·refine zyJ.pick (fun q1=>?_) fun q1=>by rw[if_neg (by decide)]
   rw[if_pos rfl]
   refine zyK.pick (fun q2=>absurd ⟨q1,q2⟩ h) fun q2=>by rw[if_neg (by decide)]) (fun d=>by show prFault_L2 p (d+1) _=_; rw[prFault_L2,if_neg (Int.lt_irrefl _)]) (d:=1000000) (by omega)
 by_cases c6:∀r∈p.Losses,RgV r 1000
 ·refine(kL.1 c6).trans ?_
  by_cases c7:∀j,j < p.Treaties.length->∀t,p.Treaties[j]? = some t->zyi t/\-1<=t.Of/\t.Of<=(j:Int) - 1
  ·refine(kT.1 c7).trans ?_
   by_cases c8:∀r∈p.Reports,zyk p r
   ·refine(kR.1 c8).trans ?_;rw[if_pos ⟨c6,c5,fun t ht=>by obtain⟨i,hi⟩:=List.mem_iff_getElem?.1 ht; exact(c7 i (List.getElem?_eq_some_iff.1 hi).1 t hi).1,fun i t ht=>(c7 i (List.getElem?_eq_some_iff.1 ht).1 t ht).2,c8⟩,zyP c6 (by omega),obs];have h9:=(zyO c6 (by omega) _ (Nat.le_refl _)).2;rw[List.take_length] at h9
    by_cases h10:1500 < zyn p.Losses
    ·rw[if_pos h10,if_pos (by omega)]
    ·rw[if_neg h10,if_neg (by omega)]
   ·refine(kR.2 c8).trans ?_;rw[if_neg fun h=>c8 h.rs]
  ·refine(kT.2 c7).trans ?_;rw[if_neg fun h:zyl p=>c7 fun j _ t ht=>⟨h.ts t (List.mem_of_getElem? ht),h.of' j t ht⟩]
 ·refine(kL.2 c6).trans ?_;rw[if_neg fun h=>c6 h.ls]
end
end Go.Proofs.YtkcmdghjgoaggaaGreat

namespace Go.Proofs.YtkcmdghjgoaggaaGreat
open _root_.Go.Proofs.Tryz
open Go.Abs
set_option maxRecDepth 100000
noncomputable section
theorem zyS{l:List Int}(h:l ≠ [])(hl:l.length<=1048577):zs0 l=some (zr5 l):=by
 unfold zs0
 cases l with
 | nil=>exact absurd rfl h
 | cons x l=>
  rw[if_neg (by rw[List.length_cons]; omega),zrU rfl,obs];refine(zr4 (l:=x::l) (fun s a=>min s a) (fun d s k=>zsZ (x::l) d s k) (fun s=>some s) (fun d k s a hk=>?_) (fun d s=>?_) _ 0 x (Nat.zero_le _) (by omega)).trans ?_
  ·have hkl:=(List.getElem?_eq_some_iff.1 hk).1
   show zsZ (x::l) (d+1) s (k:Int)=_
   rw[zsZ,if_pos (by omega),zrS hk,obs]
   by_cases hc:a < s
   ·rw[if_pos hc,zqs (fI (by omega)),Int.min_eq_right (by omega)]
   ·rw[if_neg hc,zqs (fI (by omega)),Int.min_eq_left (by omega)]
  ·show zsZ (x::l) (d+1) s _=_
   rw[zsZ,if_neg (Int.lt_irrefl _)]
  ·rw[List.drop_zero]
   show some (l.foldl min (min x x))=_
   rw[Int.min_self]; rfl
theorem zyT{l:List Int}(h:l ≠ [])(hl:l.length<=1048577):zs2 l=some (zr6 l):=by
 unfold zs2
 cases l with
 | nil=>exact absurd rfl h
 | cons x l=>
  rw[if_neg (by rw[List.length_cons]; omega),zrU rfl,obs];refine(zr4 (l:=x::l) (fun s a=>max s a) (fun d s k=>zs1 (x::l) d s k) (fun s=>some s) (fun d k s a hk=>?_) (fun d s=>?_) _ 1 x (by rw[List.length_cons]; omega) (by rw[List.length_cons]; omega)).trans ?_
  ·have hkl:=(List.getElem?_eq_some_iff.1 hk).1
   show zs1 (x::l) (d+1) s (k:Int)=_
   rw[zs1,if_pos (by omega),zrS hk,obs,zqs (fI (by omega))]
  ·show zs1 (x::l) (d+1) s _=_
   rw[zs1,if_neg (Int.lt_irrefl _)]
  ·rfl
def zyU(t:Ty):Int:=t.Most * (t.Times+1)
def zyV(t:Ty)(a b:Int):Int:=if t.Kind=0 then a * t.Part / 100 else min (min (max 0 (a - t.Above)) t.Most) (zyU t - b)
theorem zyW{t:Ty}(ht:zgo t):0<=zyU t/\zyU t<=4000:=by
 unfold zyU
 rcases ht with ⟨_,_,_,h,_⟩ | ⟨_,_,_,h1,h2⟩
 ·rw[h,Int.zero_mul]; omega
 ·have:=Int.mul_le_mul (a:=t.Most) (b:=t.Times+1) (c:=1000) (d:=4) (by omega) (by omega) (by omega) (by omega);have:=Int.mul_nonneg (a:=t.Most) (b:=t.Times+1) (by omega) (by omega)
  omega
theorem zyX{t:Ty}{a:Int}(hp:1<=t.Part/\t.Part<=100)(ha:0<=a/\a<=100000):(0<=a * t.Part/\a * t.Part<=10000000)/\0<=a * t.Part / 100/\a * t.Part / 100<=a:=by
 have h1:=Int.mul_nonneg (a:=a) (b:=t.Part) (by omega) (by omega);have h2:=Int.mul_le_mul_of_nonneg_left (a:=t.Part) (b:=100) (c:=a) (by omega) (by omega)
 omega
theorem zyY{t:Ty}(ht:zgo t){a b:Int}(ha:0<=a/\a<=100000)(hb:t.Kind=1->b<=zyU t):0<=zyV t a b/\zyV t a b<=a/\(t.Kind=1->b+zyV t a b<=zyU t):=by
 unfold zyV
 rcases ht with ⟨h0,hp,_⟩ | ⟨h0,_,h3,h4,h5⟩
 ·have h1:=zyX hp ha;rw[if_pos h0]
  omega
 ·have hb:=hb h0;rw[if_neg (by omega)]
  omega
theorem zyZ{t:Ty}(hp:1<=t.Part/\t.Part<=100){a b:Int}(ha:0<=a/\a<=100000):zs3 t a b=some (a * t.Part / 100):=by
 have h1:=zyX hp ha;unfold zs3;rw[zqs (by omega),zqs (by omega),zqs (fI (by omega)),zqs (by omega),zqs (by omega),zqs (fI (by omega))]
theorem zy0{t:Ty}(ht:zgo t)(h1:t.Kind=1){a b:Int}(ha:0<=a/\a<=100000)(hb:-100000<=b/\b<=100000):zs4 t a b=some (zyV t a b):=by
 have hc:=zyW ht;unfold zgo at ht;unfold zyU at hc;unfold zs4 zyV;rw[zqs (fI (by omega)),zqs (fI (by omega)),zqs (by omega),zqs (by omega),zqs (fI (by omega)),zqs (fI (by omega)),zyS (by simp) (by simp),obs,if_neg (by omega)]
 rfl
theorem zy1{t:Ty}(ht:zgo t){a b:Int}(ha:0<=a/\a<=100000)(hb:-100000<=b/\b<=100000):zsF t a b=some (zyV t a b):=by
 have hc:=zyW ht;unfold zsF zyV
 by_cases h0:t.Kind=0
 ·have hp:1<=t.Part/\t.Part<=100:=by unfold zgo at ht; omega
  have h1:=zyX hp ha;rw[if_pos h0,if_pos h0,zqs (by omega),zqs (by omega),zqs (fI (by omega)),zqs (by omega),zqs (by omega),zqs (fI (by omega))]
 ·unfold zgo at ht;unfold zyU at hc;rw[if_neg h0,if_neg h0,zqs (fI (by omega)),zqs (fI (by omega)),zqs (by omega),zqs (by omega),zqs (fI (by omega)),zqs (fI (by omega))]
  rfl
structure DS where
 pays:Nat->Int
 keeps:Nat->Int
 soc:Int
def zy2(t:Ty)(k:Nat)(P:Nat->Int)(s:DS):DS:=
 if t.Of = -1 then ⟨upF s.pays k (zyV t s.soc (P k)),upF s.keeps k (zyV t s.soc (P k)),s.soc - zyV t s.soc (P k)⟩
 else ⟨upF s.pays k (zyV t (s.keeps t.Of.toNat) (P k)),upF (upF s.keeps t.Of.toNat (s.keeps t.Of.toNat - zyV t (s.keeps t.Of.toNat) (P k))) k (zyV t (s.keeps t.Of.toNat) (P k)),s.soc⟩
def dN(ts:List Ty)(P:Nat->Int)(x:Int):Nat->DS
 | 0=>⟨fun _=>0,fun _=>0,x⟩
 | k+1=>match ts[k]? with
  | some t=>zy2 t k P (dN ts P x k)
  | none=>dN ts P x k
theorem zy3{ts:List Ty}{P:Nat->Int}{x:Int}{k:Nat}{t:Ty}(h:ts[k]? = some t):dN ts P x (k+1)=zy2 t k P (dN ts P x k):=by
 show(match ts[k]? with | some t=>zy2 t k P (dN ts P x k) | none=>dN ts P x k)=_
 rw[h]
def zy4(ts:List Ty)(P:Nat->Int):Prop:=∀(j:Nat) (t:Ty),ts[j]? = some t->t.Kind=1->P j<=zyU t
structure zy5 (ts:List Ty):Prop where
 k:∀t∈ts,zgo t
 o:zyj ts
theorem VP.tsOk{p:Pg}(h:VP p):zy5 p.Treaties:=⟨fun t ht=>(h.ts t ht).1,h.of'⟩
structure DI (ts:List Ty) (P:Nat->Int) (x:Int) (k:Nat) (s:DS):Prop where
 soc:0<=s.soc/\s.soc<=x
 pays:∀j,0<=s.pays j/\s.pays j<=x
 keeps:∀j,0<=s.keeps j/\s.keeps j<=x
 z:∀j,k<=j->s.pays j=0/\s.keeps j=0
 cap:zy4 ts fun j=>P j+s.pays j
theorem zy6{ts:List Ty}(hts:zy5 ts){P:Nat->Int}(hP:zy4 ts P){x:Int}(hx:0<=x/\x<=100000):∀k,k<=ts.length->DI ts P x k (dN ts P x k)
 | 0,_=>⟨⟨hx.1,Int.le_refl _⟩,fun _=>⟨Int.le_refl _,hx.1⟩,fun _=>⟨Int.le_refl _,hx.1⟩,fun _ _=>⟨rfl,rfl⟩,fun j t ht h1=>by have:=hP j t ht h1; show P j+0<=_; omega⟩
 | k+1,hk=>by
  have ih:=zy6 hts hP hx k (by omega);have hg:=List.getElem?_eq_getElem (show k < ts.length by omega);have hkd:=hts.k _ (List.getElem_mem (show k < ts.length by omega));have hof:=hts.o k _ hg;rw[zy3 hg];generalize dN ts P x k=s at ih ⊢;generalize ts[k]'(by omega)=t at hg hkd hof;have hcp:t.Kind=1->P k<=zyU t:=hP k t hg;unfold zy2
  by_cases h1:t.Of = -1
  ·rw[if_pos h1];have hs:=ih.soc;have hb:=zyY hkd (a:=s.soc) (by omega) hcp;refine⟨by show 0<=s.soc - zyV t s.soc (P k)/\s.soc - zyV t s.soc (P k)<=x; omega,fun j=>?_,fun j=>?_,fun j hj=>?_,fun j t' ht' h'=>?_⟩
   ·show 0<=upF s.pays k _ j/\upF s.pays k _ j<=x
    by_cases hjk:j=k
    ·subst hjk; rw[zye]; omega
    ·rw[zyf _ _ hjk]; exact ih.pays j
   ·show 0<=upF s.keeps k _ j/\upF s.keeps k _ j<=x
    by_cases hjk:j=k
    ·subst hjk; rw[zye]; omega
    ·rw[zyf _ _ hjk]; exact ih.keeps j
   ·show upF s.pays k _ j=0/\upF s.keeps k _ j=0
    rw[zyf _ _ (by omega),zyf _ _ (by omega)]; exact ih.z j (by omega)
   ·show P j+upF s.pays k _ j<=_
    by_cases hjk:j=k
    ·subst hjk; rw[hg] at ht'; cases ht'; rw[zye]; exact hb.2.2 h'
    ·rw[zyf _ _ hjk]; exact ih.cap j t' ht' h'
  ·rw[if_neg h1];have hs:=ih.soc;have hk':=ih.keeps t.Of.toNat;have hb:=zyY hkd (a:=s.keeps t.Of.toNat) (by omega) hcp;refine⟨hs,fun j=>?_,fun j=>?_,fun j hj=>?_,fun j t' ht' h'=>?_⟩
   ·show 0<=upF s.pays k _ j/\upF s.pays k _ j<=x
    by_cases hjk:j=k
    ·subst hjk; rw[zye]; omega
    ·rw[zyf _ _ hjk]; exact ih.pays j
   ·show 0<=upF (upF s.keeps _ _) k _ j/\upF (upF s.keeps _ _) k _ j<=x
    by_cases hjk:j=k
    ·subst hjk; rw[zye]; omega
    ·rw[zyf _ _ hjk]
     by_cases hjo:j=t.Of.toNat
     ·subst hjo; rw[zye]; omega
     ·rw[zyf _ _ hjo]; exact ih.keeps j
   ·show upF s.pays k _ j=0/\upF (upF s.keeps _ _) k _ j=0
    rw[zyf _ _ (by omega),zyf _ _ (by omega),zyf _ _ (by omega)]; exact ih.z j (by omega)
   ·show P j+upF s.pays k _ j<=_
    by_cases hjk:j=k
    ·subst hjk; rw[hg] at ht'; cases ht'; rw[zye]; exact hb.2.2 h'
    ·rw[zyf _ _ hjk]; exact ih.cap j t' ht' h'
def ocN(s:DS):Oc:={ pays:=mk5 s.pays,keeps:=mk5 s.keeps,society:=s.soc }
def wkD(p:Pg):WkD:={ p:=p,kinds:=zyt,shared:=(),played:=() }
theorem zy7{p:Pg}(h:VP p){P:Nat->Int}(hP:zy4 p.Treaties P)(hb:∀j,0<=P j/\P j<=100000){x:Int}(hx:0<=x/\x<=1000):ztU (wkD p) { loss:=x,paid:=mk5 P }=some (ocN (dN p.Treaties P x p.Treaties.length)):=by
 have h5:=h.t5;unfold ztU
 show ztT (wkD p) _ (p.Treaties.length+1) _ _ _ _ _ _ _ _ _ _ x 0=_
 have key:=zx9 (n:=p.Treaties.length) (fun d (s:DS) y=>ztT (wkD p) { loss:=x,paid:=mk5 P } d (s.pays 0) (s.pays 1) (s.pays 2) (s.pays 3) (s.pays 4) (s.keeps 0) (s.keeps 1) (s.keeps 2) (s.keeps 3) (s.keeps 4) s.soc y) (fun k=>dN p.Treaties P x k) (fin:=some (ocN (dN p.Treaties P x p.Treaties.length))) (fun d k hk=>?_) (fun d=>?_) (p.Treaties.length+1) 0 (by omega) (by omega)
 ·exact key
 ·have hg:=List.getElem?_eq_getElem hk;have hkd:=h.tsOk.k _ (List.getElem_mem hk);have hof:=h.of' k _ hg;have ih:=zy6 h.tsOk hP (x:=x) (by omega) k (by omega);rw[zy3 hg];generalize dN p.Treaties P x k=s at ih ⊢;rw[ztT,if_pos (show(k:Int) < ((wkD p).p.Treaties.length:Int) by show(k:Int) < (p.Treaties.length:Int); omega),show idx (wkD p).p.Treaties (k:Int)=_ from zrS hg,obs];generalize p.Treaties[k]=t at hg hkd hof;have hPk:idx (l5 P) (k:Int)=some (P k):=zyb (by omega);have hs:=ih.soc;have hbk:=hb k;have hcp:t.Kind=1->P k<=zyU t:=hP k t hg;have hup:∀(f:Nat->Int) (a:Int) (j:Nat),sti (k:Int) j a (f j)=upF f k a j:=fun f a j=>zyg f k a j;unfold zy2
  by_cases h1:t.Of = -1
  ·have htk:=zyY hkd (a:=s.soc) (by omega) hcp;rw[if_pos h1,if_pos h1]
   by_cases h0:t.Kind=0
   ·have e0:zyV t s.soc (P k)=s.soc * t.Part / 100:=if_pos h0;rw[if_pos h0]
    show((idx (l5 P) (k:Int)).bind _)=_
    rw[hPk,obs,show(wkD p).kinds.k0.takes t s.soc (P k)=some (zyV t s.soc (P k)) from (zyZ (b:=P k) (by unfold zgo at hkd; omega) (by omega)).trans (by rw[e0]),obs,zqs (fI (by omega)),zqs (by omega),zqs (by omega),zqs (fI (by omega))]
    simp only[hup]
   ·rw[if_neg h0,if_pos (show t.Kind=1 by unfold zgo at hkd; omega)]
    show((idx (l5 P) (k:Int)).bind _)=_
    rw[hPk,obs,show(wkD p).kinds.k1.takes t s.soc (P k)=some (zyV t s.soc (P k)) from zy0 hkd (by unfold zgo at hkd; omega) (by omega) (by omega),obs,zqs (fI (by omega)),zqs (by omega),zqs (by omega),zqs (fI (by omega))]
    simp only[hup]
  ·have ho:0<=t.Of/\t.Of < 5:=by omega
   have hk':=ih.keeps t.Of.toNat;have htk:=zyY hkd (a:=s.keeps t.Of.toNat) (by omega) hcp;have hOk:idx (l5 s.keeps) t.Of=some (s.keeps t.Of.toNat):=zyc ho.1 ho.2;have huo:∀(f:Nat->Int) (a:Int) (j:Nat),sti t.Of j a (f j)=upF f t.Of.toNat a j:=fun f a j=>zyh f ho.1 a j;rw[if_neg h1,if_neg h1,zqs ho]
   by_cases h0:t.Kind=0
   ·have e0:zyV t (s.keeps t.Of.toNat) (P k)=s.keeps t.Of.toNat * t.Part / 100:=if_pos h0;rw[if_pos h0]
    show((idx (l5 s.keeps) t.Of).bind _)=_
    rw[hOk,obs]
    show((idx (l5 P) (k:Int)).bind _)=_
    rw[hPk,obs,show(wkD p).kinds.k0.takes t (s.keeps t.Of.toNat) (P k)=some (zyV t (s.keeps t.Of.toNat) (P k)) from (zyZ (b:=P k) (by unfold zgo at hkd; omega) (by omega)).trans (by rw[e0]),obs]
    show((idx (l5 s.keeps) t.Of).bind _)=_
    rw[hOk,obs,zqs (fI (by omega)),zqs (by omega),zqs (by omega),zqs (fI (by omega))]
    simp only[huo,hup]
   ·rw[if_neg h0,if_pos (show t.Kind=1 by unfold zgo at hkd; omega)]
    show((idx (l5 s.keeps) t.Of).bind _)=_
    rw[hOk,obs]
    show((idx (l5 P) (k:Int)).bind _)=_
    rw[hPk,obs,show(wkD p).kinds.k1.takes t (s.keeps t.Of.toNat) (P k)=some (zyV t (s.keeps t.Of.toNat) (P k)) from zy0 hkd (by unfold zgo at hkd; omega) (by omega) (by omega),obs]
    show((idx (l5 s.keeps) t.Of).bind _)=_
    rw[hOk,obs,zqs (fI (by omega)),zqs (by omega),zqs (by omega),zqs (fI (by omega))]
    simp only[huo,hup]
 ·rw[ztT,if_neg (show ¬ (p.Treaties.length:Int) < ((wkD p).p.Treaties.length:Int) by show ¬ (p.Treaties.length:Int) < (p.Treaties.length:Int); omega)]; rfl
def zy8(a b:DS):DS:=⟨fun j=>a.pays j+b.pays j,fun j=>a.keeps j+b.keeps j,a.soc+b.soc⟩
def zy9:DS:=⟨fun _=>0,fun _=>0,0⟩
def zza(ts:List Ty)(s:DS)(x:Int):DS:=zy8 s (dN ts s.pays x ts.length)
def zzb(ts:List Ty)(L:List Int):DS:=L.foldl (zza ts) zy9
structure SI (ts:List Ty) (B:Int) (s:DS):Prop where
 soc:0<=s.soc/\s.soc<=B
 pays:∀j,0<=s.pays j/\s.pays j<=B
 keeps:∀j,0<=s.keeps j/\s.keeps j<=B
 z:∀j,ts.length<=j->s.pays j=0/\s.keeps j=0
 cap:zy4 ts s.pays
theorem zzc{ts:List Ty}(h:zy5 ts):zy4 ts fun _=>0:=fun _ t ht _=>(zyW (h.k t (List.mem_of_getElem? ht))).1
theorem SI.zero{ts:List Ty}(h:zy5 ts):SI ts 0 zy9:=⟨⟨Int.le_refl _,Int.le_refl _⟩,fun _=>⟨Int.le_refl _,Int.le_refl _⟩,fun _=>⟨Int.le_refl _,Int.le_refl _⟩,fun _ _=>⟨rfl,rfl⟩,zzc h⟩
theorem SI.step{ts:List Ty}(hts:zy5 ts){B:Int}{s:DS}(h:SI ts B s){x:Int}(hx:0<=x/\x<=100000):SI ts (B+x) (zza ts s x):=by
 have hd:=zy6 hts h.cap hx ts.length (Nat.le_refl _);refine⟨?_,fun j=>?_,fun j=>?_,fun j hj=>?_,hd.cap⟩
 ·have:=h.soc; have:=hd.soc; show 0<=s.soc+_/\s.soc+_<=_; omega
 ·have:=h.pays j; have:=hd.pays j; show 0<=s.pays j+_/\s.pays j+_<=_; omega
 ·have:=h.keeps j; have:=hd.keeps j; show 0<=s.keeps j+_/\s.keeps j+_<=_; omega
 ·have:=h.z j hj; have:=hd.z j hj; show s.pays j+_=0/\s.keeps j+_=0; omega
def zzd(L:List Int):Int:=L.foldl (· + ·) 0
theorem zze(L:List Int):∀a,L.foldl (· + ·) a=a+zzd L:=by
 unfold zzd
 induction L with
 | nil=>intro a; show a=a+0; omega
 | cons x L ih=>intro a; show L.foldl _ (a+x)=a+L.foldl _ (0+x); rw[ih,ih (0+x)]; omega
theorem zzf(x:Int)(L:List Int):zzd (x::L)=x+zzd L:=by
 show L.foldl _ (0+x)=_
 rw[zze]; omega
theorem zzg{ts:List Ty}(hts:zy5 ts):∀{L:List Int},(∀x∈L,0<=x/\x<=100000)->∀{B:Int} {s:DS},SI ts B s->SI ts (B+zzd L) (L.foldl (zza ts) s)
 | [],_,B,s,h=>by show SI ts (B+0) s; rw[Int.add_zero]; exact h
 | x::L,hL,B,s,h=>by
  rw[zzf,<- Int.add_assoc];exact zzg hts (fun y hy=>hL y (List.mem_cons_of_mem _ hy)) (h.step hts (hL x (List.mem_cons_self ..)))
theorem zzh{ts:List Ty}(hts:zy5 ts){L:List Int}(hL:∀x∈L,0<=x/\x<=100000):SI ts (zzd L) (zzb ts L):=by
 have:=zzg hts hL (SI.zero hts)
 rwa [Int.zero_add] at this
theorem zzi{L:List Int}(hL:∀x∈L,0<=x/\x<=1000):0<=zzd L/\zzd L<=1000 * L.length:=by
 induction L with
 | nil=>exact⟨Int.le_refl _,Int.le_refl _⟩
 | cons x L ih=>
  have h1:=hL x (List.mem_cons_self ..);have h2:=ih fun y hy=>hL y (List.mem_cons_of_mem _ hy);rw[zzf,List.length_cons]
  omega
theorem zzj{a b:DS}(ha:(∀j,-1000000<=a.pays j/\a.pays j<=1000000)/\(∀j,-1000000<=a.keeps j/\a.keeps j<=1000000)/\-1000000<=a.soc/\a.soc<=1000000)(hb:(∀j,-1000000<=b.pays j/\b.pays j<=1000000)/\(∀j,-1000000<=b.keeps j/\b.keeps j<=1000000)/\-1000000<=b.soc/\b.soc<=1000000):ztP (ocN a) (ocN b)=some (ocN (zy8 a b)):=by
 obtain⟨a1,a2,a3⟩:=ha;obtain⟨b1,b2,b3⟩:=hb;unfold ztP
 let st:Nat->DS:=fun k=>⟨fun j=>if j < k then a.pays j+b.pays j else a.pays j,fun j=>if j < k then a.keeps j+b.keeps j else a.keeps j,a.soc⟩
 have key:=zx9 (n:=5) (fun d (s:DS) y=>ztO (ocN b) d (s.pays 0) (s.pays 1) (s.pays 2) (s.pays 3) (s.pays 4) (s.keeps 0) (s.keeps 1) (s.keeps 2) (s.keeps 3) (s.keeps 4) s.soc y) st (fin:=some (ocN (zy8 a b))) (fun d k hk=>?_) (fun d=>?_) 6 0 (by omega) (by omega)
 ·exact key
 ·have p1:=a1 k; have p2:=b1 k; have p3:=a2 k; have p4:=b2 k;have e1:(st k).pays k=a.pays k:=if_neg (by omega);have e2:(st k).keeps k=a.keeps k:=if_neg (by omega)
  have u1:∀j,sti (k:Int) j (a.pays k+b.pays k) ((st k).pays j)=(st (k+1)).pays j:=fun j=>by
   rw[zyg]
   show(if j=k then _ else (if j < k then a.pays j+b.pays j else a.pays j))=if j < k+1 then a.pays j+b.pays j else a.pays j
   by_cases h:j=k
   ·subst h; rw[if_pos rfl,if_pos (by omega)]
   ·by_cases h2:j < k
    ·rw[if_neg h,if_pos h2,if_pos (by omega)]
    ·rw[if_neg h,if_neg h2,if_neg (by omega)]
  have u2:∀j,sti (k:Int) j (a.keeps k+b.keeps k) ((st k).keeps j)=(st (k+1)).keeps j:=fun j=>by
   rw[zyg]
   show(if j=k then _ else (if j < k then a.keeps j+b.keeps j else a.keeps j))=if j < k+1 then a.keeps j+b.keeps j else a.keeps j
   by_cases h:j=k
   ·subst h; rw[if_pos rfl,if_pos (by omega)]
   ·by_cases h2:j < k
    ·rw[if_neg h,if_pos h2,if_pos (by omega)]
    ·rw[if_neg h,if_neg h2,if_neg (by omega)]
  rw[ztO,if_pos (by omega)]
  show((idx (l5 (st k).pays) (k:Int)).bind _)=_
  rw[zyb hk,obs]
  show((idx (l5 b.pays) (k:Int)).bind _)=_
  rw[zyb hk,obs,e1,zqs (fI (by omega)),zqs (by omega)]
  show((idx (l5 (st k).keeps) (k:Int)).bind _)=_
  rw[zyb hk,obs]
  show((idx (l5 b.keeps) (k:Int)).bind _)=_
  rw[zyb hk,obs,e2,zqs (fI (by omega)),zqs (by omega),zqs (fI (by omega)),u1 0,u1 1,u1 2,u1 3,u1 4,u2 0,u2 1,u2 2,u2 3,u2 4]
 ·rw[ztO,if_neg (by omega)]
  show gd (zl7 .i64 (a.soc+b.soc)) _=_
  rw[zqs (fI (by omega))]; rfl
def zzk(p:Pg)(M:Option (Mt->Option Oc)):Prop:=∃f,M=some f/\∀m o,f m=some o->ztU (wkD p) m=some o
theorem zzk.nil(p:Pg):zzk p (some fun _=>none):=⟨_,rfl,fun _ _ h=>by cases h⟩
def wkP(p:Pg)(M:Option (Mt->Option Oc)):WkP:={ p:=p,kinds:=zyt,shared:=M,played:=() }
open Classical in
theorem zzl{p:Pg}{M:Option (Mt->Option Oc)}(hM:zzk p M){m:Mt}{o:Oc}(hf:MK.fit m)(hd:ztU (wkD p) m=some o):∃M',ztV (wkP p M) m=some (o,M')/\zzk p M':=by
 obtain⟨f,rfl,hf2⟩:=hM;unfold ztV;rw[zqs hf]
 cases hfm:f m with
 | none=>
  refine⟨some fun j=>if j=m then some o else f j,?_,_,rfl,fun j o' h=>?_⟩
  ·rw[zqT (show zqK (wkP p (some f)).shared m=none from hfm),show ztU ({ p:=(wkP p (some f)).p,kinds:=(wkP p (some f)).kinds,shared:=(),played:=() }:WkD) m=some o from hd,obs,zqs hf]
   show(Option.bind (some _) _)=_
   rw[obs]
  ·by_cases hj:j=m
   ·rw[if_pos hj] at h; cases h; rw[hj]; exact hd
   ·rw[if_neg hj] at h; exact hf2 j o' h
 | some o'=>
  have:=hf2 m o' hfm;rw[hd] at this
  cases this
  exact⟨some f,by rw[zqU (show zqK (wkP p (some f)).shared m=some o from hfm)]; rfl,f,rfl,hf2⟩
theorem zzm{p:Pg}(h:VP p){L:List Int}(hL:∀x∈L,0<=x/\x<=1000)(hl:L.length<=4){w:WkP}(hw:w.p=p/\w.kinds=zyt):∀(d k:Nat) (s:DS) (M:Option (Mt->Option Oc)),k<=L.length->L.length - k < d->SI p.Treaties (1000 * k) s->zzk p M ->
  ∃M',ztW w L d (s.pays 0) (s.pays 1) (s.pays 2) (s.pays 3) (s.pays 4) (s.keeps 0) (s.keeps 1) (s.keeps 2) (s.keeps 3) (s.keeps 4) s.soc M (k:Int)=some (ocN ((L.drop k).foldl (zza p.Treaties) s),M')/\zzk p M'
 | 0,_,_,_,_,hd,_,_=>by omega
 | d+1,k,s,M,hk,hd,hs,hM=>by
  rw[ztW]
  by_cases hkl:k < L.length
  ·have hg:=List.getElem?_eq_getElem hkl;have hx:=hL _ (List.getElem_mem hkl);have hp:=hs.pays;have hkp:=hs.keeps;have hso:=hs.soc
   have hb:∀j,0<=s.pays j/\s.pays j<=100000:=fun j=>by have:=hp j; omega
   have hdv:=zy7 h hs.cap hb hx;have hdi:=zy6 h.tsOk hs.cap (x:=L[k]) (by omega) p.Treaties.length (Nat.le_refl _);obtain⟨M',q1,q2⟩:=zzl hM (m:={ loss:=L[k],paid:=mk5 s.pays }) ⟨fI (by show _<=L[k]/\L[k] < _; omega),fI (by have:=hb 0; show _<=s.pays 0/\s.pays 0 < _; omega),fI (by have:=hb 1; show _<=s.pays 1/\s.pays 1 < _; omega),fI (by have:=hb 2; show _<=s.pays 2/\s.pays 2 < _; omega),fI (by have:=hb 3; show _<=s.pays 3/\s.pays 3 < _; omega),fI (by have:=hb 4; show _<=s.pays 4/\s.pays 4 < _; omega),trivial⟩ hdv;rw[if_pos (by omega),zrS hg,obs,hw.1,hw.2]
   show ∃M',((ztV (wkP p M) { loss:=L[k],paid:=mk5 s.pays }).bind _)=_/\_
   rw[q1,obs]
   show ∃M',((ztP (ocN s) (ocN (dN p.Treaties s.pays L[k] p.Treaties.length))).bind _)=_/\_
   rw[zzj ⟨fun j=>by have:=hp j; omega,fun j=>by have:=hkp j; omega,by omega⟩ ⟨fun j=>by have:=hdi.pays j; omega,fun j=>by have:=hdi.keeps j; omega,by have:=hdi.soc; omega⟩,obs,zqs (fI (by omega)),show(k:Int)+1=((k+1:Nat):Int) by omega,List.drop_eq_getElem_cons hkl];have hs':=hs.step h.tsOk (x:=L[k]) (by omega);refine zzm h hL hl hw d (k+1) (zza p.Treaties s L[k]) M' (by omega) (by omega) ⟨?_,fun j=>?_,fun j=>?_,hs'.z,hs'.cap⟩ q2
   ·have:=hs'.soc; omega
   ·have:=hs'.pays j; omega
   ·have:=hs'.keeps j; omega
  ·rw[if_neg (by omega),List.drop_eq_nil_of_le (by omega)];exact⟨M,rfl,hM⟩
theorem zzn{p:Pg}(h:VP p){L:List Int}(hL:∀x∈L,0<=x/\x<=1000)(hl:L.length<=4){M:Option (Mt->Option Oc)}(hM:zzk p M):∃M',ztX (wkP p M) L=some (ocN (zzb p.Treaties L),M')/\zzk p M':=
 zzm h hL hl (w:=wkP p M) ⟨rfl,rfl⟩ (L.length+1) 0 zy9 M (Nat.zero_le _) (by omega) (SI.zero h.tsOk) hM
end
end Go.Proofs.YtkcmdghjgoaggaaGreat

namespace Go.Proofs.YtkcmdghjgoaggaaGreat
open _root_.Go.Proofs.Tryz
open Go.Abs
set_option maxRecDepth 100000
noncomputable section
def inL:List Rg->List Int->Prop
 | [],[]=>True
 | r::rs,x::xs=>(r.Lo<=x/\x<=r.Hi)/\inL rs xs
 | _,_=>False
theorem zzo:∀{rs:List Rg} {xs:List Int},inL rs xs->xs.length=rs.length
 | [],[],_=>rfl
 | r::rs,x::xs,h=>by rw[List.length_cons,List.length_cons,zzo h.2]
 | [],x::xs,h=>h.elim
 | r::rs,[],h=>h.elim
theorem zzp:∀{rs:List Rg} {xs:List Int},inL rs xs->∀{i:Nat} {r:Rg} {x:Int},rs[i]? = some r->xs[i]? = some x->r.Lo<=x/\x<=r.Hi
 | [],[],_,_,_,_,h,_=>by cases h
 | r::rs,x::xs,h,0,_,_,h1,h2=>by cases h1; cases h2; exact h.1
 | r::rs,x::xs,h,i+1,_,_,h1,h2=>zzp h.2 (i:=i) h1 h2
 | [],x::xs,h,_,_,_,_,_=>h.elim
 | r::rs,[],h,_,_,_,_,_=>h.elim
theorem zzq:∀{rs:List Rg} {xs:List Int},xs.length=rs.length->(∀(i:Nat) (r:Rg) (x:Int),rs[i]? = some r->xs[i]? = some x->r.Lo<=x/\x<=r.Hi)->inL rs xs
 | [],[],_,_=>trivial
 | r::rs,x::xs,h,h2=>⟨h2 0 r x rfl rfl,zzq (by simpa using h) fun i r x h3 h4=>h2 (i+1) r x h3 h4⟩
 | [],x::xs,h,_=>by simp at h
 | r::rs,[],h,_=>by simp at h
theorem zzr{rs:List Rg}{xs:List Int}(h:inL rs xs)(hr:∀r∈rs,RgV r 1000):∀x∈xs,0<=x/\x<=1000:=fun x hx=>by
 obtain⟨i,hi⟩:=List.mem_iff_getElem?.1 hx;have hil:=(List.getElem?_eq_some_iff.1 hi).1;rw[zzo h] at hil;have hg:=List.getElem?_eq_getElem hil;have h1:=zzp h hg hi;have h2:=hr _ (List.getElem_mem hil);unfold RgV at h2
 omega
theorem zzs:∀{rs:List Rg} {pre D:List Int},D∈chW rs pre↔∃T,D=pre++T/\inL rs T
 | [],pre,D=>by
  show D∈[pre]↔_
  rw[List.mem_singleton]
  constructor
  ·rintro rfl; exact⟨[],by simp,trivial⟩
  ·rintro⟨T,h1,h2⟩
   cases T with
   | nil=>rw[h1,List.append_nil]
   | cons x T=>exact h2.elim
 | r::rs,pre,D=>by
  show D∈zrx (fun n=>chW rs (pre++[r.Lo+(n:Int)])) (szR r).toNat 0↔_
  rw[zwC];have hsz:szR r=r.Hi - r.Lo+1:=rfl
  constructor
  ·rintro⟨j,h1,h2,h3⟩
   obtain⟨T,h4,h5⟩:=zzs.1 h3;exact⟨(r.Lo+(j:Int))::T,by rw[h4]; simp,⟨by omega,h5⟩⟩
  ·rintro⟨T,h1,h2⟩
   cases T with
   | nil=>exact h2.elim
   | cons x T=>
    obtain⟨h3,h4⟩:=h2;refine⟨(x - r.Lo).toNat,Nat.zero_le _,by omega,zzs.2 ⟨T,?_,h4⟩⟩;rw[h1,show r.Lo+(((x - r.Lo).toNat:Nat):Int)=x by omega]; simp
theorem zzt{α:Type}{g:Nat->List α}{c:Nat}(h:∀x,(g x).length=c):∀e n,(zrx g e n).length=e * c
 | 0,_=>by show 0=_; omega
 | e+1,n=>by show(g n++zrx g e (n+1)).length=_; rw[List.length_append,h,zzt h e,Nat.succ_mul]; omega
theorem zzu:∀{rs:List Rg},(∀r∈rs,RgV r 1000)->∀{pre:List Int},((chW rs pre).length:Int)=zyn rs
 | [],_,_=>rfl
 | r::rs,h,pre=>by
  have h1:=h r (List.mem_cons_self ..);have ih:=fun {pre:List Int}=>zzu (rs:=rs) (fun r hr=>h r (List.mem_cons_of_mem _ hr)) (pre:=pre)
  show((zrx (fun n=>chW rs (pre++[r.Lo+(n:Int)])) (szR r).toNat 0).length:Int)=(r.Hi - r.Lo+1) * zyn rs
  have hc:∀x:Nat,((fun n:Nat=>chW rs (pre++[r.Lo+(n:Int)])) x).length=(chW rs []).length:=fun x=>by
   have e1:=ih (pre:=pre++[r.Lo+(x:Int)]);have e2:=ih (pre:=[])
   dsimp only; omega
  rw[zzt hc];have hsz:szR r=r.Hi - r.Lo+1:=rfl;unfold RgV at h1;rw[<- ih (pre:=[]),Int.natCast_mul,hsz,Int.toNat_of_nonneg (by omega)]
def zzv(p:Pg):List (List Int):=chW p.Losses []
theorem zzw{p:Pg}{L:List Int}:L∈zzv p↔inL p.Losses L:=by
 unfold zzv;rw[zzs];exact⟨fun⟨T,h1,h2⟩=>by rw[h1]; exact h2,fun h=>⟨L,rfl,h⟩⟩
theorem zzx{p:Pg}(h:VP p):(zzv p).length<=1500:=by
 have h1:=zzu h.ls (pre:=[]);have h2:=h.many;unfold zzv
 omega
theorem zzy{p:Pg}(h:VP p):zt5 p=some (zzv p):=by
 have h4:=h.l4;unfold zt5;rw[zyH (by omega),obs];unfold zt4;rw[zqs ⟨by omega,fun r hr=>by have h1:=h.ls r hr; unfold RgV at h1; unfold okR; omega⟩,obs]; rfl
theorem zzz{p:Pg}(h:VP p):∃L,inL p.Losses L:=by
 refine⟨p.Losses.map (·.Lo),zzq (by rw[List.length_map]) fun i r x h1 h2=>?_⟩;rw[List.getElem?_map,h1] at h2
 cases h2
 have:=h.ls r (List.mem_of_getElem? h1);unfold RgV at this
 show r.Lo<=r.Lo/\r.Lo<=r.Hi
 omega
def oc(p:Pg)(L:List Int):Oc:=ocN (zzb p.Treaties L)
open Classical in
def grp(p:Pg)(A:List (List Int))(k:P5):List Oc:=(A.map (oc p)).filter fun o=>decide (o.pays=k)
def plM(p:Pg)(A:List (List Int)):Option (P5->Option (List Oc)):=some fun k=>if grp p A k=[] then none else some (grp p A k)
open Classical in
theorem zzA(p:Pg)(A:List (List Int))(k:P5):(zqK (plM p A) k).getD []=grp p A k:=by
 show(if grp p A k=[] then none else some (grp p A k)).getD []=_
 by_cases h:grp p A k=[]
 ·rw[if_pos h,h]; rfl
 ·rw[if_neg h]; rfl
open Classical in
theorem zzB(p:Pg)(A:List (List Int))(L:List Int)(k:P5):grp p (A++[L]) k=if (oc p L).pays=k then grp p A k++[oc p L] else grp p A k:=by
 unfold grp;rw[List.map_append,List.filter_append]
 by_cases h:(oc p L).pays=k
 ·rw[if_pos h,List.map_cons,List.map_nil,List.filter_cons_of_pos (by simp[h])]; rfl
 ·rw[if_neg h,List.map_cons,List.map_nil,List.filter_cons_of_neg (by simp[h]),List.filter_nil,List.append_nil]
open Classical in
theorem zzC(p:Pg)(A:List (List Int))(L:List Int):zqL (plM p A) (oc p L).pays ((zqK (plM p A) (oc p L).pays).getD []++[oc p L])=some (plM p (A++[L])):=by
 rw[zzA]
 show some (some fun j=>if j=(oc p L).pays then _ else _)=some (some _)
 congr 2
 funext j
 rw[zzB]
 by_cases h:j=(oc p L).pays
 ·subst h;rw[if_pos rfl,if_pos rfl,if_neg (by simp)]
 ·rw[if_neg h,if_neg (Ne.symm h)]
def zzD(p:Pg)(A:List (List Int)):Wk:={ p:=p,kinds:=zyt,shared:=(),played:=plM p A }
theorem zzE{f:Nat->Int}(h:∀j,0<=f j/\f j<=100000):MK.fit (mk5 f):=
 ⟨fI (by have:=h 0; show _<=f 0/\f 0 < _; omega),fI (by have:=h 1; show _<=f 1/\f 1 < _; omega),fI (by have:=h 2; show _<=f 2/\f 2 < _; omega),fI (by have:=h 3; show _<=f 3/\f 3 < _; omega),fI (by have:=h 4; show _<=f 4/\f 4 < _; omega),trivial⟩
theorem zzF{p:Pg}(h:VP p){L:List Int}(hL:inL p.Losses L):SI p.Treaties (zzd L) (zzb p.Treaties L)/\0<=zzd L/\zzd L<=4000:=by
 have hb:=zzr hL h.ls;have h1:=zzi hb;have h2:=zzo hL;have h4:=h.l4;exact⟨zzh h.tsOk fun x hx=>by have:=hb x hx; omega,by omega,by omega⟩
theorem zzG{p:Pg}(h:VP p){L:List Int}(hL:inL p.Losses L):MK.fit (oc p L).pays:=by
 obtain⟨h1,h2,h3⟩:=zzF h hL
 exact zzE fun j=>by have:=h1.pays j; omega
theorem zzH{p:Pg}(h:VP p):∀(q A:List (List Int)) (M:Option (Mt->Option Oc)),(∀L∈q,inL p.Losses L)->A.length+q.length<=1500->zzk p M->zt7 p zyt q M (plM p A)=some (zzD p (A++q))
 | [],A,M,_,_,_=>by rw[zt7,List.append_nil]; rfl
 | L::q,A,M,hq,hl,hM=>by
  have hL:=hq L (List.mem_cons_self ..);have h4:=h.l4;obtain⟨M',q1,q2⟩:=zzn h (zzr hL h.ls) (by rw[zzo hL]; omega) hM;rw[zt7]
  show((ztX (wkP p M) L).bind _)=_
  rw[q1,obs]
  show gd (MK.fit (oc p L).pays) _=_
  rw[zqs (zzG h hL)]
  show gd (((zqK (plM p A) (oc p L).pays).getD []).length < 1048576) ((zqL (plM p A) (oc p L).pays ((zqK (plM p A) (oc p L).pays).getD []++[oc p L])).bind _)=_
  rw[zzC,obs,zqs ?_]
  ·show zt7 p zyt q M' (plM p (A++[L]))=_
   rw[zzH h q (A++[L]) M' (fun L hL=>hq L (List.mem_cons_of_mem _ hL)) (by rw[List.length_append]; simp only[List.length_cons,List.length_nil] at hl ⊢; omega) q2,List.append_assoc]; rfl
  ·rw[zzA];have:(grp p A (oc p L).pays).length<=(A.map (oc p)).length:=List.length_filter_le _ _;rw[List.length_map] at this
   simp only[List.length_cons] at hl
   omega
theorem zzI(p:Pg):plM p []=some fun _=>none:=rfl
theorem zzJ{p:Pg}(h:VP p):zt8 p=some (zzD p (zzv p)):=by
 unfold zt8;rw[zyu,obs,zzy h,obs];have:=zzH h (zzv p) [] _ (fun L hL=>zzw.1 hL) (by have:=zzx h; simp only[List.length_nil]; omega) (zzk.nil p);rw[zzI,List.nil_append] at this;exact this
def agN(P:Nat->Int)(rs:List Rpt):Prop:=∀r∈rs,r.Paid.Lo<=P r.Treaty.toNat/\P r.Treaty.toNat<=r.Paid.Hi
def zzK(rs:List Rpt):Prop:=∀r∈rs,0<=r.Treaty/\r.Treaty < 5
theorem VP.rsOk{p:Pg}(h:VP p):zzK p.Reports:=fun r hr=>by have:=(h.rs r hr).1; have:=h.t5; omega
theorem zzL{P:Nat->Int}{rs:List Rpt}(hr:zzK rs)(hs:zr2 rs):Ev (ztS (mk5 P) rs) (agN P rs):=
 (show Ev (ztr rs fun a=>ztR a (mk5 P)) (agN P rs) from Ev.each (l:=rs) (p:=fun a=>ztR a (mk5 P)) (q:=fun r=>r.Paid.Lo<=P r.Treaty.toNat/\P r.Treaty.toNat<=r.Paid.Hi) (fun r hm=>by
  show Ev ((idx (l5 P) r.Treaty).bind _) _
  rw[zyc (hr r hm).1 (hr r hm).2,obs]
  exact zyq.ret) hs.lt gQ).ret
open Classical in
theorem zzM{p:Pg}(h:VP p){A:List (List Int)}(hA:∀L∈A,inL p.Losses L)(ks:List P5):zrm (plM p A) ks↔ks.Nodup/\∀k,k∈ks↔∃L∈A,(oc p L).pays=k:=by
 have hm:∀k,(MK.fit k/\zqK (plM p A) k ≠ none)↔∃L∈A,(oc p L).pays=k:=fun k=>by
  show(MK.fit k/\(if grp p A k=[] then none else some (grp p A k)) ≠ none)↔_
  constructor
  ·rintro⟨_,h2⟩
   by_cases hg:grp p A k=[]
   ·rw[if_pos hg] at h2; exact absurd rfl h2
   ·obtain⟨o,ho⟩:=List.exists_mem_of_ne_nil _ hg;obtain⟨h3,h4⟩:=List.mem_filter.1 ho;obtain⟨L,h5,rfl⟩:=List.mem_map.1 h3;exact⟨L,h5,of_decide_eq_true h4⟩
  ·rintro⟨L,h1,rfl⟩
   refine⟨zzG h (hA L h1),?_⟩;have hg:oc p L∈grp p A (oc p L).pays:=List.mem_filter.2 ⟨List.mem_map.2 ⟨L,h1,rfl⟩,decide_eq_true rfl⟩;rw[if_neg fun he=>by rw[he] at hg; cases hg];exact Option.some_ne_none _
 exact and_congr_right fun _=>forall_congr' fun k=>by rw[hm]
theorem zzN{α:Type}:∀L:List α,∃ks:List α,ks.Nodup/\∀k,k∈ks↔k∈L
 | []=>⟨[],List.nodup_nil,fun _=>Iff.rfl⟩
 | a::L=>by
  obtain⟨ks,h1,h2⟩:=zzN L
  by_cases h:a∈ks
  ·refine⟨ks,h1,fun k=>?_⟩;rw[h2,List.mem_cons];exact⟨.inr,fun hk=>hk.elim (fun he=>by rw[he]; exact(h2 a).1 h) id⟩
  ·exact⟨a::ks,List.nodup_cons.2 ⟨h,h1⟩,fun k=>by rw[List.mem_cons,List.mem_cons,h2]⟩
theorem zzO{p:Pg}(h:VP p){A:List (List Int)}(hA:∀L∈A,inL p.Losses L):∃ks,zrm (plM p A) ks:=by
 obtain⟨ks,h1,h2⟩:=zzN (A.map fun L=>(oc p L).pays);exact⟨ks,(zzM h hA ks).2 ⟨h1,fun k=>(h2 k).trans List.mem_map⟩⟩
def agK(k:P5)(rs:List Rpt):Prop:=∃P,k=mk5 P/\agN P rs
theorem zzP{P:Nat->Int}{rs:List Rpt}(hr:zzK rs):agK (mk5 P) rs↔agN P rs:=by
 refine⟨fun⟨P',h1,h2⟩ r hm=>?_,fun h=>⟨P,rfl,h⟩⟩;have:=hr r hm;have e:=zyd h1 (k:=r.Treaty.toNat) (by omega);rw[e]; exact h2 r hm
theorem zzQ(k:P5):∃f,k=mk5 f:=⟨fun j=>match j with | 0=>k.p0 | 1=>k.p1 | 2=>k.p2 | 3=>k.p3 | _=>k.p4,rfl⟩
theorem zzR{k:P5}{rs:List Rpt}(hr:zzK rs)(hs:zr2 rs):Ev (ztS k rs) (agK k rs):=by
 obtain⟨f,rfl⟩:=zzQ k;exact(zzL hr hs).imp (zzP hr).symm
theorem zzS{w:Wk}{rs:List Rpt}(hr:zzK rs)(hs:zr2 rs):∀(d:Nat) (rem:List P5),rem.length < d->(∀k∈rem,zqK w.played k ≠ none)->Ev (pcanHold_L0 w rs d rem) (∃k∈rem,agK k rs)
 | 0,_,h,_=>by omega
 | d+1,rem,h,hm=>by
  by_cases hex:∃k∈rem,agK k rs
  ·refine⟨true,?_,⟨fun _=>hex,fun _=>rfl⟩⟩;unfold pcanHold_L0
   refine zrt (fun l1 a l2 hrr=>?_) fun hrr=>by subst hrr; obtain⟨k,hk,_⟩:=hex; cases hk
   subst hrr;obtain⟨v,hv⟩:=Option.ne_none_iff_exists'.1 (hm a (by simp));rw[hv,obs];refine(zzR hr hs).pick (fun ha=>by rw[if_pos rfl]) fun ha=>?_;rw[if_neg (by decide)];refine(zzS hr hs d (l1++l2) (by simp only[List.length_append,List.length_cons] at h ⊢; omega) fun k hk=>hm k ?_).some_of ?_
   ·rcases List.mem_append.1 hk with h | h
    ·exact List.mem_append_left _ h
    ·exact List.mem_append_right _ (List.mem_cons_of_mem _ h)
   ·obtain⟨k,hk,h2⟩:=hex;refine⟨k,?_,h2⟩
    rcases List.mem_append.1 hk with h | h
    ·exact List.mem_append_left _ h
    ·rcases List.mem_cons.1 h with h | h
     ·exact absurd (h ▸ h2) ha
     ·exact List.mem_append_right _ h
  ·refine⟨false,?_,⟨fun h=>(by cases h),fun h=>absurd h hex⟩⟩;unfold pcanHold_L0;refine zrt (fun l1 a l2 hrr=>?_) fun hrr=>rfl;subst hrr;obtain⟨v,hv⟩:=Option.ne_none_iff_exists'.1 (hm a (by simp));rw[hv,obs,(zzR hr hs).some_not fun ha=>hex ⟨a,by simp,ha⟩,obs,if_neg (by decide)];refine(zzS hr hs d (l1++l2) (by simp only[List.length_append,List.length_cons] at h ⊢; omega) fun k hk=>hm k ?_).some_not ?_
   ·rcases List.mem_append.1 hk with h | h
    ·exact List.mem_append_left _ h
    ·exact List.mem_append_right _ (List.mem_cons_of_mem _ h)
   ·rintro⟨k,hk,h2⟩
    refine hex ⟨k,?_,h2⟩
    rcases List.mem_append.1 hk with h | h
    ·exact List.mem_append_left _ h
    ·exact List.mem_append_right _ (List.mem_cons_of_mem _ h)
def zzT(p:Pg)(rs:List Rpt):Prop:=∃L,inL p.Losses L/\agN (zzb p.Treaties L).pays rs
theorem zzU{p:Pg}(h:VP p){rs:List Rpt}(hr:zzK rs)(hs:zr2 rs):Ev (zt9 (zzD p (zzv p)) rs) (zzT p rs):=by
 have hA:∀L∈zzv p,inL p.Losses L:=fun L hL=>zzw.1 hL;obtain⟨ks0,h0⟩:=zzO h hA
 have key:∀ks,zrm (plM p (zzv p)) ks->Ev (pcanHold_L0 (zzD p (zzv p)) rs (ks.length+1) ks) (zzT p rs):=fun ks hk=>by
  have h2:=((zzM h hA ks).1 hk).2;refine(zzS hr hs _ ks (by omega) fun k hkk=>((hk.2 k).1 hkk).2).imp ⟨?_,?_⟩
  ·rintro⟨k,hk1,hk2⟩
   obtain⟨L,hL,rfl⟩:=(h2 k).1 hk1;exact⟨L,hA L hL,(zzP hr).1 hk2⟩
  ·rintro⟨L,hL,h3⟩
   exact⟨_,(h2 _).2 ⟨L,zzw.2 hL,rfl⟩,(zzP hr).2 h3⟩
 unfold zt9
 by_cases hc:zzT p rs
 ·exact⟨true,zrp h0 fun ks hk=>(key ks hk).some_of hc,⟨fun _=>hc,fun _=>rfl⟩⟩
 ·exact⟨false,zrp h0 fun ks hk=>(key ks hk).some_not hc,⟨fun h=>(by cases h),fun h=>absurd h hc⟩⟩
end
end Go.Proofs.YtkcmdghjgoaggaaGreat

