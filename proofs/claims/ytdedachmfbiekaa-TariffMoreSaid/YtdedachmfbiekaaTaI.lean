/- An evaluator of code, its soundness, and what functions of the program do. Condition: none; a lemma text. -/
import Derived.Test.YtdedachmfbiekaaTaH

namespace Go.Proofs.Ytdedachmfbiekaa
open _root_.Go.Proofs.Try
open Go.Abs
set_option maxRecDepth 100000
noncomputable section
def zvY(f:M)(x:C)(g:Tf->Option (Bool)):Prop:=∀(f' m:M) (a0:Tf) (c0 c1 c2:C) (r:Bool) (Q:V->M->Prop),Sub f f'->Pre f' m->Sl f' c0 a0.Weeks->Sl f' c1 a0.Counts->Sl f' c2 a0.Rates->g a0=some r->(∀m',Ext m m'->Q (.c (.bool r)) m')->znJ prog tbl [.agg 6 [(.int .i64 a0.From),.bool a0.Whole,(.int .i64 a0.Least),c0,c1,c2]] x m Q
theorem zvY.sub{f m:M}{x:C}{g:Tf->Option (Bool)}(h:zvY f x g)(s:Sub f m):zvY m x g:=fun f' m' a0 c0 c1 c2 r Q hs=>h f' m' a0 c0 c1 c2 r Q (s.trans hs)
def zvZ(f:M)(x:C)(g:Clm->Option (Bool)):Prop:=∀(f' m:M) (a0:Clm) (r:Bool) (Q:V->M->Prop),Sub f f'->Pre f' m->g a0=some r->(∀m',Ext m m'->Q (.c (.bool r)) m')->znJ prog tbl [.agg 6 [(.int .i64 a0.Crop),(.int .i64 a0.Value),(.int .i64 a0.Day.Lo),(.int .i64 a0.Day.Hi),(.int .i64 a0.Count.Lo),(.int .i64 a0.Count.Hi)]] x m Q
theorem zvZ.sub{f m:M}{x:C}{g:Clm->Option (Bool)}(h:zvZ f x g)(s:Sub f m):zvZ m x g:=fun f' m' a0 r Q hs=>h f' m' a0 r Q (s.trans hs)
def zv0(f:M)(x:C)(g:Int->Option (Bool)):Prop:=∀(f' m:M) (a0:Int) (r:Bool) (Q:V->M->Prop),Sub f f'->Pre f' m->g a0=some r->(∀m',Ext m m'->Q (.c (.bool r)) m')->znJ prog tbl [.c (.int .i64 a0)] x m Q
theorem zv0.sub{f m:M}{x:C}{g:Int->Option (Bool)}(h:zv0 f x g)(s:Sub f m):zv0 m x g:=fun f' m' a0 r Q hs=>h f' m' a0 r Q (s.trans hs)
def zv1(f:M)(x:C)(g:List Int->Option (Bool)):Prop:=∀(f' m:M) (a0:List Int) (c0:C) (r:Bool) (Q:V->M->Prop),Sub f f'->Pre f' m->Sl f' c0 a0->g a0=some r->(∀m',Ext m m'->Q (.c (.bool r)) m')->znJ prog tbl [.c c0] x m Q
theorem zv1.sub{f m:M}{x:C}{g:List Int->Option (Bool)}(h:zv1 f x g)(s:Sub f m):zv1 m x g:=fun f' m' a0 c0 r Q hs=>h f' m' a0 c0 r Q (s.trans hs)
def zv2(f:M)(x:C)(g:List (List Int)->Option (Bool)):Prop:=∀(f' m:M) (a0:List (List Int)) (c0:C) (r:Bool) (Q:V->M->Prop),Sub f f'->Pre f' m->Sl f' c0 a0->g a0=some r->(∀m',Ext m m'->Q (.c (.bool r)) m')->znJ prog tbl [.c c0] x m Q
theorem zv2.sub{f m:M}{x:C}{g:List (List Int)->Option (Bool)}(h:zv2 f x g)(s:Sub f m):zv2 m x g:=fun f' m' a0 c0 r Q hs=>h f' m' a0 c0 r Q (s.trans hs)
def zv3(f:M)(x:C)(g:Tf->Int->Option (Int)):Prop:=∀(f' m:M) (a0:Tf) (a1:Int) (c0 c1 c2:C) (r:Int) (Q:V->M->Prop),Sub f f'->Pre f' m->Sl f' c0 a0.Weeks->Sl f' c1 a0.Counts->Sl f' c2 a0.Rates->g a0 a1=some r->(∀m',Ext m m'->Q (.c (.int .i64 r)) m')->znJ prog tbl [.agg 6 [(.int .i64 a0.From),.bool a0.Whole,(.int .i64 a0.Least),c0,c1,c2],.c (.int .i64 a1)] x m Q
theorem zv3.sub{f m:M}{x:C}{g:Tf->Int->Option (Int)}(h:zv3 f x g)(s:Sub f m):zv3 m x g:=fun f' m' a0 a1 c0 c1 c2 r Q hs=>h f' m' a0 a1 c0 c1 c2 r Q (s.trans hs)
def zv4(mc:C)(f:M)(x:C)(g:Tr->Tr->(Option (Ht->Option (Int)))->Option (Int × Option (Ht->Option (Int)))):Prop:=∀(f' m:M) (a0:Tr) (a1:Tr) (M0:Option (Ht->Option (Int))) (r:Int × Option (Ht->Option (Int))) (Q:V->M->Prop),Sub f f'->Pre f' m->Mc f' m mc M0->g a0 a1 M0=some r->(∀m',zrY mc m m'->Mi m' mc r.2->Q (.c (.int .i64 r.1)) m')->znJ prog tbl [.agg 2 [(.int .i64 a0.Day),(.int .i64 a0.Count)],.agg 2 [(.int .i64 a1.Day),(.int .i64 a1.Count)]] x m Q
theorem zv4.sub{mc:C}{f m:M}{x:C}{g:Tr->Tr->(Option (Ht->Option (Int)))->Option (Int × Option (Ht->Option (Int)))}(h:zv4 mc f x g)(s:Sub f m):zv4 mc m x g:=fun f' m' a0 a1 M0 r Q hs=>h f' m' a0 a1 M0 r Q (s.trans hs)
theorem zv5:KL prog 103 Ht:=zr3 (n:=3) (ks:=[.int .i64,.int .i64,.int .i64]) (by kernel_rfl) (by kernel_rfl) (cs:=fun k=>[.int .i64 k.Day,.int .i64 k.Count,.int .i64 k.crop]) (fun _=>rfl) fun a b fa fb=>⟨_,_,(zr2 (zrZ fa.1 fb.1) (zr2 (zrZ fa.2.1 fb.2.1) (zr2 (zrZ fa.2.2.1 fb.2.2.1) zr1))),⟨fun h=>by obtain⟨aDay,aCount,acrop⟩:=a; obtain⟨bDay,bCount,bcrop⟩:=b; simp_all,fun h=>by subst h; exact⟨rfl,rfl,rfl,trivial⟩⟩⟩
theorem zv6:TA prog 22 6:=⟨84,by kernel_rfl,by kernel_rfl,by kernel_rfl⟩
theorem zv7:TA prog 28 6:=⟨76,by kernel_rfl,by kernel_rfl,by kernel_rfl⟩
theorem zv8:TA prog 64 6:=⟨39,by kernel_rfl,by kernel_rfl,by kernel_rfl⟩
theorem zv9:TA prog 67 6:=⟨45,by kernel_rfl,by kernel_rfl,by kernel_rfl⟩
theorem zwa:TA prog 73 1:=⟨3,by kernel_rfl,by kernel_rfl,by kernel_rfl⟩
theorem zwb:TA prog 74 1:=⟨77,by kernel_rfl,by kernel_rfl,by kernel_rfl⟩
theorem zwc:TA prog 77 1:=⟨73,by kernel_rfl,by kernel_rfl,by kernel_rfl⟩
theorem zwd:TA prog 110 2:=⟨47,by kernel_rfl,by kernel_rfl,by kernel_rfl⟩
theorem zwe{m f:M}{Q:V->M->Prop}{rz:Bool}(_hS:Pre f m)(hp:zsW=some rz)(hq:∀m',Ext m m'->Q (.c (.bool rz)) m'):Wc prog tbl 17 [] m Q:=by
 obtain rfl:=oi hp;exact zqW (show zlA tbl 17=some true from rfl) (hq _ (.refl m))
theorem zwf{n:Int}{low:Int}{high:Int}{m f:M}{Q:V->M->Prop}{rz:Bool}(hS:Pre f m)(hp:zsX n low high=some rz)(hq:∀m',Ext m m'->Q (.c (.bool rz)) m'):Wc prog tbl 22 [.c (Il n),.c (Il low),.c (Il high)] m Q:=by
 have d:=hS.st;obtain⟨e,_⟩:=zsO;refine w22 ?_;unfold zsX at hp;refine ifd hp (fun a hp=>?_) fun a hp=>?_
 ·obtain rfl:=oi hp;exact hq _ d.ext'
 obtain rfl:=oi hp;exact hq _ d.ext'
theorem zwg{l:List Int}{most:Int}{ca100:C}{m f:M}{Q:V->M->Prop}{rz:Bool}(hS:Pre f m)(ha100:Sl f ca100 l)(hp:zsY l most=some rz)(hq:∀m',Ext m m'->Q (.c (.bool rz)) m'):Wc prog tbl 101 [.c ca100,.c (Il most)] m Q:=by
 have S0:=hS.st;obtain⟨τ0,_⟩:=zsO;refine zvP ?_;unfold zsY at hp;intro R0 aa
 have hgo:∀(g:Nat) (D:Bool) (u:Int) (w:M) (e:Nat->Nat),St (Fm.of m) f f w->prRises_L0 l most g u=some rz->R0 [.c (.bool D),.c (Il u)] w:=by
  intro g
  induction g with
  | zero=>intro D u w e a hp; cases hp
  | succ g t=>
   intro D u w e a hp;refine aa _ _ _ ?_;rw[prRises_L0] at hp;refine⟨ha100.isSl,?_⟩
   try rw[ha100.slLen]
   refine ifd hp (fun F hp=>?_) fun F hp=>?_; rotate_left
   ·refine⟨ha100.isSl,?_⟩
    try rw[ha100.slLen]
    refine ifd hp (fun G hp=>?_) fun G hp=>?_; rotate_left
    ·obtain rfl:=oi hp;exact hq _ a.ext'
    obtain⟨ga,h,hp⟩:=zrB hp;obtain⟨ba,y,p,h⟩:=zrv h;refine⟨ba,y,(by first|exact p|(rw[ha100.slLen];exact p)),_,(ha100.rdI h a.sub),?_⟩;obtain rfl:=oi hp;exact hq _ a.ext'
   obtain⟨I,i,hp⟩:=zrB hp;obtain⟨n4,z,q,i⟩:=zrv i;refine⟨n4,z,(by first|exact q|(rw[ha100.slLen];exact q)),_,(ha100.rdI i a.sub),?_⟩;obtain⟨ia,J,hp⟩:=zrB hp;refine zwf (n:=I) (low:=(0:Int)) (high:=most) a.pre  J fun m7 N=>?_;obtain⟨d,ja⟩:=a.call N e;refine⟨_,rfl,?_⟩;refine zsb hp (fun O hp=>?_) fun O hp=>?_
   ·obtain rfl:=oi hp;exact hq _ d.ext'
   refine ifd hp (fun P hp=>?_) fun P hp=>?_; rotate_left
   ·refine gdi hp fun S hp=>?_;exact t _ _ _ e d hp
   obtain⟨ka,j,hp⟩:=zrB hp;obtain⟨n9,A,r,j⟩:=zrv j;refine⟨n9,A,(by first|exact r|(rw[ha100.slLen];exact r)),_,(ha100.rdI j d.sub),?_⟩;refine gdi hp fun T hp=>?_;obtain⟨ma,o,hp⟩:=zrB hp;obtain⟨ca,B,s,o⟩:=zrv o;refine⟨ca,B,(by first|exact s|(rw[ha100.slLen];exact s)),_,(ha100.rdI o d.sub),?_⟩;refine ifd hp (fun Y hp=>?_) fun Y hp=>?_
   ·obtain rfl:=oi hp;exact hq _ d.ext'
   refine gdi hp fun Z hp=>?_;exact t _ _ _ e d hp
 exact hgo _ _ _ _ τ0 S0 hp
theorem zwh{t:Tf}{ca103 ca104 ca105:C}{m f:M}{Q:V->M->Prop}{rz:Bool}(hS:Pre f m)(ha103:Sl f ca103 t.Weeks)(ha104:Sl f ca104 t.Counts)(ha105:Sl f ca105 t.Rates)(hp:zs2 t=some rz)(hq:∀m',Ext m m'->Q (.c (.bool rz)) m'):Wc prog tbl 81 [.agg 6 [Il t.From,.bool t.Whole,Il t.Least,ca103,ca104,ca105]] m Q:=by
 have S0:=hS.st;obtain⟨τ0,_⟩:=zsO;refine w81 ?_;unfold zs2 at hp;intro m0 Ia;obtain⟨i,ja,Mb,ka⟩:=S0.blk Ia τ0 1;refine⟨trivial,_,ka.bk.rc rfl,?_⟩;obtain⟨Nb,Ja,hp⟩:=zrB hp;refine zwf (n:=t.From) (low:=(0:Int)) (high:=(120:Int)) ja.pre  Ja fun m3 Ka=>?_;obtain⟨B,La⟩:=ja.call Ka i;have la:=ka.k La;refine⟨_,rfl,?_⟩;refine zsb hp (fun Ma hp=>?_) fun Ma hp=>?_
 ·obtain rfl:=oi hp;exact hq _ B.ext'
 refine⟨trivial,_,la.bk.rc rfl,?_⟩;obtain⟨Ob,Na,hp⟩:=zrB hp;refine zwf (n:=t.Least) (low:=(0:Int)) (high:=(100:Int)) B.pre  Na fun m7 Oa=>?_;obtain⟨D,Pa⟩:=B.call Oa i;have ma:=la.k Pa;refine⟨_,rfl,?_⟩;refine zsb hp (fun Qa hp=>?_) fun Qa hp=>?_
 ·obtain rfl:=oi hp;exact hq _ D.ext'
 refine⟨trivial,_,ma.bk.rc rfl,?_⟩;obtain⟨Pb,Ra,hp⟩:=zrB hp;refine zwg (l:=t.Weeks) (most:=(120:Int)) D.pre ha103 Ra fun dc Sa=>?_;obtain⟨F,Ta⟩:=D.call Sa i;have na:=ma.k Ta;refine⟨_,rfl,?_⟩;refine zsb hp (fun Ua hp=>?_) fun Ua hp=>?_
 ·obtain rfl:=oi hp;exact hq _ F.ext'
 refine⟨trivial,_,na.bk.rc rfl,?_⟩;obtain⟨Qb,Va,hp⟩:=zrB hp;refine zwg (l:=t.Counts) (most:=(100:Int)) F.pre ha104 Va fun ec Wa=>?_;obtain⟨j,Xa⟩:=F.call Wa i;have a:=na.k Xa;refine⟨_,rfl,?_⟩;refine zsb hp (fun Ya hp=>?_) fun Ya hp=>?_
 ·obtain rfl:=oi hp;exact hq _ j.ext'
 refine⟨trivial,_,a.bk.rc rfl,trivial,_,a.bk.rc rfl,ha104.isSl,?_⟩;obtain⟨oa,hp⟩:=zrC hp;refine⟨(by first|exact oa|(rw[ha104.slLen];exact oa)),?_⟩;obtain⟨Rb,G,hp⟩:=zrB hp;obtain⟨zb,T,Y,G⟩:=zrv G;refine⟨zb,(by first|exact T|(rw[ha104.slLen];exact T)),(by first|exact Y|(rw[ha104.slLen];exact Y)),_,(ha104.rdI G j.sub),?_⟩;refine zr9 hp (fun Za hp=>?_) fun Za hp=>?_
 ·obtain rfl:=oi hp;exact hq _ j.ext'
 refine⟨trivial,_,a.bk.rc rfl,ha105.isSl,?_⟩
 try rw[ha105.slLen]
 refine ifd hp (fun ab hp=>?_) fun ab hp=>?_
 ·obtain rfl:=oi hp;exact hq _ j.ext'
 intro Ab bb
 have hgo:∀(e:Nat) (Z:Bool) (pa:Bool) (qa:Bool) (o:Int) (w:M) (s:Nat->Nat),St (Fm.of m) f f w->Lb (Fm.of m) f s w 1 m.nxt 6 [Il t.From,.bool t.Whole,Il t.Least,ca103,ca104,ca105]->zs1 t e Z o=some rz->Ab [.c (.bool Z),.c (.bool pa),.c (.bool qa),.c (Il o)] w:=by
  intro e
  induction e with
  | zero=>intro Z pa qa o w s p a hp; cases hp
  | succ e za=>
   intro Z pa qa o w s p a hp;refine bb _ _ _ _ _ ?_;rw[zs1] at hp;refine⟨trivial,_,a.bk.rc rfl,ha105.isSl,?_⟩
   try rw[ha105.slLen]
   refine ifd hp (fun cb hp=>?_) fun cb hp=>?_; rotate_left
   ·obtain rfl:=oi hp;exact hq _ p.ext'
   refine⟨trivial,_,a.bk.rc rfl,?_⟩;obtain⟨Sb,I,hp⟩:=zrB hp;obtain⟨Bb,Aa,aa,I⟩:=zrv I;obtain⟨Tb,db,sa⟩:=ha105.rdS I;refine⟨Bb,Aa,(by first|exact aa|(rw[ha105.slLen];exact aa)),_,(db _ p.sub),sa.isSl,trivial,_,a.bk.rc rfl,ha103.isSl,?_⟩
   try rw[sa.slLen]
   try rw[ha103.slLen]
   refine zr9 hp (fun eb hp=>?_) fun eb hp=>?_
   ·obtain rfl:=oi hp;exact hq _ p.ext'
   intro Cb fb
   have hgo:∀(q:Nat) (ba:Bool) (ta:Bool) (y:Int) (z:M) (r:Nat->Nat),St (Fm.of m) f f z->Lb (Fm.of m) f r z 1 m.nxt 6 [Il t.From,.bool t.Whole,Il t.Least,ca103,ca104,ca105]->zs0 t o (zs1 t e) q ba y=some rz->Cb [.c (.bool ba),.c (.bool ta),.c (Il y)] z:=by
    intro q
    induction q with
    | zero=>intro ba ta y z r g a hp; cases hp
    | succ q Ba=>
     intro ba ta y z r g a hp;refine fb _ _ _ _ ?_;rw[zs0] at hp;refine⟨trivial,_,a.bk.rc rfl,ha103.isSl,?_⟩
     try rw[ha103.slLen]
     refine ifd hp (fun gb hp=>?_) fun gb hp=>?_; rotate_left
     ·refine gdi hp fun hb hp=>?_;exact za _ _ _ _ _ r g a hp
     refine⟨trivial,_,a.bk.rc rfl,?_⟩;obtain⟨Ub,J,hp⟩:=zrB hp;obtain⟨Db,Ca,ca,J⟩:=zrv J;obtain⟨Vb,ib,ua⟩:=ha105.rdS J;refine⟨Db,Ca,(by first|exact ca|(rw[ha105.slLen];exact ca)),_,(ib _ g.sub),?_⟩;obtain⟨Wb,N,hp⟩:=zrB hp;obtain⟨Eb,Da,da,N⟩:=zrv N;obtain⟨Xb,jb,va⟩:=ua.rdS N;refine⟨Eb,Da,(by first|exact da|(rw[ua.slLen];exact da)),_,(jb _ g.sub),va.isSl,trivial,_,a.bk.rc rfl,ha104.isSl,?_⟩
     try rw[va.slLen]
     try rw[ha104.slLen]
     refine zr9 hp (fun kb hp=>?_) fun kb hp=>?_
     ·obtain rfl:=oi hp;exact hq _ g.ext'
     intro Fb mb
     have hgo:∀(u:Nat) (ea:Bool) (fa:Int) (A:M) (h:Nat->Nat),St (Fm.of m) f f A->Lb (Fm.of m) f h A 1 m.nxt 6 [Il t.From,.bool t.Whole,Il t.Least,ca103,ca104,ca105]->zsZ t o y (zs0 t o (zs1 t e) q) u ea fa=some rz->Fb [.c (.bool ea),.c (Il fa)] A:=by
      intro u
      induction u with
      | zero=>intro ea fa A h d a hp; cases hp
      | succ u Ea=>
       intro ea fa A h d a hp;refine mb _ _ _ ?_;rw[zsZ] at hp;refine⟨trivial,_,a.bk.rc rfl,ha104.isSl,?_⟩
       try rw[ha104.slLen]
       refine ifd hp (fun ob hp=>?_) fun ob hp=>?_; rotate_left
       ·refine gdi hp fun pb hp=>?_;exact Ba _ _ _ _ h d a hp
       refine⟨trivial,_,a.bk.rc rfl,?_⟩;obtain⟨Yb,O,hp⟩:=zrB hp;obtain⟨Gb,Fa,ga,O⟩:=zrv O;obtain⟨Zb,qb,wa⟩:=ha105.rdS O;refine⟨Gb,Fa,(by first|exact ga|(rw[ha105.slLen];exact ga)),_,(qb _ d.sub),?_⟩;obtain⟨ac,P,hp⟩:=zrB hp;obtain⟨Hb,Ga,ha,P⟩:=zrv P;obtain⟨bc,rb,xa⟩:=wa.rdS P;refine⟨Hb,Ga,(by first|exact ha|(rw[wa.slLen];exact ha)),_,(rb _ d.sub),?_⟩;obtain⟨sb,S,hp⟩:=zrB hp;obtain⟨Ib,Ha,ia,S⟩:=zrv S;refine⟨Ib,Ha,(by first|exact ia|(rw[xa.slLen];exact ia)),_,(xa.rdI S d.sub),?_⟩;obtain⟨cc,tb,hp⟩:=zrB hp;refine zwf (n:=sb) (low:=(0:Int)) (high:=(100:Int)) d.pre  tb fun fc ub=>?_;obtain⟨ya,vb⟩:=d.call ub h;have wb:=a.k vb;refine⟨_,rfl,?_⟩;refine zsb hp (fun xb hp=>?_) fun xb hp=>?_
       ·obtain rfl:=oi hp;exact hq _ ya.ext'
       refine gdi hp fun yb hp=>?_;exact Ea _ _ _ h ya wb hp
     exact hgo _ _ _ _ r g a hp
   exact hgo _ _ _ _ _ s p a hp
 exact hgo _ _ _ _ _ _ i j a hp
theorem zwi{l:List Tf}{ca100:C}{m f:M}{Q:V->M->Prop}{rz:Int}(hS:Pre f m)(ha100:Sl f ca100 l)(hp:zs5 l=some rz)(hq:∀m',Ext m m'->Q (.c (Il rz)) m'):Wc prog tbl 59 [.c ca100] m Q:=by
 have S0:=hS.st;obtain⟨τ0,_⟩:=zsO;refine w59 ?_;unfold zs5 at hp;refine⟨ha100.isSl,?_⟩
 try rw[ha100.slLen]
 refine ifd hp (fun wa hp=>?_) fun wa hp=>?_
 ·obtain rfl:=oi hp;exact hq _ S0.ext'
 intro R0 ob
 have hgo:∀(i:Nat) (x1:Int) (x2:Int) (m3:M) (j:Nat->Nat),St (Fm.of m) f f m3->zs4 l i x1 x2=some rz->R0 [.c (Il x1),.c (Il x2)] m3:=by
  intro i
  induction i with
  | zero=>intro x1 x2 m3 j d hp; cases hp
  | succ i xa=>
   intro x1 x2 m3 j d hp;refine ob _ _ _ ?_;rw[zs4] at hp;refine⟨ha100.isSl,?_⟩
   try rw[ha100.slLen]
   refine ifd hp (fun ya hp=>?_) fun ya hp=>?_
   ·obtain⟨Ab,n,hp⟩:=zrB hp;obtain⟨n4,ka,D,n⟩:=zrv n;obtain⟨Cb,Db,Eb,za,ba,Fb,Gb⟩:=zsR ha100 n;refine⟨n4,ka,(by first|exact D|(rw[ha100.slLen];exact D)),(ha100.isPt n _),_,((za _ d.sub).2.1 3 _ rfl),ba.isSl,?_⟩
    try rw[ba.slLen]
    refine ifd hp (fun Aa hp=>?_) fun Aa hp=>?_
    ·obtain rfl:=oi hp;exact hq _ d.ext'
    obtain⟨Hb,o,hp⟩:=zrB hp;obtain⟨n6,la,F,o⟩:=zrv o;obtain⟨Jb,Kb,Mb,Ba,Nb,ca,Ob⟩:=zsR ha100 o;refine⟨n6,la,(by first|exact F|(rw[ha100.slLen];exact F)),(ha100.isPt o _),_,((Ba _ d.sub).2.1 4 _ rfl),ca.isSl,?_⟩
    try rw[ca.slLen]
    refine ifd hp (fun Ca hp=>?_) fun Ca hp=>?_
    ·obtain rfl:=oi hp;exact hq _ d.ext'
    obtain⟨Pb,p,hp⟩:=zrB hp;obtain⟨n8,ma,G,p⟩:=zrv p;obtain⟨Rb,Sb,Tb,Da,Ub,Vb,da⟩:=zsR ha100 p;refine⟨n8,ma,(by first|exact G|(rw[ha100.slLen];exact G)),(ha100.isPt p _),_,((Da _ d.sub).2.1 5 _ rfl),da.isSl,?_⟩
    try rw[da.slLen]
    refine ifd hp (fun Ea hp=>?_) fun Ea hp=>?_
    ·obtain rfl:=oi hp;exact hq _ d.ext'
    refine gdi hp fun Fa hp=>?_;exact xa _ _ _ j d hp
   intro pb Ga
   have hgo:∀(q:Nat) (ea:Int) (I:Int) (J:M) (e:Nat->Nat),St (Fm.of m) f f J->zs3 l q I=some rz->pb [.c (Il ea),.c (Il I)] J:=by
    intro q
    induction q with
    | zero=>intro ea I J e g hp; cases hp
    | succ q h=>
     intro ea I J e g hp;refine Ga _ _ _ ?_;rw[zs3] at hp;refine⟨ha100.isSl,?_⟩
     try rw[ha100.slLen]
     refine ifd hp (fun Ha hp=>?_) fun Ha hp=>?_; rotate_left
     ·refine⟨ha100.isSl,?_⟩
      try rw[ha100.slLen]
      refine ifd hp (fun Ia hp=>?_) fun Ia hp=>?_
      ·obtain rfl:=oi hp;exact hq _ g.ext'
      obtain rfl:=oi hp;exact hq _ g.ext'
     obtain⟨Ja,B,hp⟩:=zrB hp;obtain⟨qb,na,N,B⟩:=zrv B;obtain⟨Wb,Xb,Yb,Ka,La,Ma,Na⟩:=zsR ha100 B;refine⟨qb,na,(by first|exact N|(rw[ha100.slLen];exact N)),_,_,_,_,_,_,(Ka _ g.sub).1,?_⟩;obtain⟨Zb,Oa,hp⟩:=zrB hp;refine zwh (t:=Ja) g.pre La Ma Na Oa fun dd Pa=>?_;obtain⟨a,ac⟩:=g.call Pa e;refine⟨_,rfl,?_⟩;refine zsb hp (fun Qa hp=>?_) fun Qa hp=>?_
     ·obtain rfl:=oi hp;exact hq _ a.ext'
     obtain⟨bc,r,hp⟩:=zrB hp;obtain⟨rb,oa,O,r⟩:=zrv r;obtain⟨cc,dc,ec,Ra,fc,gc,fa⟩:=zsR ha100 r;refine⟨rb,oa,(by first|exact O|(rw[ha100.slLen];exact O)),(ha100.isPt r _),_,((Ra _ a.sub).2.1 5 _ rfl),fa.isSl,?_⟩;obtain⟨hc,s,hp⟩:=zrB hp;obtain⟨sb,pa,P,s⟩:=zrv s;obtain⟨ic,jc,kc,Sa,nc,oc,ga⟩:=zsR ha100 s;refine⟨sb,pa,(by first|exact P|(rw[ha100.slLen];exact P)),(ha100.isPt s _),_,((Sa _ a.sub).2.1 5 _ rfl),ga.isSl,?_⟩
     try rw[fa.slLen]
     try rw[ga.slLen]
     refine zr9 hp (fun Ta hp=>?_) fun Ta hp=>?_
     ·obtain rfl:=oi hp;exact hq _ a.ext'
     refine ifd hp (fun Ua hp=>?_) fun Ua hp=>?_; rotate_left
     ·refine ifd hp (fun Va hp=>?_) fun Va hp=>?_; rotate_left
      ·refine gdi hp fun Wa hp=>?_;exact h _ _ _ e a hp
      obtain⟨pc,u,hp⟩:=zrB hp;obtain⟨tb,qa,S,u⟩:=zrv u;obtain⟨qc,sc,tc,Xa,uc,vc,wc⟩:=zsR ha100 u;refine⟨tb,qa,(by first|exact S|(rw[ha100.slLen];exact S)),(ha100.isPt u _),_,((Xa _ a.sub).2.1 0 _ rfl),?_⟩;refine gdi hp fun Ya hp=>?_;obtain⟨xc,w,hp⟩:=zrB hp;obtain⟨ub,sa,T,w⟩:=zrv w;obtain⟨yc,zc,Ac,Za,Bc,Cc,Dc⟩:=zsR ha100 w;refine⟨ub,sa,(by first|exact T|(rw[ha100.slLen];exact T)),(ha100.isPt w _),_,((Za _ a.sub).2.1 0 _ rfl),?_⟩;refine ifd hp (fun ab hp=>?_) fun ab hp=>?_
      ·obtain rfl:=oi hp;exact hq _ a.ext'
      refine gdi hp fun bb hp=>?_;exact h _ _ _ e a hp
     obtain⟨Ec,y,hp⟩:=zrB hp;obtain⟨vb,ta,Y,y⟩:=zrv y;obtain⟨Fc,Gc,Hc,cb,Ic,Jc,Kc⟩:=zsR ha100 y;refine⟨vb,ta,(by first|exact Y|(rw[ha100.slLen];exact Y)),(ha100.isPt y _),_,((cb _ a.sub).2.1 0 _ rfl),?_⟩;refine zr9 hp (fun db hp=>?_) fun db hp=>?_
     ·obtain rfl:=oi hp;exact hq _ a.ext'
     refine ifd hp (fun eb hp=>?_) fun eb hp=>?_; rotate_left
     ·refine gdi hp fun fb hp=>?_;exact h _ _ _ e a hp
     obtain⟨Nc,z,hp⟩:=zrB hp;obtain⟨wb,ua,Z,z⟩:=zrv z;obtain⟨Oc,Pc,Qc,gb,Rc,Tc,Uc⟩:=zsR ha100 z;refine⟨wb,ua,(by first|exact Z|(rw[ha100.slLen];exact Z)),(ha100.isPt z _),_,((gb _ a.sub).2.1 0 _ rfl),?_⟩;refine gdi hp fun hb hp=>?_;obtain⟨Vc,A,hp⟩:=zrB hp;obtain⟨xb,va,aa,A⟩:=zrv A;obtain⟨Xc,Yc,Zc,ib,ad,bd,cd⟩:=zsR ha100 A;refine⟨xb,va,(by first|exact aa|(rw[ha100.slLen];exact aa)),(ha100.isPt A _),_,((ib _ a.sub).2.1 0 _ rfl),?_⟩;refine ifd hp (fun jb hp=>?_) fun jb hp=>?_
     ·obtain rfl:=oi hp;exact hq _ a.ext'
     refine gdi hp fun kb hp=>?_;exact h _ _ _ e a hp
   exact hgo _ _ _ _ j d hp
 exact hgo _ _ _ _ τ0 S0 hp
theorem zwj{l:List Int}{n:Int}{ca100:C}{m f:M}{Q:V->M->Prop}{rz:Int}(hS:Pre f m)(ha100:Sl f ca100 l)(hp:zs7 l n=some rz)(hq:∀m',Ext m m'->Q (.c (Il rz)) m'):Wc prog tbl 52 [.c ca100,.c (Il n)] m Q:=by
 have y:=hS.st;obtain⟨z,_⟩:=zsO;refine w52 ?_;unfold zs7 at hp;intro A w
 have hgo:∀(d:Nat) (i:Int) (j:M) (e:Nat->Nat),St (Fm.of m) f f j->zs6 l n d i=some rz->A [.c (Il i)] j:=by
  intro d
  induction d with
  | zero=>intro i j e a hp; cases hp
  | succ d p=>
   intro i j e a hp;refine w _ _ ?_;rw[zs6] at hp;obtain⟨q,hp⟩:=zrC hp;refine⟨q,ha100.isSl,?_⟩
   try rw[ha100.slLen]
   refine ifd hp (fun r hp=>?_) fun r hp=>?_; rotate_left
   ·obtain rfl:=oi hp;exact hq _ a.ext'
   refine gdi hp fun s hp=>?_;obtain⟨B,g,hp⟩:=zrB hp;obtain⟨D,o,h,g⟩:=zrv g;refine⟨D,o,(by first|exact h|(rw[ha100.slLen];exact h)),_,(ha100.rdI g a.sub),?_⟩;refine ifd hp (fun t hp=>?_) fun t hp=>?_; rotate_left
   ·obtain rfl:=oi hp;exact hq _ a.ext'
   refine gdi hp fun u hp=>?_;exact p _ _ e a hp
 exact hgo _ _ _ z y hp
theorem zwk{l:List Tf}{day:Int}{ca100:C}{m f:M}{Q:V->M->Prop}{rz:Tf}(hS:Pre f m)(ha100:Sl f ca100 l)(hp:zs9 l day=some rz)(hq:∀m' f' c3 c4 c5,Grw m f m' f'->Sl f' c3 rz.Weeks->Sl f' c4 rz.Counts->Sl f' c5 rz.Rates->Q (.agg 6 [Il rz.From,.bool rz.Whole,Il rz.Least,c3,c4,c5]) m'):Wc prog tbl 50 [.c ca100,.c (Il day)] m Q:=by
 have S0:=hS.st;obtain⟨τ0,_⟩:=zsO;refine w50 ?_;unfold zs9 at hp;intro m0 N;obtain⟨O,P,Ea,d⟩:=S0.blk N τ0 1;intro R1 Aa
 have hgo:∀(i:Nat) (F:C) (G:Int) (e:List Int) (u:M) (g:Nat->Nat),St (Fm.of m) f f u->Lb (Fm.of m) f g u 1 m.nxt 6 [Il 0,.bool false,Il 0,.sl0,.sl0,.sl0]->Ow (Fm.of m) f g u 2 F e->zs8 l day i e G=some rz->R1 [.c F,.c (Il G)] u:=by
  intro i
  induction i with
  | zero=>intro F G e u g j d p hp; cases hp
  | succ i S=>
   intro F G e u g j d p hp;refine Aa _ _ _ ?_;rw[zs8] at hp;refine⟨ha100.isSl,?_⟩
   try rw[ha100.slLen]
   refine ifd hp (fun T hp=>?_) fun T hp=>?_
   ·obtain⟨w,o,hp⟩:=zrB hp;obtain⟨n5,I,s,o⟩:=zrv o;obtain⟨Ha,Ia,Ja,Y,Ka,La,Ma⟩:=zsR ha100 o;refine⟨n5,I,(by first|exact s|(rw[ha100.slLen];exact s)),(ha100.isPt o _),_,((Y _ j.sub).2.1 0 _ rfl),?_⟩;obtain⟨Z,hp⟩:=zrC hp;intro m7 aa;obtain⟨ba,ca,da,ea,fa,ga,ha⟩:=p.app' zwa j (a:=w.From) (show Rp.rep (α:=Int) f _ w.From from rfl) Z aa;have ia:=d.k ga;refine⟨ba,ca,ea,?_⟩;refine gdi hp fun ja hp=>?_;exact S _ _ _ _ da fa ia ha hp
   obtain⟨ka,y,h,la⟩:=p.freeze j;have ma:=d.k h;obtain⟨Na,na,hp⟩:=zrB hp;refine zwj (l:=e) (n:=day) y.pre la na fun Pa oa=>?_;obtain⟨z,pa⟩:=y.call oa g;have qa:=ma.k pa;refine⟨_,rfl,?_⟩;obtain⟨q,r,hp⟩:=zrB hp;obtain⟨Ba,J,t,r⟩:=zrv r;obtain⟨A,B,D,sa,ta,ua,va⟩:=zsR ha100 r;refine⟨Ba,J,(by first|exact t|(rw[ha100.slLen];exact t)),_,_,_,_,_,_,(sa _ (Sub.trans h.fs z.sub)).1,?_⟩;obtain⟨wa,xa,ya,Oa,za⟩:=qa.sto z [Il q.From,.bool q.Whole,Il q.Least,A,B,D];refine⟨wa,xa,?_⟩;refine⟨_,_,_,_,_,_,za.bk.ra,?_⟩;obtain rfl:=oi hp;exact hq _ ka A B D ya.grw (ta.sub h.fs) (ua.sub h.fs) (va.sub h.fs)
 exact hgo _ _ _ _ _ O P d (Ow.nil _ _ _ _ _) hp
theorem zwl{t:Tf}{crop:Int}{day:Int}{count:Int}{ca103 ca104 ca105:C}{m f:M}{Q:V->M->Prop}{rz:Int}(hS:Pre f m)(ha103:Sl f ca103 t.Weeks)(ha104:Sl f ca104 t.Counts)(ha105:Sl f ca105 t.Rates)(hp:zta t crop day count=some rz)(hq:∀m',Ext m m'->Q (.c (Il rz)) m'):Wc prog tbl 62 [.agg 6 [Il t.From,.bool t.Whole,Il t.Least,ca103,ca104,ca105],.c (Il crop),.c (Il day),.c (Il count)] m Q:=by
 have S0:=hS.st;obtain⟨τ0,_⟩:=zsO;refine w62 ?_;unfold zta at hp;intro m0 ba;obtain⟨I,g,Ha,h⟩:=S0.blk ba τ0 1;refine⟨trivial,_,h.bk.rc rfl,?_⟩;obtain⟨Ia,i,hp⟩:=zrB hp;obtain⟨n2,O,y,i⟩:=zrv i;obtain⟨Ka,J,j⟩:=ha105.rdS i;refine⟨n2,O,(by first|exact y|(rw[ha105.slLen];exact y)),_,(J _ g.sub),trivial,_,h.bk.rc rfl,?_⟩;obtain⟨La,ca,hp⟩:=zrB hp;refine zwj (l:=t.Weeks) (n:=day) g.pre ha103 ca fun m6 da=>?_;obtain⟨e,ea⟩:=g.call da I;have o:=h.k ea;refine⟨_,rfl,(by rw[show cmC _=true from zp8 (j.noFn)]; exact(J _ e.sub)),(by rw[show cmC _=true from zp8 (ha105.noFn)]; exact(o.bk.rc rfl)),?_⟩;obtain⟨Ma,p,hp⟩:=zrB hp;obtain⟨n8,P,z,p⟩:=zrv p;obtain⟨Oa,fa,d⟩:=j.rdS p;refine⟨n8,P,(by first|exact z|(rw[j.slLen];exact z)),_,(fa _ e.sub),trivial,_,o.bk.rc rfl,?_⟩;obtain⟨Pa,ga,hp⟩:=zrB hp;refine zwj (l:=t.Counts) (n:=count) e.pre ha104 ga fun Va ha=>?_;obtain⟨a,ia⟩:=e.call ha I;have N:=o.k ia;refine⟨_,rfl,trivial,_,N.bk.rc rfl,?_⟩;obtain⟨Qa,q,hp⟩:=zrB hp;obtain⟨Aa,S,A,q⟩:=zrv q;refine⟨Aa,S,(by first|exact A|(rw[ha104.slLen];exact A)),_,(ha104.rdI q a.sub),?_⟩;refine ifd hp (fun ja hp=>?_) fun ja hp=>?_
 ·obtain⟨Ra,r,hp⟩:=zrB hp;obtain⟨Ba,T,B,r⟩:=zrv r;refine⟨Ba,T,(by first|exact B|(rw[d.slLen];exact B)),_,(d.rdI r a.sub),?_⟩;obtain rfl:=oi hp;exact hq _ a.ext'
 refine⟨trivial,_,N.bk.rc rfl,?_⟩;refine gdi hp fun ka hp=>?_;obtain⟨Sa,s,hp⟩:=zrB hp;obtain⟨Ca,Y,D,s⟩:=zrv s;refine⟨Ca,Y,(by first|exact D|(rw[ha104.slLen];exact D)),_,(ha104.rdI s a.sub),?_⟩;obtain⟨Ta,u,hp⟩:=zrB hp;obtain⟨Da,Z,F,u⟩:=zrv u;refine⟨Da,Z,(by first|exact F|(rw[d.slLen];exact F)),_,(d.rdI u a.sub),?_⟩;refine gdi hp fun la hp=>?_;refine gdi hp fun ma hp=>?_;refine gdi hp fun na hp=>?_;refine gdi hp fun oa hp=>?_;refine gdi hp fun pa hp=>?_;obtain⟨Ua,w,hp⟩:=zrB hp;obtain⟨Ea,aa,G,w⟩:=zrv w;refine⟨Ea,aa,(by first|exact G|(rw[d.slLen];exact G)),_,(d.rdI w a.sub),?_⟩;refine gdi hp fun qa hp=>?_;refine gdi hp fun sa hp=>?_;refine gdi hp fun ta hp=>?_;refine gdi hp fun ua hp=>?_;refine gdi hp fun va hp=>?_;refine gdi hp fun wa hp=>?_;refine gdi hp fun xa hp=>?_;refine gdi hp fun ya hp=>?_;refine gdi hp fun za hp=>?_;obtain rfl:=oi hp;exact hq _ a.ext'
theorem zwm{l:List Tf}{crop:Int}{day:Int}{count:Int}{ca100:C}{m f:M}{Q:V->M->Prop}{rz:Int}(hS:Pre f m)(ha100:Sl f ca100 l)(hp:ztb l crop day count=some rz)(hq:∀m',Ext m m'->Q (.c (Il rz)) m'):Wc prog tbl 24 [.c ca100,.c (Il crop),.c (Il day),.c (Il count)] m Q:=by
 have P:=hS.st;obtain⟨S,_⟩:=zsO;refine w24 ?_;unfold ztb at hp;obtain⟨a,i,hp⟩:=zrB hp;refine zwk (l:=l) (day:=day) P.pre ha100 i fun m1 T j n o p q r s=>?_;obtain⟨u,Y⟩:=P.callG p S;refine⟨_,_,_,_,_,_,rfl,?_⟩;intro m8 w;obtain⟨y,z,Z,A⟩:=u.blk w S 1;obtain⟨B,D,g,aa,h⟩:=A.sto z [Il a.From,.bool a.Whole,Il a.Least,j,n,o];refine⟨B,D,?_⟩;refine⟨_,_,_,_,_,_,h.bk.ra,?_⟩;obtain⟨ba,F,hp⟩:=zrB hp;refine zwl (t:=a) (crop:=crop) (day:=day) (count:=count) g.pre q r s F fun ca G=>?_;obtain⟨d,I⟩:=g.call G y;have e:=h.k I;refine⟨_,rfl,trivial,_,e.bk.rc rfl,?_⟩;refine ifd hp (fun J hp=>?_) fun J hp=>?_
 ·obtain rfl:=oi hp;exact hq _ d.ext'
 refine⟨trivial,_,e.bk.rc rfl,?_⟩;refine zsa hp (fun N hp=>?_) fun N hp=>?_
 ·obtain rfl:=oi hp;exact hq _ d.ext'
 refine⟨trivial,_,e.bk.rc rfl,?_⟩;refine gdi hp fun O hp=>?_;obtain rfl:=oi hp;exact hq _ d.ext'
theorem zwn{l:List Tf}{ca100:C}{m f:M}{Q:V->M->Prop}{rz:Int}(hS:Pre f m)(ha100:Sl f ca100 l)(hp:ztc l=some rz)(hq:∀m',Ext m m'->Q (.c (Il rz)) m'):Wc prog tbl 23 [.c ca100] m Q:=by
 have i:=hS.st;obtain⟨t,_⟩:=zsO;refine w23 ?_;unfold ztc at hp;obtain⟨j,a,hp⟩:=zrB hp;obtain⟨n,g,d,a⟩:=zrv a;obtain⟨o,p,q,h,r,s,e⟩:=zsR ha100 a;refine⟨n,g,(by first|exact d|(rw[ha100.slLen];exact d)),(ha100.isPt a _),_,((h _ i.sub).2.1 5 _ rfl),e.isSl,?_⟩
 try rw[e.slLen]
 obtain rfl:=oi hp;exact hq _ i.ext'
theorem zwo{l:List Tf}{c:Clm}{ca100:C}{m f:M}{Q:V->M->Prop}{rz:Bool}(hS:Pre f m)(ha100:Sl f ca100 l)(hp:ztd l c=some rz)(hq:∀m',Ext m m'->Q (.c (.bool rz)) m'):Wc prog tbl 66 [.c ca100,.agg 6 [Il c.Crop,Il c.Value,Il c.Day.Lo,Il c.Day.Hi,Il c.Count.Lo,Il c.Count.Hi]] m Q:=by
 have Z:=hS.st;obtain⟨τ0,_⟩:=zsO;refine w66 ?_;unfold ztd at hp;intro m0 q;obtain⟨e,h,ba,i⟩:=Z.blk q τ0 1;refine⟨trivial,_,i.bk.rc rfl,?_⟩;obtain⟨r,s,hp⟩:=zrB hp;refine zwn (l:=l) h.pre ha100 s fun m3 t=>?_;obtain⟨j,u⟩:=h.call t e;have o:=i.k u;refine⟨_,rfl,(o.bk.rc rfl),?_⟩;refine gdi hp fun w hp=>?_;obtain⟨ca,y,hp⟩:=zrB hp;refine zwf (n:=c.Crop) (low:=(0:Int)) (high:=(r - 1)) j.pre  y fun m6 z=>?_;obtain⟨g,A⟩:=j.call z e;have p:=o.k A;refine⟨_,rfl,?_⟩;refine zsa hp (fun B hp=>?_) fun B hp=>?_; rotate_left
 ·obtain rfl:=oi hp;exact hq _ g.ext'
 refine⟨trivial,_,p.bk.rc rfl,?_⟩;obtain⟨da,D,hp⟩:=zrB hp;refine zwf (n:=c.Value) (low:=(0:Int)) (high:=(100000:Int)) g.pre  D fun ea F=>?_;obtain⟨d,G⟩:=g.call F e;have a:=p.k G;refine⟨_,rfl,?_⟩;refine zsa hp (fun I hp=>?_) fun I hp=>?_; rotate_left
 ·obtain rfl:=oi hp;exact hq _ d.ext'
 refine⟨trivial,trivial,_,a.bk.rc rfl,?_⟩;refine ifd hp (fun J hp=>?_) fun J hp=>?_; rotate_left
 ·obtain rfl:=oi hp;exact hq _ d.ext'
 refine⟨trivial,trivial,_,a.bk.rc rfl,trivial,trivial,_,a.bk.rc rfl,?_⟩;refine ifd hp (fun N hp=>?_) fun N hp=>?_; rotate_left
 ·obtain rfl:=oi hp;exact hq _ d.ext'
 refine⟨trivial,trivial,_,a.bk.rc rfl,?_⟩;refine ifd hp (fun O hp=>?_) fun O hp=>?_; rotate_left
 ·obtain rfl:=oi hp;exact hq _ d.ext'
 refine⟨trivial,trivial,_,a.bk.rc rfl,trivial,trivial,_,a.bk.rc rfl,?_⟩;refine gdi hp fun P hp=>?_;refine ifd hp (fun S hp=>?_) fun S hp=>?_; rotate_left
 ·obtain rfl:=oi hp;exact hq _ d.ext'
 refine⟨trivial,trivial,_,a.bk.rc rfl,?_⟩;refine ifd hp (fun T hp=>?_) fun T hp=>?_; rotate_left
 ·obtain rfl:=oi hp;exact hq _ d.ext'
 refine⟨trivial,trivial,_,a.bk.rc rfl,trivial,trivial,_,a.bk.rc rfl,?_⟩;refine ifd hp (fun Y hp=>?_) fun Y hp=>?_; rotate_left
 ·obtain rfl:=oi hp;exact hq _ d.ext'
 refine⟨trivial,trivial,_,a.bk.rc rfl,?_⟩;obtain rfl:=oi hp;exact hq _ d.ext'
theorem zwp{c:Clm}{t:Tr}{m f:M}{Q:V->M->Prop}{rz:Bool}(hS:Pre f m)(hp:zte c t=some rz)(hq:∀m',Ext m m'->Q (.c (.bool rz)) m'):Wc prog tbl 30 [.agg 6 [Il c.Crop,Il c.Value,Il c.Day.Lo,Il c.Day.Hi,Il c.Count.Lo,Il c.Count.Hi],.agg 2 [Il t.Day,Il t.Count]] m Q:=by
 have F:=hS.st;obtain⟨G,_⟩:=zsO;refine w30 ?_;unfold zte at hp;intro S l;obtain⟨o,p,I,q⟩:=F.blk l G 1;intro T r;obtain⟨e,g,s,h⟩:=p.blk r o 2;have a:=q.k s;refine⟨trivial,_,h.bk.rc rfl,trivial,trivial,_,a.bk.rc rfl,trivial,trivial,_,a.bk.rc rfl,?_⟩;obtain⟨J,u,hp⟩:=zrB hp;refine zwf (n:=t.Day) (low:=c.Day.Lo) (high:=c.Day.Hi) g.pre  u fun Y w=>?_;obtain⟨d,i⟩:=g.call w e;have j:=a.k i;have y:=h.k i;refine⟨_,rfl,?_⟩;refine zsa hp (fun z hp=>?_) fun z hp=>?_; rotate_left
 ·obtain rfl:=oi hp;exact hq _ d.ext'
 refine⟨trivial,_,y.bk.rc rfl,trivial,trivial,_,j.bk.rc rfl,trivial,trivial,_,j.bk.rc rfl,?_⟩;obtain⟨N,A,hp⟩:=zrB hp;refine zwf (n:=t.Count) (low:=c.Count.Lo) (high:=c.Count.Hi) d.pre  A fun P B=>?_;obtain⟨D,O⟩:=d.call B e;refine⟨_,rfl,?_⟩;obtain rfl:=oi hp;exact hq _ D.ext'
theorem zwq{l:List Tf}{c:Clm}{t:Tr}{ca100:C}{m f:M}{Q:V->M->Prop}{rz:Int}(hS:Pre f m)(ha100:Sl f ca100 l)(hp:ztf l c t=some rz)(hq:∀m',Ext m m'->Q (.c (Il rz)) m'):Wc prog tbl 31 [.c ca100,.agg 6 [Il c.Crop,Il c.Value,Il c.Day.Lo,Il c.Day.Hi,Il c.Count.Lo,Il c.Count.Hi],.agg 2 [Il t.Day,Il t.Count]] m Q:=by
 have G:=hS.st;obtain⟨I,_⟩:=zsO;refine w31 ?_;unfold ztf at hp;intro O g;obtain⟨h,i,J,j⟩:=G.blk g I 1;intro P n;obtain⟨o,d,p,e⟩:=i.blk n h 2;have a:=j.k p;refine⟨trivial,_,a.bk.rc rfl,trivial,_,a.bk.rc rfl,trivial,_,e.bk.rc rfl,trivial,_,e.bk.rc rfl,?_⟩;obtain⟨N,q,hp⟩:=zrB hp;refine zwm (l:=l) (crop:=c.Crop) (day:=t.Day) (count:=t.Count) d.pre ha100 q fun S r=>?_;obtain⟨s,u⟩:=d.call r o;have w:=a.k u;refine⟨_,rfl,(w.bk.rc rfl),?_⟩;refine gdi hp fun y hp=>?_;refine gdi hp fun z hp=>?_;refine gdi hp fun A hp=>?_;refine gdi hp fun B hp=>?_;refine gdi hp fun D hp=>?_;refine gdi hp fun F hp=>?_;obtain rfl:=oi hp;exact hq _ s.ext'
theorem zwr{l:List Tf}{c:Clm}{ca100:C}{m f:M}{Q:V->M->Prop}{rz:Rg × Tr × Tr}(hS:Pre f m)(ha100:Sl f ca100 l)(hp:zti l c=some rz)(hq:∀m',Ext m m'->Q (.tup [.agg 2 [Il rz.1.Lo,Il rz.1.Hi],.agg 2 [Il rz.2.1.Day,Il rz.2.1.Count],.agg 2 [Il rz.2.2.Day,Il rz.2.2.Count]]) m'):Wc prog tbl 35 [.c ca100,.agg 6 [Il c.Crop,Il c.Value,Il c.Day.Lo,Il c.Day.Hi,Il c.Count.Lo,Il c.Count.Hi]] m Q:=by
 have S0:=hS.st;obtain⟨τ0,_⟩:=zsO;refine w35 ?_;unfold zti at hp;intro m0 mb;obtain⟨ob,pb,qe,qb⟩:=S0.blk mb τ0 1;intro m1 rb;obtain⟨sb,tb,ub,vb⟩:=pb.blk rb ob 2;have wb:=qb.k ub;intro m2 xb;obtain⟨yb,zb,Ia,Ab⟩:=tb.blk xb sb 3;have Bb:=wb.k Ia;have Cb:=vb.k Ia;intro m3 Db;obtain⟨Eb,Fb,qa,Gb⟩:=zb.blk Db yb 4;have Hb:=Bb.k qa;have Ib:=Cb.k qa;have Jb:=Ab.k qa;intro m4 Kb;obtain⟨Mb,Nb,ga,Ob⟩:=Fb.blk Kb Eb 5;have Pb:=Hb.k ga;have Qb:=Ib.k ga;have Rb:=Jb.k ga;have Sb:=Gb.k ga;obtain⟨sa,Tb,Ub,ha,Vb⟩:=Ob.sto Nb [(Il (1099511627776:Int)),(Il (-1:Int))];have Wb:=Pb.k ha;have Xb:=Qb.k ha;have Yb:=Rb.k ha;have Zb:=Sb.k ha;refine⟨sa,Tb,?_⟩;intro m6 ac;obtain⟨bc,cc,O,dc⟩:=Ub.blk ac Mb 6;have ec:=Wb.k O;have fc:=Xb.k O;have gc:=Yb.k O;have hc:=Zb.k O;have ic:=Vb.k O;intro m7 jc;obtain⟨kc,nc,G,e⟩:=cc.blk jc bc 7;have a:=ec.k G;have i:=fc.k G;have j:=gc.k G;have n:=hc.k G;have o:=ic.k G;have g:=dc.k G;refine⟨trivial,trivial,_,a.bk.rc rfl,?_⟩;intro R9 ke
 have hgo:∀(P:Nat) (s:Int) (S:Int) (T:Int) (Y:Int) (Z:Int) (aa:Int) (ba:Int) (p:M) (h:Nat->Nat),St (Fm.of m) f f p->Lb (Fm.of m) f h p 1 m.nxt 6 [Il c.Crop,Il c.Value,Il c.Day.Lo,Il c.Day.Hi,Il c.Count.Lo,Il c.Count.Hi]->Lb (Fm.of m) f h p 2 m0.nxt 2 [Il 0,Il 0]->Lb (Fm.of m) f h p 3 m1.nxt 2 [Il 0,Il 0]->Lb (Fm.of m) f h p 4 m2.nxt 2 [Il 0,Il 0]->Lb (Fm.of m) f h p 5 m3.nxt 2 [Il S,Il T]->Lb (Fm.of m) f h p 6 sa.nxt 2 [Il Y,Il Z]->Lb (Fm.of m) f h p 7 m6.nxt 2 [Il aa,Il ba]->zth l c P S T Y Z aa ba s=some rz->R9 [.c (Il s)] p:=by
  intro P
  induction P with
  | zero=>intro s S T Y Z aa ba p h ta a i j n o g e hp; cases hp
  | succ P oc=>
   intro s S T Y Z aa ba p h ta a i j n o g e hp;refine ke _ _ ?_;rw[zth] at hp;refine⟨trivial,trivial,_,a.bk.rc rfl,?_⟩;refine ifd hp (fun pc hp=>?_) fun pc hp=>?_; rotate_left
   ·refine⟨_,_,o.bk.ra,_,_,g.bk.ra,_,_,e.bk.ra,?_⟩;obtain⟨qc,sc,tc,ia,uc⟩:=i.sto ta [Il S,Il T];have Va:=j.k ia;have Wa:=n.k ia;have Xa:=g.k ia;have Ga:=e.k ia;refine⟨qc,sc,?_⟩;refine⟨(Ga.bk.ra),(Xa.bk.ra),?_⟩;obtain⟨Ya,Za,ab,ja,bb⟩:=Va.sto tc [Il Y,Il Z];have cb:=uc.k ja;have db:=Wa.k ja;have eb:=Ga.k ja;refine⟨Ya,Za,?_⟩;refine⟨(eb.bk.ra),?_⟩;obtain⟨fb,gb,hb,Ha,ib⟩:=db.sto ab [Il aa,Il ba];have jb:=cb.k Ha;have kb:=bb.k Ha;refine⟨fb,gb,?_⟩;refine⟨_,_,jb.bk.ra,_,_,kb.bk.ra,_,_,ib.bk.ra,?_⟩;obtain rfl:=oi hp;exact hq _ hb.ext'
   refine⟨trivial,trivial,_,a.bk.rc rfl,?_⟩;intro me vc
   have hgo:∀(ka:Nat) (F:Int) (ca:Int) (da:Int) (la:Int) (ma:Int) (na:Int) (oa:Int) (q:M) (d:Nat->Nat),St (Fm.of m) f f q->Lb (Fm.of m) f d q 1 m.nxt 6 [Il c.Crop,Il c.Value,Il c.Day.Lo,Il c.Day.Hi,Il c.Count.Lo,Il c.Count.Hi]->Lb (Fm.of m) f d q 2 m0.nxt 2 [Il 0,Il 0]->Lb (Fm.of m) f d q 3 m1.nxt 2 [Il 0,Il 0]->Lb (Fm.of m) f d q 4 m2.nxt 2 [Il 0,Il 0]->Lb (Fm.of m) f d q 5 m3.nxt 2 [Il ca,Il da]->Lb (Fm.of m) f d q 6 sa.nxt 2 [Il la,Il ma]->Lb (Fm.of m) f d q 7 m6.nxt 2 [Il na,Il oa]->ztg l c s (zth l c P) ka ca da la ma na oa F=some rz->me [.c (Il F)] q:=by
    intro ka
    induction ka with
    | zero=>intro F ca da la ma na oa q d ua a i j n o g e hp; cases hp
    | succ ka N=>
     intro F ca da la ma na oa q d ua a i j n o g e hp;refine vc _ _ ?_;rw[ztg] at hp;refine⟨trivial,trivial,_,a.bk.rc rfl,?_⟩;refine ifd hp (fun wc hp=>?_) fun wc hp=>?_; rotate_left
     ·refine gdi hp fun xc hp=>?_;exact oc _ _ _ _ _ _ _ _ d ua a i j n o g e hp
     intro se yc;obtain⟨ea,zc,u,Ac⟩:=ua.blk yc d 8;have Bc:=a.k u;have Cc:=i.k u;have Dc:=j.k u;have Ec:=n.k u;have Fc:=o.k u;have Gc:=g.k u;have Hc:=e.k u;obtain⟨Ic,Jc,Ja,w,Ka⟩:=Ac.sto zc [Il s,Il F];have La:=Bc.k w;have Kc:=Cc.k w;have Nc:=Dc.k w;have Oc:=Ec.k w;have Pc:=Fc.k w;have Qc:=Gc.k w;have Rc:=Hc.k w;refine⟨Ic,Jc,?_⟩;refine⟨_,_,_,_,_,_,La.bk.ra,_,_,Ka.bk.ra,?_⟩;obtain⟨y,Tc,hp⟩:=zrB hp;refine zwq (l:=l) (c:=c) (t:=({ Day:=s,Count:=F }:Tr)) Ja.pre ha100 Tc fun te Uc=>?_;obtain⟨va,r⟩:=Ja.call Uc ea;have wa:=La.k r;have xa:=Kc.k r;have ya:=Nc.k r;have za:=Oc.k r;have fa:=Pc.k r;have Aa:=Qc.k r;have Ba:=Rc.k r;have pa:=Ka.k r;refine⟨_,rfl,trivial,_,fa.bk.rc rfl,?_⟩;refine ifd hp (fun Vc hp=>?_) fun Vc hp=>?_; rotate_left
     ·refine⟨trivial,_,fa.bk.rc rfl,?_⟩;refine ifd hp (fun Xc hp=>?_) fun Xc hp=>?_; rotate_left
      ·refine gdi hp fun Yc hp=>?_;exact N _ _ _ _ _ _ _ _ ea va wa xa ya za fa Aa Ba hp
      refine⟨_,_,pa.bk.ra,trivial,?_⟩;obtain⟨Zc,ad,bd,z,Ca⟩:=fa.sto1 va 1 (Il y) (by simp) rfl
      replace Ca:Lb _ _ _ _ _ _ _ [Il ca,Il y]:=Ca
      have cd:=wa.k z;have dd:=xa.k z;have ed:=ya.k z;have fd:=za.k z;have hd:=Aa.k z;have id:=Ba.k z;have jd:=pa.k z;refine⟨Zc,ad,?_⟩;refine⟨(jd.bk.ra),?_⟩;obtain⟨kd,ld,md,I,nd⟩:=id.sto bd [Il s,Il F];have od:=cd.k I;have pd:=dd.k I;have qd:=ed.k I;have sd:=fd.k I;have td:=Ca.k I;have ud:=hd.k I;refine⟨kd,ld,?_⟩;refine gdi hp fun vd hp=>?_;exact N _ _ _ _ _ _ _ _ ea md od pd qd sd td ud nd hp
     refine⟨_,_,pa.bk.ra,trivial,?_⟩;obtain⟨wd,xd,yd,A,Da⟩:=fa.sto1 va 0 (Il y) (by simp) rfl
     replace Da:Lb _ _ _ _ _ _ _ [Il y,Il da]:=Da
     have zd:=wa.k A;have Ad:=xa.k A;have Bd:=ya.k A;have Cd:=za.k A;have Dd:=Aa.k A;have Ed:=Ba.k A;have Ma:=pa.k A;refine⟨wd,xd,?_⟩;refine⟨(Ma.bk.ra),?_⟩;obtain⟨Fd,Gd,Na,B,Oa⟩:=Dd.sto yd [Il s,Il F];have Pa:=zd.k B;have Qa:=Ad.k B;have Ra:=Bd.k B;have Sa:=Cd.k B;have Ea:=Da.k B;have Ta:=Ed.k B;have Ua:=Ma.k B;refine⟨Fd,Gd,?_⟩;refine⟨trivial,_,Ea.bk.rc rfl,?_⟩;refine ifd hp (fun Hd hp=>?_) fun Hd hp=>?_; rotate_left
     ·refine gdi hp fun Id hp=>?_;exact N _ _ _ _ _ _ _ _ ea Na Pa Qa Ra Sa Ea Oa Ta hp
     refine⟨_,_,Ua.bk.ra,trivial,?_⟩;obtain⟨Jd,Ld,Md,D,Fa⟩:=Ea.sto1 Na 1 (Il y) (by simp) rfl
     replace Fa:Lb _ _ _ _ _ _ _ [Il y,Il y]:=Fa
     have Nd:=Pa.k D;have Od:=Qa.k D;have Pd:=Ra.k D;have Qd:=Sa.k D;have Rd:=Oa.k D;have Sd:=Ta.k D;have Td:=Ua.k D;refine⟨Jd,Ld,?_⟩;refine⟨(Td.bk.ra),?_⟩;obtain⟨Ud,Vd,Wd,J,Xd⟩:=Sd.sto Md [Il s,Il F];have Yd:=Nd.k J;have Zd:=Od.k J;have ae:=Pd.k J;have be:=Qd.k J;have ce:=Fa.k J;have de:=Rd.k J;refine⟨Ud,Vd,?_⟩;refine gdi hp fun ee hp=>?_;exact N _ _ _ _ _ _ _ _ ea Wd Yd Zd ae be ce de Xd hp
   exact hgo _ _ _ _ _ _ _ _ _ h ta a i j n o g e hp
 exact hgo _ _ _ _ _ _ _ _ _ kc nc a i j n o g e hp
theorem zws{r:Rg}{m f:M}{Q:V->M->Prop}{rz:Int}(hS:Pre f m)(hp:ztj r=some rz)(hq:∀m',Ext m m'->Q (.c (Il rz)) m'):Wc prog tbl 37 [.agg 2 [Il r.Lo,Il r.Hi]] m Q:=by
 have l:=hS.st;obtain⟨n,_⟩:=zsO;refine w37 ?_;unfold ztj at hp;intro o e;obtain⟨i,a,j,d⟩:=l.blk e n 1;refine⟨trivial,_,d.bk.rc rfl,?_⟩;refine ifd hp (fun g hp=>?_) fun g hp=>?_
 ·obtain rfl:=oi hp;exact hq _ a.ext'
 refine⟨trivial,_,d.bk.rc rfl,?_⟩;refine ifd hp (fun h hp=>?_) fun h hp=>?_
 ·obtain rfl:=oi hp;exact hq _ a.ext'
 obtain rfl:=oi hp;exact hq _ a.ext'
theorem zwt{l:List Int}{out:Int}{ca100:C}{m f:M}{Q:V->M->Prop}{rz:Bool}(hS:Pre f m)(ha100:Sl f ca100 l)(hp:ztm l out=some rz)(hq:∀m',Ext m m'->Q (.c (.bool rz)) m'):Wc prog tbl 51 [.c ca100,.c (Il out)] m Q:=by
 have S0:=hS.st;obtain⟨τ0,_⟩:=zsO;refine w51 ?_;unfold ztm at hp;intro R0 ma
 have hgo:∀(e:Nat) (u:Bool) (r:Int) (w:M) (h:Nat->Nat),St (Fm.of m) f f w->ztl l out e u r=some rz->R0 [.c (.bool u),.c (Il r)] w:=by
  intro e
  induction e with
  | zero=>intro u r w h i hp; cases hp
  | succ e la=>
   intro u r w h i hp;refine ma _ _ _ ?_;rw[ztl] at hp;refine⟨ha100.isSl,?_⟩
   try rw[ha100.slLen]
   refine ifd hp (fun y hp=>?_) fun y hp=>?_; rotate_left
   ·obtain rfl:=oi hp;exact hq _ i.ext'
   refine gdi hp fun z hp=>?_;intro R4 na
   have hgo:∀(g:Nat) (A:Bool) (B:Int) (D:M) (d:Nat->Nat),St (Fm.of m) f f D->ztk l out r (ztl l out e) g A B=some rz->R4 [.c (.bool A),.c (Il B)] D:=by
    intro g
    induction g with
    | zero=>intro A B D d a hp; cases hp
    | succ g q=>
     intro A B D d a hp;refine na _ _ _ ?_;rw[ztk] at hp;refine⟨ha100.isSl,?_⟩
     try rw[ha100.slLen]
     refine ifd hp (fun F hp=>?_) fun F hp=>?_; rotate_left
     ·refine gdi hp fun G hp=>?_;exact la _ _ _ d a hp
     refine gdi hp fun I hp=>?_;refine gdi hp fun J hp=>?_;refine gdi hp fun N hp=>?_;refine gdi hp fun O hp=>?_;refine gdi hp fun P hp=>?_;refine gdi hp fun S hp=>?_;refine gdi hp fun T hp=>?_;refine ifd hp (fun Y hp=>?_) fun Y hp=>?_; rotate_left
     ·refine gdi hp fun Z hp=>?_;exact q _ _ _ d a hp
     refine gdi hp fun aa hp=>?_;refine gdi hp fun ba hp=>?_;refine gdi hp fun ca hp=>?_;refine gdi hp fun da hp=>?_;refine gdi hp fun ea hp=>?_;refine gdi hp fun fa hp=>?_;refine gdi hp fun ga hp=>?_;refine ifd hp (fun ha hp=>?_) fun ha hp=>?_; rotate_left
     ·refine gdi hp fun ia hp=>?_;exact q _ _ _ d a hp
     obtain⟨pa,j,hp⟩:=zrB hp;obtain⟨n8,s,o,j⟩:=zrv j;refine⟨n8,s,(by first|exact o|(rw[ha100.slLen];exact o)),_,(ha100.rdI j a.sub),?_⟩;obtain⟨qa,n,hp⟩:=zrB hp;obtain⟨oa,t,p,n⟩:=zrv n;refine⟨oa,t,(by first|exact p|(rw[ha100.slLen];exact p)),_,(ha100.rdI n a.sub),?_⟩;refine ifd hp (fun ja hp=>?_) fun ja hp=>?_
     ·obtain rfl:=oi hp;exact hq _ a.ext'
     refine gdi hp fun ka hp=>?_;exact q _ _ _ d a hp
   exact hgo _ _ _ _ h i hp
 exact hgo _ _ _ _ τ0 S0 hp
theorem zwu{r:Rg}{m f:M}{Q:V->M->Prop}{rz:Rg}(hS:Pre f m)(hp:ztn r=some rz)(hq:∀m',Ext m m'->Q (.agg 2 [Il rz.Lo,Il rz.Hi]) m'):Wc prog tbl 36 [.agg 2 [Il r.Lo,Il r.Hi]] m Q:=by
 have w:=hS.st;obtain⟨y,_⟩:=zsO;refine w36 ?_;unfold ztn at hp;intro z c;obtain⟨d,e,s,g⟩:=w.blk c y 1;intro A h;obtain⟨t,i,j,l⟩:=e.blk h d 2;have a:=g.k j;refine⟨trivial,_,a.bk.rc rfl,trivial,_,a.bk.rc rfl,?_⟩;obtain⟨n,o,p,u,q⟩:=l.sto i [Il r.Lo,Il r.Hi];refine⟨n,o,?_⟩;refine⟨_,_,q.bk.ra,?_⟩;obtain rfl:=oi hp;exact hq _ p.ext'
theorem zwv{c:Clm}{m f:M}{Q:V->M->Prop}{rz:Clm}(hS:Pre f m)(hp:zto c=some rz)(hq:∀m',Ext m m'->Q (.agg 6 [Il rz.Crop,Il rz.Value,Il rz.Day.Lo,Il rz.Day.Hi,Il rz.Count.Lo,Il rz.Count.Hi]) m'):Wc prog tbl 26 [.agg 6 [Il c.Crop,Il c.Value,Il c.Day.Lo,Il c.Day.Hi,Il c.Count.Lo,Il c.Count.Hi]] m Q:=by
 have Z:=hS.st;obtain⟨τ0,_⟩:=zsO;refine w26 ?_;unfold zto at hp;intro m0 q;obtain⟨s,t,T,u⟩:=Z.blk q τ0 1;intro m1 w;obtain⟨e,g,y,z⟩:=t.blk w s 2;have a:=u.k y;refine⟨trivial,_,a.bk.rc rfl,trivial,_,a.bk.rc rfl,trivial,_,_,a.bk.rp (k:=2) (j:=2) rfl (by omega),?_⟩;obtain⟨h,A,hp⟩:=zrB hp;refine zwu (r:=c.Day) g.pre  A fun m7 B=>?_;obtain⟨i,l⟩:=g.call B e;have d:=a.k l;have D:=z.k l;refine⟨_,_,rfl,(d.bk.rc rfl),(d.bk.rc rfl),trivial,_,_,d.bk.rp (k:=4) (j:=2) rfl (by omega),(a.bk.rp (k:=4) (j:=2) rfl (by omega)),?_⟩;obtain⟨n,F,hp⟩:=zrB hp;refine zwu (r:=c.Count) i.pre  F fun ba G=>?_;obtain⟨I,o⟩:=i.call G e;have p:=d.k o;have J:=D.k o;refine⟨_,_,rfl,(p.bk.rc rfl),(p.bk.rc rfl),?_⟩;obtain⟨N,O,P,Y,S⟩:=J.sto I [Il c.Crop,Il c.Value,Il h.Lo,Il h.Hi,Il n.Lo,Il n.Hi];refine⟨N,O,?_⟩;refine⟨_,_,_,_,_,_,S.bk.ra,?_⟩;obtain rfl:=oi hp;exact hq _ P.ext'
theorem zww{t:Tr}{m f:M}{Q:V->M->Prop}{rz:Tr}(hS:Pre f m)(hp:ztp t=some rz)(hq:∀m',Ext m m'->Q (.agg 2 [Il rz.Day,Il rz.Count]) m'):Wc prog tbl 27 [.agg 2 [Il t.Day,Il t.Count]] m Q:=by
 have w:=hS.st;obtain⟨y,_⟩:=zsO;refine w27 ?_;unfold ztp at hp;intro z c;obtain⟨d,e,r,g⟩:=w.blk c y 1;intro A h;obtain⟨s,i,j,l⟩:=e.blk h d 2;have a:=g.k j;refine⟨trivial,_,a.bk.rc rfl,trivial,_,a.bk.rc rfl,?_⟩;obtain⟨n,o,p,u,q⟩:=l.sto i [Il t.Day,Il t.Count];refine⟨n,o,?_⟩;refine⟨_,_,q.bk.ra,?_⟩;obtain rfl:=oi hp;exact hq _ p.ext'
theorem zwx{l:List Int}{ca100:C}{m f:M}{Q:V->M->Prop}{rz:List Int}(hS:Pre f m)(ha100:Sl f ca100 l)(hp:ztq l=some rz)(hq:∀m' f' c0,Grw m f m' f'->Sl f' c0 rz->Q (.c c0) m'):Wc prog tbl 58 [.c ca100] m Q:=by
 have z:=hS.st;obtain⟨A,_⟩:=zsO;refine w58 ?_;unfold ztq at hp;intro B d;obtain⟨s,e,t,g⟩:=Ow.lit0 (α:=Int) z A 1 d;obtain⟨h,hp⟩:=zrC hp;obtain⟨a,i,u,j,n,w,o⟩:=g.appL zwa e ha100 h;refine⟨a,i,j,?_⟩;obtain⟨p,q,y,r⟩:=o.freeze n;obtain rfl:=oi hp;exact hq _ p a q.grw r
theorem zwy{l:List Clm}{ca100:C}{m f:M}{Q:V->M->Prop}{rz:List Clm}(hS:Pre f m)(ha100:Sl f ca100 l)(hp:zts l=some rz)(hq:∀m' f' c0,Grw m f m' f'->Sl f' c0 rz->Q (.c c0) m'):Wc prog tbl 40 [.c ca100] m Q:=by
 have S0:=hS.st;obtain⟨τ0,_⟩:=zsO;refine w40 ?_;unfold zts at hp;intro R0 ba
 have hgo:∀(g:Nat) (p:C) (s:Int) (h:List Clm) (q:M) (i:Nat->Nat),St (Fm.of m) f f q->Ow (Fm.of m) f i q 1 p h->ztr l g h s=some rz->R0 [.c p,.c (Il s)] q:=by
  intro g
  induction g with
  | zero=>intro p s h q i d e hp; cases hp
  | succ g aa=>
   intro p s h q i d e hp;refine ba _ _ _ ?_;rw[ztr] at hp;refine⟨ha100.isSl,?_⟩
   try rw[ha100.slLen]
   refine ifd hp (fun t hp=>?_) fun t hp=>?_; rotate_left
   ·obtain⟨u,w,ca,y⟩:=e.freeze d;obtain rfl:=oi hp;exact hq _ u p w.grw y
   obtain⟨z,j,hp⟩:=zrB hp;obtain⟨n4,r,n,j⟩:=zrv j;obtain⟨_,A⟩:=zsT ha100 j;refine⟨n4,r,(by first|exact n|(rw[ha100.slLen];exact n)),_,_,_,_,_,_,(A _ d.sub).1,?_⟩;obtain⟨o,B,hp⟩:=zrB hp;refine zwv (c:=z) d.pre  B fun ia D=>?_;obtain⟨F,G⟩:=d.call D i;have e:=e.k G;refine⟨_,_,_,_,_,_,rfl,?_⟩;obtain⟨I,hp⟩:=zrC hp;intro ja J;obtain⟨N,O,P,S,T,da,Y⟩:=e.app' zv9 F (a:=o) (show Rp.rep (α:=Clm) f _ o from rfl) I J;refine⟨N,O,S,?_⟩;refine gdi hp fun Z hp=>?_;exact aa _ _ _ _ P T Y hp
 exact hgo _ _ _ _ _ τ0 S0 (Ow.nil _ _ _ _ _) hp
theorem zwz{l:List Tf}{ca100:C}{m f:M}{Q:V->M->Prop}{rz:Bool}(hS:Pre f m)(ha100:Sl f ca100 l)(hp:ztw l=some rz)(hq:∀m',Ext m m'->Q (.c (.bool rz)) m'):Wc prog tbl 16 [.c ca100] m Q:=by
 have S0:=hS.st;obtain⟨τ0,_⟩:=zsO;refine w16 ?_;unfold ztw at hp;refine⟨ha100.isSl,?_⟩
 try rw[ha100.slLen]
 refine ifd hp (fun Ea hp=>?_) fun Ea hp=>?_
 ·obtain rfl:=oi hp;exact hq _ S0.ext'
 intro R0 mb
 have hgo:∀(g:Nat) (b1:Bool) (b2:Bool) (b3:Bool) (x4:Int) (m5:M) (w:Nat->Nat),St (Fm.of m) f f m5->ztv l g b1 x4=some rz->R0 [.c (.bool b1),.c (.bool b2),.c (.bool b3),.c (Il x4)] m5:=by
  intro g
  induction g with
  | zero=>intro b1 b2 b3 x4 m5 w a hp; cases hp
  | succ g hb=>
   intro b1 b2 b3 x4 m5 w a hp;refine mb _ _ _ _ _ ?_;rw[ztv] at hp;refine⟨ha100.isSl,?_⟩
   try rw[ha100.slLen]
   refine ifd hp (fun Ha hp=>?_) fun Ha hp=>?_; rotate_left
   ·obtain rfl:=oi hp;exact hq _ a.ext'
   obtain⟨zb,i,hp⟩:=zrB hp;obtain⟨n6,sa,D,i⟩:=zrv i;obtain⟨Ab,Bb,Cb,Ia,ba,Db,Eb⟩:=zsR ha100 i;refine⟨n6,sa,(by first|exact D|(rw[ha100.slLen];exact D)),(ha100.isPt i _),_,((Ia _ a.sub).2.1 3 _ rfl),ba.isSl,?_⟩
   try rw[ba.slLen]
   refine ifd hp (fun Ja hp=>?_) fun Ja hp=>?_
   ·obtain rfl:=oi hp;exact hq _ a.ext'
   obtain⟨Fb,j,hp⟩:=zrB hp;obtain⟨n8,ta,F,j⟩:=zrv j;obtain⟨Gb,Hb,Ib,Ka,Jb,ca,Kb⟩:=zsR ha100 j;refine⟨n8,ta,(by first|exact F|(rw[ha100.slLen];exact F)),(ha100.isPt j _),_,((Ka _ a.sub).2.1 4 _ rfl),ca.isSl,?_⟩
   try rw[ca.slLen]
   refine ifd hp (fun La hp=>?_) fun La hp=>?_
   ·obtain rfl:=oi hp;exact hq _ a.ext'
   obtain⟨Mb,n,hp⟩:=zrB hp;obtain⟨ob,ua,G,n⟩:=zrv n;obtain⟨Nb,Ob,Pb,Ma,Qb,Rb,da⟩:=zsR ha100 n;refine⟨ob,ua,(by first|exact G|(rw[ha100.slLen];exact G)),(ha100.isPt n _),_,((Ma _ a.sub).2.1 5 _ rfl),da.isSl,?_⟩
   try rw[da.slLen]
   refine ifd hp (fun Na hp=>?_) fun Na hp=>?_
   ·obtain rfl:=oi hp;exact hq _ a.ext'
   intro pb ib
   have hgo:∀(h:Nat) (ea:Bool) (va:Bool) (I:Int) (fa:M) (o:Nat->Nat),St (Fm.of m) f f fa->ztu l x4 (ztv l g) h ea I=some rz->pb [.c (.bool ea),.c (.bool va),.c (Il I)] fa:=by
    intro h
    induction h with
    | zero=>intro ea va I fa o e hp; cases hp
    | succ h Oa=>
     intro ea va I fa o e hp;refine ib _ _ _ _ ?_;rw[ztu] at hp;obtain⟨Sb,p,hp⟩:=zrB hp;obtain⟨qb,wa,J,p⟩:=zrv p;obtain⟨Tb,Ub,Vb,Pa,Wb,Xb,ga⟩:=zsR ha100 p;refine⟨qb,wa,(by first|exact J|(rw[ha100.slLen];exact J)),(ha100.isPt p _),_,((Pa _ e.sub).2.1 5 _ rfl),ga.isSl,?_⟩
     try rw[ga.slLen]
     refine ifd hp (fun Qa hp=>?_) fun Qa hp=>?_; rotate_left
     ·refine gdi hp fun Ra hp=>?_;exact hb _ _ _ _ _ o e hp
     obtain⟨Yb,q,hp⟩:=zrB hp;obtain⟨rb,xa,N,q⟩:=zrv q;obtain⟨Zb,ac,bc,Sa,cc,dc,ha⟩:=zsR ha100 q;refine⟨rb,xa,(by first|exact N|(rw[ha100.slLen];exact N)),(ha100.isPt q _),_,((Sa _ e.sub).2.1 5 _ rfl),?_⟩;obtain⟨ec,y,hp⟩:=zrB hp;obtain⟨sb,ya,O,y⟩:=zrv y;obtain⟨fc,Ta,ia⟩:=ha.rdS y;refine⟨sb,ya,(by first|exact O|(rw[ha.slLen];exact O)),_,(Ta _ e.sub),ia.isSl,?_⟩
     try rw[ia.slLen]
     refine ifd hp (fun Ua hp=>?_) fun Ua hp=>?_
     ·obtain rfl:=oi hp;exact hq _ e.ext'
     intro tb jb
     have hgo:∀(r:Nat) (ja:Bool) (ka:Int) (la:M) (s:Nat->Nat),St (Fm.of m) f f la->ztt l x4 I (ztu l x4 (ztv l g) h) r ja ka=some rz->tb [.c (.bool ja),.c (Il ka)] la:=by
      intro r
      induction r with
      | zero=>intro ja ka la s d hp; cases hp
      | succ r Va=>
       intro ja ka la s d hp;refine jb _ _ _ ?_;rw[ztt] at hp;obtain⟨gc,t,hp⟩:=zrB hp;obtain⟨ub,za,P,t⟩:=zrv t;obtain⟨hc,ic,jc,Wa,kc,nc,ma⟩:=zsR ha100 t;refine⟨ub,za,(by first|exact P|(rw[ha100.slLen];exact P)),(ha100.isPt t _),_,((Wa _ d.sub).2.1 5 _ rfl),?_⟩;obtain⟨oc,z,hp⟩:=zrB hp;obtain⟨vb,Aa,S,z⟩:=zrv z;obtain⟨pc,Xa,na⟩:=ma.rdS z;refine⟨vb,Aa,(by first|exact S|(rw[ma.slLen];exact S)),_,(Xa _ d.sub),na.isSl,?_⟩
       try rw[na.slLen]
       refine ifd hp (fun Ya hp=>?_) fun Ya hp=>?_; rotate_left
       ·refine gdi hp fun Za hp=>?_;exact Oa _ _ _ _ s d hp
       obtain⟨qc,u,hp⟩:=zrB hp;obtain⟨wb,Ba,T,u⟩:=zrv u;obtain⟨sc,tc,uc,ab,vc,wc,oa⟩:=zsR ha100 u;refine⟨wb,Ba,(by first|exact T|(rw[ha100.slLen];exact T)),(ha100.isPt u _),_,((ab _ d.sub).2.1 5 _ rfl),?_⟩;obtain⟨xc,A,hp⟩:=zrB hp;obtain⟨xb,Ca,Y,A⟩:=zrv A;obtain⟨yc,bb,pa⟩:=oa.rdS A;refine⟨xb,Ca,(by first|exact Y|(rw[oa.slLen];exact Y)),_,(bb _ d.sub),?_⟩;obtain⟨zc,B,hp⟩:=zrB hp;obtain⟨yb,Da,Z,B⟩:=zrv B;obtain⟨Ac,cb,qa⟩:=pa.rdS B;refine⟨yb,Da,(by first|exact Z|(rw[pa.slLen];exact Z)),_,(cb _ d.sub),qa.isSl,?_⟩
       try rw[qa.slLen]
       refine ifd hp (fun db hp=>?_) fun db hp=>?_
       ·obtain rfl:=oi hp;exact hq _ d.ext'
       refine gdi hp fun eb hp=>?_;exact Va _ _ _ s d hp
     exact hgo _ _ _ _ o e hp
   exact hgo _ _ _ _ _ w a hp
 exact hgo _ _ _ _ _ _ τ0 S0 hp
theorem zwA{l:List Tf}{ca100:C}{m f:M}{Q:V->M->Prop}{rz:Int}(hS:Pre f m)(ha100:Sl f ca100 l)(hp:ztx l=some rz)(hq:∀m',Ext m m'->Q (.c (Il rz)) m'):Wc prog tbl 20 [.c ca100] m Q:=by
 have g:=hS.st;obtain⟨j,_⟩:=zsO;refine w20 ?_;unfold ztx at hp;obtain⟨h,a,hp⟩:=zrB hp;refine zwi (l:=l) g.pre ha100 a fun n d=>?_;obtain⟨e,i⟩:=g.call d j;refine⟨_,rfl,?_⟩;obtain rfl:=oi hp;exact hq _ e.ext'
theorem zwB{l:List Tf}{c:Clm}{ca100:C}{m f:M}{Q:V->M->Prop}{rz:Int}(hS:Pre f m)(ha100:Sl f ca100 l)(hp:zty l c=some rz)(hq:∀m',Ext m m'->Q (.c (Il rz)) m'):Wc prog tbl 29 [.c ca100,.agg 6 [Il c.Crop,Il c.Value,Il c.Day.Lo,Il c.Day.Hi,Il c.Count.Lo,Il c.Count.Hi]] m Q:=by
 have A:=hS.st;obtain⟨B,_⟩:=zsO;refine w29 ?_;unfold zty at hp;intro F h;obtain⟨d,e,u,i⟩:=A.blk h B 1;obtain⟨w,j,hp⟩:=zrB hp;refine zwA (l:=l) e.pre ha100 j fun G n=>?_;obtain⟨a,o⟩:=e.call n d;have p:=i.k o;refine⟨_,rfl,?_⟩;refine zr9 hp (fun q hp=>?_) fun q hp=>?_
 ·obtain rfl:=oi hp;exact hq _ a.ext'
 refine⟨_,_,_,_,_,_,p.bk.ra,?_⟩;obtain⟨y,r,hp⟩:=zrB hp;refine zwo (l:=l) (c:=c) a.pre ha100 r fun D s=>?_;obtain⟨g,z⟩:=a.call s d;refine⟨_,rfl,?_⟩;refine zsb hp (fun t hp=>?_) fun t hp=>?_
 ·obtain rfl:=oi hp;exact hq _ g.ext'
 obtain rfl:=oi hp;exact hq _ g.ext'
theorem zwC{l:List Tf}{ca100:C}{m f:M}{Q:V->M->Prop}{rz:Bool}(hS:Pre f m)(ha100:Sl f ca100 l)(hp:ztz l=some rz)(hq:∀m',Ext m m'->Q (.c (.bool rz)) m'):Wc prog tbl 49 [.c ca100] m Q:=by
 have n:=hS.st;obtain⟨o,_⟩:=zsO;refine w49 ?_;unfold ztz at hp;obtain⟨p,d,hp⟩:=zrB hp;refine zwz (l:=l) n.pre ha100 d fun t e=>?_;obtain⟨a,q⟩:=n.call e o;refine⟨_,rfl,?_⟩;refine zsa hp (fun g hp=>?_) fun g hp=>?_; rotate_left
 ·obtain rfl:=oi hp;exact hq _ a.ext'
 obtain⟨r,h,hp⟩:=zrB hp;refine zwA (l:=l) a.pre ha100 h fun u i=>?_;obtain⟨j,s⟩:=a.call i o;refine⟨_,rfl,?_⟩;obtain rfl:=oi hp;exact hq _ j.ext'
theorem zwD{l:List Tf}{c:Clm}{ca100:C}{m f:M}{Q:V->M->Prop}{rz:Bool}(hS:Pre f m)(ha100:Sl f ca100 l)(hp:ztA l c=some rz)(hq:∀m',Ext m m'->Q (.c (.bool rz)) m'):Wc prog tbl 47 [.c ca100,.agg 6 [Il c.Crop,Il c.Value,Il c.Day.Lo,Il c.Day.Hi,Il c.Count.Lo,Il c.Count.Hi]] m Q:=by
 have z:=hS.st;obtain⟨A,_⟩:=zsO;refine w47 ?_;unfold ztA at hp;intro D g;obtain⟨d,e,t,h⟩:=z.blk g A 1;obtain⟨u,i,hp⟩:=zrB hp;refine zwz (l:=l) e.pre ha100 i fun F j=>?_;obtain⟨a,n⟩:=e.call j d;have o:=h.k n;refine⟨_,rfl,?_⟩;refine zsa hp (fun p hp=>?_) fun p hp=>?_; rotate_left
 ·obtain rfl:=oi hp;exact hq _ a.ext'
 refine⟨_,_,_,_,_,_,o.bk.ra,?_⟩;obtain⟨w,q,hp⟩:=zrB hp;refine zwB (l:=l) (c:=c) a.pre ha100 q fun B r=>?_;obtain⟨s,y⟩:=a.call r d;refine⟨_,rfl,?_⟩;obtain rfl:=oi hp;exact hq _ s.ext'
theorem zwE{low:Int}{high:Int}{m f:M}{Q:V->M->Prop}{rz:Rg}(hS:Pre f m)(hp:ztB low high=some rz)(hq:∀m',Ext m m'->Q (.agg 2 [Il rz.Lo,Il rz.Hi]) m'):Wc prog tbl 46 [.c (Il low),.c (Il high)] m Q:=by
 have p:=hS.st;obtain⟨q,_⟩:=zsO;refine w46 ?_;unfold ztB at hp;intro r a;obtain⟨l,d,n,e⟩:=p.blk a q 1;obtain⟨g,h,i,o,j⟩:=e.sto d [Il low,Il high];refine⟨g,h,?_⟩;refine⟨_,_,j.bk.ra,?_⟩;obtain rfl:=oi hp;exact hq _ i.ext'
theorem zwF{c:Clm}{day:Int}{count:Int}{m f:M}{Q:V->M->Prop}{rz:Tr}(hS:Pre f m)(hp:ztC c day count=some rz)(hq:∀m',Ext m m'->Q (.agg 2 [Il rz.Day,Il rz.Count]) m'):Wc prog tbl 48 [.agg 6 [Il c.Crop,Il c.Value,Il c.Day.Lo,Il c.Day.Hi,Il c.Count.Lo,Il c.Count.Hi],.c (.int .u8 day),.c (.int .u8 count)] m Q:=by
 have P:=hS.st;obtain⟨S,_⟩:=zsO;refine w48 ?_;unfold ztC at hp;intro T d;obtain⟨e,g,J,h⟩:=P.blk d S 1;intro Y i;obtain⟨N,j,l,n⟩:=g.blk i e 2;have a:=h.k l;refine⟨trivial,trivial,_,a.bk.rc rfl,trivial,trivial,_,a.bk.rc rfl,trivial,trivial,_,a.bk.rc rfl,?_⟩;refine gdi hp fun o hp=>?_;refine gdi hp fun p hp=>?_;refine gdi hp fun q hp=>?_;refine gdi hp fun r hp=>?_;refine gdi hp fun s hp=>?_;obtain⟨t,hp⟩:=zrC hp;refine⟨t,trivial,trivial,_,a.bk.rc rfl,trivial,trivial,_,a.bk.rc rfl,trivial,trivial,_,a.bk.rc rfl,?_⟩;refine gdi hp fun u hp=>?_;refine gdi hp fun w hp=>?_;refine gdi hp fun y hp=>?_;refine gdi hp fun z hp=>?_;refine gdi hp fun A hp=>?_;refine gdi hp fun B hp=>?_;obtain⟨D,F,G,O,I⟩:=n.sto j [(Il (c.Day.Lo+((zno .i64 day) % ((c.Day.Hi - c.Day.Lo)+(1:Int))))),(Il (c.Count.Lo+((zno .i64 count) % ((c.Count.Hi - c.Count.Lo)+(1:Int)))))];refine⟨D,F,?_⟩;refine⟨_,_,I.bk.ra,?_⟩;obtain rfl:=oi hp;exact hq _ G.ext'
theorem zwG{r:Rg}{n:Int}{m f:M}{Q:V->M->Prop}{rz:Bool}(hS:Pre f m)(hp:ztD r n=some rz)(hq:∀m',Ext m m'->Q (.c (.bool rz)) m'):Wc prog tbl 78 [.agg 2 [Il r.Lo,Il r.Hi],.c (Il n)] m Q:=by
 have j:=hS.st;obtain⟨l,_⟩:=zsO;refine w78 ?_;unfold ztD at hp;intro o e;obtain⟨h,a,i,d⟩:=j.blk e l 1;refine⟨trivial,_,d.bk.rc rfl,?_⟩;refine ifd hp (fun g hp=>?_) fun g hp=>?_; rotate_left
 ·obtain rfl:=oi hp;exact hq _ a.ext'
 refine⟨trivial,_,d.bk.rc rfl,?_⟩;obtain rfl:=oi hp;exact hq _ a.ext'
theorem zwH{n:Int}{size:Int}{m f:M}{Q:V->M->Prop}{rz:Bool}(hS:Pre f m)(hp:ztE n size=some rz)(hq:∀m',Ext m m'->Q (.c (.bool rz)) m'):Wc prog tbl 77 [.c (Il n),.c (Il size)] m Q:=by
 have h:=hS.st;obtain⟨l,_⟩:=zsO;refine w77 ?_;unfold ztE at hp;refine gdi hp fun a hp=>?_;obtain⟨i,d,hp⟩:=zrB hp;refine zwG (r:=({ Lo:=(0:Int),Hi:=(size - 1) }:Rg)) (n:=n) h.pre  d fun o e=>?_;obtain⟨g,j⟩:=h.call e l;refine⟨_,rfl,?_⟩;obtain rfl:=oi hp;exact hq _ g.ext'
theorem zwI{n:Int}{m f:M}{Q:V->M->Prop}{rz:Bool}(hS:Pre f m)(hp:ztF n=some rz)(hq:∀m',Ext m m'->Q (.c (.bool rz)) m'):Wc prog tbl 55 [.c (Il n)] m Q:=by
 have g:=hS.st;obtain⟨j,_⟩:=zsO;refine w55 ?_;unfold ztF at hp;obtain⟨h,a,hp⟩:=zrB hp;refine zwG (r:=({ Lo:=(0:Int),Hi:=(120:Int) }:Rg)) (n:=n) g.pre  a fun l d=>?_;obtain⟨e,i⟩:=g.call d j;refine⟨_,rfl,?_⟩;obtain rfl:=oi hp;exact hq _ e.ext'
theorem zwJ{n:Int}{m f:M}{Q:V->M->Prop}{rz:Bool}(hS:Pre f m)(hp:ztG n=some rz)(hq:∀m',Ext m m'->Q (.c (.bool rz)) m'):Wc prog tbl 56 [.c (Il n)] m Q:=by
 have g:=hS.st;obtain⟨j,_⟩:=zsO;refine w56 ?_;unfold ztG at hp;obtain⟨h,a,hp⟩:=zrB hp;refine zwG (r:=({ Lo:=(0:Int),Hi:=(100:Int) }:Rg)) (n:=n) g.pre  a fun l d=>?_;obtain⟨e,i⟩:=g.call d j;refine⟨_,rfl,?_⟩;obtain rfl:=oi hp;exact hq _ e.ext'
theorem zwK{n:Int}{m f:M}{Q:V->M->Prop}{rz:Bool}(hS:Pre f m)(hp:ztH n=some rz)(hq:∀m',Ext m m'->Q (.c (.bool rz)) m'):Wc prog tbl 105 [.c (Il n)] m Q:=by
 have g:=hS.st;obtain⟨j,_⟩:=zsO;refine zvz ?_;unfold ztH at hp;obtain⟨h,a,hp⟩:=zrB hp;refine zwG (r:=({ Lo:=(0:Int),Hi:=(100:Int) }:Rg)) (n:=n) g.pre  a fun l d=>?_;obtain⟨e,i⟩:=g.call d j;refine⟨_,rfl,?_⟩;obtain rfl:=oi hp;exact hq _ e.ext'
theorem zwL{l:List Int}{ca100:C}{m f:M}{Q:V->M->Prop}{rz:Bool}(hS:Pre f m)(ha100:Sl f ca100 l)(hp:ztJ l=some rz)(hq:∀m',Ext m m'->Q (.c (.bool rz)) m'):Wc prog tbl 109 [.c ca100] m Q:=by
 have D:=hS.st;obtain⟨F,_⟩:=zsO;refine zvI ?_;unfold ztJ at hp;intro G z
 have hgo:∀(d:Nat) (w:Bool) (p:Int) (q:M) (e:Nat->Nat),St (Fm.of m) f f q->ztI l d p=some rz->G [.c (.bool w),.c (Il p)] q:=by
  intro d
  induction d with
  | zero=>intro w p q e a hp; cases hp
  | succ d y=>
   intro w p q e a hp;refine z _ _ _ ?_;rw[ztI] at hp;refine⟨ha100.isSl,?_⟩
   try rw[ha100.slLen]
   refine ifd hp (fun r hp=>?_) fun r hp=>?_; rotate_left
   ·obtain rfl:=oi hp;exact hq _ a.ext'
   obtain⟨A,g,hp⟩:=zrB hp;obtain⟨I,n,i,g⟩:=zrv g;refine⟨I,n,(by first|exact i|(rw[ha100.slLen];exact i)),_,(ha100.rdI g a.sub),?_⟩;refine gdi hp fun s hp=>?_;obtain⟨B,h,hp⟩:=zrB hp;obtain⟨J,o,j,h⟩:=zrv h;refine⟨J,o,(by first|exact j|(rw[ha100.slLen];exact j)),_,(ha100.rdI h a.sub),?_⟩;refine ifd hp (fun t hp=>?_) fun t hp=>?_
   ·obtain rfl:=oi hp;exact hq _ a.ext'
   refine gdi hp fun u hp=>?_;exact y _ _ _ e a hp
 exact hgo _ _ _ _ F D hp
theorem zwM{l:List Int}{ca100:C}{m f:M}{Q:V->M->Prop}{rz:Bool}(hS:Pre f m)(ha100:Sl f ca100 l)(hp:ztK l=some rz)(hq:∀m',Ext m m'->Q (.c (.bool rz)) m'):Wc prog tbl 86 [.c ca100] m Q:=by
 have e:=hS.st;obtain⟨s,_⟩:=zsO;refine w86 ?_;unfold ztK at hp;refine⟨ha100.isSl,?_⟩
 try rw[ha100.slLen]
 refine ifd hp (fun h hp=>?_) fun h hp=>?_; rotate_left
 ·obtain rfl:=oi hp;exact hq _ e.ext'
 obtain⟨p,a,hp⟩:=zrB hp;obtain⟨t,g,d,a⟩:=zrv a;refine⟨t,g,(by first|exact d|(rw[ha100.slLen];exact d)),_,(ha100.rdI a e.sub),?_⟩;refine ifd hp (fun i hp=>?_) fun i hp=>?_; rotate_left
 ·obtain rfl:=oi hp;exact hq _ e.ext'
 obtain⟨q,j,hp⟩:=zrB hp;refine zwL (l:=l) e.pre ha100 j fun u n=>?_;obtain⟨o,r⟩:=e.call n s;refine⟨_,rfl,?_⟩;obtain rfl:=oi hp;exact hq _ o.ext'
theorem zwN{l:List Tf}{ca100:C}{m f:M}{Q:V->M->Prop}{rz:List Int}(hS:Pre f m)(ha100:Sl f ca100 l)(hp:ztM l=some rz)(hq:∀m' f' c0,Grw m f m' f'->Sl f' c0 rz->Q (.c c0) m'):Wc prog tbl 87 [.c ca100] m Q:=by
 have S0:=hS.st;obtain⟨τ0,_⟩:=zsO;refine w87 ?_;unfold ztM at hp;refine⟨ha100.isSl,?_⟩;intro R0 ia
 have hgo:∀(g:Nat) (p:C) (s:Int) (h:List Int) (q:M) (i:Nat->Nat),St (Fm.of m) f f q->Ow (Fm.of m) f i q 1 p h->ztL l g h s=some rz->R0 [.c p,.c (Il s)] q:=by
  intro g
  induction g with
  | zero=>intro p s h q i j d hp; cases hp
  | succ g ha=>
   intro p s h q i j d hp;refine ia _ _ _ ?_;rw[ztL] at hp
   try rw[ha100.slLen]
   refine ifd hp (fun t hp=>?_) fun t hp=>?_; rotate_left
   ·obtain⟨u,w,ja,y⟩:=d.freeze j;obtain rfl:=oi hp;exact hq _ u p w.grw y
   obtain⟨e,n,hp⟩:=zrB hp;obtain⟨n4,r,o,n⟩:=zrv n;obtain⟨z,A,B,D,ka,la,ma⟩:=zsR ha100 n;refine⟨n4,r,(by first|exact o|(rw[ha100.slLen];exact o)),_,_,_,_,_,_,(D _ j.sub).1,?_⟩;intro ua F;obtain⟨na,G,I,J⟩:=j.blk F i 2;have d:=d.k I;obtain⟨N,O,P,S,T⟩:=J.sto G [Il e.From,.bool e.Whole,Il e.Least,z,A,B];have d:=d.k S;refine⟨N,O,?_⟩;refine⟨trivial,_,T.bk.rc rfl,?_⟩;obtain⟨Y,hp⟩:=zrC hp;intro va Z;obtain⟨aa,ba,ca,da,ea,oa,fa⟩:=d.app' zwa P (a:=e.From) (show Rp.rep (α:=Int) f _ e.From from rfl) Y Z;refine⟨aa,ba,da,?_⟩;refine gdi hp fun ga hp=>?_;exact ha _ _ _ _ ca ea fa hp
 exact hgo _ _ _ _ _ τ0 S0 (Ow.nil _ _ _ _ _) hp
theorem zwO{l:List Tf}{t:Tf}{ca100 ca203 ca204 ca205:C}{m f:M}{Q:V->M->Prop}{rz:Bool}(hS:Pre f m)(ha100:Sl f ca100 l)(_ha203:Sl f ca203 t.Weeks)(_ha204:Sl f ca204 t.Counts)(ha205:Sl f ca205 t.Rates)(hp:ztN l t=some rz)(hq:∀m',Ext m m'->Q (.c (.bool rz)) m'):Wc prog tbl 88 [.c ca100,.agg 6 [Il t.From,.bool t.Whole,Il t.Least,ca203,ca204,ca205]] m Q:=by
 have z:=hS.st;obtain⟨A,_⟩:=zsO;refine w88 ?_;unfold ztN at hp;intro D i;obtain⟨o,e,p,j⟩:=z.blk i A 1;refine⟨trivial,_,j.bk.rc rfl,ha205.isSl,?_⟩;obtain⟨q,a,hp⟩:=zrB hp;obtain⟨B,h,d,a⟩:=zrv a;obtain⟨r,s,u,n,w,y,g⟩:=zsR ha100 a;refine⟨B,h,(by first|exact d|(rw[ha100.slLen];exact d)),(ha100.isPt a _),_,((n _ e.sub).2.1 5 _ rfl),g.isSl,?_⟩
 try rw[ha205.slLen]
 try rw[g.slLen]
 obtain rfl:=oi hp;exact hq _ e.ext'
theorem zwP{l:List Tf}{n:Int}{ca100:C}{m f:M}{Q:V->M->Prop}{rz:Bool}(hS:Pre f m)(ha100:Sl f ca100 l)(hp:ztO l n=some rz)(hq:∀m',Ext m m'->Q (.c (.bool rz)) m'):Wc prog tbl 54 [.c ca100,.c (Il n)] m Q:=by
 have q:=hS.st;obtain⟨A,_⟩:=zsO;refine w54 ?_;unfold ztO at hp;obtain⟨h,a,hp⟩:=zrB hp;obtain⟨B,g,d,a⟩:=zrv a;obtain⟨r,s,t,i,u,w,e⟩:=zsR ha100 a;refine⟨B,g,(by first|exact d|(rw[ha100.slLen];exact d)),(ha100.isPt a _),_,((i _ q.sub).2.1 5 _ rfl),e.isSl,?_⟩
 try rw[e.slLen]
 obtain⟨y,j,hp⟩:=zrB hp;refine zwH (n:=n) (size:=(h.Rates.length:Int)) q.pre  j fun D o=>?_;obtain⟨p,z⟩:=q.call o A;refine⟨_,rfl,?_⟩;obtain rfl:=oi hp;exact hq _ p.ext'
theorem zwQ{t:Tf}{ca103 ca104 ca105:C}{m f:M}{Q:V->M->Prop}{rz:Bool}(hS:Pre f m)(ha103:Sl f ca103 t.Weeks)(ha104:Sl f ca104 t.Counts)(ha105:Sl f ca105 t.Rates)(hp:ztP t=some rz)(hq:∀m',Ext m m'->Q (.c (.bool rz)) m'):Wc prog tbl 83 [.agg 6 [Il t.From,.bool t.Whole,Il t.Least,ca103,ca104,ca105]] m Q:=by
 have l:=hS.st;obtain⟨n,_⟩:=zsO;refine w83 ?_;unfold ztP at hp;intro o e;obtain⟨i,a,j,d⟩:=l.blk e n 1;refine⟨trivial,_,d.bk.rc rfl,ha103.isSl,?_⟩
 try rw[ha103.slLen]
 refine ifd hp (fun g hp=>?_) fun g hp=>?_
 ·obtain rfl:=oi hp;exact hq _ a.ext'
 refine⟨trivial,_,d.bk.rc rfl,ha104.isSl,?_⟩
 try rw[ha104.slLen]
 refine ifd hp (fun h hp=>?_) fun h hp=>?_
 ·obtain rfl:=oi hp;exact hq _ a.ext'
 refine⟨trivial,_,d.bk.rc rfl,ha105.isSl,?_⟩
 try rw[ha105.slLen]
 obtain rfl:=oi hp;exact hq _ a.ext'
theorem zwR{c:Clm}{t:Tr}{m f:M}{Q:V->M->Prop}{rz:Bool}(hS:Pre f m)(hp:ztQ c t=some rz)(hq:∀m',Ext m m'->Q (.c (.bool rz)) m'):Wc prog tbl 64 [.agg 6 [Il c.Crop,Il c.Value,Il c.Day.Lo,Il c.Day.Hi,Il c.Count.Lo,Il c.Count.Hi],.agg 2 [Il t.Day,Il t.Count]] m Q:=by
 have P:=hS.st;obtain⟨S,_⟩:=zsO;refine w64 ?_;unfold ztQ at hp;intro Y l;obtain⟨o,p,I,q⟩:=P.blk l S 1;intro Z s;obtain⟨d,e,u,g⟩:=p.blk s o 2;have h:=q.k u;refine⟨trivial,_,_,h.bk.rp (k:=2) (j:=2) rfl (by omega),trivial,_,g.bk.rc rfl,?_⟩;obtain⟨J,w,hp⟩:=zrB hp;refine zwG (r:=c.Day) (n:=t.Day) e.pre  w fun m6 y=>?_;obtain⟨a,i⟩:=e.call y d;have z:=h.k i;have A:=g.k i;refine⟨_,rfl,?_⟩;refine zsa hp (fun B hp=>?_) fun B hp=>?_; rotate_left
 ·obtain rfl:=oi hp;exact hq _ a.ext'
 refine⟨trivial,_,_,z.bk.rp (k:=4) (j:=2) rfl (by omega),trivial,_,A.bk.rc rfl,?_⟩;obtain⟨N,D,hp⟩:=zrB hp;refine zwG (r:=c.Count) (n:=t.Count) a.pre  D fun T F=>?_;obtain⟨G,O⟩:=a.call F d;refine⟨_,rfl,?_⟩;obtain rfl:=oi hp;exact hq _ G.ext'
theorem zwS{x:Int}{m f:M}{Q:V->M->Prop}{rz:Bool}(hS:Pre f m)(hp:ztR x=some rz)(hq:∀m',Ext m m'->Q (.c (.bool rz)) m'):Wc prog tbl 95 [.c (Il x)] m Q:=by
 have a:=hS.st;obtain⟨d,_⟩:=zsO;refine w95 ?_;unfold ztR at hp;obtain rfl:=oi hp;exact hq _ a.ext'
theorem zwT{x:Int}{m f:M}{Q:V->M->Prop}{rz:Bool}(hS:Pre f m)(hp:ztS x=some rz)(hq:∀m',Ext m m'->Q (.c (.bool rz)) m'):Wc prog tbl 131 [.c (Il x)] m Q:=by
 have a:=hS.st;obtain⟨d,_⟩:=zsO;refine zvW ?_;unfold ztS at hp;obtain rfl:=oi hp;exact hq _ a.ext'
theorem zwU{x:Int}{y:Int}{m f:M}{Q:V->M->Prop}{rz:Bool}(hS:Pre f m)(hp:ztT x y=some rz)(hq:∀m',Ext m m'->Q (.c (.bool rz)) m'):Wc prog tbl 130 [.c (Il x),.c (Il y)] m Q:=by
 have n:=hS.st;obtain⟨o,_⟩:=zsO;refine zvM ?_;unfold ztT at hp;obtain⟨p,e,hp⟩:=zrB hp;refine zwS (x:=x) n.pre  e fun t g=>?_;obtain⟨a,q⟩:=n.call g o;refine⟨_,rfl,?_⟩;refine zsa hp (fun h hp=>?_) fun h hp=>?_; rotate_left
 ·obtain rfl:=oi hp;exact hq _ a.ext'
 obtain⟨r,i,hp⟩:=zrB hp;refine zwS (x:=y) a.pre  i fun u j=>?_;obtain⟨d,s⟩:=a.call j o;refine⟨_,rfl,?_⟩;refine zsb hp (fun l hp=>?_) fun l hp=>?_
 ·obtain rfl:=oi hp;exact hq _ d.ext'
 obtain rfl:=oi hp;exact hq _ d.ext'
theorem zwV{x:Int}{y:Int}{m f:M}{Q:V->M->Prop}{rz:Int}(hS:Pre f m)(hp:ztU x y=some rz)(hq:∀m',Ext m m'->Q (.c (Il rz)) m'):Wc prog tbl 71 [.c (Il x),.c (Il y)] m Q:=by
 have q:=hS.st;obtain⟨r,_⟩:=zsO;refine w71 ?_;unfold ztU at hp;obtain⟨s,e,hp⟩:=zrB hp;refine zwS (x:=x) q.pre  e fun z g=>?_;obtain⟨d,t⟩:=q.call g r;refine⟨_,rfl,?_⟩;obtain⟨u,h,hp⟩:=zrB hp;refine zwS (x:=y) d.pre  h fun A i=>?_;obtain⟨a,w⟩:=d.call i r;refine⟨_,rfl,?_⟩;refine zsa hp (fun j hp=>?_) fun j hp=>?_
 ·refine zsa hp (fun l hp=>?_) fun l hp=>?_
  ·obtain rfl:=oi hp;exact hq _ a.ext'
  obtain rfl:=oi hp;exact hq _ a.ext'
 refine zsa hp (fun n hp=>?_) fun n hp=>?_
 ·obtain rfl:=oi hp;exact hq _ a.ext'
 refine ifd hp (fun o hp=>?_) fun o hp=>?_
 ·obtain rfl:=oi hp;exact hq _ a.ext'
 refine ifd hp (fun p hp=>?_) fun p hp=>?_
 ·obtain rfl:=oi hp;exact hq _ a.ext'
 obtain rfl:=oi hp;exact hq _ a.ext'
theorem zwW{l:List Int}{x:Int}{ca100:C}{m f:M}{Q:V->M->Prop}{rz:Int × Bool}(hS:Pre f m)(ha100:Sl f ca100 l)(hp:ztW l x=some rz)(hq:∀m',Ext m m'->Q (.tup [.c (Il rz.1),.c (.bool rz.2)]) m'):Wc prog tbl 117 [.c ca100,.c (Il x)] m Q:=by
 have S0:=hS.st;obtain⟨τ0,_⟩:=zsO;refine zvS ?_;unfold ztW at hp;refine⟨ha100.isSl,?_⟩;intro R0 ha
 try rw[ha100.slLen]
 have hgo:∀(e:Nat) (w:Int) (z:Int) (A:M) (d:Nat->Nat),St (Fm.of m) f f A->ztV l x e w z=some rz->R0 [.c (Il w),.c (Il z)] A:=by
  intro e
  induction e with
  | zero=>intro w z A d a hp; cases hp
  | succ e r=>
   intro w z A d a hp;refine ha _ _ _ ?_;rw[ztV] at hp;refine ifd hp (fun B hp=>?_) fun B hp=>?_
   ·refine gdi hp fun D hp=>?_;refine gdi hp fun F hp=>?_;refine gdi hp fun G hp=>?_;refine gdi hp fun I hp=>?_;refine gdi hp fun J hp=>?_;obtain⟨N,g,hp⟩:=zrB hp;obtain⟨n4,s,n,g⟩:=zrv g;refine⟨n4,s,(by first|exact n|(rw[ha100.slLen];exact n)),_,(ha100.rdI g a.sub),?_⟩;obtain⟨ja,O,hp⟩:=zrB hp;refine zwU (x:=N) (y:=x) a.pre  O fun m7 P=>?_;obtain⟨q,ka⟩:=a.call P d;refine⟨_,rfl,?_⟩;refine zsa hp (fun S hp=>?_) fun S hp=>?_; rotate_left
    ·exact r _ _ _ d q hp
    refine gdi hp fun T hp=>?_;exact r _ _ _ d q hp
   try rw[ha100.slLen]
   refine ifd hp (fun Y hp=>?_) fun Y hp=>?_; rotate_left
   ·obtain rfl:=oi hp;exact hq _ a.ext'
   obtain⟨la,h,hp⟩:=zrB hp;obtain⟨n9,t,o,h⟩:=zrv h;refine⟨n9,t,(by first|exact o|(rw[ha100.slLen];exact o)),_,(ha100.rdI h a.sub),?_⟩;refine ifd hp (fun Z hp=>?_) fun Z hp=>?_
   ·obtain rfl:=oi hp;exact hq _ a.ext'
   obtain⟨aa,i,hp⟩:=zrB hp;obtain⟨ia,u,p,i⟩:=zrv i;refine⟨ia,u,(by first|exact p|(rw[ha100.slLen];exact p)),_,(ha100.rdI i a.sub),?_⟩;obtain⟨ma,ba,hp⟩:=zrB hp;refine zwT (x:=aa) a.pre  ba fun wa ca=>?_;obtain⟨j,na⟩:=a.call ca d;refine⟨_,rfl,?_⟩;refine zsa hp (fun da hp=>?_) fun da hp=>?_; rotate_left
   ·obtain rfl:=oi hp;exact hq _ j.ext'
   obtain⟨oa,ea,hp⟩:=zrB hp;refine zwT (x:=x) j.pre  ea fun xa fa=>?_;obtain⟨ga,pa⟩:=j.call fa d;refine⟨_,rfl,?_⟩;obtain rfl:=oi hp;exact hq _ ga.ext'
 exact hgo _ _ _ _ τ0 S0 hp
theorem zwX{days:List Int}{day:Int}{ca100:C}{m f:M}{Q:V->M->Prop}{rz:Int}(hS:Pre f m)(ha100:Sl f ca100 days)(hp:ztX days day=some rz)(hq:∀m',Ext m m'->Q (.c (Il rz)) m'):Wc prog tbl 98 [.c ca100,.c (Il day)] m Q:=by
 have i:=hS.st;obtain⟨o,_⟩:=zsO;refine w98 ?_;unfold ztX at hp;refine gdi hp fun a hp=>?_;obtain⟨j,d,hp⟩:=zrB hp;refine zwW (l:=days) (x:=(day+1)) i.pre ha100 d fun p e=>?_;obtain⟨g,n⟩:=i.call e o;refine⟨_,_,rfl,?_⟩;refine gdi hp fun h hp=>?_;obtain rfl:=oi hp;exact hq _ g.ext'
theorem zwY{l:List Tf}{day:Int}{ca100:C}{m f:M}{Q:V->M->Prop}{rz:Tf}(hS:Pre f m)(ha100:Sl f ca100 l)(hp:ztY l day=some rz)(hq:∀m' f' c3 c4 c5,Grw m f m' f'->Sl f' c3 rz.Weeks->Sl f' c4 rz.Counts->Sl f' c5 rz.Rates->Q (.agg 6 [Il rz.From,.bool rz.Whole,Il rz.Least,c3,c4,c5]) m'):Wc prog tbl 79 [.c ca100,.c (Il day)] m Q:=by
 have S0:=hS.st;obtain⟨τ0,_⟩:=zsO;refine w79 ?_;unfold ztY at hp;intro m0 s;obtain⟨h,i,aa,t⟩:=S0.blk s τ0 1;obtain⟨u,w,hp⟩:=zrB hp;refine zwN (l:=l) i.pre ha100 w fun m2 y ba z A=>?_;obtain⟨j,a⟩:=i.callG z h;have B:=t.k a;refine⟨_,rfl,?_⟩;obtain⟨ca,D,hp⟩:=zrB hp;refine zwX (days:=u) (day:=day) j.pre A D fun m5 F=>?_;obtain⟨n,G⟩:=j.call F h;have I:=B.k G;refine⟨_,rfl,?_⟩;obtain⟨d,e,hp⟩:=zrB hp;obtain⟨n7,r,g,e⟩:=zrv e;obtain⟨o,p,q,J,N,O,P⟩:=zsR ha100 e;refine⟨n7,r,(by first|exact g|(rw[ha100.slLen];exact g)),_,_,_,_,_,_,(J _ (Sub.trans a.fs n.sub)).1,?_⟩;obtain⟨S,T,Y,da,Z⟩:=I.sto n [Il d.From,.bool d.Whole,Il d.Least,o,p,q];refine⟨S,T,?_⟩;refine⟨_,_,_,_,_,_,Z.bk.ra,?_⟩;obtain rfl:=oi hp;exact hq _ y o p q Y.grw (N.sub a.fs) (O.sub a.fs) (P.sub a.fs)
theorem zwZ{t:Tf}{loss:Int}{ca103 ca104 ca105:C}{m f:M}{Q:V->M->Prop}{rz:Int}(hS:Pre f m)(_ha103:Sl f ca103 t.Weeks)(_ha104:Sl f ca104 t.Counts)(_ha105:Sl f ca105 t.Rates)(hp:ztZ t loss=some rz)(hq:∀m',Ext m m'->Q (.c (Il rz)) m'):Wc prog tbl 118 [.agg 6 [Il t.From,.bool t.Whole,Il t.Least,ca103,ca104,ca105],.c (Il loss)] m Q:=by
 have i:=hS.st;obtain⟨j,_⟩:=zsO;refine zvB ?_;unfold ztZ at hp;intro l a;obtain⟨e,d,g,h⟩:=i.blk a j 1;obtain rfl:=oi hp;exact hq _ d.ext'
theorem zw0{t:Tf}{loss:Int}{ca103 ca104 ca105:C}{m f:M}{Q:V->M->Prop}{rz:Int}(hS:Pre f m)(_ha103:Sl f ca103 t.Weeks)(_ha104:Sl f ca104 t.Counts)(_ha105:Sl f ca105 t.Rates)(hp:zt0 t loss=some rz)(hq:∀m',Ext m m'->Q (.c (Il rz)) m'):Wc prog tbl 119 [.agg 6 [Il t.From,.bool t.Whole,Il t.Least,ca103,ca104,ca105],.c (Il loss)] m Q:=by
 have j:=hS.st;obtain⟨l,_⟩:=zsO;refine zvK ?_;unfold zt0 at hp;intro n a;obtain⟨h,d,i,e⟩:=j.blk a l 1;refine⟨trivial,_,e.bk.rc rfl,?_⟩;refine gdi hp fun g hp=>?_;obtain rfl:=oi hp;exact hq _ d.ext'
theorem zw1{t:Tf}{h:Ht}{ca103 ca104 ca105:C}{m f:M}{Q:V->M->Prop}{rz:Int}(hS:Pre f m)(ha103:Sl f ca103 t.Weeks)(ha104:Sl f ca104 t.Counts)(ha105:Sl f ca105 t.Rates)(hp:zt1 t h=some rz)(hq:∀m',Ext m m'->Q (.c (Il rz)) m'):Wc prog tbl 99 [.agg 6 [Il t.From,.bool t.Whole,Il t.Least,ca103,ca104,ca105],.agg 3 [Il h.Day,Il h.Count,Il h.crop]] m Q:=by
 have S0:=hS.st;obtain⟨τ0,_⟩:=zsO;refine w99 ?_;unfold zt1 at hp;intro m0 ga;obtain⟨ha,ia,Oa,ja⟩:=S0.blk ga τ0 1;intro m1 ka;obtain⟨N,g,la,i⟩:=ia.blk ka ha 2;have j:=ja.k la;refine⟨trivial,_,j.bk.rc rfl,trivial,_,i.bk.rc rfl,?_⟩;obtain⟨Pa,n,hp⟩:=zrB hp;obtain⟨n4,Z,A,n⟩:=zrv n;obtain⟨Qa,O,o⟩:=ha105.rdS n;refine⟨n4,Z,(by first|exact A|(rw[ha105.slLen];exact A)),_,(O _ g.sub),trivial,_,j.bk.rc rfl,trivial,trivial,_,i.bk.rc rfl,?_⟩;obtain⟨Ra,ma,hp⟩:=zrB hp;refine zwX (days:=t.Weeks) (day:=h.Day) g.pre ha103 ma fun m9 na=>?_;obtain⟨e,P⟩:=g.call na N;have p:=j.k P;have q:=i.k P;refine⟨_,rfl,(by rw[show cmC _=true from zp8 (o.noFn)]; exact(O _ e.sub)),(q.bk.rc rfl),(by rw[show cmC _=true from zp8 (ha105.noFn)]; exact(p.bk.rc rfl)),?_⟩;obtain⟨Sa,r,hp⟩:=zrB hp;obtain⟨Ia,aa,B,r⟩:=zrv r;obtain⟨Ta,oa,d⟩:=o.rdS r;refine⟨Ia,aa,(by first|exact B|(rw[o.slLen];exact B)),_,(oa _ e.sub),trivial,_,p.bk.rc rfl,trivial,trivial,_,q.bk.rc rfl,?_⟩;obtain⟨Ua,pa,hp⟩:=zrB hp;refine zwW (l:=t.Counts) (x:=h.Count) e.pre ha104 pa fun db qa=>?_;obtain⟨a,S⟩:=e.call qa N;have T:=p.k S;have Y:=q.k S;refine⟨_,_,rfl,?_⟩;refine zsa hp (fun sa hp=>?_) fun sa hp=>?_
 ·obtain⟨Va,s,hp⟩:=zrB hp;obtain⟨Ja,ba,D,s⟩:=zrv s;refine⟨Ja,ba,(by first|exact D|(rw[d.slLen];exact D)),_,(d.rdI s a.sub),?_⟩;obtain rfl:=oi hp;exact hq _ a.ext'
 refine⟨trivial,_,T.bk.rc rfl,?_⟩;refine gdi hp fun ta hp=>?_;obtain⟨Wa,u,hp⟩:=zrB hp;obtain⟨Ka,ca,F,u⟩:=zrv u;refine⟨Ka,ca,(by first|exact F|(rw[ha104.slLen];exact F)),_,(ha104.rdI u a.sub),trivial,_,T.bk.rc rfl,?_⟩;obtain⟨Xa,w,hp⟩:=zrB hp;obtain⟨La,da,G,w⟩:=zrv w;refine⟨La,da,(by first|exact G|(rw[ha104.slLen];exact G)),_,(ha104.rdI w a.sub),?_⟩;refine gdi hp fun ua hp=>?_;obtain⟨Ya,y,hp⟩:=zrB hp;obtain⟨Ma,ea,I,y⟩:=zrv y;refine⟨Ma,ea,(by first|exact I|(rw[d.slLen];exact I)),_,(d.rdI y a.sub),trivial,trivial,_,Y.bk.rc rfl,?_⟩;refine gdi hp fun va hp=>?_;refine gdi hp fun wa hp=>?_;refine gdi hp fun xa hp=>?_;refine gdi hp fun ya hp=>?_;obtain⟨Za,z,hp⟩:=zrB hp;obtain⟨Na,fa,J,z⟩:=zrv z;refine⟨Na,fa,(by first|exact J|(rw[d.slLen];exact J)),_,(d.rdI z a.sub),trivial,trivial,_,Y.bk.rc rfl,?_⟩;refine gdi hp fun za hp=>?_;refine gdi hp fun Aa hp=>?_;refine gdi hp fun Ba hp=>?_;refine gdi hp fun Ca hp=>?_;refine gdi hp fun Da hp=>?_;refine gdi hp fun Ea hp=>?_;refine gdi hp fun Fa hp=>?_;refine gdi hp fun Ga hp=>?_;refine gdi hp fun Ha hp=>?_;obtain rfl:=oi hp;exact hq _ a.ext'
theorem zw2{l:List Int}{ca100:C}{m f:M}{Q:V->M->Prop}{rz:Int}(hS:Pre f m)(ha100:Sl f ca100 l)(hp:zt3 l=some rz)(hq:∀m',Ext m m'->Q (.c (Il rz)) m'):Wc prog tbl 91 [.c ca100] m Q:=by
 have A:=hS.st;obtain⟨G,_⟩:=zsO;refine w91 ?_;unfold zt3 at hp;refine⟨ha100.isSl,?_⟩
 try rw[ha100.slLen]
 refine ifd hp (fun q hp=>?_) fun q hp=>?_
 ·obtain rfl:=oi hp;exact hq _ A.ext'
 obtain⟨D,g,hp⟩:=zrB hp;obtain⟨I,n,i,g⟩:=zrv g;refine⟨I,n,(by first|exact i|(rw[ha100.slLen];exact i)),_,(ha100.rdI g A.sub),ha100.isSl,?_⟩;intro J B
 have hgo:∀(d:Nat) (r:Int) (s:Int) (t:M) (e:Nat->Nat),St (Fm.of m) f f t->zt2 l d r s=some rz->J [.c (Il r),.c (Il s)] t:=by
  intro d
  induction d with
  | zero=>intro r s t e a hp; cases hp
  | succ d o=>
   intro r s t e a hp;refine B _ _ _ ?_;rw[zt2] at hp
   try rw[ha100.slLen]
   refine ifd hp (fun u hp=>?_) fun u hp=>?_; rotate_left
   ·obtain rfl:=oi hp;exact hq _ a.ext'
   obtain⟨F,h,hp⟩:=zrB hp;obtain⟨N,p,j,h⟩:=zrv h;refine⟨N,p,(by first|exact j|(rw[ha100.slLen];exact j)),_,(ha100.rdI h a.sub),?_⟩;refine ifd hp (fun w hp=>?_) fun w hp=>?_
   ·refine gdi hp fun y hp=>?_;exact o _ _ _ e a hp
   refine gdi hp fun z hp=>?_;exact o _ _ _ e a hp
 exact hgo _ _ _ _ G A hp
theorem zw3{l:List Int}{ca100:C}{m f:M}{Q:V->M->Prop}{rz:Int}(hS:Pre f m)(ha100:Sl f ca100 l)(hp:zt5 l=some rz)(hq:∀m',Ext m m'->Q (.c (Il rz)) m'):Wc prog tbl 92 [.c ca100] m Q:=by
 have y:=hS.st;obtain⟨D,_⟩:=zsO;refine w92 ?_;unfold zt5 at hp;refine⟨ha100.isSl,?_⟩
 try rw[ha100.slLen]
 refine ifd hp (fun p hp=>?_) fun p hp=>?_
 ·cases hp
 obtain⟨A,e,hp⟩:=zrB hp;obtain⟨F,n,i,e⟩:=zrv e;refine⟨F,n,(by first|exact i|(rw[ha100.slLen];exact i)),_,(ha100.rdI e y.sub),?_⟩;intro G z
 have hgo:∀(a:Nat) (q:Int) (r:Int) (s:M) (g:Nat->Nat),St (Fm.of m) f f s->zt4 l a q r=some rz->G [.c (Il q),.c (Il r)] s:=by
  intro a
  induction a with
  | zero=>intro q r s g d hp; cases hp
  | succ a w=>
   intro q r s g d hp;refine z _ _ _ ?_;rw[zt4] at hp;refine⟨ha100.isSl,?_⟩
   try rw[ha100.slLen]
   refine ifd hp (fun t hp=>?_) fun t hp=>?_; rotate_left
   ·obtain rfl:=oi hp;exact hq _ d.ext'
   obtain⟨B,h,hp⟩:=zrB hp;obtain⟨I,o,j,h⟩:=zrv h;refine⟨I,o,(by first|exact j|(rw[ha100.slLen];exact j)),_,(ha100.rdI h d.sub),?_⟩;refine gdi hp fun u hp=>?_;exact w _ _ _ g d hp
 exact hgo _ _ _ _ D y hp
theorem zw4{x:Tf}{passes:Tf->Option (Bool)}{bq0:Nat}{ca103 ca104 ca105 cb000:C}{m f:M}{Q:V->M->Prop}{rz:Bool}(hS:Pre f m)(ha103:Sl f ca103 x.Weeks)(ha104:Sl f ca104 x.Counts)(ha105:Sl f ca105 x.Rates)(hb0:Bk f bq0 1 [cb000])(hb000:zvY f cb000 passes)(hp:zt6 x passes=some rz)(hq:∀m',Ext m m'->Q (.c (.bool rz)) m'):Wc prog tbl 104 [.agg 6 [Il x.From,.bool x.Whole,Il x.Least,ca103,ca104,ca105],.c (.ptr bq0 0)] m Q:=by
 have p:=hS.st;obtain⟨q,_⟩:=zsO;refine zvt ?_;unfold zt6 at hp;intro r d;obtain⟨e,a,l,g⟩:=p.blk d q 1;refine⟨_,(hb0.sub a.sub).rc rfl,_,_,_,_,_,_,g.bk.ra,?_⟩;obtain⟨n,h,hp⟩:=zrB hp;refine hb000 _ _ _ _ _ _ _ _ (Sub.refl _) a.pre ha103 ha104 ha105 h fun s i=>?_;obtain⟨j,o⟩:=a.call i e;refine⟨_,rfl,?_⟩;obtain rfl:=oi hp;exact hq _ j.ext'
theorem zw5{l:List Tf}{p:Tf->Option (Bool)}{ca100 ca200:C}{m f:M}{Q:V->M->Prop}{rz:Int}(hS:Pre f m)(ha100:Sl f ca100 l)(ha200:zvY f ca200 p)(hp:zt8 l p=some rz)(hq:∀m',Ext m m'->Q (.c (Il rz)) m'):Wc prog tbl 120 [.c ca100,.c ca200] m Q:=by
 have S:=hS.st;obtain⟨T,_⟩:=zsO;refine zvT ?_;unfold zt8 at hp;refine⟨ha100.isSl,?_⟩;intro Y F
 have hgo:∀(d:Nat) (B:Int) (n:Int) (o:M) (e:Nat->Nat),St (Fm.of m) f f o->zt7 l p d n=some rz->Y [.c (Il B),.c (Il n)] o:=by
  intro d
  induction d with
  | zero=>intro B n o e a hp; cases hp
  | succ d D=>
   intro B n o e a hp;refine F _ _ _ ?_;rw[zt7] at hp
   try rw[ha100.slLen]
   refine ifd hp (fun q hp=>?_) fun q hp=>?_; rotate_left
   ·obtain rfl:=oi hp;exact hq _ a.ext'
   obtain⟨G,g,hp⟩:=zrB hp;obtain⟨Z,j,h,g⟩:=zrv g;obtain⟨I,J,N,r,s,t,u⟩:=zsR ha100 g;refine⟨Z,j,(by first|exact h|(rw[ha100.slLen];exact h)),_,_,_,_,_,_,(r _ a.sub).1,?_⟩;obtain⟨O,w,hp⟩:=zrB hp;refine ha200 _ _ _ _ _ _ _ _ (Sub.refl _) a.pre s t u w fun aa y=>?_;obtain⟨i,P⟩:=a.call y e;refine⟨_,rfl,?_⟩;refine zsa hp (fun z hp=>?_) fun z hp=>?_
   ·obtain rfl:=oi hp;exact hq _ i.ext'
   refine gdi hp fun A hp=>?_;exact D _ _ _ e i hp
 exact hgo _ _ _ _ T S hp
theorem zw6{l:List Tf}{p:Tf->Option (Bool)}{ca100 ca200:C}{m f:M}{Q:V->M->Prop}{rz:Bool}(hS:Pre f m)(ha100:Sl f ca100 l)(ha200:zvY f ca200 p)(hp:zt9 l p=some rz)(hq:∀m',Ext m m'->Q (.c (.bool rz)) m'):Wc prog tbl 103 [.c ca100,.c ca200] m Q:=by
 have g:=hS.st;obtain⟨j,_⟩:=zsO;refine zvG ?_;unfold zt9 at hp;obtain⟨h,a,hp⟩:=zrB hp;refine zw5 (l:=l) (p:=p) g.pre ha100 ha200 a fun n d=>?_;obtain⟨e,i⟩:=g.call d j;refine⟨_,rfl,?_⟩;obtain rfl:=oi hp;exact hq _ e.ext'
theorem zw7{l:List Tf}{passes:Tf->Option (Bool)}{ca100 ca200:C}{m f:M}{Q:V->M->Prop}{rz:Bool}(hS:Pre f m)(ha100:Sl f ca100 l)(ha200:zvY f ca200 passes)(hp:zua l passes=some rz)(hq:∀m',Ext m m'->Q (.c (.bool rz)) m'):Wc prog tbl 84 [.c ca100,.c ca200] m Q:=by
 have J:=hS.st;obtain⟨N,_⟩:=zsO;refine w84 ?_;unfold zua at hp;intro O i;obtain⟨j,n,A,o⟩:=J.blk i N 1;obtain⟨q,d,e,g⟩:=o.freeze n
 have h:zvY q ((C.fn (Fn.func 104) [] [(W.c (C0.ptr m.nxt 0))])) (fun a=>zt6 a passes):=by
  intro f' m' a B D F r Q hs hpre s t u hg hq;exact zw4 hpre s t u (g.sub hs) ((ha200.sub e.fs).sub hs) hg hq
 obtain⟨G,w,hp⟩:=zrB hp;refine zw6 (l:=l) (p:=(fun a=>zt6 a passes)) d.pre (ha100.sub e.fs) h w fun P y=>?_;obtain⟨z,I⟩:=d.call y j;refine⟨_,rfl,?_⟩;obtain rfl:=oi hp;exact hq _ z.ext'
theorem zw8{l:List Tf}{p:Tf->Option (Bool)}{ca100 ca200:C}{m f:M}{Q:V->M->Prop}{rz:Int}(hS:Pre f m)(ha100:Sl f ca100 l)(ha200:zvY f ca200 p)(hp:zuc l p=some rz)(hq:∀m',Ext m m'->Q (.c (Il rz)) m'):Wc prog tbl 102 [.c ca100,.c ca200] m Q:=by
 have S:=hS.st;obtain⟨T,_⟩:=zsO;refine zvy ?_;unfold zuc at hp;refine⟨ha100.isSl,?_⟩;intro Y F
 have hgo:∀(d:Nat) (B:Int) (n:Int) (o:M) (e:Nat->Nat),St (Fm.of m) f f o->zub l p d n=some rz->Y [.c (Il B),.c (Il n)] o:=by
  intro d
  induction d with
  | zero=>intro B n o e a hp; cases hp
  | succ d D=>
   intro B n o e a hp;refine F _ _ _ ?_;rw[zub] at hp
   try rw[ha100.slLen]
   refine ifd hp (fun q hp=>?_) fun q hp=>?_; rotate_left
   ·obtain rfl:=oi hp;exact hq _ a.ext'
   obtain⟨G,g,hp⟩:=zrB hp;obtain⟨Z,j,h,g⟩:=zrv g;obtain⟨I,J,N,r,s,t,u⟩:=zsR ha100 g;refine⟨Z,j,(by first|exact h|(rw[ha100.slLen];exact h)),_,_,_,_,_,_,(r _ a.sub).1,?_⟩;obtain⟨O,w,hp⟩:=zrB hp;refine ha200 _ _ _ _ _ _ _ _ (Sub.refl _) a.pre s t u w fun aa y=>?_;obtain⟨i,P⟩:=a.call y e;refine⟨_,rfl,?_⟩;refine zsa hp (fun z hp=>?_) fun z hp=>?_
   ·obtain rfl:=oi hp;exact hq _ i.ext'
   refine gdi hp fun A hp=>?_;exact D _ _ _ e i hp
 exact hgo _ _ _ _ T S hp
theorem zw9{l:List Tf}{p:Tf->Option (Bool)}{ca100 ca200:C}{m f:M}{Q:V->M->Prop}{rz:Bool}(hS:Pre f m)(ha100:Sl f ca100 l)(ha200:zvY f ca200 p)(hp:zud l p=some rz)(hq:∀m',Ext m m'->Q (.c (.bool rz)) m'):Wc prog tbl 82 [.c ca100,.c ca200] m Q:=by
 have g:=hS.st;obtain⟨j,_⟩:=zsO;refine w82 ?_;unfold zud at hp;obtain⟨h,a,hp⟩:=zrB hp;refine zw8 (l:=l) (p:=p) g.pre ha100 ha200 a fun n d=>?_;obtain⟨e,i⟩:=g.call d j;refine⟨_,rfl,?_⟩;obtain rfl:=oi hp;exact hq _ e.ext'
theorem zxa{x:Clm}{passes:Clm->Option (Bool)}{bq0:Nat}{cb000:C}{m f:M}{Q:V->M->Prop}{rz:Bool}(hS:Pre f m)(hb0:Bk f bq0 1 [cb000])(hb000:zvZ f cb000 passes)(hp:zue x passes=some rz)(hq:∀m',Ext m m'->Q (.c (.bool rz)) m'):Wc prog tbl 111 [.agg 6 [Il x.Crop,Il x.Value,Il x.Day.Lo,Il x.Day.Hi,Il x.Count.Lo,Il x.Count.Hi],.c (.ptr bq0 0)] m Q:=by
 have p:=hS.st;obtain⟨q,_⟩:=zsO;refine zvu ?_;unfold zue at hp;intro r d;obtain⟨e,a,l,g⟩:=p.blk d q 1;refine⟨_,(hb0.sub a.sub).rc rfl,_,_,_,_,_,_,g.bk.ra,?_⟩;obtain⟨n,h,hp⟩:=zrB hp;refine hb000 _ _ _ _ _ (Sub.refl _) a.pre  h fun s i=>?_;obtain⟨j,o⟩:=a.call i e;refine⟨_,rfl,?_⟩;obtain rfl:=oi hp;exact hq _ j.ext'
theorem zxb{l:List Clm}{p:Clm->Option (Bool)}{ca100 ca200:C}{m f:M}{Q:V->M->Prop}{rz:Int}(hS:Pre f m)(ha100:Sl f ca100 l)(ha200:zvZ f ca200 p)(hp:zug l p=some rz)(hq:∀m',Ext m m'->Q (.c (Il rz)) m'):Wc prog tbl 127 [.c ca100,.c ca200] m Q:=by
 have G:=hS.st;obtain⟨I,_⟩:=zsO;refine zvD ?_;unfold zug at hp;refine⟨ha100.isSl,?_⟩;intro J A
 have hgo:∀(d:Nat) (y:Int) (n:Int) (o:M) (e:Nat->Nat),St (Fm.of m) f f o->zuf l p d n=some rz->J [.c (Il y),.c (Il n)] o:=by
  intro d
  induction d with
  | zero=>intro y n o e a hp; cases hp
  | succ d z=>
   intro y n o e a hp;refine A _ _ _ ?_;rw[zuf] at hp
   try rw[ha100.slLen]
   refine ifd hp (fun q hp=>?_) fun q hp=>?_; rotate_left
   ·obtain rfl:=oi hp;exact hq _ a.ext'
   obtain⟨B,g,hp⟩:=zrB hp;obtain⟨N,j,h,g⟩:=zrv g;obtain⟨_,r⟩:=zsT ha100 g;refine⟨N,j,(by first|exact h|(rw[ha100.slLen];exact h)),_,_,_,_,_,_,(r _ a.sub).1,?_⟩;obtain⟨D,s,hp⟩:=zrB hp;refine ha200 _ _ _ _ _ (Sub.refl _) a.pre  s fun O t=>?_;obtain⟨i,F⟩:=a.call t e;refine⟨_,rfl,?_⟩;refine zsa hp (fun u hp=>?_) fun u hp=>?_
   ·obtain rfl:=oi hp;exact hq _ i.ext'
   refine gdi hp fun w hp=>?_;exact z _ _ _ e i hp
 exact hgo _ _ _ _ I G hp
theorem zxc{l:List Clm}{p:Clm->Option (Bool)}{ca100 ca200:C}{m f:M}{Q:V->M->Prop}{rz:Bool}(hS:Pre f m)(ha100:Sl f ca100 l)(ha200:zvZ f ca200 p)(hp:zuh l p=some rz)(hq:∀m',Ext m m'->Q (.c (.bool rz)) m'):Wc prog tbl 110 [.c ca100,.c ca200] m Q:=by
 have g:=hS.st;obtain⟨j,_⟩:=zsO;refine zvR ?_;unfold zuh at hp;obtain⟨h,a,hp⟩:=zrB hp;refine zxb (l:=l) (p:=p) g.pre ha100 ha200 a fun n d=>?_;obtain⟨e,i⟩:=g.call d j;refine⟨_,rfl,?_⟩;obtain rfl:=oi hp;exact hq _ e.ext'
theorem zxd{l:List Clm}{passes:Clm->Option (Bool)}{ca100 ca200:C}{m f:M}{Q:V->M->Prop}{rz:Bool}(hS:Pre f m)(ha100:Sl f ca100 l)(ha200:zvZ f ca200 passes)(hp:zui l passes=some rz)(hq:∀m',Ext m m'->Q (.c (.bool rz)) m'):Wc prog tbl 89 [.c ca100,.c ca200] m Q:=by
 have A:=hS.st;obtain⟨B,_⟩:=zsO;refine w89 ?_;unfold zui at hp;intro D i;obtain⟨j,n,w,o⟩:=A.blk i B 1;obtain⟨q,d,e,g⟩:=o.freeze n
 have h:zvZ q ((C.fn (Fn.func 111) [] [(W.c (C0.ptr m.nxt 0))])) (fun a=>zue a passes):=by
  intro f' m' a r Q hs hpre  hg hq;exact zxa hpre (g.sub hs) ((ha200.sub e.fs).sub hs) hg hq
 obtain⟨y,s,hp⟩:=zrB hp;refine zxc (l:=l) (p:=(fun a=>zue a passes)) d.pre (ha100.sub e.fs) h s fun F t=>?_;obtain⟨u,z⟩:=d.call t j;refine⟨_,rfl,?_⟩;obtain rfl:=oi hp;exact hq _ u.ext'
theorem zxe{x:Int}{passes:Int->Option (Bool)}{bq0:Nat}{cb000:C}{m f:M}{Q:V->M->Prop}{rz:Bool}(hS:Pre f m)(hb0:Bk f bq0 1 [cb000])(hb000:zv0 f cb000 passes)(hp:zuj x passes=some rz)(hq:∀m',Ext m m'->Q (.c (.bool rz)) m'):Wc prog tbl 122 [.c (Il x),.c (.ptr bq0 0)] m Q:=by
 have g:=hS.st;obtain⟨j,_⟩:=zsO;refine zvv ?_;unfold zuj at hp;refine⟨_,(hb0.sub g.sub).rc rfl,?_⟩;obtain⟨h,a,hp⟩:=zrB hp;refine hb000 _ _ _ _ _ (Sub.refl _) g.pre  a fun l d=>?_;obtain⟨e,i⟩:=g.call d j;refine⟨_,rfl,?_⟩;obtain rfl:=oi hp;exact hq _ e.ext'
theorem zxf{l:List Int}{p:Int->Option (Bool)}{ca100 ca200:C}{m f:M}{Q:V->M->Prop}{rz:Int}(hS:Pre f m)(ha100:Sl f ca100 l)(ha200:zv0 f ca200 p)(hp:zul l p=some rz)(hq:∀m',Ext m m'->Q (.c (Il rz)) m'):Wc prog tbl 132 [.c ca100,.c ca200] m Q:=by
 have F:=hS.st;obtain⟨G,_⟩:=zsO;refine zvE ?_;unfold zul at hp;refine⟨ha100.isSl,?_⟩;intro I z
 have hgo:∀(d:Nat) (w:Int) (n:Int) (o:M) (e:Nat->Nat),St (Fm.of m) f f o->zuk l p d n=some rz->I [.c (Il w),.c (Il n)] o:=by
  intro d
  induction d with
  | zero=>intro w n o e a hp; cases hp
  | succ d y=>
   intro w n o e a hp;refine z _ _ _ ?_;rw[zuk] at hp
   try rw[ha100.slLen]
   refine ifd hp (fun q hp=>?_) fun q hp=>?_; rotate_left
   ·obtain rfl:=oi hp;exact hq _ a.ext'
   obtain⟨A,g,hp⟩:=zrB hp;obtain⟨J,j,h,g⟩:=zrv g;refine⟨J,j,(by first|exact h|(rw[ha100.slLen];exact h)),_,(ha100.rdI g a.sub),?_⟩;obtain⟨B,r,hp⟩:=zrB hp;refine ha200 _ _ _ _ _ (Sub.refl _) a.pre  r fun N s=>?_;obtain⟨i,D⟩:=a.call s e;refine⟨_,rfl,?_⟩;refine zsa hp (fun t hp=>?_) fun t hp=>?_
   ·obtain rfl:=oi hp;exact hq _ i.ext'
   refine gdi hp fun u hp=>?_;exact y _ _ _ e i hp
 exact hgo _ _ _ _ G F hp
theorem zxg{l:List Int}{p:Int->Option (Bool)}{ca100 ca200:C}{m f:M}{Q:V->M->Prop}{rz:Bool}(hS:Pre f m)(ha100:Sl f ca100 l)(ha200:zv0 f ca200 p)(hp:zum l p=some rz)(hq:∀m',Ext m m'->Q (.c (.bool rz)) m'):Wc prog tbl 121 [.c ca100,.c ca200] m Q:=by
 have g:=hS.st;obtain⟨j,_⟩:=zsO;refine zvC ?_;unfold zum at hp;obtain⟨h,a,hp⟩:=zrB hp;refine zxf (l:=l) (p:=p) g.pre ha100 ha200 a fun n d=>?_;obtain⟨e,i⟩:=g.call d j;refine⟨_,rfl,?_⟩;obtain rfl:=oi hp;exact hq _ e.ext'
theorem zxh{l:List Int}{passes:Int->Option (Bool)}{ca100 ca200:C}{m f:M}{Q:V->M->Prop}{rz:Bool}(hS:Pre f m)(ha100:Sl f ca100 l)(ha200:zv0 f ca200 passes)(hp:zun l passes=some rz)(hq:∀m',Ext m m'->Q (.c (.bool rz)) m'):Wc prog tbl 106 [.c ca100,.c ca200] m Q:=by
 have A:=hS.st;obtain⟨B,_⟩:=zsO;refine zvH ?_;unfold zun at hp;intro D i;obtain⟨j,n,w,o⟩:=A.blk i B 1;obtain⟨q,d,e,g⟩:=o.freeze n
 have h:zv0 q ((C.fn (Fn.func 122) [] [(W.c (C0.ptr m.nxt 0))])) (fun a=>zuj a passes):=by
  intro f' m' a r Q hs hpre  hg hq;exact zxe hpre (g.sub hs) ((ha200.sub e.fs).sub hs) hg hq
 obtain⟨y,s,hp⟩:=zrB hp;refine zxg (l:=l) (p:=(fun a=>zuj a passes)) d.pre (ha100.sub e.fs) h s fun F t=>?_;obtain⟨u,z⟩:=d.call t j;refine⟨_,rfl,?_⟩;obtain rfl:=oi hp;exact hq _ u.ext'
theorem zxi{x:List Int}{passes:List Int->Option (Bool)}{bq0:Nat}{ca100 cb000:C}{m f:M}{Q:V->M->Prop}{rz:Bool}(hS:Pre f m)(ha100:Sl f ca100 x)(hb0:Bk f bq0 1 [cb000])(hb000:zv1 f cb000 passes)(hp:zuo x passes=some rz)(hq:∀m',Ext m m'->Q (.c (.bool rz)) m'):Wc prog tbl 135 [.c ca100,.c (.ptr bq0 0)] m Q:=by
 have g:=hS.st;obtain⟨j,_⟩:=zsO;refine zvw ?_;unfold zuo at hp;refine⟨_,(hb0.sub g.sub).rc rfl,?_⟩;obtain⟨h,a,hp⟩:=zrB hp;refine hb000 _ _ _ _ _ _ (Sub.refl _) g.pre ha100 a fun l d=>?_;obtain⟨e,i⟩:=g.call d j;refine⟨_,rfl,?_⟩;obtain rfl:=oi hp;exact hq _ e.ext'
theorem zxj{l:List (List Int)}{p:List Int->Option (Bool)}{ca100 ca200:C}{m f:M}{Q:V->M->Prop}{rz:Int}(hS:Pre f m)(ha100:Sl f ca100 l)(ha200:zv1 f ca200 p)(hp:zuq l p=some rz)(hq:∀m',Ext m m'->Q (.c (Il rz)) m'):Wc prog tbl 136 [.c ca100,.c ca200] m Q:=by
 have J:=hS.st;obtain⟨N,_⟩:=zsO;refine zvO ?_;unfold zuq at hp;refine⟨ha100.isSl,?_⟩;intro O B
 have hgo:∀(d:Nat) (z:Int) (n:Int) (o:M) (e:Nat->Nat),St (Fm.of m) f f o->zup l p d n=some rz->O [.c (Il z),.c (Il n)] o:=by
  intro d
  induction d with
  | zero=>intro z n o e a hp; cases hp
  | succ d A=>
   intro z n o e a hp;refine B _ _ _ ?_;rw[zup] at hp
   try rw[ha100.slLen]
   refine ifd hp (fun q hp=>?_) fun q hp=>?_; rotate_left
   ·obtain rfl:=oi hp;exact hq _ a.ext'
   obtain⟨D,g,hp⟩:=zrB hp;obtain⟨P,j,h,g⟩:=zrv g;obtain⟨F,r,s⟩:=ha100.rdS g;refine⟨P,j,(by first|exact h|(rw[ha100.slLen];exact h)),_,(r _ a.sub),?_⟩;obtain⟨G,t,hp⟩:=zrB hp;refine ha200 _ _ _ _ _ _ (Sub.refl _) a.pre s t fun S u=>?_;obtain⟨i,I⟩:=a.call u e;refine⟨_,rfl,?_⟩;refine zsa hp (fun w hp=>?_) fun w hp=>?_
   ·obtain rfl:=oi hp;exact hq _ i.ext'
   refine gdi hp fun y hp=>?_;exact A _ _ _ e i hp
 exact hgo _ _ _ _ N J hp
theorem zxk{l:List (List Int)}{p:List Int->Option (Bool)}{ca100 ca200:C}{m f:M}{Q:V->M->Prop}{rz:Bool}(hS:Pre f m)(ha100:Sl f ca100 l)(ha200:zv1 f ca200 p)(hp:zur l p=some rz)(hq:∀m',Ext m m'->Q (.c (.bool rz)) m'):Wc prog tbl 134 [.c ca100,.c ca200] m Q:=by
 have g:=hS.st;obtain⟨j,_⟩:=zsO;refine zvX ?_;unfold zur at hp;obtain⟨h,a,hp⟩:=zrB hp;refine zxj (l:=l) (p:=p) g.pre ha100 ha200 a fun n d=>?_;obtain⟨e,i⟩:=g.call d j;refine⟨_,rfl,?_⟩;obtain rfl:=oi hp;exact hq _ e.ext'
theorem zxl{l:List (List Int)}{passes:List Int->Option (Bool)}{ca100 ca200:C}{m f:M}{Q:V->M->Prop}{rz:Bool}(hS:Pre f m)(ha100:Sl f ca100 l)(ha200:zv1 f ca200 passes)(hp:zus l passes=some rz)(hq:∀m',Ext m m'->Q (.c (.bool rz)) m'):Wc prog tbl 125 [.c ca100,.c ca200] m Q:=by
 have D:=hS.st;obtain⟨F,_⟩:=zsO;refine zvL ?_;unfold zus at hp;intro G i;obtain⟨j,n,y,o⟩:=D.blk i F 1;obtain⟨q,d,e,g⟩:=o.freeze n
 have h:zv1 q ((C.fn (Fn.func 135) [] [(W.c (C0.ptr m.nxt 0))])) (fun a=>zuo a passes):=by
  intro f' m' a z r Q hs hpre s hg hq;exact zxi hpre s (g.sub hs) ((ha200.sub e.fs).sub hs) hg hq
 obtain⟨A,t,hp⟩:=zrB hp;refine zxk (l:=l) (p:=(fun a=>zuo a passes)) d.pre (ha100.sub e.fs) h t fun I u=>?_;obtain⟨w,B⟩:=d.call u j;refine⟨_,rfl,?_⟩;obtain rfl:=oi hp;exact hq _ w.ext'
theorem zxm{x:List (List Int)}{passes:List (List Int)->Option (Bool)}{bq0:Nat}{ca100 cb000:C}{m f:M}{Q:V->M->Prop}{rz:Bool}(hS:Pre f m)(ha100:Sl f ca100 x)(hb0:Bk f bq0 1 [cb000])(hb000:zv2 f cb000 passes)(hp:zut x passes=some rz)(hq:∀m',Ext m m'->Q (.c (.bool rz)) m'):Wc prog tbl 124 [.c ca100,.c (.ptr bq0 0)] m Q:=by
 have g:=hS.st;obtain⟨j,_⟩:=zsO;refine zvx ?_;unfold zut at hp;refine⟨_,(hb0.sub g.sub).rc rfl,?_⟩;obtain⟨h,a,hp⟩:=zrB hp;refine hb000 _ _ _ _ _ _ (Sub.refl _) g.pre ha100 a fun l d=>?_;obtain⟨e,i⟩:=g.call d j;refine⟨_,rfl,?_⟩;obtain rfl:=oi hp;exact hq _ e.ext'
theorem zxn{l:List (List (List Int))}{p:List (List Int)->Option (Bool)}{ca100 ca200:C}{m f:M}{Q:V->M->Prop}{rz:Int}(hS:Pre f m)(ha100:Sl f ca100 l)(ha200:zv2 f ca200 p)(hp:zuv l p=some rz)(hq:∀m',Ext m m'->Q (.c (Il rz)) m'):Wc prog tbl 133 [.c ca100,.c ca200] m Q:=by
 have J:=hS.st;obtain⟨N,_⟩:=zsO;refine zvN ?_;unfold zuv at hp;refine⟨ha100.isSl,?_⟩;intro O B
 have hgo:∀(d:Nat) (z:Int) (n:Int) (o:M) (e:Nat->Nat),St (Fm.of m) f f o->zuu l p d n=some rz->O [.c (Il z),.c (Il n)] o:=by
  intro d
  induction d with
  | zero=>intro z n o e a hp; cases hp
  | succ d A=>
   intro z n o e a hp;refine B _ _ _ ?_;rw[zuu] at hp
   try rw[ha100.slLen]
   refine ifd hp (fun q hp=>?_) fun q hp=>?_; rotate_left
   ·obtain rfl:=oi hp;exact hq _ a.ext'
   obtain⟨D,g,hp⟩:=zrB hp;obtain⟨P,j,h,g⟩:=zrv g;obtain⟨F,r,s⟩:=ha100.rdS g;refine⟨P,j,(by first|exact h|(rw[ha100.slLen];exact h)),_,(r _ a.sub),?_⟩;obtain⟨G,t,hp⟩:=zrB hp;refine ha200 _ _ _ _ _ _ (Sub.refl _) a.pre s t fun S u=>?_;obtain⟨i,I⟩:=a.call u e;refine⟨_,rfl,?_⟩;refine zsa hp (fun w hp=>?_) fun w hp=>?_
   ·obtain rfl:=oi hp;exact hq _ i.ext'
   refine gdi hp fun y hp=>?_;exact A _ _ _ e i hp
 exact hgo _ _ _ _ N J hp
theorem zxo{l:List (List (List Int))}{p:List (List Int)->Option (Bool)}{ca100 ca200:C}{m f:M}{Q:V->M->Prop}{rz:Bool}(hS:Pre f m)(ha100:Sl f ca100 l)(ha200:zv2 f ca200 p)(hp:zuw l p=some rz)(hq:∀m',Ext m m'->Q (.c (.bool rz)) m'):Wc prog tbl 123 [.c ca100,.c ca200] m Q:=by
 have g:=hS.st;obtain⟨j,_⟩:=zsO;refine zvU ?_;unfold zuw at hp;obtain⟨h,a,hp⟩:=zrB hp;refine zxn (l:=l) (p:=p) g.pre ha100 ha200 a fun n d=>?_;obtain⟨e,i⟩:=g.call d j;refine⟨_,rfl,?_⟩;obtain rfl:=oi hp;exact hq _ e.ext'
theorem zxp{l:List (List (List Int))}{passes:List (List Int)->Option (Bool)}{ca100 ca200:C}{m f:M}{Q:V->M->Prop}{rz:Bool}(hS:Pre f m)(ha100:Sl f ca100 l)(ha200:zv2 f ca200 passes)(hp:zux l passes=some rz)(hq:∀m',Ext m m'->Q (.c (.bool rz)) m'):Wc prog tbl 107 [.c ca100,.c ca200] m Q:=by
 have D:=hS.st;obtain⟨F,_⟩:=zsO;refine zvQ ?_;unfold zux at hp;intro G i;obtain⟨j,n,y,o⟩:=D.blk i F 1;obtain⟨q,d,e,g⟩:=o.freeze n
 have h:zv2 q ((C.fn (Fn.func 124) [] [(W.c (C0.ptr m.nxt 0))])) (fun a=>zut a passes):=by
  intro f' m' a z r Q hs hpre s hg hq;exact zxm hpre s (g.sub hs) ((ha200.sub e.fs).sub hs) hg hq
 obtain⟨A,t,hp⟩:=zrB hp;refine zxo (l:=l) (p:=(fun a=>zut a passes)) d.pre (ha100.sub e.fs) h t fun I u=>?_;obtain⟨w,B⟩:=d.call u j;refine⟨_,rfl,?_⟩;obtain rfl:=oi hp;exact hq _ w.ext'
theorem zxq{r:Rg}{passes:Int->Option (Bool)}{ca200:C}{m f:M}{Q:V->M->Prop}{rz:Bool}(hS:Pre f m)(ha200:zv0 f ca200 passes)(hp:zuy r passes=some rz)(hq:∀m',Ext m m'->Q (.c (.bool rz)) m'):Wc prog tbl 112 [.agg 2 [Il r.Lo,Il r.Hi],.c ca200] m Q:=by
 have A:=hS.st;obtain⟨B,_⟩:=zsO;refine zvJ ?_;unfold zuy at hp;intro D h;obtain⟨g,d,u,a⟩:=A.blk h B 1;refine⟨trivial,_,a.bk.rc rfl,trivial,_,a.bk.rc rfl,?_⟩;refine ifd hp (fun i hp=>?_) fun i hp=>?_; rotate_left
 ·obtain rfl:=oi hp;exact hq _ d.ext'
 refine⟨trivial,_,a.bk.rc rfl,?_⟩;obtain⟨w,j,hp⟩:=zrB hp;refine ha200 _ _ _ _ _ (Sub.refl _) d.pre  j fun F l=>?_;obtain⟨e,n⟩:=d.call l g;have o:=a.k n;refine⟨_,rfl,?_⟩;refine zsa hp (fun p hp=>?_) fun p hp=>?_; rotate_left
 ·obtain rfl:=oi hp;exact hq _ e.ext'
 refine⟨trivial,_,o.bk.rc rfl,?_⟩;obtain⟨y,q,hp⟩:=zrB hp;refine ha200 _ _ _ _ _ (Sub.refl _) e.pre  q fun G s=>?_;obtain⟨t,z⟩:=e.call s g;refine⟨_,rfl,?_⟩;obtain rfl:=oi hp;exact hq _ t.ext'
theorem zxr{t:Tf}{rates:List Int}{ca103 ca104 ca105 ca200:C}{m f:M}{Q:V->M->Prop}{rz:Bool}(hS:Pre f m)(_ha103:Sl f ca103 t.Weeks)(ha104:Sl f ca104 t.Counts)(_ha105:Sl f ca105 t.Rates)(ha200:Sl f ca200 rates)(hp:zuz t rates=some rz)(hq:∀m',Ext m m'->Q (.c (.bool rz)) m'):Wc prog tbl 126 [.agg 6 [Il t.From,.bool t.Whole,Il t.Least,ca103,ca104,ca105],.c ca200] m Q:=by
 have w:=hS.st;obtain⟨y,_⟩:=zsO;refine zvV ?_;unfold zuz at hp;intro z g;obtain⟨h,d,q,i⟩:=w.blk g y 1;refine⟨ha200.isSl,trivial,_,i.bk.rc rfl,ha104.isSl,?_⟩
 try rw[ha200.slLen]
 try rw[ha104.slLen]
 refine ifd hp (fun j hp=>?_) fun j hp=>?_; rotate_left
 ·obtain rfl:=oi hp;exact hq _ d.ext'
 have e:zv0 f ((C.fn (Fn.func 105) [] [])) (fun a=>ztH a):=by
  intro f' m' a r Q hs hpre  hg hq;exact zwK hpre  hg hq
 obtain⟨s,n,hp⟩:=zrB hp;refine zxh (l:=rates) (passes:=(fun a=>ztH a)) d.pre ha200 e n fun A o=>?_;obtain⟨p,u⟩:=d.call o h;refine⟨_,rfl,?_⟩;obtain rfl:=oi hp;exact hq _ p.ext'
theorem zxs{t:Tf}{weeks:List (List Int)}{ca103 ca104 ca105 ca200:C}{m f:M}{Q:V->M->Prop}{rz:Bool}(hS:Pre f m)(ha103:Sl f ca103 t.Weeks)(ha104:Sl f ca104 t.Counts)(ha105:Sl f ca105 t.Rates)(ha200:Sl f ca200 weeks)(hp:zuA t weeks=some rz)(hq:∀m',Ext m m'->Q (.c (.bool rz)) m'):Wc prog tbl 108 [.agg 6 [Il t.From,.bool t.Whole,Il t.Least,ca103,ca104,ca105],.c ca200] m Q:=by
 have D:=hS.st;obtain⟨F,_⟩:=zsO;refine zvA ?_;unfold zuA at hp;intro I h;obtain⟨i,d,y,e⟩:=D.blk h F 1;refine⟨ha200.isSl,trivial,_,e.bk.rc rfl,ha103.isSl,?_⟩
 try rw[ha200.slLen]
 try rw[ha103.slLen]
 refine ifd hp (fun j hp=>?_) fun j hp=>?_; rotate_left
 ·obtain rfl:=oi hp;exact hq _ d.ext'
 refine⟨_,_,_,_,_,_,e.bk.ra,?_⟩;obtain⟨s,u,w⟩:∃ws,zaE vW [.agg 6 [Il t.From,.bool t.Whole,Il t.Least,ca103,ca104,ca105]]=some ws/\zbZ wV ws=[.agg 6 [Il t.From,.bool t.Whole,Il t.Least,ca103,ca104,ca105]]:=(zrL (zrJ (zrE rfl (zrE rfl (zrE rfl (zrE ha103.noFn (zrE ha104.noFn (zrE ha105.noFn zrF))))))) zrK);rw[u,zd6]
 have g:zv1 f ((C.fn (Fn.func 126) s [])) (fun a=>zuz t a):=by
  intro f' m' a z r Q hs hpre n hg hq
  show Wc prog tbl 126 (appS (zbZ wV s) _) m' Q
  rw[w];exact zxr hpre (ha103.sub hs) (ha104.sub hs) (ha105.sub hs) n hg hq
 obtain⟨A,o,hp⟩:=zrB hp;refine zxl (l:=weeks) (passes:=(fun a=>zuz t a)) d.pre ha200 g o fun G p=>?_;obtain⟨q,B⟩:=d.call p i;refine⟨_,rfl,?_⟩;obtain rfl:=oi hp;exact hq _ q.ext'
theorem zxt{t:Tf}{ca103 ca104 ca105:C}{m f:M}{Q:V->M->Prop}{rz:Bool}(hS:Pre f m)(ha103:Sl f ca103 t.Weeks)(ha104:Sl f ca104 t.Counts)(ha105:Sl f ca105 t.Rates)(hp:zuB t=some rz)(hq:∀m',Ext m m'->Q (.c (.bool rz)) m'):Wc prog tbl 85 [.agg 6 [Il t.From,.bool t.Whole,Il t.Least,ca103,ca104,ca105]] m Q:=by
 have S0:=hS.st;obtain⟨τ0,_⟩:=zsO;refine w85 ?_;unfold zuB at hp;intro m0 J;obtain⟨a,w,ya,y⟩:=S0.blk J τ0 1;refine⟨trivial,_,y.bk.rc rfl,?_⟩;obtain⟨za,N,hp⟩:=zrB hp;refine zwI (n:=t.From) w.pre  N fun m3 O=>?_;obtain⟨i,P⟩:=w.call O a;have z:=y.k P;refine⟨_,rfl,?_⟩;refine zsa hp (fun S hp=>?_) fun S hp=>?_; rotate_left
 ·obtain rfl:=oi hp;exact hq _ i.ext'
 refine⟨trivial,_,z.bk.rc rfl,?_⟩;obtain⟨Aa,T,hp⟩:=zrB hp;refine zwK (n:=t.Least) i.pre  T fun m7 Y=>?_;obtain⟨j,Z⟩:=i.call Y a;have A:=z.k Z;refine⟨_,rfl,?_⟩;refine zsa hp (fun aa hp=>?_) fun aa hp=>?_; rotate_left
 ·obtain rfl:=oi hp;exact hq _ j.ext'
 refine⟨trivial,_,A.bk.rc rfl,?_⟩;obtain⟨Ba,ba,hp⟩:=zrB hp;refine zwM (l:=t.Weeks) j.pre ha103 ba fun Ka ca=>?_;obtain⟨o,da⟩:=j.call ca a;have B:=A.k da;refine⟨_,rfl,?_⟩;refine zsa hp (fun ea hp=>?_) fun ea hp=>?_; rotate_left
 ·obtain rfl:=oi hp;exact hq _ o.ext'
 refine⟨trivial,_,B.bk.rc rfl,?_⟩
 have G:zv0 f ((C.fn (Fn.func 55) [] [])) (fun g=>ztF g):=by
  intro f' m' g r Q hs hpre  hg hq;exact zwI hpre  hg hq
 obtain⟨Ca,fa,hp⟩:=zrB hp;refine zxh (l:=t.Weeks) (passes:=(fun g=>ztF g)) o.pre ha103 G fa fun La ga=>?_;obtain⟨p,ha⟩:=o.call ga a;have D:=B.k ha;refine⟨_,rfl,?_⟩;refine zsa hp (fun ia hp=>?_) fun ia hp=>?_; rotate_left
 ·obtain rfl:=oi hp;exact hq _ p.ext'
 refine⟨trivial,_,D.bk.rc rfl,?_⟩;obtain⟨Da,ja,hp⟩:=zrB hp;refine zwM (l:=t.Counts) p.pre ha104 ja fun Ma ka=>?_;obtain⟨d,la⟩:=p.call ka a;have e:=D.k la;refine⟨_,rfl,?_⟩;refine zsa hp (fun ma hp=>?_) fun ma hp=>?_; rotate_left
 ·obtain rfl:=oi hp;exact hq _ d.ext'
 refine⟨trivial,_,e.bk.rc rfl,trivial,_,e.bk.rc rfl,ha104.isSl,?_⟩;obtain⟨F,hp⟩:=zrC hp;refine⟨(by first|exact F|(rw[ha104.slLen];exact F)),?_⟩;obtain⟨Ea,q,hp⟩:=zrB hp;obtain⟨xa,s,u,q⟩:=zrv q;refine⟨xa,(by first|exact s|(rw[ha104.slLen];exact s)),(by first|exact u|(rw[ha104.slLen];exact u)),_,(ha104.rdI q d.sub),?_⟩;refine ifd hp (fun na hp=>?_) fun na hp=>?_; rotate_left
 ·obtain rfl:=oi hp;exact hq _ d.ext'
 refine⟨trivial,_,e.bk.rc rfl,ha105.isSl,?_⟩
 try rw[ha105.slLen]
 refine ifd hp (fun oa hp=>?_) fun oa hp=>?_; rotate_left
 ·obtain rfl:=oi hp;exact hq _ d.ext'
 refine⟨trivial,_,e.bk.rc rfl,_,_,_,_,_,_,e.bk.ra,?_⟩;obtain⟨ua,va,wa⟩:∃ws,zaE vW [.agg 6 [Il t.From,.bool t.Whole,Il t.Least,ca103,ca104,ca105]]=some ws/\zbZ wV ws=[.agg 6 [Il t.From,.bool t.Whole,Il t.Least,ca103,ca104,ca105]]:=(zrL (zrJ (zrE rfl (zrE rfl (zrE rfl (zrE ha103.noFn (zrE ha104.noFn (zrE ha105.noFn zrF))))))) zrK);rw[va,zd6]
 have I:zv2 f ((C.fn (Fn.func 108) ua [])) (fun h=>zuA t h):=by
  intro f' m' h Fa r Q hs hpre pa hg hq
  show Wc prog tbl 108 (appS (zbZ wV ua) _) m' Q
  rw[wa];exact zxs hpre (ha103.sub hs) (ha104.sub hs) (ha105.sub hs) pa hg hq
 obtain⟨Ga,qa,hp⟩:=zrB hp;refine zxp (l:=t.Rates) (passes:=(fun h=>zuA t h)) d.pre ha105 I qa fun Na sa=>?_;obtain⟨ta,Ha⟩:=d.call sa a;refine⟨_,rfl,?_⟩;obtain rfl:=oi hp;exact hq _ ta.ext'
theorem zxu{l:List Tf}{ca100:C}{m f:M}{Q:V->M->Prop}{rz:Bool}(hS:Pre f m)(ha100:Sl f ca100 l)(hp:zuC l=some rz)(hq:∀m',Ext m m'->Q (.c (.bool rz)) m'):Wc prog tbl 60 [.c ca100] m Q:=by
 have q:=hS.st;obtain⟨z,_⟩:=zsO;refine w60 ?_;unfold zuC at hp;refine⟨ha100.isSl,?_⟩
 try rw[ha100.slLen]
 refine ifd hp (fun e hp=>?_) fun e hp=>?_
 ·obtain rfl:=oi hp;exact hq _ q.ext'
 have d:zvY f ((C.fn (Fn.func 83) [] [])) (fun a=>ztP a):=by
  intro f' m' a s t u r Q hs hpre g h i hg hq;exact zwQ hpre g h i hg hq
 obtain⟨w,j,hp⟩:=zrB hp;refine zw9 (l:=l) (p:=(fun a=>ztP a)) q.pre ha100 d j fun A n=>?_;obtain⟨o,y⟩:=q.call n z;refine⟨_,rfl,?_⟩;obtain rfl:=oi hp;exact hq _ o.ext'
theorem zxv{l:List Tf}{ca100:C}{m f:M}{Q:V->M->Prop}{rz:Bool}(hS:Pre f m)(ha100:Sl f ca100 l)(hp:zuD l=some rz)(hq:∀m',Ext m m'->Q (.c (.bool rz)) m'):Wc prog tbl 61 [.c ca100] m Q:=by
 have Y:=hS.st;obtain⟨o,_⟩:=zsO;refine w61 ?_;unfold zuD at hp
 have j:zvY f ((C.fn (Fn.func 85) [] [])) (fun a=>zuB a):=by
  intro f' m' a ca da ea r Q hs hpre p q s hg hq;exact zxt hpre p q s hg hq
 obtain⟨fa,t,hp⟩:=zrB hp;refine zw7 (l:=l) (passes:=(fun a=>zuB a)) Y.pre ha100 j t fun m1 u=>?_;obtain⟨e,ga⟩:=Y.call u o;refine⟨_,rfl,?_⟩;refine zsa hp (fun w hp=>?_) fun w hp=>?_; rotate_left
 ·obtain rfl:=oi hp;exact hq _ e.ext'
 obtain⟨y,z,hp⟩:=zrB hp;refine zwN (l:=l) e.pre ha100 z fun m4 A ha B D=>?_;obtain⟨h,i⟩:=e.callG B o;refine⟨_,rfl,?_⟩;obtain⟨ia,F,hp⟩:=zrB hp;refine zwM (l:=y) h.pre D F fun m7 G=>?_;obtain⟨g,ja⟩:=h.call G o;refine⟨_,rfl,?_⟩;refine zsa hp (fun I hp=>?_) fun I hp=>?_; rotate_left
 ·obtain rfl:=oi hp;exact hq _ g.ext'
 obtain⟨Z,aa,ba⟩:∃ws,zaE vW [.c ca100]=some ws/\zbZ wV ws=[.c ca100]:=(zrL (zrI ha100.noFn) zrK);rw[aa,zd6]
 have n:zvY A ((C.fn (Fn.func 88) Z [])) (fun d=>ztN l d):=by
  intro f' m' d ka la ma r Q hs hpre J N O hg hq
  show Wc prog tbl 88 (appS (zbZ wV Z) _) m' Q
  rw[ba];exact zwO hpre ((ha100.sub i.fs).sub hs) J N O hg hq
 obtain⟨na,P,hp⟩:=zrB hp;refine zw7 (l:=l) (passes:=(fun d=>ztN l d)) g.pre (ha100.sub i.fs) n P fun pa S=>?_;obtain⟨T,oa⟩:=g.call S o;refine⟨_,rfl,?_⟩;obtain rfl:=oi hp;exact hq _ T.ext'
theorem zxw{l:List Tf}{c:Clm}{ca100:C}{m f:M}{Q:V->M->Prop}{rz:Bool}(hS:Pre f m)(ha100:Sl f ca100 l)(hp:zuE l c=some rz)(hq:∀m',Ext m m'->Q (.c (.bool rz)) m'):Wc prog tbl 90 [.c ca100,.agg 6 [Il c.Crop,Il c.Value,Il c.Day.Lo,Il c.Day.Hi,Il c.Count.Lo,Il c.Count.Hi]] m Q:=by
 have S0:=hS.st;obtain⟨τ0,_⟩:=zsO;refine w90 ?_;unfold zuE at hp;intro m0 y;obtain⟨a,p,ca,q⟩:=S0.blk y τ0 1;refine⟨trivial,_,q.bk.rc rfl,?_⟩;obtain⟨da,z,hp⟩:=zrB hp;refine zwP (l:=l) (n:=c.Crop) p.pre ha100 z fun m3 A=>?_;obtain⟨h,B⟩:=p.call A a;have s:=q.k B;refine⟨_,rfl,?_⟩;refine zsa hp (fun D hp=>?_) fun D hp=>?_; rotate_left
 ·obtain rfl:=oi hp;exact hq _ h.ext'
 refine⟨trivial,_,s.bk.rc rfl,?_⟩;obtain⟨ea,F,hp⟩:=zrB hp;refine zwG (r:=({ Lo:=(0:Int),Hi:=(100000:Int) }:Rg)) (n:=c.Value) h.pre  F fun m7 G=>?_;obtain⟨i,I⟩:=h.call G a;have t:=s.k I;refine⟨_,rfl,?_⟩;refine zsa hp (fun J hp=>?_) fun J hp=>?_; rotate_left
 ·obtain rfl:=oi hp;exact hq _ i.ext'
 refine⟨trivial,_,_,t.bk.rp (k:=2) (j:=2) rfl (by omega),?_⟩
 have u:zv0 f ((C.fn (Fn.func 55) [] [])) (fun d=>ztF d):=by
  intro f' m' d r Q hs hpre  hg hq;exact zwI hpre  hg hq
 obtain⟨fa,N,hp⟩:=zrB hp;refine zxq (r:=c.Day) (passes:=(fun d=>ztF d)) i.pre u N fun ka O=>?_;obtain⟨e,P⟩:=i.call O a;have o:=t.k P;refine⟨_,rfl,?_⟩;refine zsa hp (fun S hp=>?_) fun S hp=>?_; rotate_left
 ·obtain rfl:=oi hp;exact hq _ e.ext'
 refine⟨trivial,trivial,_,o.bk.rc rfl,trivial,trivial,_,o.bk.rc rfl,?_⟩;refine gdi hp fun T hp=>?_;refine ifd hp (fun Y hp=>?_) fun Y hp=>?_; rotate_left
 ·obtain rfl:=oi hp;exact hq _ e.ext'
 refine⟨trivial,_,_,o.bk.rp (k:=4) (j:=2) rfl (by omega),?_⟩
 have w:zv0 f ((C.fn (Fn.func 56) [] [])) (fun g=>ztG g):=by
  intro f' m' g r Q hs hpre  hg hq;exact zwJ hpre  hg hq
 obtain⟨ga,Z,hp⟩:=zrB hp;refine zxq (r:=c.Count) (passes:=(fun g=>ztG g)) e.pre w Z fun la aa=>?_;obtain⟨ba,ha⟩:=e.call aa a;refine⟨_,rfl,?_⟩;obtain rfl:=oi hp;exact hq _ ba.ext'
theorem zxx{l:List Tf}{ca100:C}{m f:M}{Q:V->M->Prop}{rz:Int}(hS:Pre f m)(ha100:Sl f ca100 l)(hp:zuF l=some rz)(hq:∀m',Ext m m'->Q (.c (Il rz)) m'):Wc prog tbl 21 [.c ca100] m Q:=by
 have o:=hS.st;obtain⟨p,_⟩:=zsO;refine w21 ?_;unfold zuF at hp;obtain⟨q,e,hp⟩:=zrB hp;refine zxu (l:=l) o.pre ha100 e fun u g=>?_;obtain⟨a,r⟩:=o.call g p;refine⟨_,rfl,?_⟩;refine zsa hp (fun h hp=>?_) fun h hp=>?_
 ·obtain rfl:=oi hp;exact hq _ a.ext'
 obtain⟨s,i,hp⟩:=zrB hp;refine zxv (l:=l) a.pre ha100 i fun w j=>?_;obtain⟨d,t⟩:=a.call j p;refine⟨_,rfl,?_⟩;refine zsb hp (fun n hp=>?_) fun n hp=>?_
 ·obtain rfl:=oi hp;exact hq _ d.ext'
 obtain rfl:=oi hp;exact hq _ d.ext'
theorem zxy{t:Tf}{ca103 ca104 ca105:C}{m f:M}{Q:V->M->Prop}{rz:Mnr}(hS:Pre f m)(_ha103:Sl f ca103 t.Weeks)(_ha104:Sl f ca104 t.Counts)(_ha105:Sl f ca105 t.Rates)(hp:zuG t=some rz)(hq:∀m' f' c0,Grw m f m' f'->zv3 f' c0 rz.paid->Q (.agg 1 [c0]) m'):Wc prog tbl 100 [.agg 6 [Il t.From,.bool t.Whole,Il t.Least,ca103,ca104,ca105]] m Q:=by
 have S0:=hS.st;obtain⟨τ0,_⟩:=zsO;refine zvF ?_;unfold zuG at hp;intro m0 l;obtain⟨n,o,Y,p⟩:=S0.blk l τ0 1;intro m1 q;obtain⟨Z,a,s,c⟩:=o.blk q n 2;have u:=p.k s;refine⟨trivial,_,u.bk.rc rfl,?_⟩;refine zsa hp (fun w hp=>?_) fun w hp=>?_
 ·obtain⟨y,z,A,aa,B⟩:=c.sto a [(C.fn (Fn.func 118) [] [])];refine⟨y,z,?_⟩;refine⟨_,B.bk.ra,?_⟩
  have i:zv3 f ((C.fn (Fn.func 118) [] [])) (fun d e=>ztZ d e):=by
   intro f' m' d e ba ca da r Q hs hpre D F G hg hq;exact zwZ hpre D F G hg hq
  obtain rfl:=oi hp;exact hq _ f (C.fn (Fn.func 118) [] []) A.grw i
 obtain⟨I,J,N,ea,O⟩:=c.sto a [(C.fn (Fn.func 119) [] [])];refine⟨I,J,?_⟩;refine⟨_,O.bk.ra,?_⟩
 have j:zv3 f ((C.fn (Fn.func 119) [] [])) (fun g h=>zt0 g h):=by
  intro f' m' g h fa ga ha r Q hs hpre P S T hg hq;exact zw0 hpre P S T hg hq
 obtain rfl:=oi hp;exact hq _ f (C.fn (Fn.func 119) [] []) N.grw j
theorem zxz{t:Tf}{h:Ht}{ca103 ca104 ca105:C}{m f:M}{Q:V->M->Prop}{rz:Int}(hS:Pre f m)(ha103:Sl f ca103 t.Weeks)(ha104:Sl f ca104 t.Counts)(ha105:Sl f ca105 t.Rates)(hp:zuH t h=some rz)(hq:∀m',Ext m m'->Q (.c (Il rz)) m'):Wc prog tbl 80 [.agg 6 [Il t.From,.bool t.Whole,Il t.Least,ca103,ca104,ca105],.agg 3 [Il h.Day,Il h.Count,Il h.crop]] m Q:=by
 have S0:=hS.st;obtain⟨τ0,_⟩:=zsO;refine w80 ?_;unfold zuH at hp;intro m0 n;obtain⟨o,p,O,q⟩:=S0.blk n τ0 1;intro m1 r;obtain⟨e,i,s,u⟩:=p.blk r o 2;have j:=q.k s;refine⟨_,_,_,_,_,_,j.bk.ra,_,_,_,u.bk.ra,?_⟩;obtain⟨P,w,hp⟩:=zrB hp;refine zw1 (t:=t) (h:=h) i.pre ha103 ha104 ha105 w fun da y=>?_;obtain⟨g,z⟩:=i.call y e;have a:=j.k z;refine⟨_,rfl,trivial,_,a.bk.rc rfl,?_⟩;refine ifd hp (fun A hp=>?_) fun A hp=>?_
 ·obtain rfl:=oi hp;exact hq _ g.ext'
 refine⟨_,_,_,_,_,_,a.bk.ra,?_⟩;obtain⟨S,B,hp⟩:=zrB hp;refine zxy (t:=t) g.pre ha103 ha104 ha105 B fun ea T Y D F=>?_;obtain⟨l,d⟩:=g.callG D e;have G:=a.k d;refine⟨_,rfl,_,_,_,_,_,_,G.bk.ra,(by rw[show zaL cmC _=true from zp9 (zrE rfl (zrE rfl (zrE rfl (zrE ha103.noFn (zrE ha104.noFn (zrE ha105.noFn zrF))))))]; exact(a.bk.ra)),?_⟩;obtain⟨Z,I,hp⟩:=zrB hp;refine F _ _ _ _ _ _ _ _ _ (Sub.refl _) l.pre (ha103.sub d.fs) (ha104.sub d.fs) (ha105.sub d.fs) I fun fa J=>?_;obtain⟨N,aa⟩:=l.call J e;refine⟨_,rfl,?_⟩;obtain rfl:=oi hp;exact hq _ N.ext'
theorem zxA{l:List Tf}{ca100:C}{m f:M}{Q:V->M->Prop}{rz:Wk × Int}(hS:Pre f m)(ha100:Sl f ca100 l)(hp:zuI l=some rz)(hq:∀m' f' c0 c1,Grw m f m' f'->Sl f' c0 rz.1.tariffs->Mn m f' m' c1 rz.1.parts->Q (.tup [.agg 2 [c0,c1],.c (Il rz.2)]) m'):Wc prog tbl 53 [.c ca100] m Q:=by
 have Y:=hS.st;obtain⟨Z,_⟩:=zsO;refine w53 ?_;unfold zuI at hp;intro m0 h;obtain⟨a,d,O,i⟩:=Y.blk h Z 1;obtain⟨P,j,hp⟩:=zrB hp;refine zxx (l:=l) d.pre ha100 j fun N n=>?_;obtain⟨e,o⟩:=d.call n a;have g:=i.k o;refine⟨_,rfl,?_⟩;refine zr9 hp (fun p hp=>?_) fun p hp=>?_
 ·obtain⟨q,r,s,S,t⟩:=g.sto e [.sl0,C.map0];refine⟨q,r,?_⟩;refine⟨_,_,t.bk.ra,?_⟩;obtain rfl:=oi hp;exact hq _ f .sl0 .map0 s.grw (Sl.nil _) (Mo.nil _ _ a _ 0).mn
 intro m7 u;obtain⟨T,w,y,z⟩:=Mo.new (K:=Ht) (V':=Int) e u a 2;have A:=g.k y;obtain⟨B,D,F,G,I⟩:=A.sto w [ca100,(.map N.nxt)];have J:=z.k G;refine⟨B,D,?_⟩;refine⟨_,_,I.bk.ra,?_⟩;obtain rfl:=oi hp;exact hq _ f ca100 (.map N.nxt) F.grw ha100 J.mn
theorem zxB{l:List Tf}{claims:List Clm}{ca100 ca200:C}{m f:M}{Q:V->M->Prop}{rz:Wk × Int}(hS:Pre f m)(ha100:Sl f ca100 l)(ha200:Sl f ca200 claims)(hp:zuJ l claims=some rz)(hq:∀m' f' c0 c1,Grw m f m' f'->Sl f' c0 rz.1.tariffs->Mn m f' m' c1 rz.1.parts->Q (.tup [.agg 2 [c0,c1],.c (Il rz.2)]) m'):Wc prog tbl 63 [.c ca100,.c ca200] m Q:=by
 have S0:=hS.st;obtain⟨τ0,_⟩:=zsO;refine w63 ?_;unfold zuJ at hp;intro m0 B;obtain⟨D,p,Ia,F⟩:=S0.blk B τ0 1;obtain⟨q,G,hp⟩:=zrB hp;refine zxA (l:=l) p.pre ha100 G fun m2 a d i I j J=>?_;obtain⟨N,O,s,P⟩:=p.callN I J D 2;have S:=F.k s;refine⟨_,_,_,rfl,?_⟩;intro m6 T;obtain⟨e,Y,t,Z⟩:=O.blk T N 3;have aa:=S.k t;have ba:=P.k t;obtain⟨ca,da,g,u,w⟩:=Z.sto Y [d,i];have n:=aa.k u;have ea:=ba.k u;refine⟨ca,da,?_⟩;refine zr9 hp (fun fa hp=>?_) fun fa hp=>?_
 ·obtain⟨ga,ha,ia,Ja,ja⟩:=n.sto g [.sl0,C.map0];refine⟨ga,ha,?_⟩;refine⟨_,_,ja.bk.ra,?_⟩;obtain rfl:=oi hp;exact hq _ a .sl0 .map0 ia.grw (Sl.nil _) (Mo.nil _ _ e _ 0).mn
 refine⟨ha200.isSl,?_⟩
 try rw[ha200.slLen]
 refine ifd hp (fun ka hp=>?_) fun ka hp=>?_
 ·obtain⟨la,ma,na,Ka,oa⟩:=n.sto g [.sl0,C.map0];refine⟨la,ma,?_⟩;refine⟨_,_,oa.bk.ra,?_⟩;obtain rfl:=oi hp;exact hq _ a .sl0 .map0 na.grw (Sl.nil _) (Mo.nil _ _ e _ 0).mn
 refine⟨trivial,_,w.bk.rc rfl,?_⟩;obtain⟨Fa,Ga,Ha⟩:∃ws,zaE vW [.c d]=some ws/\zbZ wV ws=[.c d]:=(zrL (zrI j.noFn) zrK);rw[Ga,zd6]
 have A:zvZ a ((C.fn (Fn.func 90) Fa [])) (fun h=>zuE q.1.tariffs h):=by
  intro f' m' h r Q hs hpre  hg hq
  show Wc prog tbl 90 (appS (zbZ wV Fa) _) m' Q
  rw[Ha];exact zxw hpre (j.sub hs) hg hq
 obtain⟨La,pa,hp⟩:=zrB hp;refine zxd (l:=claims) (passes:=(fun h=>zuE q.1.tariffs h)) g.pre (ha200.sub s.fs) A pa fun Pa qa=>?_;obtain⟨y,o⟩:=g.call qa e;have z:=n.k o;have sa:=w.k o;have ta:=ea.k o;refine⟨_,rfl,?_⟩;refine zsb hp (fun ua hp=>?_) fun ua hp=>?_
 ·obtain⟨va,wa,xa,Ma,ya⟩:=z.sto y [.sl0,C.map0];refine⟨va,wa,?_⟩;refine⟨_,_,ya.bk.ra,?_⟩;obtain rfl:=oi hp;exact hq _ a .sl0 .map0 xa.grw (Sl.nil _) (Mo.nil _ _ e _ 0).mn
 refine⟨_,_,sa.bk.ra,?_⟩;obtain⟨za,Aa,Ba,Ca,Da⟩:=z.sto y [d,i];have Ea:=ta.k Ca;refine⟨za,Aa,?_⟩;refine⟨_,_,Da.bk.ra,?_⟩;obtain rfl:=oi hp;exact hq _ a d i Ba.grw j Ea.mn
theorem zxC{w:Wk}{h:Ht}{ca100 ca101:C}{m f:M}{Q:V->M->Prop}{rz:Int × Option (Ht->Option (Int))}(hS:Pre f m)(ha100:Sl f ca100 w.tariffs)(ha101:Mc f m ca101 w.parts)(hp:zuK w h=some rz)(hq:∀m',zrY ca101 m m'->Mi m' ca101 rz.2->Q (.c (Il rz.1)) m'):Wc prog tbl 57 [.agg 2 [ca100,ca101],.agg 3 [Il h.Day,Il h.Count,Il h.crop]] m Q:=by
 have S0:=hS.stM ha101;obtain⟨τ0,M0⟩:∃τ,Mo (Fm.mp m ca101) f τ m 1 ca101 w.parts:=⟨_,ha101.mo 1⟩;refine w57 ?_;unfold zuK at hp;intro m0 y;obtain⟨z,A,B,D⟩:=S0.blk y τ0 2;have F:=M0.k B;intro m1 G;obtain⟨o,d,p,a⟩:=A.blk G z 3;have e:=D.k p;have g:=F.k p;refine⟨trivial,_,e.bk.rc rfl,_,_,_,a.bk.ra,?_⟩;obtain⟨I,hp⟩:=zrC hp;refine⟨_,g.mi.lk zv5 (k:=h) I rfl,?_⟩
 cases n:(zrW w.parts h) with
 | none=>
  rw[zr5 n] at hp;refine⟨fun _=>?_,fun u hu=>(by cases hu)⟩;refine⟨trivial,_,e.bk.rc rfl,trivial,trivial,_,a.bk.rc rfl,?_⟩;obtain⟨J,N,hp⟩:=zrB hp;refine zwY (l:=w.tariffs) (day:=h.Day) d.pre ha100 N fun xa ma na oa pa O P S T=>?_;obtain⟨q,i⟩:=d.callG O o;have Y:=e.k i;have r:=a.k i;have Z:=g.k i;refine⟨_,_,_,_,_,_,rfl,_,_,_,r.bk.ra,(a.bk.ra),?_⟩;obtain⟨s,aa,hp⟩:=zrB hp;refine zxz (t:=J) (h:=h) q.pre P S T aa fun ya ba=>?_;obtain⟨ca,j⟩:=q.call ba o;have da:=Y.k j;have ea:=r.k j;have fa:=Z.k j;refine⟨_,rfl,trivial,_,da.bk.rc rfl,_,_,_,ea.bk.ra,?_⟩;obtain⟨ga,hp⟩:=zrC hp;obtain⟨qa,ha,hp⟩:=zrB hp;obtain⟨ia,ja,ka,sa,la⟩:=Mo.up zv5 ca fa (k:=h) ga (v:=s) ha (kv:=.agg 3 [Il h.Day,Il h.Count,Il h.crop]) (yv:=.c (Il s)) rfl rfl;refine⟨ia,ja,?_⟩;obtain rfl:=oi hp;exact hq _ ka.extB la.mi
 | some ta=>
  rw[zr6 n] at hp;refine⟨fun h=>(by cases h),fun u hu=>?_⟩;obtain rfl:=oi hu;refine⟨_,rfl,?_⟩;obtain rfl:=oi hp;exact hq _ d.extB g.mi
theorem zxD{w:Wk}{c:Clm}{t:Tr}{ca100 ca101:C}{m f:M}{Q:V->M->Prop}{rz:Int × Option (Ht->Option (Int))}(hS:Pre f m)(ha100:Sl f ca100 w.tariffs)(ha101:Mc f m ca101 w.parts)(hp:zuL w c t=some rz)(hq:∀m',zrY ca101 m m'->Mi m' ca101 rz.2->Q (.c (Il rz.1)) m'):Wc prog tbl 65 [.agg 2 [ca100,ca101],.agg 6 [Il c.Crop,Il c.Value,Il c.Day.Lo,Il c.Day.Hi,Il c.Count.Lo,Il c.Count.Hi],.agg 2 [Il t.Day,Il t.Count]] m Q:=by
 have S0:=hS.stM ha101;obtain⟨τ0,M0⟩:∃τ,Mo (Fm.mp m ca101) f τ m 1 ca101 w.parts:=⟨_,ha101.mo 1⟩;refine w65 ?_;unfold zuL at hp;intro m0 l;obtain⟨n,o,p,q⟩:=S0.blk l τ0 2;have r:=M0.k p;intro m1 s;obtain⟨u,y,g,z⟩:=o.blk s n 3;have A:=q.k g;have B:=r.k g;intro m2 D;obtain⟨da,a,d,F⟩:=y.blk D u 4;have G:=A.k d;have e:=z.k d;have i:=B.k d;refine⟨trivial,_,e.bk.rc rfl,_,_,G.bk.ra,_,_,F.bk.ra,trivial,_,e.bk.rc rfl,?_⟩;obtain⟨ea,I,hp⟩:=zrB hp;refine zxC (w:=w) (h:=({ Day:=t.Day,Count:=t.Count,crop:=c.Crop }:Ht)) a.pre ha100 (i.mc a) I fun ia J j=>?_;obtain⟨N,O,P⟩:=a.callM i J j;have S:=e.k O;refine⟨_,rfl,(S.bk.rc rfl),?_⟩;refine gdi hp fun T hp=>?_;refine gdi hp fun Y hp=>?_;refine gdi hp fun Z hp=>?_;refine gdi hp fun aa hp=>?_;refine gdi hp fun ba hp=>?_;refine gdi hp fun ca hp=>?_;obtain rfl:=oi hp;exact hq _ N.extB P.mi
theorem zxE{c:Clm}{bq0:Nat}{m f:M}{F:Fm}{n0 ly:Nat}{xs:List (List V)}{I:Nat->(Nat->Prop)->M->Prop}{E:(Nat->Prop)->M->Prop}{S1:Nat->Prop}{Q:V->M->Prop}{rz:List Tr}{τ0:Nat->Nat}(hc:zrq prog tbl n0 ly xs I E)(S0:St F f f m)(Y0:Yg n0 (YJ xs I rz) S1 F f τ0 m)(hb0:Bk f bq0 6 [(.int .i64 c.Crop),(.int .i64 c.Value),(.int .i64 c.Day.Lo),(.int .i64 c.Day.Hi),(.int .i64 c.Count.Lo),(.int .i64 c.Count.Hi)])(hp:zuO c=some rz)(hq:∀v m' f' τ' S',St F f f' m'->(Yg n0 (YJ xs I ([]:List Tr)) S' F f' τ' m'\/Yg n0 E S' F f' τ' m')->Q v m'):Wc prog tbl 94 [.c (.fn (.yield ly) [] []),.c (.ptr bq0 0)] m Q:=by
 refine c94 ?_;unfold zuO at hp;refine⟨trivial,trivial,_,(hb0.sub S0.sub).rc rfl,?_⟩;intro R1 hR1
 have hgo:∀(d2494:Nat) (x2:Int) (r2491:List Tr) (s2492:Nat->Prop) (m3:M) (τ2490:Nat->Nat),St F f f m3->Yg n0 (YJ xs I r2491) s2492 F f τ2490 m3->zuN c d2494 x2=some r2491->R1 [.c (.int .i64 x2)] m3:=by
  intro d2494
  induction d2494 with
  | zero=>intro x2 r2491 s2492 m3 τ2490 S2489 Y2493 hp; cases hp
  | succ d2494 ihR1=>
   intro x2 r2491 s2492 m3 τ2490 S2489 Y2493 hp;refine hR1 _ _ ?_;rw[zuN] at hp;refine⟨trivial,trivial,_,(hb0.sub S2489.sub).rc rfl,?_⟩;refine ifd hp (fun q2495 hp=>?_) fun q2495 hp=>?_; rotate_left
   ·obtain rfl:=oi hp;exact hq _ _ _ _ _ S2489 (.inl Y2493)
   refine⟨trivial,trivial,_,(hb0.sub S2489.sub).rc rfl,?_⟩;intro R6 hR6
   have hgo:∀(d2501:Nat) (x7:Int) (r2498:List Tr) (s2499:Nat->Prop) (m8:M) (τ2497:Nat->Nat),St F f f m8->Yg n0 (YJ xs I r2498) s2499 F f τ2497 m8->zuM c x2 (zuN c d2494) d2501 x7=some r2498->R6 [.c (.int .i64 x7)] m8:=by
    intro d2501
    induction d2501 with
    | zero=>intro x7 r2498 s2499 m8 τ2497 S2496 Y2500 hp; cases hp
    | succ d2501 ihR6=>
     intro x7 r2498 s2499 m8 τ2497 S2496 Y2500 hp;refine hR6 _ _ ?_;rw[zuM] at hp;refine⟨trivial,trivial,_,(hb0.sub S2496.sub).rc rfl,?_⟩;refine ifd hp (fun q2502 hp=>?_) fun q2502 hp=>?_; rotate_left
     ·obtain⟨g2517,hp⟩:=zrC hp;refine⟨g2517,?_⟩;exact ihR1 _ _ _ _ τ2497 S2496 Y2500 hp
     obtain⟨r2503,hp2505,hz2504⟩:=zrB hp
     clear hp
     obtain rfl:=oi hz2504;have hp:=hp2505
     show Wy prog tbl ly (IV.encs (({ Day:=x2,Count:=x7 }:Tr):Tr)) _ _
     refine Yg.yield hc S2496 Y2500 ?_ ?_
     ·intro m11 τ2506 s2510 S2507 k2508 Y2509;refine⟨_,rfl,?_⟩;refine zsg ?_;obtain⟨g2511,hp⟩:=zrC hp;refine⟨g2511,?_⟩;exact ihR6 _ _ _ _ τ2506 S2507 Y2509 hp
     ·intro m11 τ2512 s2516 S2513 k2514 Y2515;refine⟨_,rfl,?_⟩;refine zsh ?_;exact hq _ _ _ _ _ S2513 (.inr Y2515)
   exact hgo _ _ _ _ _ τ2490 S2489 Y2493 hp
 exact hgo _ _ _ _ _ τ0 S0 Y0 hp
theorem zxF{c:Clm}{m f:M}{Q:V->M->Prop}{rz:List Tr}(hS:Pre f m)(hp:zuP c=some rz)(hq:∀m' f' c0,Grw m f m' f'->It prog tbl f' c0 rz->Q (.c c0) m'):Wc prog tbl 69 [.agg 6 [Il c.Crop,Il c.Value,Il c.Day.Lo,Il c.Day.Hi,Il c.Count.Lo,Il c.Count.Hi]] m Q:=by
 have r:=hS.st;obtain⟨s,_⟩:=zsO;refine w69 ?_;unfold zuP at hp;intro t h;obtain⟨o,i,p,j⟩:=r.blk h s 1;obtain⟨d,a,q,e⟩:=j.freeze i;obtain⟨l,n,hp⟩:=zrB hp;have g:It prog tbl d ((C.fn (Fn.func 94) [] [(W.c (C0.ptr m.nxt 0))])) l:=zsi a.fz a.fv fun u ly I E hc w y z A hS hY Q hq=>zxE hc hS hY e n hq;obtain rfl:=oi hp;exact hq _ d (C.fn (Fn.func 94) [] [(W.c (C0.ptr m.nxt 0))]) a.grw g
theorem zxG{seq:List Tr}{ca200:C}{m f:M}{Q:V->M->Prop}{rz:List Tr}(hS:Pre f m)(ha200:It prog tbl f ca200 seq)(hp:zuR seq=some rz)(hq:∀m' f' c0,Grw m f m' f'->Sl f' c0 rz->Q (.c c0) m'):Wc prog tbl 93 [.c .sl0,.c ca200] m Q:=by
 have S0:=hS.st;obtain⟨τ0,_⟩:=zsO;refine w93 ?_;unfold zuR at hp;intro m0 S;obtain⟨T,Y,Ga,s⟩:=S0.blk S τ0 1;refine zr8 (α:=Tr) Y ha200 (σ:=(List Tr) × C) 2 (fun st bb=>(False\/(zr7 st.2 bb))) (fun st gG gF gT gM=>(Lb gG gF gT gM 1 m.nxt 1 [st.2])/\(Ow gG gF gT gM 3 st.2 st.1)) (fun rr_ st=>zuQ rr_ st.1=some rz) (fun ex st=>False) (fun st=>(Gud.and (Gud.lb s.bk.lt (by decide)) (Gud.ow (by decide)))) (st0:=([],.sl0)) (τ:=T) ⟨s,(Ow.nil _ _ _ _ _)⟩ hp ?_ ?_ ?_ ?_
 ·intro g Z st j l m2 t Ha Da Ea Fa aa Ia hA B hp D F;obtain⟨h,i⟩:=st;obtain⟨e,d⟩:=hA
  replace e:Lb t j l m2 1 m.nxt 1 [i]:=e
  replace d:Ow t j l m2 3 i h:=d
  replace hp:zuQ (g::Z) h=some rz:=hp
  rw[zuQ] at hp;refine⟨_,_,rfl,?_⟩;intro m7 ba;obtain⟨Ja,ca,n,da⟩:=aa.blk ba l 4;have ea:=e.k n;have d:=d.k n;have G:=B.k n;obtain⟨fa,ga,ha,o,ia⟩:=da.sto ca [Il g.Day,Il g.Count];have ja:=ea.k o;have d:=d.k o;have I:=G.k o;refine⟨fa,ga,?_⟩;refine D _ _ _ _ ha I fun m9 Ka ka p J N=>?_;have u:=ja.k p;have la:=ia.k p;have d:=d.k p;refine⟨_,u.bk.rc rfl,_,_,la.bk.ra,?_⟩;obtain⟨ma,hp⟩:=zrC hp;intro Qa na;obtain⟨q,oa,La,pa,qa,w,r⟩:=d.app' zwd ka (a:=g) (show Rp.rep (α:=Tr) j _ g from rfl) ma na;have sa:=u.k w;have O:=J.k w;refine⟨q,oa,pa,?_⟩;obtain⟨ta,ua,va,y,wa⟩:=sa.sto qa [q];have r:=r.k y;have P:=O.k y;refine⟨ta,ua,?_⟩;exact F .nrm ((h++[g]),q) _ _ _ _ va ⟨wa,r⟩ P N hp
 ·intro st z A Ba xa Ma hA hp;obtain⟨h,i⟩:=st
  replace hp:zuQ [] h=some rz:=hp
  obtain⟨e,d⟩:=hA
  replace e:Lb (Fm.of m) z A Ba 1 m.nxt 1 [i]:=e
  replace d:Ow (Fm.of m) z A Ba 3 i h:=d
  rw[zuQ] at hp;refine⟨_,e.bk.rc rfl,?_⟩;obtain⟨ya,za,Na,Aa⟩:=d.freeze xa;obtain rfl:=oi hp;exact hq _ ya i za.grw Aa
 ·intro id st _ _ _ _ _ _ hn; first | exact hn.elim | (cases hn)
 ·intro st _ _ _ _ _ _ hn; first | exact hn.elim | (cases hn)
theorem zxH{seq:List Tr}{ca100:C}{m f:M}{Q:V->M->Prop}{rz:List Tr}(hS:Pre f m)(ha100:It prog tbl f ca100 seq)(hp:zuS seq=some rz)(hq:∀m' f' c0,Grw m f m' f'->Sl f' c0 rz->Q (.c c0) m'):Wc prog tbl 68 [.c ca100] m Q:=by
 have j:=hS.st;obtain⟨o,_⟩:=zsO;refine w68 ?_;unfold zuS at hp;obtain⟨l,a,hp⟩:=zrB hp;refine zxG (seq:=seq) j.pre ha100 a fun p d e g h=>?_;obtain⟨i,n⟩:=j.callG g o;refine⟨_,rfl,?_⟩;obtain rfl:=oi hp;exact hq _ d e i.grw h
theorem zxI{w:Wk}{c:Clm}{ca100 ca101:C}{m f:M}{Q:V->M->Prop}{rz:Rg × Option (Ht->Option (Int))}(hS:Pre f m)(ha100:Sl f ca100 w.tariffs)(ha101:Mc f m ca101 w.parts)(hp:zuU w c=some rz)(hq:∀m',zrY ca101 m m'->Mi m' ca101 rz.2->Q (.agg 2 [Il rz.1.Lo,Il rz.1.Hi]) m'):Wc prog tbl 67 [.agg 2 [ca100,ca101],.agg 6 [Il c.Crop,Il c.Value,Il c.Day.Lo,Il c.Day.Hi,Il c.Count.Lo,Il c.Count.Hi]] m Q:=by
 have S0:=hS.stM ha101;obtain⟨τ0,M0⟩:∃τ,Mo (Fm.mp m ca101) f τ m 1 ca101 w.parts:=⟨_,ha101.mo 1⟩;refine w67 ?_;unfold zuU at hp;intro m0 Ja;obtain⟨Ka,La,Ma,Na⟩:=S0.blk Ja τ0 2;have Oa:=M0.k Ma;intro m1 Pa;obtain⟨Qa,Ra,fa,Sa⟩:=La.blk Pa Ka 3;have Ta:=Na.k fa;have Ua:=Oa.k fa;intro m2 Va;obtain⟨Wa,Xa,T,Ya⟩:=Ra.blk Va Qa 4;have Za:=Ta.k T;have ab:=Sa.k T;have cb:=Ua.k T;intro m3 db;obtain⟨ga,ha,J,eb⟩:=Xa.blk db Wa 5;have fb:=Za.k J;have ia:=ab.k J;have gb:=Ya.k J;have hb:=cb.k J;refine⟨_,_,_,_,_,_,ia.bk.ra,?_⟩;obtain⟨Pc,ib,hp⟩:=zrB hp;refine zxF (c:=c) ha.pre  ib fun dd Qc Rc jb kb=>?_;obtain⟨mb,s⟩:=ha.callG jb ga;have ja:=fb.k s;have ka:=ia.k s;have la:=gb.k s;have ma:=eb.k s;have na:=hb.k s;refine⟨_,rfl,?_⟩;refine zr8 (α:=Tr) mb kb (σ:=(List Int) × C × (Option (Ht->Option (Int)))) 6 (fun st bb=>(False\/(False\/(False\/(False\/((zr7 st.2.1 bb)\/False)))))) (fun st gG gF gT gM=>(Lb gG gF gT gM 2 m.nxt 2 [ca100,ca101])/\(Lb gG gF gT gM 3 m0.nxt 6 [Il c.Crop,Il c.Value,Il c.Day.Lo,Il c.Day.Hi,Il c.Count.Lo,Il c.Count.Hi])/\(Lb gG gF gT gM 4 m1.nxt 2 [Il 0,Il 0])/\(Lb gG gF gT gM 5 m2.nxt 1 [st.2.1])/\(Ow gG gF gT gM 7 st.2.1 st.1)/\(Mo gG gF gT gM 1 ca101 st.2.2)) (fun rr_ st=>zuT w c rr_ st.1 st.2.2=some rz) (fun ex st=>False) (fun st=>(Gud.and (Gud.lb ja.bk.lt (by decide)) (Gud.and (Gud.lb ka.bk.lt (by decide)) (Gud.and (Gud.lb la.bk.lt (by decide)) (Gud.and (Gud.lb ma.bk.lt (by decide)) (Gud.and (Gud.ow (by decide)) (Gud.mo na.lt (by decide)))))))) (st0:=([],.sl0,w.parts)) (τ:=ga) ⟨ja,ka,la,ma,(Ow.nil _ _ _ _ _),na⟩ hp ?_ ?_ ?_ ?_
 ·intro N ob st i j P u Tc Kc Nc Oc pb qb hA ya hp za Aa;obtain⟨e,I,y⟩:=st;obtain⟨z,A,n,g,d,o⟩:=hA
  replace z:Lb u i j P 2 m.nxt 2 [ca100,ca101]:=z
  replace A:Lb u i j P 3 m0.nxt 6 [Il c.Crop,Il c.Value,Il c.Day.Lo,Il c.Day.Hi,Il c.Count.Lo,Il c.Count.Hi]:=A
  replace n:Lb u i j P 4 m1.nxt 2 [Il 0,Il 0]:=n
  replace g:Lb u i j P 5 m2.nxt 1 [I]:=g
  replace d:Ow u i j P 7 I e:=d
  replace o:Mo u i j P 1 ca101 y:=o
  replace hp:zuT w c (N::ob) e y=some rz:=hp
  rw[zuT] at hp;refine⟨_,_,rfl,?_⟩;intro ed rb;obtain⟨Uc,sb,p,tb⟩:=pb.blk rb j 8;have ub:=z.k p;have vb:=A.k p;have wb:=n.k p;have xb:=g.k p;have yb:=o.k p;have d:=d.k p;have Ba:=ya.k p;obtain⟨zb,Ab,Bb,q,Cb⟩:=tb.sto sb [Il N.Day,Il N.Count];have Db:=ub.k q;have Eb:=vb.k q;have Fb:=wb.k q;have Gb:=xb.k q;have Hb:=yb.k q;have d:=d.k q;have Ca:=Ba.k q;refine⟨zb,Ab,?_⟩;refine za _ _ _ _ Bb Ca fun fd Vc Y r Da Ea=>?_;have oa:=Db.k r;have pa:=Eb.k r;have Ib:=Fb.k r;have qa:=Gb.k r;have Jb:=Cb.k r;have sa:=Hb.k r;have d:=d.k r;refine⟨_,qa.bk.rc rfl,_,_,oa.bk.ra,_,_,_,_,_,_,pa.bk.ra,_,_,Jb.bk.ra,?_⟩;obtain⟨O,Kb,hp⟩:=zrB hp;refine zxD (w:=({ tariffs:=w.tariffs,parts:=y }:Wk)) (c:=c) (t:=N) Y.pre (ha100.sub (Sub.trans s.fs qb)) (sa.mc Y) Kb fun hd Mb Fa=>?_;obtain⟨Nb,B,Ob⟩:=Y.callM sa Mb Fa;have Pb:=oa.k B;have Qb:=pa.k B;have Rb:=Ib.k B;have Z:=qa.k B;have d:=d.k B;have Ga:=Da.k B;refine⟨_,rfl,(by rw[show cmC _=true from zp8 (d.noFn)]; exact(Z.bk.rc rfl)),?_⟩;obtain⟨Sb,hp⟩:=zrC hp;intro jd ta;refine⟨(by rw[show cmC _=true from zp8 (d.noFn)]; exact(Z.bk.ext (Bk.new ta).2).rc rfl),?_⟩;obtain⟨aa,Tb,Xc,Ub,Vb,D,ba⟩:=d.app' zwa Nb (a:=O.1) (show Rp.rep (α:=Int) i _ O.1 from rfl) Sb ta;have Wb:=Pb.k D;have Xb:=Qb.k D;have Yb:=Rb.k D;have Zb:=Z.k D;have ac:=Ob.k D;have Ha:=Ga.k D;refine⟨aa,Tb,Ub,?_⟩;obtain⟨bc,cc,dc,F,ec⟩:=Zb.sto Vb [aa];have fc:=Wb.k F;have gc:=Xb.k F;have hc:=Yb.k F;have ic:=ac.k F;have ba:=ba.k F;have Ia:=Ha.k F;refine⟨bc,cc,?_⟩;exact Aa .nrm ((e++[O.1]),aa,O.2) _ _ _ _ dc ⟨fc,gc,hc,ec,ba,ic⟩ Ia Ea hp
 ·intro st G h S jc Yc hA hp;obtain⟨e,I,y⟩:=st
  replace hp:zuT w c [] e y=some rz:=hp
  obtain⟨z,A,n,g,d,o⟩:=hA
  replace z:Lb (Fm.mp m ca101) G h S 2 m.nxt 2 [ca100,ca101]:=z
  replace A:Lb (Fm.mp m ca101) G h S 3 m0.nxt 6 [Il c.Crop,Il c.Value,Il c.Day.Lo,Il c.Day.Hi,Il c.Count.Lo,Il c.Count.Hi]:=A
  replace n:Lb (Fm.mp m ca101) G h S 4 m1.nxt 2 [Il 0,Il 0]:=n
  replace g:Lb (Fm.mp m ca101) G h S 5 m2.nxt 1 [I]:=g
  replace d:Ow (Fm.mp m ca101) G h S 7 I e:=d
  replace o:Mo (Fm.mp m ca101) G h S 1 ca101 y:=o
  rw[zuT] at hp;refine⟨_,g.bk.rc rfl,?_⟩;obtain⟨Zc,ua,ca,da⟩:=d.freeze jc;have kc:=n.k ca;have va:=g.k ca;have nc:=o.k ca;obtain⟨oc,pc,hp⟩:=zrB hp;refine zw2 (l:=e) ua.pre da pc fun kd qc=>?_;obtain⟨wa,ea⟩:=ua.call qc h;have sc:=kc.k ea;have tc:=va.k ea;have uc:=nc.k ea;refine⟨_,rfl,_,tc.bk.rc rfl,(by rw[show cmC _=true from zp8 (da.noFn)]; exact(va.bk.rc rfl)),?_⟩;obtain⟨vc,wc,hp⟩:=zrB hp;refine zw3 (l:=e) wa.pre da wc fun ld xc=>?_;obtain⟨yc,xa⟩:=wa.call xc h;have zc:=sc.k xa;have Ac:=uc.k xa;refine⟨_,rfl,?_⟩;obtain⟨Bc,Cc,Dc,Ec,Fc⟩:=zc.sto yc [Il oc,Il vc];have Gc:=Ac.k Ec;refine⟨Bc,Cc,?_⟩;refine⟨_,_,Fc.bk.ra,?_⟩;obtain rfl:=oi hp;exact hq _ Dc.extB Gc.mi
 ·intro id st _ _ _ _ _ _ hn; first | exact hn.elim | (cases hn)
 ·intro st _ _ _ _ _ _ hn; first | exact hn.elim | (cases hn)
theorem zxJ{t:Tr}{u:Tr}{w:Wk}{bq0:Nat}{c:Clm}{bq1:Nat}{cb000 cb001:C}{m f:M}{Q:V->M->Prop}{rz:Int × Option (Ht->Option (Int))}(hS:Pre f m)(hb0:Bk f bq0 2 [cb000,cb001])(hb000:Sl f cb000 w.tariffs)(hb001:Mc f m cb001 w.parts)(hb1:Bk f bq1 6 [Il c.Crop,Il c.Value,Il c.Day.Lo,Il c.Day.Hi,Il c.Count.Lo,Il c.Count.Hi])(hp:zuV t u w c=some rz)(hq:∀m',zrY cb001 m m'->Mi m' cb001 rz.2->Q (.c (Il rz.1)) m'):Wc prog tbl 70 [.agg 2 [Il t.Day,Il t.Count],.agg 2 [Il u.Day,Il u.Count],.c (.ptr bq0 0),.c (.ptr bq1 0)] m Q:=by
 have S0:=hS.stM hb001;obtain⟨τ0,M0⟩:∃τ,Mo (Fm.mp m cb001) f τ m 1 cb001 w.parts:=⟨_,hb001.mo 1⟩;refine c70 ?_;unfold zuV at hp;intro m0 p;obtain⟨q,r,s,z⟩:=S0.blk p τ0 2;have A:=M0.k s;intro m1 B;obtain⟨D,a,g,h⟩:=r.blk B q 3;have F:=z.k g;have i:=A.k g;refine⟨_,_,(hb0.sub a.sub).ra,_,_,_,_,_,_,(hb1.sub a.sub).ra,_,_,F.bk.ra,?_⟩;obtain⟨j,G,hp⟩:=zrB hp;refine zxD (w:=w) (c:=c) (t:=t) a.pre hb000 (i.mc a) G fun ia I n=>?_;obtain⟨d,J,e⟩:=a.callM i I n;have N:=h.k J;refine⟨_,rfl,_,_,(hb0.sub d.sub).ra,(by rw[show zaL cmC _=true from zp9 (zrE hb000.noFn (zrE e.mi.noFn zrF))]; exact((hb0.sub a.sub).ra)),_,_,_,_,_,_,(hb1.sub d.sub).ra,((hb1.sub a.sub).ra),_,_,N.bk.ra,(h.bk.ra),?_⟩;obtain⟨O,P,hp⟩:=zrB hp;refine zxD (w:=({ tariffs:=w.tariffs,parts:=j.2 }:Wk)) (c:=c) (t:=u) d.pre hb000 (e.mc d) P fun ja S o=>?_;obtain⟨l,da,T⟩:=d.callM e S o;refine⟨_,rfl,?_⟩;obtain⟨ea,Y,hp⟩:=zrB hp;refine zwV (x:=j.1) (y:=O.1) l.pre  Y fun ka Z=>?_;obtain⟨aa,ba⟩:=l.call Z D;have ca:=T.k ba;refine⟨_,rfl,?_⟩;obtain rfl:=oi hp;exact hq _ aa.extB ca.mi
theorem zxK{l:List Tr}{cmp:Tr->Tr->(Option (Ht->Option (Int)))->Option (Int × Option (Ht->Option (Int)))}{Mp:Option (Ht->Option (Int))}{ca100 ca200 mc:C}{m f:M}{Q:V->M->Prop}{rz:Tr × Option (Ht->Option (Int))}(hS:Pre f m)(ha100:Sl f ca100 l)(hMp:Mc f m mc Mp)(ha200:zv4 mc f ca200 cmp)(hp:zuX l cmp Mp=some rz)(hq:∀m',zrY mc m m'->Mi m' mc rz.2->Q (.agg 2 [Il rz.1.Day,Il rz.1.Count]) m'):Wc prog tbl 72 [.c ca100,.c ca200] m Q:=by
 have S0:=hS.stM hMp;obtain⟨τ0,M0⟩:∃τ,Mo (Fm.mp m mc) f τ m 1 mc Mp:=⟨_,hMp.mo 1⟩;refine w72 ?_;unfold zuX at hp;intro m0 aa;obtain⟨ba,z,ca,da⟩:=S0.blk aa τ0 2;have ea:=M0.k ca;refine⟨ha100.isSl,?_⟩
 try rw[ha100.slLen]
 refine ifd hp (fun fa hp=>?_) fun fa hp=>?_
 ·cases hp
 obtain⟨A,p,hp⟩:=zrB hp;obtain⟨n1,P,t,p⟩:=zrv p;obtain⟨_,ga⟩:=zsV ha100 p;refine⟨n1,P,(by first|exact t|(rw[ha100.slLen];exact t)),_,_,(ga _ z.sub).1,?_⟩;intro m4 ha;obtain⟨ia,ja,B,ka⟩:=z.blk ha ba 3;have la:=da.k B;have ma:=ea.k B;obtain⟨na,oa,pa,D,d⟩:=ka.sto ja [Il A.Day,Il A.Count];have h:=la.k D;have e:=ma.k D;refine⟨na,oa,?_⟩;intro R6 Ma
 have hgo:∀(n:Nat) (x7:Int) (i:Int) (j:Int) (o:Option (Ht->Option (Int))) (y:M) (a:Nat->Nat),St (Fm.mp m mc) f f y->Lb (Fm.mp m mc) f a y 2 m.nxt 2 [Il 0,Il 0]->Lb (Fm.mp m mc) f a y 3 m0.nxt 2 [Il i,Il j]->Mo (Fm.mp m mc) f a y 1 mc o->zuW l cmp n i j o x7=some rz->R6 [.c (Il x7)] y:=by
  intro n
  induction n with
  | zero=>intro x7 i j o y a g h d e hp; cases hp
  | succ n S=>
   intro x7 i j o y a g h d e hp;refine Ma _ _ ?_;rw[zuW] at hp;refine⟨ha100.isSl,?_⟩
   try rw[ha100.slLen]
   refine ifd hp (fun sa hp=>?_) fun sa hp=>?_; rotate_left
   ·refine⟨_,_,d.bk.ra,?_⟩;obtain⟨ta,ua,va,wa,xa⟩:=h.sto g [Il i,Il j];have ya:=e.k wa;refine⟨ta,ua,?_⟩;refine⟨_,_,xa.bk.ra,?_⟩;obtain rfl:=oi hp;exact hq _ va.extB ya.mi
   obtain⟨Oa,q,hp⟩:=zrB hp;obtain⟨n9,T,u,q⟩:=zrv q;obtain⟨_,za⟩:=zsV ha100 q;refine⟨n9,T,(by first|exact u|(rw[ha100.slLen];exact u)),_,_,(za _ g.sub).1,_,_,d.bk.ra,?_⟩;obtain⟨Pa,Aa,hp⟩:=zrB hp;refine ha200 _ _ _ _ _ _ _ (Sub.refl _) g.pre  (e.mc g) Aa fun Xa Ba Y=>?_;obtain⟨r,F,G⟩:=g.callM e Ba Y;have I:=h.k F;have J:=d.k F;refine⟨_,rfl,?_⟩;refine ifd hp (fun Ca hp=>?_) fun Ca hp=>?_; rotate_left
   ·refine gdi hp fun Da hp=>?_;exact S _ _ _ _ _ a r I J G hp
   obtain⟨N,s,hp⟩:=zrB hp;obtain⟨Na,Z,w,s⟩:=zrv s;obtain⟨_,Ea⟩:=zsV ha100 s;refine⟨Na,Z,(by first|exact w|(rw[ha100.slLen];exact w)),_,_,(Ea _ r.sub).1,?_⟩;obtain⟨Fa,Ga,Ha,O,Ia⟩:=J.sto r [Il N.Day,Il N.Count];have Ja:=I.k O;have Ka:=G.k O;refine⟨Fa,Ga,?_⟩;refine gdi hp fun La hp=>?_;exact S _ _ _ _ _ a Ha Ja Ia Ka hp
 exact hgo _ _ _ _ _ _ ia pa h d e hp
theorem zxL{l:List Tr}{cmp:Tr->Tr->(Option (Ht->Option (Int)))->Option (Int × Option (Ht->Option (Int)))}{Mp:Option (Ht->Option (Int))}{ca100 ca200 mc:C}{m f:M}{Q:V->M->Prop}{rz:Tr × Option (Ht->Option (Int))}(hS:Pre f m)(ha100:Sl f ca100 l)(hMp:Mc f m mc Mp)(ha200:zv4 mc f ca200 cmp)(hp:zuZ l cmp Mp=some rz)(hq:∀m',zrY mc m m'->Mi m' mc rz.2->Q (.agg 2 [Il rz.1.Day,Il rz.1.Count]) m'):Wc prog tbl 73 [.c ca100,.c ca200] m Q:=by
 have S0:=hS.stM hMp;obtain⟨τ0,M0⟩:∃τ,Mo (Fm.mp m mc) f τ m 1 mc Mp:=⟨_,hMp.mo 1⟩;refine w73 ?_;unfold zuZ at hp;intro m0 aa;obtain⟨ba,z,ca,da⟩:=S0.blk aa τ0 2;have ea:=M0.k ca;refine⟨ha100.isSl,?_⟩
 try rw[ha100.slLen]
 refine ifd hp (fun fa hp=>?_) fun fa hp=>?_
 ·cases hp
 obtain⟨A,p,hp⟩:=zrB hp;obtain⟨n1,P,t,p⟩:=zrv p;obtain⟨_,ga⟩:=zsV ha100 p;refine⟨n1,P,(by first|exact t|(rw[ha100.slLen];exact t)),_,_,(ga _ z.sub).1,?_⟩;intro m4 ha;obtain⟨ia,ja,B,ka⟩:=z.blk ha ba 3;have la:=da.k B;have ma:=ea.k B;obtain⟨na,oa,pa,D,d⟩:=ka.sto ja [Il A.Day,Il A.Count];have h:=la.k D;have e:=ma.k D;refine⟨na,oa,?_⟩;intro R6 Ma
 have hgo:∀(n:Nat) (x7:Int) (i:Int) (j:Int) (o:Option (Ht->Option (Int))) (y:M) (a:Nat->Nat),St (Fm.mp m mc) f f y->Lb (Fm.mp m mc) f a y 2 m.nxt 2 [Il 0,Il 0]->Lb (Fm.mp m mc) f a y 3 m0.nxt 2 [Il i,Il j]->Mo (Fm.mp m mc) f a y 1 mc o->zuY l cmp n i j o x7=some rz->R6 [.c (Il x7)] y:=by
  intro n
  induction n with
  | zero=>intro x7 i j o y a g h d e hp; cases hp
  | succ n S=>
   intro x7 i j o y a g h d e hp;refine Ma _ _ ?_;rw[zuY] at hp;refine⟨ha100.isSl,?_⟩
   try rw[ha100.slLen]
   refine ifd hp (fun sa hp=>?_) fun sa hp=>?_; rotate_left
   ·refine⟨_,_,d.bk.ra,?_⟩;obtain⟨ta,ua,va,wa,xa⟩:=h.sto g [Il i,Il j];have ya:=e.k wa;refine⟨ta,ua,?_⟩;refine⟨_,_,xa.bk.ra,?_⟩;obtain rfl:=oi hp;exact hq _ va.extB ya.mi
   obtain⟨Oa,q,hp⟩:=zrB hp;obtain⟨n9,T,u,q⟩:=zrv q;obtain⟨_,za⟩:=zsV ha100 q;refine⟨n9,T,(by first|exact u|(rw[ha100.slLen];exact u)),_,_,(za _ g.sub).1,_,_,d.bk.ra,?_⟩;obtain⟨Pa,Aa,hp⟩:=zrB hp;refine ha200 _ _ _ _ _ _ _ (Sub.refl _) g.pre  (e.mc g) Aa fun Xa Ba Y=>?_;obtain⟨r,F,G⟩:=g.callM e Ba Y;have I:=h.k F;have J:=d.k F;refine⟨_,rfl,?_⟩;refine ifd hp (fun Ca hp=>?_) fun Ca hp=>?_; rotate_left
   ·refine gdi hp fun Da hp=>?_;exact S _ _ _ _ _ a r I J G hp
   obtain⟨N,s,hp⟩:=zrB hp;obtain⟨Na,Z,w,s⟩:=zrv s;obtain⟨_,Ea⟩:=zsV ha100 s;refine⟨Na,Z,(by first|exact w|(rw[ha100.slLen];exact w)),_,_,(Ea _ r.sub).1,?_⟩;obtain⟨Fa,Ga,Ha,O,Ia⟩:=J.sto r [Il N.Day,Il N.Count];have Ja:=I.k O;have Ka:=G.k O;refine⟨Fa,Ga,?_⟩;refine gdi hp fun La hp=>?_;exact S _ _ _ _ _ a Ha Ja Ia Ka hp
 exact hgo _ _ _ _ _ _ ia pa h d e hp
theorem zxM{l:List Tf}{c:Clm}{high:Bool}{ca100:C}{m f:M}{Q:V->M->Prop}{rz:Tr × Int}(hS:Pre f m)(ha100:Sl f ca100 l)(hp:zu0 l c high=some rz)(hq:∀m',Ext m m'->Q (.tup [.agg 2 [Il rz.1.Day,Il rz.1.Count],.c (Il rz.2)]) m'):Wc prog tbl 33 [.c ca100,.agg 6 [Il c.Crop,Il c.Value,Il c.Day.Lo,Il c.Day.Hi,Il c.Count.Lo,Il c.Count.Hi],.c (.bool high)] m Q:=by
 have S0:=hS.st;obtain⟨τ0,_⟩:=zsO;refine w33 ?_;unfold zu0 at hp;intro m0 va;obtain⟨wa,xa,ec,ya⟩:=S0.blk va τ0 1;intro m1 za;obtain⟨Aa,Ba,Ca,Da⟩:=xa.blk za wa 2;have G:=ya.k Ca;refine⟨_,_,_,_,_,_,G.bk.ra,?_⟩;intro m8 Ea;obtain⟨Fa,Ga,I,Ha⟩:=Ba.blk Ea Aa 3;have Ia:=G.k I;have Ja:=Da.k I;obtain⟨J,N,s,la⟩:=Ha.freeze Ga;have Ka:=Ia.k s;have La:=Ja.k s;have Ma:Sl J (C.sl m1.nxt 0 1 0 (Option.some 1)) ([c]:List Clm):=Bk.sl (α:=Clm) (l:=([c]:List Clm)) la (show Cat (α:=Clm) J [Il c.Crop,Il c.Value,Il c.Day.Lo,Il c.Day.Hi,Il c.Count.Lo,Il c.Count.Hi] ([c]:List Clm) from ⟨[Il c.Crop,Il c.Value,Il c.Day.Lo,Il c.Day.Hi,Il c.Count.Lo,Il c.Count.Hi],_,rfl,rfl,rfl⟩) rfl rfl _;obtain⟨a,Na,hp⟩:=zrB hp;refine zxB (l:=l) (claims:=([c]:List Clm)) N.pre (ha100.sub s.fs) Ma Na fun dc fc Oa y Pa O Qa=>?_;obtain⟨Ra,Sa,P,Ta⟩:=N.callN Pa Qa Fa 4;have Ua:=Ka.k P;have Va:=La.k P;refine⟨_,_,_,rfl,?_⟩;intro xc Wa;obtain⟨S,Xa,z,Ya⟩:=Sa.blk Wa Ra 5;have Za:=Ua.k z;have ab:=Va.k z;have bb:=Ta.k z;obtain⟨cb,db,A,B,eb⟩:=Ya.sto Xa [Oa,y];have T:=Za.k B;have Y:=ab.k B;have fb:=bb.k B;refine⟨cb,db,?_⟩;refine zr9 hp (fun gb hp=>?_) fun gb hp=>?_
 ·obtain⟨hb,ib,jb,gc,kb⟩:=Y.sto A [Il 0,Il 0];refine⟨hb,ib,?_⟩;refine⟨_,_,kb.bk.ra,?_⟩;obtain rfl:=oi hp;exact hq _ jb.ext'
 refine⟨_,_,_,_,_,_,T.bk.ra,?_⟩;obtain⟨mb,ob,hp⟩:=zrB hp;refine zxF (c:=c) A.pre  ob fun yc hc ic pb qb=>?_;obtain⟨Z,d⟩:=A.callG pb S;have rb:=T.k d;have sb:=Y.k d;have tb:=eb.k d;have ub:=fb.k d;refine⟨_,rfl,?_⟩;obtain⟨aa,vb,hp⟩:=zrB hp;refine zxH (seq:=mb) Z.pre qb vb fun zc jc kc wb ba=>?_;obtain⟨ca,e⟩:=Z.callG wb S;have da:=rb.k e;have ea:=sb.k e;have fa:=tb.k e;have ga:=ub.k e;refine⟨_,rfl,?_⟩;refine zsa hp (fun xb hp=>?_) fun xb hp=>?_
 ·obtain⟨nc,yb,g,ma⟩:=fa.freeze ca;have zb:=da.k g;have Ab:=ea.k g;have Bb:=ga.k g;obtain⟨Cb,D,h,na⟩:=zb.freeze yb;have Db:=Ab.k h;have ha:=Bb.k h
  have oa:zv4 y Cb ((C.fn (Fn.func 70) [] [(W.c (C0.ptr dc.nxt 0)),(W.c (C0.ptr m.nxt 0))])) (fun i j M_=>zuV i j ({ tariffs:=a.1.tariffs,parts:=M_ }:Wk) c):=by
   intro f' m' i j M_ r Q hs hpre  hMc hg hq;exact zxJ (t:=i) (u:=j) (w:=({ tariffs:=a.1.tariffs,parts:=M_ }:Wk)) (c:=c) hpre ((ma.sub h.fs).sub hs) ((O.sub (Sub.trans (Sub.trans (Sub.trans d.fs e.fs) g.fs) h.fs)).sub hs) hMc (na.sub hs) hg hq
  obtain⟨ia,Eb,hp⟩:=zrB hp;refine zxK (l:=aa) (cmp:=(fun i j M_=>zuV i j ({ tariffs:=a.1.tariffs,parts:=M_ }:Wk) c)) (Mp:=a.1.parts) D.pre (ba.sub (Sub.trans g.fs h.fs)) (ha.mc D) oa Eb fun Ac Fb pa=>?_;obtain⟨Gb,Hb,oc⟩:=D.callM ha Fb pa;have Ib:=Db.k Hb;refine⟨_,_,rfl,?_⟩;obtain⟨Jb,Kb,Mb,pc,Nb⟩:=Ib.sto Gb [Il ia.1.Day,Il ia.1.Count];refine⟨Jb,Kb,?_⟩;refine⟨_,_,Nb.bk.ra,?_⟩;obtain rfl:=oi hp;exact hq _ Mb.ext'
 obtain⟨qc,Ob,n,qa⟩:=fa.freeze ca;have Pb:=da.k n;have Qb:=ea.k n;have Rb:=ga.k n;obtain⟨Sb,F,o,sa⟩:=Pb.freeze Ob;have Tb:=Qb.k o;have ja:=Rb.k o
 have ta:zv4 y Sb ((C.fn (Fn.func 70) [] [(W.c (C0.ptr dc.nxt 0)),(W.c (C0.ptr m.nxt 0))])) (fun p q M_=>zuV p q ({ tariffs:=a.1.tariffs,parts:=M_ }:Wk) c):=by
  intro f' m' p q M_ r Q hs hpre  hMc hg hq;exact zxJ (t:=p) (u:=q) (w:=({ tariffs:=a.1.tariffs,parts:=M_ }:Wk)) (c:=c) hpre ((qa.sub o.fs).sub hs) ((O.sub (Sub.trans (Sub.trans (Sub.trans d.fs e.fs) n.fs) o.fs)).sub hs) hMc (sa.sub hs) hg hq
 obtain⟨ka,Ub,hp⟩:=zrB hp;refine zxL (l:=aa) (cmp:=(fun p q M_=>zuV p q ({ tariffs:=a.1.tariffs,parts:=M_ }:Wk) c)) (Mp:=a.1.parts) F.pre (ba.sub (Sub.trans n.fs o.fs)) (ja.mc F) ta Ub fun Bc Vb ua=>?_;obtain⟨Wb,Xb,sc⟩:=F.callM ja Vb ua;have Yb:=Tb.k Xb;refine⟨_,_,rfl,?_⟩;obtain⟨Zb,ac,bc,tc,cc⟩:=Yb.sto Wb [Il ka.1.Day,Il ka.1.Count];refine⟨Zb,ac,?_⟩;refine⟨_,_,cc.bk.ra,?_⟩;obtain rfl:=oi hp;exact hq _ bc.ext'
theorem zxN{l:List Tf}{c:Clm}{ca100:C}{m f:M}{Q:V->M->Prop}{rz:Rg × Int}(hS:Pre f m)(ha100:Sl f ca100 l)(hp:zu1 l c=some rz)(hq:∀m',Ext m m'->Q (.tup [.agg 2 [Il rz.1.Lo,Il rz.1.Hi],.c (Il rz.2)]) m'):Wc prog tbl 32 [.c ca100,.agg 6 [Il c.Crop,Il c.Value,Il c.Day.Lo,Il c.Day.Hi,Il c.Count.Lo,Il c.Count.Hi]] m Q:=by
 have S0:=hS.st;obtain⟨τ0,_⟩:=zsO;refine w32 ?_;unfold zu1 at hp;intro m0 u;obtain⟨y,z,Ma,A⟩:=S0.blk u τ0 1;intro m1 B;obtain⟨D,F,G,I⟩:=z.blk B y 2;have h:=A.k G;refine⟨_,_,_,_,_,_,h.bk.ra,?_⟩;intro m8 J;obtain⟨N,O,i,P⟩:=F.blk J D 3;have S:=h.k i;have T:=I.k i;obtain⟨j,n,d,s⟩:=P.freeze O;have Y:=S.k d;have Z:=T.k d;have aa:Sl j (C.sl m1.nxt 0 1 0 (Option.some 1)) ([c]:List Clm):=Bk.sl (α:=Clm) (l:=([c]:List Clm)) s (show Cat (α:=Clm) j [Il c.Crop,Il c.Value,Il c.Day.Lo,Il c.Day.Hi,Il c.Count.Lo,Il c.Count.Hi] ([c]:List Clm) from ⟨[Il c.Crop,Il c.Value,Il c.Day.Lo,Il c.Day.Hi,Il c.Count.Lo,Il c.Count.Hi],_,rfl,rfl,rfl⟩) rfl rfl _;obtain⟨ba,ca,hp⟩:=zrB hp;refine zxB (l:=l) (claims:=([c]:List Clm)) n.pre (ha100.sub d.fs) aa ca fun Va Na da ea fa ga ha=>?_;obtain⟨ia,ja,o,ka⟩:=n.callN fa ha N 4;have la:=Y.k o;have ma:=Z.k o;refine⟨_,_,_,rfl,?_⟩;intro Wa na;obtain⟨Oa,oa,e,pa⟩:=ja.blk na ia 5;have qa:=la.k e;have sa:=ma.k e;have ta:=ka.k e;obtain⟨ua,va,a,g,wa⟩:=pa.sto oa [da,ea];have xa:=qa.k g;have p:=sa.k g;have q:=ta.k g;refine⟨ua,va,?_⟩;refine zr9 hp (fun ya hp=>?_) fun ya hp=>?_
 ·obtain⟨za,Aa,Ba,Pa,Ca⟩:=p.sto a [Il 0,Il 0];refine⟨za,Aa,?_⟩;refine⟨_,_,Ca.bk.ra,?_⟩;obtain rfl:=oi hp;exact hq _ Ba.ext'
 refine⟨_,_,wa.bk.ra,_,_,_,_,_,_,xa.bk.ra,?_⟩;obtain⟨r,Da,hp⟩:=zrB hp;refine zxI (w:=ba.1) (c:=c) a.pre ga (q.mc a) Da fun Xa Ea t=>?_;obtain⟨Fa,Ga,Qa⟩:=a.callM q Ea t;have Ha:=p.k Ga;refine⟨_,_,rfl,?_⟩;obtain⟨Ia,Ja,Ka,Ra,La⟩:=Ha.sto Fa [Il r.1.Lo,Il r.1.Hi];refine⟨Ia,Ja,?_⟩;refine⟨_,_,La.bk.ra,?_⟩;obtain rfl:=oi hp;exact hq _ Ka.ext'
theorem zxO{l:List Tf}{c:Clm}{ca100:C}{m f:M}{Q:V->M->Prop}{rz:Int × Int}(hS:Pre f m)(ha100:Sl f ca100 l)(hp:zu2 l c=some rz)(hq:∀m',Ext m m'->Q (.tup [.c (Il rz.1),.c (Il rz.2)]) m'):Wc prog tbl 34 [.c ca100,.agg 6 [Il c.Crop,Il c.Value,Il c.Day.Lo,Il c.Day.Hi,Il c.Count.Lo,Il c.Count.Hi]] m Q:=by
 have I:=hS.st;obtain⟨J,_⟩:=zsO;refine w34 ?_;unfold zu2 at hp;intro O i;obtain⟨d,e,A,j⟩:=I.blk i J 1;refine⟨_,_,_,_,_,_,j.bk.ra,?_⟩;obtain⟨g,n,hp⟩:=zrB hp;refine zxN (l:=l) (c:=c) e.pre ha100 n fun P o=>?_;obtain⟨p,B⟩:=e.call o d;refine⟨_,_,_,rfl,?_⟩;intro N q;obtain⟨D,r,F,s⟩:=p.blk q d 2;obtain⟨t,u,a,G,h⟩:=s.sto r [Il g.1.Lo,Il g.1.Hi];refine⟨t,u,?_⟩;refine zr9 hp (fun w hp=>?_) fun w hp=>?_
 ·obtain rfl:=oi hp;exact hq _ a.ext'
 refine⟨trivial,_,h.bk.rc rfl,?_⟩;refine ifd hp (fun y hp=>?_) fun y hp=>?_
 ·obtain rfl:=oi hp;exact hq _ a.ext'
 refine⟨trivial,_,h.bk.rc rfl,?_⟩;refine ifd hp (fun z hp=>?_) fun z hp=>?_
 ·obtain rfl:=oi hp;exact hq _ a.ext'
 obtain rfl:=oi hp;exact hq _ a.ext'
theorem zxP{l:List Tf}{claims:List Clm}{ca100 ca200:C}{m f:M}{Q:V->M->Prop}{rz:Rg × Int}(hS:Pre f m)(ha100:Sl f ca100 l)(ha200:Sl f ca200 claims)(hp:zu4 l claims=some rz)(hq:∀m',Ext m m'->Q (.tup [.agg 2 [Il rz.1.Lo,Il rz.1.Hi],.c (Il rz.2)]) m'):Wc prog tbl 39 [.c ca100,.c ca200] m Q:=by
 have S0:=hS.st;obtain⟨τ0,_⟩:=zsO;refine w39 ?_;unfold zu4 at hp;intro m0 na;obtain⟨oa,T,bc,pa⟩:=S0.blk na τ0 1;obtain⟨Y,qa,hp⟩:=zrB hp;refine zxB (l:=l) (claims:=claims) T.pre ha100 ha200 qa fun m2 i Z F sa ta ua=>?_;obtain⟨va,wa,aa,xa⟩:=T.callN sa ua oa 2;have ya:=pa.k aa;refine⟨_,_,_,rfl,?_⟩;intro m6 za;obtain⟨Aa,Ba,ba,Ca⟩:=wa.blk za va 3;have Da:=ya.k ba;have Ea:=xa.k ba;obtain⟨ca,Fa,da,ea,Ga⟩:=Ca.sto Ba [Z,F];have fa:=Da.k ea;have Ha:=Ea.k ea;refine⟨ca,Fa,?_⟩;refine zr9 hp (fun Ia hp=>?_) fun Ia hp=>?_
 ·obtain⟨Ja,Ka,La,cc,Ma⟩:=fa.sto da [Il 0,Il 0];refine⟨Ja,Ka,?_⟩;refine⟨_,_,Ma.bk.ra,?_⟩;obtain rfl:=oi hp;exact hq _ La.ext'
 intro hc Na;obtain⟨Oa,Pa,G,j⟩:=da.blk Na Aa 4;have n:=fa.k G;have q:=Ga.k G;have r:=Ha.k G;refine⟨ha200.isSl,?_⟩;intro Zb Yb
 have hgo:∀(s:Nat) (ga:Int) (a:Int) (d:Int) (o:Option (Ht->Option (Int))) (p:M) (e:Nat->Nat),St (Fm.of m) f i p->Lb (Fm.of m) i e p 1 m.nxt 2 [Il 0,Il 0]->Lb (Fm.of m) i e p 3 m2.nxt 2 [Z,F]->Lb (Fm.of m) i e p 4 ca.nxt 2 [Il a,Il d]->Mo (Fm.of m) i e p 2 F o->zu3 claims Y s a d o ga=some rz->Zb [.c (Il ga)] p:=by
  intro s
  induction s with
  | zero=>intro ga a d o p e t n q j r hp; cases hp
  | succ s Qa=>
   intro ga a d o p e t n q j r hp;refine Yb _ _ ?_;rw[zu3] at hp
   try rw[ha200.slLen]
   refine ifd hp (fun Ra hp=>?_) fun Ra hp=>?_; rotate_left
   ·refine⟨_,_,j.bk.ra,?_⟩;obtain⟨Sa,Ta,Ua,dc,Va⟩:=n.sto t [Il a,Il d];refine⟨Sa,Ta,?_⟩;refine⟨_,_,Va.bk.ra,?_⟩;obtain rfl:=oi hp;exact hq _ Ua.ext'
   obtain⟨g,I,hp⟩:=zrB hp;obtain⟨ac,la,S,I⟩:=zrv I;obtain⟨_,Wa⟩:=zsT ha200 I;refine⟨ac,la,(by first|exact S|(rw[ha200.slLen];exact S)),_,_,_,_,_,_,(Wa _ (Sub.trans aa.fs t.sub)).1,?_⟩;intro ic Xa;obtain⟨Ya,Za,u,ab⟩:=t.blk Xa e 5;have bb:=n.k u;have cb:=q.k u;have db:=j.k u;have eb:=r.k u;obtain⟨fb,gb,J,y,hb⟩:=ab.sto Za [Il g.Crop,Il g.Value,Il g.Day.Lo,Il g.Day.Hi,Il g.Count.Lo,Il g.Count.Hi];have ib:=bb.k y;have ha:=cb.k y;have jb:=db.k y;have ia:=eb.k y;refine⟨fb,gb,?_⟩;refine⟨_,_,ha.bk.ra,_,_,_,_,_,_,hb.bk.ra,?_⟩;obtain⟨h,kb,hp⟩:=zrB hp;refine zxI (w:=({ tariffs:=Y.1.tariffs,parts:=o }:Wk)) (c:=g) J.pre ta (ia.mc J) kb fun jc mb ma=>?_;obtain⟨ob,N,pb⟩:=J.callM ia mb ma;have qb:=ib.k N;have rb:=ha.k N;have sb:=jb.k N;refine⟨_,_,rfl,?_⟩;intro kc tb;obtain⟨ub,vb,z,wb⟩:=ob.blk tb Ya 6;have xb:=qb.k z;have yb:=rb.k z;have zb:=sb.k z;have Ab:=pb.k z;obtain⟨Bb,Cb,Db,A,ja⟩:=wb.sto vb [Il h.1.Lo,Il h.1.Hi];have Eb:=xb.k A;have Fb:=yb.k A;have ka:=zb.k A;have Gb:=Ab.k A;refine⟨Bb,Cb,?_⟩;refine⟨trivial,_,ka.bk.rc rfl,trivial,_,ja.bk.rc rfl,?_⟩;obtain⟨Hb,hp⟩:=zrC hp;refine⟨Hb,trivial,?_⟩;obtain⟨Ib,Jb,Kb,B,D⟩:=ka.sto1 Db 0 (Il (a+h.1.Lo)) (by simp) rfl
   replace D:Lb _ _ _ _ _ _ _ [(Il (a+h.1.Lo)),Il d]:=D
   have Mb:=Eb.k B;have Nb:=Fb.k B;have Ob:=ja.k B;have Pb:=Gb.k B;refine⟨Ib,Jb,?_⟩;refine⟨trivial,_,D.bk.rc rfl,trivial,_,Ob.bk.rc rfl,?_⟩;obtain⟨Qb,hp⟩:=zrC hp;refine⟨Qb,trivial,?_⟩;obtain⟨Rb,Sb,Tb,O,P⟩:=D.sto1 Kb 1 (Il (d+h.1.Hi)) (by simp) rfl
   replace P:Lb _ _ _ _ _ _ _ [(Il (a+h.1.Lo)),(Il (d+h.1.Hi))]:=P
   have Ub:=Mb.k O;have Vb:=Nb.k O;have Wb:=Pb.k O;refine⟨Rb,Sb,?_⟩;refine gdi hp fun Xb hp=>?_;exact Qa _ _ _ _ _ ub Tb Ub Vb P Wb hp
 exact hgo _ _ _ _ _ _ Oa Pa n q j r hp
theorem zxQ{l:List Tf}{crop:Int}{day:Int}{count:Int}{ca100:C}{m f:M}{Q:V->M->Prop}{rz:Int × Int}(hS:Pre f m)(ha100:Sl f ca100 l)(hp:zu5 l crop day count=some rz)(hq:∀m',Ext m m'->Q (.tup [.c (Il rz.1),.c (Il rz.2)]) m'):Wc prog tbl 18 [.c ca100,.c (Il crop),.c (Il day),.c (Il count)] m Q:=by
 have S0:=hS.st;obtain⟨τ0,_⟩:=zsO;refine w18 ?_;unfold zu5 at hp;obtain⟨j,y,hp⟩:=zrB hp;refine zxA (l:=l) S0.pre ha100 y fun m1 va z A B o D=>?_;obtain⟨F,G,wa,I⟩:=S0.callN B D τ0 1;refine⟨_,_,_,rfl,?_⟩;intro m5 J;obtain⟨d,N,O,P⟩:=G.blk J F 2;have S:=I.k O;obtain⟨T,Y,e,Z,p⟩:=P.sto N [z,A];have aa:=S.k Z;refine⟨T,Y,?_⟩;refine zr9 hp (fun ba hp=>?_) fun ba hp=>?_
 ·obtain rfl:=oi hp;exact hq _ e.ext'
 refine⟨trivial,_,p.bk.rc rfl,?_⟩;obtain⟨xa,ca,hp⟩:=zrB hp;refine zwP (l:=j.1.tariffs) (n:=crop) e.pre o ca fun m9 da=>?_;obtain⟨g,q⟩:=e.call da d;have ea:=p.k q;have fa:=aa.k q;refine⟨_,rfl,?_⟩;refine zsb hp (fun ga hp=>?_) fun ga hp=>?_
 ·obtain rfl:=oi hp;exact hq _ g.ext'
 obtain⟨ya,ha,hp⟩:=zrB hp;refine zwI (n:=day) g.pre  ha fun Ea ia=>?_;obtain⟨i,r⟩:=g.call ia d;have ja:=ea.k r;have ka:=fa.k r;refine⟨_,rfl,?_⟩;refine zsb hp (fun la hp=>?_) fun la hp=>?_
 ·obtain rfl:=oi hp;exact hq _ i.ext'
 obtain⟨za,ma,hp⟩:=zrB hp;refine zwJ (n:=count) i.pre  ma fun Fa na=>?_;obtain⟨a,s⟩:=i.call na d;have oa:=ja.k s;have t:=ka.k s;refine⟨_,rfl,?_⟩;refine zsb hp (fun pa hp=>?_) fun pa hp=>?_
 ·obtain rfl:=oi hp;exact hq _ a.ext'
 refine⟨_,_,oa.bk.ra,?_⟩;obtain⟨Aa,qa,hp⟩:=zrB hp;refine zxC (w:=j.1) (h:=({ Day:=day,Count:=count,crop:=crop }:Ht)) a.pre o (t.mc a) qa fun Ga sa u=>?_;obtain⟨ta,Ba,Ca⟩:=a.callM t sa u;refine⟨_,rfl,?_⟩;obtain rfl:=oi hp;exact hq _ ta.ext'
theorem zxR{l:List Tf}{c:Clm}{t:Tr}{ca100:C}{m f:M}{Q:V->M->Prop}{rz:Int × Int}(hS:Pre f m)(ha100:Sl f ca100 l)(hp:zu6 l c t=some rz)(hq:∀m',Ext m m'->Q (.tup [.c (Il rz.1),.c (Il rz.2)]) m'):Wc prog tbl 25 [.c ca100,.agg 6 [Il c.Crop,Il c.Value,Il c.Day.Lo,Il c.Day.Hi,Il c.Count.Lo,Il c.Count.Hi],.agg 2 [Il t.Day,Il t.Count]] m Q:=by
 have S0:=hS.st;obtain⟨τ0,_⟩:=zsO;refine w25 ?_;unfold zu6 at hp;intro m0 A;obtain⟨B,D,Ma,F⟩:=S0.blk A τ0 1;intro m1 G;obtain⟨I,J,N,O⟩:=D.blk G B 2;have j:=F.k N;refine⟨_,_,_,_,_,_,j.bk.ra,?_⟩;intro m8 P;obtain⟨S,T,n,Y⟩:=J.blk P I 3;have Z:=j.k n;have aa:=O.k n;obtain⟨o,p,e,y⟩:=Y.freeze T;have ba:=Z.k e;have ca:=aa.k e;have da:Sl o (C.sl m1.nxt 0 1 0 (Option.some 1)) ([c]:List Clm):=Bk.sl (α:=Clm) (l:=([c]:List Clm)) y (show Cat (α:=Clm) o [Il c.Crop,Il c.Value,Il c.Day.Lo,Il c.Day.Hi,Il c.Count.Lo,Il c.Count.Hi] ([c]:List Clm) from ⟨[Il c.Crop,Il c.Value,Il c.Day.Lo,Il c.Day.Hi,Il c.Count.Lo,Il c.Count.Hi],_,rfl,rfl,rfl⟩) rfl rfl _;obtain⟨ea,fa,hp⟩:=zrB hp;refine zxB (l:=l) (claims:=([c]:List Clm)) p.pre (ha100.sub e.fs) da fa fun Va Na ga ha ia ja ka=>?_;obtain⟨la,ma,q,na⟩:=p.callN ia ka S 4;have oa:=ba.k q;have pa:=ca.k q;refine⟨_,_,_,rfl,?_⟩;intro Wa qa;obtain⟨sa,ta,g,ua⟩:=ma.blk qa la 5;have va:=oa.k g;have wa:=pa.k g;have xa:=na.k g;obtain⟨ya,za,h,i,Aa⟩:=ua.sto ta [ga,ha];have r:=va.k i;have s:=wa.k i;have Ba:=xa.k i;refine⟨ya,za,?_⟩;refine zr9 hp (fun Ca hp=>?_) fun Ca hp=>?_
 ·obtain rfl:=oi hp;exact hq _ h.ext'
 refine⟨_,_,_,_,_,_,r.bk.ra,_,_,s.bk.ra,?_⟩;obtain⟨Oa,Da,hp⟩:=zrB hp;refine zwR (c:=c) (t:=t) h.pre  Da fun Xa Ea=>?_;obtain⟨a,d⟩:=h.call Ea sa;have Fa:=r.k d;have Ga:=s.k d;have Ha:=Aa.k d;have u:=Ba.k d;refine⟨_,rfl,?_⟩;refine zsb hp (fun Ia hp=>?_) fun Ia hp=>?_
 ·obtain rfl:=oi hp;exact hq _ a.ext'
 refine⟨_,_,Ha.bk.ra,_,_,_,_,_,_,Fa.bk.ra,_,_,Ga.bk.ra,?_⟩;obtain⟨Pa,Ja,hp⟩:=zrB hp;refine zxD (w:=ea.1) (c:=c) (t:=t) a.pre ja (u.mc a) Ja fun Ya Ka z=>?_;obtain⟨La,Qa,Ra⟩:=a.callM u Ka z;refine⟨_,rfl,?_⟩;obtain rfl:=oi hp;exact hq _ La.ext'
theorem zxS{l:List Tf}{c:Clm}{t:Tr}{pence:Int}{ca100:C}{m f:M}{Q:V->M->Prop}{rz:Bool}(hS:Pre f m)(ha100:Sl f ca100 l)(hp:zu7 l c t pence=some rz)(hq:∀m',Ext m m'->Q (.c (.bool rz)) m'):Wc prog tbl 28 [.c ca100,.agg 6 [Il c.Crop,Il c.Value,Il c.Day.Lo,Il c.Day.Hi,Il c.Count.Lo,Il c.Count.Hi],.agg 2 [Il t.Day,Il t.Count],.c (Il pence)] m Q:=by
 have A:=hS.st;obtain⟨B,_⟩:=zsO;refine w28 ?_;unfold zu7 at hp;intro F e;obtain⟨g,h,w,i⟩:=A.blk e B 1;intro G j;obtain⟨n,a,o,p⟩:=h.blk j g 2;have q:=i.k o;refine⟨_,_,_,_,_,_,q.bk.ra,_,_,p.bk.ra,?_⟩;obtain⟨y,r,hp⟩:=zrB hp;refine zxR (l:=l) (c:=c) (t:=t) a.pre ha100 r fun D s=>?_;obtain⟨d,z⟩:=a.call s n;refine⟨_,_,rfl,?_⟩;refine ifd hp (fun u hp=>?_) fun u hp=>?_
 ·obtain rfl:=oi hp;exact hq _ d.ext'
 obtain rfl:=oi hp;exact hq _ d.ext'
theorem zxT{l:List Tf}{crop:Int}{day:Int}{ca100:C}{m f:M}{Q:V->M->Prop}{rz:Int × Int}(hS:Pre f m)(ha100:Sl f ca100 l)(hp:zu9 l crop day=some rz)(hq:∀m',Ext m m'->Q (.tup [.c (Il rz.1),.c (Il rz.2)]) m'):Wc prog tbl 38 [.c ca100,.c (Il crop),.c (Il day)] m Q:=by
 have S0:=hS.st;obtain⟨τ0,_⟩:=zsO;refine w38 ?_;unfold zu9 at hp;obtain⟨p,P,hp⟩:=zrB hp;refine zxA (l:=l) S0.pre ha100 P fun m1 q z r S A T=>?_;obtain⟨Y,Z,Ga,aa⟩:=S0.callN S T τ0 1;refine⟨_,_,_,rfl,?_⟩;intro m5 ba;obtain⟨s,ca,da,ea⟩:=Z.blk ba Y 2;have fa:=aa.k da;obtain⟨ga,ha,t,ia,B⟩:=ea.sto ca [z,r];have ja:=fa.k ia;refine⟨ga,ha,?_⟩;refine zr9 hp (fun ka hp=>?_) fun ka hp=>?_
 ·obtain rfl:=oi hp;exact hq _ t.ext'
 refine⟨trivial,_,B.bk.rc rfl,?_⟩;obtain⟨Ha,la,hp⟩:=zrB hp;refine zwP (l:=p.1.tariffs) (n:=crop) t.pre A la fun m9 ma=>?_;obtain⟨u,D⟩:=t.call ma s;have na:=B.k D;have oa:=ja.k D;refine⟨_,rfl,?_⟩;refine zsb hp (fun pa hp=>?_) fun pa hp=>?_
 ·obtain rfl:=oi hp;exact hq _ u.ext'
 obtain⟨Ia,qa,hp⟩:=zrB hp;refine zwI (n:=day) u.pre  qa fun Ma sa=>?_;obtain⟨F,G⟩:=u.call sa s;have a:=na.k G;have d:=oa.k G;refine⟨_,rfl,?_⟩;refine zsb hp (fun ta hp=>?_) fun ta hp=>?_
 ·obtain rfl:=oi hp;exact hq _ F.ext'
 intro Fa Da
 have hgo:∀(j:Nat) (J:Int) (N:Int) (y:Int) (e:Option (Ht->Option (Int))) (o:M) (g:Nat->Nat),St (Fm.of m) f q o->Lb (Fm.of m) q g o 2 m1.nxt 2 [z,r]->Mo (Fm.of m) q g o 1 r e->zu8 crop day p j e y=some rz->Fa [.c (Il J),.c (Il N),.c (Il y)] o:=by
  intro j
  induction j with
  | zero=>intro J N y e o g i a d hp; cases hp
  | succ j ua=>
   intro J N y e o g i a d hp;refine Da _ _ _ _ ?_;rw[zu8] at hp;refine ifd hp (fun va hp=>?_) fun va hp=>?_; rotate_left
   ·obtain rfl:=oi hp;exact hq _ i.ext'
   refine⟨_,_,a.bk.ra,?_⟩;obtain⟨Ja,wa,hp⟩:=zrB hp;refine zxC (w:=({ tariffs:=p.1.tariffs,parts:=e }:Wk)) (h:=({ Day:=day,Count:=y,crop:=crop }:Ht)) i.pre A (d.mc i) wa fun Na xa O=>?_;obtain⟨I,ya,za⟩:=i.callM d xa O;have Aa:=a.k ya;refine⟨_,rfl,?_⟩;refine ifd hp (fun Ba hp=>?_) fun Ba hp=>?_
   ·obtain rfl:=oi hp;exact hq _ I.ext'
   refine gdi hp fun Ca hp=>?_;exact ua _ _ _ _ _ g I Aa za hp
 exact hgo _ _ _ _ _ _ s F a d hp
theorem zxU{l:List Tf}{ca100:C}{m f:M}{Q:V->M->Prop}{rz:List Tf}(hS:Pre f m)(ha100:Sl f ca100 l)(hp:zvd l=some rz)(hq:∀m' f' c0,Grw m f m' f'->Sl f' c0 rz->Q (.c c0) m'):Wc prog tbl 19 [.c ca100] m Q:=by
 have S0:=hS.st;obtain⟨τ0,_⟩:=zsO;refine w19 ?_;unfold zvd at hp;intro R0 md
 have hgo:∀(B:Nat) (c1:C) (x2:Int) (u:List Tf) (m3:M) (N:M) (Y:Nat->Nat),St (Fm.of m) f N m3->Sub f N->Ow (Fm.of m) N Y m3 1 c1 u->zvc l B u x2=some rz->R0 [.c c1,.c (Il x2)] m3:=by
  intro B
  induction B with
  | zero=>intro c1 x2 u m3 N Y va d e hp; cases hp
  | succ B jd=>
   intro c1 x2 u m3 N Y va d e hp;refine md _ _ _ ?_;rw[zvc] at hp;refine⟨ha100.isSl,?_⟩
   try rw[ha100.slLen]
   refine ifd hp (fun zb hp=>?_) fun zb hp=>?_; rotate_left
   ·obtain⟨Ab,Bb,yd,Cb⟩:=e.freeze va;obtain rfl:=oi hp;exact hq _ Ab c1 Bb.grw Cb
   intro m4 Db;obtain⟨wa,z,Eb,mb⟩:=va.growK Db Y 2;have e:=e.k Eb;have Fb:=mb 0 (by decide);obtain⟨Gb,Z,hp⟩:=zrB hp;obtain⟨n5,ob,Ga,Z⟩:=zrv Z;obtain⟨zd,Ad,Bd,aa,Cd,Dd,Ed⟩:=zsR ha100 Z;refine⟨n5,ob,(by first|exact Ga|(rw[ha100.slLen];exact Ga)),(ha100.isPt Z _),_,((aa _ (Sub.trans d z.sub)).2.1 0 _ rfl),?_⟩;obtain⟨Hb,ba,hp⟩:=zrB hp;obtain⟨n7,pb,Ha,ba⟩:=zrv ba;obtain⟨Fd,Gd,Hd,ca,Id,Jd,Ld⟩:=zsR ha100 ba;refine⟨n7,pb,(by first|exact Ha|(rw[ha100.slLen];exact Ha)),(ha100.isPt ba _),_,((ca _ (Sub.trans d z.sub)).2.1 1 _ rfl),?_⟩;obtain⟨Ib,da,hp⟩:=zrB hp;obtain⟨n9,qb,Ia,da⟩:=zrv da;obtain⟨Md,Nd,Od,ea,Pd,Qd,Rd⟩:=zsR ha100 da;refine⟨n9,qb,(by first|exact Ia|(rw[ha100.slLen];exact Ia)),(ha100.isPt da _),_,((ea _ (Sub.trans d z.sub)).2.1 2 _ rfl),?_⟩;obtain⟨Jb,fa,hp⟩:=zrB hp;obtain⟨nd,rb,Ja,fa⟩:=zrv fa;obtain⟨Sd,Td,Ud,Va,Wa,Vd,Wd⟩:=zsR ha100 fa;refine⟨nd,rb,(by first|exact Ja|(rw[ha100.slLen];exact Ja)),(ha100.isPt fa _),_,((Va _ (Sub.trans d z.sub)).2.1 3 _ rfl),?_⟩;obtain⟨ga,Kb,hp⟩:=zrB hp;refine zwx (l:=Jb.Weeks) z.pre (Wa.sub d) Kb fun Ke Xd ha Mb Nb=>?_;obtain⟨D,g⟩:=z.callG Mb wa;have Ob:=Fb.k g;have e:=e.k g;refine⟨_,rfl,((ea _ (Sub.trans (Sub.trans d g.fs) D.sub)).2.1 2 _ rfl),((ca _ (Sub.trans (Sub.trans d g.fs) D.sub)).2.1 1 _ rfl),((aa _ (Sub.trans (Sub.trans d g.fs) D.sub)).2.1 0 _ rfl),?_⟩;obtain⟨Pb,ia,hp⟩:=zrB hp;obtain⟨od,sb,Ka,ia⟩:=zrv ia;obtain⟨Yd,Zd,ae,xa,be,ya,ce⟩:=zsR ha100 ia;refine⟨od,sb,(by first|exact Ka|(rw[ha100.slLen];exact Ka)),(ha100.isPt ia _),_,((xa _ (Sub.trans (Sub.trans d g.fs) D.sub)).2.1 4 _ rfl),(by rw[show cmC _=true from zp8 (ya.noFn)]; exact((xa _ (Sub.trans d z.sub)).2.1 4 _ rfl)),?_⟩
   obtain⟨ja,Qb,hp⟩:=zrB hp;refine zwx (l:=Pb.Counts) D.pre (ya.sub (Sub.trans d g.fs)) Qb fun Me Xa ka Rb Sb=>?_;obtain⟨la,h⟩:=D.callG Rb wa;have Tb:=Ob.k h;have e:=e.k h;refine⟨_,rfl,((ea _ (Sub.trans (Sub.trans (Sub.trans d g.fs) h.fs) la.sub)).2.1 2 _ rfl),((ca _ (Sub.trans (Sub.trans (Sub.trans d g.fs) h.fs) la.sub)).2.1 1 _ rfl),((aa _ (Sub.trans (Sub.trans (Sub.trans d g.fs) h.fs) la.sub)).2.1 0 _ rfl),?_⟩;intro Ne Ub;obtain⟨F,Vb,Wb⟩:=Tb.set la Ub;have e:=e.k Vb;refine⟨(by rw[show cmC _=true from zp8 (ya.noFn)]; exact((xa _ (Sub.trans (Sub.trans (Sub.trans d g.fs) h.fs) F.sub)).2.1 4 _ rfl)),(by rw[show cmC _=true from zp8 (Wa.noFn)]; exact((Va _ (Sub.trans (Sub.trans (Sub.trans d g.fs) h.fs) F.sub)).2.1 3 _ rfl)),((ea _ (Sub.trans (Sub.trans (Sub.trans d g.fs) h.fs) F.sub)).2.1 2 _ rfl),((ca _ (Sub.trans (Sub.trans (Sub.trans d g.fs) h.fs) F.sub)).2.1 1 _ rfl),((aa _ (Sub.trans (Sub.trans (Sub.trans d g.fs) h.fs) F.sub)).2.1 0 _ rfl),?_⟩;obtain⟨Xb,Yb,Zb,ac,o⟩:=Wb.sto F [Il Gb.From,.bool Hb.Whole,Il Ib.Least,ha,ka,.sl0];have e:=e.k ac;refine⟨Xb,Yb,?_⟩;intro pd kd
   have hgo:∀(O:Nat) (La:Int) (G:C) (p:Int) (q:Bool) (r:Int) (w:List (List (List Int))) (ua:M) (s:M) (I:Nat->Nat),St (Fm.of m) f s ua->Sub Xa s->Lb (Fm.of m) s I ua 2 (m3.nxt+0) 6 [Il p,.bool q,Il r,ha,ka,G]->Ow (Fm.of m) s I ua 3 G w->Ow (Fm.of m) s I ua 1 c1 u->zvb l u x2 ga ja (zvc l B) O p q r w La=some rz->pd [.c (Il La)] ua:=by
    intro O
    induction O with
    | zero=>intro La G p q r w ua s I ma i o j e hp; cases hp
    | succ O bc=>
     intro La G p q r w ua s I ma i o j e hp;refine kd _ _ ?_;rw[zvb] at hp;obtain⟨de,na,hp⟩:=zrB hp;obtain⟨qd,tb,Ma,na⟩:=zrv na;obtain⟨ee,fe,ge,cc,he,ie,Ya⟩:=zsR ha100 na;refine⟨qd,tb,(by first|exact Ma|(rw[ha100.slLen];exact Ma)),(ha100.isPt na _),_,((cc _ (Sub.trans (Sub.trans (Sub.trans (Sub.trans d g.fs) h.fs) i) ma.sub)).2.1 5 _ rfl),Ya.isSl,?_⟩
     try rw[Ya.slLen]
     refine ifd hp (fun dc hp=>?_) fun dc hp=>?_; rotate_left
     ·refine⟨_,_,_,_,_,_,o.bk.ra,?_⟩;obtain⟨Za,ec,oa,fc⟩:=j.freeze ma;have e:=e.k oa;obtain⟨gc,hp⟩:=zrC hp;intro Oe hc;obtain⟨ic,jc,kc,nc,oc,je,pc⟩:=e.app' zv7 ec (a:=({ From:=p,Whole:=q,Least:=r,Weeks:=ga,Counts:=ja,Rates:=w }:Tf)) (show Rp.rep (α:=Tf) Za _ ({ From:=p,Whole:=q,Least:=r,Weeks:=ga,Counts:=ja,Rates:=w }:Tf) from ⟨_,_,_,rfl,(Nb.sub (Sub.trans (Sub.trans h.fs i) oa.fs)),(Sb.sub (Sub.trans i oa.fs)),fc⟩) gc hc;refine⟨ic,jc,nc,?_⟩;refine gdi hp fun qc hp=>?_;exact jd _ _ _ _ Za kc oc (Sub.trans (Sub.trans (Sub.trans (Sub.trans d g.fs) h.fs) i) oa.fs) pc hp
     intro sd ld
     have hgo:∀(pa:Nat) (ab:C) (bb:Int) (J:List (List Int)) (T:M) (y:M) (A:Nat->Nat),St (Fm.of m) f y T->Sub s y->Lb (Fm.of m) y A T 2 (m3.nxt+0) 6 [Il p,.bool q,Il r,ha,ka,G]->Ow (Fm.of m) y A T 4 ab J->Ow (Fm.of m) y A T 1 c1 u->Ow (Fm.of m) y A T 3 G w->zva l x2 p q r w La (zvb l u x2 ga ja (zvc l B) O) pa J bb=some rz->sd [.c ab,.c (Il bb)] T:=by
      intro pa
      induction pa with
      | zero=>intro ab bb J T y A t n o P e j hp; cases hp
      | succ pa sc=>
       intro ab bb J T y A t n o P e j hp;refine ld _ _ _ ?_;rw[zva] at hp;obtain⟨ke,qa,hp⟩:=zrB hp;obtain⟨td,ub,Na,qa⟩:=zrv qa;obtain⟨me,oe,pe,tc,qe,re,cb⟩:=zsR ha100 qa;refine⟨td,ub,(by first|exact Na|(rw[ha100.slLen];exact Na)),(ha100.isPt qa _),_,((tc _ (Sub.trans (Sub.trans (Sub.trans (Sub.trans (Sub.trans d g.fs) h.fs) i) n) t.sub)).2.1 5 _ rfl),?_⟩;obtain⟨se,za,hp⟩:=zrB hp;obtain⟨ud,vb,Oa,za⟩:=zrv za;obtain⟨te,uc,db⟩:=cb.rdS za;refine⟨ud,vb,(by first|exact Oa|(rw[cb.slLen];exact Oa)),_,(uc _ (Sub.trans (Sub.trans (Sub.trans (Sub.trans (Sub.trans d g.fs) h.fs) i) n) t.sub)),db.isSl,?_⟩
       try rw[db.slLen]
       refine ifd hp (fun vc hp=>?_) fun vc hp=>?_; rotate_left
       ·refine⟨trivial,_,o.bk.rc rfl,?_⟩;obtain⟨eb,wc,sa,xc⟩:=P.freeze t;have yc:=o.k sa;have e:=e.k sa;have j:=j.k sa;obtain⟨zc,hp⟩:=zrC hp;intro Pe Ac;obtain⟨Aa,Bc,Cc,Dc,Ec,fb,Ba⟩:=j.app' zwb wc (a:=J) (show Rp.rep (α:=List (List Int)) eb _ J from ⟨_,rfl,xc⟩) zc Ac;have Fc:=yc.k fb;have e:=e.k fb;refine⟨Aa,Bc,Dc,?_⟩;refine⟨trivial,?_⟩;obtain⟨Gc,Hc,Ic,gb,Ca⟩:=Fc.sto1 Ec 5 Aa (by simp) rfl
        replace Ca:Lb _ _ _ _ _ _ _ [Il p,.bool q,Il r,ha,ka,Aa]:=Ca
        have e:=e.k gb;have Ba:=Ba.k gb;refine⟨Gc,Hc,?_⟩;refine gdi hp fun Jc hp=>?_;exact bc _ _ _ _ _ _ _ eb Cc Ic (Sub.trans (Sub.trans i n) sa.fs) Ca Ba e hp
       obtain⟨ue,ta,hp⟩:=zrB hp;obtain⟨vd,wb,Pa,ta⟩:=zrv ta;obtain⟨ve,we,xe,Kc,ye,ze,hb⟩:=zsR ha100 ta;refine⟨vd,wb,(by first|exact Pa|(rw[ha100.slLen];exact Pa)),(ha100.isPt ta _),_,((Kc _ (Sub.trans (Sub.trans (Sub.trans (Sub.trans (Sub.trans d g.fs) h.fs) i) n) t.sub)).2.1 5 _ rfl),?_⟩;obtain⟨Ae,Da,hp⟩:=zrB hp;obtain⟨wd,xb,Qa,Da⟩:=zrv Da;obtain⟨Be,Nc,ib⟩:=hb.rdS Da;refine⟨wd,xb,(by first|exact Qa|(rw[hb.slLen];exact Qa)),_,(Nc _ (Sub.trans (Sub.trans (Sub.trans (Sub.trans (Sub.trans d g.fs) h.fs) i) n) t.sub)),?_⟩;obtain⟨Oc,Ea,hp⟩:=zrB hp;obtain⟨xd,yb,Ra,Ea⟩:=zrv Ea;obtain⟨Ce,Pc,Qc⟩:=ib.rdS Ea;refine⟨xd,yb,(by first|exact Ra|(rw[ib.slLen];exact Ra)),_,(Pc _ (Sub.trans (Sub.trans (Sub.trans (Sub.trans (Sub.trans d g.fs) h.fs) i) n) t.sub)),?_⟩;obtain⟨jb,Rc,hp⟩:=zrB hp;refine zwx (l:=Oc) t.pre (Qc.sub (Sub.trans (Sub.trans (Sub.trans (Sub.trans d g.fs) h.fs) i) n)) Rc fun Qe kb De Tc Uc=>?_;obtain⟨Vc,S⟩:=t.callG Tc A;have Xc:=o.k S;have e:=e.k S;have j:=j.k S;have P:=P.k S;refine⟨_,rfl,?_⟩;obtain⟨Yc,hp⟩:=zrC hp;intro Re Zc;obtain⟨ad,bd,cd,dd,ed,Fa,fd⟩:=P.app' zwc Vc (a:=jb) (show Rp.rep (α:=List Int) kb _ jb from ⟨_,rfl,Uc⟩) Yc Zc;have hd:=Xc.k Fa;have e:=e.k Fa;have j:=j.k Fa;refine⟨ad,bd,dd,?_⟩;refine gdi hp fun id hp=>?_;exact sc _ _ _ _ kb cd ed (Sub.trans n S.fs) hd fd e j hp
     exact hgo _ _ _ _ _ s I ma (Sub.refl _) o (Ow.nil _ _ _ _ _) e j hp
   exact hgo _ _ _ _ _ _ _ _ Xa wa Zb (Sub.refl _) o (Ow.nil _ _ _ _ _) e hp
 exact hgo _ _ _ _ _ f τ0 S0 (Sub.refl _) (Ow.nil _ _ _ _ _) hp
theorem zxV{l:List Tf}{crop:Int}{day:Int}{count:Int}{ca100:C}{m f:M}{Q:V->M->Prop}{rz:Bool}(hS:Pre f m)(ha100:Sl f ca100 l)(hp:zve l crop day count=some rz)(hq:∀m',Ext m m'->Q (.c (.bool rz)) m'):Wc prog tbl 3 [.c ca100,.c (Il crop),.c (Il day),.c (Il count)] m Q:=by
 have S0:=hS.st;obtain⟨e,_⟩:=zsO;refine w3 ?_;unfold zve at hp;obtain⟨Va,y,hp⟩:=zrB hp;refine zwz (l:=l) S0.pre ha100 y fun m1 z=>?_;obtain⟨i,Wa⟩:=S0.call z e;refine⟨_,rfl,?_⟩;refine zsb hp (fun A hp=>?_) fun A hp=>?_
 ·obtain⟨Xa,B,hp⟩:=zrB hp;refine zwe i.pre  B fun m4 D=>?_;obtain⟨F,Ya⟩:=i.call D e;refine⟨_,rfl,?_⟩;obtain rfl:=oi hp;exact hq _ F.ext'
 obtain⟨G,I,hp⟩:=zrB hp;refine zxU (l:=l) i.pre ha100 I fun m7 Za ab J N=>?_;obtain⟨q,j⟩:=i.callG J e;refine⟨_,rfl,?_⟩;obtain⟨bb,O,hp⟩:=zrB hp;refine zxQ (l:=G) (crop:=crop) (day:=day) (count:=count) q.pre N O fun Eb P=>?_;obtain⟨r,cb⟩:=q.call P e;refine⟨_,_,rfl,?_⟩;obtain⟨db,S,hp⟩:=zrB hp;refine zwA (l:=l) r.pre (ha100.sub j.fs) S fun Fb T=>?_;obtain⟨s,eb⟩:=r.call T e;refine⟨_,rfl,?_⟩;obtain⟨Y,Z,hp⟩:=zrB hp;refine zxU (l:=l) s.pre (ha100.sub j.fs) Z fun Gb fb gb aa ba=>?_;obtain⟨t,u⟩:=s.callG aa e;refine⟨_,rfl,?_⟩;obtain⟨hb,ca,hp⟩:=zrB hp;refine zxx (l:=Y) t.pre ba ca fun Hb da=>?_;obtain⟨a,ib⟩:=t.call da e;refine⟨_,rfl,?_⟩;refine zr9 hp (fun ea hp=>?_) fun ea hp=>?_
 ·obtain rfl:=oi hp;exact hq _ a.ext'
 refine ifd hp (fun o hp=>?_) fun o hp=>?_; rotate_left
 ·refine zsf o ?_;refine ifd hp (fun fa hp=>?_) fun fa hp=>?_; rotate_left
  ·obtain rfl:=oi hp;exact hq _ a.ext'
  refine ifd hp (fun ga hp=>?_) fun ga hp=>?_; rotate_left
  ·obtain rfl:=oi hp;exact hq _ a.ext'
  obtain⟨jb,ha,hp⟩:=zrB hp;refine zwe a.pre  ha fun Ib ia=>?_;obtain⟨ja,kb⟩:=a.call ia e;refine⟨_,rfl,?_⟩;obtain rfl:=oi hp;exact hq _ ja.ext'
 obtain⟨ka,la,hp⟩:=zrB hp;refine zwn (l:=l) a.pre (ha100.sub (Sub.trans j.fs u.fs)) la fun Jb ma=>?_;obtain⟨w,mb⟩:=a.call ma e;refine⟨_,rfl,?_⟩;refine gdi hp fun na hp=>?_;obtain⟨ob,oa,hp⟩:=zrB hp;refine zwf (n:=crop) (low:=(0:Int)) (high:=(ka - 1)) w.pre  oa fun Kb pa=>?_;obtain⟨g,pb⟩:=w.call pa e;refine⟨_,rfl,?_⟩;refine zsb hp (fun qa hp=>?_) fun qa hp=>?_
 ·refine ifd hp (fun sa hp=>?_) fun sa hp=>?_; rotate_left
  ·obtain rfl:=oi hp;exact hq _ g.ext'
  refine ifd hp (fun ta hp=>?_) fun ta hp=>?_; rotate_left
  ·obtain rfl:=oi hp;exact hq _ g.ext'
  obtain⟨qb,ua,hp⟩:=zrB hp;refine zwe g.pre  ua fun Mb va=>?_;obtain⟨wa,rb⟩:=g.call va e;refine⟨_,rfl,?_⟩;obtain rfl:=oi hp;exact hq _ wa.ext'
 obtain⟨sb,xa,hp⟩:=zrB hp;refine zwf (n:=day) (low:=(0:Int)) (high:=(120:Int)) g.pre  xa fun Nb ya=>?_;obtain⟨h,tb⟩:=g.call ya e;refine⟨_,rfl,?_⟩;refine zsb hp (fun za hp=>?_) fun za hp=>?_
 ·refine ifd hp (fun Aa hp=>?_) fun Aa hp=>?_; rotate_left
  ·obtain rfl:=oi hp;exact hq _ h.ext'
  refine ifd hp (fun Ba hp=>?_) fun Ba hp=>?_; rotate_left
  ·obtain rfl:=oi hp;exact hq _ h.ext'
  obtain⟨ub,Ca,hp⟩:=zrB hp;refine zwe h.pre  Ca fun Ob Da=>?_;obtain⟨Ea,vb⟩:=h.call Da e;refine⟨_,rfl,?_⟩;obtain rfl:=oi hp;exact hq _ Ea.ext'
 obtain⟨wb,Fa,hp⟩:=zrB hp;refine zwf (n:=count) (low:=(0:Int)) (high:=(100:Int)) h.pre  Fa fun Pb Ga=>?_;obtain⟨d,xb⟩:=h.call Ga e;refine⟨_,rfl,?_⟩;refine zsb hp (fun Ha hp=>?_) fun Ha hp=>?_
 ·refine ifd hp (fun Ia hp=>?_) fun Ia hp=>?_; rotate_left
  ·obtain rfl:=oi hp;exact hq _ d.ext'
  refine ifd hp (fun Ja hp=>?_) fun Ja hp=>?_; rotate_left
  ·obtain rfl:=oi hp;exact hq _ d.ext'
  obtain⟨yb,Ka,hp⟩:=zrB hp;refine zwe d.pre  Ka fun Qb La=>?_;obtain⟨Ma,zb⟩:=d.call La e;refine⟨_,rfl,?_⟩;obtain rfl:=oi hp;exact hq _ Ma.ext'
 refine zse o ?_;refine ifd hp (fun Na hp=>?_) fun Na hp=>?_; rotate_left
 ·obtain rfl:=oi hp;exact hq _ d.ext'
 obtain⟨Ab,Oa,hp⟩:=zrB hp;refine zwm (l:=l) (crop:=crop) (day:=day) (count:=count) d.pre (ha100.sub (Sub.trans j.fs u.fs)) Oa fun Rb Pa=>?_;obtain⟨p,Bb⟩:=d.call Pa e;refine⟨_,rfl,?_⟩;refine ifd hp (fun Qa hp=>?_) fun Qa hp=>?_; rotate_left
 ·obtain rfl:=oi hp;exact hq _ p.ext'
 obtain⟨Cb,Ra,hp⟩:=zrB hp;refine zwe p.pre  Ra fun Sb Sa=>?_;obtain⟨Ta,Db⟩:=p.call Sa e;refine⟨_,rfl,?_⟩;obtain rfl:=oi hp;exact hq _ Ta.ext'
theorem zxW{l:List Tf}{c:Clm}{t:Tr}{pence:Int}{ca100:C}{m f:M}{Q:V->M->Prop}{rz:Bool}(hS:Pre f m)(ha100:Sl f ca100 l)(hp:zvf l c t pence=some rz)(hq:∀m',Ext m m'->Q (.c (.bool rz)) m'):Wc prog tbl 4 [.c ca100,.agg 6 [Il c.Crop,Il c.Value,Il c.Day.Lo,Il c.Day.Hi,Il c.Count.Lo,Il c.Count.Hi],.agg 2 [Il t.Day,Il t.Count],.c (Il pence)] m Q:=by
 have S0:=hS.st;obtain⟨τ0,_⟩:=zsO;refine w4 ?_;unfold zvf at hp;intro m0 ia;obtain⟨ja,ka,Fb,la⟩:=S0.blk ia τ0 1;intro m1 ma;obtain⟨a,o,na,oa⟩:=ka.blk ma ja 2;have pa:=la.k na;obtain⟨Gb,qa,hp⟩:=zrB hp;refine zwz (l:=l) o.pre ha100 qa fun m3 sa=>?_;obtain⟨i,p⟩:=o.call sa a;have q:=pa.k p;have r:=oa.k p;refine⟨_,rfl,?_⟩;refine zsb hp (fun ta hp=>?_) fun ta hp=>?_
 ·obtain⟨Hb,ua,hp⟩:=zrB hp;refine zwe i.pre  ua fun m6 va=>?_;obtain⟨wa,Ib⟩:=i.call va a;refine⟨_,rfl,?_⟩;obtain rfl:=oi hp;exact hq _ wa.ext'
 obtain⟨xa,ya,hp⟩:=zrB hp;refine zxU (l:=l) i.pre ha100 ya fun m9 Jb Kb za Aa=>?_;obtain⟨s,g⟩:=i.callG za a;have u:=q.k g;have w:=r.k g;refine⟨_,rfl,_,_,_,_,_,_,u.bk.ra,(q.bk.ra),?_⟩;obtain⟨Ba,Ca,hp⟩:=zrB hp;refine zwv (c:=c) s.pre  Ca fun dc Da=>?_;obtain⟨y,z⟩:=s.call Da a;have Ea:=u.k z;have A:=w.k z;refine⟨_,_,_,_,_,_,rfl,_,_,A.bk.ra,(w.bk.ra),(r.bk.ra),?_⟩;obtain⟨Fa,Ga,hp⟩:=zrB hp;refine zww (t:=t) y.pre  Ga fun ec Ha=>?_;obtain⟨B,D⟩:=y.call Ha a;have Ia:=Ea.k D;have Ja:=A.k D;refine⟨_,_,rfl,?_⟩;obtain⟨Mb,Ka,hp⟩:=zrB hp;refine zxR (l:=xa) (c:=Ba) (t:=Fa) B.pre Aa Ka fun fc La=>?_;obtain⟨F,G⟩:=B.call La a;have I:=Ia.k G;have J:=Ja.k G;refine⟨_,_,rfl,?_⟩;obtain⟨Ma,Na,hp⟩:=zrB hp;refine zxU (l:=l) F.pre (ha100.sub g.fs) Na fun gc Nb Ob Oa Pa=>?_;obtain⟨N,j⟩:=F.callG Oa a;have O:=I.k j;have P:=J.k j;refine⟨_,rfl,_,_,_,_,_,_,O.bk.ra,(I.bk.ra),?_⟩;obtain⟨Qa,Ra,hp⟩:=zrB hp;refine zwv (c:=c) N.pre  Ra fun hc Sa=>?_;obtain⟨S,T⟩:=N.call Sa a;have Ta:=O.k T;have Y:=P.k T;refine⟨_,_,_,_,_,_,rfl,_,_,Y.bk.ra,(P.bk.ra),(J.bk.ra),?_⟩;obtain⟨Ua,Va,hp⟩:=zrB hp;refine zww (t:=t) S.pre  Va fun ic Wa=>?_;obtain⟨Z,aa⟩:=S.call Wa a;have Xa:=Ta.k aa;have Ya:=Y.k aa;refine⟨_,_,rfl,?_⟩;obtain⟨Pb,Za,hp⟩:=zrB hp;refine zxS (l:=Ma) (c:=Qa) (t:=Ua) (pence:=pence) Z.pre Pa Za fun jc ab=>?_;obtain⟨ba,ca⟩:=Z.call ab a;have da:=Xa.k ca;have bb:=Ya.k ca;refine⟨_,rfl,_,_,_,_,_,_,da.bk.ra,?_⟩;obtain⟨Qb,cb,hp⟩:=zrB hp;refine zwB (l:=l) (c:=c) ba.pre (ha100.sub (Sub.trans g.fs j.fs)) cb fun kc db=>?_
 obtain⟨d,ea⟩:=ba.call db a;have fa:=da.k ea;have ga:=bb.k ea;refine⟨_,rfl,?_⟩;refine ifd hp (fun n hp=>?_) fun n hp=>?_; rotate_left
 ·refine zsf n ?_;refine ifd hp (fun eb hp=>?_) fun eb hp=>?_; rotate_left
  ·obtain rfl:=oi hp;exact hq _ d.ext'
  refine ifd hp (fun fb hp=>?_) fun fb hp=>?_; rotate_left
  ·obtain rfl:=oi hp;exact hq _ d.ext'
  refine zsb hp (fun gb hp=>?_) fun gb hp=>?_; rotate_left
  ·obtain rfl:=oi hp;exact hq _ d.ext'
  obtain⟨Rb,hb,hp⟩:=zrB hp;refine zwe d.pre  hb fun cc ib=>?_;obtain⟨jb,Sb⟩:=d.call ib a;refine⟨_,rfl,?_⟩;obtain rfl:=oi hp;exact hq _ jb.ext'
 refine⟨_,_,_,_,_,_,fa.bk.ra,_,_,ga.bk.ra,?_⟩;obtain⟨Tb,kb,hp⟩:=zrB hp;refine zwp (c:=c) (t:=t) d.pre  kb fun nc mb=>?_;obtain⟨e,ha⟩:=d.call mb a;have ob:=fa.k ha;have pb:=ga.k ha;refine⟨_,rfl,?_⟩;refine zsb hp (fun qb hp=>?_) fun qb hp=>?_
 ·refine ifd hp (fun rb hp=>?_) fun rb hp=>?_; rotate_left
  ·obtain rfl:=oi hp;exact hq _ e.ext'
  refine ifd hp (fun sb hp=>?_) fun sb hp=>?_; rotate_left
  ·obtain rfl:=oi hp;exact hq _ e.ext'
  refine zsb hp (fun tb hp=>?_) fun tb hp=>?_; rotate_left
  ·obtain rfl:=oi hp;exact hq _ e.ext'
  obtain⟨Ub,ub,hp⟩:=zrB hp;refine zwe e.pre  ub fun oc vb=>?_;obtain⟨wb,Vb⟩:=e.call vb a;refine⟨_,rfl,?_⟩;obtain rfl:=oi hp;exact hq _ wb.ext'
 refine zse n ?_;refine⟨_,_,_,_,_,_,ob.bk.ra,_,_,pb.bk.ra,?_⟩;obtain⟨Wb,xb,hp⟩:=zrB hp;refine zwq (l:=l) (c:=c) (t:=t) e.pre (ha100.sub (Sub.trans g.fs j.fs)) xb fun pc yb=>?_;obtain⟨h,Xb⟩:=e.call yb a;refine⟨_,rfl,?_⟩;refine ifd hp (fun zb hp=>?_) fun zb hp=>?_; rotate_left
 ·obtain rfl:=oi hp;exact hq _ h.ext'
 refine ifd hp (fun Ab hp=>?_) fun Ab hp=>?_; rotate_left
 ·obtain rfl:=oi hp;exact hq _ h.ext'
 refine zsa hp (fun Bb hp=>?_) fun Bb hp=>?_; rotate_left
 ·obtain rfl:=oi hp;exact hq _ h.ext'
 obtain⟨Yb,Cb,hp⟩:=zrB hp;refine zwe h.pre  Cb fun qc Db=>?_;obtain⟨Eb,Zb⟩:=h.call Db a;refine⟨_,rfl,?_⟩;obtain rfl:=oi hp;exact hq _ Eb.ext'
theorem zxX{l:List Tf}{crop:Int}{day:Int}{count:Int}{ca100:C}{m f:M}{Q:V->M->Prop}{rz:Bool}(hS:Pre f m)(ha100:Sl f ca100 l)(hp:zvg l crop day count=some rz)(hq:∀m',Ext m m'->Q (.c (.bool rz)) m'):Wc prog tbl 9 [.c ca100,.c (.int .u8 crop),.c (.int .u8 day),.c (.int .u8 count)] m Q:=by
 have S0:=hS.st;obtain⟨A,_⟩:=zsO;refine w9 ?_;unfold zvg at hp;obtain⟨Ra,B,hp⟩:=zrB hp;refine zwC (l:=l) S0.pre ha100 B fun m1 D=>?_;obtain⟨a,Sa⟩:=S0.call D A;refine⟨_,rfl,?_⟩;refine zsb hp (fun F hp=>?_) fun F hp=>?_
 ·obtain⟨Ta,G,hp⟩:=zrB hp;refine zwe a.pre  G fun m4 I=>?_;obtain⟨J,Ua⟩:=a.call I A;refine⟨_,rfl,?_⟩;obtain rfl:=oi hp;exact hq _ J.ext'
 refine⟨ha100.isSl,?_⟩
 try rw[ha100.slLen]
 refine ifd hp (fun N hp=>?_) fun N hp=>?_
 ·obtain⟨Va,O,hp⟩:=zrB hp;refine zwe a.pre  O fun m7 P=>?_;obtain⟨S,Wa⟩:=a.call P A;refine⟨_,rfl,?_⟩;obtain rfl:=oi hp;exact hq _ S.ext'
 refine⟨ha100.isSl,?_⟩;obtain⟨p,hp⟩:=zrC hp;refine⟨(by first|exact p|(rw[ha100.slLen];exact p)),?_⟩;obtain⟨e,h,hp⟩:=zrB hp;obtain⟨n9,n,o,h⟩:=zrv h;obtain⟨T,Y,Z,aa,Xa,Ya,Za⟩:=zsR ha100 h;refine⟨n9,(by first|exact n|(rw[ha100.slLen];exact n)),(by first|exact o|(rw[ha100.slLen];exact o)),_,_,_,_,_,_,(aa _ a.sub).1,?_⟩;intro rb ba;obtain⟨d,ca,ab,da⟩:=a.blk ba A 1;obtain⟨ea,fa,q,bb,r⟩:=da.sto ca [Il e.From,.bool e.Whole,Il e.Least,T,Y,Z];refine⟨ea,fa,?_⟩;obtain⟨s,ga,hp⟩:=zrB hp;refine zwn (l:=l) q.pre ha100 ga fun sb ha=>?_;obtain⟨t,ia⟩:=q.call ha d;have ja:=r.k ia;refine⟨_,rfl,?_⟩;refine gdi hp fun ka hp=>?_;refine gdi hp fun la hp=>?_;obtain⟨ma,hp⟩:=zrC hp;refine⟨ma,trivial,_,ja.bk.rc rfl,(r.bk.rc rfl),?_⟩;refine gdi hp fun na hp=>?_;refine gdi hp fun oa hp=>?_;refine gdi hp fun pa hp=>?_;refine gdi hp fun qa hp=>?_;refine gdi hp fun sa hp=>?_;refine gdi hp fun ta hp=>?_;obtain⟨ua,va,hp⟩:=zrB hp;refine zxU (l:=l) t.pre ha100 va fun tb cb db wa xa=>?_;obtain⟨u,ya⟩:=t.callG wa d;refine⟨_,rfl,?_⟩;obtain⟨eb,za,hp⟩:=zrB hp;refine zxQ (l:=ua) (crop:=((zno .i64 crop) % s)) (day:=((zno .i64 day) % e.From)) (count:=((zno .i64 count) % (101:Int))) u.pre xa za fun ub Aa=>?_;obtain⟨w,fb⟩:=u.call Aa d;refine⟨_,_,rfl,ha100.isSl,?_⟩;obtain⟨y,hp⟩:=zrC hp;refine⟨(by first|exact y|(rw[ha100.slLen];exact y)),?_⟩
 try rw[ha100.slLen]
 obtain⟨gb,hp⟩:=zrC hp;obtain⟨Ba,Ca,Da⟩:=ha100.subC (i:=Int.toNat (0:Int)) (j:=Int.toNat ((l.length:Int) - (1:Int))) (by omega) (by omega);refine⟨_,_,rfl,(show((l.length:Int) - (1:Int))=((Int.toNat ((l.length:Int) - (1:Int)):Nat):Int) by omega),Ba,Ca,?_⟩;obtain⟨Ea,Fa,hp⟩:=zrB hp;refine zxU (l:=((l.take (Int.toNat ((l.length:Int) - (1:Int)))).drop (Int.toNat (0:Int)))) w.pre (Da.sub ya.fs) Fa fun vb hb ib Ga Ha=>?_;obtain⟨z,jb⟩:=w.callG Ga d;refine⟨_,rfl,?_⟩;obtain⟨kb,Ia,hp⟩:=zrB hp;refine zxQ (l:=Ea) (crop:=((zno .i64 crop) % s)) (day:=((zno .i64 day) % e.From)) (count:=((zno .i64 count) % (101:Int))) z.pre Ha Ia fun wb Ja=>?_;obtain⟨g,mb⟩:=z.call Ja d;refine⟨_,_,rfl,?_⟩;refine ifd hp (fun Ka hp=>?_) fun Ka hp=>?_; rotate_left
 ·obtain rfl:=oi hp;exact hq _ g.ext'
 refine ifd hp (fun La hp=>?_) fun La hp=>?_; rotate_left
 ·obtain rfl:=oi hp;exact hq _ g.ext'
 refine ifd hp (fun Ma hp=>?_) fun Ma hp=>?_; rotate_left
 ·obtain rfl:=oi hp;exact hq _ g.ext'
 obtain⟨ob,Na,hp⟩:=zrB hp;refine zwe g.pre  Na fun xb Oa=>?_;obtain⟨Pa,pb⟩:=g.call Oa d;refine⟨_,rfl,?_⟩;obtain rfl:=oi hp;exact hq _ Pa.ext'
theorem zxY{l:List Tf}{crop:Int}{day:Int}{count:Int}{more:Int}{ca100:C}{m f:M}{Q:V->M->Prop}{rz:Bool}(hS:Pre f m)(ha100:Sl f ca100 l)(hp:zvh l crop day count more=some rz)(hq:∀m',Ext m m'->Q (.c (.bool rz)) m'):Wc prog tbl 10 [.c ca100,.c (.int .u8 crop),.c (.int .u8 day),.c (.int .u8 count),.c (.int .u8 more)] m Q:=by
 have S0:=hS.st;obtain⟨O,_⟩:=zsO;refine w10 ?_;unfold zvh at hp;obtain⟨zb,T,hp⟩:=zrB hp;refine zwC (l:=l) S0.pre ha100 T fun m1 Y=>?_;obtain⟨e,Ab⟩:=S0.call Y O;refine⟨_,rfl,?_⟩;refine zsb hp (fun Z hp=>?_) fun Z hp=>?_
 ·obtain⟨Bb,aa,hp⟩:=zrB hp;refine zwe e.pre  aa fun m4 ba=>?_;obtain⟨ca,Cb⟩:=e.call ba O;refine⟨_,rfl,?_⟩;obtain rfl:=oi hp;exact hq _ ca.ext'
 obtain⟨j,da,hp⟩:=zrB hp;refine zwn (l:=l) e.pre ha100 da fun m7 ea=>?_;obtain⟨A,Db⟩:=e.call ea O;refine⟨_,rfl,?_⟩;refine gdi hp fun fa hp=>?_;refine gdi hp fun ga hp=>?_;refine gdi hp fun ha hp=>?_;refine gdi hp fun ia hp=>?_;refine gdi hp fun ja hp=>?_;refine gdi hp fun ka hp=>?_;refine gdi hp fun la hp=>?_;refine gdi hp fun ma hp=>?_;refine gdi hp fun na hp=>?_;obtain⟨g,oa,hp⟩:=zrB hp;refine zwk (l:=l) (day:=((zno .i64 day) % (121:Int))) A.pre ha100 oa fun ic Eb pa qa sa ta ua Fb o=>?_;obtain⟨va,p⟩:=A.callG ta O;refine⟨_,_,_,_,_,_,rfl,?_⟩;intro jc wa;obtain⟨a,xa,Gb,ya⟩:=va.blk wa O 1;obtain⟨za,Aa,q,Hb,r⟩:=ya.sto xa [Il g.From,.bool g.Whole,Il g.Least,pa,qa,sa];refine⟨za,Aa,?_⟩;refine⟨trivial,_,r.bk.rc rfl,?_⟩;obtain⟨Ib,s,hp⟩:=zrB hp;obtain⟨xb,P,y,s⟩:=zrv s;obtain⟨Jb,B,t⟩:=o.rdS s;refine⟨xb,P,(by first|exact y|(rw[o.slLen];exact y)),_,(B _ q.sub),trivial,_,r.bk.rc rfl,?_⟩;obtain⟨Kb,Ba,hp⟩:=zrB hp;refine zwj (l:=g.Weeks) (n:=((zno .i64 day) % (121:Int))) q.pre ua Ba fun kc Ca=>?_;obtain⟨h,Da⟩:=q.call Ca a;have Ea:=r.k Da;refine⟨_,rfl,(by rw[show cmC _=true from zp8 (t.noFn)]; exact(B _ h.sub)),(by rw[show cmC _=true from zp8 (o.noFn)]; exact(Ea.bk.rc rfl)),?_⟩;obtain⟨Fa,u,hp⟩:=zrB hp;obtain⟨yb,S,z,u⟩:=zrv u;obtain⟨Mb,Ga,Ha⟩:=t.rdS u;refine⟨yb,S,(by first|exact z|(rw[t.slLen];exact z)),_,(Ga _ h.sub),?_⟩;obtain⟨Nb,Ia,hp⟩:=zrB hp;refine zwt (l:=Fa) (out:=(0:Int)) h.pre Ha Ia fun nc Ja=>?_;obtain⟨i,Ob⟩:=h.call Ja a;refine⟨_,rfl,?_⟩
 refine zsb hp (fun Ka hp=>?_) fun Ka hp=>?_
 ·obtain⟨Pb,La,hp⟩:=zrB hp;refine zwe i.pre  La fun oc Ma=>?_;obtain⟨Na,Qb⟩:=i.call Ma a;refine⟨_,rfl,?_⟩;obtain rfl:=oi hp;exact hq _ Na.ext'
 refine gdi hp fun Oa hp=>?_;obtain⟨Pa,Qa,hp⟩:=zrB hp;refine zxU (l:=l) i.pre (ha100.sub p.fs) Qa fun pc Rb Sb Ra Sa=>?_;obtain⟨D,F⟩:=i.callG Ra a;refine⟨_,rfl,?_⟩;obtain⟨Tb,Ta,hp⟩:=zrB hp;refine zxQ (l:=Pa) (crop:=((zno .i64 crop) % j)) (day:=((zno .i64 day) % (121:Int))) (count:=((zno .i64 count) % (101:Int))) D.pre Sa Ta fun qc Ua=>?_;obtain⟨G,Ub⟩:=D.call Ua a;refine⟨_,_,rfl,?_⟩;obtain⟨Va,Wa,hp⟩:=zrB hp;refine zxU (l:=l) G.pre (ha100.sub (Sub.trans p.fs F.fs)) Wa fun sc Vb Wb Xa Ya=>?_;obtain⟨I,Za⟩:=G.callG Xa a;refine⟨_,rfl,?_⟩;obtain⟨Xb,ab,hp⟩:=zrB hp;refine zxQ (l:=Va) (crop:=((zno .i64 crop) % j)) (day:=((zno .i64 day) % (121:Int))) (count:=(min (100:Int) (((zno .i64 count) % (101:Int))+(zno .i64 more)))) I.pre Ya ab fun tc bb=>?_;obtain⟨J,Yb⟩:=I.call bb a;refine⟨_,_,rfl,?_⟩;obtain⟨cb,db,hp⟩:=zrB hp;refine zxU (l:=l) J.pre (ha100.sub (Sub.trans (Sub.trans p.fs F.fs) Za.fs)) db fun uc Zb ac eb fb=>?_;obtain⟨N,bc⟩:=J.callG eb a;refine⟨_,rfl,?_⟩;obtain⟨cc,gb,hp⟩:=zrB hp;refine zxT (l:=cb) (crop:=((zno .i64 crop) % j)) (day:=((zno .i64 day) % (121:Int))) N.pre fb gb fun vc hb=>?_;obtain⟨d,dc⟩:=N.call hb a;refine⟨_,_,rfl,?_⟩;refine zr9 hp (fun ib hp=>?_) fun ib hp=>?_
 ·obtain rfl:=oi hp;exact hq _ d.ext'
 refine zr9 hp (fun jb hp=>?_) fun jb hp=>?_
 ·obtain rfl:=oi hp;exact hq _ d.ext'
 refine ifd hp (fun kb hp=>?_) fun kb hp=>?_
 ·obtain rfl:=oi hp;exact hq _ d.ext'
 refine zr9 hp (fun w hp=>?_) fun w hp=>?_; rotate_left
 ·refine zsc w ?_;refine zsa hp (fun mb hp=>?_) fun mb hp=>?_; rotate_left
  ·obtain rfl:=oi hp;exact hq _ d.ext'
  obtain⟨ec,ob,hp⟩:=zrB hp;refine zwe d.pre  ob fun wc pb=>?_;obtain⟨qb,fc⟩:=d.call pb a;refine⟨_,rfl,?_⟩;obtain rfl:=oi hp;exact hq _ qb.ext'
 refine zr9 hp (fun rb hp=>?_) fun rb hp=>?_
 ·obtain rfl:=oi hp;exact hq _ d.ext'
 refine zsd w ?_;refine zsa hp (fun sb hp=>?_) fun sb hp=>?_; rotate_left
 ·obtain rfl:=oi hp;exact hq _ d.ext'
 obtain⟨gc,tb,hp⟩:=zrB hp;refine zwe d.pre  tb fun xc ub=>?_;obtain⟨vb,hc⟩:=d.call ub a;refine⟨_,rfl,?_⟩;obtain rfl:=oi hp;exact hq _ vb.ext'
theorem zxZ{l:List Tf}{c:Clm}{part:Int}{ca100:C}{m f:M}{Q:V->M->Prop}{rz:Bool}(hS:Pre f m)(ha100:Sl f ca100 l)(hp:zvi l c part=some rz)(hq:∀m',Ext m m'->Q (.c (.bool rz)) m'):Wc prog tbl 11 [.c ca100,.agg 6 [Il c.Crop,Il c.Value,Il c.Day.Lo,Il c.Day.Hi,Il c.Count.Lo,Il c.Count.Hi],.c (.int .u16 part)] m Q:=by
 have S0:=hS.st;obtain⟨τ0,_⟩:=zsO;refine w11 ?_;unfold zvi at hp;intro m0 fb;obtain⟨p,la,Hf,ma⟩:=S0.blk fb τ0 1;refine⟨_,_,_,_,_,_,ma.bk.ra,?_⟩;obtain⟨If,gb,hp⟩:=zrB hp;refine zwD (l:=l) (c:=c) la.pre ha100 gb fun m8 hb=>?_;obtain⟨q,ib⟩:=la.call hb p;have na:=ma.k ib;refine⟨_,rfl,?_⟩;refine zsb hp (fun jb hp=>?_) fun jb hp=>?_
 ·obtain⟨Jf,kb,hp⟩:=zrB hp;refine zwe q.pre  kb fun sg mb=>?_;obtain⟨ob,Kf⟩:=q.call mb p;refine⟨_,rfl,?_⟩;obtain rfl:=oi hp;exact hq _ ob.ext'
 refine⟨_,_,_,_,_,_,na.bk.ra,?_⟩;obtain⟨g,pb,hp⟩:=zrB hp;refine zwF (c:=c) (day:=(0:Int)) (count:=(0:Int)) q.pre  pb fun tg qb=>?_;obtain⟨rb,sb⟩:=q.call qb p;have tb:=na.k sb;refine⟨_,_,rfl,?_⟩;intro ug ub;obtain⟨vb,wb,xb,yb⟩:=rb.blk ub p 2;have zb:=tb.k xb;obtain⟨Ab,Bb,Cb,Db,Eb⟩:=yb.sto wb [Il g.Day,Il g.Count];have Fb:=zb.k Db;refine⟨Ab,Bb,?_⟩;intro vg Gb;obtain⟨Hb,Ib,oa,ka⟩:=Cb.growK Gb vb 3;have r:=Fb.k oa;have Jb:=Eb.k oa;have Kb:=ka 0 (by decide);have Mb:=ka 1 (by decide);refine⟨_,_,_,_,_,_,r.bk.ra,_,_,_,_,_,_,r.bk.ra,_,_,_,_,_,_,r.bk.ra,?_⟩;intro xg Nb;obtain⟨a,Ob,s,Pb⟩:=Ib.blk Nb Hb 5;have u:=r.k s;have Qb:=Jb.k s;have Rb:=Kb.k s;have Sb:=Mb.k s;refine⟨(u.bk.ra),(u.bk.ra),(u.bk.ra),?_⟩;intro zg Tb;obtain⟨Ub,w,Vb⟩:=Rb.set Ob Tb;have y:=u.k w;have Wb:=Qb.k w;have Xb:=Pb.k w;have Yb:=Sb.k w;refine⟨(y.bk.ra),(y.bk.ra),(y.bk.ra),?_⟩;intro Ag Zb;obtain⟨ac,z,bc⟩:=Yb.set Ub Zb;have A:=y.k z;have cc:=Wb.k z;have dc:=Xb.k z;have ec:=Vb.k z;refine⟨(A.bk.ra),(A.bk.ra),(A.bk.ra),?_⟩;obtain⟨fc,gc,hc,B,ic⟩:=dc.sto ac [Il c.Crop,Il c.Value,Il c.Day.Lo,Il c.Day.Hi,Il c.Count.Lo,Il c.Count.Hi];have Y:=A.k B;have jc:=cc.k B;have kc:=ec.k B;have nc:=bc.k B;refine⟨fc,gc,?_⟩;refine⟨(Y.bk.ra),(Y.bk.ra),?_⟩;obtain⟨oc,pc,qc,D,sc⟩:=kc.sto hc [Il c.Crop,Il c.Value,Il c.Day.Lo,Il c.Day.Hi,Il c.Count.Lo,Il c.Count.Hi];have pa:=Y.k D;have tc:=jc.k D;have uc:=ic.k D;have vc:=nc.k D;refine⟨oc,pc,?_⟩;refine⟨(pa.bk.ra),?_⟩;obtain⟨wc,xc,yc,F,zc⟩:=vc.sto qc [Il c.Crop,Il c.Value,Il c.Day.Lo,Il c.Day.Hi,Il c.Count.Lo,Il c.Count.Hi]
 have qa:=pa.k F;have Ac:=tc.k F;have Bc:=uc.k F;have Cc:=sc.k F;refine⟨wc,xc,?_⟩;refine⟨trivial,_,qa.bk.rc rfl,?_⟩;refine gdi hp fun Dc hp=>?_;refine gdi hp fun Ec hp=>?_;refine gdi hp fun Fc hp=>?_;obtain⟨Gc,hp⟩:=zrC hp;refine⟨Gc,trivial,?_⟩;obtain⟨Hc,Ic,Jc,G,I⟩:=Bc.sto1 yc 1 (Il ((zno .i64 part) % (c.Value+(1:Int)))) (by simp) rfl
 replace I:Lb _ _ _ _ _ _ _ [Il c.Crop,(Il ((zno .i64 part) % (c.Value+(1:Int)))),Il c.Day.Lo,Il c.Day.Hi,Il c.Count.Lo,Il c.Count.Hi]:=I
 have sa:=qa.k G;have Kc:=Ac.k G;have Nc:=Cc.k G;have Oc:=zc.k G;refine⟨Hc,Ic,?_⟩;refine⟨trivial,_,sa.bk.rc rfl,trivial,_,I.bk.rc rfl,?_⟩;obtain⟨Pc,hp⟩:=zrC hp;refine⟨Pc,trivial,?_⟩;obtain⟨Qc,Rc,Tc,J,Z⟩:=Nc.sto1 Jc 1 (Il (c.Value - ((zno .i64 part) % (c.Value+(1:Int))))) (by simp) rfl
 replace Z:Lb _ _ _ _ _ _ _ [Il c.Crop,(Il (c.Value - ((zno .i64 part) % (c.Value+(1:Int))))),Il c.Day.Lo,Il c.Day.Hi,Il c.Count.Lo,Il c.Count.Hi]:=Z
 have aa:=sa.k J;have Uc:=Kc.k J;have Vc:=I.k J;have Xc:=Oc.k J;refine⟨Qc,Rc,?_⟩;refine⟨trivial,_,aa.bk.rc rfl,trivial,_,aa.bk.rc rfl,?_⟩;refine gdi hp fun Yc hp=>?_;refine gdi hp fun Zc hp=>?_;refine gdi hp fun ad hp=>?_;obtain⟨bd,hp⟩:=zrC hp;refine⟨bd,trivial,?_⟩;obtain⟨cd,dd,ta,N,ba⟩:=Xc.sto1 Tc 1 (Il (c.Value - (c.Value % (100:Int)))) (by simp) rfl
 replace ba:Lb _ _ _ _ _ _ _ [Il c.Crop,(Il (c.Value - (c.Value % (100:Int)))),Il c.Day.Lo,Il c.Day.Hi,Il c.Count.Lo,Il c.Count.Hi]:=ba
 have ua:=aa.k N;have va:=Uc.k N;have ed:=Vc.k N;have fd:=Z.k N;refine⟨cd,dd,?_⟩;obtain⟨hd,id,hp⟩:=zrB hp;refine zxU (l:=l) ta.pre ha100 id fun Bg Lf Mf jd kd=>?_;obtain⟨wa,e⟩:=ta.callG jd a;have xa:=ua.k e;have ya:=va.k e;have ld:=ed.k e;have md:=fd.k e;have nd:=ba.k e;refine⟨_,rfl,_,_,_,_,_,_,xa.bk.ra,(ua.bk.ra),?_⟩;obtain⟨od,pd,hp⟩:=zrB hp;refine zwv (c:=c) wa.pre  pd fun Cg qd=>?_;obtain⟨za,j⟩:=wa.call qd a;have sd:=xa.k j;have Aa:=ya.k j;have td:=ld.k j;have ud:=md.k j;have vd:=nd.k j;refine⟨_,_,_,_,_,_,rfl,_,_,Aa.bk.ra,(ya.bk.ra),(va.bk.ra),?_⟩;obtain⟨wd,xd,hp⟩:=zrB hp;refine zww (t:=g) za.pre  xd fun Dg yd=>?_;obtain⟨Ba,n⟩:=za.call yd a;have zd:=sd.k n;have Ad:=Aa.k n;have Bd:=td.k n;have Cd:=ud.k n;have Dd:=vd.k n;refine⟨_,_,rfl,?_⟩;obtain⟨Nf,Ed,hp⟩:=zrB hp;refine zxR (l:=hd) (c:=od) (t:=wd) Ba.pre kd Ed fun Eg Fd=>?_;obtain⟨Ca,o⟩:=Ba.call Fd a;have Gd:=zd.k o;have Da:=Ad.k o;have Ea:=Bd.k o;have Hd:=Cd.k o;have Id:=Dd.k o;refine⟨_,_,rfl,?_⟩;obtain⟨Jd,Ld,hp⟩:=zrB hp;refine zxU (l:=l) Ca.pre (ha100.sub e.fs) Ld fun Fg Of Pf Md Nd=>?_;obtain⟨Fa,h⟩:=Ca.callG Md a;have Od:=Gd.k h;have Ga:=Da.k h;have Pd:=Ea.k h;have Qd:=Hd.k h;have Rd:=Id.k h;refine⟨_,rfl,_,_,_,_,_,_,Pd.bk.ra,(Ea.bk.ra),?_⟩;obtain⟨Sd,Td,hp⟩:=zrB hp;refine zwv (c:=({ Crop:=c.Crop,Value:=((zno .i64 part) % (c.Value+(1:Int))),Day:=c.Day,Count:=c.Count }:Clm)) Fa.pre  Td fun Gg Ud=>?_;obtain⟨Ha,O⟩:=Fa.call Ud a;have Vd:=Od.k O;have Ia:=Ga.k O;have Wd:=Qd.k O;have Xd:=Rd.k O
 refine⟨_,_,_,_,_,_,rfl,_,_,Ia.bk.ra,(Ga.bk.ra),(Da.bk.ra),?_⟩;obtain⟨Yd,Zd,hp⟩:=zrB hp;refine zww (t:=g) Ha.pre  Zd fun fg ae=>?_;obtain⟨Ja,P⟩:=Ha.call ae a;have be:=Vd.k P;have ce:=Ia.k P;have de:=Wd.k P;have ee:=Xd.k P;refine⟨_,_,rfl,?_⟩;obtain⟨Qf,fe,hp⟩:=zrB hp;refine zxR (l:=Jd) (c:=Sd) (t:=Yd) Ja.pre Nd fe fun gg ge=>?_;obtain⟨Ka,S⟩:=Ja.call ge a;have he:=be.k S;have La:=ce.k S;have Ma:=de.k S;have ie:=ee.k S;refine⟨_,_,rfl,?_⟩;obtain⟨je,ke,hp⟩:=zrB hp;refine zxU (l:=l) Ka.pre (ha100.sub (Sub.trans e.fs h.fs)) ke fun hg Rf Sf me oe=>?_;obtain⟨Na,i⟩:=Ka.callG me a;have pe:=he.k i;have Oa:=La.k i;have qe:=Ma.k i;have re:=ie.k i;refine⟨_,rfl,_,_,_,_,_,_,qe.bk.ra,(Ma.bk.ra),?_⟩;obtain⟨se,te,hp⟩:=zrB hp;refine zwv (c:=({ Crop:=c.Crop,Value:=(c.Value - ((zno .i64 part) % (c.Value+(1:Int)))),Day:=c.Day,Count:=c.Count }:Clm)) Na.pre  te fun ig ue=>?_;obtain⟨Pa,ca⟩:=Na.call ue a;have ve:=pe.k ca;have Qa:=Oa.k ca;have we:=re.k ca;refine⟨_,_,_,_,_,_,rfl,_,_,Qa.bk.ra,(Oa.bk.ra),(La.bk.ra),?_⟩;obtain⟨xe,ye,hp⟩:=zrB hp;refine zww (t:=g) Pa.pre  ye fun jg ze=>?_;obtain⟨Ra,da⟩:=Pa.call ze a;have Ae:=ve.k da;have Be:=Qa.k da;have Ce:=we.k da;refine⟨_,_,rfl,?_⟩;obtain⟨Uf,De,hp⟩:=zrB hp;refine zxR (l:=je) (c:=se) (t:=xe) Ra.pre oe De fun kg Ee=>?_;obtain⟨Sa,ea⟩:=Ra.call Ee a;have Fe:=Ae.k ea;have Ta:=Be.k ea;have Ua:=Ce.k ea;refine⟨_,_,rfl,?_⟩;obtain⟨Ge,He,hp⟩:=zrB hp;refine zxU (l:=l) Sa.pre (ha100.sub (Sub.trans (Sub.trans e.fs h.fs) i.fs)) He fun lg Vf Wf Ie Je=>?_
 obtain⟨Va,T⟩:=Sa.callG Ie a;have Ke:=Fe.k T;have Wa:=Ta.k T;have Xa:=Ua.k T;refine⟨_,rfl,_,_,_,_,_,_,Xa.bk.ra,(Ua.bk.ra),?_⟩;obtain⟨Me,Ne,hp⟩:=zrB hp;refine zwv (c:=({ Crop:=c.Crop,Value:=(c.Value - (c.Value % (100:Int))),Day:=c.Day,Count:=c.Count }:Clm)) Va.pre  Ne fun mg Oe=>?_;obtain⟨Ya,fa⟩:=Va.call Oe a;have Pe:=Ke.k fa;have Za:=Wa.k fa;have Qe:=Xa.k fa;refine⟨_,_,_,_,_,_,rfl,_,_,Za.bk.ra,(Wa.bk.ra),(Ta.bk.ra),?_⟩;obtain⟨Re,Se,hp⟩:=zrB hp;refine zww (t:=g) Ya.pre  Se fun ng Te=>?_;obtain⟨ab,ga⟩:=Ya.call Te a;have Ue:=Pe.k ga;have Ve:=Za.k ga;have We:=Qe.k ga;refine⟨_,_,rfl,?_⟩;obtain⟨Xf,Xe,hp⟩:=zrB hp;refine zxR (l:=Ge) (c:=Me) (t:=Re) ab.pre Je Xe fun og Ye=>?_;obtain⟨bb,ha⟩:=ab.call Ye a;have cb:=Ue.k ha;have ia:=Ve.k ha;have Ze:=We.k ha;refine⟨_,_,rfl,?_⟩;obtain⟨af,bf,hp⟩:=zrB hp;refine zxU (l:=l) bb.pre (ha100.sub (Sub.trans (Sub.trans (Sub.trans e.fs h.fs) i.fs) T.fs)) bf fun pg Yf Zf cf df=>?_;obtain⟨db,ja⟩:=bb.callG cf a;have ef:=cb.k ja;have eb:=ia.k ja;have gf:=Ze.k ja;refine⟨_,rfl,trivial,_,ef.bk.rc rfl,(cb.bk.rc rfl),trivial,_,eb.bk.rc rfl,(ia.bk.rc rfl),trivial,_,eb.bk.rc rfl,(ia.bk.rc rfl),?_⟩;obtain⟨ag,hf,hp⟩:=zrB hp;refine zxQ (l:=af) (crop:=c.Crop) (day:=g.Day) (count:=g.Count) db.pre df hf fun qg jf=>?_;obtain⟨d,kf⟩:=db.call jf a;have lf:=gf.k kf;refine⟨_,_,rfl,?_⟩;refine ifd hp (fun mf hp=>?_) fun mf hp=>?_; rotate_left
 ·obtain rfl:=oi hp;exact hq _ d.ext'
 refine ifd hp (fun nf hp=>?_) fun nf hp=>?_; rotate_left
 ·obtain rfl:=oi hp;exact hq _ d.ext'
 refine ifd hp (fun pf hp=>?_) fun pf hp=>?_; rotate_left
 ·obtain rfl:=oi hp;exact hq _ d.ext'
 refine ifd hp (fun qf hp=>?_) fun qf hp=>?_; rotate_left
 ·obtain rfl:=oi hp;exact hq _ d.ext'
 refine ifd hp (fun rf hp=>?_) fun rf hp=>?_; rotate_left
 ·obtain rfl:=oi hp;exact hq _ d.ext'
 refine gdi hp fun sf hp=>?_;refine ifd hp (fun tf hp=>?_) fun tf hp=>?_; rotate_left
 ·obtain rfl:=oi hp;exact hq _ d.ext'
 refine gdi hp fun uf hp=>?_;refine gdi hp fun vf hp=>?_;refine ifd hp (fun wf hp=>?_) fun wf hp=>?_; rotate_left
 ·obtain rfl:=oi hp;exact hq _ d.ext'
 refine⟨trivial,_,lf.bk.rc rfl,?_⟩;refine gdi hp fun xf hp=>?_;refine gdi hp fun yf hp=>?_;refine gdi hp fun zf hp=>?_;refine gdi hp fun Af hp=>?_;refine gdi hp fun Bf hp=>?_;refine gdi hp fun Cf hp=>?_;refine ifd hp (fun Df hp=>?_) fun Df hp=>?_; rotate_left
 ·obtain rfl:=oi hp;exact hq _ d.ext'
 obtain⟨bg,Ef,hp⟩:=zrB hp;refine zwe d.pre  Ef fun rg Ff=>?_;obtain⟨Gf,cg⟩:=d.call Ff a;refine⟨_,rfl,?_⟩;obtain rfl:=oi hp;exact hq _ Gf.ext'
theorem zx0{l:List Tf}{crop:Int}{day:Int}{count:Int}{more:Int}{ca100:C}{m f:M}{Q:V->M->Prop}{rz:Bool}(hS:Pre f m)(ha100:Sl f ca100 l)(hp:zvk l crop day count more=some rz)(hq:∀m',Ext m m'->Q (.c (.bool rz)) m'):Wc prog tbl 12 [.c ca100,.c (.int .u8 crop),.c (.int .u8 day),.c (.int .u8 count),.c (.int .u8 more)] m Q:=by
 have S0:=hS.st;obtain⟨τ0,_⟩:=zsO;refine w12 ?_;unfold zvk at hp;obtain⟨me,Wa,hp⟩:=zrB hp;refine zwC (l:=l) S0.pre ha100 Wa fun m1 Xa=>?_;obtain⟨N,oe⟩:=S0.call Xa τ0;refine⟨_,rfl,?_⟩;refine zsb hp (fun Ya hp=>?_) fun Ya hp=>?_
 ·obtain⟨pe,Za,hp⟩:=zrB hp;refine zwe N.pre  Za fun m4 ab=>?_;obtain⟨bb,qe⟩:=N.call ab τ0;refine⟨_,rfl,?_⟩;obtain rfl:=oi hp;exact hq _ bb.ext'
 obtain⟨t,cb,hp⟩:=zrB hp;refine zwn (l:=l) N.pre ha100 cb fun m7 db=>?_;obtain⟨eb,re⟩:=N.call db τ0;refine⟨_,rfl,?_⟩;refine gdi hp fun fb hp=>?_;refine gdi hp fun gb hp=>?_;refine gdi hp fun hb hp=>?_;refine gdi hp fun ib hp=>?_;refine gdi hp fun jb hp=>?_;refine gdi hp fun kb hp=>?_;refine gdi hp fun mb hp=>?_;refine gdi hp fun ob hp=>?_;refine gdi hp fun pb hp=>?_;intro R9 ie
 have hgo:∀(O:Nat) (za:C) (Aa:C) (Ba:C) (Ca:C) (Da:Int) (z:List Tf) (A:List Tf) (B:List Tf) (D:List Tf) (J:M) (p:M) (j:Nat->Nat),St (Fm.of m) f p J->Sub f p->Ow (Fm.of m) p j J 1 za z->Ow (Fm.of m) p j J 2 Aa A->Ow (Fm.of m) p j J 3 Ba B->Ow (Fm.of m) p j J 4 Ca D->zvj l crop day count more t O z A B D Da=some rz->R9 [.c za,.c Aa,.c Ba,.c Ca,.c (Il Da)] J:=by
  intro O
  induction O with
  | zero=>intro za Aa Ba Ca Da z A B D J p j F n q h g e hp; cases hp
  | succ O ge=>
   intro za Aa Ba Ca Da z A B D J p j F n q h g e hp;refine ie _ _ _ _ _ _ ?_;rw[zvj] at hp;refine⟨ha100.isSl,?_⟩
   try rw[ha100.slLen]
   refine ifd hp (fun qb hp=>?_) fun qb hp=>?_
   ·obtain⟨d,pa,hp⟩:=zrB hp;obtain⟨je,Ta,xa,pa⟩:=zrv pa;obtain⟨u,w,y,rb,P,S,T⟩:=zsR ha100 pa;refine⟨je,Ta,(by first|exact xa|(rw[ha100.slLen];exact xa)),_,_,_,_,_,_,(rb _ (Sub.trans n F.sub)).1,?_⟩;intro yf sb;obtain⟨se,tb,Y,ub⟩:=F.blk sb j 5;have q:=q.k Y;have h:=h.k Y;have g:=g.k Y;have e:=e.k Y;obtain⟨vb,wb,xb,Z,Ea⟩:=ub.sto tb [Il d.From,.bool d.Whole,Il d.Least,u,w,y];have q:=q.k Z;have h:=h.k Z;have g:=g.k Z;have e:=e.k Z;refine⟨vb,wb,?_⟩;refine⟨trivial,_,Ea.bk.rc rfl,?_⟩;refine gdi hp fun yb hp=>?_;refine gdi hp fun zb hp=>?_;refine gdi hp fun Ab hp=>?_;obtain⟨Bb,hp⟩:=zrC hp;refine⟨Bb,trivial,?_⟩;obtain⟨Cb,Db,Eb,aa,ba⟩:=Ea.sto1 xb 2 (Il (min (100:Int) (d.Least+((zno .i64 more) % (20:Int))))) (by simp) rfl
    replace ba:Lb _ _ _ _ _ _ _ [Il d.From,.bool d.Whole,(Il (min (100:Int) (d.Least+((zno .i64 more) % (20:Int))))),u,w,y]:=ba
    have q:=q.k aa;have h:=h.k aa;have g:=g.k aa;have e:=e.k aa;refine⟨Cb,Db,?_⟩;refine⟨_,_,_,_,_,_,ba.bk.ra,?_⟩;obtain⟨Fb,hp⟩:=zrC hp;intro zf Gb;obtain⟨Hb,Ib,te,Jb,Fa,ca,o⟩:=q.app' zv6 Eb (a:=({ From:=d.From,Whole:=d.Whole,Least:=(min (100:Int) (d.Least+((zno .i64 more) % (20:Int)))),Weeks:=d.Weeks,Counts:=d.Counts,Rates:=d.Rates }:Tf)) (show Rp.rep (α:=Tf) p _ ({ From:=d.From,Whole:=d.Whole,Least:=(min (100:Int) (d.Least+((zno .i64 more) % (20:Int)))),Weeks:=d.Weeks,Counts:=d.Counts,Rates:=d.Rates }:Tf) from ⟨_,_,_,rfl,(P.sub n),(S.sub n),(T.sub n)⟩) Fb Gb;have Kb:=ba.k ca;have h:=h.k ca;have g:=g.k ca;have e:=e.k ca;refine⟨Hb,Ib,Jb,?_⟩;obtain⟨s,da,hp⟩:=zrB hp;obtain⟨ke,Ua,ya,da⟩:=zrv da;obtain⟨ue,ve,we,Mb,xe,ye,ze⟩:=zsR ha100 da;refine⟨ke,Ua,(by first|exact ya|(rw[ha100.slLen];exact ya)),(ha100.isPt da _),_,((Mb _ (Sub.trans n Fa.sub)).2.1 2 _ rfl),trivial,?_⟩;obtain⟨Nb,Ob,Pb,ea,qa⟩:=Kb.sto1 Fa 2 (Il s.Least) (by simp) rfl
    replace qa:Lb _ _ _ _ _ _ _ [Il d.From,.bool d.Whole,Il s.Least,u,w,y]:=qa
    have h:=h.k ea;have g:=g.k ea;have e:=e.k ea;have o:=o.k ea;refine⟨Nb,Ob,?_⟩;refine⟨trivial,?_⟩;obtain⟨Qb,Rb,Sb,fa,ga⟩:=qa.sto1 Pb 1 (.bool true) (by simp) rfl
    replace ga:Lb _ _ _ _ _ _ _ [Il d.From,.bool true,Il s.Least,u,w,y]:=ga
    have h:=h.k fa;have g:=g.k fa;have e:=e.k fa;have o:=o.k fa;refine⟨Qb,Rb,?_⟩;refine⟨_,_,_,_,_,_,ga.bk.ra,?_⟩;obtain⟨Tb,hp⟩:=zrC hp;intro Af Ub;obtain⟨Vb,Wb,Ae,Xb,Yb,ha,r⟩:=h.app' zv6 Sb (a:=({ From:=d.From,Whole:=true,Least:=s.Least,Weeks:=d.Weeks,Counts:=d.Counts,Rates:=d.Rates }:Tf)) (show Rp.rep (α:=Tf) p _ ({ From:=d.From,Whole:=true,Least:=s.Least,Weeks:=d.Weeks,Counts:=d.Counts,Rates:=d.Rates }:Tf) from ⟨_,_,_,rfl,(P.sub n),(S.sub n),(T.sub n)⟩) Tb Ub;have Zb:=ga.k ha;have g:=g.k ha;have e:=e.k ha;have o:=o.k ha;refine⟨Vb,Wb,Xb,?_⟩;refine⟨trivial,?_⟩;obtain⟨ac,bc,cc,ia,ja⟩:=Zb.sto1 Yb 1 (.bool false) (by simp) rfl
    replace ja:Lb _ _ _ _ _ _ _ [Il d.From,.bool false,Il s.Least,u,w,y]:=ja
    have g:=g.k ia;have e:=e.k ia;have o:=o.k ia;have r:=r.k ia;refine⟨ac,bc,?_⟩;refine⟨_,_,_,_,_,_,ja.bk.ra,?_⟩;obtain⟨dc,hp⟩:=zrC hp;intro Bf ec;obtain⟨fc,gc,Be,hc,ic,ka,G⟩:=g.app' zv6 cc (a:=({ From:=d.From,Whole:=false,Least:=s.Least,Weeks:=d.Weeks,Counts:=d.Counts,Rates:=d.Rates }:Tf)) (show Rp.rep (α:=Tf) p _ ({ From:=d.From,Whole:=false,Least:=s.Least,Weeks:=d.Weeks,Counts:=d.Counts,Rates:=d.Rates }:Tf) from ⟨_,_,_,rfl,(P.sub n),(S.sub n),(T.sub n)⟩) dc ec;have jc:=ja.k ka;have e:=e.k ka;have o:=o.k ka;have r:=r.k ka;refine⟨fc,gc,hc,?_⟩;refine⟨trivial,?_⟩;obtain⟨kc,nc,oc,la,sa⟩:=jc.sto1 ic 2 (Il 0) (by simp) rfl
    replace sa:Lb _ _ _ _ _ _ _ [Il d.From,.bool false,Il 0,u,w,y]:=sa
    have e:=e.k la;have o:=o.k la;have r:=r.k la;have G:=G.k la;refine⟨kc,nc,?_⟩;refine⟨_,_,_,_,_,_,sa.bk.ra,?_⟩;obtain⟨pc,hp⟩:=zrC hp;intro Cf qc;obtain⟨sc,tc,uc,vc,wc,ta,xc⟩:=e.app' zv6 oc (a:=({ From:=d.From,Whole:=false,Least:=(0:Int),Weeks:=d.Weeks,Counts:=d.Counts,Rates:=d.Rates }:Tf)) (show Rp.rep (α:=Tf) p _ ({ From:=d.From,Whole:=false,Least:=(0:Int),Weeks:=d.Weeks,Counts:=d.Counts,Rates:=d.Rates }:Tf) from ⟨_,_,_,rfl,(P.sub n),(S.sub n),(T.sub n)⟩) pc qc;have o:=o.k ta;have r:=r.k ta;have G:=G.k ta;refine⟨sc,tc,vc,?_⟩;refine gdi hp fun yc hp=>?_;exact ge _ _ _ _ _ _ _ _ _ _ p uc wc n o r G xc hp
   obtain⟨zc,Ac,hp⟩:=zrB hp;refine zxU (l:=l) F.pre (ha100.sub n) Ac fun Df Ce De Bc Cc=>?_;obtain⟨Ga,I⟩:=F.callG Bc j;have q:=q.k I;have h:=h.k I;have g:=g.k I;have e:=e.k I;refine⟨_,rfl,?_⟩;obtain⟨Ee,Dc,hp⟩:=zrB hp;refine zxQ (l:=zc) (crop:=((zno .i64 crop) % t)) (day:=((zno .i64 day) % (121:Int))) (count:=((zno .i64 count) % (101:Int))) Ga.pre Cc Dc fun Ef Ec=>?_;obtain⟨Fc,ma⟩:=Ga.call Ec j;have q:=q.k ma;have h:=h.k ma;have g:=g.k ma;have e:=e.k ma;refine⟨_,_,rfl,?_⟩;obtain⟨Fe,Ha,na,Gc⟩:=q.freeze Fc;have h:=h.k na;have g:=g.k na;have e:=e.k na;obtain⟨Hc,Ic,hp⟩:=zrB hp;refine zxU (l:=z) Ha.pre Gc Ic fun Ff Ge He Jc Kc=>?_;obtain⟨Ia,oa⟩:=Ha.callG Jc j;have h:=h.k oa;have g:=g.k oa;have e:=e.k oa;refine⟨_,rfl,?_⟩;obtain⟨Ie,Nc,hp⟩:=zrB hp;refine zxQ (l:=Hc) (crop:=((zno .i64 crop) % t)) (day:=((zno .i64 day) % (121:Int))) (count:=((zno .i64 count) % (101:Int))) Ia.pre Kc Nc fun Gf Oc=>?_;obtain⟨Pc,ua⟩:=Ia.call Oc j;have h:=h.k ua;have g:=g.k ua;have e:=e.k ua;refine⟨_,_,rfl,?_⟩;obtain⟨Je,Ja,va,Qc⟩:=h.freeze Pc;have g:=g.k va;have e:=e.k va;obtain⟨Rc,Tc,hp⟩:=zrB hp;refine zxU (l:=A) Ja.pre Qc Tc fun Hf Ke Me Uc Vc=>?_;obtain⟨Ka,wa⟩:=Ja.callG Uc j;have g:=g.k wa;have e:=e.k wa;refine⟨_,rfl,?_⟩;obtain⟨Ne,Xc,hp⟩:=zrB hp;refine zxQ (l:=Rc) (crop:=((zno .i64 crop) % t)) (day:=((zno .i64 day) % (121:Int))) (count:=((zno .i64 count) % (101:Int))) Ka.pre Vc Xc fun If Yc=>?_;obtain⟨Zc,La⟩:=Ka.call Yc j;have g:=g.k La;have e:=e.k La
   refine⟨_,_,rfl,?_⟩;obtain⟨Oe,Ma,Na,ad⟩:=g.freeze Zc;have e:=e.k Na;obtain⟨bd,cd,hp⟩:=zrB hp;refine zxU (l:=B) Ma.pre ad cd fun Jf Pe Qe dd ed=>?_;obtain⟨Oa,Pa⟩:=Ma.callG dd j;have e:=e.k Pa;refine⟨_,rfl,?_⟩;obtain⟨Re,fd,hp⟩:=zrB hp;refine zxQ (l:=bd) (crop:=((zno .i64 crop) % t)) (day:=((zno .i64 day) % (121:Int))) (count:=((zno .i64 count) % (101:Int))) Oa.pre ed fd fun Kf hd=>?_;obtain⟨id,jd⟩:=Oa.call hd j;have e:=e.k jd;refine⟨_,_,rfl,?_⟩;obtain⟨Se,Qa,kd,ld⟩:=e.freeze id;obtain⟨md,nd,hp⟩:=zrB hp;refine zxU (l:=D) Qa.pre ld nd fun Lf Te Ue od pd=>?_;obtain⟨Ra,qd⟩:=Qa.callG od j;refine⟨_,rfl,?_⟩;obtain⟨Ve,sd,hp⟩:=zrB hp;refine zxQ (l:=md) (crop:=((zno .i64 crop) % t)) (day:=((zno .i64 day) % (121:Int))) (count:=((zno .i64 count) % (101:Int))) Ra.pre pd sd fun sf td=>?_;obtain⟨Sa,We⟩:=Ra.call td j;refine⟨_,_,rfl,?_⟩;obtain⟨Xe,ud,hp⟩:=zrB hp;refine zwk (l:=l) (day:=((zno .i64 day) % (121:Int))) Sa.pre (ha100.sub (Sub.trans (Sub.trans (Sub.trans (Sub.trans (Sub.trans (Sub.trans (Sub.trans (Sub.trans (Sub.trans n I.fs) na.fs) oa.fs) va.fs) wa.fs) Na.fs) Pa.fs) kd.fs) qd.fs)) ud fun tf Ye Ze af bf vd cf df ef=>?_;obtain⟨i,gf⟩:=Sa.callG vd j;refine⟨_,_,_,_,_,_,rfl,?_⟩;refine zr9 hp (fun wd hp=>?_) fun wd hp=>?_
   ·obtain rfl:=oi hp;exact hq _ i.ext'
   refine zr9 hp (fun xd hp=>?_) fun xd hp=>?_
   ·obtain rfl:=oi hp;exact hq _ i.ext'
   refine zr9 hp (fun yd hp=>?_) fun yd hp=>?_
   ·obtain rfl:=oi hp;exact hq _ i.ext'
   refine zr9 hp (fun zd hp=>?_) fun zd hp=>?_
   ·obtain rfl:=oi hp;exact hq _ i.ext'
   refine zr9 hp (fun Ad hp=>?_) fun Ad hp=>?_
   ·obtain rfl:=oi hp;exact hq _ i.ext'
   refine ifd hp (fun Bd hp=>?_) fun Bd hp=>?_
   ·obtain rfl:=oi hp;exact hq _ i.ext'
   refine ifd hp (fun Cd hp=>?_) fun Cd hp=>?_
   ·obtain rfl:=oi hp;exact hq _ i.ext'
   refine ifd hp (fun Dd hp=>?_) fun Dd hp=>?_
   ·obtain rfl:=oi hp;exact hq _ i.ext'
   refine ifd hp (fun Ed hp=>?_) fun Ed hp=>?_; rotate_left
   ·refine ifd hp (fun Fd hp=>?_) fun Fd hp=>?_; rotate_left
    ·obtain rfl:=oi hp;exact hq _ i.ext'
    refine ifd hp (fun Gd hp=>?_) fun Gd hp=>?_; rotate_left
    ·obtain rfl:=oi hp;exact hq _ i.ext'
    refine gdi hp fun Hd hp=>?_;refine ifd hp (fun Id hp=>?_) fun Id hp=>?_; rotate_left
    ·obtain rfl:=oi hp;exact hq _ i.ext'
    obtain⟨hf,Jd,hp⟩:=zrB hp;refine zwe i.pre  Jd fun uf Ld=>?_;obtain⟨Md,jf⟩:=i.call Ld j;refine⟨_,rfl,?_⟩;obtain rfl:=oi hp;exact hq _ Md.ext'
   refine ifd hp (fun Nd hp=>?_) fun Nd hp=>?_; rotate_left
   ·refine ifd hp (fun Od hp=>?_) fun Od hp=>?_; rotate_left
    ·obtain rfl:=oi hp;exact hq _ i.ext'
    refine ifd hp (fun Pd hp=>?_) fun Pd hp=>?_; rotate_left
    ·obtain rfl:=oi hp;exact hq _ i.ext'
    refine gdi hp fun Qd hp=>?_;refine ifd hp (fun Rd hp=>?_) fun Rd hp=>?_; rotate_left
    ·obtain rfl:=oi hp;exact hq _ i.ext'
    obtain⟨kf,Sd,hp⟩:=zrB hp;refine zwe i.pre  Sd fun vf Td=>?_;obtain⟨Ud,lf⟩:=i.call Td j;refine⟨_,rfl,?_⟩;obtain rfl:=oi hp;exact hq _ Ud.ext'
   refine ifd hp (fun Vd hp=>?_) fun Vd hp=>?_
   ·obtain⟨mf,Wd,hp⟩:=zrB hp;refine zwe i.pre  Wd fun wf Xd=>?_;obtain⟨Yd,nf⟩:=i.call Xd j;refine⟨_,rfl,?_⟩;obtain rfl:=oi hp;exact hq _ Yd.ext'
   refine ifd hp (fun Zd hp=>?_) fun Zd hp=>?_; rotate_left
   ·obtain rfl:=oi hp;exact hq _ i.ext'
   refine ifd hp (fun ae hp=>?_) fun ae hp=>?_; rotate_left
   ·obtain rfl:=oi hp;exact hq _ i.ext'
   refine gdi hp fun be hp=>?_;refine ifd hp (fun ce hp=>?_) fun ce hp=>?_; rotate_left
   ·obtain rfl:=oi hp;exact hq _ i.ext'
   obtain⟨pf,de,hp⟩:=zrB hp;refine zwe i.pre  de fun xf ee=>?_;obtain⟨fe,qf⟩:=i.call ee j;refine⟨_,rfl,?_⟩;obtain rfl:=oi hp;exact hq _ fe.ext'
 exact hgo _ _ _ _ _ _ _ _ _ _ _ f τ0 eb (Sub.refl _) (Ow.nil _ _ _ _ _) (Ow.nil _ _ _ _ _) (Ow.nil _ _ _ _ _) (Ow.nil _ _ _ _ _) hp
theorem zx1{l:List Tf}{crop:Int}{day:Int}{count:Int}{ca100:C}{m f:M}{Q:V->M->Prop}{rz:Bool}(hS:Pre f m)(ha100:Sl f ca100 l)(hp:zvm l crop day count=some rz)(hq:∀m',Ext m m'->Q (.c (.bool rz)) m'):Wc prog tbl 13 [.c ca100,.c (.int .u8 crop),.c (.int .u8 day),.c (.int .u8 count)] m Q:=by
 have S0:=hS.st;obtain⟨τ0,_⟩:=zsO;refine w13 ?_;unfold zvm at hp;obtain⟨hc,pa,hp⟩:=zrB hp;refine zwC (l:=l) S0.pre ha100 pa fun m1 qa=>?_;obtain⟨r,ic⟩:=S0.call qa τ0;refine⟨_,rfl,?_⟩;refine zsb hp (fun sa hp=>?_) fun sa hp=>?_
 ·obtain⟨jc,ta,hp⟩:=zrB hp;refine zwe r.pre  ta fun m4 ua=>?_;obtain⟨va,kc⟩:=r.call ua τ0;refine⟨_,rfl,?_⟩;obtain rfl:=oi hp;exact hq _ va.ext'
 obtain⟨s,wa,hp⟩:=zrB hp;refine zwn (l:=l) r.pre ha100 wa fun m7 xa=>?_;obtain⟨ya,nc⟩:=r.call xa τ0;refine⟨_,rfl,?_⟩;refine gdi hp fun za hp=>?_;refine gdi hp fun Aa hp=>?_;refine gdi hp fun Ba hp=>?_;refine gdi hp fun Ca hp=>?_;refine gdi hp fun Da hp=>?_;refine gdi hp fun Ea hp=>?_;refine gdi hp fun Fa hp=>?_;refine gdi hp fun Ga hp=>?_;refine gdi hp fun Ha hp=>?_;intro R9 cc
 have hgo:∀(t:Nat) (ba:C) (ca:Int) (j:List Tf) (P:M) (p:M) (e:Nat->Nat),St (Fm.of m) f p P->Sub f p->Ow (Fm.of m) p e P 1 ba j->zvl l crop day count s t j ca=some rz->R9 [.c ba,.c (Il ca)] P:=by
  intro t
  induction t with
  | zero=>intro ba ca j P p e u o i hp; cases hp
  | succ t ac=>
   intro ba ca j P p e u o i hp;refine cc _ _ _ ?_;rw[zvl] at hp;refine⟨ha100.isSl,?_⟩
   try rw[ha100.slLen]
   refine ifd hp (fun Ia hp=>?_) fun Ia hp=>?_
   ·obtain⟨d,A,hp⟩:=zrB hp;obtain⟨dc,la,S,A⟩:=zrv A;obtain⟨da,ea,fa,Ja,Ka,La,Ma⟩:=zsR ha100 A;refine⟨dc,la,(by first|exact S|(rw[ha100.slLen];exact S)),_,_,_,_,_,_,(Ja _ (Sub.trans o u.sub)).1,?_⟩;intro Xc Na;obtain⟨oc,Oa,Pa,Qa⟩:=u.blk Na e 2;have i:=i.k Pa;obtain⟨Ra,Sa,Ta,Ua,Va⟩:=Qa.sto Oa [Il d.From,.bool d.Whole,Il d.Least,da,ea,fa];have i:=i.k Ua;refine⟨Ra,Sa,?_⟩;refine⟨trivial,?_⟩;obtain⟨Wa,Xa,Ya,Za,B⟩:=Va.sto1 Ta 2 (Il 0) (by simp) rfl
    replace B:Lb _ _ _ _ _ _ _ [Il d.From,.bool d.Whole,Il 0,da,ea,fa]:=B
    have i:=i.k Za;refine⟨Wa,Xa,?_⟩;refine⟨_,_,_,_,_,_,B.bk.ra,?_⟩;obtain⟨ab,hp⟩:=zrC hp;intro Yc bb;obtain⟨cb,db,eb,fb,gb,pc,hb⟩:=i.app' zv6 Ya (a:=({ From:=d.From,Whole:=d.Whole,Least:=(0:Int),Weeks:=d.Weeks,Counts:=d.Counts,Rates:=d.Rates }:Tf)) (show Rp.rep (α:=Tf) p _ ({ From:=d.From,Whole:=d.Whole,Least:=(0:Int),Weeks:=d.Weeks,Counts:=d.Counts,Rates:=d.Rates }:Tf) from ⟨_,_,_,rfl,(Ka.sub o),(La.sub o),(Ma.sub o)⟩) ab bb;refine⟨cb,db,fb,?_⟩;refine gdi hp fun ib hp=>?_;exact ac _ _ _ _ p eb gb o hb hp
   obtain⟨qc,ga,sc,w⟩:=i.freeze u;obtain⟨jb,kb,hp⟩:=zrB hp;refine zwk (l:=j) (day:=((zno .i64 day) % (121:Int))) ga.pre w kb fun Zc tc uc vc wc mb xc g yc=>?_;obtain⟨ha,D⟩:=ga.callG mb e;refine⟨_,_,_,_,_,_,rfl,?_⟩;obtain⟨zc,ob,hp⟩:=zrB hp;refine zwj (l:=jb.Counts) (n:=((zno .i64 count) % (101:Int))) ha.pre g ob fun ad pb=>?_;obtain⟨F,Ac⟩:=ha.call pb e;refine⟨_,rfl,?_⟩;obtain⟨qb,rb,hp⟩:=zrB hp;refine zxU (l:=j) F.pre (w.sub D.fs) rb fun bd Bc Cc sb tb=>?_;obtain⟨G,q⟩:=F.callG sb e;refine⟨_,rfl,?_⟩;obtain⟨ub,y,hp⟩:=zrB hp;obtain⟨ec,ma,T,y⟩:=zrv y;refine⟨ec,ma,(by first|exact T|(rw[g.slLen];exact T)),_,(g.rdI y (Sub.trans q.fs G.sub)),(g.rdI y F.sub),?_⟩;obtain⟨Dc,vb,hp⟩:=zrB hp;refine zxQ (l:=qb) (crop:=((zno .i64 crop) % s)) (day:=((zno .i64 day) % (121:Int))) (count:=ub) G.pre tb vb fun cd wb=>?_;obtain⟨I,Ec⟩:=G.call wb e;refine⟨_,_,rfl,?_⟩;obtain⟨xb,yb,hp⟩:=zrB hp;refine zxU (l:=j) I.pre (w.sub (Sub.trans D.fs q.fs)) yb fun dd Fc Gc zb Ab=>?_;obtain⟨J,N⟩:=I.callG zb e;refine⟨_,rfl,?_⟩;obtain⟨Bb,hp⟩:=zrC hp;refine⟨Bb,g.isSl,⟨g.isSl,rfl⟩,?_⟩;obtain⟨ia,hp⟩:=zrC hp;refine⟨(by first|exact ia|(rw[g.slLen];exact ia)),?_⟩;obtain⟨Cb,z,hp⟩:=zrB hp;obtain⟨fc,Y,Z,z⟩:=zrv z;refine⟨fc,(by first|exact Y|(rw[g.slLen];exact Y)),(by first|exact Z|(rw[g.slLen];exact Z)),_,(g.rdI z (Sub.trans (Sub.trans q.fs N.fs) J.sub)),(g.rdI z (Sub.trans q.fs I.sub)),?_⟩;obtain⟨Hc,Db,hp⟩:=zrB hp;refine zxQ (l:=xb) (crop:=((zno .i64 crop) % s)) (day:=((zno .i64 day) % (121:Int))) (count:=Cb) J.pre Ab Db fun ed Eb=>?_
   obtain⟨ja,Ic⟩:=J.call Eb e;refine⟨_,_,rfl,?_⟩;obtain⟨Fb,Gb,hp⟩:=zrB hp;refine zxU (l:=j) ja.pre (w.sub (Sub.trans (Sub.trans D.fs q.fs) N.fs)) Gb fun fd Jc Kc Hb Ib=>?_;obtain⟨ka,Jb⟩:=ja.callG Hb e;refine⟨_,rfl,?_⟩;obtain⟨Nc,Kb,hp⟩:=zrB hp;refine zxQ (l:=Fb) (crop:=((zno .i64 crop) % s)) (day:=((zno .i64 day) % (121:Int))) (count:=((zno .i64 count) % (101:Int))) ka.pre Ib Kb fun hd Mb=>?_;obtain⟨h,Oc⟩:=ka.call Mb e;refine⟨_,_,rfl,?_⟩;refine ifd hp (fun Nb hp=>?_) fun Nb hp=>?_; rotate_left
   ·obtain rfl:=oi hp;exact hq _ h.ext'
   refine ifd hp (fun Ob hp=>?_) fun Ob hp=>?_; rotate_left
   ·obtain rfl:=oi hp;exact hq _ h.ext'
   refine ifd hp (fun Pb hp=>?_) fun Pb hp=>?_; rotate_left
   ·obtain rfl:=oi hp;exact hq _ h.ext'
   refine ifd hp (fun Qb hp=>?_) fun Qb hp=>?_; rotate_left
   ·obtain rfl:=oi hp;exact hq _ h.ext'
   refine ifd hp (fun Rb hp=>?_) fun Rb hp=>?_; rotate_left
   ·obtain rfl:=oi hp;exact hq _ h.ext'
   obtain⟨Pc,O,hp⟩:=zrB hp;obtain⟨gc,na,aa,O⟩:=zrv O;refine⟨gc,na,(by first|exact aa|(rw[g.slLen];exact aa)),_,(g.rdI O (Sub.trans (Sub.trans (Sub.trans q.fs N.fs) Jb.fs) h.sub)),?_⟩;refine zr9 hp (fun Sb hp=>?_) fun Sb hp=>?_
   ·obtain⟨Qc,Tb,hp⟩:=zrB hp;refine zwe h.pre  Tb fun id Ub=>?_;obtain⟨Vb,Rc⟩:=h.call Ub e;refine⟨_,rfl,?_⟩;obtain rfl:=oi hp;exact hq _ Vb.ext'
   refine ifd hp (fun Wb hp=>?_) fun Wb hp=>?_; rotate_left
   ·obtain rfl:=oi hp;exact hq _ h.ext'
   obtain⟨Tc,Xb,hp⟩:=zrB hp;refine zwe h.pre  Xb fun jd Yb=>?_;obtain⟨Zb,Uc⟩:=h.call Yb e;refine⟨_,rfl,?_⟩;obtain rfl:=oi hp;exact hq _ Zb.ext'
 exact hgo _ _ _ _ _ f τ0 ya (Sub.refl _) (Ow.nil _ _ _ _ _) hp
theorem zx2{l:List Tf}{c:Clm}{wd:Int}{day:Int}{count:Int}{ca100:C}{m f:M}{Q:V->M->Prop}{rz:Bool}(hS:Pre f m)(ha100:Sl f ca100 l)(hp:zvn l c wd day count=some rz)(hq:∀m',Ext m m'->Q (.c (.bool rz)) m'):Wc prog tbl 14 [.c ca100,.agg 6 [Il c.Crop,Il c.Value,Il c.Day.Lo,Il c.Day.Hi,Il c.Count.Lo,Il c.Count.Hi],.c (.int .u8 wd),.c (.int .u8 day),.c (.int .u8 count)] m Q:=by
 have S0:=hS.st;obtain⟨τ0,_⟩:=zsO;refine w14 ?_;unfold zvn at hp;intro m0 sb;obtain⟨I,sa,Qg,ta⟩:=S0.blk sb τ0 1;refine⟨_,_,_,_,_,_,ta.bk.ra,?_⟩;obtain⟨Sg,tb,hp⟩:=zrB hp;refine zwD (l:=l) (c:=c) sa.pre ha100 tb fun m8 ub=>?_;obtain⟨J,vb⟩:=sa.call ub I;have wb:=ta.k vb;refine⟨_,rfl,?_⟩;refine zsb hp (fun xb hp=>?_) fun xb hp=>?_
 ·obtain⟨Tg,yb,hp⟩:=zrB hp;refine zwe J.pre  yb fun Ch zb=>?_;obtain⟨Ab,Ug⟩:=J.call zb I;refine⟨_,rfl,?_⟩;obtain rfl:=oi hp;exact hq _ Ab.ext'
 intro Dh Bb;obtain⟨Cb,Db,Eb,ob⟩:=J.growK Bb I 2;have N:=wb.k Eb;have Fb:=ob 0 (by decide);refine⟨_,_,_,_,_,_,N.bk.ra,_,_,_,_,_,_,N.bk.ra,?_⟩;intro Eh Gb;obtain⟨ua,Hb,va,Ib⟩:=Db.blk Gb Cb 3;have O:=N.k va;have Jb:=Fb.k va;refine⟨(O.bk.ra),(O.bk.ra),?_⟩;intro Fh Kb;obtain⟨Mb,wa,Nb⟩:=Jb.set Hb Kb;have P:=O.k wa;have Ob:=Ib.k wa;refine⟨(P.bk.ra),(P.bk.ra),?_⟩;obtain⟨Pb,Qb,Rb,xa,Sb⟩:=Ob.sto Mb [Il c.Crop,Il c.Value,Il c.Day.Lo,Il c.Day.Hi,Il c.Count.Lo,Il c.Count.Hi];have ya:=P.k xa;have Tb:=Nb.k xa;refine⟨Pb,Qb,?_⟩;refine⟨(ya.bk.ra),?_⟩;obtain⟨Ub,Vb,Wb,za,Xb⟩:=Tb.sto Rb [Il c.Crop,Il c.Value,Il c.Day.Lo,Il c.Day.Hi,Il c.Count.Lo,Il c.Count.Hi];have S:=ya.k za;have Yb:=Sb.k za;refine⟨Ub,Vb,?_⟩;refine⟨trivial,trivial,_,S.bk.rc rfl,?_⟩;refine gdi hp fun Zb hp=>?_;refine gdi hp fun ac hp=>?_;refine gdi hp fun bc hp=>?_;obtain⟨cc,hp⟩:=zrC hp;refine⟨cc,trivial,trivial,_,S.bk.rc rfl,?_⟩;refine gdi hp fun dc hp=>?_;refine gdi hp fun ec hp=>?_;refine gdi hp fun fc hp=>?_;refine gdi hp fun gc hp=>?_;refine gdi hp fun hc hp=>?_;refine gdi hp fun ic hp=>?_;obtain⟨jc,hp⟩:=zrC hp;refine⟨jc,trivial,?_⟩;obtain⟨kc,nc,oc,Aa,T⟩:=Yb.stoP Wb 2 [(Il (max (0:Int) (c.Day.Lo - ((zno .i64 wd) % (3:Int))))),(Il (min (120:Int) (c.Day.Hi+(((zno .i64 wd) / (3:Int)) % (3:Int)))))] (Nat.le_of_ble_eq_true rfl) rfl
 replace T:Lb _ _ _ _ _ _ _ [Il c.Crop,Il c.Value,(Il (max (0:Int) (c.Day.Lo - ((zno .i64 wd) % (3:Int))))),(Il (min (120:Int) (c.Day.Hi+(((zno .i64 wd) / (3:Int)) % (3:Int))))),Il c.Count.Lo,Il c.Count.Hi]:=T
 have Y:=S.k Aa;have pc:=Xb.k Aa;refine⟨kc,nc,?_⟩;refine⟨trivial,trivial,_,Y.bk.rc rfl,?_⟩;refine gdi hp fun qc hp=>?_;refine gdi hp fun sc hp=>?_;refine gdi hp fun tc hp=>?_;refine gdi hp fun uc hp=>?_;refine gdi hp fun vc hp=>?_;refine gdi hp fun wc hp=>?_;obtain⟨xc,hp⟩:=zrC hp;refine⟨xc,trivial,trivial,_,Y.bk.rc rfl,?_⟩;refine gdi hp fun yc hp=>?_;refine gdi hp fun zc hp=>?_;refine gdi hp fun Ac hp=>?_;refine gdi hp fun Bc hp=>?_;refine gdi hp fun Cc hp=>?_;refine gdi hp fun Dc hp=>?_;obtain⟨Ec,hp⟩:=zrC hp;refine⟨Ec,trivial,?_⟩;obtain⟨Fc,Gc,Ba,Ca,Z⟩:=T.stoP oc 4 [(Il (max (0:Int) (c.Count.Lo - (((zno .i64 wd) / (9:Int)) % (9:Int))))),(Il (min (100:Int) (c.Count.Hi+(((zno .i64 wd) / (81:Int)) * (7:Int)))))] (Nat.le_of_ble_eq_true rfl) rfl
 replace Z:Lb _ _ _ _ _ _ _ [Il c.Crop,Il c.Value,(Il (max (0:Int) (c.Day.Lo - ((zno .i64 wd) % (3:Int))))),(Il (min (120:Int) (c.Day.Hi+(((zno .i64 wd) / (3:Int)) % (3:Int))))),(Il (max (0:Int) (c.Count.Lo - (((zno .i64 wd) / (9:Int)) % (9:Int))))),(Il (min (100:Int) (c.Count.Hi+(((zno .i64 wd) / (81:Int)) * (7:Int)))))]:=Z
 have Da:=Y.k Ca;have Hc:=pc.k Ca;refine⟨Fc,Gc,?_⟩;refine⟨_,_,_,_,_,_,Da.bk.ra,?_⟩;obtain⟨a,Ic,hp⟩:=zrB hp;refine zwF (c:=c) (day:=day) (count:=count) Ba.pre  Ic fun Gh Jc=>?_;obtain⟨Kc,aa⟩:=Ba.call Jc ua;have Nc:=Da.k aa;have Oc:=Z.k aa;have Pc:=Hc.k aa;refine⟨_,_,rfl,?_⟩;intro Hh Qc;obtain⟨Rc,Tc,ba,Uc⟩:=Kc.blk Qc ua 4;have Vc:=Nc.k ba;have Xc:=Oc.k ba;have Yc:=Pc.k ba;obtain⟨Zc,ad,bd,ca,n⟩:=Uc.sto Tc [Il a.Day,Il a.Count];have cd:=Vc.k ca;have dd:=Xc.k ca;have ed:=Yc.k ca;refine⟨Zc,ad,?_⟩;refine⟨trivial,_,n.bk.rc rfl,trivial,_,n.bk.rc rfl,trivial,_,n.bk.rc rfl,trivial,_,n.bk.rc rfl,trivial,?_⟩;obtain⟨fd,hd,id,da,ea⟩:=ed.stoP bd 2 [Il a.Day,Il a.Day] (Nat.le_of_ble_eq_true rfl) rfl
 replace ea:Lb _ _ _ _ _ _ _ [Il c.Crop,Il c.Value,Il a.Day,Il a.Day,Il c.Count.Lo,Il c.Count.Hi]:=ea
 have jd:=cd.k da;have kd:=dd.k da;have fa:=n.k da;refine⟨fd,hd,?_⟩;refine⟨(fa.bk.rc rfl),(fa.bk.rc rfl),trivial,?_⟩;obtain⟨ld,md,nd,ga,ha⟩:=ea.stoP id 4 [Il a.Count,Il a.Count] (Nat.le_of_ble_eq_true rfl) rfl
 replace ha:Lb _ _ _ _ _ _ _ [Il c.Crop,Il c.Value,Il a.Day,Il a.Day,Il a.Count,Il a.Count]:=ha
 have od:=jd.k ga;have pd:=kd.k ga;have qd:=fa.k ga;refine⟨ld,md,?_⟩;intro Ih sd;obtain⟨y,Ea,z,pb⟩:=nd.growK sd Rc 5;have Fa:=od.k z;have td:=pd.k z;have ud:=ha.k z;have vd:=qd.k z;have xd:=pb 0 (by decide);obtain⟨yd,zd,hp⟩:=zrB hp;refine zxU (l:=l) Ea.pre ha100 zd fun Jh Vg Xg Ad Bd=>?_;obtain⟨Ga,e⟩:=Ea.callG Ad y;have Ha:=Fa.k e;have Cd:=td.k e;have Dd:=ud.k e;have Ed:=vd.k e;have Fd:=xd.k e;refine⟨_,rfl,_,_,_,_,_,_,Ha.bk.ra,(Fa.bk.ra),?_⟩;obtain⟨Gd,Hd,hp⟩:=zrB hp;refine zwv (c:=c) Ga.pre  Hd fun Kh Id=>?_;obtain⟨Ia,o⟩:=Ga.call Id y;have Jd:=Ha.k o;have Ld:=Cd.k o;have Md:=Dd.k o;have Nd:=Ed.k o;have Od:=Fd.k o;refine⟨_,_,_,_,_,_,rfl,?_⟩;obtain⟨Ja,Pd,hp⟩:=zrB hp;refine zxN (l:=yd) (c:=Gd) Ia.pre Bd Pd fun Lh Qd=>?_;obtain⟨Rd,p⟩:=Ia.call Qd y;have Sd:=Jd.k p;have Td:=Ld.k p;have Ud:=Md.k p;have Vd:=Nd.k p;have Wd:=Od.k p;refine⟨_,_,_,rfl,?_⟩;intro Mh Xd;obtain⟨Yd,A,Zd⟩:=Wd.set Rd Xd;have Ka:=Sd.k A;have ae:=Td.k A;have be:=Ud.k A;have ce:=Vd.k A;refine⟨(Ka.bk.ra),?_⟩;obtain⟨de,ee,fe,B,ge⟩:=Zd.sto Yd [Il Ja.1.Lo,Il Ja.1.Hi];have he:=Ka.k B;have ie:=ae.k B;have je:=be.k B;have ke:=ce.k B;refine⟨de,ee,?_⟩;intro Nh me;obtain⟨d,La,q,qb⟩:=fe.growK me y 6;have oe:=he.k q;have pe:=ie.k q;have Ma:=je.k q;have qe:=ke.k q;have re:=ge.k q;have se:=qb 0 (by decide);obtain⟨te,ue,hp⟩:=zrB hp;refine zxU (l:=l) La.pre (ha100.sub e.fs) ue fun Oh Zg ah ve we=>?_;obtain⟨Na,g⟩:=La.callG ve d;have xe:=oe.k g;have ye:=pe.k g;have Oa:=Ma.k g;have ze:=qe.k g;have Ae:=re.k g;have Be:=se.k g
 refine⟨_,rfl,_,_,_,_,_,_,Oa.bk.ra,(Ma.bk.ra),?_⟩;obtain⟨Ce,De,hp⟩:=zrB hp;refine zwv (c:=({ Crop:=c.Crop,Value:=c.Value,Day:=({ Lo:=a.Day,Hi:=a.Day }:Rg),Count:=({ Lo:=a.Count,Hi:=a.Count }:Rg) }:Clm)) Na.pre  De fun Ph Ee=>?_;obtain⟨Pa,i⟩:=Na.call Ee d;have Fe:=xe.k i;have Ge:=ye.k i;have He:=Oa.k i;have Ie:=ze.k i;have Je:=Ae.k i;have Ke:=Be.k i;refine⟨_,_,_,_,_,_,rfl,?_⟩;obtain⟨Qa,Me,hp⟩:=zrB hp;refine zxN (l:=te) (c:=Ce) Pa.pre we Me fun Qh Ne=>?_;obtain⟨Oe,j⟩:=Pa.call Ne d;have Pe:=Fe.k j;have Qe:=Ge.k j;have Re:=He.k j;have Se:=Ie.k j;have Te:=Je.k j;have Ue:=Ke.k j;refine⟨_,_,_,rfl,?_⟩;intro nh Ve;obtain⟨We,r,Xe⟩:=Ue.set Oe Ve;have Ye:=Pe.k r;have Ze:=Qe.k r;have af:=Re.k r;have bf:=Se.k r;have cf:=Te.k r;refine⟨(af.bk.ra),?_⟩;obtain⟨df,ef,Ra,D,gf⟩:=Xe.sto We [Il Qa.1.Lo,Il Qa.1.Hi];have Sa:=Ye.k D;have hf:=Ze.k D;have Ta:=bf.k D;have jf:=cf.k D;refine⟨df,ef,?_⟩;obtain⟨kf,lf,hp⟩:=zrB hp;refine zxU (l:=l) Ra.pre (ha100.sub (Sub.trans e.fs g.fs)) lf fun oh bh ch mf nf=>?_;obtain⟨Ua,h⟩:=Ra.callG mf d;have pf:=Sa.k h;have qf:=hf.k h;have Va:=Ta.k h;have rf:=jf.k h;have sf:=gf.k h;refine⟨_,rfl,_,_,_,_,_,_,pf.bk.ra,(Sa.bk.ra),?_⟩;obtain⟨tf,uf,hp⟩:=zrB hp;refine zwv (c:=c) Ua.pre  uf fun ph vf=>?_;obtain⟨Wa,F⟩:=Ua.call vf d;have wf:=qf.k F;have xf:=Va.k F;have yf:=rf.k F;have zf:=sf.k F;refine⟨_,_,_,_,_,_,rfl,_,_,xf.bk.ra,(Va.bk.ra),(Ta.bk.ra),?_⟩;obtain⟨Af,Bf,hp⟩:=zrB hp;refine zww (t:=a) Wa.pre  Bf fun qh Cf=>?_;obtain⟨Xa,ia⟩:=Wa.call Cf d
 have Df:=wf.k ia;have Ef:=yf.k ia;have Ff:=zf.k ia;refine⟨_,_,rfl,?_⟩;obtain⟨Ya,Gf,hp⟩:=zrB hp;refine zxR (l:=kf) (c:=tf) (t:=Af) Xa.pre nf Gf fun rh Hf=>?_;obtain⟨s,ja⟩:=Xa.call Hf d;have If:=Df.k ja;have Jf:=Ef.k ja;have Za:=Ff.k ja;refine⟨_,_,rfl,?_⟩;refine zr9 hp (fun Kf hp=>?_) fun Kf hp=>?_
 ·obtain rfl:=oi hp;exact hq _ s.ext'
 refine zr9 hp (fun Lf hp=>?_) fun Lf hp=>?_
 ·obtain rfl:=oi hp;exact hq _ s.ext'
 refine zr9 hp (fun Mf hp=>?_) fun Mf hp=>?_
 ·obtain rfl:=oi hp;exact hq _ s.ext'
 refine⟨_,_,Za.bk.ra,?_⟩;obtain⟨dh,Nf,hp⟩:=zrB hp;refine zwE (low:=Ya.1) (high:=Ya.1) s.pre  Nf fun th Of=>?_;obtain⟨u,ka⟩:=s.call Of d;have ab:=If.k ka;have la:=Jf.k ka;have ma:=Za.k ka;refine⟨_,_,rfl,(ma.bk.ra),?_⟩;refine gdi hp fun Pf hp=>?_;refine gdi hp fun Qf hp=>?_;refine gdi hp fun Rf hp=>?_;refine gdi hp fun Sf hp=>?_;refine zsb hp (fun Uf hp=>?_) fun Uf hp=>?_
 ·obtain rfl:=oi hp;exact hq _ u.ext'
 refine⟨trivial,_,ma.bk.rc rfl,trivial,_,la.bk.rc rfl,?_⟩;refine ifd hp (fun Vf hp=>?_) fun Vf hp=>?_
 ·obtain rfl:=oi hp;exact hq _ u.ext'
 refine⟨trivial,_,ma.bk.rc rfl,trivial,_,la.bk.rc rfl,?_⟩;refine ifd hp (fun Wf hp=>?_) fun Wf hp=>?_
 ·obtain rfl:=oi hp;exact hq _ u.ext'
 refine⟨_,_,_,_,_,_,ab.bk.ra,?_⟩;obtain⟨eh,Xf,hp⟩:=zrB hp;refine zwD (l:=l) (c:=({ Crop:=c.Crop,Value:=c.Value,Day:=({ Lo:=(max (0:Int) (c.Day.Lo - ((zno .i64 wd) % (3:Int)))),Hi:=(min (120:Int) (c.Day.Hi+(((zno .i64 wd) / (3:Int)) % (3:Int)))) }:Rg),Count:=({ Lo:=(max (0:Int) (c.Count.Lo - (((zno .i64 wd) / (9:Int)) % (9:Int)))),Hi:=(min (100:Int) (c.Count.Hi+(((zno .i64 wd) / (81:Int)) * (7:Int)))) }:Rg) }:Clm)) u.pre (ha100.sub (Sub.trans (Sub.trans e.fs g.fs) h.fs)) Xf fun uh Yf=>?_;obtain⟨na,bb⟩:=u.call Yf d;have Zf:=ab.k bb;have ag:=la.k bb;refine⟨_,rfl,?_⟩;refine zsb hp (fun bg hp=>?_) fun bg hp=>?_
 ·obtain⟨fh,cg,hp⟩:=zrB hp;refine zwe na.pre  cg fun vh dg=>?_;obtain⟨eg,gh⟩:=na.call dg d;refine⟨_,rfl,?_⟩;obtain rfl:=oi hp;exact hq _ eg.ext'
 intro wh fg;obtain⟨G,cb,db,rb⟩:=na.growK fg d 7;have eb:=Zf.k db;have gg:=ag.k db;have hg:=rb 0 (by decide);obtain⟨ig,jg,hp⟩:=zrB hp;refine zxU (l:=l) cb.pre (ha100.sub (Sub.trans (Sub.trans e.fs g.fs) h.fs)) jg fun xh hh ih kg lg=>?_;obtain⟨fb,oa⟩:=cb.callG kg G;have gb:=eb.k oa;have mg:=gg.k oa;have ng:=hg.k oa;refine⟨_,rfl,_,_,_,_,_,_,gb.bk.ra,(eb.bk.ra),?_⟩;obtain⟨og,pg,hp⟩:=zrB hp;refine zwv (c:=({ Crop:=c.Crop,Value:=c.Value,Day:=({ Lo:=(max (0:Int) (c.Day.Lo - ((zno .i64 wd) % (3:Int)))),Hi:=(min (120:Int) (c.Day.Hi+(((zno .i64 wd) / (3:Int)) % (3:Int)))) }:Rg),Count:=({ Lo:=(max (0:Int) (c.Count.Lo - (((zno .i64 wd) / (9:Int)) % (9:Int)))),Hi:=(min (100:Int) (c.Count.Hi+(((zno .i64 wd) / (81:Int)) * (7:Int)))) }:Rg) }:Clm)) fb.pre  pg fun yh qg=>?_;obtain⟨hb,pa⟩:=fb.call qg G;have rg:=gb.k pa;have sg:=mg.k pa;have tg:=ng.k pa;refine⟨_,_,_,_,_,_,rfl,?_⟩;obtain⟨ib,ug,hp⟩:=zrB hp;refine zxN (l:=ig) (c:=og) hb.pre lg ug fun zh vg=>?_;obtain⟨xg,qa⟩:=hb.call vg G;have zg:=rg.k qa;have Ag:=sg.k qa;have Bg:=tg.k qa;refine⟨_,_,_,rfl,?_⟩;intro Ah Cg;obtain⟨Dg,jb,Eg⟩:=Bg.set xg Cg;have Fg:=zg.k jb;have Gg:=Ag.k jb;refine⟨(Fg.bk.ra),?_⟩;obtain⟨Hg,Ig,w,Jg,kb⟩:=Eg.sto Dg [Il ib.1.Lo,Il ib.1.Hi];have mb:=Gg.k Jg;refine⟨Hg,Ig,?_⟩;refine ifd hp (fun Kg hp=>?_) fun Kg hp=>?_; rotate_left
 ·obtain rfl:=oi hp;exact hq _ w.ext'
 refine⟨trivial,_,kb.bk.rc rfl,trivial,_,mb.bk.rc rfl,?_⟩;refine ifd hp (fun Lg hp=>?_) fun Lg hp=>?_; rotate_left
 ·obtain rfl:=oi hp;exact hq _ w.ext'
 refine⟨trivial,_,mb.bk.rc rfl,trivial,_,kb.bk.rc rfl,?_⟩;refine ifd hp (fun Mg hp=>?_) fun Mg hp=>?_; rotate_left
 ·obtain rfl:=oi hp;exact hq _ w.ext'
 obtain⟨jh,Ng,hp⟩:=zrB hp;refine zwe w.pre  Ng fun Bh Og=>?_;obtain⟨Pg,kh⟩:=w.call Og G;refine⟨_,rfl,?_⟩;obtain rfl:=oi hp;exact hq _ Pg.ext'
theorem zx3{l:List Tf}{claims:List Clm}{more:Clm}{wd:Int}{ca100 ca200:C}{m f:M}{Q:V->M->Prop}{rz:Bool}(hS:Pre f m)(ha100:Sl f ca100 l)(ha200:Sl f ca200 claims)(hp:zvq l claims more wd=some rz)(hq:∀m',Ext m m'->Q (.c (.bool rz)) m'):Wc prog tbl 15 [.c ca100,.c ca200,.agg 6 [Il more.Crop,Il more.Value,Il more.Day.Lo,Il more.Day.Hi,Il more.Count.Lo,Il more.Count.Hi],.c (.int .u8 wd)] m Q:=by
 have S0:=hS.st;obtain⟨τ0,_⟩:=zsO;refine w15 ?_;unfold zvq at hp;intro m0 tb;obtain⟨ea,Fa,Kg,Ga⟩:=S0.blk tb τ0 1;refine⟨_,_,_,_,_,_,Ga.bk.ra,?_⟩;obtain⟨Lg,ub,hp⟩:=zrB hp;refine zwD (l:=l) (c:=more) Fa.pre ha100 ub fun m8 vb=>?_;obtain⟨O,wb⟩:=Fa.call vb ea;have o:=Ga.k wb;refine⟨_,rfl,?_⟩;refine zsb hp (fun xb hp=>?_) fun xb hp=>?_
 ·obtain⟨Mg,yb,hp⟩:=zrB hp;refine zwe O.pre  yb fun Ah zb=>?_;obtain⟨Ab,Ng⟩:=O.call zb ea;refine⟨_,rfl,?_⟩;obtain rfl:=oi hp;exact hq _ Ab.ext'
 refine⟨ha200.isSl,?_⟩
 try rw[ha200.slLen]
 refine ifd hp (fun Bb hp=>?_) fun Bb hp=>?_
 ·obtain⟨Og,Cb,hp⟩:=zrB hp;refine zwe O.pre  Cb fun Bh Db=>?_;obtain⟨Eb,Pg⟩:=O.call Db ea;refine⟨_,rfl,?_⟩;obtain rfl:=oi hp;exact hq _ Eb.ext'
 intro Gg Eg
 have hgo:∀(fa:Nat) (pb:Bool) (Ha:Int) (Aa:M) (p:M) (s:Nat->Nat),St (Fm.of m) f p Aa->Sub f p->Lb (Fm.of m) p s Aa 1 m.nxt 6 [Il more.Crop,Il more.Value,Il more.Day.Lo,Il more.Day.Hi,Il more.Count.Lo,Il more.Count.Hi]->zvp l claims more wd fa Ha=some rz->Gg [.c (.bool pb),.c (Il Ha)] Aa:=by
  intro fa
  induction fa with
  | zero=>intro pb Ha Aa p s P h o hp; cases hp
  | succ fa Fb=>
   intro pb Ha Aa p s P h o hp;refine Eg _ _ _ ?_;rw[zvp] at hp;refine⟨ha200.isSl,?_⟩
   try rw[ha200.slLen]
   refine ifd hp (fun Gb hp=>?_) fun Gb hp=>?_
   ·obtain⟨Hb,ta,hp⟩:=zrB hp;obtain⟨Hg,qb,Ba,ta⟩:=zrv ta;obtain⟨_,Ib⟩:=zsT ha200 ta;refine⟨Hg,qb,(by first|exact Ba|(rw[ha200.slLen];exact Ba)),_,_,_,_,_,_,(Ib _ (Sub.trans h P.sub)).1,?_⟩;obtain⟨Qg,Jb,hp⟩:=zrB hp;refine zwD (l:=l) (c:=Hb) P.pre (ha100.sub h) Jb fun Ch Kb=>?_;obtain⟨ua,Mb⟩:=P.call Kb s;have Nb:=o.k Mb;refine⟨_,rfl,?_⟩;refine zsb hp (fun Ob hp=>?_) fun Ob hp=>?_; rotate_left
    ·refine gdi hp fun Pb hp=>?_;exact Fb _ _ _ p s ua h Nb hp
    obtain⟨Sg,Qb,hp⟩:=zrB hp;refine zwe ua.pre  Qb fun Dh Rb=>?_;obtain⟨Sb,Tg⟩:=ua.call Rb s;refine⟨_,rfl,?_⟩;obtain rfl:=oi hp;exact hq _ Sb.ext'
   intro Ig Fg
   have hgo:∀(ga:Nat) (Ia:C) (Ja:Int) (A:List Clm) (sa:M) (q:M) (r:Nat->Nat),St (Fm.of m) f q sa->Sub p q->Lb (Fm.of m) q r sa 1 m.nxt 6 [Il more.Crop,Il more.Value,Il more.Day.Lo,Il more.Day.Hi,Il more.Count.Lo,Il more.Count.Hi]->Ow (Fm.of m) q r sa 2 Ia A->zvo l claims more wd ga A Ja=some rz->Ig [.c Ia,.c (Il Ja)] sa:=by
    intro ga
    induction ga with
    | zero=>intro Ia Ja A sa q r S n o e hp; cases hp
    | succ ga Tb=>
     intro Ia Ja A sa q r S n o e hp;refine Fg _ _ _ ?_;rw[zvo] at hp;refine⟨ha200.isSl,?_⟩
     try rw[ha200.slLen]
     refine ifd hp (fun Ub hp=>?_) fun Ub hp=>?_
     ·obtain⟨Vb,hp⟩:=zrC hp;refine⟨Vb,ha200.isSl,?_⟩;refine gdi hp fun Wb hp=>?_;obtain⟨Ka,hp⟩:=zrC hp;refine⟨(by first|exact Ka|(rw[ha200.slLen];exact Ka)),?_⟩;obtain⟨La,hp⟩:=zrC hp;refine⟨(by first|exact La|(rw[ha200.slLen];exact La)),?_⟩;obtain⟨Ma,va,hp⟩:=zrB hp;obtain⟨Jg,Ca,Da,va⟩:=zrv va;obtain⟨_,Xb⟩:=zsT ha200 va;refine⟨Jg,(by first|exact Ca|(rw[ha200.slLen];exact Ca)),(by first|exact Da|(rw[ha200.slLen];exact Da)),_,_,_,_,_,_,(Xb _ (Sub.trans (Sub.trans h n) S.sub)).1,?_⟩;obtain⟨Yb,hp⟩:=zrC hp;intro Eh Zb;obtain⟨ac,bc,cc,dc,ec,fc,gc⟩:=e.app' zv8 S (a:=Ma) (show Rp.rep (α:=Clm) q _ Ma from rfl) Yb Zb;have hc:=o.k fc;refine⟨ac,bc,dc,?_⟩;refine gdi hp fun ic hp=>?_;exact Tb _ _ _ _ q cc ec n hc gc hp
     obtain⟨jc,kc,hp⟩:=zrB hp;refine zxU (l:=l) S.pre (ha100.sub (Sub.trans h n)) kc fun Fh Ug Vg nc oc=>?_;obtain⟨Na,B⟩:=S.callG nc r;have pc:=o.k B;have e:=e.k B;refine⟨_,rfl,?_⟩;obtain⟨qc,sc,hp⟩:=zrB hp;refine zwy (l:=claims) Na.pre (ha200.sub (Sub.trans (Sub.trans h n) B.fs)) sc fun Gh Xg Zg tc uc=>?_;obtain⟨Oa,D⟩:=Na.callG tc r;have vc:=pc.k D;have e:=e.k D;refine⟨_,rfl,?_⟩;obtain⟨ha,wc,hp⟩:=zrB hp;refine zxP (l:=jc) (claims:=qc) Oa.pre (oc.sub D.fs) uc wc fun Hh xc=>?_;obtain⟨yc,Pa⟩:=Oa.call xc r;have zc:=vc.k Pa;have e:=e.k Pa;refine⟨_,_,_,rfl,?_⟩;intro Ih Ac;obtain⟨ia,Bc,Qa,Cc⟩:=yc.blk Ac r 3;have Dc:=zc.k Qa;have e:=e.k Qa;obtain⟨Ec,Fc,Ra,Sa,Gc⟩:=Cc.sto Bc [Il ha.1.Lo,Il ha.1.Hi];have Hc:=Dc.k Sa;have e:=e.k Sa;refine⟨Ec,Fc,?_⟩;obtain⟨Ic,Jc,hp⟩:=zrB hp;refine zxU (l:=l) Ra.pre (ha100.sub (Sub.trans (Sub.trans (Sub.trans h n) B.fs) D.fs)) Jc fun Jh ah bh Kc Nc=>?_;obtain⟨ja,T⟩:=Ra.callG Kc ia;have Oc:=Hc.k T;have Pc:=Gc.k T;have e:=e.k T;refine⟨_,rfl,?_⟩;obtain⟨ch,Ta,F,Qc⟩:=e.freeze ja;have Rc:=Oc.k F;have Tc:=Pc.k F;obtain⟨Uc,Vc,hp⟩:=zrB hp;refine zwy (l:=A) Ta.pre Qc Vc fun Kh dh eh Xc Yc=>?_;obtain⟨Ua,t⟩:=Ta.callG Xc ia;have Zc:=Rc.k t;have ad:=Tc.k t;have bd:=e.k t.old;refine⟨_,rfl,?_⟩;obtain⟨Va,cd,hp⟩:=zrB hp;refine zxP (l:=Ic) (claims:=Uc) Ua.pre (Nc.sub (Sub.trans F.fs t.fs)) Yc cd fun Lh dd=>?_;obtain⟨ed,wa⟩:=Ua.call dd ia;have fd:=Zc.k wa;have hd:=ad.k wa;have d:=bd.k wa.old;have id:=ed.forget ja (Sub.trans F.fs t.fs)
     have jd:=fd.forget ja (Sub.trans F.fs t.fs);have kd:=hd.forget ja (Sub.trans F.fs t.fs);refine⟨_,_,_,rfl,?_⟩;intro Mh ld;obtain⟨md,nd,xa,od⟩:=id.blk ld ia 4;have pd:=jd.k xa;have qd:=kd.k xa;have d:=d.k xa;obtain⟨sd,td,ud,ya,vd⟩:=od.sto nd [Il Va.1.Lo,Il Va.1.Hi];have xd:=pd.k ya;have yd:=qd.k ya;have d:=d.k ya;refine⟨sd,td,?_⟩;intro Nh zd;obtain⟨ka,Wa,la,rb⟩:=ud.growK zd md 5;have Xa:=xd.k la;have Ad:=yd.k la;have Bd:=vd.k la;have d:=d.k la;have Cd:=rb 0 (by decide);obtain⟨Dd,Ed,hp⟩:=zrB hp;refine zxU (l:=l) Wa.pre (ha100.sub (Sub.trans (Sub.trans (Sub.trans (Sub.trans h n) B.fs) D.fs) T.fs)) Ed fun Oh fh gh Fd Gd=>?_;obtain⟨Ya,G⟩:=Wa.callG Fd ka;have Za:=Xa.k G;have Hd:=Ad.k G;have Id:=Bd.k G;have Jd:=Cd.k G;have d:=d.k G;refine⟨_,rfl,_,_,_,_,_,_,Za.bk.ra,(Xa.bk.ra),?_⟩;obtain⟨Ld,Md,hp⟩:=zrB hp;refine zwv (c:=more) Ya.pre  Md fun Ph Nd=>?_;obtain⟨ab,Y⟩:=Ya.call Nd ka;have Od:=Za.k Y;have Pd:=Hd.k Y;have Qd:=Id.k Y;have Rd:=Jd.k Y;have d:=d.k Y;refine⟨_,_,_,_,_,_,rfl,?_⟩;obtain⟨ma,Sd,hp⟩:=zrB hp;refine zxN (l:=Dd) (c:=Ld) ab.pre Gd Sd fun Qh Td=>?_;obtain⟨Ud,Z⟩:=ab.call Td ka;have Vd:=Od.k Z;have Wd:=Pd.k Z;have Xd:=Qd.k Z;have Yd:=Rd.k Z;have d:=d.k Z;refine⟨_,_,_,rfl,?_⟩;intro Rh Zd;obtain⟨ae,na,be⟩:=Yd.set Ud Zd;have bb:=Vd.k na;have ce:=Wd.k na;have de:=Xd.k na;have d:=d.k na;refine⟨(bb.bk.ra),?_⟩;obtain⟨cb,ee,fe,oa,ge⟩:=be.sto ae [Il ma.1.Lo,Il ma.1.Hi];have he:=bb.k oa;have ie:=ce.k oa;have je:=de.k oa;have d:=d.k oa;refine⟨cb,ee,?_⟩
     intro Sh ke;obtain⟨me,db,aa,Ea⟩:=fe.growK ke ka 6;have eb:=he.k aa;have oe:=ie.k aa;have pe:=je.k aa;have qe:=ge.k aa;have d:=d.k aa;have re:=Ea 0 (by decide);have se:=Ea 1 (by decide);obtain⟨te,ue,hp⟩:=zrB hp;refine zxU (l:=l) db.pre (ha100.sub (Sub.trans (Sub.trans (Sub.trans (Sub.trans (Sub.trans h n) B.fs) D.fs) T.fs) G.fs)) ue fun rh hh ih ve we=>?_;obtain⟨xe,u⟩:=db.callG ve me;have fb:=eb.k u;have ye:=oe.k u;have ze:=pe.k u;have Ae:=qe.k u;have Be:=re.k u;have Ce:=se.k u;have d:=d.k u;refine⟨_,rfl,_,_,_,_,_,_,fb.bk.ra,(eb.bk.ra),?_⟩;intro th De;obtain⟨Ee,I,Fe⟩:=Be.set xe De;have Ge:=fb.k I;have He:=ye.k I;have Ie:=ze.k I;have Je:=Ae.k I;have Ke:=Ce.k I;have d:=d.k I;obtain⟨gb,Me,w,sb⟩:=Fe.freeze Ee;have Ne:=Ge.k w;have Oe:=He.k w;have Pe:=Ie.k w;have Qe:=Je.k w;have Re:=Ke.k w;have d:=d.k w;have Se:Sl gb (C.sl (cb.nxt+0) 0 1 0 (Option.some 1)) ([more]:List Clm):=Bk.sl (α:=Clm) (l:=([more]:List Clm)) sb (show Cat (α:=Clm) gb [Il more.Crop,Il more.Value,Il more.Day.Lo,Il more.Day.Hi,Il more.Count.Lo,Il more.Count.Hi] ([more]:List Clm) from ⟨[Il more.Crop,Il more.Value,Il more.Day.Lo,Il more.Day.Hi,Il more.Count.Lo,Il more.Count.Hi],_,rfl,rfl,rfl⟩) rfl rfl _;obtain⟨Te,hp⟩:=zrC hp;obtain⟨Ue,Ve,ba,We,y,ca,hb⟩:=d.appL zv8 Me Se Te;have Xe:=Ne.k ca;have Ye:=Oe.k ca;have Ze:=Pe.k ca;have af:=Qe.k ca;have bf:=Re.k ca;refine⟨Ue,Ve,We,?_⟩;obtain⟨jh,ib,i,cf⟩:=hb.freeze y;have df:=Xe.k i;have ef:=Ye.k i;have gf:=Ze.k i;have hf:=af.k i;have jf:=bf.k i
     obtain⟨kf,lf,hp⟩:=zrB hp;refine zwy (l:=(A++([more]:List Clm))) ib.pre cf lf fun uh kh lh mf nf=>?_;obtain⟨jb,g⟩:=ib.callG mf ba;have pf:=df.k g;have qf:=ef.k g;have rf:=gf.k g;have sf:=hf.k g;have tf:=jf.k g;have uf:=hb.k g.old;refine⟨_,rfl,?_⟩;obtain⟨kb,vf,hp⟩:=zrB hp;refine zxP (l:=te) (claims:=kf) jb.pre (we.sub (Sub.trans (Sub.trans w.fs i.fs) g.fs)) nf vf fun vh wf=>?_;obtain⟨xf,J⟩:=jb.call wf ba;have yf:=pf.k J;have zf:=qf.k J;have Af:=rf.k J;have Bf:=sf.k J;have Cf:=tf.k J;have j:=uf.k J.old;have Df:=xf.forget y (Sub.trans i.fs g.fs);have Ef:=yf.forget y (Sub.trans i.fs g.fs);have Ff:=zf.forget y (Sub.trans i.fs g.fs);have Gf:=Af.forget y (Sub.trans i.fs g.fs);have Hf:=Bf.forget y (Sub.trans i.fs g.fs);have If:=Cf.forget y (Sub.trans i.fs g.fs);refine⟨_,_,_,rfl,?_⟩;intro wh Jf;obtain⟨Kf,da,Lf⟩:=If.set Df Jf;have Mf:=Ef.k da;have Nf:=Ff.k da;have Of:=Gf.k da;have Pf:=Hf.k da;have j:=j.k da;refine⟨(Mf.bk.ra),?_⟩;obtain⟨Qf,Rf,z,pa,mb⟩:=Lf.sto Kf [Il kb.1.Lo,Il kb.1.Hi];have qa:=Nf.k pa;have Sf:=Of.k pa;have ob:=Pf.k pa;have j:=j.k pa;refine⟨Qf,Rf,?_⟩;refine ifd hp (fun Uf hp=>?_) fun Uf hp=>?_; rotate_left
     ·obtain rfl:=oi hp;exact hq _ z.ext'
     refine ifd hp (fun Vf hp=>?_) fun Vf hp=>?_; rotate_left
     ·obtain rfl:=oi hp;exact hq _ z.ext'
     refine ifd hp (fun Wf hp=>?_) fun Wf hp=>?_; rotate_left
     ·obtain rfl:=oi hp;exact hq _ z.ext'
     refine ifd hp (fun Xf hp=>?_) fun Xf hp=>?_; rotate_left
     ·obtain rfl:=oi hp;exact hq _ z.ext'
     refine⟨_,_,qa.bk.ra,_,_,Sf.bk.ra,?_⟩;refine gdi hp fun Yf hp=>?_;refine gdi hp fun Zf hp=>?_;refine gdi hp fun ag hp=>?_;refine gdi hp fun bg hp=>?_;refine zsa hp (fun cg hp=>?_) fun cg hp=>?_; rotate_left
     ·obtain rfl:=oi hp;exact hq _ z.ext'
     refine⟨_,_,mb.bk.ra,trivial,_,qa.bk.rc rfl,trivial,_,ob.bk.rc rfl,?_⟩;obtain⟨dg,hp⟩:=zrC hp;refine⟨dg,trivial,_,qa.bk.rc rfl,trivial,_,ob.bk.rc rfl,?_⟩;refine gdi hp fun eg hp=>?_;obtain⟨mh,fg,hp⟩:=zrB hp;refine zwE (low:=(ha.1.Lo+ma.1.Lo)) (high:=(ha.1.Hi+ma.1.Hi)) z.pre  fg fun xh gg=>?_;obtain⟨N,za⟩:=z.call gg ba;have hg:=qa.k za;have ig:=mb.k za;have j:=j.k za;refine⟨_,_,rfl,(ig.bk.ra),?_⟩;refine gdi hp fun jg hp=>?_;refine gdi hp fun kg hp=>?_;refine gdi hp fun lg hp=>?_;refine gdi hp fun mg hp=>?_;refine zsa hp (fun ng hp=>?_) fun ng hp=>?_; rotate_left
     ·obtain rfl:=oi hp;exact hq _ N.ext'
     refine⟨ha200.isSl,?_⟩
     try rw[ha200.slLen]
     refine ifd hp (fun og hp=>?_) fun og hp=>?_
     ·obtain⟨nh,pg,hp⟩:=zrB hp;refine zwe N.pre  pg fun yh qg=>?_;obtain⟨rg,sg⟩:=N.call qg ba;have j:=j.k sg;refine⟨_,rfl,?_⟩;obtain rfl:=oi hp;exact hq _ rg.ext'
     refine⟨_,_,hg.bk.ra,?_⟩;refine gdi hp fun tg hp=>?_;refine gdi hp fun ug hp=>?_;refine gdi hp fun vg hp=>?_;refine gdi hp fun xg hp=>?_;refine zsa hp (fun zg hp=>?_) fun zg hp=>?_; rotate_left
     ·obtain rfl:=oi hp;exact hq _ N.ext'
     obtain⟨oh,Ag,hp⟩:=zrB hp;refine zwe N.pre  Ag fun zh Bg=>?_;obtain⟨Cg,Dg⟩:=N.call Bg ba;have j:=j.k Dg;refine⟨_,rfl,?_⟩;obtain rfl:=oi hp;exact hq _ Cg.ext'
   exact hgo _ _ _ _ _ p s P (Sub.refl _) o (Ow.nil _ _ _ _ _) hp
 exact hgo _ _ _ _ f ea O (Sub.refl _) o hp
theorem zx4{l:List Tf}{c:Clm}{ca100:C}{m f:M}{Q:V->M->Prop}{rz:Bool}(hS:Pre f m)(ha100:Sl f ca100 l)(hp:zvr l c=some rz)(hq:∀m',Ext m m'->Q (.c (.bool rz)) m'):Wc prog tbl 5 [.c ca100,.agg 6 [Il c.Crop,Il c.Value,Il c.Day.Lo,Il c.Day.Hi,Il c.Count.Lo,Il c.Count.Hi]] m Q:=by
 have S0:=hS.st;obtain⟨τ0,_⟩:=zsO;refine w5 ?_;unfold zvr at hp;intro m0 ab;obtain⟨N,ga,eg,bb⟩:=S0.blk ab τ0 1;obtain⟨fg,cb,hp⟩:=zrB hp;refine zwz (l:=l) ga.pre ha100 cb fun m2 db=>?_;obtain⟨O,eb⟩:=ga.call db N;have fb:=bb.k eb;refine⟨_,rfl,?_⟩;refine zsb hp (fun gb hp=>?_) fun gb hp=>?_
 ·obtain⟨gg,hb,hp⟩:=zrB hp;refine zwe O.pre  hb fun m5 ib=>?_;obtain⟨jb,hg⟩:=O.call ib N;refine⟨_,rfl,?_⟩;obtain rfl:=oi hp;exact hq _ jb.ext'
 intro m7 kb;obtain⟨y,ha,mb,Xa⟩:=O.growK kb N 2;have ia:=fb.k mb;have ob:=Xa 0 (by decide);obtain⟨pb,qb,hp⟩:=zrB hp;refine zxU (l:=l) ha.pre ha100 qb fun m9 ig jg rb sb=>?_;obtain⟨ja,g⟩:=ha.callG rb y;have ka:=ia.k g;have tb:=ob.k g;refine⟨_,rfl,_,_,_,_,_,_,ka.bk.ra,(ia.bk.ra),?_⟩;obtain⟨ub,vb,hp⟩:=zrB hp;refine zwv (c:=c) ja.pre  vb fun Sg wb=>?_;obtain⟨la,ma⟩:=ja.call wb y;have xb:=ka.k ma;have yb:=tb.k ma;refine⟨_,_,_,_,_,_,rfl,?_⟩;obtain⟨na,zb,hp⟩:=zrB hp;refine zxN (l:=pb) (c:=ub) la.pre sb zb fun Tg Ab=>?_;obtain⟨Bb,oa⟩:=la.call Ab y;have Cb:=xb.k oa;have Db:=yb.k oa;refine⟨_,_,_,rfl,?_⟩;intro Ug Eb;obtain⟨Fb,Gb,Hb⟩:=Db.set Bb Eb;have pa:=Cb.k Gb;refine⟨(pa.bk.ra),?_⟩;obtain⟨Ib,Jb,Kb,Mb,Nb⟩:=Hb.sto Fb [Il na.1.Lo,Il na.1.Hi];have Ob:=pa.k Mb;refine⟨Ib,Jb,?_⟩;intro Vg Pb;obtain⟨z,qa,sa,Ya⟩:=Kb.growK Pb y 3;have ta:=Ob.k sa;have Qb:=Nb.k sa;have Rb:=Ya 0 (by decide);obtain⟨Sb,Tb,hp⟩:=zrB hp;refine zxU (l:=l) qa.pre (ha100.sub g.fs) Tb fun Xg kg lg Ub Vb=>?_;obtain⟨ua,h⟩:=qa.callG Ub z;have va:=ta.k h;have Wb:=Qb.k h;have Xb:=Rb.k h;refine⟨_,rfl,_,_,_,_,_,_,va.bk.ra,(ta.bk.ra),?_⟩;obtain⟨Yb,Zb,hp⟩:=zrB hp;refine zwv (c:=c) ua.pre  Zb fun Zg ac=>?_;obtain⟨wa,P⟩:=ua.call ac z;have bc:=va.k P;have cc:=Wb.k P;have dc:=Xb.k P;refine⟨_,_,_,_,_,_,rfl,?_⟩;obtain⟨xa,ec,hp⟩:=zrB hp;refine zxM (l:=Sb) (c:=Yb) (high:=false) wa.pre Vb ec fun ah fc=>?_;obtain⟨gc,S⟩:=wa.call fc z;have hc:=bc.k S;have ic:=cc.k S;have jc:=dc.k S;refine⟨_,_,_,rfl,?_⟩
 intro bh kc;obtain⟨nc,ya,oc⟩:=jc.set gc kc;have za:=hc.k ya;have pc:=ic.k ya;refine⟨(za.bk.ra),?_⟩;obtain⟨qc,sc,tc,Aa,uc⟩:=oc.sto nc [Il xa.1.Day,Il xa.1.Count];have vc:=za.k Aa;have wc:=pc.k Aa;refine⟨qc,sc,?_⟩;intro ch xc;obtain⟨e,Ba,T,Za⟩:=tc.growK xc z 4;have Ca:=vc.k T;have yc:=wc.k T;have zc:=uc.k T;have Ac:=Za 0 (by decide);obtain⟨Bc,Cc,hp⟩:=zrB hp;refine zxU (l:=l) Ba.pre (ha100.sub (Sub.trans g.fs h.fs)) Cc fun dh mg ng Dc Ec=>?_;obtain⟨Da,i⟩:=Ba.callG Dc e;have Ea:=Ca.k i;have Fc:=yc.k i;have Gc:=zc.k i;have Hc:=Ac.k i;refine⟨_,rfl,_,_,_,_,_,_,Ea.bk.ra,(Ca.bk.ra),?_⟩;obtain⟨Ic,Jc,hp⟩:=zrB hp;refine zwv (c:=c) Da.pre  Jc fun eh Kc=>?_;obtain⟨Fa,A⟩:=Da.call Kc e;have Nc:=Ea.k A;have Oc:=Fc.k A;have Pc:=Gc.k A;have Qc:=Hc.k A;refine⟨_,_,_,_,_,_,rfl,?_⟩;obtain⟨Ga,Rc,hp⟩:=zrB hp;refine zxM (l:=Bc) (c:=Ic) (high:=true) Fa.pre Ec Rc fun fh Tc=>?_;obtain⟨Uc,B⟩:=Fa.call Tc e;have Vc:=Nc.k B;have Xc:=Oc.k B;have Yc:=Pc.k B;have Zc:=Qc.k B;refine⟨_,_,_,rfl,?_⟩;intro gh ad;obtain⟨bd,Y,cd⟩:=Zc.set Uc ad;have Ha:=Vc.k Y;have dd:=Xc.k Y;have ed:=Yc.k Y;refine⟨(Ha.bk.ra),?_⟩;obtain⟨fd,hd,Ia,Z,id⟩:=cd.sto bd [Il Ga.1.Day,Il Ga.1.Count];have Ja:=Ha.k Z;have jd:=dd.k Z;have kd:=ed.k Z;refine⟨fd,hd,?_⟩;obtain⟨ld,md,hp⟩:=zrB hp;refine zxU (l:=l) Ia.pre (ha100.sub (Sub.trans (Sub.trans g.fs h.fs) i.fs)) md fun hh og pg nd od=>?_;obtain⟨Ka,j⟩:=Ia.callG nd e;have La:=Ja.k j;have pd:=jd.k j;have qd:=kd.k j;have sd:=id.k j;refine⟨_,rfl,_,_,_,_,_,_,La.bk.ra,(Ja.bk.ra),?_⟩
 obtain⟨td,ud,hp⟩:=zrB hp;refine zwv (c:=c) Ka.pre  ud fun ih vd=>?_;obtain⟨Ma,D⟩:=Ka.call vd e;have wd:=La.k D;have xd:=pd.k D;have yd:=qd.k D;have zd:=sd.k D;refine⟨_,_,_,_,_,_,rfl,?_⟩;obtain⟨qg,Ad,hp⟩:=zrB hp;refine zxO (l:=ld) (c:=td) Ma.pre od Ad fun Fg Bd=>?_;obtain⟨Na,F⟩:=Ma.call Bd e;have Oa:=wd.k F;have Cd:=xd.k F;have Dd:=yd.k F;have Ed:=zd.k F;refine⟨_,_,rfl,_,_,_,_,_,_,Oa.bk.ra,?_⟩;obtain⟨rg,Fd,hp⟩:=zrB hp;refine zwB (l:=l) (c:=c) Na.pre (ha100.sub (Sub.trans (Sub.trans (Sub.trans g.fs h.fs) i.fs) j.fs)) Fd fun Gg Gd=>?_;obtain⟨a,G⟩:=Na.call Gd e;have Hd:=Oa.k G;have Pa:=Cd.k G;have Qa:=Dd.k G;have Ra:=Ed.k G;refine⟨_,rfl,?_⟩;refine zr9 hp (fun Id hp=>?_) fun Id hp=>?_
 ·refine ifd hp (fun Jd hp=>?_) fun Jd hp=>?_; rotate_left
  ·obtain rfl:=oi hp;exact hq _ a.ext'
  refine ifd hp (fun Ld hp=>?_) fun Ld hp=>?_; rotate_left
  ·obtain rfl:=oi hp;exact hq _ a.ext'
  refine ifd hp (fun Md hp=>?_) fun Md hp=>?_; rotate_left
  ·obtain rfl:=oi hp;exact hq _ a.ext'
  refine ifd hp (fun Nd hp=>?_) fun Nd hp=>?_; rotate_left
  ·obtain rfl:=oi hp;exact hq _ a.ext'
  refine⟨_,_,Pa.bk.ra,?_⟩;refine gdi hp fun Od hp=>?_;refine gdi hp fun Pd hp=>?_;refine gdi hp fun Qd hp=>?_;refine gdi hp fun Rd hp=>?_;refine zsa hp (fun Sd hp=>?_) fun Sd hp=>?_; rotate_left
  ·obtain rfl:=oi hp;exact hq _ a.ext'
  refine⟨_,_,Qa.bk.ra,?_⟩;refine gdi hp fun Td hp=>?_;refine gdi hp fun Ud hp=>?_;refine gdi hp fun Vd hp=>?_;refine gdi hp fun Wd hp=>?_;refine zsa hp (fun Xd hp=>?_) fun Xd hp=>?_; rotate_left
  ·obtain rfl:=oi hp;exact hq _ a.ext'
  refine⟨_,_,Ra.bk.ra,?_⟩;refine gdi hp fun Yd hp=>?_;refine gdi hp fun Zd hp=>?_;refine gdi hp fun ae hp=>?_;refine gdi hp fun be hp=>?_;refine zsa hp (fun ce hp=>?_) fun ce hp=>?_; rotate_left
  ·obtain rfl:=oi hp;exact hq _ a.ext'
  refine ifd hp (fun de hp=>?_) fun de hp=>?_; rotate_left
  ·obtain rfl:=oi hp;exact hq _ a.ext'
  obtain⟨sg,ee,hp⟩:=zrB hp;refine zwe a.pre  ee fun Hg fe=>?_;obtain⟨ge,tg⟩:=a.call fe e;refine⟨_,rfl,?_⟩;obtain rfl:=oi hp;exact hq _ ge.ext'
 refine⟨_,_,_,_,_,_,Hd.bk.ra,?_⟩;obtain⟨d,he,hp⟩:=zrB hp;refine zwr (l:=l) (c:=c) a.pre (ha100.sub (Sub.trans (Sub.trans (Sub.trans g.fs h.fs) i.fs) j.fs)) he fun Ig ie=>?_;obtain⟨je,aa⟩:=a.call ie e;have ke:=Pa.k aa;have me:=Qa.k aa;have oe:=Ra.k aa;refine⟨_,_,_,_,_,_,rfl,?_⟩;intro Jg pe;obtain⟨qe,re,ba,se⟩:=je.blk pe e 5;have te:=ke.k ba;have ue:=me.k ba;have ve:=oe.k ba;intro Kg we;obtain⟨xe,ye,I,ze⟩:=re.blk we qe 6;have Ae:=te.k I;have Be:=ue.k I;have Ce:=ve.k I;have De:=se.k I;intro Lg Ee;obtain⟨p,Fe,q,Ge⟩:=ye.blk Ee xe 7;have He:=Ae.k q;have Ie:=Be.k q;have Je:=Ce.k q;have Ke:=De.k q;have Me:=ze.k q;obtain⟨Ne,Oe,Pe,s,Qe⟩:=Ke.sto Fe [Il d.1.Lo,Il d.1.Hi];have Re:=He.k s;have Se:=Ie.k s;have Te:=Je.k s;have Ue:=Me.k s;have Ve:=Ge.k s;refine⟨Ne,Oe,?_⟩;obtain⟨We,Xe,Ye,u,Ze⟩:=Ue.sto Pe [Il d.2.1.Day,Il d.2.1.Count];have af:=Re.k u;have bf:=Se.k u;have cf:=Te.k u;have df:=Qe.k u;have ef:=Ve.k u;refine⟨We,Xe,?_⟩;obtain⟨gf,hf,n,w,jf⟩:=ef.sto Ye [Il d.2.2.Day,Il d.2.2.Count];have Sa:=af.k w;have kf:=bf.k w;have lf:=cf.k w;have Ta:=df.k w;have mf:=Ze.k w;refine⟨gf,hf,?_⟩;refine ifd hp (fun nf hp=>?_) fun nf hp=>?_; rotate_left
 ·obtain rfl:=oi hp;exact hq _ n.ext'
 refine ifd hp (fun pf hp=>?_) fun pf hp=>?_; rotate_left
 ·obtain rfl:=oi hp;exact hq _ n.ext'
 refine ifd hp (fun qf hp=>?_) fun qf hp=>?_; rotate_left
 ·obtain rfl:=oi hp;exact hq _ n.ext'
 refine ifd hp (fun rf hp=>?_) fun rf hp=>?_; rotate_left
 ·obtain rfl:=oi hp;exact hq _ n.ext'
 refine⟨_,_,Sa.bk.ra,_,_,Ta.bk.ra,?_⟩;obtain⟨ug,sf,hp⟩:=zrB hp;refine zwu (r:=d.1) n.pre  sf fun Mg tf=>?_;obtain⟨ca,o⟩:=n.call tf p;have uf:=Sa.k o;have Ua:=kf.k o;have vf:=lf.k o;have wf:=Ta.k o;have xf:=mf.k o;have yf:=jf.k o;refine⟨_,_,rfl,(uf.bk.ra),?_⟩;refine gdi hp fun zf hp=>?_;refine gdi hp fun Af hp=>?_;refine gdi hp fun Bf hp=>?_;refine gdi hp fun Cf hp=>?_;refine zsa hp (fun Df hp=>?_) fun Df hp=>?_; rotate_left
 ·obtain rfl:=oi hp;exact hq _ ca.ext'
 refine⟨_,_,Ua.bk.ra,_,_,xf.bk.ra,?_⟩;obtain⟨vg,Ef,hp⟩:=zrB hp;refine zww (t:=({ Day:=d.2.1.Day,Count:=d.2.1.Count }:Tr)) ca.pre  Ef fun Ng Ff=>?_;obtain⟨da,J⟩:=ca.call Ff p;have Gf:=Ua.k J;have Va:=vf.k J;have Hf:=wf.k J;have If:=yf.k J;refine⟨_,_,rfl,(Gf.bk.ra),?_⟩;refine gdi hp fun Jf hp=>?_;refine gdi hp fun Kf hp=>?_;refine gdi hp fun Lf hp=>?_;refine gdi hp fun Mf hp=>?_;refine zsa hp (fun Nf hp=>?_) fun Nf hp=>?_; rotate_left
 ·obtain rfl:=oi hp;exact hq _ da.ext'
 refine⟨_,_,Va.bk.ra,_,_,If.bk.ra,?_⟩;obtain⟨xg,Of,hp⟩:=zrB hp;refine zww (t:=({ Day:=d.2.2.Day,Count:=d.2.2.Count }:Tr)) da.pre  Of fun Og Pf=>?_;obtain⟨ea,Wa⟩:=da.call Pf p;have Qf:=Va.k Wa;have Rf:=Hf.k Wa;refine⟨_,_,rfl,(Qf.bk.ra),?_⟩;refine gdi hp fun Sf hp=>?_;refine gdi hp fun Uf hp=>?_;refine gdi hp fun Vf hp=>?_;refine gdi hp fun Wf hp=>?_;refine zsa hp (fun Xf hp=>?_) fun Xf hp=>?_; rotate_left
 ·obtain rfl:=oi hp;exact hq _ ea.ext'
 refine⟨_,_,Rf.bk.ra,?_⟩;obtain⟨zg,Yf,hp⟩:=zrB hp;refine zws (r:=d.1) ea.pre  Yf fun Pg Zf=>?_;obtain⟨fa,Ag⟩:=ea.call Zf p;refine⟨_,rfl,?_⟩;refine ifd hp (fun ag hp=>?_) fun ag hp=>?_; rotate_left
 ·obtain rfl:=oi hp;exact hq _ fa.ext'
 obtain⟨Bg,bg,hp⟩:=zrB hp;refine zwe fa.pre  bg fun Qg cg=>?_;obtain⟨dg,Cg⟩:=fa.call cg p;refine⟨_,rfl,?_⟩;obtain rfl:=oi hp;exact hq _ dg.ext'
set_option maxHeartbeats 4000000 in
theorem zx5{l:List Tf}{c:Clm}{day:Int}{count:Int}{ca100:C}{m f:M}{Q:V->M->Prop}{rz:Bool}(hS:Pre f m)(ha100:Sl f ca100 l)(hp:zvs l c day count=some rz)(hq:∀m',Ext m m'->Q (.c (.bool rz)) m'):Wc prog tbl 8 [.c ca100,.agg 6 [Il c.Crop,Il c.Value,Il c.Day.Lo,Il c.Day.Hi,Il c.Count.Lo,Il c.Count.Hi],.c (.int .u8 day),.c (.int .u8 count)] m Q:=by
 have S0:=hS.st;obtain⟨τ0,_⟩:=zsO;refine w8 ?_;unfold zvs at hp;intro m0 Yc;obtain⟨B,Fa,bj,Ga⟩:=S0.blk Yc τ0 1;refine⟨_,_,_,_,_,_,Ga.bk.ra,?_⟩;obtain⟨cj,Zc,hp⟩:=zrB hp;refine zwD (l:=l) (c:=c) Fa.pre ha100 Zc fun m8 ad=>?_;obtain⟨D,bd⟩:=Fa.call ad B;have Ha:=Ga.k bd;refine⟨_,rfl,?_⟩;refine zsb hp (fun cd hp=>?_) fun cd hp=>?_
 ·obtain⟨dj,dd,hp⟩:=zrB hp;refine zwe D.pre  dd fun dl ed=>?_;obtain⟨fd,ej⟩:=D.call ed B;refine⟨_,rfl,?_⟩;obtain rfl:=oi hp;exact hq _ fd.ext'
 refine⟨_,_,_,_,_,_,Ha.bk.ra,?_⟩;obtain⟨ea,hd,hp⟩:=zrB hp;refine zwF (c:=c) (day:=day) (count:=count) D.pre  hd fun el id=>?_;obtain⟨jd,kd⟩:=D.call id B;have ld:=Ha.k kd;refine⟨_,_,rfl,?_⟩;intro fl md;obtain⟨u,nd,od,pd⟩:=jd.blk md B 2;have qd:=ld.k od;obtain⟨sd,td,Ia,ud,Ja⟩:=pd.sto nd [Il ea.Day,Il ea.Count];have Ka:=qd.k ud;refine⟨sd,td,?_⟩;obtain⟨vd,wd,hp⟩:=zrB hp;refine zxU (l:=l) Ia.pre ha100 wd fun gl fj gj xd yd=>?_;obtain⟨La,e⟩:=Ia.callG xd u;have Ma:=Ka.k e;have Na:=Ja.k e;refine⟨_,rfl,_,_,_,_,_,_,Ma.bk.ra,(Ka.bk.ra),?_⟩;obtain⟨zd,Ad,hp⟩:=zrB hp;refine zwv (c:=c) La.pre  Ad fun hl Bd=>?_;obtain⟨Oa,Pa⟩:=La.call Bd u;have Cd:=Ma.k Pa;have Dd:=Na.k Pa;refine⟨_,_,_,_,_,_,rfl,_,_,Dd.bk.ra,(Na.bk.ra),(Ja.bk.ra),?_⟩;obtain⟨Ed,Fd,hp⟩:=zrB hp;refine zww (t:=ea) Oa.pre  Fd fun il Gd=>?_;obtain⟨Qa,Hd⟩:=Oa.call Gd u;have Id:=Cd.k Hd;refine⟨_,_,rfl,?_⟩;obtain⟨hj,Jd,hp⟩:=zrB hp;refine zxR (l:=vd) (c:=zd) (t:=Ed) Qa.pre yd Jd fun jl Ld=>?_;obtain⟨Md,Nd⟩:=Qa.call Ld u;have Od:=Id.k Nd;refine⟨_,_,rfl,?_⟩;intro kl Pd;obtain⟨r,Ra,Qd,Uc⟩:=Md.growK Pd u 3;have Sa:=Od.k Qd;have Rd:=Uc 0 (by decide);obtain⟨Sd,Td,hp⟩:=zrB hp;refine zxU (l:=l) Ra.pre (ha100.sub e.fs) Td fun ll ij jj Ud Vd=>?_;obtain⟨Ta,g⟩:=Ra.callG Ud r;have Ua:=Sa.k g;have Wd:=Rd.k g;refine⟨_,rfl,_,_,_,_,_,_,Ua.bk.ra,(Sa.bk.ra),?_⟩;obtain⟨Xd,Yd,hp⟩:=zrB hp;refine zwv (c:=c) Ta.pre  Yd fun ml Zd=>?_;obtain⟨Va,Wa⟩:=Ta.call Zd r;have ae:=Ua.k Wa;have be:=Wd.k Wa;refine⟨_,_,_,_,_,_,rfl,?_⟩
 obtain⟨o,ce,hp⟩:=zrB hp;refine zxN (l:=Sd) (c:=Xd) Va.pre Vd ce fun nl de=>?_;obtain⟨ee,Xa⟩:=Va.call de r;have fe:=ae.k Xa;have ge:=be.k Xa;refine⟨_,_,_,rfl,?_⟩;intro ol he;obtain⟨ie,je,ke⟩:=ge.set ee he;have Ya:=fe.k je;refine⟨(Ya.bk.ra),?_⟩;obtain⟨me,oe,Za,pe,qe⟩:=ke.sto ie [Il o.1.Lo,Il o.1.Hi];have ab:=Ya.k pe;refine⟨me,oe,?_⟩;obtain⟨re,se,hp⟩:=zrB hp;refine zxU (l:=l) Za.pre (ha100.sub (Sub.trans e.fs g.fs)) se fun pl kj lj te ue=>?_;obtain⟨bb,h⟩:=Za.callG te r;have cb:=ab.k h;have ve:=qe.k h;refine⟨_,rfl,_,_,_,_,_,_,cb.bk.ra,(ab.bk.ra),?_⟩;obtain⟨we,xe,hp⟩:=zrB hp;refine zwv (c:=c) bb.pre  xe fun ql ye=>?_;obtain⟨db,eb⟩:=bb.call ye r;have ze:=cb.k eb;have Ae:=ve.k eb;refine⟨_,_,_,_,_,_,rfl,?_⟩;obtain⟨F,Be,hp⟩:=zrB hp;refine zxO (l:=re) (c:=we) db.pre ue Be fun rl Ce=>?_;obtain⟨De,fb⟩:=db.call Ce r;have Ee:=ze.k fb;have Fe:=Ae.k fb;refine⟨_,_,rfl,?_⟩;intro tl Ge;obtain⟨G,gb,hb,Vc⟩:=De.growK Ge r 4;have ib:=Ee.k hb;have He:=Fe.k hb;have Ie:=Vc 0 (by decide);obtain⟨Je,Ke,hp⟩:=zrB hp;refine zxU (l:=l) gb.pre (ha100.sub (Sub.trans (Sub.trans e.fs g.fs) h.fs)) Ke fun hk mj nj Me Ne=>?_;obtain⟨jb,i⟩:=gb.callG Me G;have kb:=ib.k i;have Oe:=He.k i;have Pe:=Ie.k i;refine⟨_,rfl,_,_,_,_,_,_,kb.bk.ra,(ib.bk.ra),?_⟩;obtain⟨Qe,Re,hp⟩:=zrB hp;refine zwv (c:=c) jb.pre  Re fun ik Se=>?_;obtain⟨mb,fa⟩:=jb.call Se G;have Te:=kb.k fa;have Ue:=Oe.k fa;have Ve:=Pe.k fa;refine⟨_,_,_,_,_,_,rfl,?_⟩;obtain⟨p,We,hp⟩:=zrB hp;refine zxM (l:=Je) (c:=Qe) (high:=false) mb.pre Ne We fun jk Xe=>?_
 obtain⟨Ye,ga⟩:=mb.call Xe G;have Ze:=Te.k ga;have af:=Ue.k ga;have bf:=Ve.k ga;refine⟨_,_,_,rfl,?_⟩;intro kk cf;obtain⟨df,ob,ef⟩:=bf.set Ye cf;have pb:=Ze.k ob;have gf:=af.k ob;refine⟨(pb.bk.ra),?_⟩;obtain⟨hf,jf,kf,qb,lf⟩:=ef.sto df [Il p.1.Day,Il p.1.Count];have mf:=pb.k qb;have nf:=gf.k qb;refine⟨hf,jf,?_⟩;intro mk pf;obtain⟨a,rb,ha,Xc⟩:=kf.growK pf G 5;have sb:=mf.k ha;have qf:=nf.k ha;have rf:=lf.k ha;have sf:=Xc 0 (by decide);obtain⟨tf,uf,hp⟩:=zrB hp;refine zxU (l:=l) rb.pre (ha100.sub (Sub.trans (Sub.trans (Sub.trans e.fs g.fs) h.fs) i.fs)) uf fun nk oj pj vf wf=>?_;obtain⟨tb,j⟩:=rb.callG vf a;have ub:=sb.k j;have xf:=qf.k j;have yf:=rf.k j;have zf:=sf.k j;refine⟨_,rfl,_,_,_,_,_,_,ub.bk.ra,(sb.bk.ra),?_⟩;obtain⟨Af,Bf,hp⟩:=zrB hp;refine zwv (c:=c) tb.pre  Bf fun ok Cf=>?_;obtain⟨vb,I⟩:=tb.call Cf a;have Df:=ub.k I;have Ef:=xf.k I;have Ff:=yf.k I;have Gf:=zf.k I;refine⟨_,_,_,_,_,_,rfl,?_⟩;obtain⟨q,Hf,hp⟩:=zrB hp;refine zxM (l:=tf) (c:=Af) (high:=true) vb.pre wf Hf fun pk If=>?_;obtain⟨Jf,J⟩:=vb.call If a;have Kf:=Df.k J;have Lf:=Ef.k J;have Mf:=Ff.k J;have Nf:=Gf.k J;refine⟨_,_,_,rfl,?_⟩;intro qk Of;obtain⟨Pf,ia,Qf⟩:=Nf.set Jf Of;have wb:=Kf.k ia;have Rf:=Lf.k ia;have Sf:=Mf.k ia;refine⟨(wb.bk.ra),?_⟩;obtain⟨Uf,Vf,d,ja,N⟩:=Qf.sto Pf [Il q.1.Day,Il q.1.Count];have O:=wb.k ja;have s:=Rf.k ja;have P:=Sf.k ja;refine⟨Uf,Vf,?_⟩;refine zr9 hp (fun Wf hp=>?_) fun Wf hp=>?_
 ·obtain rfl:=oi hp;exact hq _ d.ext'
 refine zr9 hp (fun Xf hp=>?_) fun Xf hp=>?_
 ·obtain rfl:=oi hp;exact hq _ d.ext'
 refine zr9 hp (fun Yf hp=>?_) fun Yf hp=>?_
 ·obtain rfl:=oi hp;exact hq _ d.ext'
 refine zr9 hp (fun Zf hp=>?_) fun Zf hp=>?_
 ·obtain rfl:=oi hp;exact hq _ d.ext'
 refine zr9 hp (fun ag hp=>?_) fun ag hp=>?_
 ·obtain rfl:=oi hp;exact hq _ d.ext'
 refine⟨trivial,_,s.bk.rc rfl,?_⟩;refine ifd hp (fun bg hp=>?_) fun bg hp=>?_
 ·obtain rfl:=oi hp;exact hq _ d.ext'
 refine⟨trivial,_,s.bk.rc rfl,?_⟩;refine ifd hp (fun cg hp=>?_) fun cg hp=>?_
 ·obtain rfl:=oi hp;exact hq _ d.ext'
 refine ifd hp (fun dg hp=>?_) fun dg hp=>?_; rotate_left
 ·refine ifd hp (fun eg hp=>?_) fun eg hp=>?_; rotate_left
  ·obtain⟨qj,fg,hp⟩:=zrB hp;refine zwf (n:=F.1) (low:=(1:Int)) (high:=(3:Int)) d.pre  fg fun sk gg=>?_;obtain⟨ka,S⟩:=d.call gg a;have xb:=O.k S;have yb:=s.k S;have zb:=P.k S;have hg:=N.k S;refine⟨_,rfl,?_⟩;refine zsb hp (fun ig hp=>?_) fun ig hp=>?_
   ·obtain rfl:=oi hp;exact hq _ ka.ext'
   obtain⟨jg,kg,hp⟩:=zrB hp;refine zxU (l:=l) ka.pre (ha100.sub (Sub.trans (Sub.trans (Sub.trans (Sub.trans e.fs g.fs) h.fs) i.fs) j.fs)) kg fun uk rj sj lg mg=>?_;obtain⟨Ab,w⟩:=ka.callG lg a;have Bb:=xb.k w;have Cb:=yb.k w;have Db:=zb.k w;have ng:=hg.k w;refine⟨_,rfl,_,_,_,_,_,_,Bb.bk.ra,(xb.bk.ra),?_⟩;obtain⟨og,pg,hp⟩:=zrB hp;refine zwv (c:=c) Ab.pre  pg fun vk qg=>?_;obtain⟨Eb,T⟩:=Ab.call qg a;have rg:=Bb.k T;have Fb:=Cb.k T;have sg:=Db.k T;have tg:=ng.k T;refine⟨_,_,_,_,_,_,rfl,_,_,sg.bk.ra,(Db.bk.ra),(zb.bk.ra),trivial,_,Fb.bk.rc rfl,(Cb.bk.rc rfl),(yb.bk.rc rfl),?_⟩;obtain⟨tj,ug,hp⟩:=zrB hp;refine zxS (l:=jg) (c:=og) (t:=({ Day:=p.1.Day,Count:=p.1.Count }:Tr)) (pence:=o.1.Lo) Eb.pre mg ug fun wk vg=>?_;obtain⟨la,ma⟩:=Eb.call vg a;have Gb:=rg.k ma;have Hb:=Fb.k ma;have Ib:=tg.k ma;refine⟨_,rfl,?_⟩;refine zsa hp (fun xg hp=>?_) fun xg hp=>?_; rotate_left
   ·obtain rfl:=oi hp;exact hq _ la.ext'
   obtain⟨zg,Ag,hp⟩:=zrB hp;refine zxU (l:=l) la.pre (ha100.sub (Sub.trans (Sub.trans (Sub.trans (Sub.trans (Sub.trans e.fs g.fs) h.fs) i.fs) j.fs) w.fs)) Ag fun xk uj vj Bg Cg=>?_;obtain⟨Jb,na⟩:=la.callG Bg a;have Dg:=Gb.k na;have Kb:=Hb.k na;have Mb:=Ib.k na;refine⟨_,rfl,_,_,_,_,_,_,Dg.bk.ra,(Gb.bk.ra),?_⟩;obtain⟨Eg,Fg,hp⟩:=zrB hp;refine zwv (c:=c) Jb.pre  Fg fun yk Gg=>?_;obtain⟨Nb,Ob⟩:=Jb.call Gg a;have Hg:=Kb.k Ob;have Ig:=Mb.k Ob;refine⟨_,_,_,_,_,_,rfl,_,_,Ig.bk.ra,(Mb.bk.ra),(Ib.bk.ra),trivial,_,Hg.bk.rc rfl,(Kb.bk.rc rfl),(Hb.bk.rc rfl),?_⟩;obtain⟨wj,Jg,hp⟩:=zrB hp;refine zxS (l:=zg) (c:=Eg) (t:=({ Day:=q.1.Day,Count:=q.1.Count }:Tr)) (pence:=o.1.Hi) Nb.pre Cg Jg fun zk Kg=>?_;obtain⟨oa,xj⟩:=Nb.call Kg a;refine⟨_,rfl,?_⟩;refine zsa hp (fun Lg hp=>?_) fun Lg hp=>?_; rotate_left
   ·obtain rfl:=oi hp;exact hq _ oa.ext'
   obtain⟨yj,Mg,hp⟩:=zrB hp;refine zwe oa.pre  Mg fun Ak Ng=>?_;obtain⟨Og,zj⟩:=oa.call Ng a;refine⟨_,rfl,?_⟩;obtain rfl:=oi hp;exact hq _ Og.ext'
  refine ifd hp (fun Pg hp=>?_) fun Pg hp=>?_
  ·obtain rfl:=oi hp;exact hq _ d.ext'
  obtain⟨Aj,Qg,hp⟩:=zrB hp;refine zwf (n:=F.1) (low:=(1:Int)) (high:=(3:Int)) d.pre  Qg fun Ck Sg=>?_;obtain⟨pa,Y⟩:=d.call Sg a;have Pb:=O.k Y;have Qb:=s.k Y;have Rb:=P.k Y;have Tg:=N.k Y;refine⟨_,rfl,?_⟩;refine zsb hp (fun Ug hp=>?_) fun Ug hp=>?_
  ·obtain rfl:=oi hp;exact hq _ pa.ext'
  obtain⟨Vg,Xg,hp⟩:=zrB hp;refine zxU (l:=l) pa.pre (ha100.sub (Sub.trans (Sub.trans (Sub.trans (Sub.trans e.fs g.fs) h.fs) i.fs) j.fs)) Xg fun Dk Bj Cj Zg ah=>?_;obtain⟨Sb,y⟩:=pa.callG Zg a;have Tb:=Pb.k y;have Ub:=Qb.k y;have Vb:=Rb.k y;have bh:=Tg.k y;refine⟨_,rfl,_,_,_,_,_,_,Tb.bk.ra,(Pb.bk.ra),?_⟩;obtain⟨ch,dh,hp⟩:=zrB hp;refine zwv (c:=c) Sb.pre  dh fun Ek eh=>?_;obtain⟨Wb,Z⟩:=Sb.call eh a;have fh:=Tb.k Z;have Xb:=Ub.k Z;have gh:=Vb.k Z;have hh:=bh.k Z;refine⟨_,_,_,_,_,_,rfl,_,_,gh.bk.ra,(Vb.bk.ra),(Rb.bk.ra),trivial,_,Xb.bk.rc rfl,(Ub.bk.rc rfl),(Qb.bk.rc rfl),?_⟩;obtain⟨Dj,ih,hp⟩:=zrB hp;refine zxS (l:=Vg) (c:=ch) (t:=({ Day:=p.1.Day,Count:=p.1.Count }:Tr)) (pence:=o.1.Lo) Wb.pre ah ih fun Fk jh=>?_;obtain⟨qa,sa⟩:=Wb.call jh a;have Yb:=fh.k sa;have Zb:=Xb.k sa;have ac:=hh.k sa;refine⟨_,rfl,?_⟩;refine zsa hp (fun kh hp=>?_) fun kh hp=>?_; rotate_left
  ·obtain rfl:=oi hp;exact hq _ qa.ext'
  obtain⟨lh,mh,hp⟩:=zrB hp;refine zxU (l:=l) qa.pre (ha100.sub (Sub.trans (Sub.trans (Sub.trans (Sub.trans (Sub.trans e.fs g.fs) h.fs) i.fs) j.fs) y.fs)) mh fun Gk Ej Fj nh oh=>?_;obtain⟨bc,ta⟩:=qa.callG nh a;have ph:=Yb.k ta;have cc:=Zb.k ta;have dc:=ac.k ta;refine⟨_,rfl,_,_,_,_,_,_,ph.bk.ra,(Yb.bk.ra),?_⟩;obtain⟨qh,rh,hp⟩:=zrB hp;refine zwv (c:=c) bc.pre  rh fun Hk th=>?_;obtain⟨ec,fc⟩:=bc.call th a;have uh:=cc.k fc;have vh:=dc.k fc;refine⟨_,_,_,_,_,_,rfl,_,_,vh.bk.ra,(dc.bk.ra),(ac.bk.ra),trivial,_,uh.bk.rc rfl,(cc.bk.rc rfl),(Zb.bk.rc rfl),?_⟩;obtain⟨Gj,wh,hp⟩:=zrB hp;refine zxS (l:=lh) (c:=qh) (t:=({ Day:=q.1.Day,Count:=q.1.Count }:Tr)) (pence:=o.1.Hi) ec.pre oh wh fun Ik xh=>?_;obtain⟨ua,Hj⟩:=ec.call xh a;refine⟨_,rfl,?_⟩;refine zsa hp (fun yh hp=>?_) fun yh hp=>?_; rotate_left
  ·obtain rfl:=oi hp;exact hq _ ua.ext'
  obtain⟨Ij,zh,hp⟩:=zrB hp;refine zwe ua.pre  zh fun Jk Ah=>?_;obtain⟨Bh,Jj⟩:=ua.call Ah a;refine⟨_,rfl,?_⟩;obtain rfl:=oi hp;exact hq _ Bh.ext'
 refine ifd hp (fun Ch hp=>?_) fun Ch hp=>?_
 ·obtain rfl:=oi hp;exact hq _ d.ext'
 refine ifd hp (fun Dh hp=>?_) fun Dh hp=>?_; rotate_left
 ·obtain⟨Kj,Eh,hp⟩:=zrB hp;refine zwf (n:=F.1) (low:=(1:Int)) (high:=(3:Int)) d.pre  Eh fun Kk Fh=>?_;obtain⟨va,aa⟩:=d.call Fh a;have gc:=O.k aa;have hc:=s.k aa;have ic:=P.k aa;have Gh:=N.k aa;refine⟨_,rfl,?_⟩;refine zsb hp (fun Hh hp=>?_) fun Hh hp=>?_
  ·obtain rfl:=oi hp;exact hq _ va.ext'
  obtain⟨Ih,Jh,hp⟩:=zrB hp;refine zxU (l:=l) va.pre (ha100.sub (Sub.trans (Sub.trans (Sub.trans (Sub.trans e.fs g.fs) h.fs) i.fs) j.fs)) Jh fun Lk Lj Mj Kh Lh=>?_;obtain⟨jc,z⟩:=va.callG Kh a;have kc:=gc.k z;have nc:=hc.k z;have oc:=ic.k z;have Mh:=Gh.k z;refine⟨_,rfl,_,_,_,_,_,_,kc.bk.ra,(gc.bk.ra),?_⟩;obtain⟨Nh,Oh,hp⟩:=zrB hp;refine zwv (c:=c) jc.pre  Oh fun Mk Ph=>?_;obtain⟨pc,ba⟩:=jc.call Ph a;have Qh:=kc.k ba;have qc:=nc.k ba;have Rh:=oc.k ba;have Sh:=Mh.k ba;refine⟨_,_,_,_,_,_,rfl,_,_,Rh.bk.ra,(oc.bk.ra),(ic.bk.ra),trivial,_,qc.bk.rc rfl,(nc.bk.rc rfl),(hc.bk.rc rfl),?_⟩;obtain⟨Nj,Th,hp⟩:=zrB hp;refine zxS (l:=Ih) (c:=Nh) (t:=({ Day:=p.1.Day,Count:=p.1.Count }:Tr)) (pence:=o.1.Lo) pc.pre Lh Th fun Nk Uh=>?_;obtain⟨wa,xa⟩:=pc.call Uh a;have sc:=Qh.k xa;have tc:=qc.k xa;have uc:=Sh.k xa;refine⟨_,rfl,?_⟩;refine zsa hp (fun Vh hp=>?_) fun Vh hp=>?_; rotate_left
  ·obtain rfl:=oi hp;exact hq _ wa.ext'
  obtain⟨Wh,Xh,hp⟩:=zrB hp;refine zxU (l:=l) wa.pre (ha100.sub (Sub.trans (Sub.trans (Sub.trans (Sub.trans (Sub.trans e.fs g.fs) h.fs) i.fs) j.fs) z.fs)) Xh fun Ok Oj Pj Yh Zh=>?_;obtain⟨vc,ya⟩:=wa.callG Yh a;have ai:=sc.k ya;have wc:=tc.k ya;have xc:=uc.k ya;refine⟨_,rfl,_,_,_,_,_,_,ai.bk.ra,(sc.bk.ra),?_⟩;obtain⟨bi,ci,hp⟩:=zrB hp;refine zwv (c:=c) vc.pre  ci fun Qk ei=>?_;obtain⟨yc,zc⟩:=vc.call ei a;have fi:=wc.k zc;have gi:=xc.k zc;refine⟨_,_,_,_,_,_,rfl,_,_,gi.bk.ra,(xc.bk.ra),(uc.bk.ra),trivial,_,fi.bk.rc rfl,(wc.bk.rc rfl),(tc.bk.rc rfl),?_⟩;obtain⟨Qj,hi,hp⟩:=zrB hp;refine zxS (l:=Wh) (c:=bi) (t:=({ Day:=q.1.Day,Count:=q.1.Count }:Tr)) (pence:=o.1.Hi) yc.pre Zh hi fun Sk ii=>?_;obtain⟨za,Rj⟩:=yc.call ii a;refine⟨_,rfl,?_⟩;refine zsa hp (fun ji hp=>?_) fun ji hp=>?_; rotate_left
  ·obtain rfl:=oi hp;exact hq _ za.ext'
  obtain⟨Sj,ki,hp⟩:=zrB hp;refine zwe za.pre  ki fun Tk li=>?_;obtain⟨ni,Tj⟩:=za.call li a;refine⟨_,rfl,?_⟩;obtain rfl:=oi hp;exact hq _ ni.ext'
 refine ifd hp (fun pi hp=>?_) fun pi hp=>?_
 ·obtain rfl:=oi hp;exact hq _ d.ext'
 obtain⟨Uj,qi,hp⟩:=zrB hp;refine zwf (n:=F.1) (low:=(1:Int)) (high:=(3:Int)) d.pre  qi fun Uk ri=>?_;obtain⟨Aa,ca⟩:=d.call ri a;have Ac:=O.k ca;have Bc:=s.k ca;have Cc:=P.k ca;have si:=N.k ca;refine⟨_,rfl,?_⟩;refine zsb hp (fun ti hp=>?_) fun ti hp=>?_
 ·obtain rfl:=oi hp;exact hq _ Aa.ext'
 obtain⟨ui,vi,hp⟩:=zrB hp;refine zxU (l:=l) Aa.pre (ha100.sub (Sub.trans (Sub.trans (Sub.trans (Sub.trans e.fs g.fs) h.fs) i.fs) j.fs)) vi fun Vk Vj Wj wi xi=>?_;obtain⟨Dc,A⟩:=Aa.callG wi a;have Ec:=Ac.k A;have Fc:=Bc.k A;have Gc:=Cc.k A;have yi:=si.k A;refine⟨_,rfl,_,_,_,_,_,_,Ec.bk.ra,(Ac.bk.ra),?_⟩;obtain⟨zi,Ai,hp⟩:=zrB hp;refine zwv (c:=c) Dc.pre  Ai fun Xk Bi=>?_;obtain⟨Hc,da⟩:=Dc.call Bi a;have Ci:=Ec.k da;have Ic:=Fc.k da;have Di:=Gc.k da;have Ei:=yi.k da;refine⟨_,_,_,_,_,_,rfl,_,_,Di.bk.ra,(Gc.bk.ra),(Cc.bk.ra),trivial,_,Ic.bk.rc rfl,(Fc.bk.rc rfl),(Bc.bk.rc rfl),?_⟩;obtain⟨Xj,Fi,hp⟩:=zrB hp;refine zxS (l:=ui) (c:=zi) (t:=({ Day:=p.1.Day,Count:=p.1.Count }:Tr)) (pence:=o.1.Lo) Hc.pre xi Fi fun Yk Gi=>?_;obtain⟨Ba,Ca⟩:=Hc.call Gi a;have Jc:=Ci.k Ca;have Kc:=Ic.k Ca;have Nc:=Ei.k Ca;refine⟨_,rfl,?_⟩;refine zsa hp (fun Ii hp=>?_) fun Ii hp=>?_; rotate_left
 ·obtain rfl:=oi hp;exact hq _ Ba.ext'
 obtain⟨Ji,Ki,hp⟩:=zrB hp;refine zxU (l:=l) Ba.pre (ha100.sub (Sub.trans (Sub.trans (Sub.trans (Sub.trans (Sub.trans e.fs g.fs) h.fs) i.fs) j.fs) A.fs)) Ki fun Zk Yj Zj Ni Oi=>?_;obtain⟨Oc,Da⟩:=Ba.callG Ni a;have Pi:=Jc.k Da;have Pc:=Kc.k Da;have Qc:=Nc.k Da;refine⟨_,rfl,_,_,_,_,_,_,Pi.bk.ra,(Jc.bk.ra),?_⟩;obtain⟨Qi,Ri,hp⟩:=zrB hp;refine zwv (c:=c) Oc.pre  Ri fun al Si=>?_;obtain⟨Rc,Tc⟩:=Oc.call Si a;have Ti:=Pc.k Tc;have Ui:=Qc.k Tc;refine⟨_,_,_,_,_,_,rfl,_,_,Ui.bk.ra,(Qc.bk.ra),(Nc.bk.ra),trivial,_,Ti.bk.rc rfl,(Pc.bk.rc rfl),(Kc.bk.rc rfl),?_⟩;obtain⟨ak,Vi,hp⟩:=zrB hp;refine zxS (l:=Ji) (c:=Qi) (t:=({ Day:=q.1.Day,Count:=q.1.Count }:Tr)) (pence:=o.1.Hi) Rc.pre Oi Vi fun bl Wi=>?_;obtain⟨Ea,ck⟩:=Rc.call Wi a;refine⟨_,rfl,?_⟩;refine zsa hp (fun Xi hp=>?_) fun Xi hp=>?_; rotate_left
 ·obtain rfl:=oi hp;exact hq _ Ea.ext'
 obtain⟨dk,Yi,hp⟩:=zrB hp;refine zwe Ea.pre  Yi fun cl Zi=>?_;obtain⟨aj,ek⟩:=Ea.call Zi a;refine⟨_,rfl,?_⟩;obtain rfl:=oi hp;exact hq _ aj.ext'
end
end Go.Proofs.Ytdedachmfbiekaa

