/- An evaluator of code, its soundness, and what functions of the program do. Condition: none; a lemma text. -/
import Derived.Test.YtlpjlgmoaipoiaaZgG

namespace Go.Proofs.Ytlpjlgmoaipoiaa
open _root_.Go.Proofs.Try
open Go.Abs
set_option maxRecDepth 100000
noncomputable section
theorem w6{s t u w y z g:Int}{A B:C}{m:M}{Q:V->M->Prop}(h:(∀i:M,(i=M.new m (AO.cells 6 [Il s,Il t,Il u,Il w,Il y,A] false))->∀S:M,(S=M.new i (AO.cells 2 [Il z,B] false))->∃x2 x3 x4 x5 x6 c7,ldA S (.ptr m.nxt 0) 6=some [Il x2,Il x3,Il x4,Il x5,Il x6,c7]/\∃x8 c9,ldA S (.ptr i.nxt 0) 2=some [Il x8,c9]/\Wc prog tbl 17 [.agg 6 [Il x2,Il x3,Il x4,Il x5,Il x6,c7],(.agg 2 [Il x8,c9])] S (fun be j=>∃T,be=.c (.bool T)/\ifB (!T) (Wc prog tbl 18 [] j (fun bf bg=>∃Y,bf=.c (.bool Y)/\Q (.c (.bool Y)) bg)) (isPt (.ptr i.nxt 0)/\∃D,ldC j (.ptr i.nxt 1)=some D/\isSl D/\ifB (decide ((slLen D:Int)=(6:Int))) (Wc prog tbl 18 [] j (fun bh bi=>∃Z,bh=.c (.bool Z)/\Q (.c (.bool Z)) bi)) (∃aa ab ac ad ae af,ldA j (.ptr m.nxt 0) 6=some [Il aa,Il ab,Il ac,Il ad,Il ae,af]/\Wc prog tbl 20 [.agg 6 [Il aa,Il ab,Il ac,Il ad,Il ae,af]] j (fun bj ag=>∃ah ai aj ak al am,bj=.agg 6 [Il ah,Il ai,Il aj,Il ak,Il al,am]/\∃q r,ldA ag (.ptr i.nxt 0) 2=some [Il q,r]/\ifB (zaL cmC [Il q,r]) (ldA j (.ptr i.nxt 0) 2=some [Il q,r]) False/\Wc prog tbl 21 [.agg 2 [Il q,r]] ag (fun bl bm=>∃an ao,bl=.agg 2 [Il an,ao]/\Wc prog tbl 39 [.agg 6 [Il ah,Il ai,Il aj,Il ak,Il al,am],(.agg 2 [Il an,ao]),(.c (Il g))] bm (fun bn F=>∃a e,bn=.tup [.c a,(.c (Il e))]/\∃ap aq ar au av ax,ldA F (.ptr m.nxt 0) 6=some [Il ap,Il aq,Il ar,Il au,Il av,ax]/\∃ay az,ldA F (.ptr i.nxt 0) 2=some [Il ay,az]/\Wc prog tbl 24 [.agg 6 [Il ap,Il aq,Il ar,Il au,Il av,ax],(.agg 2 [Il ay,az])] F (fun bo f=>∃l,bo=.c (Il l)/\ifB (decide (l=0)) (isPt (.ptr m.nxt 0)/\∃G,ldC f (.ptr m.nxt 0)=some (Il G)/\zl6 .i64 (G - 1)/\Wc prog tbl 40 [.c (Il g),(.c (Il 0)),(.c (Il (G - 1)))] f (fun bp d=>∃aA,bp=.c (.bool aA)/\ifB (!aA) (ifB (decide (e=2)) (isSl a/\ifB (decide ((slLen a:Int)=(0:Int))) (Wc prog tbl 18 [] d (fun bq br=>∃aB,bq=.c (.bool aB)/\Q (.c (.bool aB)) br)) (Q (.c (.bool false)) d)) (Q (.c (.bool false)) d)) (ifB (!decide (l=0)) (ifB (decide (e=l)) (isSl a/\ifB (decide ((slLen a:Int)=(0:Int))) (Wc prog tbl 18 [] d (fun bs bt=>∃aC,bs=.c (.bool aC)/\Q (.c (.bool aC)) bt)) (Q (.c (.bool false)) d)) (Q (.c (.bool false)) d)) (∃aD aE aF aG aH aI,ldA d (.ptr m.nxt 0) 6=some [Il aD,Il aE,Il aF,Il aG,Il aH,aI]/\∃aJ aK,ldA d (.ptr i.nxt 0) 2=some [Il aJ,aK]/\Wc prog tbl 41 [.agg 6 [Il aD,Il aE,Il aF,Il aG,Il aH,aI],(.agg 2 [Il aJ,aK]),(.c (Il g))] d (fun bu o=>∃aL aM,bu=.tup [.c aL,(.c (.bool aM))]/\ifB (!aM) (ifB (decide (e=7)) (isSl a/\ifB (decide ((slLen a:Int)=(0:Int))) (Wc prog tbl 18 [] o (fun bv bw=>∃aN,bv=.c (.bool aN)/\Q (.c (.bool aN)) bw)) (Q (.c (.bool false)) o)) (Q (.c (.bool false)) o)) (ifB (decide (e=0)) (Wc prog tbl 28 [.c a,.c aL] o (fun bx aO=>∃aP,bx=.c (.bool aP)/\ifB aP (Wc prog tbl 18 [] aO (fun bz bA=>∃aQ,bz=.c (.bool aQ)/\Q (.c (.bool aQ)) bA)) (Q (.c (.bool false)) aO))) (Q (.c (.bool false)) o))))))) (ifB (!decide (l=0)) (ifB (decide (e=l)) (isSl a/\ifB (decide ((slLen a:Int)=(0:Int))) (Wc prog tbl 18 [] f (fun bB bC=>∃aR,bB=.c (.bool aR)/\Q (.c (.bool aR)) bC)) (Q (.c (.bool false)) f)) (Q (.c (.bool false)) f)) (∃aS aT aU aV aW aX,ldA f (.ptr m.nxt 0) 6=some [Il aS,Il aT,Il aU,Il aV,Il aW,aX]/\∃aY aZ,ldA f (.ptr i.nxt 0) 2=some [Il aY,aZ]/\Wc prog tbl 41 [.agg 6 [Il aS,Il aT,Il aU,Il aV,Il aW,aX],(.agg 2 [Il aY,aZ]),(.c (Il g))] f (fun bD p=>∃a0 I,bD=.tup [.c a0,(.c (.bool I))]/\ifB (!I) (ifB (decide (e=7)) (isSl a/\ifB (decide ((slLen a:Int)=(0:Int))) (Wc prog tbl 18 [] p (fun a1 a2=>∃J,a1=.c (.bool J)/\Q (.c (.bool J)) a2)) (Q (.c (.bool false)) p)) (Q (.c (.bool false)) p)) (ifB (decide (e=0)) (Wc prog tbl 28 [.c a,.c a0] p (fun a3 N=>∃O,a3=.c (.bool O)/\ifB O (Wc prog tbl 18 [] N (fun a4 a5=>∃P,a4=.c (.bool P)/\Q (.c (.bool P)) a5)) (Q (.c (.bool false)) N))) (Q (.c (.bool false)) p)))))))))))))):Wc prog tbl 6 [.agg 6 [Il s,Il t,Il u,Il w,Il y,A],(.agg 2 [Il z,B]),(.c (Il g))] m Q:=zpK (n:=3) rfl (by kernel_rfl) (by kernel_rfl) h
theorem w15{aE aF aG aH aI aJ A:Int}{aK aL aM:C}{m:M}{Q:V->M->Prop}(h:(∀j:M,(j=M.new m (AO.cells 6 [Il aE,Il aF,Il aG,Il aH,Il aI,aK] false))->∀m1:M,(m1=M.new j (AO.cells 2 [Il aJ,aL] false))->∃x2 x3 x4 x5 x6 c7,ldA m1 (.ptr m.nxt 0) 6=some [Il x2,Il x3,Il x4,Il x5,Il x6,c7]/\∃x8 c9,ldA m1 (.ptr j.nxt 0) 2=some [Il x8,c9]/\Wc prog tbl 44 [.agg 6 [Il x2,Il x3,Il x4,Il x5,Il x6,c7],(.agg 2 [Il x8,c9])] m1 (fun cB B=>∃bD,cB=.c (.bool bD)/\ifB (!bD) (Wc prog tbl 18 [] B (fun cC cD=>∃bE,cC=.c (.bool bE)/\Q (.c (.bool bE)) cD)) (∀r:M,(r=zob B 1)->∃D F G I J N,ldA r (.ptr m.nxt 0) 6=some [Il D,Il F,Il G,Il I,Il J,N]/\∃s t u w y z,ldA r (.ptr m.nxt 0) 6=some [Il s,Il t,Il u,Il w,Il y,z]/\∀ax:M,(ax=M.new r (AO.cells 6 [Il 0,Il 0,Il 0,Il 0,Il 0,C.sl0] false))->ifB (zaL cmC [Il s,Il t,Il u,Il w,Il y,z]) (ldA ax (.ptr m.nxt 0) 6=some [Il s,Il t,Il u,Il w,Il y,z]) False/\ifB (zaL cmC [Il D,Il F,Il G,Il I,Il J,N]) (ldA ax (.ptr m.nxt 0) 6=some [Il D,Il F,Il G,Il I,Il J,N]) False/\∀ay:M,(ay=M.set ax (B.nxt+0) (AO.cells 6 [Il 0,Il 0,Il 0,Il 0,Il 0,C.sl0] false))->ifB (zaL cmC [Il s,Il t,Il u,Il w,Il y,z]) (ldA ay (.ptr m.nxt 0) 6=some [Il s,Il t,Il u,Il w,Il y,z]) False/\ifB (zaL cmC [Il D,Il F,Il G,Il I,Il J,N]) (ldA ay (.ptr m.nxt 0) 6=some [Il D,Il F,Il G,Il I,Il J,N]) False/\∃aN:M,stC ay (.ptr r.nxt 0) 6 [Il D,Il F,Il G,Il I,Il J,N]=some aN/\ifB (zaL cmC [Il s,Il t,Il u,Il w,Il y,z]) (ldA aN (.ptr m.nxt 0) 6=some [Il s,Il t,Il u,Il w,Il y,z]) False/\∃aO:M,stC aN (.ptr (B.nxt+0) 0) 6 [Il s,Il t,Il u,Il w,Il y,z]=some aO/\isPt (.ptr m.nxt 0)/\∃aP,ldC aO (.ptr m.nxt 3)=some (Il aP)/\(0:Int)<=(zmb .i64 A)/\(0:Int) < (3:Int)/\zl6 .i64 ((zmb .i64 A) % (3:Int))/\zl6 .i64 (aP - ((zmb .i64 A) % (3:Int)))/\isPt (.ptr r.nxt 0)/\∃bF:M,stC aO (.ptr r.nxt 3) 1 [(Il (Max.max (0:Int) (aP - ((zmb .i64 A) % (3:Int)))))]=some bF/\isPt (.ptr (B.nxt+0) 0)/\∃aQ:M,stC bF (.ptr (B.nxt+0) 3) 1 [Il 0]=some aQ/\∃bG bH,ldA aQ (.ptr j.nxt 0) 2=some [Il bG,bH]/\Wc prog tbl 45 [.agg 2 [Il bG,bH],.c aM] aQ (fun cE e=>∃bI bJ,cE=.agg 2 [bI,bJ]/\∀bK:M,(bK=M.new e (AO.cells 2 [C.sl0,C.sl0] false))->∃ac:M,stC bK (.ptr e.nxt 0) 2 [bI,bJ]=some ac/\∃bL bM bN bO bP bQ,ldA ac (.ptr m.nxt 0) 6=some [Il bL,Il bM,Il bN,Il bO,Il bP,bQ]/\Wc prog tbl 20 [.agg 6 [Il bL,Il bM,Il bN,Il bO,Il bP,bQ]] ac (fun cF aR=>∃bR bS bT bU bV bW,cF=.agg 6 [Il bR,Il bS,Il bT,Il bU,Il bV,bW]/\∃az aA,ldA aR (.ptr j.nxt 0) 2=some [Il az,aA]/\ifB (zaL cmC [Il az,aA]) (ldA ac (.ptr j.nxt 0) 2=some [Il az,aA]) False/\Wc prog tbl 21 [.agg 2 [Il az,aA]] aR (fun cG bX=>∃bY bZ,cG=.agg 2 [Il bY,bZ]/\∃O P,ldA bX (.ptr e.nxt 0) 2=some [O,P]/\ifB (zaL cmC [O,P]) (ldA aR (.ptr e.nxt 0) 2=some [O,P]) False/\ifB (zaL cmC [O,P]) (ldA ac (.ptr e.nxt 0) 2=some [O,P]) False/\Wc prog tbl 22 [.agg 2 [O,P]] bX (fun cH cI=>∃b0 b1,cH=.agg 2 [b0,b1]/\Wc prog tbl 19 [.agg 6 [Il bR,Il bS,Il bT,Il bU,Il bV,bW],(.agg 2 [Il bY,bZ]),(.agg 2 [b0,b1])] cI (fun cJ aB=>∃i b2,cJ=.tup [.c i,(.c (Il b2))]/\∃b3 b4 b5 b6 b7 b8,ldA aB (.ptr r.nxt 0) 6=some [Il b3,Il b4,Il b5,Il b6,Il b7,b8]/\Wc prog tbl 20 [.agg 6 [Il b3,Il b4,Il b5,Il b6,Il b7,b8]] aB (fun cK aS=>∃b9 ca cb cc cd ce,cK=.agg 6 [Il b9,Il ca,Il cb,Il cc,Il cd,ce]/\∃aC aD,ldA aS (.ptr j.nxt 0) 2=some [Il aC,aD]/\ifB (zaL cmC [Il aC,aD]) (ldA aB (.ptr j.nxt 0) 2=some [Il aC,aD]) False/\Wc prog tbl 21 [.agg 2 [Il aC,aD]] aS (fun cL cf=>∃cg ch,cL=.agg 2 [Il cg,ch]/\∃S T,ldA cf (.ptr e.nxt 0) 2=some [S,T]/\ifB (zaL cmC [S,T]) (ldA aS (.ptr e.nxt 0) 2=some [S,T]) False/\ifB (zaL cmC [S,T]) (ldA aB (.ptr e.nxt 0) 2=some [S,T]) False/\Wc prog tbl 22 [.agg 2 [S,T]] cf (fun cM cN=>∃ci cj,cM=.agg 2 [ci,cj]/\Wc prog tbl 19 [.agg 6 [Il b9,Il ca,Il cb,Il cc,Il cd,ce],(.agg 2 [Il cg,ch]),(.agg 2 [ci,cj])] cN (fun ck Y=>∃l aT,ck=.tup [.c l,(.c (Il aT))]/\∃aU aV aW aX aY aZ,ldA Y (.ptr (B.nxt+0) 0) 6=some [Il aU,Il aV,Il aW,Il aX,Il aY,aZ]/\Wc prog tbl 20 [.agg 6 [Il aU,Il aV,Il aW,Il aX,Il aY,aZ]] Y (fun cl ad=>∃a0 a1 a2 a3 a4 a5,cl=.agg 6 [Il a0,Il a1,Il a2,Il a3,Il a4,a5]/\∃Z aa,ldA ad (.ptr j.nxt 0) 2=some [Il Z,aa]/\ifB (zaL cmC [Il Z,aa]) (ldA Y (.ptr j.nxt 0) 2=some [Il Z,aa]) False/\Wc prog tbl 21 [.agg 2 [Il Z,aa]] ad (fun cm a6=>∃a7 a8,cm=.agg 2 [Il a7,a8]/\∃o p,ldA a6 (.ptr e.nxt 0) 2=some [o,p]/\ifB (zaL cmC [o,p]) (ldA ad (.ptr e.nxt 0) 2=some [o,p]) False/\ifB (zaL cmC [o,p]) (ldA Y (.ptr e.nxt 0) 2=some [o,p]) False/\Wc prog tbl 22 [.agg 2 [o,p]] a6 (fun cn co=>∃a9 ba,cn=.agg 2 [a9,ba]/\Wc prog tbl 19 [.agg 6 [Il a0,Il a1,Il a2,Il a3,Il a4,a5],(.agg 2 [Il a7,a8]),(.agg 2 [a9,ba])] co (fun cp g=>∃f bb,cp=.tup [.c f,(.c (Il bb))]/\ifB (!decide (b2=0)) (Q (.c (.bool false)) g) (ifB (!decide (aT=0)) (Q (.c (.bool false)) g) (ifB (!decide (bb=0)) (Q (.c (.bool false)) g) (isSl i/\isPt (.ptr j.nxt 0)/\∃ae,ldC g (.ptr j.nxt 1)=some ae/\isSl ae/\ifB (!decide ((slLen i:Int)=(slLen ae:Int))) (Q (.c (.bool false)) g) (isSl l/\isSl i/\ifB (!decide ((slLen l:Int)=(slLen i:Int))) (Q (.c (.bool false)) g) (isSl f/\isSl i/\ifB (!decide ((slLen f:Int)=(slLen i:Int))) (Q (.c (.bool false)) g) (isPt (.ptr j.nxt 0)/\∃bc,ldC g (.ptr j.nxt 0)=some (Il bc)/\∀ab:List V->M->Prop,(∀af:Bool,∀ag a:Int,∀d:M,(isSl i/\ifB (decide (a < (slLen i:Int))) (∃ah:Nat,a=((ah:Nat):Int)/\ah < (slLen l)/\∃bd,ldC d (zl8 l (ah * 1))=some (Il bd)/\∃ai:Nat,a=((ai:Nat):Int)/\ai < (slLen i)/\∃be,ldC d (zl8 i (ai * 1))=some (Il be)/\ifB (decide (be < bd)) (Q (.c (.bool false)) d) (∃aj:Nat,a=((aj:Nat):Int)/\aj < (slLen f)/\∃bf,ldC d (zl8 f (aj * 1))=some (Il bf)/\∃ak:Nat,a=((ak:Nat):Int)/\ak < (slLen l)/\∃bg,ldC d (zl8 l (ak * 1))=some (Il bg)/\ifB (decide (bg < bf)) (Q (.c (.bool false)) d) (∃bh bi bj bl bm bn,ldA d (.ptr m.nxt 0) 6=some [Il bh,Il bi,Il bj,Il bl,Il bm,bn]/\isPt (.ptr j.nxt 0)/\∃al,ldC d (.ptr j.nxt 1)=some al/\∃am:Nat,a=((am:Nat):Int)/\am < (slLen al)/\∃bo bp bq br bs bt,ldA d (zl8 al (am * 6)) 6=some [Il bo,Il bp,Il bq,Il br,Il bs,.bool bt]/\isPt (.ptr e.nxt 0)/\∃an,ldC d (.ptr e.nxt 0)=some an/\∃ao:Nat,a=((ao:Nat):Int)/\ao < (slLen an)/\∃bu,ldC d (zl8 an (ao * 1))=some (Il bu)/\isPt (.ptr e.nxt 0)/\∃ap,ldC d (.ptr e.nxt 1)=some ap/\∃aq:Nat,a=((aq:Nat):Int)/\aq < (slLen ap)/\∃bv,ldC d (zl8 ap (aq * 1))=some (Il bv)/\Wc prog tbl 46 [.agg 6 [Il bh,Il bi,Il bj,Il bl,Il bm,bn],(.agg 6 [Il bo,Il bp,Il bq,Il br,Il bs,.bool bt]),(.c (Il bu)),(.c (Il bv))] d (fun cq q=>∃bw,cq=.c (Il bw)/\ifB (decide (bw=1)) (∃ar:Nat,a=((ar:Nat):Int)/\ar < (slLen f)/\∃bx,ldC q (zl8 f (ar * 1))=some (Il bx)/\zl6 .i64 (ag - 1)/\ifB (!decide (bx=Max.max (ag - 1) (0:Int))) (Q (.c (.bool false)) q) (∃au:Nat,a=((au:Nat):Int)/\au < (slLen f)/\∃bz,ldC q (zl8 f (au * 1))=some (Il bz)/\zl6 .i64 (a+1)/\ab [.c (.bool af),(.c (Il bz)),(.c (Il (a+1)))] q)) (∃av:Nat,a=((av:Nat):Int)/\av < (slLen f)/\∃bA,ldC q (zl8 f (av * 1))=some (Il bA)/\zl6 .i64 (a+1)/\ab [.c (.bool af),(.c (Il bA)),(.c (Il (a+1)))] q))))) (Wc prog tbl 18 [] d (fun cr cs=>∃bB,cr=.c (.bool bB)/\Q (.c (.bool bB)) cs)))->ab [.c (.bool af),(.c (Il ag)),(.c (Il a))] d)->ab [.c (.bool false),(.c (Il bc)),(.c (Il 0))] g))))))))))))))))))))))):Wc prog tbl 15 [.agg 6 [Il aE,Il aF,Il aG,Il aH,Il aI,aK],(.agg 2 [Il aJ,aL]),.c aM,(.c (C.int .u8 A))] m Q:=zpK (n:=4) rfl (by kernel_rfl) (by kernel_rfl) h
theorem w19{e f g i j l:Int}{o p q r:C}{m:M}{Q:V->M->Prop}(h:(∀u:M,(u=M.new m (AO.cells 6 [Il e,Il f,Il g,Il i,Il j,o] false))->∀w:M,(w=M.new u (AO.cells 2 [Il l,p] false))->∀y:M,(y=M.new w (AO.cells 2 [q,r] false))->∃x3 x4 x5 x6 x7 c8,ldA y (.ptr m.nxt 0) 6=some [Il x3,Il x4,Il x5,Il x6,Il x7,c8]/\∃x9 z,ldA y (.ptr u.nxt 0) 2=some [Il x9,z]/\Wc prog tbl 53 [.agg 6 [Il x3,Il x4,Il x5,Il x6,Il x7,c8],(.agg 2 [Il x9,z])] y (fun aF s=>∃A B D F G I J N O P S T Y t,aF=.tup [.agg 13 [Il A,Il B,Il D,Il F,Il G,I,Il J,N,O,P,S,T,Y],(.c (Il t))]/\∀Z:M,(Z=M.new s (AO.cells 13 [Il 0,Il 0,Il 0,Il 0,Il 0,C.sl0,Il 0,C.sl0,C.nilFn,C.nilFn,C.nilFn,C.nilFn,C.sl0] false))->∃a:M,stC Z (.ptr s.nxt 0) 13 [Il A,Il B,Il D,Il F,Il G,I,Il J,N,O,P,S,T,Y]=some a/\ifB (!decide (t=0)) (Q (.tup [.c C.sl0,(.c (Il t))]) a) (∃aa ab,ldA a (.ptr u.nxt 0) 2=some [Il aa,ab]/\∃ac ad,ldA a (.ptr w.nxt 0) 2=some [ac,ad]/\Wc prog tbl 54 [.agg 2 [Il aa,ab],(.agg 2 [ac,ad])] a (fun aG d=>∃ae,aG=.c (.bool ae)/\ifB (!ae) (Q (.tup [.c C.sl0,(.c (Il 2))]) d) (∃af ag ah ai aj ak al am an ao ap aq ar,ldA d (.ptr s.nxt 0) 13=some [Il af,Il ag,Il ah,Il ai,Il aj,ak,Il al,am,an,ao,ap,aq,ar]/\∃au av,ldA d (.ptr w.nxt 0) 2=some [au,av]/\Wc prog tbl 55 [.agg 13 [Il af,Il ag,Il ah,Il ai,Il aj,ak,Il al,am,an,ao,ap,aq,ar],(.agg 2 [au,av])] d (fun aH aI=>∃ax,aH=.c ax/\Q (.tup [.c ax,(.c (Il 0))]) aI))))))):Wc prog tbl 19 [.agg 6 [Il e,Il f,Il g,Il i,Il j,o],(.agg 2 [Il l,p]),(.agg 2 [q,r])] m Q:=zpK (n:=3) rfl (by kernel_rfl) (by kernel_rfl) h
theorem w35{d e f g i j:Int}{l o:C}{m:M}{Q:V->M->Prop}(h:(∀m0:M,(m0=M.new m (AO.cells 6 [Il d,Il e,Il f,Il g,Il i,l] false))->∀r:M,(r=M.new m0 (AO.cells 2 [Il j,o] false))->∃x2 x3 x4 x5 x6 c7,ldA r (.ptr m.nxt 0) 6=some [Il x2,Il x3,Il x4,Il x5,Il x6,c7]/\∃x8 c9,ldA r (.ptr m0.nxt 0) 2=some [Il x8,c9]/\Wc prog tbl 53 [.agg 6 [Il x2,Il x3,Il x4,Il x5,Il x6,c7],(.agg 2 [Il x8,c9])] r (fun ar p=>∃s t u w y z A B D F G I J q,ar=.tup [.agg 13 [Il s,Il t,Il u,Il w,Il y,z,Il A,B,D,F,G,I,J],(.c (Il q))]/\∀N:M,(N=M.new p (AO.cells 13 [Il 0,Il 0,Il 0,Il 0,Il 0,C.sl0,Il 0,C.sl0,C.nilFn,C.nilFn,C.nilFn,C.nilFn,C.sl0] false))->∃a:M,stC N (.ptr p.nxt 0) 13 [Il s,Il t,Il u,Il w,Il y,z,Il A,B,D,F,G,I,J]=some a/\ifB (!decide (q=0)) (Q (.tup [.c C.sl0,(.c (Il q))]) a) (∃O P S T Y Z aa ab ac ad ae af ag,ldA a (.ptr p.nxt 0) 13=some [Il O,Il P,Il S,Il T,Il Y,Z,Il aa,ab,ac,ad,ae,af,ag]/\Wc prog tbl 70 [.agg 13 [Il O,Il P,Il S,Il T,Il Y,Z,Il aa,ab,ac,ad,ae,af,ag]] a (fun au av=>∃ah,au=.c ah/\Q (.tup [.c ah,(.c (Il 0))]) av))))):Wc prog tbl 35 [.agg 6 [Il d,Il e,Il f,Il g,Il i,l],(.agg 2 [Il j,o])] m Q:=zpK (n:=2) rfl (by kernel_rfl) (by kernel_rfl) h
theorem w39{e f g i j l a:Int}{o p:C}{m:M}{Q:V->M->Prop}(h:(∀m0:M,(m0=M.new m (AO.cells 6 [Il e,Il f,Il g,Il i,Il j,o] false))->∀t:M,(t=M.new m0 (AO.cells 2 [Il l,p] false))->∃x2 x3 x4 x5 x6 c7,ldA t (.ptr m.nxt 0) 6=some [Il x2,Il x3,Il x4,Il x5,Il x6,c7]/\∃x8 c9,ldA t (.ptr m0.nxt 0) 2=some [Il x8,c9]/\Wc prog tbl 53 [.agg 6 [Il x2,Il x3,Il x4,Il x5,Il x6,c7],(.agg 2 [Il x8,c9])] t (fun aF q=>∃u w y z A B D F G I J N O r,aF=.tup [.agg 13 [Il u,Il w,Il y,Il z,Il A,B,Il D,F,G,I,J,N,O],(.c (Il r))]/\∀P:M,(P=M.new q (AO.cells 13 [Il 0,Il 0,Il 0,Il 0,Il 0,C.sl0,Il 0,C.sl0,C.nilFn,C.nilFn,C.nilFn,C.nilFn,C.sl0] false))->∃d:M,stC P (.ptr q.nxt 0) 13 [Il u,Il w,Il y,Il z,Il A,B,Il D,F,G,I,J,N,O]=some d/\ifB (!decide (r=0)) (Q (.tup [.c C.sl0,(.c (Il r))]) d) (∃S T Y Z aa ab,ldA d (.ptr m.nxt 0) 6=some [Il S,Il T,Il Y,Il Z,Il aa,ab]/\Wc prog tbl 72 [.agg 6 [Il S,Il T,Il Y,Il Z,Il aa,ab],(.c (Il a))] d (fun aG s=>∃ac,aG=.c (.bool ac)/\ifB (!ac) (Q (.tup [.c C.sl0,(.c (Il 2))]) s) (∃ad ae af ag ah ai aj ak al am an ao ap,ldA s (.ptr q.nxt 0) 13=some [Il ad,Il ae,Il af,Il ag,Il ah,ai,Il aj,ak,al,am,an,ao,ap]/\Wc prog tbl 73 [.agg 13 [Il ad,Il ae,Il af,Il ag,Il ah,ai,Il aj,ak,al,am,an,ao,ap],(.c (Il a))] s (fun aH aq=>∃ar au,aH=.tup [.c ar,(.c (.bool au))]/\ifB (!au) (Q (.tup [.c C.sl0,(.c (Il 7))]) aq) (Q (.tup [.c ar,(.c (Il 0))]) aq)))))))):Wc prog tbl 39 [.agg 6 [Il e,Il f,Il g,Il i,Il j,o],(.agg 2 [Il l,p]),(.c (Il a))] m Q:=zpK (n:=3) rfl (by kernel_rfl) (by kernel_rfl) h
theorem w43{m:M}{Q:V->M->Prop}(h:(∀F:M,(F=M.new m (AO.cells 2 [Il 0,C.sl0] false))->Wc prog tbl 48 [.c (Il 50),(.c (Il 50))] F (fun v1 m2=>∃G I,v1=.agg 2 [Il G,Il I]/\Wc prog tbl 48 [.c (Il 100),(.c (Il 102))] m2 (fun v5 m6=>∃J N,v5=.agg 2 [Il J,Il N]/\Wc prog tbl 48 [.c (Il 130),(.c (Il 131))] m6 (fun v9 O=>∃d e,v9=.agg 2 [Il d,Il e]/\Wc prog tbl 48 [.c (Il 108),(.c (Il 109))] O (fun P S=>∃f g,P=.agg 2 [Il f,Il g]/\Wc prog tbl 48 [.c (Il 10),(.c (Il 10))] S (fun T Y=>∃i j,T=.agg 2 [Il i,Il j]/\Wc prog tbl 48 [.c (Il 100),(.c (Il 100))] Y (fun Z aa=>∃l o,Z=.agg 2 [Il l,Il o]/\Wc prog tbl 48 [.c (Il 30),(.c (Il 30))] aa (fun ab ac=>∃p q,ab=.agg 2 [Il p,Il q]/\Wc prog tbl 48 [.c (Il 100),(.c (Il 100))] ac (fun ad ae=>∃r s,ad=.agg 2 [Il r,Il s]/\Wc prog tbl 48 [.c (Il 39),(.c (Il 41))] ae (fun af ag=>∃t u,af=.agg 2 [Il t,Il u]/\Wc prog tbl 48 [.c (Il 100),(.c (Il 100))] ag (fun ah w=>∃y z,ah=.agg 2 [Il y,Il z]/\∀A:M,(A=M.new w (AO.cells 30 [Il G,Il I,Il J,Il N,Il 9,.bool false,Il d,Il e,Il f,Il g,Il 9,.bool false,Il i,Il j,Il l,Il o,Il 3,.bool false,Il p,Il q,Il r,Il s,Il 9,.bool false,Il t,Il u,Il y,Il z,Il 9,.bool false] false))->∃a:M,stC A (.ptr m.nxt 0) 2 [Il 1,(.sl w.nxt 0 5 0 (some 5))]=some a/\∃B D,ldA a (.ptr m.nxt 0) 2=some [Il B,D]/\Q (.agg 2 [Il B,D]) a)))))))))))):Wc prog tbl 43 [] m Q:=zpK (n:=0) rfl (by kernel_rfl) (by kernel_rfl) h
theorem w47{a:C}{d:Int}{m:M}{Q:V->M->Prop}(h:(∀g:List V->M->Prop,(∀j:Bool,∀e:Int,∀f:M,(isSl a/\ifB (decide (e < (slLen a:Int))) (∃i:Nat,e=((i:Nat):Int)/\i < (slLen a)/\∃l,ldC f (zl8 a (i * 1))=some (Il l)/\ifB (decide (l=d)) (Q (.c (.bool true)) f) (zl6 .i64 (e+1)/\g [.c (.bool j),(.c (Il (e+1)))] f)) (Q (.c (.bool false)) f))->g [.c (.bool j),(.c (Il e))] f)->g [.c (.bool false),(.c (Il 0))] m)):Wc prog tbl 47 [.c a,(.c (Il d))] m Q:=zpK (n:=2) rfl (by kernel_rfl) (by kernel_rfl) h
theorem w55{p q r s t u:Int}{w y z A B D F G I:C}{m:M}{Q:V->M->Prop}(h:(∀o:M,(o=M.new m (AO.cells 13 [Il p,Il q,Il r,Il s,Il t,w,Il u,y,z,A,B,D,F] false))->∀m1:M,(m1=M.new o (AO.cells 2 [G,I] false))->∃x2 x3 x4 x5 x6 c7 x8 c9 aa ab ac ad ae,ldA m1 (.ptr m.nxt 0) 13=some [Il x2,Il x3,Il x4,Il x5,Il x6,c7,Il x8,c9,aa,ab,ac,ad,ae]/\Wc prog tbl 79 [.agg 13 [Il x2,Il x3,Il x4,Il x5,Il x6,c7,Il x8,c9,aa,ab,ac,ad,ae]] m1 (fun a5 e=>∃af ag,a5=.agg 2 [Il af,Il ag]/\∀ah:M,(ah=M.new e (AO.cells 2 [Il 0,Il 0] false))->∃J:M,stC ah (.ptr e.nxt 0) 2 [Il af,Il ag]=some J/\isPt (.ptr m.nxt 0)/\isPt (.ptr m.nxt 6)/\∃g,ldC J (.ptr m.nxt 7)=some g/\isSl g/\∀N:List V->M->Prop,(∀O:C,∀d:Int,∀f:M,(ifB (decide (d < (slLen g:Int))) (∃P:Nat,d=((P:Nat):Int)/\P < (slLen g)/\∃ai aj ak al am an,ldA f (zl8 g (P * 6)) 6=some [Il ai,Il aj,Il ak,Il al,Il am,.bool an]/\∀ao:M,(ao=M.new f (AO.cells 6 [Il 0,Il 0,Il 0,Il 0,Il 0,.bool false] false))->∃a:M,stC ao (.ptr f.nxt 0) 6 [Il ai,Il aj,Il ak,Il al,Il am,.bool an]=some a/\isPt (.ptr m.nxt 0)/\∃ap aq ar au av ax,ldA a (.ptr m.nxt 0) 6=some [Il ap,Il aq,Il ar,Il au,Il av,ax]/\∃ay az aA aB aC aD,ldA a (.ptr f.nxt 0) 6=some [Il ay,Il az,Il aA,Il aB,Il aC,.bool aD]/\isPt (.ptr o.nxt 0)/\∃S,ldC a (.ptr o.nxt 0)=some S/\∃T:Nat,d=((T:Nat):Int)/\T < (slLen S)/\∃aE,ldC a (zl8 S (T * 1))=some (Il aE)/\isPt (.ptr o.nxt 0)/\∃Y,ldC a (.ptr o.nxt 1)=some Y/\∃Z:Nat,d=((Z:Nat):Int)/\Z < (slLen Y)/\∃aF,ldC a (zl8 Y (Z * 1))=some (Il aF)/\Wc prog tbl 80 [.agg 6 [Il ap,Il aq,Il ar,Il au,Il av,ax],(.agg 6 [Il ay,Il az,Il aA,Il aB,Il aC,.bool aD]),(.c (Il aE)),(.c (Il aF))] a (fun a6 i=>∃aG,a6=.c (Il aG)/\isPt (.ptr m.nxt 0)/\isPt (.ptr m.nxt 8)/\∃j:Nat,aG=((j:Nat):Int)/\j < 4/\isPt (.ptr m.nxt (8+(j * 1)))/\∃aH,ldC i (.ptr m.nxt ((8+(j * 1))+0))=some aH/\isPt (.ptr m.nxt 0)/\∃aI aJ aK aL aM aN,ldA i (.ptr m.nxt 0) 6=some [Il aI,Il aJ,Il aK,Il aL,Il aM,aN]/\∃aO aP,ldA i (.ptr e.nxt 0) 2=some [Il aO,Il aP]/\zmw prog tbl [.agg 6 [Il aI,Il aJ,Il aK,Il aL,Il aM,aN],(.agg 2 [Il aO,Il aP])] aH i (fun a7 a8=>∃aQ aR,a7=.agg 2 [Il aQ,Il aR]/\∃l:M,stC a8 (.ptr e.nxt 0) 2 [Il aQ,Il aR]=some l/\isPt (.ptr e.nxt 0)/\∃aS,ldC l (.ptr e.nxt 0)=some (Il aS)/\∀aT:M,(aT=M.new l (AO.cells 1 [Il aS] false))->∃aU,∃aV:M,ApR prog 22 aT O (.sl l.nxt 0 1 0 (some 1)) aU aV/\zl6 .i64 (d+1)/\N [.c aU,(.c (Il (d+1)))] aV))) (Q (.c O) f))->N [.c O,(.c (Il d))] f)->N [.c C.sl0,(.c (Il 0))] J))):Wc prog tbl 55 [.agg 13 [Il p,Il q,Il r,Il s,Il t,w,Il u,y,z,A,B,D,F],(.agg 2 [G,I])] m Q:=zpK (n:=2) rfl (by kernel_rfl) (by kernel_rfl) h
theorem w59{q r s t u l:Int}{w a:C}{m:M}{Q:V->M->Prop}(h:(∀m0:M,(m0=M.new m (AO.cells 6 [Il q,Il r,Il s,Il t,Il u,w] false))->∀i:List V->M->Prop,(∀d x3:Int,∀j:C,∀e:Int,∀f:M,(isSl a/\ifB (decide (e < (slLen a:Int))) (∃n7:Nat,e=((n7:Nat):Int)/\n7 < (slLen a)/\∃x8,ldC f (zl8 a (n7 * 1))=some (Il x8)/\ifB (decide (x8=2)) (zl6 .i64 (d+1)/\isPt (.ptr m.nxt 0)/\∃g,ldC f (.ptr m.nxt 0)=some (Il g)/\zl6 .i64 (g - 1)/\∃y:Nat,e=((y:Nat):Int)/\y < (slLen a)/\∃A,ldC f (zl8 a (y * 1))=some (Il A)/\ifB (decide (A=1)) (∃B D F G I J,ldA f (.ptr m.nxt 0) 6=some [Il B,Il D,Il F,Il G,Il I,J]/\∃N:Nat,∃O:Nat,N=0/\e=((O:Nat):Int)/\∃P,subC 1 a N O=some P/\Wc prog tbl 87 [.agg 6 [Il B,Il D,Il F,Il G,Il I,J],.c P] f (fun aG o=>∃S,aG=.c (.bool S)/\ifB S (zl6 .i64 ((Min.min (d+1) (g - 1)) - (1:Int))/\∀T:M,(T=M.new o (AO.cells 1 [(Il (Max.max ((Min.min (d+1) (g - 1)) - (1:Int)) (0:Int)))] false))->∃Y,∃Z:M,ApR prog 22 T j (.sl o.nxt 0 1 0 (some 1)) Y Z/\zl6 .i64 (e+1)/\i [.c (Il (Max.max ((Min.min (d+1) (g - 1)) - (1:Int)) (0:Int))),(.c (Il (Max.max ((Min.min (d+1) (g - 1)) - (1:Int)) (0:Int)))),.c Y,(.c (Il (e+1)))] Z) (∀aa:M,(aa=M.new o (AO.cells 1 [(Il (Min.min (d+1) (g - 1)))] false))->∃ab,∃ac:M,ApR prog 22 aa j (.sl o.nxt 0 1 0 (some 1)) ab ac/\zl6 .i64 (e+1)/\i [.c (Il (Min.min (d+1) (g - 1))),(.c (Il (Min.min (d+1) (g - 1)))),.c ab,(.c (Il (e+1)))] ac))) (∀ad:M,(ad=M.new f (AO.cells 1 [(Il (Min.min (d+1) (g - 1)))] false))->∃ae,∃af:M,ApR prog 22 ad j (.sl f.nxt 0 1 0 (some 1)) ae af/\zl6 .i64 (e+1)/\i [.c (Il (Min.min (d+1) (g - 1))),(.c (Il (Min.min (d+1) (g - 1)))),.c ae,(.c (Il (e+1)))] af)) (∃z:Nat,e=((z:Nat):Int)/\z < (slLen a)/\∃ag,ldC f (zl8 a (z * 1))=some (Il ag)/\ifB (decide (ag=1)) (∃ah ai aj ak al am,ldA f (.ptr m.nxt 0) 6=some [Il ah,Il ai,Il aj,Il ak,Il al,am]/\∃an:Nat,∃ao:Nat,an=0/\e=((ao:Nat):Int)/\∃ap,subC 1 a an ao=some ap/\Wc prog tbl 87 [.agg 6 [Il ah,Il ai,Il aj,Il ak,Il al,am],.c ap] f (fun aH p=>∃aq,aH=.c (.bool aq)/\ifB aq (zl6 .i64 (d - 1)/\∀ar:M,(ar=M.new p (AO.cells 1 [(Il (Max.max (d - 1) (0:Int)))] false))->∃au,∃av:M,ApR prog 22 ar j (.sl p.nxt 0 1 0 (some 1)) au av/\zl6 .i64 (e+1)/\i [.c (Il (Max.max (d - 1) (0:Int))),(.c (Il (Max.max (d - 1) (0:Int)))),.c au,(.c (Il (e+1)))] av) (∀ax:M,(ax=M.new p (AO.cells 1 [Il d] false))->∃ay,∃az:M,ApR prog 22 ax j (.sl p.nxt 0 1 0 (some 1)) ay az/\zl6 .i64 (e+1)/\i [.c (Il d),(.c (Il d)),.c ay,(.c (Il (e+1)))] az))) (∀aA:M,(aA=M.new f (AO.cells 1 [Il d] false))->∃aB,∃aC:M,ApR prog 22 aA j (.sl f.nxt 0 1 0 (some 1)) aB aC/\zl6 .i64 (e+1)/\i [.c (Il d),(.c (Il d)),.c aB,(.c (Il (e+1)))] aC))) (Q (.c j) f))->i [.c (Il d),(.c (Il x3)),.c j,(.c (Il e))] f)->i [.c (Il l),(.c (Il l)),.c C.sl0,(.c (Il 0))] m0)):Wc prog tbl 59 [.agg 6 [Il q,Il r,Il s,Il t,Il u,w],(.c (Il l)),.c a] m Q:=zpK (n:=3) rfl (by kernel_rfl) (by kernel_rfl) h
theorem w63{d:C}{m:M}{Q:V->M->Prop}(h:(∀e:M,(e=M.new m (AO.cells 6 [.bool false,.bool false,.bool false,.bool false,.bool false,.bool false] false))->∀f:M,(f=M.new e (AO.cells 6 [.bool false,.bool false,.bool false,.bool false,.bool false,.bool false] false))->∃I:AO,zme f d=some I/\∀J:M,(J=M.new f I)->∀G:List V->M->Prop,(∀l:M,(∃l6:List ((U × U) × M),nxM l (.ptr f.nxt 0)=some l6/\((l6=[])->∃N O P o p q,ldA l (.ptr e.nxt 0) 6=some [.bool N,.bool O,.bool P,.bool o,.bool p,.bool q]/\∃g:M,stC l (.ptr m.nxt 0) 6 [.bool N,.bool O,.bool P,.bool o,.bool p,.bool q]=some g/\∃r s t u w y,ldA g (.ptr m.nxt 0) 6=some [.bool r,.bool s,.bool t,.bool u,.bool w,.bool y]/\Q (.agg 6 [.bool r,.bool s,.bool t,.bool u,.bool w,.bool y]) g)/\∀S T:U,∀a:M,InL S T a l6->∃z A,∃Y:U,enM a (.ptr f.nxt 0)=some ((.agg 2 [Il z,Il A]),Y)/\∀B:M,(B=M.new a (AO.cells 2 [Il 0,Il 0] false))->∃i:M,stC B (.ptr a.nxt 0) 2 [Il z,Il A]=some i/\isPt (.ptr a.nxt 0)/\∃D,ldC i (.ptr a.nxt 0)=some (Il D)/\isPt (.ptr e.nxt 0)/\∃j:Nat,D=((j:Nat):Int)/\j < 6/\∃F:M,stC i (.ptr e.nxt (0+(j * 1))) 1 [.bool true]=some F/\G [] F)->G [] l)->G [] J)):Wc prog tbl 63 [.c d] m Q:=zpK (n:=1) rfl (by kernel_rfl) (by kernel_rfl) h
theorem w67{f g i j l o:Int}{p q r s t u w:C}{m:M}{Q:V->M->Prop}(h:(∀m0:M,(m0=M.new m (AO.cells 13 [Il f,Il g,Il i,Il j,Il l,p,Il o,q,r,s,t,u,w] false))->∃x1 x2 x3 x4 x5 c6 x7 c8 c9 F G I J,ldA m0 (.ptr m.nxt 0) 13=some [Il x1,Il x2,Il x3,Il x4,Il x5,c6,Il x7,c8,c9,F,G,I,J]/\Wc prog tbl 91 [.agg 13 [Il x1,Il x2,Il x3,Il x4,Il x5,c6,Il x7,c8,c9,F,G,I,J]] m0 (fun ao ap=>∃N O P S T Y,ao=.agg 6 [.bool N,.bool O,.bool P,.bool S,.bool T,.bool Y]/\Wc prog tbl 64 [.agg 6 [.bool N,.bool O,.bool P,.bool S,.bool T,.bool Y]] ap (fun aq ar=>∃d,aq=.c d/\isSl d/\∀y:List V->M->Prop,(∀z:C,∀e:Int,∀a:M,(ifB (decide (e < (slLen d:Int))) (∃A:Nat,e=((A:Nat):Int)/\A < (slLen d)/\∃Z,ldC a (zl8 d (A * 1))=some (Il Z)/\isPt (.ptr m.nxt 0)/\isPt (.ptr m.nxt 0)/\∃B,ldC a (.ptr m.nxt 5)=some B/\∃D:Nat,Z=((D:Nat):Int)/\D < (slLen B)/\∃aa,ldC a (zl8 B (D * 1))=some (Il aa)/\∀ab:M,(ab=M.new a (AO.cells 1 [Il aa] false))->∃ac,∃ad:M,ApR prog 22 ab z (.sl a.nxt 0 1 0 (some 1)) ac ad/\zl6 .i64 (e+1)/\y [.c ac,(.c (Il (e+1)))] ad) (Q (.c z) a))->y [.c z,(.c (Il e))] a)->y [.c C.sl0,(.c (Il 0))] ar)))):Wc prog tbl 67 [.agg 13 [Il f,Il g,Il i,Il j,Il l,p,Il o,q,r,s,t,u,w]] m Q:=zpK (n:=1) rfl (by kernel_rfl) (by kernel_rfl) h
theorem w71{g i j l o p q r s t:Int}{u:C}{w:Bool}{m:M}{Q:V->M->Prop}(h:(∀a:M,(a=M.new m (AO.cells 6 [Il g,Il i,Il j,Il l,Il o,u] false))->∀F:M,(F=M.new a (AO.cells 6 [Il p,Il q,Il r,Il s,Il t,.bool w] false))->∀y:M,(y=M.new F (AO.cells 4 [.bool false,.bool false,.bool false,.bool false] false))->∀m3:M,(m3=M.new y (AO.cells 4 [.bool false,.bool false,.bool false,.bool false] false))->isPt (.ptr a.nxt 0)/\isPt (.ptr a.nxt 0)/\∃x4,ldC m3 (.ptr a.nxt 0)=some (Il x4)/\∀R5:List V->M->Prop,(∀z:Int,∀f:M,(isPt (.ptr a.nxt 0)/\isPt (.ptr a.nxt 0)/\∃x8,ldC f (.ptr a.nxt 1)=some (Il x8)/\ifB (decide (z<=x8)) (isPt (.ptr a.nxt 0)/\isPt (.ptr a.nxt 2)/\∃x9,ldC f (.ptr a.nxt 2)=some (Il x9)/\∀A:List V->M->Prop,(∀e:Int,∀d:M,(isPt (.ptr a.nxt 0)/\isPt (.ptr a.nxt 2)/\∃G,ldC d (.ptr a.nxt 3)=some (Il G)/\ifB (decide (e<=G)) (∃I J N O P S,ldA d (.ptr m.nxt 0) 6=some [Il I,Il J,Il N,Il O,Il P,S]/\∃T Y Z aa ab ac,ldA d (.ptr a.nxt 0) 6=some [Il T,Il Y,Il Z,Il aa,Il ab,.bool ac]/\Wc prog tbl 46 [.agg 6 [Il I,Il J,Il N,Il O,Il P,S],(.agg 6 [Il T,Il Y,Il Z,Il aa,Il ab,.bool ac]),(.c (Il z)),(.c (Il e))] d (fun au av=>∃ad,au=.c (Il ad)/\isPt (.ptr y.nxt 0)/\∃B:Nat,ad=((B:Nat):Int)/\B < 4/\∃ae:M,stC av (.ptr y.nxt (0+(B * 1))) 1 [.bool true]=some ae/\zl6 .i64 (e+1)/\A [.c (Il (e+1))] ae)) (zl6 .i64 (z+1)/\R5 [.c (Il (z+1))] d))->A [.c (Il e)] d)->A [.c (Il x9)] f) (∃af ag ah ai,ldA f (.ptr y.nxt 0) 4=some [.bool af,.bool ag,.bool ah,.bool ai]/\∃D:M,stC f (.ptr F.nxt 0) 4 [.bool af,.bool ag,.bool ah,.bool ai]=some D/\∃aj ak al am,ldA D (.ptr F.nxt 0) 4=some [.bool aj,.bool ak,.bool al,.bool am]/\Q (.agg 4 [.bool aj,.bool ak,.bool al,.bool am]) D))->R5 [.c (Il z)] f)->R5 [.c (Il x4)] m3)):Wc prog tbl 71 [.agg 6 [Il g,Il i,Il j,Il l,Il o,u],(.agg 6 [Il p,Il q,Il r,Il s,Il t,.bool w])] m Q:=zpK (n:=2) rfl (by kernel_rfl) (by kernel_rfl) h
theorem w79{a c d e f g:Int}{i j l o p q r:C}{m:M}{Q:V->M->Prop}(h:(∀s:M,(s=M.new m (AO.cells 13 [Il a,Il c,Il d,Il e,Il f,i,Il g,j,l,o,p,q,r] false))->∀t:M,(t=M.new s (AO.cells 2 [Il 0,Il 0] false))->isPt (.ptr m.nxt 0)/\isPt (.ptr m.nxt 6)/\∃w,ldC t (.ptr m.nxt 6)=some (Il w)/\isPt (.ptr m.nxt 0)/\isPt (.ptr m.nxt 0)/\∃y,ldC t (.ptr m.nxt 3)=some (Il y)/\∃u:M,stC t (.ptr s.nxt 0) 2 [Il w,Il y]=some u/\∃z A,ldA u (.ptr s.nxt 0) 2=some [Il z,Il A]/\Q (.agg 2 [Il z,Il A]) u)):Wc prog tbl 79 [.agg 13 [Il a,Il c,Il d,Il e,Il f,i,Il g,j,l,o,p,q,r]] m Q:=zpK (n:=1) rfl (by kernel_rfl) (by kernel_rfl) h
theorem w83{e f g i:Int}{m:M}{Q:V->M->Prop}(h:(∀a:M,(a=M.new m (AO.cells 2 [Il e,Il f] false))->∀d:M,(d=M.new a (AO.cells 2 [Il g,Il i] false))->isPt (.ptr m.nxt 0)/\∃j,ldC d (.ptr m.nxt 0)=some (Il j)/\isPt (.ptr a.nxt 0)/\∃l,ldC d (.ptr a.nxt 0)=some (Il l)/\ifB (decide (j<=l)) (isPt (.ptr a.nxt 0)/\∃o,ldC d (.ptr a.nxt 0)=some (Il o)/\isPt (.ptr a.nxt 0)/\∃p,ldC d (.ptr a.nxt 1)=some (Il p)/\ifB (decide (o<=p)) (isPt (.ptr a.nxt 0)/\∃q,ldC d (.ptr a.nxt 1)=some (Il q)/\isPt (.ptr m.nxt 0)/\∃r,ldC d (.ptr m.nxt 1)=some (Il r)/\Q (.c (.bool (decide (q<=r)))) d) (Q (.c (.bool false)) d)) (Q (.c (.bool false)) d))):Wc prog tbl 83 [.agg 2 [Il e,Il f],(.agg 2 [Il g,Il i])] m Q:=zpK (n:=2) rfl (by kernel_rfl) (by kernel_rfl) h
theorem w87{f g i j l:Int}{o a:C}{m:M}{Q:V->M->Prop}(h:(∀w:M,(w=M.new m (AO.cells 6 [Il f,Il g,Il i,Il j,Il l,o] false))->isSl a/\zl6 .i64 ((slLen a:Int) - (1:Int))/\∀q:List V->M->Prop,(∀s:Bool,∀p e:Int,∀d:M,(ifB (decide ((0:Int)<=e)) (isPt (.ptr m.nxt 0)/\∃y,ldC d (.ptr m.nxt 3)=some (Il y)/\ifB (decide (p < y)) (∃t:Nat,e=((t:Nat):Int)/\t < (slLen a)/\∃z,ldC d (zl8 a (t * 1))=some (Il z)/\ifB (decide (z=2)) (Q (.c (.bool false)) d) (∃u:Nat,e=((u:Nat):Int)/\u < (slLen a)/\∃r,ldC d (zl8 a (u * 1))=some (Il r)/\ifB (decide ((0:Int) < r)) (zl6 .i64 (p+1)/\zl6 .i64 (e - 1)/\q [.c (.bool s),(.c (Il (p+1))),(.c (Il (e - 1)))] d) (zl6 .i64 (e - 1)/\q [.c (.bool s),(.c (Il p)),(.c (Il (e - 1)))] d))) (Q (.c (.bool true)) d)) (Q (.c (.bool true)) d))->q [.c (.bool s),(.c (Il p)),(.c (Il e))] d)->q [.c (.bool false),(.c (Il 0)),(.c (Il ((slLen a:Int) - (1:Int))))] w)):Wc prog tbl 87 [.agg 6 [Il f,Il g,Il i,Il j,Il l,o],.c a] m Q:=zpK (n:=2) rfl (by kernel_rfl) (by kernel_rfl) h
theorem w91{a d e f g i:Int}{j l o p q r s:C}{m:M}{Q:V->M->Prop}(h:(∀w:M,(w=M.new m (AO.cells 13 [Il a,Il d,Il e,Il f,Il g,j,Il i,l,o,p,q,r,s] false))->∀y:M,(y=M.new w (AO.cells 6 [.bool false,.bool false,.bool false,.bool false,.bool false,.bool false] false))->∃x2 x3 x4 x5 x6 c7 x8 c9 z A B D F,ldA y (.ptr m.nxt 0) 13=some [Il x2,Il x3,Il x4,Il x5,Il x6,c7,Il x8,c9,z,A,B,D,F]/\isPt (.ptr m.nxt 0)/\∃t,ldC y (.ptr m.nxt 12)=some t/\isSl t/\Wc prog tbl 62 [.agg 13 [Il x2,Il x3,Il x4,Il x5,Il x6,c7,Il x8,c9,z,A,B,D,F],(.c (Il (slLen t:Int)))] y (fun al am=>∃G,al=.c G/\Wc prog tbl 63 [.c G] am (fun an ao=>∃I J N O P S,an=.agg 6 [.bool I,.bool J,.bool N,.bool O,.bool P,.bool S]/\∃u:M,stC ao (.ptr w.nxt 0) 6 [.bool I,.bool J,.bool N,.bool O,.bool P,.bool S]=some u/\∃T Y Z aa ab ac,ldA u (.ptr w.nxt 0) 6=some [.bool T,.bool Y,.bool Z,.bool aa,.bool ab,.bool ac]/\Q (.agg 6 [.bool T,.bool Y,.bool Z,.bool aa,.bool ab,.bool ac]) u)))):Wc prog tbl 91 [.agg 13 [Il a,Il d,Il e,Il f,Il g,j,Il i,l,o,p,q,r,s]] m Q:=zpK (n:=1) rfl (by kernel_rfl) (by kernel_rfl) h
theorem w96{g i j l o p:Int}{q r s t u w y a:C}{m:M}{Q:V->M->Prop}(h:(∀J:M,(J=M.new m (AO.cells 13 [Il g,Il i,Il j,Il l,Il o,q,Il p,r,s,t,u,w,y] false))->∀m1:M,(m1=M.new J (AO.cells 13 [Il 0,Il 0,Il 0,Il 0,Il 0,C.sl0,Il 0,C.sl0,C.nilFn,C.nilFn,C.nilFn,C.nilFn,C.sl0] false))->isPt (.ptr m.nxt 0)/\∃c2,ldC m1 (.ptr m.nxt 12)=some c2/\Wc prog tbl 112 [.c c2] m1 (fun v3 m4=>∃c5,v3=.c c5/\isPt (.ptr m.nxt 0)/\∃m6:M,stC m4 (.ptr m.nxt 12) 1 [c5]=some m6/\isSl a/\∀N:List V->M->Prop,(∀f:Int,∀d:M,(ifB (decide (f < (slLen a:Int))) (∃z:Nat,f=((z:Nat):Int)/\z < (slLen a)/\∃A,ldC d (zl8 a (z * 1))=some (Il A)/\isPt (.ptr m.nxt 0)/\∃O P S T Y Z,ldA d (.ptr m.nxt 0) 6=some [Il O,Il P,Il S,Il T,Il Y,Z]/\isPt (.ptr m.nxt 0)/\isPt (.ptr m.nxt 6)/\∃B,ldC d (.ptr m.nxt 7)=some B/\∃D:Nat,A=((D:Nat):Int)/\D < (slLen B)/\∃aa ab ac ad ae af,ldA d (zl8 B (D * 6)) 6=some [Il aa,Il ab,Il ac,Il ad,Il ae,.bool af]/\Wc prog tbl 102 [.agg 6 [Il O,Il P,Il S,Il T,Il Y,Z],(.agg 6 [Il aa,Il ab,Il ac,Il ad,Il ae,.bool af])] d (fun aU F=>∃ag,aU=.c (.bool ag)/\ifB ag (isPt (.ptr m.nxt 0)/\∃e,ldC F (.ptr m.nxt 12)=some e/\Wc prog tbl 113 [] F (fun aV ah=>∃ai aj ak al,aV=.agg 4 [.bool ai,.bool aj,.bool ak,.bool al]/\ifB (cmC e) (ldC ah (.ptr m.nxt 12)=some e) False/\∃G:Nat,A=((G:Nat):Int)/\G < (slLen e)/\∃am:M,stC ah (zl8 e (G * 4)) 4 [.bool ai,.bool aj,.bool ak,.bool al]=some am/\zl6 .i64 (f+1)/\N [.c (Il (f+1))] am)) (zl6 .i64 (f+1)/\N [.c (Il (f+1))] F))) (∃an ao ap aq ar au av ax ay az aA aB aC,ldA d (.ptr m.nxt 0) 13=some [Il an,Il ao,Il ap,Il aq,Il ar,au,Il av,ax,ay,az,aA,aB,aC]/\∃I:M,stC d (.ptr J.nxt 0) 13 [Il an,Il ao,Il ap,Il aq,Il ar,au,Il av,ax,ay,az,aA,aB,aC]=some I/\∃aD aE aF aG aH aI aJ aK aL aM aN aO aP,ldA I (.ptr J.nxt 0) 13=some [Il aD,Il aE,Il aF,Il aG,Il aH,aI,Il aJ,aK,aL,aM,aN,aO,aP]/\Q (.agg 13 [Il aD,Il aE,Il aF,Il aG,Il aH,aI,Il aJ,aK,aL,aM,aN,aO,aP]) I))->N [.c (Il f)] d)->N [.c (Il 0)] m6))):Wc prog tbl 96 [.agg 13 [Il g,Il i,Il j,Il l,Il o,q,Il p,r,s,t,u,w,y],.c a] m Q:=zpK (n:=2) rfl (by kernel_rfl) (by kernel_rfl) h
theorem zuE{c d e f g i j:Int}{l:C}{m:M}{Q:V->M->Prop}(h:(∀a:M,(a=M.new m (AO.cells 6 [Il c,Il d,Il e,Il f,Il g,l] false))->∀p:M,(p=M.new a (AO.cells 2 [Il i,Il j] false))->∀o:M,(o=M.new p (AO.cells 2 [Il 0,Il 0] false))->isPt (.ptr a.nxt 0)/\∃s,ldC o (.ptr a.nxt 0)=some (Il s)/\isPt (.ptr a.nxt 0)/\∃q,ldC o (.ptr a.nxt 1)=some (Il q)/\zl6 .i64 (q+1)/\isPt (.ptr m.nxt 0)/\∃t,ldC o (.ptr m.nxt 3)=some (Il t)/\∃r:M,stC o (.ptr p.nxt 0) 2 [Il s,(Il (Min.min (q+1) t))]=some r/\∃u w,ldA r (.ptr p.nxt 0) 2=some [Il u,Il w]/\Q (.agg 2 [Il u,Il w]) r)):Wc prog tbl 100 [.agg 6 [Il c,Il d,Il e,Il f,Il g,l],(.agg 2 [Il i,Il j])] m Q:=zpK (n:=2) rfl (by kernel_rfl) (by kernel_rfl) h
theorem zuF{a:C}{m:M}{Q:V->M->Prop}(h:(isSl a/\zl6 .i64 ((slLen a:Int) - (1:Int))/\∀g:List V->M->Prop,(∀l:Bool,∀d:Int,∀e:M,(ifB (decide ((0:Int) < d)) (∃i:Nat,d=((i:Nat):Int)/\i < (slLen a)/\∃o,ldC e (zl8 a (i * 1))=some (Il o)/\zl6 .i64 (d - 1)/\∃j:Nat,(d - 1)=((j:Nat):Int)/\j < (slLen a)/\∃p,ldC e (zl8 a (j * 1))=some (Il p)/\Wc prog tbl 119 [.c (Il o),(.c (Il p))] e (fun r q=>∃f,r=.c (.bool f)/\ifB f (Q (.c (.bool false)) q) (zl6 .i64 (d - 1)/\g [.c (.bool l),(.c (Il (d - 1)))] q))) (Q (.c (.bool true)) e))->g [.c (.bool l),(.c (Il d))] e)->g [.c (.bool false),(.c (Il ((slLen a:Int) - (1:Int))))] m)):Wc prog tbl 104 [.c a] m Q:=zpK (n:=1) rfl (by kernel_rfl) (by kernel_rfl) h
theorem zuG{a d:Int}{m:M}{Q:V->M->Prop}(h:(∀e:M,(e=M.new m (AO.cells 1 [Il a] false))->∀f:M,(f=M.new e (AO.cells 1 [Il d] false))->Q (.c (C.fn (Fn.func 121) [] [(W.c (C0.ptr e.nxt 0)),(W.c (C0.ptr m.nxt 0))])) f)):Wc prog tbl 110 [.c (Il a),(.c (Il d))] m Q:=zpK (n:=2) rfl (by kernel_rfl) (by kernel_rfl) h
theorem zuH{a d:Int}{m:M}{Q:V->M->Prop}(h:(∀e:M,(e=M.new m (AO.cells 2 [Il a,Il d] false))->isPt (.ptr m.nxt 0)/\∃f,ldC e (.ptr m.nxt 1)=some (Il f)/\isPt (.ptr m.nxt 0)/\∃g,ldC e (.ptr m.nxt 0)=some (Il g)/\zl6 .i64 (f - g)/\zl6 .i64 ((f - g)+(1:Int))/\Q (.c (Il ((f - g)+(1:Int)))) e)):Wc prog tbl 116 [.agg 2 [Il a,Il d]] m Q:=zpK (n:=1) rfl (by kernel_rfl) (by kernel_rfl) h
theorem zuI{a e:C}{m:M}{Q:V->M->Prop}(h:(isSl a/\∀g:List V->M->Prop,(∀j d:Int,∀f:M,(ifB (decide (d < (slLen a:Int))) (∃i:Nat,d=((i:Nat):Int)/\i < (slLen a)/\∃l,ldC f (zl8 a (i * 1))=some (Il l)/\zmw prog tbl [.c (Il l)] e f (fun q o=>∃p,q=.c (.bool p)/\ifB p (Q (.c (Il d)) o) (zl6 .i64 (d+1)/\g [.c (Il j),(.c (Il (d+1)))] o))) (Q (.c (Il (-1:Int))) f))->g [.c (Il j),(.c (Il d))] f)->g [.c (Il 0),(.c (Il 0))] m)):Wc prog tbl 123 [.c a,.c e] m Q:=zpK (n:=2) rfl (by kernel_rfl) (by kernel_rfl) h
def zuJ(f:M)(x:C)(g:Rl->Stt->Option (Stt)):Prop:=c0B x=true/\∀(f' m:M) (a0:Rl) (a1:Stt) (c0:C) (r:Stt) (Q:V->M->Prop),Sub f f'->Pre f' m->Sl f' c0 a0.Price->g a0 a1=some r->(∀m',Ext m m'->Q (.agg 2 [(.int .i64 r.cls),(.int .i64 r.since)]) m')->zmw prog tbl [.agg 6 [(.int .i64 a0.Classes),(.int .i64 a0.Good),(.int .i64 a0.Bad),(.int .i64 a0.Rest),(.int .i64 a0.Fewest),c0],.agg 2 [(.int .i64 a1.cls),(.int .i64 a1.since)]] x m Q
theorem zuJ.sub{f m:M}{x:C}{g:Rl->Stt->Option (Stt)}(h:zuJ f x g)(s:Sub f m):zuJ m x g:=⟨h.1,fun f' m' a0 a1 c0 r Q hs=>h.2 f' m' a0 a1 c0 r Q (s.trans hs)⟩
def zuK(f:M)(x:C)(g:Int->Option (Bool)):Prop:=∀(f' m:M) (a0:Int) (r:Bool) (Q:V->M->Prop),Sub f f'->Pre f' m->g a0=some r->(∀m',Ext m m'->Q (.c (.bool r)) m')->zmw prog tbl [.c (.int .i64 a0)] x m Q
theorem zuK.sub{f m:M}{x:C}{g:Int->Option (Bool)}(h:zuK f x g)(s:Sub f m):zuK m x g:=fun f' m' a0 r Q hs=>h f' m' a0 r Q (s.trans hs)
def zuL(f:M)(x:C)(g:Yr->Option (Bool)):Prop:=∀(f' m:M) (a0:Yr) (r:Bool) (Q:V->M->Prop),Sub f f'->Pre f' m->g a0=some r->(∀m',Ext m m'->Q (.c (.bool r)) m')->zmw prog tbl [.agg 6 [(.int .i64 a0.Losses.Lo),(.int .i64 a0.Losses.Hi),(.int .i64 a0.Premiums.Lo),(.int .i64 a0.Premiums.Hi),(.int .i64 a0.Parcels),.bool a0.Exempt]] x m Q
theorem zuL.sub{f m:M}{x:C}{g:Yr->Option (Bool)}(h:zuL f x g)(s:Sub f m):zuL m x g:=fun f' m' a0 r Q hs=>h f' m' a0 r Q (s.trans hs)
theorem zuM:KL prog 130 Stt:=zqM (n:=2) (ks:=[.int .i64,.int .i64]) (by kernel_rfl) (by kernel_rfl) (cs:=fun k=>[.int .i64 k.cls,.int .i64 k.since]) (fun _=>rfl) fun a b fa fb=>⟨_,_,(zqL (zqI fa.1 fb.1) (zqL (zqI fa.2.1 fb.2.1) zqK)),⟨fun h=>by obtain⟨acls,asince⟩:=a; obtain⟨bcls,bsince⟩:=b; simp_all,fun h=>by subst h; exact⟨rfl,rfl,trivial⟩⟩⟩
theorem zuN:∀a b:Stt,MK.enc a=MK.enc b->a=b:=fun a b h=>by
 obtain⟨acls,asince⟩:=a; obtain⟨bcls,bsince⟩:=b
 injection h with h1 h2
 simp only[List.cons.injEq,C.int.injEq,true_and,and_true] at h2
 simp_all
theorem zuO:TA prog 22 1:=⟨3,by kernel_rfl,by kernel_rfl,by kernel_rfl⟩
theorem zuP:TA prog 96 4:=⟨127,by kernel_rfl,by kernel_rfl,by kernel_rfl⟩
theorem zuQ:TA prog 117 1:=⟨22,by kernel_rfl,by kernel_rfl,by kernel_rfl⟩
theorem zuR{n:Int}{low:Int}{high:Int}{m f:M}{Q:V->M->Prop}{rz:Bool}(hS:Pre f m)(hp:zsb n low high=some rz)(hq:∀m',Ext m m'->Q (.c (.bool rz)) m'):Wc prog tbl 40 [.c (Il n),.c (Il low),.c (Il high)] m Q:=by
 have d:=hS.st;obtain⟨e,_⟩:=zr1;refine w40 ?_;unfold zsb at hp;refine ifd hp (fun a hp=>?_) fun a hp=>?_
 ·obtain rfl:=oi hp;exact hq _ d.ext'
 obtain rfl:=oi hp;exact hq _ d.ext'
theorem zuS{r:Rg}{m f:M}{Q:V->M->Prop}{rz:Bool}(hS:Pre f m)(hp:zsc r=some rz)(hq:∀m',Ext m m'->Q (.c (.bool rz)) m'):Wc prog tbl 81 [.agg 2 [Il r.Lo,Il r.Hi]] m Q:=by
 have l:=hS.st;obtain⟨n,_⟩:=zr1;refine w81 ?_;unfold zsc at hp;intro q e;obtain⟨o,d,p,a⟩:=l.blk e n 1;refine⟨trivial,_,a.bk.rc rfl,?_⟩;refine ifd hp (fun g hp=>?_) fun g hp=>?_; rotate_left
 ·obtain rfl:=oi hp;exact hq _ d.ext'
 refine⟨trivial,_,a.bk.rc rfl,trivial,_,a.bk.rc rfl,?_⟩;refine ifd hp (fun h hp=>?_) fun h hp=>?_; rotate_left
 ·obtain rfl:=oi hp;exact hq _ d.ext'
 refine⟨trivial,_,a.bk.rc rfl,?_⟩;refine ifd hp (fun i hp=>?_) fun i hp=>?_; rotate_left
 ·obtain rfl:=oi hp;exact hq _ d.ext'
 refine⟨trivial,_,a.bk.rc rfl,trivial,_,a.bk.rc rfl,?_⟩;refine gdi hp fun j hp=>?_;obtain rfl:=oi hp;exact hq _ d.ext'
theorem zuT{r:Rl}{z:Zn}{ca105 ca201:C}{m f:M}{Q:V->M->Prop}{rz:Int}(hS:Pre f m)(ha105:Sl f ca105 r.Price)(ha201:Sl f ca201 z.Years)(hp:zse r z=some rz)(hq:∀m',Ext m m'->Q (.c (Il rz)) m'):Wc prog tbl 56 [.agg 6 [Il r.Classes,Il r.Good,Il r.Bad,Il r.Rest,Il r.Fewest,ca105],.agg 2 [Il z.First,ca201]] m Q:=by
 have S0:=hS.st;obtain⟨τ0,_⟩:=zr1;refine w56 ?_;unfold zse at hp;intro m0 Ha;obtain⟨Ia,Ja,hc,Ka⟩:=S0.blk Ha τ0 1;intro m1 La;obtain⟨o,i,Ma,ia⟩:=Ja.blk La Ia 2;have h:=Ka.k Ma;refine⟨trivial,_,h.bk.rc rfl,?_⟩;refine ifd hp (fun Na hp=>?_) fun Na hp=>?_
 ·obtain rfl:=oi hp;exact hq _ i.ext'
 refine⟨trivial,_,ia.bk.rc rfl,ha201.isSl,?_⟩
 try rw[ha201.slLen]
 refine ifd hp (fun Oa hp=>?_) fun Oa hp=>?_
 ·obtain rfl:=oi hp;exact hq _ i.ext'
 refine⟨trivial,_,h.bk.rc rfl,?_⟩;refine ifd hp (fun Pa hp=>?_) fun Pa hp=>?_
 ·obtain rfl:=oi hp;exact hq _ i.ext'
 refine⟨trivial,_,h.bk.rc rfl,ha105.isSl,trivial,_,h.bk.rc rfl,?_⟩
 try rw[ha105.slLen]
 refine zqT hp (fun Qa hp=>?_) fun Qa hp=>?_
 ·obtain rfl:=oi hp;exact hq _ i.ext'
 refine⟨trivial,_,h.bk.rc rfl,trivial,_,h.bk.rc rfl,?_⟩;obtain⟨ic,Ra,hp⟩:=zqq hp;refine zuR (n:=r.Good) (low:=(0:Int)) (high:=r.Bad) i.pre  Ra fun vc Sa=>?_;obtain⟨u,ja⟩:=i.call Sa o;have F:=h.k ja;have Ta:=ia.k ja;refine⟨_,rfl,?_⟩;refine zqV hp (fun Ua hp=>?_) fun Ua hp=>?_
 ·obtain rfl:=oi hp;exact hq _ u.ext'
 refine⟨trivial,_,F.bk.rc rfl,?_⟩;refine ifd hp (fun Va hp=>?_) fun Va hp=>?_
 ·obtain rfl:=oi hp;exact hq _ u.ext'
 refine⟨trivial,_,F.bk.rc rfl,?_⟩;obtain⟨jc,Wa,hp⟩:=zqq hp;refine zuR (n:=r.Rest) (low:=(0:Int)) (high:=(4:Int)) u.pre  Wa fun wc Xa=>?_;obtain⟨G,ka⟩:=u.call Xa o;have la:=F.k ka;have Ya:=Ta.k ka;refine⟨_,rfl,?_⟩;refine zqV hp (fun Za hp=>?_) fun Za hp=>?_
 ·obtain rfl:=oi hp;exact hq _ G.ext'
 refine⟨trivial,_,la.bk.rc rfl,?_⟩;obtain⟨kc,ab,hp⟩:=zqq hp;refine zuR (n:=r.Fewest) (low:=(0:Int)) (high:=(100:Int)) G.pre  ab fun xc bb=>?_;obtain⟨I,ma⟩:=G.call bb o;have na:=la.k ma;have oa:=Ya.k ma;refine⟨_,rfl,?_⟩;refine zqV hp (fun cb hp=>?_) fun cb hp=>?_
 ·obtain rfl:=oi hp;exact hq _ I.ext'
 refine⟨trivial,_,oa.bk.rc rfl,trivial,_,na.bk.rc rfl,?_⟩;refine gdi hp fun db hp=>?_;obtain⟨nc,eb,hp⟩:=zqq hp;refine zuR (n:=z.First) (low:=(0:Int)) (high:=(r.Classes - (1:Int))) I.pre  eb fun yc fb=>?_;obtain⟨pa,qa⟩:=I.call fb o;have a:=na.k qa;have d:=oa.k qa;refine⟨_,rfl,?_⟩;refine zqV hp (fun gb hp=>?_) fun gb hp=>?_
 ·obtain rfl:=oi hp;exact hq _ pa.ext'
 intro Zb hb
 have hgo:∀(w:Nat) (aa:Int) (ba:Int) (s:M) (g:Nat->Nat),St (Fm.of m) f f s->Lb (Fm.of m) f g s 1 m.nxt 6 [Il r.Classes,Il r.Good,Il r.Bad,Il r.Rest,Il r.Fewest,ca105]->Lb (Fm.of m) f g s 2 m0.nxt 2 [Il z.First,ca201]->zsd r z w aa ba=some rz->Zb [.c (Il aa),.c (Il ba)] s:=by
  intro w
  induction w with
  | zero=>intro aa ba s g p a d hp; cases hp
  | succ w ca=>
   intro aa ba s g p a d hp;refine hb _ _ _ ?_;rw[zsd] at hp;refine⟨trivial,_,a.bk.rc rfl,ha105.isSl,?_⟩
   try rw[ha105.slLen]
   refine ifd hp (fun ib hp=>?_) fun ib hp=>?_
   ·refine⟨trivial,_,a.bk.rc rfl,?_⟩;obtain⟨jb,J,hp⟩:=zqq hp;obtain⟨ac,Ca,da,J⟩:=zqk J;refine⟨ac,Ca,(by first|exact da|(rw[ha105.slLen];exact da)),_,(ha105.rdI J p.sub),?_⟩;obtain⟨oc,kb,hp⟩:=zqq hp;refine zuR (n:=jb) (low:=(1:Int)) (high:=(10000:Int)) p.pre  kb fun zc mb=>?_;obtain⟨l,sa⟩:=p.call mb g;have y:=a.k sa;have ta:=d.k sa;refine⟨_,rfl,?_⟩;refine zqV hp (fun ob hp=>?_) fun ob hp=>?_
    ·obtain rfl:=oi hp;exact hq _ l.ext'
    refine ifd hp (fun pb hp=>?_) fun pb hp=>?_; rotate_left
    ·refine gdi hp fun qb hp=>?_;exact ca _ _ _ g l y ta hp
    refine⟨trivial,_,y.bk.rc rfl,?_⟩;obtain⟨pc,N,hp⟩:=zqq hp;obtain⟨bc,Da,ea,N⟩:=zqk N;refine⟨bc,Da,(by first|exact ea|(rw[ha105.slLen];exact ea)),_,(ha105.rdI N l.sub),trivial,_,y.bk.rc rfl,?_⟩;refine gdi hp fun rb hp=>?_;obtain⟨qc,O,hp⟩:=zqq hp;obtain⟨cc,Ea,fa,O⟩:=zqk O;refine⟨cc,Ea,(by first|exact fa|(rw[ha105.slLen];exact fa)),_,(ha105.rdI O l.sub),?_⟩;refine ifd hp (fun sb hp=>?_) fun sb hp=>?_
    ·obtain rfl:=oi hp;exact hq _ l.ext'
    refine gdi hp fun tb hp=>?_;exact ca _ _ _ g l y ta hp
   intro dc ub
   have hgo:∀(A:Nat) (ua:Int) (ga:Int) (t:M) (q:Nat->Nat),St (Fm.of m) f f t->Lb (Fm.of m) f q t 1 m.nxt 6 [Il r.Classes,Il r.Good,Il r.Bad,Il r.Rest,Il r.Fewest,ca105]->Lb (Fm.of m) f q t 2 m0.nxt 2 [Il z.First,ca201]->prFault_L1 z A ga=some rz->dc [.c (Il ua),.c (Il ga)] t:=by
    intro A
    induction A with
    | zero=>intro ua ga t q B a d hp; cases hp
    | succ A Fa=>
     intro ua ga t q B a d hp;refine ub _ _ _ ?_;rw[prFault_L1] at hp;refine⟨trivial,_,d.bk.rc rfl,ha201.isSl,?_⟩
     try rw[ha201.slLen]
     refine ifd hp (fun vb hp=>?_) fun vb hp=>?_; rotate_left
     ·obtain rfl:=oi hp;exact hq _ B.ext'
     refine⟨trivial,_,d.bk.rc rfl,?_⟩;obtain⟨e,P,hp⟩:=zqq hp;obtain⟨ec,Ga,ha,P⟩:=zqk P;obtain⟨_,wb⟩:=zr6 ha201 P;refine⟨ec,Ga,(by first|exact ha|(rw[ha201.slLen];exact ha)),_,_,_,_,_,_,(wb _ B.sub).1,?_⟩;intro Ac xb;obtain⟨D,yb,va,zb⟩:=B.blk xb q 3;have Ab:=a.k va;have Bb:=d.k va;obtain⟨Cb,Db,wa,xa,ya⟩:=zb.sto yb [Il e.Losses.Lo,Il e.Losses.Hi,Il e.Premiums.Lo,Il e.Premiums.Hi,Il e.Parcels,.bool e.Exempt];have Eb:=Ab.k xa;have Fb:=Bb.k xa;refine⟨Cb,Db,?_⟩;refine⟨trivial,_,_,ya.bk.rp (k:=0) (j:=2) rfl (by omega),?_⟩;obtain⟨sc,Gb,hp⟩:=zqq hp;refine zuS (r:=e.Losses) wa.pre  Gb fun Bc Hb=>?_;obtain⟨S,T⟩:=wa.call Hb D;have Ib:=Eb.k T;have Jb:=Fb.k T;have za:=ya.k T;refine⟨_,rfl,?_⟩;refine zqV hp (fun Kb hp=>?_) fun Kb hp=>?_
     ·obtain rfl:=oi hp;exact hq _ S.ext'
     refine⟨trivial,_,_,za.bk.rp (k:=2) (j:=2) rfl (by omega),?_⟩;obtain⟨tc,Mb,hp⟩:=zqq hp;refine zuS (r:=e.Premiums) S.pre  Mb fun Cc Nb=>?_;obtain⟨Y,Z⟩:=S.call Nb D;have Ob:=Ib.k Z;have Pb:=Jb.k Z;have Qb:=za.k Z;refine⟨_,rfl,?_⟩;refine zqV hp (fun Rb hp=>?_) fun Rb hp=>?_
     ·obtain rfl:=oi hp;exact hq _ Y.ext'
     refine⟨trivial,_,Qb.bk.rc rfl,?_⟩;obtain⟨uc,Sb,hp⟩:=zqq hp;refine zuR (n:=e.Parcels) (low:=(0:Int)) (high:=(100:Int)) Y.pre  Sb fun Dc Tb=>?_;obtain⟨Aa,Ba⟩:=Y.call Tb D;have Ub:=Ob.k Ba;have Vb:=Pb.k Ba;refine⟨_,rfl,?_⟩;refine zqV hp (fun Wb hp=>?_) fun Wb hp=>?_
     ·obtain rfl:=oi hp;exact hq _ Aa.ext'
     refine gdi hp fun Xb hp=>?_;exact Fa _ _ _ D Aa Ub Vb hp
   exact hgo _ _ _ _ g p a d hp
 exact hgo _ _ _ _ o pa a d hp
theorem zuU{r:Rl}{y:Yr}{ca105:C}{m f:M}{Q:V->M->Prop}{rz:Bool}(hS:Pre f m)(_ha105:Sl f ca105 r.Price)(hp:zsf r y=some rz)(hq:∀m',Ext m m'->Q (.c (.bool rz)) m'):Wc prog tbl 52 [.agg 6 [Il r.Classes,Il r.Good,Il r.Bad,Il r.Rest,Il r.Fewest,ca105],.agg 6 [Il y.Losses.Lo,Il y.Losses.Hi,Il y.Premiums.Lo,Il y.Premiums.Hi,Il y.Parcels,.bool y.Exempt]] m Q:=by
 have p:=hS.st;obtain⟨q,_⟩:=zr1;refine w52 ?_;unfold zsf at hp;intro u e;obtain⟨g,h,s,i⟩:=p.blk e q 1;intro w j;obtain⟨t,a,l,d⟩:=h.blk j g 2;have n:=i.k l;refine⟨trivial,_,d.bk.rc rfl,?_⟩;refine zqV hp (fun o hp=>?_) fun o hp=>?_; rotate_left
 ·obtain rfl:=oi hp;exact hq _ a.ext'
 refine⟨trivial,_,d.bk.rc rfl,trivial,_,n.bk.rc rfl,?_⟩;obtain rfl:=oi hp;exact hq _ a.ext'
theorem zuV{r:Rl}{y:Yr}{losses:Int}{premiums:Int}{ca105:C}{m f:M}{Q:V->M->Prop}{rz:Int}(hS:Pre f m)(ha105:Sl f ca105 r.Price)(hp:zsg r y losses premiums=some rz)(hq:∀m',Ext m m'->Q (.c (Il rz)) m'):Wc prog tbl 46 [.agg 6 [Il r.Classes,Il r.Good,Il r.Bad,Il r.Rest,Il r.Fewest,ca105],.agg 6 [Il y.Losses.Lo,Il y.Losses.Hi,Il y.Premiums.Lo,Il y.Premiums.Hi,Il y.Parcels,.bool y.Exempt],.c (Il losses),.c (Il premiums)] m Q:=by
 have Z:=hS.st;obtain⟨τ0,_⟩:=zr1;refine w46 ?_;unfold zsg at hp;intro m0 h;obtain⟨i,j,ba,l⟩:=Z.blk h τ0 1;intro m1 n;obtain⟨o,d,p,q⟩:=j.blk n i 2;have e:=l.k p;refine⟨_,_,_,_,_,_,e.bk.ra,_,_,_,_,_,_,q.bk.ra,?_⟩;obtain⟨ca,s,hp⟩:=zqq hp;refine zuU (r:=r) (y:=y) d.pre ha105 s fun da t=>?_;obtain⟨a,u⟩:=d.call t o;have g:=e.k u;refine⟨_,rfl,?_⟩;refine zqV hp (fun w hp=>?_) fun w hp=>?_
 ·obtain rfl:=oi hp;exact hq _ a.ext'
 refine gdi hp fun z hp=>?_;refine gdi hp fun A hp=>?_;obtain⟨B,hp⟩:=zqr hp;refine⟨B,trivial,_,g.bk.rc rfl,?_⟩;refine gdi hp fun D hp=>?_;refine gdi hp fun F hp=>?_;refine gdi hp fun G hp=>?_;refine ifd hp (fun I hp=>?_) fun I hp=>?_
 ·obtain rfl:=oi hp;exact hq _ a.ext'
 refine gdi hp fun J hp=>?_;refine gdi hp fun N hp=>?_;obtain⟨O,hp⟩:=zqr hp;refine⟨O,trivial,_,g.bk.rc rfl,?_⟩;refine gdi hp fun P hp=>?_;refine gdi hp fun S hp=>?_;refine gdi hp fun T hp=>?_;refine ifd hp (fun Y hp=>?_) fun Y hp=>?_
 ·obtain rfl:=oi hp;exact hq _ a.ext'
 obtain rfl:=oi hp;exact hq _ a.ext'
theorem zuW{r:Rl}{before:List Int}{ca105 ca200:C}{m f:M}{Q:V->M->Prop}{rz:Bool}(hS:Pre f m)(_ha105:Sl f ca105 r.Price)(ha200:Sl f ca200 before)(hp:zsi r before=some rz)(hq:∀m',Ext m m'->Q (.c (.bool rz)) m'):Wc prog tbl 87 [.agg 6 [Il r.Classes,Il r.Good,Il r.Bad,Il r.Rest,Il r.Fewest,ca105],.c ca200] m Q:=by
 have P:=hS.st;obtain⟨S,_⟩:=zr1;refine w87 ?_;unfold zsi at hp;intro m0 w;obtain⟨y,z,T,d⟩:=P.blk w S 1;refine⟨ha200.isSl,?_⟩;obtain⟨n,hp⟩:=zqr hp;refine⟨(by first|exact n|(rw[ha200.slLen];exact n)),?_⟩;intro Y O
 try rw[ha200.slLen]
 have hgo:∀(g:Nat) (A:Bool) (q:Int) (s:Int) (o:M) (e:Nat->Nat),St (Fm.of m) f f o->Lb (Fm.of m) f e o 1 m.nxt 6 [Il r.Classes,Il r.Good,Il r.Bad,Il r.Rest,Il r.Fewest,ca105]->zsh r before g q s=some rz->Y [.c (.bool A),.c (Il q),.c (Il s)] o:=by
  intro g
  induction g with
  | zero=>intro A q s o e a d hp; cases hp
  | succ g p=>
   intro A q s o e a d hp;refine O _ _ _ _ ?_;rw[zsh] at hp;refine ifd hp (fun B hp=>?_) fun B hp=>?_; rotate_left
   ·obtain rfl:=oi hp;exact hq _ a.ext'
   refine⟨trivial,_,d.bk.rc rfl,?_⟩;refine ifd hp (fun D hp=>?_) fun D hp=>?_; rotate_left
   ·obtain rfl:=oi hp;exact hq _ a.ext'
   obtain⟨Z,h,hp⟩:=zqq hp;obtain⟨n7,t,j,h⟩:=zqk h;refine⟨n7,t,(by first|exact j|(rw[ha200.slLen];exact j)),_,(ha200.rdI h a.sub),?_⟩;refine ifd hp (fun F hp=>?_) fun F hp=>?_
   ·obtain rfl:=oi hp;exact hq _ a.ext'
   obtain⟨ba,i,hp⟩:=zqq hp;obtain⟨n9,u,l,i⟩:=zqk i;refine⟨n9,u,(by first|exact l|(rw[ha200.slLen];exact l)),_,(ha200.rdI i a.sub),?_⟩;refine ifd hp (fun G hp=>?_) fun G hp=>?_; rotate_left
   ·refine gdi hp fun I hp=>?_;exact p _ _ _ _ e a d hp
   refine gdi hp fun J hp=>?_;refine gdi hp fun N hp=>?_;exact p _ _ _ _ e a d hp
 exact hgo _ _ _ _ _ y z d hp
theorem zuX{r:Rl}{first:Int}{list:List Int}{ca105 ca300:C}{m f:M}{Q:V->M->Prop}{rz:List Int}(hS:Pre f m)(ha105:Sl f ca105 r.Price)(ha300:Sl f ca300 list)(hp:zsk r first list=some rz)(hq:∀m' f' c0,Grw m f m' f'->Sl f' c0 rz->Q (.c c0) m'):Wc prog tbl 59 [.agg 6 [Il r.Classes,Il r.Good,Il r.Bad,Il r.Rest,Il r.Fewest,ca105],.c (Il first),.c ca300] m Q:=by
 have S0:=hS.st;obtain⟨τ0,_⟩:=zr1;refine w59 ?_;unfold zsk at hp;intro m0 T;obtain⟨Y,Z,Vb,g⟩:=S0.blk T τ0 1;intro R1 Qb
 have hgo:∀(p:Nat) (h:Int) (x3:Int) (B:C) (o:Int) (q:List Int) (A:M) (l:Nat->Nat),St (Fm.of m) f f A->Lb (Fm.of m) f l A 1 m.nxt 6 [Il r.Classes,Il r.Good,Il r.Bad,Il r.Rest,Il r.Fewest,ca105]->Ow (Fm.of m) f l A 2 B q->zsj r list p h q o=some rz->R1 [.c (Il h),.c (Il x3),.c B,.c (Il o)] A:=by
  intro p
  induction p with
  | zero=>intro h x3 B o q A l e g d hp; cases hp
  | succ p n=>
   intro h x3 B o q A l e g d hp;refine Qb _ _ _ _ _ ?_;rw[zsj] at hp;refine⟨ha300.isSl,?_⟩
   try rw[ha300.slLen]
   refine ifd hp (fun ba hp=>?_) fun ba hp=>?_; rotate_left
   ·obtain⟨ca,da,Xb,ea⟩:=d.freeze e;obtain rfl:=oi hp;exact hq _ ca B da.grw ea
   obtain⟨Yb,s,hp⟩:=zqq hp;obtain⟨n7,O,w,s⟩:=zqk s;refine⟨n7,O,(by first|exact w|(rw[ha300.slLen];exact w)),_,(ha300.rdI s e.sub),?_⟩;refine ifd hp (fun fa hp=>?_) fun fa hp=>?_; rotate_left
   ·obtain⟨ac,t,hp⟩:=zqq hp;obtain⟨Rb,P,y,t⟩:=zqk t;refine⟨Rb,P,(by first|exact y|(rw[ha300.slLen];exact y)),_,(ha300.rdI t e.sub),?_⟩;refine ifd hp (fun ga hp=>?_) fun ga hp=>?_; rotate_left
    ·obtain⟨ha,hp⟩:=zqr hp;intro gc ia;obtain⟨ja,ka,la,ma,na,oa,pa⟩:=d.app' zuO e (a:=h) (show Rp.rep (α:=Int) f _ h from rfl) ha ia;have qa:=g.k oa;refine⟨ja,ka,ma,?_⟩;refine gdi hp fun sa hp=>?_;exact n _ _ _ _ _ _ la na qa pa hp
    refine⟨_,_,_,_,_,_,g.bk.ra,?_⟩;obtain⟨bc,hp⟩:=zqr hp;obtain⟨ta,ua,va⟩:=ha300.subC (i:=Int.toNat (0:Int)) (j:=Int.toNat o) (by omega) (by omega);refine⟨_,_,rfl,(show o=((Int.toNat o:Nat):Int) by omega),ta,ua,?_⟩;obtain⟨cc,wa,hp⟩:=zqq hp;refine zuW (r:=r) (before:=((list.take (Int.toNat o)).drop (Int.toNat (0:Int)))) e.pre ha105 va wa fun hc xa=>?_;obtain⟨D,F⟩:=e.call xa l;have G:=g.k F;have d:=d.k F;refine⟨_,rfl,?_⟩;refine zqU hp (fun ya hp=>?_) fun ya hp=>?_; rotate_left
    ·obtain⟨za,hp⟩:=zqr hp;intro ic Aa;obtain⟨Ba,Ca,Da,Ea,Fa,Ga,Ha⟩:=d.app' zuO D (a:=h) (show Rp.rep (α:=Int) f _ h from rfl) za Aa;have Ia:=G.k Ga;refine⟨Ba,Ca,Ea,?_⟩;refine gdi hp fun Ja hp=>?_;exact n _ _ _ _ _ _ Da Fa Ia Ha hp
    refine gdi hp fun Ka hp=>?_;obtain⟨La,hp⟩:=zqr hp;intro jc Ma;obtain⟨Na,Oa,Pa,Qa,Ra,Sa,Ta⟩:=d.app' zuO D (a:=(max (h - 1) (0:Int))) (show Rp.rep (α:=Int) f _ (max (h - 1) (0:Int)) from rfl) La Ma;have Ua:=G.k Sa;refine⟨Na,Oa,Qa,?_⟩;refine gdi hp fun Va hp=>?_;exact n _ _ _ _ _ _ Pa Ra Ua Ta hp
   obtain⟨Wa,hp⟩:=zqr hp;refine⟨Wa,trivial,_,g.bk.rc rfl,?_⟩;refine gdi hp fun Xa hp=>?_;obtain⟨dc,u,hp⟩:=zqq hp;obtain⟨Sb,S,z,u⟩:=zqk u;refine⟨Sb,S,(by first|exact z|(rw[ha300.slLen];exact z)),_,(ha300.rdI u e.sub),?_⟩;refine ifd hp (fun Ya hp=>?_) fun Ya hp=>?_; rotate_left
   ·obtain⟨Za,hp⟩:=zqr hp;intro kc ab;obtain⟨bb,cb,db,eb,fb,gb,hb⟩:=d.app' zuO e (a:=(min (h+1) (r.Classes - (1:Int)))) (show Rp.rep (α:=Int) f _ (min (h+1) (r.Classes - (1:Int))) from rfl) Za ab;have ib:=g.k gb;refine⟨bb,cb,eb,?_⟩;refine gdi hp fun jb hp=>?_;exact n _ _ _ _ _ _ db fb ib hb hp
   refine⟨_,_,_,_,_,_,g.bk.ra,?_⟩;obtain⟨ec,hp⟩:=zqr hp;obtain⟨kb,mb,ob⟩:=ha300.subC (i:=Int.toNat (0:Int)) (j:=Int.toNat o) (by omega) (by omega);refine⟨_,_,rfl,(show o=((Int.toNat o:Nat):Int) by omega),kb,mb,?_⟩;obtain⟨fc,pb,hp⟩:=zqq hp;refine zuW (r:=r) (before:=((list.take (Int.toNat o)).drop (Int.toNat (0:Int)))) e.pre ha105 ob pb fun nc qb=>?_;obtain⟨I,J⟩:=e.call qb l;have N:=g.k J;have d:=d.k J;refine⟨_,rfl,?_⟩;refine zqU hp (fun rb hp=>?_) fun rb hp=>?_; rotate_left
   ·obtain⟨sb,hp⟩:=zqr hp;intro oc tb;obtain⟨ub,vb,wb,xb,yb,zb,Ab⟩:=d.app' zuO I (a:=(min (h+1) (r.Classes - (1:Int)))) (show Rp.rep (α:=Int) f _ (min (h+1) (r.Classes - (1:Int))) from rfl) sb tb;have Bb:=N.k zb;refine⟨ub,vb,xb,?_⟩;refine gdi hp fun Cb hp=>?_;exact n _ _ _ _ _ _ wb yb Bb Ab hp
   refine gdi hp fun Db hp=>?_;obtain⟨Eb,hp⟩:=zqr hp;intro pc Fb;obtain⟨Gb,Hb,Ib,Jb,Kb,Mb,Nb⟩:=d.app' zuO I (a:=(max ((min (h+1) (r.Classes - (1:Int))) - (1:Int)) (0:Int))) (show Rp.rep (α:=Int) f _ (max ((min (h+1) (r.Classes - (1:Int))) - (1:Int)) (0:Int)) from rfl) Eb Fb;have Ob:=N.k Mb;refine⟨Gb,Hb,Jb,?_⟩;refine gdi hp fun Pb hp=>?_;exact n _ _ _ _ _ _ Ib Kb Ob Nb hp
 exact hgo _ _ _ _ _ _ _ Y Z g (Ow.nil _ _ _ _ _) hp
theorem zuY{r:Rl}{y:Yr}{ca105:C}{m f:M}{Q:V->M->Prop}{rz:P4}(hS:Pre f m)(ha105:Sl f ca105 r.Price)(hp:zso r y=some rz)(hq:∀m',Ext m m'->Q (.agg 4 [.bool rz.p0,.bool rz.p1,.bool rz.p2,.bool rz.p3]) m'):Wc prog tbl 71 [.agg 6 [Il r.Classes,Il r.Good,Il r.Bad,Il r.Rest,Il r.Fewest,ca105],.agg 6 [Il y.Losses.Lo,Il y.Losses.Hi,Il y.Premiums.Lo,Il y.Premiums.Hi,Il y.Parcels,.bool y.Exempt]] m Q:=by
 have S0:=hS.st;obtain⟨τ0,_⟩:=zr1;refine w71 ?_;unfold zso at hp;intro m0 ba;obtain⟨ca,da,bb,ea⟩:=S0.blk ba τ0 1;intro m1 fa;obtain⟨ga,ha,ia,ja⟩:=da.blk fa ca 2;have ka:=ea.k ia;intro m2 la;obtain⟨ma,na,Z,oa⟩:=ha.blk la ga 3;have pa:=ka.k Z;have qa:=ja.k Z;intro m3 sa;obtain⟨ta,ua,J,d⟩:=na.blk sa ma 4;have e:=pa.k J;have a:=qa.k J;have g:=oa.k J;refine⟨trivial,trivial,_,a.bk.rc rfl,?_⟩;intro R5 Wa
 have hgo:∀(s:Nat) (Y:Int) (t:Bool) (u:Bool) (w:Bool) (z:Bool) (G:M) (i:Nat->Nat),St (Fm.of m) f f G->Lb (Fm.of m) f i G 1 m.nxt 6 [Il r.Classes,Il r.Good,Il r.Bad,Il r.Rest,Il r.Fewest,ca105]->Lb (Fm.of m) f i G 2 m0.nxt 6 [Il y.Losses.Lo,Il y.Losses.Hi,Il y.Premiums.Lo,Il y.Premiums.Hi,Il y.Parcels,.bool y.Exempt]->Lb (Fm.of m) f i G 3 m1.nxt 4 [.bool false,.bool false,.bool false,.bool false]->Lb (Fm.of m) f i G 4 m2.nxt 4 [.bool t,.bool u,.bool w,.bool z]->zsn r y s t u w z Y=some rz->R5 [.c (Il Y)] G:=by
  intro s
  induction s with
  | zero=>intro Y t u w z G i N e a g d hp; cases hp
  | succ s va=>
   intro Y t u w z G i N e a g d hp;refine Wa _ _ ?_;rw[zsn] at hp;refine⟨trivial,trivial,_,a.bk.rc rfl,?_⟩;refine ifd hp (fun wa hp=>?_) fun wa hp=>?_; rotate_left
   ·refine⟨_,_,_,_,d.bk.ra,?_⟩;obtain⟨xa,ya,za,db,Aa⟩:=g.sto N [.bool t,.bool u,.bool w,.bool z];refine⟨xa,ya,?_⟩;refine⟨_,_,_,_,Aa.bk.ra,?_⟩;obtain rfl:=oi hp;exact hq _ za.ext'
   refine⟨trivial,trivial,_,a.bk.rc rfl,?_⟩;intro Xa Ba
   have hgo:∀(A:Nat) (I:Int) (j:Bool) (n:Bool) (o:Bool) (p:Bool) (q:M) (h:Nat->Nat),St (Fm.of m) f f q->Lb (Fm.of m) f h q 1 m.nxt 6 [Il r.Classes,Il r.Good,Il r.Bad,Il r.Rest,Il r.Fewest,ca105]->Lb (Fm.of m) f h q 2 m0.nxt 6 [Il y.Losses.Lo,Il y.Losses.Hi,Il y.Premiums.Lo,Il y.Premiums.Hi,Il y.Parcels,.bool y.Exempt]->Lb (Fm.of m) f h q 3 m1.nxt 4 [.bool false,.bool false,.bool false,.bool false]->Lb (Fm.of m) f h q 4 m2.nxt 4 [.bool j,.bool n,.bool o,.bool p]->zsm r y Y (zsn r y s) A j n o p I=some rz->Xa [.c (Il I)] q:=by
    intro A
    induction A with
    | zero=>intro I j n o p q h B e a g d hp; cases hp
    | succ A aa=>
     intro I j n o p q h B e a g d hp;refine Ba _ _ ?_;rw[zsm] at hp;refine⟨trivial,trivial,_,a.bk.rc rfl,?_⟩;refine ifd hp (fun Ca hp=>?_) fun Ca hp=>?_; rotate_left
     ·refine gdi hp fun Da hp=>?_;exact va _ _ _ _ _ _ h B e a g d hp
     refine⟨_,_,_,_,_,_,e.bk.ra,_,_,_,_,_,_,a.bk.ra,?_⟩;obtain⟨D,Ea,hp⟩:=zqq hp;refine zuV (r:=r) (y:=y) (losses:=Y) (premiums:=I) B.pre ha105 Ea fun eb Fa=>?_;obtain⟨Ga,F⟩:=B.call Fa h;have Ha:=e.k F;have Ia:=a.k F;have Ja:=g.k F;have Ka:=d.k F;refine⟨_,rfl,trivial,?_⟩;obtain⟨La,hp⟩:=zqr hp;obtain⟨Ya,S,T⟩:=zqQ La;refine⟨Ya,S,T,?_⟩;obtain⟨Ma,Na,Oa,O,P⟩:=Ka.sta Ga (pre:=[]) (post:=[]) (l:=([j,n,o,p]:List Bool)) (enc:=C.bool) rfl rfl S T true
     replace P:Lb _ _ _ _ _ _ _ [(.bool (sti D 0 true j)),(.bool (sti D 1 true n)),(.bool (sti D 2 true o)),(.bool (sti D 3 true p))]:=P
     have Pa:=Ha.k O;have Qa:=Ia.k O;have Ra:=Ja.k O;refine⟨Ma,Na,?_⟩;refine gdi hp fun Sa hp=>?_;exact aa _ _ _ _ _ _ h Oa Pa Qa Ra P hp
   exact hgo _ _ _ _ _ _ _ i N e a g d hp
 exact hgo _ _ _ _ _ _ _ ta ua e a g d hp
set_option maxHeartbeats 4000000 in
theorem zuZ{r:Rl}{z:Zn}{out_:Int}{ca105 ca201:C}{m f:M}{Q:V->M->Prop}{rz:List (List Int)}(hS:Pre f m)(ha105:Sl f ca105 r.Price)(ha201:Sl f ca201 z.Years)(hp:zsw r z out_=some rz)(hq:∀m' f' c0,Grw m f m' f'->Sl f' c0 rz->Q (.c c0) m'):Wc prog tbl 66 [.agg 6 [Il r.Classes,Il r.Good,Il r.Bad,Il r.Rest,Il r.Fewest,ca105],.agg 2 [Il z.First,ca201],.c (Il out_)] m Q:=by
 have S0:=hS.st;obtain⟨τ0,_⟩:=zr1;refine w66 ?_;unfold zsw at hp;intro m0 Gc;obtain⟨Hc,Ic,Lh,Jc⟩:=S0.blk Gc τ0 1;intro m1 Kc;obtain⟨Nc,Oc,Pc,Qc⟩:=Ic.blk Kc Hc 2;have Rc:=Jc.k Pc;intro m2 Tc;obtain⟨Uc,Vc,Jb,Xc⟩:=Oc.blk Tc Nc 3;have Yc:=Rc.k Jb;have Zc:=Qc.k Jb;intro m3 ad;obtain⟨bd,cd,Za,dd⟩:=Vc.blk ad Uc 4;have ed:=Yc.k Za;have fd:=Zc.k Za;have hd:=Xc.k Za;obtain⟨Mh,id,fa,pc⟩:=dd.freeze cd;have jd:=ed.k fa;have kd:=fd.k fa;have ld:=hd.k fa;obtain⟨ga,md,ha,qc⟩:=ld.freeze id;have Ba:=jd.k ha;have ia:=kd.k ha;have nd:Sl ga (C.sl m1.nxt 0 0 0 (Option.some 0)) ([]:List Int):=Bk.sl (α:=Int) (l:=([]:List Int)) qc (show Cat (α:=Int) ga [] ([]:List Int) from rfl) rfl rfl _;have od:Sl ga (C.sl m2.nxt 0 1 0 (Option.some 1)) ([([]:List Int)]:List (List Int)):=Bk.sl (α:=List Int) (l:=([([]:List Int)]:List (List Int))) (pc.sub ha.fs) (show Cat (α:=List Int) ga [(C.sl m1.nxt 0 0 0 (Option.some 0))] ([([]:List Int)]:List (List Int)) from ⟨[(C.sl m1.nxt 0 0 0 (Option.some 0))],_,rfl,⟨_,rfl,nd⟩,rfl⟩) rfl rfl _;intro R4 wh
 have hgo:∀(w:Nat) (c5:C) (x6:Int) (n:List (List Int)) (m7:M) (i:M) (ja:Nat->Nat),St (Fm.of m) f i m7->Sub ga i->Lb (Fm.of m) i ja m7 1 m.nxt 6 [Il r.Classes,Il r.Good,Il r.Bad,Il r.Rest,Il r.Fewest,ca105]->Lb (Fm.of m) i ja m7 2 m0.nxt 2 [Il z.First,ca201]->Sl i c5 n->zsv r z out_ w n x6=some rz->R4 [.c c5,.c (Il x6)] m7:=by
  intro w
  induction w with
  | zero=>intro c5 x6 n m7 i ja ab P Ba ia j hp; cases hp
  | succ w Ib=>
   intro c5 x6 n m7 i ja ab P Ba ia j hp;refine wh _ _ _ ?_;rw[zsv] at hp;refine⟨trivial,_,ia.bk.rc rfl,ha201.isSl,?_⟩
   try rw[ha201.slLen]
   refine ifd hp (fun pd hp=>?_) fun pd hp=>?_; rotate_left
   ·obtain rfl:=oi hp;exact hq _ i c5 ab.grw j
   intro m9 qd;obtain⟨Ca,bb,Kb,tc⟩:=ab.growK qd ja 5;have Mb:=Ba.k Kb;have Nb:=ia.k Kb;have sd:=tc 0 (by decide);refine⟨_,_,_,_,_,_,Mb.bk.ra,trivial,_,Nb.bk.rc rfl,?_⟩;obtain⟨td,cb,hp⟩:=zqq hp;obtain⟨xh,uc,Ab,cb⟩:=zqk cb;obtain⟨_,Ob⟩:=zr6 ha201 cb;refine⟨xh,uc,(by first|exact Ab|(rw[ha201.slLen];exact Ab)),_,_,_,_,_,_,(Ob _ (Sub.trans (Sub.trans (Sub.trans fa.fs ha.fs) P) bb.sub)).1,?_⟩;obtain⟨d,ud,hp⟩:=zqq hp;refine zuY (r:=r) (y:=td) bb.pre (ha105.sub (Sub.trans (Sub.trans fa.fs ha.fs) P)) ud fun ii vd=>?_;obtain⟨wd,db⟩:=bb.call vd Ca;have xd:=Mb.k db;have yd:=Nb.k db;have zd:=sd.k db;refine⟨_,_,_,_,rfl,?_⟩;intro ji Ad;obtain⟨Pb,Qb,Bd⟩:=zd.set wd Ad;have Rb:=xd.k Qb;have Sb:=yd.k Qb;refine⟨(Ob _ (Sub.trans (Sub.trans (Sub.trans fa.fs ha.fs) P) Pb.sub)).1,(by rw[show cmC _=true from zoV (ha201.noFn)]; exact(Sb.bk.rc rfl)),(by rw[show zaL cmC _=true from zoW (zqu rfl (zqu rfl (zqu rfl (zqu rfl (zqu rfl (zqu ha105.noFn zqv))))))]; exact(Rb.bk.ra)),?_⟩;obtain⟨Cd,Dd,eb,Tb,e⟩:=Bd.sto Pb [.bool d.p0,.bool d.p1,.bool d.p2,.bool d.p3];have g:=Rb.k Tb;have h:=Sb.k Tb;refine⟨Cd,Dd,?_⟩;refine gdi hp fun Ed hp=>?_;refine gdi hp fun Fd hp=>?_;refine gdi hp fun Gd hp=>?_;refine gdi hp fun Hd hp=>?_;refine gdi hp fun Id hp=>?_;refine gdi hp fun Jd hp=>?_;refine gdi hp fun Ld hp=>?_;refine ifd hp (fun Md hp=>?_) fun Md hp=>?_; rotate_left
   ·intro yh ph
    have hgo:∀(ka:Nat) (Ub:C) (Bb:Int) (Da:List (List Int)) (qa:M) (A:M) (S:Nat->Nat),St (Fm.of m) f A qa->Sub i A->Lb (Fm.of m) A S qa 1 m.nxt 6 [Il r.Classes,Il r.Good,Il r.Bad,Il r.Rest,Il r.Fewest,ca105]->Lb (Fm.of m) A S qa 2 m0.nxt 2 [Il z.First,ca201]->Lb (Fm.of m) A S qa 5 (m7.nxt+0) 4 [.bool d.p0,.bool d.p1,.bool d.p2,.bool d.p3]->Ow (Fm.of m) A S qa 10 Ub Da->zsu n x6 d (zsv r z out_ w) ka Da Bb=some rz->yh [.c Ub,.c (Il Bb)] qa:=by
     intro ka
     induction ka with
     | zero=>intro Ub Bb Da qa A S fb ca g h e gb hp; cases hp
     | succ ka Nd=>
      intro Ub Bb Da qa A S fb ca g h e gb hp;refine ph _ _ _ ?_;rw[zsu] at hp;refine⟨j.isSl,?_⟩
      try rw[j.slLen]
      refine ifd hp (fun Od hp=>?_) fun Od hp=>?_; rotate_left
      ·refine gdi hp fun Pd hp=>?_;obtain⟨Qd,Rd,hb,Sd⟩:=gb.freeze fb;have Td:=g.k hb;have Ud:=h.k hb;exact Ib _ _ _ _ Qd S Rd (Sub.trans (Sub.trans P ca) hb.fs) Td Ud Sd hp
      intro zh qh
      have hgo:∀(Ea:Nat) (Vb:C) (sa:Int) (Fa:List (List Int)) (ta:M) (s:M) (J:Nat->Nat),St (Fm.of m) f s ta->Sub A s->Lb (Fm.of m) s J ta 1 m.nxt 6 [Il r.Classes,Il r.Good,Il r.Bad,Il r.Rest,Il r.Fewest,ca105]->Lb (Fm.of m) s J ta 2 m0.nxt 2 [Il z.First,ca201]->Lb (Fm.of m) s J ta 5 (m7.nxt+0) 4 [.bool d.p0,.bool d.p1,.bool d.p2,.bool d.p3]->Ow (Fm.of m) s J ta 10 Vb Fa->zst n d Bb (zsu n x6 d (zsv r z out_ w) ka) Ea Fa sa=some rz->zh [.c Vb,.c (Il sa)] ta:=by
       intro Ea
       induction Ea with
       | zero=>intro Vb sa Fa ta s J Ga Z g h e o hp; cases hp
       | succ Ea Wb=>
        intro Vb sa Fa ta s J Ga Z g h e o hp;refine qh _ _ _ ?_;rw[zst] at hp;refine ifd hp (fun Vd hp=>?_) fun Vd hp=>?_; rotate_left
        ·refine gdi hp fun Wd hp=>?_;exact Nd _ _ _ _ s J Ga (Sub.trans ca Z) g h e o hp
        refine⟨trivial,?_⟩;obtain⟨Nh,ib,hp⟩:=zqq hp;obtain⟨Ah,vc,wc,ib⟩:=zqk ib;refine⟨Ah,vc,wc,_,(e.bk.rc (zqP (l:=([d.p0,d.p1,d.p2,d.p3]:List Bool)) (enc:=C.bool) 0 rfl ib)),?_⟩;refine zqU hp (fun Xd hp=>?_) fun Xd hp=>?_; rotate_left
        ·refine gdi hp fun Yd hp=>?_;exact Wb _ _ _ _ s J Ga Z g h e o hp
        intro ki Zd;obtain⟨Oh,Xb,Ha,ae⟩:=Ga.blk Zd J 11;have be:=g.k Ha;have ce:=h.k Ha;have de:=e.k Ha;have o:=o.k Ha;obtain⟨Yb,jb,hp⟩:=zqq hp;obtain⟨Bh,xc,Cb,jb⟩:=zqk jb;obtain⟨Ph,ee,fe⟩:=j.rdS jb;refine⟨Bh,xc,(by first|exact Cb|(rw[j.slLen];exact Cb)),_,(ee _ (Sub.trans (Sub.trans ca Z) Xb.sub)),?_⟩;have ge:=Lb.ow0 (α:=Int) ae;obtain⟨he,hp⟩:=zqr hp;obtain⟨ie,je,Qh,ke,me,Ia,oe⟩:=ge.appL zuO Xb (fe.sub (Sub.trans ca Z)) he;have pe:=be.k Ia;have qe:=ce.k Ia;have re:=de.k Ia;have o:=o.k Ia;refine⟨ie,je,ke,?_⟩;obtain⟨se,hp⟩:=zqr hp;intro ni te;obtain⟨ue,ve,Rh,we,xe,Ja,ye⟩:=oe.app' zuO me (a:=sa) (show Rp.rep (α:=Int) s _ sa from rfl) se te;have ze:=pe.k Ja;have Ae:=qe.k Ja;have Be:=re.k Ja;have o:=o.k Ja;refine⟨ue,ve,we,?_⟩;obtain⟨Zb,Ce,la,De⟩:=ye.freeze xe;have Ee:=ze.k la;have Fe:=Ae.k la;have Ge:=Be.k la;have o:=o.k la;obtain⟨He,hp⟩:=zqr hp;intro pi Ie;obtain⟨Je,Ke,Me,Ne,Oe,kb,Pe⟩:=o.app' zuQ Ce (a:=(([]++Yb)++[sa])) (show Rp.rep (α:=List Int) Zb _ (([]++Yb)++[sa]) from ⟨_,rfl,De⟩) He Ie;have Qe:=Ee.k kb;have Re:=Fe.k kb;have Se:=Ge.k kb;refine⟨Je,Ke,Ne,?_⟩;refine gdi hp fun Te hp=>?_;exact Wb _ _ _ _ Zb Me Oe (Sub.trans Z la.fs) Qe Re Se Pe hp
      exact hgo _ _ _ _ _ A S fb (Sub.refl _) g h e gb hp
    exact hgo _ _ _ _ _ i Ca eb (Sub.refl _) g h e (Ow.nil _ _ _ _ _) hp
   refine⟨trivial,?_⟩;obtain⟨Sh,mb,hp⟩:=zqq hp;obtain⟨Ch,yc,zc,mb⟩:=zqk mb;refine⟨Ch,yc,zc,_,(e.bk.rc (zqP (l:=([d.p0,d.p1,d.p2,d.p3]:List Bool)) (enc:=C.bool) 0 rfl mb)),?_⟩;refine zqV hp (fun Ue hp=>?_) fun Ue hp=>?_; rotate_left
   ·intro Dh rh
    have hgo:∀(ma:Nat) (ac:C) (Db:Int) (Ka:List (List Int)) (ua:M) (B:M) (T:Nat->Nat),St (Fm.of m) f B ua->Sub i B->Lb (Fm.of m) B T ua 1 m.nxt 6 [Il r.Classes,Il r.Good,Il r.Bad,Il r.Rest,Il r.Fewest,ca105]->Lb (Fm.of m) B T ua 2 m0.nxt 2 [Il z.First,ca201]->Lb (Fm.of m) B T ua 5 (m7.nxt+0) 4 [.bool d.p0,.bool d.p1,.bool d.p2,.bool d.p3]->Ow (Fm.of m) B T ua 8 ac Ka->zss n x6 d (zsv r z out_ w) ma Ka Db=some rz->Dh [.c ac,.c (Il Db)] ua:=by
     intro ma
     induction ma with
     | zero=>intro ac Db Ka ua B T ob da g h e pb hp; cases hp
     | succ ma Ve=>
      intro ac Db Ka ua B T ob da g h e pb hp;refine rh _ _ _ ?_;rw[zss] at hp;refine⟨j.isSl,?_⟩
      try rw[j.slLen]
      refine ifd hp (fun We hp=>?_) fun We hp=>?_; rotate_left
      ·refine gdi hp fun Xe hp=>?_;obtain⟨Ye,Ze,qb,af⟩:=pb.freeze ob;have bf:=g.k qb;have cf:=h.k qb;exact Ib _ _ _ _ Ye T Ze (Sub.trans (Sub.trans P da) qb.fs) bf cf af hp
      intro Eh th
      have hgo:∀(La:Nat) (bc:C) (va:Int) (Ma:List (List Int)) (wa:M) (t:M) (N:Nat->Nat),St (Fm.of m) f t wa->Sub B t->Lb (Fm.of m) t N wa 1 m.nxt 6 [Il r.Classes,Il r.Good,Il r.Bad,Il r.Rest,Il r.Fewest,ca105]->Lb (Fm.of m) t N wa 2 m0.nxt 2 [Il z.First,ca201]->Lb (Fm.of m) t N wa 5 (m7.nxt+0) 4 [.bool d.p0,.bool d.p1,.bool d.p2,.bool d.p3]->Ow (Fm.of m) t N wa 8 bc Ma->zsr n d Db (zss n x6 d (zsv r z out_ w) ma) La Ma va=some rz->Eh [.c bc,.c (Il va)] wa:=by
       intro La
       induction La with
       | zero=>intro bc va Ma wa t N Na aa g h e p hp; cases hp
       | succ La cc=>
        intro bc va Ma wa t N Na aa g h e p hp;refine th _ _ _ ?_;rw[zsr] at hp;refine ifd hp (fun df hp=>?_) fun df hp=>?_; rotate_left
        ·refine gdi hp fun ef hp=>?_;exact Ve _ _ _ _ t N Na (Sub.trans da aa) g h e p hp
        refine⟨trivial,?_⟩;obtain⟨Th,rb,hp⟩:=zqq hp;obtain⟨Fh,Ac,Bc,rb⟩:=zqk rb;refine⟨Fh,Ac,Bc,_,(e.bk.rc (zqP (l:=([d.p0,d.p1,d.p2,d.p3]:List Bool)) (enc:=C.bool) 0 rfl rb)),?_⟩;refine zqU hp (fun gf hp=>?_) fun gf hp=>?_; rotate_left
        ·refine gdi hp fun hf hp=>?_;exact cc _ _ _ _ t N Na aa g h e p hp
        intro qi jf;obtain⟨Uh,dc,Oa,kf⟩:=Na.blk jf N 9;have lf:=g.k Oa;have mf:=h.k Oa;have nf:=e.k Oa;have p:=p.k Oa;obtain⟨ec,sb,hp⟩:=zqq hp;obtain⟨Gh,Cc,Eb,sb⟩:=zqk sb;obtain⟨Vh,pf,qf⟩:=j.rdS sb;refine⟨Gh,Cc,(by first|exact Eb|(rw[j.slLen];exact Eb)),_,(pf _ (Sub.trans (Sub.trans da aa) dc.sub)),?_⟩;have rf:=Lb.ow0 (α:=Int) kf;obtain⟨sf,hp⟩:=zqr hp;obtain⟨tf,uf,Wh,vf,wf,Pa,xf⟩:=rf.appL zuO dc (qf.sub (Sub.trans da aa)) sf;have yf:=lf.k Pa;have zf:=mf.k Pa;have Af:=nf.k Pa;have p:=p.k Pa;refine⟨tf,uf,vf,?_⟩;obtain⟨Bf,hp⟩:=zqr hp;intro ri Cf;obtain⟨Df,Ef,Xh,Ff,Gf,Qa,Hf⟩:=xf.app' zuO wf (a:=va) (show Rp.rep (α:=Int) t _ va from rfl) Bf Cf;have If:=yf.k Qa;have Jf:=zf.k Qa;have Kf:=Af.k Qa;have p:=p.k Qa;refine⟨Df,Ef,Ff,?_⟩;obtain⟨fc,Lf,na,Mf⟩:=Hf.freeze Gf;have Nf:=If.k na;have Of:=Jf.k na;have Pf:=Kf.k na;have p:=p.k na;obtain⟨Qf,hp⟩:=zqr hp;intro si Rf;obtain⟨Sf,Tf,Uf,Vf,Wf,tb,Xf⟩:=p.app' zuQ Lf (a:=(([]++ec)++[va])) (show Rp.rep (α:=List Int) fc _ (([]++ec)++[va]) from ⟨_,rfl,Mf⟩) Qf Rf;have Yf:=Nf.k tb;have Zf:=Of.k tb;have ag:=Pf.k tb;refine⟨Sf,Tf,Vf,?_⟩;refine gdi hp fun bg hp=>?_;exact cc _ _ _ _ fc Uf Wf (Sub.trans aa na.fs) Yf Zf ag Xf hp
      exact hgo _ _ _ _ _ B T ob (Sub.refl _) g h e pb hp
    exact hgo _ _ _ _ _ i Ca eb (Sub.refl _) g h e (Ow.nil _ _ _ _ _) hp
   obtain⟨cg,dg,eg,gc,D⟩:=e.sto eb [.bool false,.bool true,.bool true,.bool true];have F:=g.k gc;have G:=h.k gc;refine⟨cg,dg,?_⟩;intro Hh uh
   have hgo:∀(oa:Nat) (hc:C) (Fb:Int) (Ra:List (List Int)) (xa:M) (I:M) (Y:Nat->Nat),St (Fm.of m) f I xa->Sub i I->Lb (Fm.of m) I Y xa 1 m.nxt 6 [Il r.Classes,Il r.Good,Il r.Bad,Il r.Rest,Il r.Fewest,ca105]->Lb (Fm.of m) I Y xa 2 m0.nxt 2 [Il z.First,ca201]->Lb (Fm.of m) I Y xa 5 (m7.nxt+0) 4 [.bool false,.bool true,.bool true,.bool true]->Ow (Fm.of m) I Y xa 6 hc Ra->zsq n x6 (zsv r z out_ w) oa Ra Fb=some rz->Hh [.c hc,.c (Il Fb)] xa:=by
    intro oa
    induction oa with
    | zero=>intro hc Fb Ra xa I Y ub ea F G D vb hp; cases hp
    | succ oa fg=>
     intro hc Fb Ra xa I Y ub ea F G D vb hp;refine uh _ _ _ ?_;rw[zsq] at hp;refine⟨j.isSl,?_⟩
     try rw[j.slLen]
     refine ifd hp (fun gg hp=>?_) fun gg hp=>?_; rotate_left
     ·refine gdi hp fun hg hp=>?_;obtain⟨ig,jg,wb,kg⟩:=vb.freeze ub;have lg:=F.k wb;have mg:=G.k wb;exact Ib _ _ _ _ ig Y jg (Sub.trans (Sub.trans P ea) wb.fs) lg mg kg hp
     intro Ih vh
     have hgo:∀(Sa:Nat) (ic:C) (ya:Int) (Ta:List (List Int)) (za:M) (u:M) (O:Nat->Nat),St (Fm.of m) f u za->Sub I u->Lb (Fm.of m) u O za 1 m.nxt 6 [Il r.Classes,Il r.Good,Il r.Bad,Il r.Rest,Il r.Fewest,ca105]->Lb (Fm.of m) u O za 2 m0.nxt 2 [Il z.First,ca201]->Lb (Fm.of m) u O za 5 (m7.nxt+0) 4 [.bool false,.bool true,.bool true,.bool true]->Ow (Fm.of m) u O za 6 ic Ta->zsp n Fb (zsq n x6 (zsv r z out_ w) oa) Sa Ta ya=some rz->Ih [.c ic,.c (Il ya)] za:=by
      intro Sa
      induction Sa with
      | zero=>intro ic ya Ta za u O Ua ba F G D q hp; cases hp
      | succ Sa jc=>
       intro ic ya Ta za u O Ua ba F G D q hp;refine vh _ _ _ ?_;rw[zsp] at hp;refine ifd hp (fun ng hp=>?_) fun ng hp=>?_; rotate_left
       ·refine gdi hp fun og hp=>?_;exact fg _ _ _ _ u O Ua (Sub.trans ea ba) F G D q hp
       refine⟨trivial,?_⟩;obtain⟨Yh,xb,hp⟩:=zqq hp;obtain⟨Jh,Dc,Ec,xb⟩:=zqk xb;refine⟨Jh,Dc,Ec,_,(D.bk.rc (zqP (l:=([false,true,true,true]:List Bool)) (enc:=C.bool) 0 rfl xb)),?_⟩;refine zqU hp (fun pg hp=>?_) fun pg hp=>?_; rotate_left
       ·refine gdi hp fun qg hp=>?_;exact jc _ _ _ _ u O Ua ba F G D q hp
       intro ti rg;obtain⟨Zh,kc,Va,sg⟩:=Ua.blk rg O 7;have tg:=F.k Va;have ug:=G.k Va;have vg:=D.k Va;have q:=q.k Va;obtain⟨nc,yb,hp⟩:=zqq hp;obtain⟨Kh,Fc,Gb,yb⟩:=zqk yb;obtain⟨ai,xg,zg⟩:=j.rdS yb;refine⟨Kh,Fc,(by first|exact Gb|(rw[j.slLen];exact Gb)),_,(xg _ (Sub.trans (Sub.trans ea ba) kc.sub)),?_⟩;have Ag:=Lb.ow0 (α:=Int) sg;obtain⟨Bg,hp⟩:=zqr hp;obtain⟨Cg,Dg,bi,Eg,Fg,Wa,Gg⟩:=Ag.appL zuO kc (zg.sub (Sub.trans ea ba)) Bg;have Hg:=tg.k Wa;have Ig:=ug.k Wa;have Jg:=vg.k Wa;have q:=q.k Wa;refine⟨Cg,Dg,Eg,?_⟩;obtain⟨Kg,hp⟩:=zqr hp;intro ui Lg;obtain⟨Mg,Ng,ci,Og,Pg,Xa,Qg⟩:=Gg.app' zuO Fg (a:=ya) (show Rp.rep (α:=Int) u _ ya from rfl) Kg Lg;have Sg:=Hg.k Xa;have Tg:=Ig.k Xa;have Ug:=Jg.k Xa;have q:=q.k Xa;refine⟨Mg,Ng,Og,?_⟩;obtain⟨oc,Vg,pa,Xg⟩:=Qg.freeze Pg;have Zg:=Sg.k pa;have ah:=Tg.k pa;have bh:=Ug.k pa;have q:=q.k pa;obtain⟨ch,hp⟩:=zqr hp;intro vi dh;obtain⟨eh,fh,gh,hh,ih,zb,jh⟩:=q.app' zuQ Vg (a:=(([]++nc)++[ya])) (show Rp.rep (α:=List Int) oc _ (([]++nc)++[ya]) from ⟨_,rfl,Xg⟩) ch dh;have kh:=Zg.k zb;have lh:=ah.k zb;have mh:=bh.k zb;refine⟨eh,fh,hh,?_⟩;refine gdi hp fun nh hp=>?_;exact jc _ _ _ _ oc gh ih (Sub.trans ba pa.fs) kh lh mh jh hp
     exact hgo _ _ _ _ _ I Y ub (Sub.refl _) F G D vb hp
   exact hgo _ _ _ _ _ i Ca eg (Sub.refl _) F G D (Ow.nil _ _ _ _ _) hp
 exact hgo _ _ _ _ _ ga bd md (Sub.refl _) Ba ia od hp
theorem zu0{r:Rl}{z:Zn}{year:Int}{out_:Int}{ca105 ca201:C}{m f:M}{Q:V->M->Prop}{rz:List Int}(hS:Pre f m)(ha105:Sl f ca105 r.Price)(ha201:Sl f ca201 z.Years)(hp:zsz r z year out_=some rz)(hq:∀m' f' c0,Grw m f m' f'->Sl f' c0 rz->Q (.c c0) m'):Wc prog tbl 32 [.agg 6 [Il r.Classes,Il r.Good,Il r.Bad,Il r.Rest,Il r.Fewest,ca105],.agg 2 [Il z.First,ca201],.c (Il year),.c (Il out_)] m Q:=by
 have S0:=hS.st;obtain⟨τ0,_⟩:=zr1;refine w32 ?_;unfold zsz at hp;intro m0 Ca;obtain⟨Da,Ea,Xb,Fa⟩:=S0.blk Ca τ0 1;intro m1 Ga;obtain⟨Ha,Ia,Ja,Ka⟩:=Ea.blk Ga Da 2;have La:=Fa.k Ja;intro m2 Ma;obtain⟨ka,la,ma,Na⟩:=Ia.blk Ma Ha 3;have na:=La.k ma;have oa:=Ka.k ma;refine⟨_,_,_,_,_,_,na.bk.ra,_,_,oa.bk.ra,?_⟩;obtain⟨Oa,Pa,hp⟩:=zqq hp;refine zuZ (r:=r) (z:=z) (out_:=out_) la.pre ha105 ha201 Pa fun gc pa Yb Qa B=>?_;obtain⟨Ra,D⟩:=la.callG Qa ka;have g:=na.k D;have e:=oa.k D;have h:=Na.k D;refine⟨_,rfl,?_⟩;intro Qb Mb
 have hgo:∀(F:Nat) (qa:Int) (i:Bool) (j:Bool) (n:Bool) (o:Bool) (p:Bool) (q:Bool) (P:M) (d:M) (s:Nat->Nat),St (Fm.of m) f d P->Sub pa d->Lb (Fm.of m) d s P 1 m.nxt 6 [Il r.Classes,Il r.Good,Il r.Bad,Il r.Rest,Il r.Fewest,ca105]->Lb (Fm.of m) d s P 2 m0.nxt 2 [Il z.First,ca201]->Lb (Fm.of m) d s P 3 m1.nxt 6 [.bool i,.bool j,.bool n,.bool o,.bool p,.bool q]->zsy r z year Oa F i j n o p q qa=some rz->Qb [.c (Il qa)] P:=by
  intro F
  induction F with
  | zero=>intro qa i j n o p q P d s w t g e h hp; cases hp
  | succ F sa=>
   intro qa i j n o p q P d s w t g e h hp;refine Mb _ _ ?_;rw[zsy] at hp;refine⟨B.isSl,?_⟩
   try rw[B.slLen]
   refine ifd hp (fun Sa hp=>?_) fun Sa hp=>?_; rotate_left
   ·intro Rb Nb
    have hgo:∀(G:Nat) (da:C) (S:Int) (I:List Int) (A:M) (u:Nat->Nat),St (Fm.of m) f d A->Lb (Fm.of m) d u A 1 m.nxt 6 [Il r.Classes,Il r.Good,Il r.Bad,Il r.Rest,Il r.Fewest,ca105]->Lb (Fm.of m) d u A 2 m0.nxt 2 [Il z.First,ca201]->Lb (Fm.of m) d u A 3 m1.nxt 6 [.bool i,.bool j,.bool n,.bool o,.bool p,.bool q]->Ow (Fm.of m) d u A 4 da I->zsx i j n o p q G I S=some rz->Rb [.c da,.c (Il S)] A:=by
     intro G
     induction G with
     | zero=>intro da S I A u J g e h N hp; cases hp
     | succ G ta=>
      intro da S I A u J g e h N hp;refine Nb _ _ _ ?_;rw[zsx] at hp;refine ifd hp (fun Ta hp=>?_) fun Ta hp=>?_; rotate_left
      ·obtain⟨Ua,Va,Zb,Wa⟩:=N.freeze J;obtain rfl:=oi hp;exact hq _ Ua da Va.grw Wa
      refine⟨trivial,?_⟩;obtain⟨ac,T,hp⟩:=zqq hp;obtain⟨Sb,ya,za,T⟩:=zqk T;refine⟨Sb,ya,za,_,(h.bk.rc (zqP (l:=([i,j,n,o,p,q]:List Bool)) (enc:=C.bool) 0 rfl T)),?_⟩;refine zqU hp (fun Xa hp=>?_) fun Xa hp=>?_; rotate_left
      ·refine gdi hp fun Ya hp=>?_;exact ta _ _ _ _ u J g e h N hp
      obtain⟨Za,hp⟩:=zqr hp;intro hc ab;obtain⟨bb,cb,db,eb,fb,Y,gb⟩:=N.app' zuO J (a:=S) (show Rp.rep (α:=Int) d _ S from rfl) Za ab;have hb:=g.k Y;have ib:=e.k Y;have jb:=h.k Y;refine⟨bb,cb,eb,?_⟩;refine gdi hp fun kb hp=>?_;exact ta _ _ _ _ db fb hb ib jb gb hp
    exact hgo _ _ _ _ _ s w g e h (Ow.nil _ _ _ _ _) hp
   refine⟨trivial,_,e.bk.rc rfl,?_⟩;refine ifd hp (fun mb hp=>?_) fun mb hp=>?_; rotate_left
   ·refine⟨trivial,?_⟩;obtain⟨ob,hp⟩:=zqr hp;obtain⟨Tb,ea,fa⟩:=zqQ ob;refine⟨Tb,ea,fa,?_⟩;obtain⟨pb,qb,rb,ua,Z⟩:=h.sta w (pre:=[]) (post:=[]) (l:=([i,j,n,o,p,q]:List Bool)) (enc:=C.bool) rfl rfl ea fa true
    replace Z:Lb _ _ _ _ _ _ _ [(.bool (sti z.First 0 true i)),(.bool (sti z.First 1 true j)),(.bool (sti z.First 2 true n)),(.bool (sti z.First 3 true o)),(.bool (sti z.First 4 true p)),(.bool (sti z.First 5 true q))]:=Z
    have sb:=g.k ua;have tb:=e.k ua;refine⟨pb,qb,?_⟩;refine gdi hp fun ub hp=>?_;exact sa _ _ _ _ _ _ _ _ d s rb t sb tb Z hp
   refine⟨_,_,_,_,_,_,g.bk.ra,trivial,_,e.bk.rc rfl,?_⟩;obtain⟨vb,aa,hp⟩:=zqq hp;obtain⟨Ub,Aa,ga,aa⟩:=zqk aa;obtain⟨bc,wb,xb⟩:=B.rdS aa;refine⟨Ub,Aa,(by first|exact ga|(rw[B.slLen];exact ga)),_,(wb _ (Sub.trans t w.sub)),?_⟩;obtain⟨cc,yb,hp⟩:=zqq hp;refine zuX (r:=r) (first:=z.First) (list:=vb) w.pre (ha105.sub (Sub.trans D.fs t)) (xb.sub t) yb fun ic zb dc Ab va=>?_;obtain⟨wa,O⟩:=w.callG Ab s;have Bb:=g.k O;have Cb:=e.k O;have Db:=h.k O;refine⟨_,rfl,?_⟩;obtain⟨y,ba,hp⟩:=zqq hp;obtain⟨Vb,Ba,ha,ba⟩:=zqk ba;refine⟨Vb,Ba,(by first|exact ha|(rw[va.slLen];exact ha)),_,(va.rdI ba wa.sub),trivial,?_⟩;obtain⟨Eb,hp⟩:=zqr hp;obtain⟨Wb,ia,ja⟩:=zqQ Eb;refine⟨Wb,ia,ja,?_⟩;obtain⟨Fb,Gb,Hb,xa,ca⟩:=Db.sta wa (pre:=[]) (post:=[]) (l:=([i,j,n,o,p,q]:List Bool)) (enc:=C.bool) rfl rfl ia ja true
   replace ca:Lb _ _ _ _ _ _ _ [(.bool (sti y 0 true i)),(.bool (sti y 1 true j)),(.bool (sti y 2 true n)),(.bool (sti y 3 true o)),(.bool (sti y 4 true p)),(.bool (sti y 5 true q))]:=ca
   have Ib:=Bb.k xa;have Jb:=Cb.k xa;refine⟨Fb,Gb,?_⟩;refine gdi hp fun Kb hp=>?_;exact sa _ _ _ _ _ _ _ _ zb s Hb (Sub.trans t O.fs) Ib Jb ca hp
 exact hgo _ _ _ _ _ _ _ _ _ pa ka Ra (Sub.refl _) g e h hp
theorem zu1{a:List Int}{b:List Int}{ca100 ca200:C}{m f:M}{Q:V->M->Prop}{rz:Bool}(hS:Pre f m)(ha100:Sl f ca100 a)(ha200:Sl f ca200 b)(hp:zsB a b=some rz)(hq:∀m',Ext m m'->Q (.c (.bool rz)) m'):Wc prog tbl 60 [.c ca100,.c ca200] m Q:=by
 have T:=hS.st;obtain⟨Y,_⟩:=zr1;refine w60 ?_;unfold zsB at hp;intro Z I
 have hgo:∀(e:Nat) (F:Bool) (w:Int) (y:M) (g:Nat->Nat),St (Fm.of m) f f y->zsA a b e w=some rz->Z [.c (.bool F),.c (Il w)] y:=by
  intro e
  induction e with
  | zero=>intro F w y g d hp; cases hp
  | succ e G=>
   intro F w y g d hp;refine I _ _ _ ?_;rw[zsA] at hp;refine⟨ha100.isSl,?_⟩
   try rw[ha100.slLen]
   refine ifd hp (fun z hp=>?_) fun z hp=>?_; rotate_left
   ·refine⟨ha100.isSl,ha200.isSl,?_⟩
    try rw[ha100.slLen]
    try rw[ha200.slLen]
    obtain rfl:=oi hp;exact hq _ d.ext'
   refine⟨ha200.isSl,?_⟩
   try rw[ha200.slLen]
   refine ifd hp (fun A hp=>?_) fun A hp=>?_; rotate_left
   ·refine⟨ha100.isSl,ha200.isSl,?_⟩
    try rw[ha100.slLen]
    try rw[ha200.slLen]
    obtain rfl:=oi hp;exact hq _ d.ext'
   obtain⟨N,h,hp⟩:=zqq hp;obtain⟨n4,r,n,h⟩:=zqk h;refine⟨n4,r,(by first|exact n|(rw[ha100.slLen];exact n)),_,(ha100.rdI h d.sub),?_⟩;obtain⟨O,i,hp⟩:=zqq hp;obtain⟨n6,s,o,i⟩:=zqk i;refine⟨n6,s,(by first|exact o|(rw[ha200.slLen];exact o)),_,(ha200.rdI i d.sub),?_⟩;refine zqT hp (fun B hp=>?_) fun B hp=>?_; rotate_left
   ·refine gdi hp fun D hp=>?_;exact G _ _ _ g d hp
   obtain⟨P,j,hp⟩:=zqq hp;obtain⟨n8,t,p,j⟩:=zqk j;refine⟨n8,t,(by first|exact p|(rw[ha100.slLen];exact p)),_,(ha100.rdI j d.sub),?_⟩;obtain⟨S,l,hp⟩:=zqq hp;obtain⟨J,u,q,l⟩:=zqk l;refine⟨J,u,(by first|exact q|(rw[ha200.slLen];exact q)),_,(ha200.rdI l d.sub),?_⟩;obtain rfl:=oi hp;exact hq _ d.ext'
 exact hgo _ _ _ _ Y T hp
theorem zu2{l:List Int}{n:Int}{ca100:C}{m f:M}{Q:V->M->Prop}{rz:Bool}(hS:Pre f m)(ha100:Sl f ca100 l)(hp:zsD l n=some rz)(hq:∀m',Ext m m'->Q (.c (.bool rz)) m'):Wc prog tbl 47 [.c ca100,.c (Il n)] m Q:=by
 have y:=hS.st;obtain⟨z,_⟩:=zr1;refine w47 ?_;unfold zsD at hp;intro A u
 have hgo:∀(d:Nat) (s:Bool) (j:Int) (o:M) (e:Nat->Nat),St (Fm.of m) f f o->zsC l n d j=some rz->A [.c (.bool s),.c (Il j)] o:=by
  intro d
  induction d with
  | zero=>intro s j o e a hp; cases hp
  | succ d t=>
   intro s j o e a hp;refine u _ _ _ ?_;rw[zsC] at hp;refine⟨ha100.isSl,?_⟩
   try rw[ha100.slLen]
   refine ifd hp (fun p hp=>?_) fun p hp=>?_; rotate_left
   ·obtain rfl:=oi hp;exact hq _ a.ext'
   obtain⟨w,g,hp⟩:=zqq hp;obtain⟨B,i,h,g⟩:=zqk g;refine⟨B,i,(by first|exact h|(rw[ha100.slLen];exact h)),_,(ha100.rdI g a.sub),?_⟩;refine ifd hp (fun q hp=>?_) fun q hp=>?_
   ·obtain rfl:=oi hp;exact hq _ a.ext'
   refine gdi hp fun r hp=>?_;exact t _ _ _ e a hp
 exact hgo _ _ _ _ z y hp
theorem zu3{a:List Int}{b:List Int}{ca100 ca200:C}{m f:M}{Q:V->M->Prop}{rz:Bool}(hS:Pre f m)(ha100:Sl f ca100 a)(ha200:Sl f ca200 b)(hp:zsE a b=some rz)(hq:∀m',Ext m m'->Q (.c (.bool rz)) m'):Wc prog tbl 28 [.c ca100,.c ca200] m Q:=by
 have o:=hS.st;obtain⟨p,_⟩:=zr1;refine w28 ?_;unfold zsE at hp;refine⟨ha100.isSl,ha200.isSl,?_⟩
 try rw[ha100.slLen]
 try rw[ha200.slLen]
 refine ifd hp (fun e hp=>?_) fun e hp=>?_; rotate_left
 ·obtain rfl:=oi hp;exact hq _ o.ext'
 obtain⟨q,g,hp⟩:=zqq hp;refine zu1 (a:=a) (b:=b) o.pre ha100 ha200 g fun u h=>?_;obtain⟨d,r⟩:=o.call h p;refine⟨_,rfl,?_⟩;refine zqV hp (fun i hp=>?_) fun i hp=>?_; rotate_left
 ·obtain rfl:=oi hp;exact hq _ d.ext'
 obtain⟨s,j,hp⟩:=zqq hp;refine zu1 (a:=b) (b:=a) d.pre ha200 ha100 j fun w l=>?_;obtain⟨n,t⟩:=d.call l p;refine⟨_,rfl,?_⟩;obtain rfl:=oi hp;exact hq _ n.ext'
theorem zu4{r:Rg}{n:Int}{m f:M}{Q:V->M->Prop}{rz:Bool}(hS:Pre f m)(hp:zsF r n=some rz)(hq:∀m',Ext m m'->Q (.c (.bool rz)) m'):Wc prog tbl 78 [.agg 2 [Il r.Lo,Il r.Hi],.c (Il n)] m Q:=by
 have j:=hS.st;obtain⟨l,_⟩:=zr1;refine w78 ?_;unfold zsF at hp;intro o e;obtain⟨h,a,i,d⟩:=j.blk e l 1;refine⟨trivial,_,d.bk.rc rfl,?_⟩;refine ifd hp (fun g hp=>?_) fun g hp=>?_; rotate_left
 ·obtain rfl:=oi hp;exact hq _ a.ext'
 refine⟨trivial,_,d.bk.rc rfl,?_⟩;obtain rfl:=oi hp;exact hq _ a.ext'
theorem zu5{r:Rg}{other:Rg}{m f:M}{Q:V->M->Prop}{rz:Bool}(hS:Pre f m)(hp:zsG r other=some rz)(hq:∀m',Ext m m'->Q (.c (.bool rz)) m'):Wc prog tbl 83 [.agg 2 [Il r.Lo,Il r.Hi],.agg 2 [Il other.Lo,Il other.Hi]] m Q:=by
 have t:=hS.st;obtain⟨u,_⟩:=zr1;refine w83 ?_;unfold zsG at hp;intro w g;obtain⟨h,i,q,j⟩:=t.blk g u 1;intro y l;obtain⟨s,d,n,a⟩:=i.blk l h 2;have e:=j.k n;refine⟨trivial,_,e.bk.rc rfl,trivial,_,a.bk.rc rfl,?_⟩;refine ifd hp (fun o hp=>?_) fun o hp=>?_; rotate_left
 ·obtain rfl:=oi hp;exact hq _ d.ext'
 refine⟨trivial,_,a.bk.rc rfl,trivial,_,a.bk.rc rfl,?_⟩;refine ifd hp (fun p hp=>?_) fun p hp=>?_; rotate_left
 ·obtain rfl:=oi hp;exact hq _ d.ext'
 refine⟨trivial,_,a.bk.rc rfl,trivial,_,e.bk.rc rfl,?_⟩;obtain rfl:=oi hp;exact hq _ d.ext'
theorem zu6{last:Int}{m f:M}{Q:V->M->Prop}{rz:Rg}(hS:Pre f m)(hp:zsH last=some rz)(hq:∀m',Ext m m'->Q (.agg 2 [Il rz.Lo,Il rz.Hi]) m'):Wc prog tbl 82 [.c (Il last)] m Q:=by
 have p:=hS.st;obtain⟨q,_⟩:=zr1;refine w82 ?_;unfold zsH at hp;intro r a;obtain⟨l,d,n,e⟩:=p.blk a q 1;obtain⟨g,h,i,o,j⟩:=e.sto d [Il 0,Il last];refine⟨g,h,?_⟩;refine⟨_,_,j.bk.ra,?_⟩;obtain rfl:=oi hp;exact hq _ i.ext'
theorem zu7{l:List Int}{ca100:C}{m f:M}{Q:V->M->Prop}{rz:Int}(hS:Pre f m)(ha100:Sl f ca100 l)(hp:zsJ l=some rz)(hq:∀m',Ext m m'->Q (.c (Il rz)) m'):Wc prog tbl 68 [.c ca100] m Q:=by
 have A:=hS.st;obtain⟨G,_⟩:=zr1;refine w68 ?_;unfold zsJ at hp;refine⟨ha100.isSl,?_⟩
 try rw[ha100.slLen]
 refine ifd hp (fun q hp=>?_) fun q hp=>?_
 ·obtain rfl:=oi hp;exact hq _ A.ext'
 obtain⟨D,g,hp⟩:=zqq hp;obtain⟨I,n,i,g⟩:=zqk g;refine⟨I,n,(by first|exact i|(rw[ha100.slLen];exact i)),_,(ha100.rdI g A.sub),ha100.isSl,?_⟩;intro J B
 have hgo:∀(d:Nat) (r:Int) (s:Int) (t:M) (e:Nat->Nat),St (Fm.of m) f f t->zsI l d r s=some rz->J [.c (Il r),.c (Il s)] t:=by
  intro d
  induction d with
  | zero=>intro r s t e a hp; cases hp
  | succ d o=>
   intro r s t e a hp;refine B _ _ _ ?_;rw[zsI] at hp
   try rw[ha100.slLen]
   refine ifd hp (fun u hp=>?_) fun u hp=>?_; rotate_left
   ·obtain rfl:=oi hp;exact hq _ a.ext'
   obtain⟨F,h,hp⟩:=zqq hp;obtain⟨N,p,j,h⟩:=zqk h;refine⟨N,p,(by first|exact j|(rw[ha100.slLen];exact j)),_,(ha100.rdI h a.sub),?_⟩;refine ifd hp (fun w hp=>?_) fun w hp=>?_
   ·refine gdi hp fun y hp=>?_;exact o _ _ _ e a hp
   refine gdi hp fun z hp=>?_;exact o _ _ _ e a hp
 exact hgo _ _ _ _ G A hp
theorem zu8{l:List Int}{ca100:C}{m f:M}{Q:V->M->Prop}{rz:Int}(hS:Pre f m)(ha100:Sl f ca100 l)(hp:zsL l=some rz)(hq:∀m',Ext m m'->Q (.c (Il rz)) m'):Wc prog tbl 69 [.c ca100] m Q:=by
 have y:=hS.st;obtain⟨D,_⟩:=zr1;refine w69 ?_;unfold zsL at hp;refine⟨ha100.isSl,?_⟩
 try rw[ha100.slLen]
 refine ifd hp (fun p hp=>?_) fun p hp=>?_
 ·cases hp
 obtain⟨A,e,hp⟩:=zqq hp;obtain⟨F,n,i,e⟩:=zqk e;refine⟨F,n,(by first|exact i|(rw[ha100.slLen];exact i)),_,(ha100.rdI e y.sub),?_⟩;intro G z
 have hgo:∀(a:Nat) (q:Int) (r:Int) (s:M) (g:Nat->Nat),St (Fm.of m) f f s->zsK l a q r=some rz->G [.c (Il q),.c (Il r)] s:=by
  intro a
  induction a with
  | zero=>intro q r s g d hp; cases hp
  | succ a w=>
   intro q r s g d hp;refine z _ _ _ ?_;rw[zsK] at hp;refine⟨ha100.isSl,?_⟩
   try rw[ha100.slLen]
   refine ifd hp (fun t hp=>?_) fun t hp=>?_; rotate_left
   ·obtain rfl:=oi hp;exact hq _ d.ext'
   obtain⟨B,h,hp⟩:=zqq hp;obtain⟨I,o,j,h⟩:=zqk h;refine⟨I,o,(by first|exact j|(rw[ha100.slLen];exact j)),_,(ha100.rdI h d.sub),?_⟩;refine gdi hp fun u hp=>?_;exact w _ _ _ g d hp
 exact hgo _ _ _ _ D y hp
theorem zu9{x:Int}{m f:M}{Q:V->M->Prop}{rz:Bool}(hS:Pre f m)(hp:zsM x=some rz)(hq:∀m',Ext m m'->Q (.c (.bool rz)) m'):Wc prog tbl 124 [.c (Il x)] m Q:=by
 have a:=hS.st;obtain⟨d,_⟩:=zr1;refine zuv ?_;unfold zsM at hp;obtain rfl:=oi hp;exact hq _ a.ext'
theorem zva{x:Int}{y:Int}{m f:M}{Q:V->M->Prop}{rz:Bool}(hS:Pre f m)(hp:zsN x y=some rz)(hq:∀m',Ext m m'->Q (.c (.bool rz)) m'):Wc prog tbl 119 [.c (Il x),.c (Il y)] m Q:=by
 have n:=hS.st;obtain⟨o,_⟩:=zr1;refine zuz ?_;unfold zsN at hp;obtain⟨p,e,hp⟩:=zqq hp;refine zu9 (x:=x) n.pre  e fun t g=>?_;obtain⟨a,q⟩:=n.call g o;refine⟨_,rfl,?_⟩;refine zqU hp (fun h hp=>?_) fun h hp=>?_; rotate_left
 ·obtain rfl:=oi hp;exact hq _ a.ext'
 obtain⟨r,i,hp⟩:=zqq hp;refine zu9 (x:=y) a.pre  i fun u j=>?_;obtain⟨d,s⟩:=a.call j o;refine⟨_,rfl,?_⟩;refine zqV hp (fun l hp=>?_) fun l hp=>?_
 ·obtain rfl:=oi hp;exact hq _ d.ext'
 obtain rfl:=oi hp;exact hq _ d.ext'
theorem zvb{l:List Int}{ca100:C}{m f:M}{Q:V->M->Prop}{rz:Bool}(hS:Pre f m)(ha100:Sl f ca100 l)(hp:zsP l=some rz)(hq:∀m',Ext m m'->Q (.c (.bool rz)) m'):Wc prog tbl 104 [.c ca100] m Q:=by
 have P:=hS.st;obtain⟨S,_⟩:=zr1;refine zuF ?_;unfold zsP at hp;refine⟨ha100.isSl,?_⟩;obtain⟨n,hp⟩:=zqr hp;refine⟨(by first|exact n|(rw[ha100.slLen];exact n)),?_⟩;intro T J
 try rw[ha100.slLen]
 have hgo:∀(d:Nat) (G:Bool) (r:Int) (s:M) (e:Nat->Nat),St (Fm.of m) f f s->zsO l d r=some rz->T [.c (.bool G),.c (Il r)] s:=by
  intro d
  induction d with
  | zero=>intro G r s e a hp; cases hp
  | succ d I=>
   intro G r s e a hp;refine J _ _ _ ?_;rw[zsO] at hp;refine ifd hp (fun t hp=>?_) fun t hp=>?_; rotate_left
   ·obtain rfl:=oi hp;exact hq _ a.ext'
   obtain⟨u,g,hp⟩:=zqq hp;obtain⟨Y,p,i,g⟩:=zqk g;refine⟨Y,p,(by first|exact i|(rw[ha100.slLen];exact i)),_,(ha100.rdI g a.sub),?_⟩;refine gdi hp fun w hp=>?_;obtain⟨z,h,hp⟩:=zqq hp;obtain⟨Z,q,j,h⟩:=zqk h;refine⟨Z,q,(by first|exact j|(rw[ha100.slLen];exact j)),_,(ha100.rdI h a.sub),?_⟩;obtain⟨N,A,hp⟩:=zqq hp;refine zva (x:=u) (y:=z) a.pre  A fun m9 B=>?_;obtain⟨o,O⟩:=a.call B e;refine⟨_,rfl,?_⟩;refine zqU hp (fun D hp=>?_) fun D hp=>?_
   ·obtain rfl:=oi hp;exact hq _ o.ext'
   refine gdi hp fun F hp=>?_;exact I _ _ _ e o hp
 exact hgo _ _ _ _ S P hp
theorem zvc{x:Int}{passes:Int->Option (Bool)}{bq0:Nat}{cb000:C}{m f:M}{Q:V->M->Prop}{rz:Bool}(hS:Pre f m)(hb0:Bk f bq0 1 [cb000])(hb000:zuK f cb000 passes)(hp:zsQ x passes=some rz)(hq:∀m',Ext m m'->Q (.c (.bool rz)) m'):Wc prog tbl 118 [.c (Il x),.c (.ptr bq0 0)] m Q:=by
 have g:=hS.st;obtain⟨j,_⟩:=zr1;refine zuo ?_;unfold zsQ at hp;refine⟨_,(hb0.sub g.sub).rc rfl,?_⟩;obtain⟨h,a,hp⟩:=zqq hp;refine hb000 _ _ _ _ _ (Sub.refl _) g.pre  a fun l d=>?_;obtain⟨e,i⟩:=g.call d j;refine⟨_,rfl,?_⟩;obtain rfl:=oi hp;exact hq _ e.ext'
theorem zvd{l:List Int}{p:Int->Option (Bool)}{ca100 ca200:C}{m f:M}{Q:V->M->Prop}{rz:Int}(hS:Pre f m)(ha100:Sl f ca100 l)(ha200:zuK f ca200 p)(hp:zsS l p=some rz)(hq:∀m',Ext m m'->Q (.c (Il rz)) m'):Wc prog tbl 123 [.c ca100,.c ca200] m Q:=by
 have F:=hS.st;obtain⟨G,_⟩:=zr1;refine zuI ?_;unfold zsS at hp;refine⟨ha100.isSl,?_⟩;intro I z
 have hgo:∀(d:Nat) (w:Int) (n:Int) (o:M) (e:Nat->Nat),St (Fm.of m) f f o->zsR l p d n=some rz->I [.c (Il w),.c (Il n)] o:=by
  intro d
  induction d with
  | zero=>intro w n o e a hp; cases hp
  | succ d y=>
   intro w n o e a hp;refine z _ _ _ ?_;rw[zsR] at hp
   try rw[ha100.slLen]
   refine ifd hp (fun q hp=>?_) fun q hp=>?_; rotate_left
   ·obtain rfl:=oi hp;exact hq _ a.ext'
   obtain⟨A,g,hp⟩:=zqq hp;obtain⟨J,j,h,g⟩:=zqk g;refine⟨J,j,(by first|exact h|(rw[ha100.slLen];exact h)),_,(ha100.rdI g a.sub),?_⟩;obtain⟨B,r,hp⟩:=zqq hp;refine ha200 _ _ _ _ _ (Sub.refl _) a.pre  r fun N s=>?_;obtain⟨i,D⟩:=a.call s e;refine⟨_,rfl,?_⟩;refine zqU hp (fun t hp=>?_) fun t hp=>?_
   ·obtain rfl:=oi hp;exact hq _ i.ext'
   refine gdi hp fun u hp=>?_;exact y _ _ _ e i hp
 exact hgo _ _ _ _ G F hp
theorem zve{l:List Int}{p:Int->Option (Bool)}{ca100 ca200:C}{m f:M}{Q:V->M->Prop}{rz:Bool}(hS:Pre f m)(ha100:Sl f ca100 l)(ha200:zuK f ca200 p)(hp:zsT l p=some rz)(hq:∀m',Ext m m'->Q (.c (.bool rz)) m'):Wc prog tbl 117 [.c ca100,.c ca200] m Q:=by
 have g:=hS.st;obtain⟨j,_⟩:=zr1;refine zuu ?_;unfold zsT at hp;obtain⟨h,a,hp⟩:=zqq hp;refine zvd (l:=l) (p:=p) g.pre ha100 ha200 a fun n d=>?_;obtain⟨e,i⟩:=g.call d j;refine⟨_,rfl,?_⟩;obtain rfl:=oi hp;exact hq _ e.ext'
theorem zvf{l:List Int}{passes:Int->Option (Bool)}{ca100 ca200:C}{m f:M}{Q:V->M->Prop}{rz:Bool}(hS:Pre f m)(ha100:Sl f ca100 l)(ha200:zuK f ca200 passes)(hp:zsU l passes=some rz)(hq:∀m',Ext m m'->Q (.c (.bool rz)) m'):Wc prog tbl 103 [.c ca100,.c ca200] m Q:=by
 have A:=hS.st;obtain⟨B,_⟩:=zr1;refine zuA ?_;unfold zsU at hp;intro D i;obtain⟨j,n,w,o⟩:=A.blk i B 1;obtain⟨q,d,e,g⟩:=o.freeze n
 have h:zuK q ((C.fn (Fn.func 118) [] [(W.c (C0.ptr m.nxt 0))])) (fun a=>zsQ a passes):=by
  intro f' m' a r Q hs hpre  hg hq;exact zvc hpre (g.sub hs) ((ha200.sub e.fs).sub hs) hg hq
 obtain⟨y,s,hp⟩:=zqq hp;refine zve (l:=l) (p:=(fun a=>zsQ a passes)) d.pre (ha100.sub e.fs) h s fun F t=>?_;obtain⟨u,z⟩:=d.call t j;refine⟨_,rfl,?_⟩;obtain rfl:=oi hp;exact hq _ u.ext'
theorem zvg{x:Yr}{passes:Yr->Option (Bool)}{bq0:Nat}{cb000:C}{m f:M}{Q:V->M->Prop}{rz:Bool}(hS:Pre f m)(hb0:Bk f bq0 1 [cb000])(hb000:zuL f cb000 passes)(hp:zsV x passes=some rz)(hq:∀m',Ext m m'->Q (.c (.bool rz)) m'):Wc prog tbl 106 [.agg 6 [Il x.Losses.Lo,Il x.Losses.Hi,Il x.Premiums.Lo,Il x.Premiums.Hi,Il x.Parcels,.bool x.Exempt],.c (.ptr bq0 0)] m Q:=by
 have p:=hS.st;obtain⟨q,_⟩:=zr1;refine zup ?_;unfold zsV at hp;intro r d;obtain⟨e,a,l,g⟩:=p.blk d q 1;refine⟨_,(hb0.sub a.sub).rc rfl,_,_,_,_,_,_,g.bk.ra,?_⟩;obtain⟨n,h,hp⟩:=zqq hp;refine hb000 _ _ _ _ _ (Sub.refl _) a.pre  h fun s i=>?_;obtain⟨j,o⟩:=a.call i e;refine⟨_,rfl,?_⟩;obtain rfl:=oi hp;exact hq _ j.ext'
theorem zvh{l:List Yr}{p:Yr->Option (Bool)}{ca100 ca200:C}{m f:M}{Q:V->M->Prop}{rz:Int}(hS:Pre f m)(ha100:Sl f ca100 l)(ha200:zuL f ca200 p)(hp:zsX l p=some rz)(hq:∀m',Ext m m'->Q (.c (Il rz)) m'):Wc prog tbl 120 [.c ca100,.c ca200] m Q:=by
 have G:=hS.st;obtain⟨I,_⟩:=zr1;refine zuD ?_;unfold zsX at hp;refine⟨ha100.isSl,?_⟩;intro J A
 have hgo:∀(d:Nat) (y:Int) (n:Int) (o:M) (e:Nat->Nat),St (Fm.of m) f f o->zsW l p d n=some rz->J [.c (Il y),.c (Il n)] o:=by
  intro d
  induction d with
  | zero=>intro y n o e a hp; cases hp
  | succ d z=>
   intro y n o e a hp;refine A _ _ _ ?_;rw[zsW] at hp
   try rw[ha100.slLen]
   refine ifd hp (fun q hp=>?_) fun q hp=>?_; rotate_left
   ·obtain rfl:=oi hp;exact hq _ a.ext'
   obtain⟨B,g,hp⟩:=zqq hp;obtain⟨N,j,h,g⟩:=zqk g;obtain⟨_,r⟩:=zr6 ha100 g;refine⟨N,j,(by first|exact h|(rw[ha100.slLen];exact h)),_,_,_,_,_,_,(r _ a.sub).1,?_⟩;obtain⟨D,s,hp⟩:=zqq hp;refine ha200 _ _ _ _ _ (Sub.refl _) a.pre  s fun O t=>?_;obtain⟨i,F⟩:=a.call t e;refine⟨_,rfl,?_⟩;refine zqU hp (fun u hp=>?_) fun u hp=>?_
   ·obtain rfl:=oi hp;exact hq _ i.ext'
   refine gdi hp fun w hp=>?_;exact z _ _ _ e i hp
 exact hgo _ _ _ _ I G hp
theorem zvi{l:List Yr}{p:Yr->Option (Bool)}{ca100 ca200:C}{m f:M}{Q:V->M->Prop}{rz:Bool}(hS:Pre f m)(ha100:Sl f ca100 l)(ha200:zuL f ca200 p)(hp:zsY l p=some rz)(hq:∀m',Ext m m'->Q (.c (.bool rz)) m'):Wc prog tbl 105 [.c ca100,.c ca200] m Q:=by
 have g:=hS.st;obtain⟨j,_⟩:=zr1;refine zus ?_;unfold zsY at hp;obtain⟨h,a,hp⟩:=zqq hp;refine zvh (l:=l) (p:=p) g.pre ha100 ha200 a fun n d=>?_;obtain⟨e,i⟩:=g.call d j;refine⟨_,rfl,?_⟩;obtain rfl:=oi hp;exact hq _ e.ext'
theorem zvj{l:List Yr}{passes:Yr->Option (Bool)}{ca100 ca200:C}{m f:M}{Q:V->M->Prop}{rz:Bool}(hS:Pre f m)(ha100:Sl f ca100 l)(ha200:zuL f ca200 passes)(hp:zsZ l passes=some rz)(hq:∀m',Ext m m'->Q (.c (.bool rz)) m'):Wc prog tbl 85 [.c ca100,.c ca200] m Q:=by
 have A:=hS.st;obtain⟨B,_⟩:=zr1;refine w85 ?_;unfold zsZ at hp;intro D i;obtain⟨j,n,w,o⟩:=A.blk i B 1;obtain⟨q,d,e,g⟩:=o.freeze n
 have h:zuL q ((C.fn (Fn.func 106) [] [(W.c (C0.ptr m.nxt 0))])) (fun a=>zsV a passes):=by
  intro f' m' a r Q hs hpre  hg hq;exact zvg hpre (g.sub hs) ((ha200.sub e.fs).sub hs) hg hq
 obtain⟨y,s,hp⟩:=zqq hp;refine zvi (l:=l) (p:=(fun a=>zsV a passes)) d.pre (ha100.sub e.fs) h s fun F t=>?_;obtain⟨u,z⟩:=d.call t j;refine⟨_,rfl,?_⟩;obtain rfl:=oi hp;exact hq _ u.ext'
theorem zvk{l:Lm}{r:Rg}{m f:M}{Q:V->M->Prop}{rz:Bool}(hS:Pre f m)(hp:zs0 l r=some rz)(hq:∀m',Ext m m'->Q (.c (.bool rz)) m'):Wc prog tbl 107 [.agg 6 [Il l.pence.Lo,Il l.pence.Hi,Il l.wide.Lo,Il l.wide.Hi,Il l.parcels.Lo,Il l.parcels.Hi],.agg 2 [Il r.Lo,Il r.Hi]] m Q:=by
 have S:=hS.st;obtain⟨T,_⟩:=zr1;refine zux ?_;unfold zs0 at hp;intro Z p;obtain⟨q,s,J,t⟩:=S.blk p T 1;intro m1 u;obtain⟨d,e,w,g⟩:=s.blk u q 2;have h:=t.k w;refine⟨trivial,_,_,h.bk.rp (k:=0) (j:=2) rfl (by omega),_,_,g.bk.ra,?_⟩;obtain⟨N,y,hp⟩:=zqq hp;refine zu5 (r:=l.pence) (other:=r) e.pre  y fun m7 z=>?_;obtain⟨a,i⟩:=e.call z d;have A:=h.k i;have o:=g.k i;refine⟨_,rfl,?_⟩;refine zqU hp (fun B hp=>?_) fun B hp=>?_; rotate_left
 ·obtain rfl:=oi hp;exact hq _ a.ext'
 refine⟨trivial,_,_,A.bk.rp (k:=2) (j:=2) rfl (by omega),trivial,_,o.bk.rc rfl,trivial,_,o.bk.rc rfl,?_⟩;refine gdi hp fun D hp=>?_;obtain⟨O,F,hp⟩:=zqq hp;refine zu4 (r:=l.wide) (n:=(r.Hi - r.Lo)) a.pre  F fun Y G=>?_;obtain⟨I,P⟩:=a.call G d;refine⟨_,rfl,?_⟩;obtain rfl:=oi hp;exact hq _ I.ext'
theorem zvl{l:Lm}{y:Yr}{m f:M}{Q:V->M->Prop}{rz:Bool}(hS:Pre f m)(hp:zs1 l y=some rz)(hq:∀m',Ext m m'->Q (.c (.bool rz)) m'):Wc prog tbl 86 [.agg 6 [Il l.pence.Lo,Il l.pence.Hi,Il l.wide.Lo,Il l.wide.Hi,Il l.parcels.Lo,Il l.parcels.Hi],.agg 6 [Il y.Losses.Lo,Il y.Losses.Hi,Il y.Premiums.Lo,Il y.Premiums.Hi,Il y.Parcels,.bool y.Exempt]] m Q:=by
 have S0:=hS.st;obtain⟨τ0,_⟩:=zr1;refine w86 ?_;unfold zs1 at hp;intro m0 t;obtain⟨u,w,Z,z⟩:=S0.blk t τ0 1;intro m1 A;obtain⟨a,g,B,h⟩:=w.blk A u 2;have i:=z.k B;refine⟨_,_,_,_,_,_,i.bk.ra,trivial,_,_,h.bk.rp (k:=0) (j:=2) rfl (by omega),?_⟩;obtain⟨aa,D,hp⟩:=zqq hp;refine zvk (l:=l) (r:=y.Losses) g.pre  D fun ga F=>?_;obtain⟨d,o⟩:=g.call F a;have p:=i.k o;have q:=h.k o;refine⟨_,rfl,?_⟩;refine zqU hp (fun G hp=>?_) fun G hp=>?_; rotate_left
 ·obtain rfl:=oi hp;exact hq _ d.ext'
 refine⟨_,_,_,_,_,_,p.bk.ra,trivial,_,_,q.bk.rp (k:=2) (j:=2) rfl (by omega),?_⟩;obtain⟨ba,I,hp⟩:=zqq hp;refine zvk (l:=l) (r:=y.Premiums) d.pre  I fun ha J=>?_;obtain⟨e,s⟩:=d.call J a;have N:=p.k s;have O:=q.k s;refine⟨_,rfl,?_⟩;refine zqU hp (fun P hp=>?_) fun P hp=>?_; rotate_left
 ·obtain rfl:=oi hp;exact hq _ e.ext'
 refine⟨trivial,_,_,N.bk.rp (k:=4) (j:=2) rfl (by omega),trivial,_,O.bk.rc rfl,?_⟩;obtain⟨ca,S,hp⟩:=zqq hp;refine zu4 (r:=l.parcels) (n:=y.Parcels) e.pre  S fun ia T=>?_;obtain⟨Y,da⟩:=e.call T a;refine⟨_,rfl,?_⟩;obtain rfl:=oi hp;exact hq _ Y.ext'
theorem zvm{r:Rl}{ca105:C}{m f:M}{Q:V->M->Prop}{rz:Bool}(hS:Pre f m)(ha105:Sl f ca105 r.Price)(hp:zs2 r=some rz)(hq:∀m',Ext m m'->Q (.c (.bool rz)) m'):Wc prog tbl 84 [.agg 6 [Il r.Classes,Il r.Good,Il r.Bad,Il r.Rest,Il r.Fewest,ca105]] m Q:=by
 have S0:=hS.st;obtain⟨τ0,_⟩:=zr1;refine w84 ?_;unfold zs2 at hp;intro m0 j;obtain⟨n,o,T,p⟩:=S0.blk j τ0 1;intro m1 q;obtain⟨h,s,t,u⟩:=o.blk q n 2;have w:=p.k t;obtain⟨y,z,e,A,B⟩:=u.sto s [(Il (1:Int)),(Il (10000:Int))];have a:=w.k A;refine⟨y,z,?_⟩;refine⟨trivial,_,a.bk.rc rfl,ha105.isSl,trivial,_,a.bk.rc rfl,?_⟩
 try rw[ha105.slLen]
 refine ifd hp (fun D hp=>?_) fun D hp=>?_; rotate_left
 ·obtain rfl:=oi hp;exact hq _ e.ext'
 refine⟨trivial,_,a.bk.rc rfl,_,_,B.bk.ra,?_⟩
 have i:zuK f ((C.fn (Fn.func 78) [(W.agg 2 [(C0.int IntKind.i64 (1:Int)),(C0.int IntKind.i64 (10000:Int))])] [])) (fun d=>zsF ({ Lo:=(1:Int),Hi:=(10000:Int) }:Rg) d):=by
  intro f' m' d r Q hs hpre  hg hq;exact zu4 hpre  hg hq
 obtain⟨Y,F,hp⟩:=zqq hp;refine zvf (l:=r.Price) (passes:=(fun d=>zsF ({ Lo:=(1:Int),Hi:=(10000:Int) }:Rg) d)) e.pre ha105 i F fun m9 G=>?_;obtain⟨g,I⟩:=e.call G h;have J:=a.k I;refine⟨_,rfl,?_⟩;refine zqU hp (fun N hp=>?_) fun N hp=>?_; rotate_left
 ·obtain rfl:=oi hp;exact hq _ g.ext'
 refine⟨trivial,_,J.bk.rc rfl,?_⟩;obtain⟨Z,O,hp⟩:=zqq hp;refine zvb (l:=r.Price) g.pre ha105 O fun da P=>?_;obtain⟨S,aa⟩:=g.call P h;refine⟨_,rfl,?_⟩;obtain rfl:=oi hp;exact hq _ S.ext'
theorem zvn{r:Rl}{ca105:C}{m f:M}{Q:V->M->Prop}{rz:Bool}(hS:Pre f m)(ha105:Sl f ca105 r.Price)(hp:zs3 r=some rz)(hq:∀m',Ext m m'->Q (.c (.bool rz)) m'):Wc prog tbl 57 [.agg 6 [Il r.Classes,Il r.Good,Il r.Bad,Il r.Rest,Il r.Fewest,ca105]] m Q:=by
 have S0:=hS.st;obtain⟨τ0,_⟩:=zr1;refine w57 ?_;unfold zs3 at hp;intro m0 w;obtain⟨a,e,na,d⟩:=S0.blk w τ0 1;refine⟨trivial,_,d.bk.rc rfl,?_⟩;refine ifd hp (fun y hp=>?_) fun y hp=>?_; rotate_left
 ·obtain rfl:=oi hp;exact hq _ e.ext'
 obtain⟨z,A,hp⟩:=zqq hp;refine zu6 (last:=(300:Int)) e.pre  A fun m3 B=>?_;obtain⟨l,D⟩:=e.call B a;have g:=d.k D;refine⟨_,_,rfl,trivial,_,g.bk.rc rfl,(d.bk.rc rfl),trivial,_,g.bk.rc rfl,(d.bk.rc rfl),?_⟩;obtain⟨oa,F,hp⟩:=zqq hp;refine zu5 (r:=z) (other:=({ Lo:=r.Good,Hi:=r.Bad }:Rg)) l.pre  F fun m9 G=>?_;obtain⟨h,I⟩:=l.call G a;have o:=g.k I;refine⟨_,rfl,?_⟩;refine zqU hp (fun J hp=>?_) fun J hp=>?_; rotate_left
 ·obtain rfl:=oi hp;exact hq _ h.ext'
 obtain⟨N,O,hp⟩:=zqq hp;refine zu6 (last:=(4:Int)) h.pre  O fun wa P=>?_;obtain⟨p,S⟩:=h.call P a;have q:=o.k S;refine⟨_,_,rfl,trivial,_,q.bk.rc rfl,(o.bk.rc rfl),?_⟩;obtain⟨pa,T,hp⟩:=zqq hp;refine zu4 (r:=N) (n:=r.Rest) p.pre  T fun xa Y=>?_;obtain⟨i,Z⟩:=p.call Y a;have s:=q.k Z;refine⟨_,rfl,?_⟩;refine zqU hp (fun aa hp=>?_) fun aa hp=>?_; rotate_left
 ·obtain rfl:=oi hp;exact hq _ i.ext'
 obtain⟨ba,ca,hp⟩:=zqq hp;refine zu6 (last:=(100:Int)) i.pre  ca fun ya da=>?_;obtain⟨t,ea⟩:=i.call da a;have u:=s.k ea;refine⟨_,_,rfl,trivial,_,u.bk.rc rfl,(s.bk.rc rfl),?_⟩;obtain⟨qa,fa,hp⟩:=zqq hp;refine zu4 (r:=ba) (n:=r.Fewest) t.pre  fa fun za ga=>?_;obtain⟨j,ha⟩:=t.call ga a;have ia:=u.k ha;refine⟨_,rfl,?_⟩;refine zqU hp (fun ja hp=>?_) fun ja hp=>?_; rotate_left
 ·obtain rfl:=oi hp;exact hq _ j.ext'
 refine⟨_,_,_,_,_,_,ia.bk.ra,?_⟩;obtain⟨sa,ka,hp⟩:=zqq hp;refine zvm (r:=r) j.pre ha105 ka fun Aa la=>?_;obtain⟨ma,ta⟩:=j.call la a;refine⟨_,rfl,?_⟩;obtain rfl:=oi hp;exact hq _ ma.ext'
theorem zvo{r:Rl}{class_:Int}{ca105:C}{m f:M}{Q:V->M->Prop}{rz:Bool}(hS:Pre f m)(_ha105:Sl f ca105 r.Price)(hp:zs4 r class_=some rz)(hq:∀m',Ext m m'->Q (.c (.bool rz)) m'):Wc prog tbl 72 [.agg 6 [Il r.Classes,Il r.Good,Il r.Bad,Il r.Rest,Il r.Fewest,ca105],.c (Il class_)] m Q:=by
 have z:=hS.st;obtain⟨A,_⟩:=zr1;refine w72 ?_;unfold zs4 at hp;intro B g;obtain⟨a,d,t,h⟩:=z.blk g A 1;refine⟨trivial,_,h.bk.rc rfl,?_⟩;refine gdi hp fun i hp=>?_;obtain⟨j,l,hp⟩:=zqq hp;refine zu6 (last:=(r.Classes - (1:Int))) d.pre  l fun D o=>?_;obtain⟨e,u⟩:=d.call o a;refine⟨_,_,rfl,?_⟩;obtain⟨w,p,hp⟩:=zqq hp;refine zu4 (r:=j) (n:=class_) e.pre  p fun F q=>?_;obtain⟨s,y⟩:=e.call q a;refine⟨_,rfl,?_⟩;obtain rfl:=oi hp;exact hq _ s.ext'
theorem zvp{r:Rl}{z:Zn}{ca105 ca201:C}{m f:M}{Q:V->M->Prop}{rz:Bool}(hS:Pre f m)(ha105:Sl f ca105 r.Price)(ha201:Sl f ca201 z.Years)(hp:zs5 r z=some rz)(hq:∀m',Ext m m'->Q (.c (.bool rz)) m'):Wc prog tbl 58 [.agg 6 [Il r.Classes,Il r.Good,Il r.Bad,Il r.Rest,Il r.Fewest,ca105],.agg 2 [Il z.First,ca201]] m Q:=by
 have S0:=hS.st;obtain⟨τ0,_⟩:=zr1;refine w58 ?_;unfold zs5 at hp;intro m0 F;obtain⟨G,I,Ca,J⟩:=S0.blk F τ0 1;intro m1 N;obtain⟨g,j,O,P⟩:=I.blk N G 2;have S:=J.k O;obtain⟨a,T,hp⟩:=zqq hp;refine zu6 (last:=(10000:Int)) j.pre  T fun m3 Y=>?_;obtain⟨n,o⟩:=j.call Y g;have Z:=S.k o;have aa:=P.k o;refine⟨_,_,rfl,?_⟩;obtain⟨d,ba,hp⟩:=zqq hp;refine zu6 (last:=(5:Int)) n.pre  ba fun m7 ca=>?_;obtain⟨p,q⟩:=n.call ca g;have da:=Z.k q;have ea:=aa.k q;refine⟨_,_,rfl,?_⟩;obtain⟨e,fa,hp⟩:=zqq hp;refine zu6 (last:=(100:Int)) p.pre  fa fun Ia ga=>?_;obtain⟨ha,s⟩:=p.call ga g;have ia:=da.k s;have ja:=ea.k s;refine⟨_,_,rfl,?_⟩;intro Ja ka;obtain⟨t,la,u,ma⟩:=ha.blk ka g 3;have na:=ia.k u;have oa:=ja.k u;obtain⟨pa,qa,w,y,sa⟩:=ma.sto la [Il a.Lo,Il a.Hi,Il d.Lo,Il d.Hi,Il e.Lo,Il e.Hi];have ta:=na.k y;have A:=oa.k y;refine⟨pa,qa,?_⟩;refine⟨_,_,_,_,_,_,ta.bk.ra,trivial,_,A.bk.rc rfl,?_⟩;obtain⟨Da,ua,hp⟩:=zqq hp;refine zvo (r:=r) (class_:=z.First) w.pre ha105 ua fun Ka va=>?_;obtain⟨i,B⟩:=w.call va t;have wa:=A.k B;have xa:=sa.k B;refine⟨_,rfl,?_⟩;refine zqU hp (fun ya hp=>?_) fun ya hp=>?_; rotate_left
 ·obtain rfl:=oi hp;exact hq _ i.ext'
 refine⟨trivial,_,wa.bk.rc rfl,_,_,_,_,_,_,xa.bk.ra,?_⟩
 have D:zuL f ((C.fn (Fn.func 86) [(W.agg 6 [(C0.int IntKind.i64 a.Lo),(C0.int IntKind.i64 a.Hi),(C0.int IntKind.i64 d.Lo),(C0.int IntKind.i64 d.Hi),(C0.int IntKind.i64 e.Lo),(C0.int IntKind.i64 e.Hi)])] [])) (fun h=>zs1 ({ pence:=a,wide:=d,parcels:=e }:Lm) h):=by
  intro f' m' h r Q hs hpre  hg hq;exact zvl hpre  hg hq
 obtain⟨Ea,za,hp⟩:=zqq hp;refine zvj (l:=z.Years) (passes:=(fun h=>zs1 ({ pence:=a,wide:=d,parcels:=e }:Lm) h)) i.pre ha201 D za fun La Aa=>?_;obtain⟨Ba,Fa⟩:=i.call Aa t;refine⟨_,rfl,?_⟩;obtain rfl:=oi hp;exact hq _ Ba.ext'
theorem zvq{z:Zn}{year:Int}{ca101:C}{m f:M}{Q:V->M->Prop}{rz:Bool}(hS:Pre f m)(ha101:Sl f ca101 z.Years)(hp:zs6 z year=some rz)(hq:∀m',Ext m m'->Q (.c (.bool rz)) m'):Wc prog tbl 88 [.agg 2 [Il z.First,ca101],.c (Il year)] m Q:=by
 have A:=hS.st;obtain⟨B,_⟩:=zr1;refine w88 ?_;unfold zs6 at hp;intro D h;obtain⟨a,d,t,i⟩:=A.blk h B 1;refine⟨trivial,_,i.bk.rc rfl,ha101.isSl,?_⟩;obtain⟨e,hp⟩:=zqr hp;refine⟨(by first|exact e|(rw[ha101.slLen];exact e)),?_⟩
 try rw[ha101.slLen]
 obtain⟨j,l,hp⟩:=zqq hp;refine zu6 (last:=((z.Years.length:Int) - (1:Int))) d.pre  l fun F o=>?_;obtain⟨g,u⟩:=d.call o a;refine⟨_,_,rfl,?_⟩;obtain⟨w,p,hp⟩:=zqq hp;refine zu4 (r:=j) (n:=year) g.pre  p fun G q=>?_;obtain⟨s,y⟩:=g.call q a;refine⟨_,rfl,?_⟩;obtain rfl:=oi hp;exact hq _ s.ext'
theorem zvr{z:Zn}{t:Tr}{ca101 ca200 ca201:C}{m f:M}{Q:V->M->Prop}{rz:Bool}(hS:Pre f m)(ha101:Sl f ca101 z.Years)(ha200:Sl f ca200 t.Losses)(ha201:Sl f ca201 t.Premiums)(hp:zs8 z t=some rz)(hq:∀m',Ext m m'->Q (.c (.bool rz)) m'):Wc prog tbl 54 [.agg 2 [Il z.First,ca101],.agg 2 [ca200,ca201]] m Q:=by
 have S0:=hS.st;obtain⟨τ0,_⟩:=zr1;refine w54 ?_;unfold zs8 at hp;intro m0 aa;obtain⟨ba,ca,Oa,da⟩:=S0.blk aa τ0 1;intro m1 ea;obtain⟨fa,p,ga,e⟩:=ca.blk ea ba 2;have d:=da.k ga;refine⟨trivial,_,e.bk.rc rfl,ha200.isSl,trivial,_,d.bk.rc rfl,ha101.isSl,?_⟩
 try rw[ha200.slLen]
 try rw[ha101.slLen]
 refine zqT hp (fun ha hp=>?_) fun ha hp=>?_
 ·obtain rfl:=oi hp;exact hq _ p.ext'
 refine⟨trivial,_,e.bk.rc rfl,ha201.isSl,trivial,_,d.bk.rc rfl,ha101.isSl,?_⟩
 try rw[ha201.slLen]
 try rw[ha101.slLen]
 refine zqT hp (fun ia hp=>?_) fun ia hp=>?_
 ·obtain rfl:=oi hp;exact hq _ p.ext'
 refine⟨trivial,_,d.bk.rc rfl,ha101.isSl,?_⟩;intro R7 Ka
 have hgo:∀(h:Nat) (b8:Bool) (x9:Int) (o:M) (g:Nat->Nat),St (Fm.of m) f f o->Lb (Fm.of m) f g o 1 m.nxt 2 [Il z.First,ca101]->Lb (Fm.of m) f g o 2 m0.nxt 2 [ca200,ca201]->zs7 z t h x9=some rz->R7 [.c (.bool b8),.c (Il x9)] o:=by
  intro h
  induction h with
  | zero=>intro b8 x9 o g i d e hp; cases hp
  | succ h Ja=>
   intro b8 x9 o g i d e hp;refine Ka _ _ _ ?_;rw[zs7] at hp
   try rw[ha101.slLen]
   refine ifd hp (fun ka hp=>?_) fun ka hp=>?_; rotate_left
   ·obtain rfl:=oi hp;exact hq _ i.ext'
   obtain⟨a,q,hp⟩:=zqq hp;obtain⟨La,T,B,q⟩:=zqk q;obtain⟨_,la⟩:=zr6 ha101 q;refine⟨La,T,(by first|exact B|(rw[ha101.slLen];exact B)),_,_,_,_,_,_,(la _ i.sub).1,?_⟩;intro Va ma;obtain⟨s,na,G,oa⟩:=i.blk ma g 3;have pa:=d.k G;have qa:=e.k G;obtain⟨sa,ta,u,I,J⟩:=oa.sto na [Il a.Losses.Lo,Il a.Losses.Hi,Il a.Premiums.Lo,Il a.Premiums.Hi,Il a.Parcels,.bool a.Exempt];have ua:=pa.k I;have N:=qa.k I;refine⟨sa,ta,?_⟩;refine⟨trivial,_,_,J.bk.rp (k:=0) (j:=2) rfl (by omega),trivial,_,N.bk.rc rfl,?_⟩;obtain⟨va,w,hp⟩:=zqq hp;obtain⟨Ma,Y,D,w⟩:=zqk w;refine⟨Ma,Y,(by first|exact D|(rw[ha200.slLen];exact D)),_,(ha200.rdI w u.sub),?_⟩;obtain⟨Pa,wa,hp⟩:=zqq hp;refine zu4 (r:=a.Losses) (n:=va) u.pre  wa fun Wa xa=>?_;obtain⟨l,y⟩:=u.call xa s;have ya:=ua.k y;have O:=N.k y;have za:=J.k y;refine⟨_,rfl,?_⟩;refine zqV hp (fun Aa hp=>?_) fun Aa hp=>?_
   ·obtain rfl:=oi hp;exact hq _ l.ext'
   refine⟨trivial,_,_,za.bk.rp (k:=2) (j:=2) rfl (by omega),trivial,_,O.bk.rc rfl,?_⟩;obtain⟨Ba,A,hp⟩:=zqq hp;obtain⟨Na,Z,F,A⟩:=zqk A;refine⟨Na,Z,(by first|exact F|(rw[ha201.slLen];exact F)),_,(ha201.rdI A l.sub),?_⟩;obtain⟨Qa,Ca,hp⟩:=zqq hp;refine zu4 (r:=a.Premiums) (n:=Ba) l.pre  Ca fun Xa Da=>?_;obtain⟨P,S⟩:=l.call Da s;have Ea:=ya.k S;have Fa:=O.k S;refine⟨_,rfl,?_⟩;refine zqV hp (fun Ga hp=>?_) fun Ga hp=>?_
   ·obtain rfl:=oi hp;exact hq _ P.ext'
   refine gdi hp fun Ha hp=>?_;exact Ja _ _ _ s P Ea Fa hp
 exact hgo _ _ _ _ fa p d e hp
theorem zvs{r:Rl}{z:Zn}{ca105 ca201:C}{m f:M}{Q:V->M->Prop}{rz:Int}(hS:Pre f m)(ha105:Sl f ca105 r.Price)(ha201:Sl f ca201 z.Years)(hp:zs9 r z=some rz)(hq:∀m',Ext m m'->Q (.c (Il rz)) m'):Wc prog tbl 25 [.agg 6 [Il r.Classes,Il r.Good,Il r.Bad,Il r.Rest,Il r.Fewest,ca105],.agg 2 [Il z.First,ca201]] m Q:=by
 have S:=hS.st;obtain⟨T,_⟩:=zr1;refine w25 ?_;unfold zs9 at hp;intro m0 l;obtain⟨n,o,J,p⟩:=S.blk l T 1;intro m1 q;obtain⟨g,a,s,h⟩:=o.blk q n 2;have d:=p.k s;refine⟨trivial,_,d.bk.rc rfl,?_⟩;refine ifd hp (fun t hp=>?_) fun t hp=>?_
 ·obtain rfl:=oi hp;exact hq _ a.ext'
 refine⟨trivial,_,h.bk.rc rfl,ha201.isSl,?_⟩
 try rw[ha201.slLen]
 refine ifd hp (fun u hp=>?_) fun u hp=>?_
 ·obtain rfl:=oi hp;exact hq _ a.ext'
 refine⟨_,_,_,_,_,_,d.bk.ra,?_⟩;obtain⟨N,w,hp⟩:=zqq hp;refine zvn (r:=r) a.pre ha105 w fun Y y=>?_;obtain⟨e,i⟩:=a.call y g;have A:=d.k i;have B:=h.k i;refine⟨_,rfl,?_⟩;refine zqV hp (fun D hp=>?_) fun D hp=>?_
 ·obtain rfl:=oi hp;exact hq _ e.ext'
 refine⟨_,_,_,_,_,_,A.bk.ra,_,_,B.bk.ra,?_⟩;obtain⟨O,F,hp⟩:=zqq hp;refine zvp (r:=r) (z:=z) e.pre ha105 ha201 F fun Z G=>?_;obtain⟨j,P⟩:=e.call G g;refine⟨_,rfl,?_⟩;refine zqV hp (fun I hp=>?_) fun I hp=>?_
 ·obtain rfl:=oi hp;exact hq _ j.ext'
 obtain rfl:=oi hp;exact hq _ j.ext'
theorem zvt{r:Rl}{from_:Stt}{ca105:C}{m f:M}{Q:V->M->Prop}{rz:Stt}(hS:Pre f m)(_ha105:Sl f ca105 r.Price)(hp:zta r from_=some rz)(hq:∀m',Ext m m'->Q (.agg 2 [Il rz.cls,Il rz.since]) m'):Wc prog tbl 97 [.agg 6 [Il r.Classes,Il r.Good,Il r.Bad,Il r.Rest,Il r.Fewest,ca105],.agg 2 [Il from_.cls,Il from_.since]] m Q:=by
 have D:=hS.st;obtain⟨F,_⟩:=zr1;refine w97 ?_;unfold zta at hp;intro G a;obtain⟨c,d,w,y⟩:=D.blk a F 1;intro I e;obtain⟨g,h,z,i⟩:=d.blk e c 2;intro J j;obtain⟨A,l,n,o⟩:=h.blk j g 3;have p:=i.k n;refine⟨_,_,p.bk.ra,?_⟩;obtain⟨q,s,t,B,u⟩:=o.sto l [Il from_.cls,Il from_.since];refine⟨q,s,?_⟩;refine⟨_,_,u.bk.ra,?_⟩;obtain rfl:=oi hp;exact hq _ t.ext'
theorem zvu{r:Rl}{from_:Stt}{ca105:C}{m f:M}{Q:V->M->Prop}{rz:Stt}(hS:Pre f m)(_ha105:Sl f ca105 r.Price)(hp:ztb r from_=some rz)(hq:∀m',Ext m m'->Q (.agg 2 [Il rz.cls,Il rz.since]) m'):Wc prog tbl 100 [.agg 6 [Il r.Classes,Il r.Good,Il r.Bad,Il r.Rest,Il r.Fewest,ca105],.agg 2 [Il from_.cls,Il from_.since]] m Q:=by
 have I:=hS.st;obtain⟨J,_⟩:=zr1;refine zuE ?_;unfold ztb at hp;intro N d;obtain⟨e,g,D,h⟩:=I.blk d J 1;intro O i;obtain⟨j,l,n,o⟩:=g.blk i e 2;have p:=h.k n;intro P q;obtain⟨F,s,a,t⟩:=l.blk q j 3;have u:=p.k a;have c:=o.k a;refine⟨trivial,_,c.bk.rc rfl,trivial,_,c.bk.rc rfl,?_⟩;obtain⟨w,hp⟩:=zqr hp;refine⟨w,trivial,_,u.bk.rc rfl,?_⟩;obtain⟨y,z,A,G,B⟩:=t.sto s [Il from_.cls,(Il (min (from_.since+(1:Int)) r.Rest))];refine⟨y,z,?_⟩;refine⟨_,_,B.bk.ra,?_⟩;obtain rfl:=oi hp;exact hq _ A.ext'
theorem zvv{r:Rl}{from_:Stt}{ca105:C}{m f:M}{Q:V->M->Prop}{rz:Stt}(hS:Pre f m)(ha105:Sl f ca105 r.Price)(hp:ztc r from_=some rz)(hq:∀m',Ext m m'->Q (.agg 2 [Il rz.cls,Il rz.since]) m'):Wc prog tbl 98 [.agg 6 [Il r.Classes,Il r.Good,Il r.Bad,Il r.Rest,Il r.Fewest,ca105],.agg 2 [Il from_.cls,Il from_.since]] m Q:=by
 have S0:=hS.st;obtain⟨τ0,_⟩:=zr1;refine w98 ?_;unfold ztc at hp;intro m0 t;obtain⟨u,w,ya,y⟩:=S0.blk t τ0 1;intro m1 z;obtain⟨A,B,D,F⟩:=w.blk z u 2;have G:=y.k D;intro m2 I;obtain⟨h,i,j,J⟩:=B.blk I A 3;have l:=G.k j;have n:=F.k j;refine⟨_,_,_,_,_,_,l.bk.ra,_,_,n.bk.ra,?_⟩;obtain⟨a,N,hp⟩:=zqq hp;refine zvu (r:=r) (from_:=from_) i.pre ha105 N fun Ea O=>?_;obtain⟨P,c⟩:=i.call O h;have S:=l.k c;have T:=n.k c;have Y:=J.k c;refine⟨_,_,rfl,?_⟩;intro Fa Z;obtain⟨za,aa,d,ba⟩:=P.blk Z h 4;have ca:=S.k d;have da:=T.k d;have ea:=Y.k d;obtain⟨fa,ga,o,e,p⟩:=ba.sto aa [Il a.cls,Il a.since];have ha:=ca.k e;have q:=da.k e;have s:=ea.k e;refine⟨fa,ga,?_⟩;refine⟨trivial,_,q.bk.rc rfl,trivial,_,ha.bk.rc rfl,?_⟩;refine ifd hp (fun ia hp=>?_) fun ia hp=>?_; rotate_left
 ·refine⟨_,_,p.bk.ra,?_⟩;obtain⟨ja,ka,la,Aa,ma⟩:=s.sto o [Il a.cls,Il a.since];refine⟨ja,ka,?_⟩;refine⟨_,_,ma.bk.ra,?_⟩;obtain rfl:=oi hp;exact hq _ la.ext'
 refine⟨trivial,_,q.bk.rc rfl,?_⟩;obtain⟨na,hp⟩:=zqr hp;refine⟨na,trivial,?_⟩;obtain⟨oa,pa,qa,sa,g⟩:=p.sto1 o 0 (Il (max (0:Int) (from_.cls - (1:Int)))) (by simp) rfl
 replace g:Lb _ _ _ _ _ _ _ [(Il (max (0:Int) (from_.cls - (1:Int)))),Il a.since]:=g
 have ta:=s.k sa;refine⟨oa,pa,?_⟩;refine⟨_,_,g.bk.ra,?_⟩;obtain⟨ua,va,wa,Ba,xa⟩:=ta.sto qa [(Il (max (0:Int) (from_.cls - (1:Int)))),Il a.since];refine⟨ua,va,?_⟩;refine⟨_,_,xa.bk.ra,?_⟩;obtain rfl:=oi hp;exact hq _ wa.ext'
theorem zvw{r:Rl}{from_:Stt}{ca105:C}{m f:M}{Q:V->M->Prop}{rz:Stt}(hS:Pre f m)(_ha105:Sl f ca105 r.Price)(hp:ztd r from_=some rz)(hq:∀m',Ext m m'->Q (.agg 2 [Il rz.cls,Il rz.since]) m'):Wc prog tbl 99 [.agg 6 [Il r.Classes,Il r.Good,Il r.Bad,Il r.Rest,Il r.Fewest,ca105],.agg 2 [Il from_.cls,Il from_.since]] m Q:=by
 have J:=hS.st;obtain⟨N,_⟩:=zr1;refine w99 ?_;unfold ztd at hp;intro O c;obtain⟨d,e,F,g⟩:=J.blk c N 1;intro P h;obtain⟨i,j,l,n⟩:=e.blk h d 2;have o:=g.k l;intro S p;obtain⟨G,q,a,s⟩:=j.blk p i 3;have t:=o.k a;have u:=n.k a;refine⟨trivial,_,u.bk.rc rfl,?_⟩;obtain⟨w,hp⟩:=zqr hp;refine⟨w,trivial,_,t.bk.rc rfl,?_⟩;refine gdi hp fun y hp=>?_;obtain⟨z,A,B,I,D⟩:=s.sto q [(Il (min (from_.cls+(1:Int)) (r.Classes - (1:Int)))),Il 0];refine⟨z,A,?_⟩;refine⟨_,_,D.bk.ra,?_⟩;obtain rfl:=oi hp;exact hq _ B.ext'
theorem zvx{m f:M}{Q:V->M->Prop}{rz:K4}(hS:Pre f m)(hp:zte=some rz)(hq:∀m' f' c0 c1 c2 c3,Grw m f m' f'->zuJ f' c0 rz.k0.lead->zuJ f' c1 rz.k1.lead->zuJ f' c2 rz.k2.lead->zuJ f' c3 rz.k3.lead->Q (.agg 4 [c0,c1,c2,c3]) m'):Wc prog tbl 76 [] m Q:=by
 have T:=hS.st;obtain⟨Y,_⟩:=zr1;refine w76 ?_;unfold zte at hp;intro Z q;obtain⟨G,s,I,t⟩:=T.blk q Y 1;obtain⟨u,w,y,J,z⟩:=t.sto s [(C.fn (Fn.func 97) [] []),(C.fn (Fn.func 98) [] []),(C.fn (Fn.func 99) [] []),(C.fn (Fn.func 100) [] [])];refine⟨u,w,?_⟩;refine⟨_,_,_,_,z.bk.ra,?_⟩
 have l:zuJ f ((C.fn (Fn.func 97) [] [])) (fun a c=>zta a c):=by
  refine⟨rfl,?_⟩;intro f' m' a c N r Q hs hpre A hg hq;exact zvt hpre A hg hq
 have n:zuJ f ((C.fn (Fn.func 98) [] [])) (fun d e=>ztc d e):=by
  refine⟨rfl,?_⟩;intro f' m' d e O r Q hs hpre B hg hq;exact zvv hpre B hg hq
 have o:zuJ f ((C.fn (Fn.func 99) [] [])) (fun g h=>ztd g h):=by
  refine⟨rfl,?_⟩;intro f' m' g h P r Q hs hpre D hg hq;exact zvw hpre D hg hq
 have p:zuJ f ((C.fn (Fn.func 100) [] [])) (fun i j=>ztb i j):=by
  refine⟨rfl,?_⟩;intro f' m' i j S r Q hs hpre F hg hq;exact zvu hpre F hg hq
 obtain rfl:=oi hp;exact hq _ f (C.fn (Fn.func 97) [] []) (C.fn (Fn.func 98) [] []) (C.fn (Fn.func 99) [] []) (C.fn (Fn.func 100) [] []) y.grw l n o p
theorem zvy{r:Rl}{y:Yr}{ca105:C}{m f:M}{Q:V->M->Prop}{rz:Bool}(hS:Pre f m)(_ha105:Sl f ca105 r.Price)(hp:ztf r y=some rz)(hq:∀m',Ext m m'->Q (.c (.bool rz)) m'):Wc prog tbl 102 [.agg 6 [Il r.Classes,Il r.Good,Il r.Bad,Il r.Rest,Il r.Fewest,ca105],.agg 6 [Il y.Losses.Lo,Il y.Losses.Hi,Il y.Premiums.Lo,Il y.Premiums.Hi,Il y.Parcels,.bool y.Exempt]] m Q:=by
 have s:=hS.st;obtain⟨t,_⟩:=zr1;refine zuw ?_;unfold ztf at hp;intro u e;obtain⟨g,h,p,i⟩:=s.blk e t 1;intro w j;obtain⟨q,a,l,d⟩:=h.blk j g 2;have n:=i.k l;refine⟨trivial,_,d.bk.rc rfl,?_⟩;refine zqV hp (fun o hp=>?_) fun o hp=>?_; rotate_left
 ·obtain rfl:=oi hp;exact hq _ a.ext'
 refine⟨trivial,_,d.bk.rc rfl,trivial,_,n.bk.rc rfl,?_⟩;obtain rfl:=oi hp;exact hq _ a.ext'
theorem zvz{r:Rl}{y:Yr}{losses:Int}{premiums:Int}{ca105:C}{m f:M}{Q:V->M->Prop}{rz:Int}(hS:Pre f m)(ha105:Sl f ca105 r.Price)(hp:ztg r y losses premiums=some rz)(hq:∀m',Ext m m'->Q (.c (Il rz)) m'):Wc prog tbl 80 [.agg 6 [Il r.Classes,Il r.Good,Il r.Bad,Il r.Rest,Il r.Fewest,ca105],.agg 6 [Il y.Losses.Lo,Il y.Losses.Hi,Il y.Premiums.Lo,Il y.Premiums.Hi,Il y.Parcels,.bool y.Exempt],.c (Il losses),.c (Il premiums)] m Q:=by
 have S0:=hS.st;obtain⟨τ0,_⟩:=zr1;refine w80 ?_;unfold ztg at hp;intro m0 h;obtain⟨i,j,Z,l⟩:=S0.blk h τ0 1;intro m1 n;obtain⟨o,d,p,q⟩:=j.blk n i 2;have e:=l.k p;refine⟨_,_,_,_,_,_,e.bk.ra,_,_,_,_,_,_,q.bk.ra,?_⟩;obtain⟨aa,s,hp⟩:=zqq hp;refine zvy (r:=r) (y:=y) d.pre ha105 s fun da t=>?_;obtain⟨a,u⟩:=d.call t o;have g:=e.k u;refine⟨_,rfl,?_⟩;refine zqV hp (fun w hp=>?_) fun w hp=>?_
 ·obtain rfl:=oi hp;exact hq _ a.ext'
 refine gdi hp fun z hp=>?_;refine gdi hp fun A hp=>?_;obtain⟨B,hp⟩:=zqr hp;refine⟨B,trivial,_,g.bk.rc rfl,?_⟩;refine gdi hp fun D hp=>?_;refine gdi hp fun F hp=>?_;refine gdi hp fun G hp=>?_;refine ifd hp (fun I hp=>?_) fun I hp=>?_
 ·obtain rfl:=oi hp;exact hq _ a.ext'
 refine gdi hp fun J hp=>?_;refine gdi hp fun N hp=>?_;obtain⟨O,hp⟩:=zqr hp;refine⟨O,trivial,_,g.bk.rc rfl,?_⟩;refine gdi hp fun P hp=>?_;refine gdi hp fun S hp=>?_;refine gdi hp fun T hp=>?_;refine ifd hp (fun Y hp=>?_) fun Y hp=>?_
 ·obtain rfl:=oi hp;exact hq _ a.ext'
 obtain rfl:=oi hp;exact hq _ a.ext'
theorem zvA{m f:M}{Q:V->M->Prop}{rz:P4}(hS:Pre f m)(hp:zth=some rz)(hq:∀m',Ext m m'->Q (.agg 4 [.bool rz.p0,.bool rz.p1,.bool rz.p2,.bool rz.p3]) m'):Wc prog tbl 113 [] m Q:=by
 have o:=hS.st;obtain⟨p,_⟩:=zr1;refine zuC ?_;unfold zth at hp;intro q a;obtain⟨j,c,l,d⟩:=o.blk a p 1;obtain⟨e,g,h,n,i⟩:=d.sto c [.bool false,.bool true,.bool true,.bool true];refine⟨e,g,?_⟩;refine⟨_,_,_,_,i.bk.ra,?_⟩;obtain rfl:=oi hp;exact hq _ h.ext'
theorem zvB{class_:Int}{m f:M}{Q:V->M->Prop}{rz:C6}(hS:Pre f m)(hp:zti class_=some rz)(hq:∀m',Ext m m'->Q (.agg 6 [.bool rz.c0,.bool rz.c1,.bool rz.c2,.bool rz.c3,.bool rz.c4,.bool rz.c5]) m'):Wc prog tbl 90 [.c (Il class_)] m Q:=by
 have N:=hS.st;obtain⟨O,_⟩:=zr1;refine w90 ?_;unfold zti at hp;intro S g;obtain⟨h,i,G,j⟩:=N.blk g O 1;intro T n;obtain⟨I,o,p,q⟩:=i.blk n h 2;have r:=j.k p;refine⟨trivial,?_⟩;obtain⟨s,hp⟩:=zqr hp;obtain⟨P,d,e⟩:=zqQ s;refine⟨P,d,e,?_⟩;obtain⟨t,u,w,y,a⟩:=q.sta o (pre:=[]) (post:=[]) (l:=([false,false,false,false,false,false]:List Bool)) (enc:=C.bool) rfl rfl d e true
 replace a:Lb _ _ _ _ _ _ _ [(.bool (sti class_ 0 true false)),(.bool (sti class_ 1 true false)),(.bool (sti class_ 2 true false)),(.bool (sti class_ 3 true false)),(.bool (sti class_ 4 true false)),(.bool (sti class_ 5 true false))]:=a
 have z:=r.k y;refine⟨t,u,?_⟩;refine⟨_,_,_,_,_,_,a.bk.ra,?_⟩;obtain⟨A,B,D,J,F⟩:=z.sto w [(.bool (sti class_ 0 true false)),(.bool (sti class_ 1 true false)),(.bool (sti class_ 2 true false)),(.bool (sti class_ 3 true false)),(.bool (sti class_ 4 true false)),(.bool (sti class_ 5 true false))];refine⟨A,B,?_⟩;refine⟨_,_,_,_,_,_,F.bk.ra,?_⟩;obtain rfl:=oi hp;exact hq _ D.ext'
theorem zvC{c:C6}{m f:M}{Q:V->M->Prop}{rz:List Int}(hS:Pre f m)(hp:ztk c=some rz)(hq:∀m' f' c0,Grw m f m' f'->Sl f' c0 rz->Q (.c c0) m'):Wc prog tbl 64 [.agg 6 [.bool c.c0,.bool c.c1,.bool c.c2,.bool c.c3,.bool c.c4,.bool c.c5]] m Q:=by
 have S0:=hS.st;obtain⟨τ0,_⟩:=zr1;refine w64 ?_;unfold ztk at hp;intro m0 t;obtain⟨u,w,ca,d⟩:=S0.blk t τ0 1;intro R1 ba
 have hgo:∀(g:Nat) (c2:C) (o:Int) (h:List Int) (p:M) (e:Nat->Nat),St (Fm.of m) f f p->Lb (Fm.of m) f e p 1 m.nxt 6 [.bool c.c0,.bool c.c1,.bool c.c2,.bool c.c3,.bool c.c4,.bool c.c5]->Ow (Fm.of m) f e p 2 c2 h->ztj c g h o=some rz->R1 [.c c2,.c (Il o)] p:=by
  intro g
  induction g with
  | zero=>intro c2 o h p e i d j hp; cases hp
  | succ g q=>
   intro c2 o h p e i d j hp;refine ba _ _ _ ?_;rw[ztj] at hp;refine ifd hp (fun y hp=>?_) fun y hp=>?_; rotate_left
   ·obtain⟨z,A,da,B⟩:=j.freeze i;obtain rfl:=oi hp;exact hq _ z c2 A.grw B
   refine⟨trivial,?_⟩;obtain⟨ea,n,hp⟩:=zqq hp;obtain⟨n5,r,s,n⟩:=zqk n;refine⟨n5,r,s,_,(d.bk.rc (zqP (l:=([c.c0,c.c1,c.c2,c.c3,c.c4,c.c5]:List Bool)) (enc:=C.bool) 0 rfl n)),?_⟩;refine zqU hp (fun D hp=>?_) fun D hp=>?_; rotate_left
   ·refine gdi hp fun F hp=>?_;exact q _ _ _ _ e i d j hp
   obtain⟨G,hp⟩:=zqr hp;intro m7 I;obtain⟨J,N,O,P,S,T,Y⟩:=j.app' zuO i (a:=o) (show Rp.rep (α:=Int) f _ o from rfl) G I;have Z:=d.k T;refine⟨J,N,P,?_⟩;refine gdi hp fun aa hp=>?_;exact q _ _ _ _ O S Z Y hp
 exact hgo _ _ _ _ _ u w d (Ow.nil _ _ _ _ _) hp
theorem zvD{p:P4}{bq0:Nat}{m f:M}{F:Fm}{n0 ly:Nat}{xs:List (List V)}{I:Nat->(Nat->Prop)->M->Prop}{E:(Nat->Prop)->M->Prop}{S1:Nat->Prop}{Q:V->M->Prop}{rz:List Int}{τ0:Nat->Nat}(hc:zqf prog tbl n0 ly xs I E)(S0:St F f f m)(Y0:Yg n0 (YJ xs I rz) S1 F f τ0 m)(hb0:Bk f bq0 4 [.bool p.p0,.bool p.p1,.bool p.p2,.bool p.p3])(hp:ztm p=some rz)(hq:∀v m' f' τ' S',St F f f' m'->(Yg n0 (YJ xs I ([]:List Int)) S' F f' τ' m'\/Yg n0 E S' F f' τ' m')->Q v m'):Wc prog tbl 109 [.c (.fn (.yield ly) [] []),.c (.ptr bq0 0)] m Q:=by
 refine zuq ?_;unfold ztm at hp;refine⟨_,_,_,_,(hb0.sub S0.sub).ra,?_⟩;intro R4 hR4
 have hgo:∀(d4242:Nat) (x5:Int) (r4239:List Int) (s4240:Nat->Prop) (m6:M) (τ4238:Nat->Nat),St F f f m6->Yg n0 (YJ xs I r4239) s4240 F f τ4238 m6->ztl p d4242 x5=some r4239->R4 [.c (.int .i64 x5)] m6:=by
  intro d4242
  induction d4242 with
  | zero=>intro x5 r4239 s4240 m6 τ4238 S4237 Y4241 hp; cases hp
  | succ d4242 ihR4=>
   intro x5 r4239 s4240 m6 τ4238 S4237 Y4241 hp;refine hR4 _ _ ?_;rw[ztl] at hp;refine ifd hp (fun q4243 hp=>?_) fun q4243 hp=>?_; rotate_left
   ·obtain rfl:=oi hp;exact hq _ _ _ _ _ S4237 (.inl Y4241)
   obtain⟨v4245,g4244,hp⟩:=zqq hp;obtain⟨n7,g4244i,g4244l,g4244⟩:=zqk g4244;refine⟨n7,g4244i,g4244l,_,(zrw (l:=([p.p0,p.p1,p.p2,p.p3]:List Bool)) (enc:=C.bool) rfl g4244),?_⟩;refine zqU hp (fun q4246 hp=>?_) fun q4246 hp=>?_; rotate_left
   ·obtain⟨g4261,hp⟩:=zqr hp;refine⟨g4261,?_⟩;exact ihR4 _ _ _ _ τ4238 S4237 Y4241 hp
   obtain⟨r4247,hp4249,hz4248⟩:=zqq hp
   clear hp
   obtain rfl:=oi hz4248;have hp:=hp4249
   show Wy prog tbl ly (IV.encs (x5:Int)) _ _
   refine Yg.yield hc S4237 Y4241 ?_ ?_
   ·intro m10 τ4250 s4254 S4251 k4252 Y4253;refine⟨_,rfl,?_⟩;refine zqX ?_;obtain⟨g4255,hp⟩:=zqr hp;refine⟨g4255,?_⟩;exact ihR4 _ _ _ _ τ4250 S4251 Y4253 hp
   ·intro m10 τ4256 s4260 S4257 k4258 Y4259;refine⟨_,rfl,?_⟩;refine zqY ?_;exact hq _ _ _ _ _ S4257 (.inr Y4259)
 exact hgo _ _ _ _ _ τ0 S0 Y0 hp
theorem zvE{p:P4}{m f:M}{Q:V->M->Prop}{rz:List Int}(hS:Pre f m)(hp:ztn p=some rz)(hq:∀m' f' c0,Grw m f m' f'->It prog tbl f' c0 rz->Q (.c c0) m'):Wc prog tbl 93 [.agg 4 [.bool p.p0,.bool p.p1,.bool p.p2,.bool p.p3]] m Q:=by
 have s:=hS.st;obtain⟨t,_⟩:=zr1;refine w93 ?_;unfold ztn at hp;intro u h;obtain⟨o,i,q,j⟩:=s.blk h t 1;obtain⟨d,a,r,e⟩:=j.freeze i;obtain⟨l,n,hp⟩:=zqq hp;have g:It prog tbl d ((C.fn (Fn.func 109) [] [(W.c (C0.ptr m.nxt 0))])) l:=zqZ a.fz a.fv fun w ly I E hc y z A B hS hY Q hq=>zvD hc hS hY e n hq;obtain rfl:=oi hp;exact hq _ d (C.fn (Fn.func 109) [] [(W.c (C0.ptr m.nxt 0))]) a.grw g
theorem zvF{seq:List Int}{ca200:C}{m f:M}{Q:V->M->Prop}{rz:List Int}(hS:Pre f m)(ha200:It prog tbl f ca200 seq)(hp:ztp seq=some rz)(hq:∀m' f' c0,Grw m f m' f'->Sl f' c0 rz->Q (.c c0) m'):Wc prog tbl 108 [.c .sl0,.c ca200] m Q:=by
 have S0:=hS.st;obtain⟨τ0,_⟩:=zr1;refine zuB ?_;unfold ztp at hp;intro m0 J;obtain⟨N,O,sa,o⟩:=S0.blk J τ0 1;refine zqO (α:=Int) O ha200 (σ:=(List Int) × C) 2 (fun st bb=>(False\/(zqN st.2 bb))) (fun st gG gF gT gM=>(Lb gG gF gT gM 1 m.nxt 1 [st.2])/\(Ow gG gF gT gM 3 st.2 st.1)) (fun rr_ st=>zto rr_ st.1=some rz) (fun ex st=>False) (fun st=>(Gud.and (Gud.lb o.bk.lt (by decide)) (Gud.ow (by decide)))) (st0:=([],.sl0)) (τ:=N) ⟨o,(Ow.nil _ _ _ _ _)⟩ hp ?_ ?_ ?_ ?_
 ·intro i P st j p m2 q ta oa pa qa S ua hA z hp A B;obtain⟨g,h⟩:=st;obtain⟨e,d⟩:=hA
  replace e:Lb q j p m2 1 m.nxt 1 [h]:=e
  replace d:Ow q j p m2 3 h g:=d
  replace hp:zto (i::P) g=some rz:=hp
  rw[zto] at hp;refine⟨_,rfl,?_⟩;refine A _ _ _ _ S z fun m6 va T r D F=>?_;have s:=e.k r;have d:=d.k r;refine⟨_,s.bk.rc rfl,?_⟩;obtain⟨Y,hp⟩:=zqr hp;intro m8 Z;obtain⟨l,aa,wa,ba,ca,t,n⟩:=d.app' zuO T (a:=i) (show Rp.rep (α:=Int) j _ i from rfl) Y Z;have da:=s.k t;have G:=D.k t;refine⟨l,aa,ba,?_⟩;obtain⟨ea,fa,ga,u,ha⟩:=da.sto ca [l];have n:=n.k u;have I:=G.k u;refine⟨ea,fa,?_⟩;exact B .nrm ((g++[i]),l) _ _ _ _ ga ⟨ha,n⟩ I F hp
 ·intro st w y ma ia xa hA hp;obtain⟨g,h⟩:=st
  replace hp:zto [] g=some rz:=hp
  obtain⟨e,d⟩:=hA
  replace e:Lb (Fm.of m) w y ma 1 m.nxt 1 [h]:=e
  replace d:Ow (Fm.of m) w y ma 3 h g:=d
  rw[zto] at hp;refine⟨_,e.bk.rc rfl,?_⟩;obtain⟨ja,ka,ya,la⟩:=d.freeze ia;obtain rfl:=oi hp;exact hq _ ja h ka.grw la
 ·intro id st _ _ _ _ _ _ hn; first | exact hn.elim | (cases hn)
 ·intro st _ _ _ _ _ _ hn; first | exact hn.elim | (cases hn)
theorem zvG{seq:List Int}{ca100:C}{m f:M}{Q:V->M->Prop}{rz:List Int}(hS:Pre f m)(ha100:It prog tbl f ca100 seq)(hp:ztq seq=some rz)(hq:∀m' f' c0,Grw m f m' f'->Sl f' c0 rz->Q (.c c0) m'):Wc prog tbl 92 [.c ca100] m Q:=by
 have j:=hS.st;obtain⟨o,_⟩:=zr1;refine w92 ?_;unfold ztq at hp;obtain⟨l,a,hp⟩:=zqq hp;refine zvF (seq:=seq) j.pre ha100 a fun p d e g h=>?_;obtain⟨i,n⟩:=j.callG g o;refine⟨_,rfl,?_⟩;obtain rfl:=oi hp;exact hq _ d e i.grw h
theorem zvH{s:Option (Stt->Option (Bool))}{ca100:C}{m f:M}{Q:V->M->Prop}{rz:C6}(hS:Pre f m)(ha100:Mi f ca100 s)(hp:zts s=some rz)(hq:∀m',Ext m m'->Q (.agg 6 [.bool rz.c0,.bool rz.c1,.bool rz.c2,.bool rz.c3,.bool rz.c4,.bool rz.c5]) m'):Wc prog tbl 63 [.c ca100] m Q:=by
 have S0:=hS.st;obtain⟨τ0,_⟩:=zr1;refine w63 ?_;unfold zts at hp;intro m0 ia;obtain⟨ja,ka,gb,la⟩:=S0.blk ia τ0 1;intro m1 ma;obtain⟨na,oa,pa,qa⟩:=ka.blk ma ja 2;have sa:=la.k pa;obtain⟨cb,ta,Z,aa,ba⟩:=Mi.rng zuN oa ha100 na 3;have hp:=zrd hp Z;refine⟨ta,aa,?_⟩;intro m3 ua;obtain⟨va,wa,I,xa⟩:=ba m3 ua;have o:=sa.k I;have p:=qa.k I;intro R4 db
 have hgo:∀(q:Nat) (d:Bool) (e:Bool) (g:Bool) (h:Bool) (i:Bool) (j:Bool) (r:List Stt) (G:M) (n:Nat->Nat),St (Fm.of m) f f G->Lb (Fm.of m) f n G 1 m.nxt 6 [.bool false,.bool false,.bool false,.bool false,.bool false,.bool false]->Lb (Fm.of m) f n G 2 m0.nxt 6 [.bool d,.bool e,.bool g,.bool h,.bool i,.bool j]->Ir (Fm.of m) f n G 3 m1.nxt ca100 s r->ztr s q d e g h i j r=some rz->R4 [] G:=by
  intro q
  induction q with
  | zero=>intro d e g h i j r G n t o p u hp; cases hp
  | succ q bb=>
   intro d e g h i j r G n t o p u hp;refine db  _ ?_;rw[ztr] at hp;obtain⟨l6,ca,da,ea⟩:=u.next t;refine⟨l6,ca,fun ya=>?_,fun sb tb ub za=>?_⟩
   ·have hp:=zrg (da ya) hp;refine⟨_,_,_,_,_,_,p.bk.ra,?_⟩;obtain⟨Aa,Ba,J,Ca,Da⟩:=o.sto t [.bool d,.bool e,.bool g,.bool h,.bool i,.bool j];have hb:=u.k Ca t.sub J (by decide);refine⟨Aa,Ba,?_⟩;refine⟨_,_,_,_,_,_,Da.bk.ra,?_⟩;obtain rfl:=oi hp;exact hq _ J.ext'
   obtain⟨Ea,a,Fa,Ga,fa,eb,ga,Y,N,O,P⟩:=ea _ _ _ za;have hp:=zrh fa hp;obtain⟨Ha,ha,hp⟩:=zqq hp;obtain rfl:Ha=Ga:=oi (ha.symm.trans ga);generalize Ea++Fa=ib at hp P;have Ia:=o.k O;have Ja:=p.k O;refine⟨_,_,_,Y,?_⟩;intro vb Ka;obtain⟨La,w,y,Ma⟩:=N.blk Ka n 4;have Na:=Ia.k y;have Oa:=Ja.k y;have Pa:=P.k y N.sub w (by decide);obtain⟨Qa,Ra,z,A,Sa⟩:=Ma.sto w [Il a.cls,Il a.since];have Ta:=Na.k A;have Ua:=Oa.k A;have Va:=Pa.k A w.sub z (by decide);refine⟨Qa,Ra,?_⟩;refine⟨trivial,_,Sa.bk.rc rfl,trivial,?_⟩;obtain⟨Wa,hp⟩:=zqr hp;obtain⟨fb,D,F⟩:=zqQ Wa;refine⟨fb,D,F,?_⟩;obtain⟨Xa,Ya,S,T,B⟩:=Ua.sta z (pre:=[]) (post:=[]) (l:=([d,e,g,h,i,j]:List Bool)) (enc:=C.bool) rfl rfl D F true
   replace B:Lb _ _ _ _ _ _ _ [(.bool (sti a.cls 0 true d)),(.bool (sti a.cls 1 true e)),(.bool (sti a.cls 2 true g)),(.bool (sti a.cls 3 true h)),(.bool (sti a.cls 4 true i)),(.bool (sti a.cls 5 true j))]:=B
   have Za:=Ta.k T;have ab:=Va.k T z.sub S (by decide);refine⟨Xa,Ya,?_⟩;exact bb _ _ _ _ _ _ _ _ La S Za B ab hp
 exact hgo _ _ _ _ _ _ _ _ _ va wa o p xa hp
theorem zvI{w:Wk}{ca105 ca107 ca108 ca109 ca110 ca111 ca112:C}{m f:M}{Q:V->M->Prop}{rz:Stt}(hS:Pre f m)(_ha105:Sl f ca105 w.r.Price)(_ha107:Sl f ca107 w.zone.Years)(_ha108:zuJ f ca108 w.kinds.k0.lead)(_ha109:zuJ f ca109 w.kinds.k1.lead)(_ha110:zuJ f ca110 w.kinds.k2.lead)(_ha111:zuJ f ca111 w.kinds.k3.lead)(_ha112:Sl f ca112 w.can)(hp:ztt w=some rz)(hq:∀m',Ext m m'->Q (.agg 2 [Il rz.cls,Il rz.since]) m'):Wc prog tbl 79 [.agg 13 [Il w.r.Classes,Il w.r.Good,Il w.r.Bad,Il w.r.Rest,Il w.r.Fewest,ca105,Il w.zone.First,ca107,ca108,ca109,ca110,ca111,ca112]] m Q:=by
 have y:=hS.st;obtain⟨z,_⟩:=zr1;refine w79 ?_;unfold ztt at hp;intro A c;obtain⟨d,e,s,g⟩:=y.blk c z 1;intro B h;obtain⟨t,i,j,l⟩:=e.blk h d 2;have a:=g.k j;refine⟨trivial,trivial,_,a.bk.rc rfl,trivial,trivial,_,a.bk.rc rfl,?_⟩;obtain⟨n,o,p,u,q⟩:=l.sto i [Il w.zone.First,Il w.r.Rest];refine⟨n,o,?_⟩;refine⟨_,_,q.bk.ra,?_⟩;obtain rfl:=oi hp;exact hq _ p.ext'
theorem zvJ{w:Wk}{t:Tr}{ca105 ca107 ca108 ca109 ca110 ca111 ca112 ca200 ca201:C}{m f:M}{Q:V->M->Prop}{rz:List Int}(hS:Pre f m)(ha105:Sl f ca105 w.r.Price)(ha107:Sl f ca107 w.zone.Years)(ha108:zuJ f ca108 w.kinds.k0.lead)(ha109:zuJ f ca109 w.kinds.k1.lead)(ha110:zuJ f ca110 w.kinds.k2.lead)(ha111:zuJ f ca111 w.kinds.k3.lead)(ha112:Sl f ca112 w.can)(ha200:Sl f ca200 t.Losses)(ha201:Sl f ca201 t.Premiums)(hp:ztv w t=some rz)(hq:∀m' f' c0,Grw m f m' f'->Sl f' c0 rz->Q (.c c0) m'):Wc prog tbl 55 [.agg 13 [Il w.r.Classes,Il w.r.Good,Il w.r.Bad,Il w.r.Rest,Il w.r.Fewest,ca105,Il w.zone.First,ca107,ca108,ca109,ca110,ca111,ca112],.agg 2 [ca200,ca201]] m Q:=by
 have S0:=hS.st;obtain⟨τ0,_⟩:=zr1;refine w55 ?_;unfold ztv at hp;intro m0 Qa;obtain⟨Ra,Sa,Ld,Ta⟩:=S0.blk Qa τ0 1;intro m1 Ua;obtain⟨ua,va,Va,Wa⟩:=Sa.blk Ua Ra 2;have wa:=Ta.k Va;refine⟨_,_,_,_,_,_,_,_,_,_,_,_,_,wa.bk.ra,?_⟩;obtain⟨xa,Xa,hp⟩:=zqq hp;refine zvI (w:=w) va.pre ha105 ha107 ha108 ha109 ha110 ha111 ha112 Xa fun Fd Ya=>?_;obtain⟨Za,ya⟩:=va.call Ya ua;have ab:=wa.k ya;have bb:=Wa.k ya;refine⟨_,_,rfl,?_⟩;intro Rd cb;obtain⟨db,eb,za,fb⟩:=Za.blk cb ua 3;have gb:=ab.k za;have hb:=bb.k za;obtain⟨ib,jb,kb,Aa,q⟩:=fb.sto eb [Il xa.cls,Il xa.since];have n:=gb.k Aa;have s:=hb.k Aa;refine⟨ib,jb,?_⟩;refine⟨trivial,trivial,_,n.bk.rc rfl,ha107.isSl,?_⟩;intro Gd Ed
 have hgo:∀(u:Nat) (pa:C) (Ba:Int) (z:Int) (A:Int) (B:List Int) (p:M) (i:Nat->Nat),St (Fm.of m) f f p->Lb (Fm.of m) f i p 1 m.nxt 13 [Il w.r.Classes,Il w.r.Good,Il w.r.Bad,Il w.r.Rest,Il w.r.Fewest,ca105,Il w.zone.First,ca107,ca108,ca109,ca110,ca111,ca112]->Lb (Fm.of m) f i p 2 m0.nxt 2 [ca200,ca201]->Lb (Fm.of m) f i p 3 Fd.nxt 2 [Il z,Il A]->Ow (Fm.of m) f i p 4 pa B->ztu w t u z A B Ba=some rz->Gd [.c pa,.c (Il Ba)] p:=by
  intro u
  induction u with
  | zero=>intro pa Ba z A B p i D n s q d hp; cases hp
  | succ u F=>
   intro pa Ba z A B p i D n s q d hp;refine Ed _ _ _ ?_;rw[ztu] at hp
   try rw[ha107.slLen]
   refine ifd hp (fun mb hp=>?_) fun mb hp=>?_; rotate_left
   ·obtain⟨ob,pb,Md,qb⟩:=d.freeze D;obtain rfl:=oi hp;exact hq _ ob pa pb.grw qb
   obtain⟨l,da,hp⟩:=zqq hp;obtain⟨Hd,La,qa,da⟩:=zqk da;obtain⟨_,rb⟩:=zr6 ha107 da;refine⟨Hd,La,(by first|exact qa|(rw[ha107.slLen];exact qa)),_,_,_,_,_,_,(rb _ D.sub).1,?_⟩;intro Sd sb;obtain⟨o,tb,G,ub⟩:=D.blk sb i 5;have vb:=n.k G;have wb:=s.k G;have xb:=q.k G;have d:=d.k G;obtain⟨yb,zb,I,J,Ab⟩:=ub.sto tb [Il l.Losses.Lo,Il l.Losses.Hi,Il l.Premiums.Lo,Il l.Premiums.Hi,Il l.Parcels,.bool l.Exempt];have Ca:=vb.k J;have ea:=wb.k J;have Bb:=xb.k J;have d:=d.k J;refine⟨yb,zb,?_⟩;refine⟨trivial,_,_,_,_,_,_,Ca.bk.rp (k:=0) (j:=6) rfl (by omega),_,_,_,_,_,_,Ab.bk.ra,trivial,_,ea.bk.rc rfl,?_⟩;obtain⟨Cb,fa,hp⟩:=zqq hp;obtain⟨Id,Ma,sa,fa⟩:=zqk fa;refine⟨Id,Ma,(by first|exact sa|(rw[ha200.slLen];exact sa)),_,(ha200.rdI fa I.sub),trivial,_,ea.bk.rc rfl,?_⟩;obtain⟨Db,ga,hp⟩:=zqq hp;obtain⟨Jd,Na,ta,ga⟩:=zqk ga;refine⟨Jd,Na,(by first|exact ta|(rw[ha201.slLen];exact ta)),_,(ha201.rdI ga I.sub),?_⟩;obtain⟨Nd,Eb,hp⟩:=zqq hp;refine zvz (r:=w.r) (y:=l) (losses:=Cb) (premiums:=Db) I.pre ha105 Eb fun Td Fb=>?_;obtain⟨g,N⟩:=I.call Fb o;have e:=Ca.k N;have O:=ea.k N;have h:=Bb.k N;have d:=d.k N;refine⟨_,rfl,trivial,trivial,?_⟩;refine spl hp (fun Da hp=>?_) fun Da hp=>?_
   ·refine⟨0,Da.trans rfl,Nat.le_of_ble_eq_true rfl,?_⟩;refine⟨trivial,_,e.bk.rc rfl,trivial,_,_,_,_,_,_,e.bk.rp (k:=0) (j:=6) rfl (by omega),_,_,h.bk.ra,?_⟩;obtain⟨P,Gb,hp⟩:=zqq hp;refine ha108.2 _ _ _ _ _ _ _ (Sub.refl _) g.pre ha105 Gb fun Oa Hb=>?_;obtain⟨Ib,S⟩:=g.call Hb o;have Jb:=e.k S;have Kb:=O.k S;have Mb:=h.k S;have d:=d.k S;refine⟨_,_,rfl,?_⟩;obtain⟨Nb,Ob,Pb,ha,Ea⟩:=Mb.sto Ib [Il P.cls,Il P.since];have Qb:=Jb.k ha;have Rb:=Kb.k ha;have d:=d.k ha;refine⟨Nb,Ob,?_⟩;refine⟨trivial,_,Ea.bk.rc rfl,?_⟩;obtain⟨Sb,hp⟩:=zqr hp;intro Pa Tb;obtain⟨Ub,Vb,Wb,Xb,Yb,ia,Zb⟩:=d.app' zuO Pb (a:=P.cls) (show Rp.rep (α:=Int) f _ P.cls from rfl) Sb Tb;have ac:=Qb.k ia;have bc:=Rb.k ia;have cc:=Ea.k ia;refine⟨Ub,Vb,Xb,?_⟩;refine gdi hp fun dc hp=>?_;exact F _ _ _ _ _ _ Wb Yb ac bc cc Zb hp
   refine spl hp (fun Fa hp=>?_) fun Fa hp=>?_
   ·refine⟨1,Fa.trans rfl,Nat.le_of_ble_eq_true rfl,?_⟩;refine⟨trivial,_,e.bk.rc rfl,trivial,_,_,_,_,_,_,e.bk.rp (k:=0) (j:=6) rfl (by omega),_,_,h.bk.ra,?_⟩;obtain⟨T,ec,hp⟩:=zqq hp;refine ha109.2 _ _ _ _ _ _ _ (Sub.refl _) g.pre ha105 ec fun Oa fc=>?_;obtain⟨gc,Y⟩:=g.call fc o;have hc:=e.k Y;have ic:=O.k Y;have jc:=h.k Y;have d:=d.k Y;refine⟨_,_,rfl,?_⟩;obtain⟨kc,nc,oc,ja,Ga⟩:=jc.sto gc [Il T.cls,Il T.since];have pc:=hc.k ja;have qc:=ic.k ja;have d:=d.k ja;refine⟨kc,nc,?_⟩;refine⟨trivial,_,Ga.bk.rc rfl,?_⟩;obtain⟨sc,hp⟩:=zqr hp;intro Pa tc;obtain⟨uc,vc,wc,xc,yc,ka,zc⟩:=d.app' zuO oc (a:=T.cls) (show Rp.rep (α:=Int) f _ T.cls from rfl) sc tc;have Ac:=pc.k ka;have Bc:=qc.k ka;have Cc:=Ga.k ka;refine⟨uc,vc,xc,?_⟩;refine gdi hp fun Dc hp=>?_;exact F _ _ _ _ _ _ wc yc Ac Bc Cc zc hp
   refine spl hp (fun Ha hp=>?_) fun Ha hp=>?_
   ·refine⟨2,Ha.trans rfl,Nat.le_of_ble_eq_true rfl,?_⟩;refine⟨trivial,_,e.bk.rc rfl,trivial,_,_,_,_,_,_,e.bk.rp (k:=0) (j:=6) rfl (by omega),_,_,h.bk.ra,?_⟩;obtain⟨Z,Ec,hp⟩:=zqq hp;refine ha110.2 _ _ _ _ _ _ _ (Sub.refl _) g.pre ha105 Ec fun Oa Fc=>?_;obtain⟨Gc,aa⟩:=g.call Fc o;have Hc:=e.k aa;have Ic:=O.k aa;have Jc:=h.k aa;have d:=d.k aa;refine⟨_,_,rfl,?_⟩;obtain⟨Kc,Nc,Oc,la,Ia⟩:=Jc.sto Gc [Il Z.cls,Il Z.since];have Pc:=Hc.k la;have Qc:=Ic.k la;have d:=d.k la;refine⟨Kc,Nc,?_⟩;refine⟨trivial,_,Ia.bk.rc rfl,?_⟩;obtain⟨Rc,hp⟩:=zqr hp;intro Pa Tc;obtain⟨Uc,Vc,Xc,Yc,Zc,ma,ad⟩:=d.app' zuO Oc (a:=Z.cls) (show Rp.rep (α:=Int) f _ Z.cls from rfl) Rc Tc;have bd:=Pc.k ma;have cd:=Qc.k ma;have dd:=Ia.k ma;refine⟨Uc,Vc,Yc,?_⟩;refine gdi hp fun ed hp=>?_;exact F _ _ _ _ _ _ Xc Zc bd cd dd ad hp
   refine spl hp (fun Ja hp=>?_) fun Ja hp=>?_
   ·refine⟨3,Ja.trans rfl,Nat.le_of_ble_eq_true rfl,?_⟩;refine⟨trivial,_,e.bk.rc rfl,trivial,_,_,_,_,_,_,e.bk.rp (k:=0) (j:=6) rfl (by omega),_,_,h.bk.ra,?_⟩;obtain⟨ba,fd,hp⟩:=zqq hp;refine ha111.2 _ _ _ _ _ _ _ (Sub.refl _) g.pre ha105 fd fun Oa hd=>?_;obtain⟨id,ca⟩:=g.call hd o;have jd:=e.k ca;have kd:=O.k ca;have ld:=h.k ca;have d:=d.k ca;refine⟨_,_,rfl,?_⟩;obtain⟨md,nd,od,na,Ka⟩:=ld.sto id [Il ba.cls,Il ba.since];have pd:=jd.k na;have qd:=kd.k na;have d:=d.k na;refine⟨md,nd,?_⟩;refine⟨trivial,_,Ka.bk.rc rfl,?_⟩;obtain⟨sd,hp⟩:=zqr hp;intro Pa td;obtain⟨ud,vd,wd,xd,yd,oa,zd⟩:=d.app' zuO od (a:=ba.cls) (show Rp.rep (α:=Int) f _ ba.cls from rfl) sd td;have Ad:=pd.k oa;have Bd:=qd.k oa;have Cd:=Ka.k oa;refine⟨ud,vd,xd,?_⟩;refine gdi hp fun Dd hp=>?_;exact F _ _ _ _ _ _ wd yd Ad Bd Cd zd hp
   cases hp
 exact hgo _ _ _ _ _ _ _ db kb n s q (Ow.nil _ _ _ _ _) hp
theorem zvK{w:Wk}{before:Option (Stt->Option (Bool))}{year:Int}{ca105 ca107 ca108 ca109 ca110 ca111 ca112 ca200:C}{m f:M}{Q:V->M->Prop}{rz:Option (Stt->Option (Bool))}(hS:Pre f m)(ha105:Sl f ca105 w.r.Price)(_ha107:Sl f ca107 w.zone.Years)(ha108:zuJ f ca108 w.kinds.k0.lead)(ha109:zuJ f ca109 w.kinds.k1.lead)(ha110:zuJ f ca110 w.kinds.k2.lead)(ha111:zuJ f ca111 w.kinds.k3.lead)(ha112:Sl f ca112 w.can)(ha200:Mi f ca200 before)(hp:zty w before year=some rz)(hq:∀m' f' c0,Grw m f m' f'->Mi f' c0 rz->Q (.c c0) m'):Wc prog tbl 89 [.agg 13 [Il w.r.Classes,Il w.r.Good,Il w.r.Bad,Il w.r.Rest,Il w.r.Fewest,ca105,Il w.zone.First,ca107,ca108,ca109,ca110,ca111,ca112],.c ca200,.c (Il year)] m Q:=by
 have S0:=hS.st;obtain⟨τ0,_⟩:=zr1;refine w89 ?_;unfold zty at hp;intro m0 Rb;obtain⟨Sb,Tb,Be,Ub⟩:=S0.blk Rb τ0 1;intro m1 Wb;obtain⟨Xb,Yb,Zb,ac⟩:=Mo.new (K:=Stt) (V':=Bool) Tb Wb Sb 2;have bc:=Ub.k Zb;intro m2 cc;obtain⟨dc,ec,Na,fc⟩:=Yb.blk cc Xb 3;have gc:=bc.k Na;have hc:=ac.k Na;obtain⟨O,ic,jc,Oa,kc⟩:=fc.sto ec [(.map m0.nxt)];have nc:=gc.k Oa;have oc:=hc.k Oa;refine⟨O,ic,?_⟩;obtain⟨ue,pc,tb,ub,vb⟩:=Mi.rng zuN jc ha200 dc 4;have hp:=zrd hp tb;refine⟨pc,ub,?_⟩;intro m5 qc;obtain⟨sc,tc,ua,uc⟩:=vb m5 qc;have la:=nc.k ua;have P:=kc.k ua;have S:=oc.k ua;intro R6 ve
 have hgo:∀(q:Nat) (T:Option (Stt->Option (Bool))) (ma:List Stt) (m7:M) (l:M) (s:Nat->Nat),St (Fm.of m) f l m7->Sub f l->Lb (Fm.of m) l s m7 1 m.nxt 13 [Il w.r.Classes,Il w.r.Good,Il w.r.Bad,Il w.r.Rest,Il w.r.Fewest,ca105,Il w.zone.First,ca107,ca108,ca109,ca110,ca111,ca112]->Lb (Fm.of m) l s m7 3 m1.nxt 1 [(.map m0.nxt)]->Mo (Fm.of m) l s m7 2 (.map m0.nxt) T->Ir (Fm.of m) l s m7 4 O.nxt ca200 before ma->ztx w before year q T ma=some rz->R6 [] m7:=by
  intro q
  induction q with
  | zero=>intro T ma m7 l s na d la P S va hp; cases hp
  | succ q te=>
   intro T ma m7 l s na d la P S va hp;refine ve  _ ?_;rw[ztx] at hp;obtain⟨l8,wb,xb,yb⟩:=va.next na;refine⟨l8,wb,fun vc=>?_,fun Oe Pe zb wc=>?_⟩
   ·have hp:=zrg (xb vc) hp;refine⟨_,P.bk.rc rfl,?_⟩;obtain⟨xc,Pa,yc,Ab⟩:=S.freeze na;have Ce:=va.k yc na.sub Pa (by decide);obtain rfl:=oi hp;exact hq _ xc (.map m0.nxt) Pa.grw Ab
   obtain⟨zc,h,Ac,Bc,Bb,we,Cb,sb,Qa,wa,Ra⟩:=yb _ _ _ wc;have hp:=zrh Bb hp;obtain⟨Cc,Db,hp⟩:=zqq hp;obtain rfl:Cc=Bc:=oi (Db.symm.trans Cb);generalize zc++Ac=A at hp Ra;have Dc:=la.k wa;have Ec:=P.k wa;have Fc:=S.k wa;refine⟨_,_,_,sb,?_⟩;intro Qe Gc;obtain⟨Sa,xa,oa,Hc⟩:=Qa.blk Gc s 5;have Ic:=Dc.k oa;have Jc:=Ec.k oa;have Kc:=Fc.k oa;have Nc:=Ra.k oa Qa.sub xa (by decide);obtain⟨Oc,Pc,Y,pa,Qc⟩:=Hc.sto xa [Il h.cls,Il h.since];have Ta:=Ic.k pa;have Rc:=Jc.k pa;have Tc:=Kc.k pa;have Uc:=Nc.k pa xa.sub Y (by decide);refine⟨Oc,Pc,?_⟩;refine⟨trivial,_,Ta.bk.rc rfl,?_⟩;obtain⟨Vc,ya,hp⟩:=zqq hp;obtain⟨xe,Eb,Ka,ya⟩:=zqk ya;obtain⟨_,Xc⟩:=zr8 ha112 ya;refine⟨xe,Eb,(by first|exact Ka|(rw[ha112.slLen];exact Ka)),_,_,_,_,(Xc _ (Sub.trans d Y.sub)).1,?_⟩;obtain⟨De,Yc,hp⟩:=zqq hp;refine zvE (p:=Vc) Y.pre  Yc fun Re Ee Fe Zc ad=>?_;obtain⟨za,a⟩:=Y.callG Zc Sa;have Ua:=Ta.k a;have Va:=Rc.k a;have Wa:=Qc.k a;have Xa:=Tc.k a;have Aa:=Uc.k a Y.sub za (by decide);refine⟨_,rfl,?_⟩;refine zqO (α:=Int) za ad (σ:=(Option (Stt->Option (Bool)))) 6 (fun st bb=>(False\/(False\/(False\/(False\/False))))) (fun st gG gF gT gM=>(Lb gG gF gT gM 1 m.nxt 13 [Il w.r.Classes,Il w.r.Good,Il w.r.Bad,Il w.r.Rest,Il w.r.Fewest,ca105,Il w.zone.First,ca107,ca108,ca109,ca110,ca111,ca112])/\(Lb gG gF gT gM 3 m1.nxt 1 [(.map m0.nxt)])/\(Lb gG gF gT gM 5 zb.nxt 2 [Il h.cls,Il h.since])/\(Mo gG gF gT gM 2 (.map m0.nxt) st)/\(Ir gG gF gT gM 4 O.nxt ca200 before A)) (fun rr_ st=>ztw w h A (ztx w before year q) rr_ st=some rz) (fun ex st=>False) (fun st=>(Gud.and (Gud.lb Ua.bk.lt (by decide)) (Gud.and (Gud.lb Va.bk.lt (by decide)) (Gud.and (Gud.lb Wa.bk.lt (by decide)) (Gud.and (Gud.mo Xa.lt (by decide)) (Gud.ir Aa.lt (Ir.ltb Aa za.sub) (by decide))))))) (st0:=(T)) (τ:=Sa) ⟨Ua,Va,Wa,Xa,Aa⟩ hp ?_ ?_ ?_ ?_
   ·intro bd cd Z aa i La ba Ge ye ze Ae Ya n hA Fb hp Gb ca;obtain⟨t,u,B,y,z⟩:=hA
    replace t:Lb ba aa i La 1 m.nxt 13 [Il w.r.Classes,Il w.r.Good,Il w.r.Bad,Il w.r.Rest,Il w.r.Fewest,ca105,Il w.zone.First,ca107,ca108,ca109,ca110,ca111,ca112]:=t
    replace u:Lb ba aa i La 3 m1.nxt 1 [(.map m0.nxt)]:=u
    replace B:Lb ba aa i La 5 zb.nxt 2 [Il h.cls,Il h.since]:=B
    replace y:Mo ba aa i La 2 (.map m0.nxt) Z:=y
    replace z:Ir ba aa i La 4 O.nxt ca200 before A:=z
    replace hp:ztw w h A (ztx w before year q) (bd::cd) Z=some rz:=hp
    rw[ztw] at hp;refine⟨_,rfl,?_⟩;refine Gb _ _ _ _ Ya Fb fun Se He e da ea fa=>?_;have g:=t.k da;have ga:=u.k da;have o:=B.k da;have qa:=y.k da;have sa:=z.k da Ya.sub e (by decide);refine⟨_,ga.bk.rc rfl,trivial,trivial,?_⟩;refine spl hp (fun Za hp=>?_) fun Za hp=>?_
    ·refine⟨0,Za.trans rfl,Nat.le_of_ble_eq_true rfl,?_⟩;refine⟨trivial,_,g.bk.rc rfl,trivial,_,_,_,_,_,_,g.bk.rp (k:=0) (j:=6) rfl (by omega),_,_,o.bk.ra,?_⟩;obtain⟨Ba,dd,hp⟩:=zqq hp;refine(ha108.sub (Sub.trans (Sub.trans d a.fs) n)).2 _ _ _ _ _ _ _ (Sub.refl _) e.pre (ha105.sub (Sub.trans (Sub.trans d a.fs) n)) dd fun Hb ed=>?_;obtain⟨Ca,D⟩:=e.call ed i;have fd:=g.k D;have ab:=ga.k D;have hd:=o.k D;have cb:=qa.k D;have Ib:=ea.k D;have jd:=sa.k D e.sub Ca (by decide);refine⟨_,_,rfl,(by rw[show cmC _=true from zoV (cb.mi.noFn)]; exact(ab.bk.rc rfl)),?_⟩;obtain⟨kd,hp⟩:=zqr hp;obtain⟨ld,md,hp⟩:=zqq hp;obtain⟨nd,od,db,ha,pd⟩:=Mo.up zuM Ca cb (k:=Ba) kd (v:=true) md (kv:=.agg 2 [Il Ba.cls,Il Ba.since]) (yv:=.c (.bool true)) rfl rfl;have qd:=fd.k ha;have sd:=ab.k ha;have td:=hd.k ha;have Jb:=Ib.k ha;have ud:=jd.k ha Ca.sub db (by decide);refine⟨nd,od,?_⟩;exact ca .nrm (ld) _ _ _ _ db ⟨qd,sd,td,pd,ud⟩ Jb fa hp
    refine spl hp (fun eb hp=>?_) fun eb hp=>?_
    ·refine⟨1,eb.trans rfl,Nat.le_of_ble_eq_true rfl,?_⟩;refine⟨trivial,_,g.bk.rc rfl,trivial,_,_,_,_,_,_,g.bk.rp (k:=0) (j:=6) rfl (by omega),_,_,o.bk.ra,?_⟩;obtain⟨Da,vd,hp⟩:=zqq hp;refine(ha109.sub (Sub.trans (Sub.trans d a.fs) n)).2 _ _ _ _ _ _ _ (Sub.refl _) e.pre (ha105.sub (Sub.trans (Sub.trans d a.fs) n)) vd fun Hb wd=>?_;obtain⟨Ea,F⟩:=e.call wd i;have xd:=g.k F;have fb:=ga.k F;have yd:=o.k F;have gb:=qa.k F;have Kb:=ea.k F;have zd:=sa.k F e.sub Ea (by decide);refine⟨_,_,rfl,(by rw[show cmC _=true from zoV (gb.mi.noFn)]; exact(fb.bk.rc rfl)),?_⟩;obtain⟨Ad,hp⟩:=zqr hp;obtain⟨Bd,Cd,hp⟩:=zqq hp;obtain⟨Dd,Ed,hb,ia,Fd⟩:=Mo.up zuM Ea gb (k:=Da) Ad (v:=true) Cd (kv:=.agg 2 [Il Da.cls,Il Da.since]) (yv:=.c (.bool true)) rfl rfl;have Gd:=xd.k ia;have Hd:=fb.k ia;have Id:=yd.k ia;have Mb:=Kb.k ia;have Jd:=zd.k ia Ea.sub hb (by decide);refine⟨Dd,Ed,?_⟩;exact ca .nrm (Bd) _ _ _ _ hb ⟨Gd,Hd,Id,Fd,Jd⟩ Mb fa hp
    refine spl hp (fun ib hp=>?_) fun ib hp=>?_
    ·refine⟨2,ib.trans rfl,Nat.le_of_ble_eq_true rfl,?_⟩;refine⟨trivial,_,g.bk.rc rfl,trivial,_,_,_,_,_,_,g.bk.rp (k:=0) (j:=6) rfl (by omega),_,_,o.bk.ra,?_⟩;obtain⟨Fa,Ld,hp⟩:=zqq hp;refine(ha110.sub (Sub.trans (Sub.trans d a.fs) n)).2 _ _ _ _ _ _ _ (Sub.refl _) e.pre (ha105.sub (Sub.trans (Sub.trans d a.fs) n)) Ld fun Hb Md=>?_;obtain⟨Ga,G⟩:=e.call Md i;have Nd:=g.k G;have jb:=ga.k G;have Od:=o.k G;have kb:=qa.k G;have Nb:=ea.k G;have Pd:=sa.k G e.sub Ga (by decide);refine⟨_,_,rfl,(by rw[show cmC _=true from zoV (kb.mi.noFn)]; exact(jb.bk.rc rfl)),?_⟩;obtain⟨Qd,hp⟩:=zqr hp;obtain⟨Rd,Sd,hp⟩:=zqq hp;obtain⟨Td,Ud,mb,ja,Vd⟩:=Mo.up zuM Ga kb (k:=Fa) Qd (v:=true) Sd (kv:=.agg 2 [Il Fa.cls,Il Fa.since]) (yv:=.c (.bool true)) rfl rfl;have Wd:=Nd.k ja;have Xd:=jb.k ja;have Yd:=Od.k ja;have Ob:=Nb.k ja;have Zd:=Pd.k ja Ga.sub mb (by decide);refine⟨Td,Ud,?_⟩;exact ca .nrm (Rd) _ _ _ _ mb ⟨Wd,Xd,Yd,Vd,Zd⟩ Ob fa hp
    refine spl hp (fun ob hp=>?_) fun ob hp=>?_
    ·refine⟨3,ob.trans rfl,Nat.le_of_ble_eq_true rfl,?_⟩;refine⟨trivial,_,g.bk.rc rfl,trivial,_,_,_,_,_,_,g.bk.rp (k:=0) (j:=6) rfl (by omega),_,_,o.bk.ra,?_⟩;obtain⟨Ha,ae,hp⟩:=zqq hp;refine(ha111.sub (Sub.trans (Sub.trans d a.fs) n)).2 _ _ _ _ _ _ _ (Sub.refl _) e.pre (ha105.sub (Sub.trans (Sub.trans d a.fs) n)) ae fun Hb be=>?_;obtain⟨Ia,I⟩:=e.call be i;have ce:=g.k I;have pb:=ga.k I;have de:=o.k I;have qb:=qa.k I;have Pb:=ea.k I;have ee:=sa.k I e.sub Ia (by decide);refine⟨_,_,rfl,(by rw[show cmC _=true from zoV (qb.mi.noFn)]; exact(pb.bk.rc rfl)),?_⟩;obtain⟨fe,hp⟩:=zqr hp;obtain⟨ge,he,hp⟩:=zqq hp;obtain⟨ie,je,rb,ka,ke⟩:=Mo.up zuM Ia qb (k:=Ha) fe (v:=true) he (kv:=.agg 2 [Il Ha.cls,Il Ha.since]) (yv:=.c (.bool true)) rfl rfl;have me:=ce.k ka;have oe:=pb.k ka;have pe:=de.k ka;have Qb:=Pb.k ka;have qe:=ee.k ka Ia.sub rb (by decide);refine⟨ie,je,?_⟩;exact ca .nrm (ge) _ _ _ _ rb ⟨me,oe,pe,ke,qe⟩ Qb fa hp
    cases hp
   ·intro Z J N Ma re se hA hp
    replace hp:ztw w h A (ztx w before year q) [] Z=some rz:=hp
    obtain⟨t,u,B,y,z⟩:=hA
    replace t:Lb (Fm.of m) J N Ma 1 m.nxt 13 [Il w.r.Classes,Il w.r.Good,Il w.r.Bad,Il w.r.Rest,Il w.r.Fewest,ca105,Il w.zone.First,ca107,ca108,ca109,ca110,ca111,ca112]:=t
    replace u:Lb (Fm.of m) J N Ma 3 m1.nxt 1 [(.map m0.nxt)]:=u
    replace B:Lb (Fm.of m) J N Ma 5 zb.nxt 2 [Il h.cls,Il h.since]:=B
    replace y:Mo (Fm.of m) J N Ma 2 (.map m0.nxt) Z:=y
    replace z:Ir (Fm.of m) J N Ma 4 O.nxt ca200 before A:=z
    rw[ztw] at hp;exact te _ _ _ J N re (Sub.trans (Sub.trans d a.fs) se) t u y z hp
   ·intro id st _ _ _ _ _ _ hn; first | exact hn.elim | (cases hn)
   ·intro st _ _ _ _ _ _ hn; first | exact hn.elim | (cases hn)
 exact hgo _ _ _ _ f sc tc (Sub.refl _) la P S uc hp
theorem zvL{w:Wk}{years:Int}{ca105 ca107 ca108 ca109 ca110 ca111 ca112:C}{m f:M}{Q:V->M->Prop}{rz:Option (Stt->Option (Bool))}(hS:Pre f m)(ha105:Sl f ca105 w.r.Price)(ha107:Sl f ca107 w.zone.Years)(ha108:zuJ f ca108 w.kinds.k0.lead)(ha109:zuJ f ca109 w.kinds.k1.lead)(ha110:zuJ f ca110 w.kinds.k2.lead)(ha111:zuJ f ca111 w.kinds.k3.lead)(ha112:Sl f ca112 w.can)(hp:ztA w years=some rz)(hq:∀m' f' c0,Grw m f m' f'->Mi f' c0 rz->Q (.c c0) m'):Wc prog tbl 62 [.agg 13 [Il w.r.Classes,Il w.r.Good,Il w.r.Bad,Il w.r.Rest,Il w.r.Fewest,ca105,Il w.zone.First,ca107,ca108,ca109,ca110,ca111,ca112],.c (Il years)] m Q:=by
 have S0:=hS.st;obtain⟨τ0,_⟩:=zr1;refine w62 ?_;unfold ztA at hp;intro m0 F;obtain⟨G,I,wa,J⟩:=S0.blk F τ0 1;intro m1 N;obtain⟨t,u,O,P⟩:=Mo.new (K:=Stt) (V':=Bool) I N G 2;have y:=J.k O;refine⟨_,_,_,_,_,_,_,_,_,_,_,_,_,y.bk.ra,?_⟩;obtain⟨n,S,hp⟩:=zqq hp;refine zvI (w:=w) u.pre ha105 ha107 ha108 ha109 ha110 ha111 ha112 S fun Ca T=>?_;obtain⟨Y,z⟩:=u.call T t;have Z:=y.k z;have aa:=P.k z;refine⟨_,_,rfl,?_⟩;obtain⟨ba,hp⟩:=zqr hp;obtain⟨xa,ca,hp⟩:=zqq hp;obtain⟨da,ea,fa,ga,ha⟩:=Mo.up zuM Y aa (k:=n) ba (v:=true) ca (kv:=.agg 2 [Il n.cls,Il n.since]) (yv:=.c (.bool true)) rfl rfl;have ia:=Z.k ga;refine⟨da,ea,?_⟩;obtain⟨A,ja,d,D⟩:=ha.freeze fa;have g:=ia.k d;intro va ua
 have hgo:∀(j:Nat) (p:C) (q:Int) (h:Option (Stt->Option (Bool))) (s:M) (e:M) (i:Nat->Nat),St (Fm.of m) f e s->Sub A e->Lb (Fm.of m) e i s 1 m.nxt 13 [Il w.r.Classes,Il w.r.Good,Il w.r.Bad,Il w.r.Rest,Il w.r.Fewest,ca105,Il w.zone.First,ca107,ca108,ca109,ca110,ca111,ca112]->Mi e p h->ztz w years j h q=some rz->va [.c p,.c (Il q)] s:=by
  intro j
  induction j with
  | zero=>intro p q h s e i l a g o hp; cases hp
  | succ j ka=>
   intro p q h s e i l a g o hp;refine ua _ _ _ ?_;rw[ztz] at hp;refine ifd hp (fun la hp=>?_) fun la hp=>?_; rotate_left
   ·obtain rfl:=oi hp;exact hq _ e p l.grw o
   refine⟨_,_,_,_,_,_,_,_,_,_,_,_,_,g.bk.ra,?_⟩;obtain⟨ya,ma,hp⟩:=zqq hp;refine zvK (w:=w) (before:=h) (year:=q) l.pre (ha105.sub (Sub.trans d.fs a)) (ha107.sub (Sub.trans d.fs a)) (ha108.sub (Sub.trans d.fs a)) (ha109.sub (Sub.trans d.fs a)) (ha110.sub (Sub.trans d.fs a)) (ha111.sub (Sub.trans d.fs a)) (ha112.sub (Sub.trans d.fs a)) o ma fun Da na za oa pa=>?_;obtain⟨qa,B⟩:=l.callG oa i;have sa:=g.k B;refine⟨_,rfl,?_⟩;refine gdi hp fun ta hp=>?_;exact ka _ _ _ _ na i qa (Sub.trans a B.fs) sa pa hp
 exact hgo _ _ _ _ _ A t ja (Sub.refl _) g D hp
theorem zvM{w:Wk}{year:Int}{ca105 ca107 ca108 ca109 ca110 ca111 ca112:C}{m f:M}{Q:V->M->Prop}{rz:Int}(hS:Pre f m)(ha105:Sl f ca105 w.r.Price)(ha107:Sl f ca107 w.zone.Years)(ha108:zuJ f ca108 w.kinds.k0.lead)(ha109:zuJ f ca109 w.kinds.k1.lead)(ha110:zuJ f ca110 w.kinds.k2.lead)(ha111:zuJ f ca111 w.kinds.k3.lead)(ha112:Sl f ca112 w.can)(hp:ztC w year=some rz)(hq:∀m',Ext m m'->Q (.c (Il rz)) m'):Wc prog tbl 65 [.agg 13 [Il w.r.Classes,Il w.r.Good,Il w.r.Bad,Il w.r.Rest,Il w.r.Fewest,ca105,Il w.zone.First,ca107,ca108,ca109,ca110,ca111,ca112],.c (Il year)] m Q:=by
 have S0:=hS.st;obtain⟨τ0,_⟩:=zr1;refine w65 ?_;unfold ztC at hp;intro m0 Ya;obtain⟨la,ma,Qc,na⟩:=S0.blk Ya τ0 1;refine⟨_,_,_,_,_,_,_,_,_,_,_,_,_,na.bk.ra,?_⟩;obtain⟨oa,Za,hp⟩:=zqq hp;refine zvL (w:=w) (years:=year) ma.pre ha105 ha107 ha108 ha109 ha110 ha111 ha112 Za fun Gc pa ab bb cb=>?_;obtain⟨db,g⟩:=ma.callG bb la;have eb:=na.k g;refine⟨_,rfl,?_⟩;obtain⟨Hc,fb,Ja,Ka,La⟩:=Mi.rng zuN db cb la 2;have hp:=zrd hp Ja;refine⟨fb,Ka,?_⟩;intro Ic gb;obtain⟨hb,ib,jb,kb⟩:=La Ic gb;have t:=eb.k jb;intro Jc Fc
 have hgo:∀(u:Nat) (qa:Bool) (sa:Bool) (y:List Stt) (N:M) (j:M) (p:Nat->Nat),St (Fm.of m) f j N->Sub pa j->Lb (Fm.of m) j p N 1 m.nxt 13 [Il w.r.Classes,Il w.r.Good,Il w.r.Bad,Il w.r.Rest,Il w.r.Fewest,ca105,Il w.zone.First,ca107,ca108,ca109,ca110,ca111,ca112]->Ir (Fm.of m) j p N 2 Gc.nxt ab oa y->ztB w year oa u qa sa y=some rz->Jc [.c (.bool qa),.c (.bool sa)] N:=by
  intro u
  induction u with
  | zero=>intro qa sa y N j p q e t ta hp; cases hp
  | succ u z=>
   intro qa sa y N j p q e t ta hp;refine Fc _ _ _ ?_;rw[ztB] at hp;obtain⟨Kc,Ma,Na,Oa⟩:=ta.next q;refine⟨Kc,Ma,fun mb=>?_,fun bd cd dd ob=>?_⟩
   ·have hp:=zrg (Na mb) hp;refine zqV hp (fun pb hp=>?_) fun pb hp=>?_
    ·obtain rfl:=oi hp;exact hq _ q.ext'
    refine zqV hp (fun qb hp=>?_) fun qb hp=>?_
    ·obtain rfl:=oi hp;exact hq _ q.ext'
    obtain rfl:=oi hp;exact hq _ q.ext'
   obtain⟨rb,n,sb,tb,Pa,Nc,Qa,Ia,ua,ub,va⟩:=Oa _ _ _ ob;have hp:=zrh Pa hp;obtain⟨vb,Ra,hp⟩:=zqq hp;obtain rfl:vb=tb:=oi (Ra.symm.trans Qa);generalize rb++sb=Rc at hp va;have wb:=t.k ub;refine⟨_,_,_,Ia,?_⟩;intro ed xb;obtain⟨yb,O,wa,zb⟩:=ua.blk xb p 3;have Ab:=wb.k wa;have Bb:=va.k wa ua.sub O (by decide);obtain⟨Cb,Db,P,xa,Eb⟩:=zb.sto O [Il n.cls,Il n.since];have Fb:=Ab.k xa;have Gb:=Bb.k xa O.sub P (by decide);refine⟨Cb,Db,?_⟩;intro fd Hb;obtain⟨Ib,S,T,Sa⟩:=P.growK Hb yb 4;have ya:=Fb.k T;have za:=Eb.k T;have Jb:=Gb.k T P.sub S (by decide);have Kb:=Sa 0 (by decide);refine⟨_,_,_,_,_,_,_,_,_,_,_,_,_,ya.bk.ra,?_⟩;intro hd Mb;obtain⟨i,Y,A,Nb⟩:=Mo.new (K:=Stt) (V':=Bool) S Mb Ib 5;have Aa:=ya.k A;have Ba:=za.k A;have Ob:=Kb.k A;have Pb:=Jb.k A S.sub Y (by decide);refine⟨(by rw[show zaL cmC _=true from (zru (zoV rfl) (zru (zoV rfl) (zru (zoV rfl) (zru (zoV rfl) (zru (zoV rfl) (zru (zoV ha105.noFn) (zru (zoV rfl) (zru (zoV ha107.noFn) (zru (zrs ha108.1) (zru (zrs ha109.1) (zru (zrs ha110.1) (zru (zrs ha111.1) (zru (zoV ha112.noFn) zrt)))))))))))))]; exact(Aa.bk.ra)),_,_,Ba.bk.ra,(za.bk.ra),?_⟩;obtain⟨Qb,hp⟩:=zqr hp;obtain⟨Rb,Sb,hp⟩:=zqq hp;obtain⟨Tb,Ub,Z,B,Vb⟩:=Mo.up zuM Y Nb (k:=n) Qb (v:=true) Sb (kv:=.agg 2 [Il n.cls,Il n.since]) (yv:=.c (.bool true)) rfl rfl;have Ca:=Aa.k B;have Wb:=Ba.k B;have Xb:=Ob.k B;have Yb:=Pb.k B Y.sub Z (by decide);refine⟨Tb,Ub,?_⟩;refine⟨(by rw[show zaL cmC _=true from (zru (zoV rfl) (zru (zoV rfl) (zru (zoV rfl) (zru (zoV rfl) (zru (zoV rfl) (zru (zoV ha105.noFn) (zru (zoV rfl) (zru (zoV ha107.noFn) (zru (zrs ha108.1) (zru (zrs ha109.1) (zru (zrs ha110.1) (zru (zrs ha111.1) (zru (zoV ha112.noFn) zrt)))))))))))))]; exact(Ca.bk.ra)),?_⟩
   obtain⟨Tc,D,d,Ta⟩:=Vb.freeze Z;have Zb:=Ca.k d;have ac:=Wb.k d;have bc:=Xb.k d;have cc:=Yb.k d Z.sub D (by decide);obtain⟨dc,ec,hp⟩:=zqq hp;refine zvK (w:=w) (before:=Rb) (year:=year) D.pre (ha105.sub (Sub.trans (Sub.trans g.fs e) d.fs)) (ha107.sub (Sub.trans (Sub.trans g.fs e) d.fs)) (ha108.sub (Sub.trans (Sub.trans g.fs e) d.fs)) (ha109.sub (Sub.trans (Sub.trans g.fs e) d.fs)) (ha110.sub (Sub.trans (Sub.trans g.fs e) d.fs)) (ha111.sub (Sub.trans (Sub.trans g.fs e) d.fs)) (ha112.sub (Sub.trans (Sub.trans g.fs e) d.fs)) Ta ec fun id F Uc fc gc=>?_;obtain⟨G,h⟩:=D.callG fc i;have hc:=Zb.k h;have ic:=ac.k h;have jc:=bc.k h;have kc:=cc.k h D.sub G (by decide);refine⟨_,rfl,?_⟩;obtain⟨a,nc,hp⟩:=zqq hp;refine zvH (s:=dc) G.pre gc nc fun jd oc=>?_;obtain⟨aa,I⟩:=G.call oc i;have pc:=hc.k I;have qc:=ic.k I;have sc:=jc.k I;have tc:=kc.k I G.sub aa (by decide);refine⟨_,_,_,_,_,_,rfl,?_⟩;intro kd uc;obtain⟨ba,ca,vc⟩:=sc.set aa uc;have Da:=pc.k ca;have Ea:=qc.k ca;have wc:=tc.k ca aa.sub ba (by decide);refine⟨(Ea.bk.ra),(by rw[show zaL cmC _=true from (zru (zoV rfl) (zru (zoV rfl) (zru (zoV rfl) (zru (zoV rfl) (zru (zoV rfl) (zru (zoV ha105.noFn) (zru (zoV rfl) (zru (zoV ha107.noFn) (zru (zrs ha108.1) (zru (zrs ha109.1) (zru (zrs ha110.1) (zru (zrs ha111.1) (zru (zoV ha112.noFn) zrt)))))))))))))]; exact(Da.bk.ra)),?_⟩;obtain⟨xc,yc,o,da,ea⟩:=vc.sto ba [.bool a.c0,.bool a.c1,.bool a.c2,.bool a.c3,.bool a.c4,.bool a.c5]
   have fa:=Da.k da;have ga:=Ea.k da;have ha:=wc.k da ba.sub o (by decide);refine⟨xc,yc,?_⟩;refine zqU hp (fun zc hp=>?_) fun zc hp=>?_
   ·refine zqU hp (fun Ac hp=>?_) fun Ac hp=>?_
    ·exact z _ _ _ _ F i o (Sub.trans (Sub.trans e d.fs) h.fs) fa ha hp
    refine⟨trivial,_,ga.bk.rc rfl,trivial,?_⟩;obtain⟨Vc,ia,hp⟩:=zqq hp;obtain⟨Oc,Ua,Va,ia⟩:=zqk ia;refine⟨Oc,Ua,Va,_,(ea.bk.rc (zqP (l:=([a.c0,a.c1,a.c2,a.c3,a.c4,a.c5]:List Bool)) (enc:=C.bool) 0 rfl ia)),?_⟩;exact z _ _ _ _ F i o (Sub.trans (Sub.trans e d.fs) h.fs) fa ha hp
   refine⟨_,_,_,_,_,_,ea.bk.ra,trivial,_,ga.bk.rc rfl,?_⟩;obtain⟨Xc,Bc,hp⟩:=zqq hp;refine zvB (class_:=n.cls) o.pre  Bc fun ld Cc=>?_;obtain⟨ja,J⟩:=o.call Cc i;have Fa:=fa.k J;have Dc:=ga.k J;have Ga:=ea.k J;have Ha:=ha.k J o.sub ja (by decide);refine⟨_,_,_,_,_,_,rfl,(Ga.bk.ra),?_⟩;refine zqU hp (fun Ec hp=>?_) fun Ec hp=>?_
   ·exact z _ _ _ _ F i ja (Sub.trans (Sub.trans e d.fs) h.fs) Fa Ha hp
   refine⟨trivial,_,Dc.bk.rc rfl,trivial,?_⟩;obtain⟨Yc,ka,hp⟩:=zqq hp;obtain⟨Pc,Wa,Xa,ka⟩:=zqk ka;refine⟨Pc,Wa,Xa,_,(Ga.bk.rc (zqP (l:=([a.c0,a.c1,a.c2,a.c3,a.c4,a.c5]:List Bool)) (enc:=C.bool) 0 rfl ka)),?_⟩;exact z _ _ _ _ F i ja (Sub.trans (Sub.trans e d.fs) h.fs) Fa Ha hp
 exact hgo _ _ _ _ _ pa hb ib (Sub.refl _) t kb hp
theorem zvN{w:Wk}{ca105 ca107 ca108 ca109 ca110 ca111 ca112:C}{m f:M}{Q:V->M->Prop}{rz:C6}(hS:Pre f m)(ha105:Sl f ca105 w.r.Price)(ha107:Sl f ca107 w.zone.Years)(ha108:zuJ f ca108 w.kinds.k0.lead)(ha109:zuJ f ca109 w.kinds.k1.lead)(ha110:zuJ f ca110 w.kinds.k2.lead)(ha111:zuJ f ca111 w.kinds.k3.lead)(ha112:Sl f ca112 w.can)(hp:ztD w=some rz)(hq:∀m',Ext m m'->Q (.agg 6 [.bool rz.c0,.bool rz.c1,.bool rz.c2,.bool rz.c3,.bool rz.c4,.bool rz.c5]) m'):Wc prog tbl 91 [.agg 13 [Il w.r.Classes,Il w.r.Good,Il w.r.Bad,Il w.r.Rest,Il w.r.Fewest,ca105,Il w.zone.First,ca107,ca108,ca109,ca110,ca111,ca112]] m Q:=by
 have S0:=hS.st;obtain⟨τ0,_⟩:=zr1;refine w91 ?_;unfold ztD at hp;intro m0 h;obtain⟨i,j,S,l⟩:=S0.blk h τ0 1;intro m1 n;obtain⟨c,d,o,p⟩:=j.blk n i 2;have e:=l.k o;refine⟨_,_,_,_,_,_,_,_,_,_,_,_,_,e.bk.ra,trivial,_,e.bk.rc rfl,ha112.isSl,?_⟩
 try rw[ha112.slLen]
 obtain⟨q,t,hp⟩:=zqq hp;refine zvL (w:=w) (years:=(w.can.length:Int)) d.pre ha105 ha107 ha108 ha109 ha110 ha111 ha112 t fun ca T Y u y=>?_;obtain⟨g,z⟩:=d.callG u c;have A:=p.k z;refine⟨_,rfl,?_⟩;obtain⟨a,B,hp⟩:=zqq hp;refine zvH (s:=q) g.pre y B fun da D=>?_;obtain⟨F,G⟩:=g.call D c;have I:=A.k G;refine⟨_,_,_,_,_,_,rfl,?_⟩;obtain⟨J,N,O,Z,P⟩:=I.sto F [.bool a.c0,.bool a.c1,.bool a.c2,.bool a.c3,.bool a.c4,.bool a.c5];refine⟨J,N,?_⟩;refine⟨_,_,_,_,_,_,P.bk.ra,?_⟩;obtain rfl:=oi hp;exact hq _ O.ext'
theorem zvO{w:Wk}{ca105 ca107 ca108 ca109 ca110 ca111 ca112:C}{m f:M}{Q:V->M->Prop}{rz:List Int}(hS:Pre f m)(ha105:Sl f ca105 w.r.Price)(ha107:Sl f ca107 w.zone.Years)(ha108:zuJ f ca108 w.kinds.k0.lead)(ha109:zuJ f ca109 w.kinds.k1.lead)(ha110:zuJ f ca110 w.kinds.k2.lead)(ha111:zuJ f ca111 w.kinds.k3.lead)(ha112:Sl f ca112 w.can)(hp:ztF w=some rz)(hq:∀m' f' c0,Grw m f m' f'->Sl f' c0 rz->Q (.c c0) m'):Wc prog tbl 67 [.agg 13 [Il w.r.Classes,Il w.r.Good,Il w.r.Bad,Il w.r.Rest,Il w.r.Fewest,ca105,Il w.zone.First,ca107,ca108,ca109,ca110,ca111,ca112]] m Q:=by
 have S0:=hS.st;obtain⟨τ0,_⟩:=zr1;refine w67 ?_;unfold ztF at hp;intro m0 N;obtain⟨o,z,ya,A⟩:=S0.blk N τ0 1;refine⟨_,_,_,_,_,_,_,_,_,_,_,_,_,A.bk.ra,?_⟩;obtain⟨O,P,hp⟩:=zqq hp;refine zvN (w:=w) z.pre ha105 ha107 ha108 ha109 ha110 ha111 ha112 P fun Ea S=>?_;obtain⟨B,T⟩:=z.call S o;have Y:=A.k T;refine⟨_,_,_,_,_,_,rfl,?_⟩;obtain⟨Z,aa,hp⟩:=zqq hp;refine zvC (c:=O) B.pre  aa fun Fa g za ba h=>?_;obtain⟨ca,D⟩:=B.callG ba o;have d:=Y.k D;refine⟨_,rfl,h.isSl,?_⟩;intro va ua
 have hgo:∀(i:Nat) (t:C) (F:Int) (j:List Int) (n:M) (l:Nat->Nat),St (Fm.of m) f g n->Lb (Fm.of m) g l n 1 m.nxt 13 [Il w.r.Classes,Il w.r.Good,Il w.r.Bad,Il w.r.Rest,Il w.r.Fewest,ca105,Il w.zone.First,ca107,ca108,ca109,ca110,ca111,ca112]->Ow (Fm.of m) g l n 2 t j->ztE w Z i j F=some rz->va [.c t,.c (Il F)] n:=by
  intro i
  induction i with
  | zero=>intro t F j n l e d p hp; cases hp
  | succ i da=>
   intro t F j n l e d p hp;refine ua _ _ _ ?_;rw[ztE] at hp
   try rw[h.slLen]
   refine ifd hp (fun ea hp=>?_) fun ea hp=>?_; rotate_left
   ·obtain⟨fa,ga,Aa,ha⟩:=p.freeze e;obtain rfl:=oi hp;exact hq _ fa t ga.grw ha
   obtain⟨Ba,q,hp⟩:=zqq hp;obtain⟨wa,I,u,q⟩:=zqk q;refine⟨wa,I,(by first|exact u|(rw[h.slLen];exact u)),_,(h.rdI q e.sub),trivial,trivial,_,d.bk.rc rfl,?_⟩;obtain⟨G,s,hp⟩:=zqq hp;obtain⟨xa,J,y,s⟩:=zqk s;refine⟨xa,J,(by first|exact y|(rw[ha105.slLen];exact y)),_,(ha105.rdI s (Sub.trans D.fs e.sub)),?_⟩;obtain⟨ia,hp⟩:=zqr hp;intro Ga ja;obtain⟨ka,la,ma,na,oa,pa,qa⟩:=p.app' zuO e (a:=G) (show Rp.rep (α:=Int) g _ G from rfl) ia ja;have sa:=d.k pa;refine⟨ka,la,na,?_⟩;refine gdi hp fun ta hp=>?_;exact da _ _ _ _ ma oa sa qa hp
 exact hgo _ _ _ _ _ o ca d (Ow.nil _ _ _ _ _) hp
theorem zvP{w:Wk}{ca105 ca107 ca108 ca109 ca110 ca111 ca112:C}{m f:M}{Q:V->M->Prop}{rz:List Int}(hS:Pre f m)(_ha105:Sl f ca105 w.r.Price)(_ha107:Sl f ca107 w.zone.Years)(_ha108:zuJ f ca108 w.kinds.k0.lead)(_ha109:zuJ f ca109 w.kinds.k1.lead)(_ha110:zuJ f ca110 w.kinds.k2.lead)(_ha111:zuJ f ca111 w.kinds.k3.lead)(ha112:Sl f ca112 w.can)(hp:ztH w=some rz)(hq:∀m' f' c0,Grw m f m' f'->Sl f' c0 rz->Q (.c c0) m'):Wc prog tbl 70 [.agg 13 [Il w.r.Classes,Il w.r.Good,Il w.r.Bad,Il w.r.Rest,Il w.r.Fewest,ca105,Il w.zone.First,ca107,ca108,ca109,ca110,ca111,ca112]] m Q:=by
 have S0:=hS.st;obtain⟨τ0,_⟩:=zr1;refine w70 ?_;unfold ztH at hp;intro m0 Y;obtain⟨Z,aa,Ka,g⟩:=S0.blk Y τ0 1;refine⟨trivial,_,g.bk.rc rfl,ha112.isSl,?_⟩;intro R2 Ja
 have hgo:∀(l:Nat) (P:C) (N:Int) (n:List Int) (O:M) (e:M) (h:Nat->Nat),St (Fm.of m) f e O->Sub f e->Lb (Fm.of m) e h O 1 m.nxt 13 [Il w.r.Classes,Il w.r.Good,Il w.r.Bad,Il w.r.Rest,Il w.r.Fewest,ca105,Il w.zone.First,ca107,ca108,ca109,ca110,ca111,ca112]->Ow (Fm.of m) e h O 2 P n->ztG w l n N=some rz->R2 [.c P,.c (Il N)] O:=by
  intro l
  induction l with
  | zero=>intro P N n O e h o i g d hp; cases hp
  | succ l S=>
   intro P N n O e h o i g d hp;refine Ja _ _ _ ?_;rw[ztG] at hp
   try rw[ha112.slLen]
   refine ifd hp (fun ba hp=>?_) fun ba hp=>?_; rotate_left
   ·obtain⟨ca,da,La,ea⟩:=d.freeze o;obtain rfl:=oi hp;exact hq _ ca P da.grw ea
   obtain⟨j,t,hp⟩:=zqq hp;obtain⟨n6,T,z,t⟩:=zqk t;obtain⟨_,fa⟩:=zr8 ha112 t;refine⟨n6,T,(by first|exact z|(rw[ha112.slLen];exact z)),_,_,_,_,(fa _ (Sub.trans i o.sub)).1,?_⟩;intro Ua ga;obtain⟨u,ha,A,ia⟩:=o.blk ga h 3;have ja:=g.k A;have d:=d.k A;obtain⟨ka,la,B,D,ma⟩:=ia.sto ha [.bool j.p0,.bool j.p1,.bool j.p2,.bool j.p3];have na:=ja.k D;have d:=d.k D;refine⟨ka,la,?_⟩;refine⟨_,_,_,_,ma.bk.ra,?_⟩;obtain⟨oa,pa,hp⟩:=zqq hp;refine zvE (p:=j) B.pre  pa fun Va Ma Na qa sa=>?_;obtain⟨F,q⟩:=B.callG qa u;have ta:=na.k q;have d:=d.k q;refine⟨_,rfl,?_⟩;obtain⟨Oa,ua,hp⟩:=zqq hp;refine zvG (seq:=oa) F.pre sa ua fun Wa y Pa va G=>?_;obtain⟨I,s⟩:=F.callG va u;have J:=ta.k s;have d:=d.k s;refine⟨_,rfl,G.isSl,?_⟩
   try rw[G.slLen]
   refine ifd hp (fun wa hp=>?_) fun wa hp=>?_; rotate_left
   ·refine gdi hp fun xa hp=>?_;exact S _ _ _ _ y u I (Sub.trans (Sub.trans i q.fs) s.fs) J d hp
   obtain⟨ya,hp⟩:=zqr hp;intro Xa za;obtain⟨Aa,Ba,Ca,Da,Ea,Fa,Ga⟩:=d.app' zuO I (a:=N) (show Rp.rep (α:=Int) y _ N from rfl) ya za;have Ha:=J.k Fa;refine⟨Aa,Ba,Da,?_⟩;refine gdi hp fun Ia hp=>?_;exact S _ _ _ _ y Ca Ea (Sub.trans (Sub.trans i q.fs) s.fs) Ha Ga hp
 exact hgo _ _ _ _ _ f Z aa (Sub.refl _) g (Ow.nil _ _ _ _ _) hp
theorem zvQ{l:List P4}{ca100:C}{m f:M}{Q:V->M->Prop}{rz:List P4}(hS:Pre f m)(ha100:Sl f ca100 l)(hp:ztI l=some rz)(hq:∀m' f' c0,Grw m f m' f'->On m f' m' c0 rz->Q (.c c0) m'):Wc prog tbl 112 [.c ca100] m Q:=by
 have q:=hS.st;obtain⟨r,_⟩:=zr1;refine zuy ?_;unfold ztI at hp;refine⟨(zrq ha100),(zrq ha100),trivial,(Bool.or_true _),?_⟩
 cases d:zl9 ca100 with
 | true=>
  refine zqY ?_;obtain rfl:=zrp ha100 d;obtain⟨_,hp⟩:=zqr hp;obtain rfl:=oi hp;exact hq _ _ .sl0 q.grw (Ow.nil _ _ r _ 0).on
 | false=>
  refine zqX ?_;intro y e;obtain⟨s,g,t,h⟩:=Ow.lit0 (α:=P4) q r 1 e;obtain⟨i,hp⟩:=zqr hp;obtain⟨a,j,u,n,o,w,p⟩:=h.appL zuP g ha100 i;refine⟨a,j,n,?_⟩;obtain rfl:=oi hp;exact hq _ f a o.grw p.on
theorem zvR{w:Wk}{list:List Int}{ca105 ca107 ca108 ca109 ca110 ca111 ca112 ca200:C}{m f:M}{Q:V->M->Prop}{rz:Wk}(hS:Pre f m)(ha105:Sl f ca105 w.r.Price)(ha107:Sl f ca107 w.zone.Years)(ha108:zuJ f ca108 w.kinds.k0.lead)(ha109:zuJ f ca109 w.kinds.k1.lead)(ha110:zuJ f ca110 w.kinds.k2.lead)(ha111:zuJ f ca111 w.kinds.k3.lead)(ha112:Sl f ca112 w.can)(ha200:Sl f ca200 list)(hp:ztK w list=some rz)(hq:∀m' f' c5 c7 c8 c9 c10 c11 c12,Grw m f m' f'->Sl f' c5 rz.r.Price->Sl f' c7 rz.zone.Years->zuJ f' c8 rz.kinds.k0.lead->zuJ f' c9 rz.kinds.k1.lead->zuJ f' c10 rz.kinds.k2.lead->zuJ f' c11 rz.kinds.k3.lead->Sl f' c12 rz.can->Q (.agg 13 [Il rz.r.Classes,Il rz.r.Good,Il rz.r.Bad,Il rz.r.Rest,Il rz.r.Fewest,c5,Il rz.zone.First,c7,c8,c9,c10,c11,c12]) m'):Wc prog tbl 96 [.agg 13 [Il w.r.Classes,Il w.r.Good,Il w.r.Bad,Il w.r.Rest,Il w.r.Fewest,ca105,Il w.zone.First,ca107,ca108,ca109,ca110,ca111,ca112],.c ca200] m Q:=by
 have S0:=hS.st;obtain⟨τ0,_⟩:=zr1;refine w96 ?_;unfold ztK at hp;intro m0 va;obtain⟨wa,xa,wb,ya⟩:=S0.blk va τ0 1;intro m1 za;obtain⟨Aa,ha,Ba,Ca⟩:=xa.blk za wa 2;have ia:=ya.k Ba;refine⟨trivial,_,ia.bk.rc rfl,?_⟩;obtain⟨xb,Da,hp⟩:=zqq hp;refine zvQ (l:=w.can) ha.pre ha112 Da fun m4 I ja Ea Fa=>?_;obtain⟨Ga,Ha,d,P⟩:=ha.callO Ea Fa Aa 3;have Ia:=ia.k d;have Ja:=Ca.k d;refine⟨_,rfl,trivial,?_⟩;obtain⟨Ka,La,Ma,ka,e⟩:=Ia.sto1 Ha 12 ja (by simp) rfl
 replace e:Lb _ _ _ _ _ _ _ [Il w.r.Classes,Il w.r.Good,Il w.r.Bad,Il w.r.Rest,Il w.r.Fewest,ca105,Il w.zone.First,ca107,ca108,ca109,ca110,ca111,ja]:=e
 have D:=Ja.k ka;have P:=P.k ka;refine⟨Ka,La,?_⟩;refine⟨ha200.isSl,?_⟩;intro R7 qb
 have hgo:∀(J:Nat) (x8:Int) (n:C) (o:Int) (p:Int) (q:Int) (s:Int) (t:Int) (F:Int) (u:List P4) (m9:M) (g:Nat->Nat),St (Fm.of m) f I m9->Lb (Fm.of m) I g m9 1 m.nxt 13 [Il o,Il p,Il q,Il s,Il t,ca105,Il F,ca107,ca108,ca109,ca110,ca111,n]->Lb (Fm.of m) I g m9 2 m0.nxt 13 [Il 0,Il 0,Il 0,Il 0,Il 0,.sl0,Il 0,.sl0,C.nilFn,C.nilFn,C.nilFn,C.nilFn,.sl0]->Ow (Fm.of m) I g m9 3 n u->ztJ w list J o p q s t F u x8=some rz->R7 [.c (Il x8)] m9:=by
  intro J
  induction J with
  | zero=>intro x8 n o p q s t F u m9 g A e D a hp; cases hp
  | succ J sa=>
   intro x8 n o p q s t F u m9 g A e D a hp;refine qb _ _ ?_;rw[ztJ] at hp
   try rw[ha200.slLen]
   refine ifd hp (fun Oa hp=>?_) fun Oa hp=>?_; rotate_left
   ·refine⟨_,_,_,_,_,_,_,_,_,_,_,_,_,e.bk.ra,?_⟩;obtain⟨Pa,Qa,Ra,Sa,Ta⟩:=D.sto A [Il o,Il p,Il q,Il s,Il t,ca105,Il F,ca107,ca108,ca109,ca110,ca111,n];have a:=a.k Sa;refine⟨Pa,Qa,?_⟩;refine⟨_,_,_,_,_,_,_,_,_,_,_,_,_,Ta.bk.ra,?_⟩;obtain⟨Ua,Va,B,Wa⟩:=a.freeze Ra;obtain rfl:=oi hp;exact hq _ Ua ca105 ca107 ca108 ca109 ca110 ca111 n Va.grw (ha105.sub (Sub.trans d.fs B.fs)) (ha107.sub (Sub.trans d.fs B.fs)) (ha108.sub (Sub.trans d.fs B.fs)) (ha109.sub (Sub.trans d.fs B.fs)) (ha110.sub (Sub.trans d.fs B.fs)) (ha111.sub (Sub.trans d.fs B.fs)) Wa
   obtain⟨la,S,hp⟩:=zqq hp;obtain⟨rb,ta,ca,S⟩:=zqk S;refine⟨rb,ta,(by first|exact ca|(rw[ha200.slLen];exact ca)),_,(ha200.rdI S (Sub.trans d.fs A.sub)),trivial,_,_,_,_,_,_,e.bk.rp (k:=0) (j:=6) rfl (by omega),trivial,trivial,_,e.bk.rc rfl,?_⟩;obtain⟨Xa,T,hp⟩:=zqq hp;obtain⟨sb,ua,da,T⟩:=zqk T;obtain⟨_,Ya⟩:=zr6 ha107 T;refine⟨sb,ua,(by first|exact da|(rw[ha107.slLen];exact da)),_,_,_,_,_,_,(Ya _ (Sub.trans d.fs A.sub)).1,?_⟩;obtain⟨yb,Za,hp⟩:=zqq hp;refine zvy (r:=({ Classes:=o,Good:=p,Bad:=q,Rest:=s,Fewest:=t,Price:=w.r.Price }:Rl)) (y:=Xa) A.pre (ha105.sub d.fs) Za fun Db ab=>?_;obtain⟨Y,Z⟩:=A.call ab g;have aa:=e.k Z;have ma:=D.k Z;have a:=a.k Z;refine⟨_,rfl,?_⟩;refine zqU hp (fun bb hp=>?_) fun bb hp=>?_; rotate_left
   ·refine gdi hp fun cb hp=>?_;exact sa _ _ _ _ _ _ _ _ _ _ g Y aa ma a hp
   refine⟨trivial,_,aa.bk.rc rfl,?_⟩;obtain⟨i,db,hp⟩:=zqq hp;refine zvA Y.pre  db fun Eb eb=>?_;obtain⟨fb,ba⟩:=Y.call eb g;have na:=aa.k ba;have gb:=ma.k ba;have a:=a.k ba;refine⟨_,_,_,_,rfl,(by rw[show cmC _=true from zoV (a.noFn)]; exact(na.bk.rc rfl)),?_⟩;obtain⟨N,G,hp⟩:=zqq hp;obtain⟨oa,O,ea,G⟩:=zqk G;refine⟨oa,O,(by first|exact ea|(rw[a.slLen];exact ea)),?_⟩;obtain⟨hb,ib,jb,pa,qa⟩:=a.setP fb (a':=i) G [.bool N.p0,.bool N.p1,.bool N.p2,.bool N.p3] (fun _ h=>h) 0 [.bool i.p0,.bool i.p1,.bool i.p2,.bool i.p3] (Nat.le_of_ble_eq_true rfl) rfl
   have fa:Int.toNat la=oa:=by rw[O]; rfl
   rw[<- fa] at qa;have tb:=O;have kb:(u.set (Int.toNat la) i)[oa]? = some i:=(congrArg (fun z=>(u.set z i)[oa]?) fa).trans (List.getElem?_set_self (List.getElem?_eq_some_iff.1 G).1);have ub:=(List.getElem?_eq_some_iff.1 kb).1;have mb:=na.k pa;have ob:=gb.k pa;refine⟨hb,(by have h9:=ib; rw[a.add0 G] at h9; exact h9),?_⟩;refine gdi hp fun pb hp=>?_;exact sa _ _ _ _ _ _ _ _ _ _ g jb mb ob qa hp
 exact hgo _ _ _ _ _ _ _ _ _ _ _ Ga Ma e D P hp
theorem zvS{r:Rg}{m f:M}{Q:V->M->Prop}{rz:Int}(hS:Pre f m)(hp:ztL r=some rz)(hq:∀m',Ext m m'->Q (.c (Il rz)) m'):Wc prog tbl 116 [.agg 2 [Il r.Lo,Il r.Hi]] m Q:=by
 have l:=hS.st;obtain⟨n,_⟩:=zr1;refine zuH ?_;unfold ztL at hp;intro o d;obtain⟨i,e,j,a⟩:=l.blk d n 1;refine⟨trivial,_,a.bk.rc rfl,trivial,_,a.bk.rc rfl,?_⟩;refine gdi hp fun g hp=>?_;refine gdi hp fun h hp=>?_;obtain rfl:=oi hp;exact hq _ e.ext'
end
end Go.Proofs.Ytlpjlgmoaipoiaa

namespace Go.Proofs.Ytlpjlgmoaipoiaa
open _root_.Go.Proofs.Try
open Go.Abs
set_option maxRecDepth 100000
noncomputable section
theorem zvT(y:C)(b b2:Nat){m:M}{Q:V->M->Prop}(h:(∀e:M,(e=M.new m (AO.cells 1 [y] false))->∃g,ldC e (.ptr b 0)=some (Il g)/\∃i:Nat,∃a:Nat,g=((i:Nat):Int)/\g=((a:Nat):Int)/\i<=a/\a<=4096/\∀f:M,(f=M.new e (AO.cells (a * 1) (zaJ [Il 0] a) false))->∀l:M,(l=M.new f (AO.cells 1 [C.sl0] false))->∃d:M,stC l (.ptr f.nxt 0) 1 [.sl e.nxt 0 i 0 (some a)]=some d/\∀o:M,(o=M.new d (AO.cells 1 [C.nilFn] false))->∃j:M,stC o (.ptr d.nxt 0) 1 [(C.fn (Fn.func 122) [] [(W.c (C0.ptr b 0)),(W.c (C0.ptr m.nxt 0)),(W.c (C0.ptr f.nxt 0)),(W.c (C0.ptr b2 0)),(W.c (C0.ptr d.nxt 0))])]=some j/\∃p,ldC j (.ptr d.nxt 0)=some p/\zmw prog tbl [.c (Il 0),(.c (Il 0))] p j (fun q r=>∃s,q=.c (.bool s)/\Q (.tup []) r))):Wc prog tbl 121 [.c y,.c (.ptr b 0),.c (.ptr b2 0)] m Q:=zpK (n:=3) rfl (by kernel_rfl) (by kernel_rfl) h
theorem zvU(at' from':Int)(b k h2 b2 cv:Nat){m:M}{Q:V->M->Prop}(h:(∃q,ldC m (.ptr b 0)=some (Il q)/\ifB (decide (at'=q)) (∃r,ldC m (.ptr k 0)=some r/\∃s,ldC m (.ptr h2 0)=some s/\zmw prog tbl [.c s] r m (fun y z=>∃t,y=.c (.bool t)/\Q (.c (.bool t)) z)) (∀p:List V->M->Prop,(∀u:Bool,∀a:Int,∀d:M,(∃i,ldC d (.ptr b2 0)=some (Il i)/\ifB (decide (a < i)) (∃e,ldC d (.ptr h2 0)=some e/\∃f:Nat,at'=((f:Nat):Int)/\f < (slLen e)/\∃g:M,stC d (zl8 e (f * 1)) 1 [Il a]=some g/\∃j,ldC g (.ptr cv 0)=some j/\zl6 .i64 (at'+(1:Int))/\zl6 .i64 (a+1)/\zmw prog tbl [.c (Il (at'+(1:Int))),(.c (Il (a+1)))] j g (fun w l=>∃o,w=.c (.bool o)/\ifB (!o) (Q (.c (.bool false)) l) (zl6 .i64 (a+1)/\p [.c (.bool u),(.c (Il (a+1)))] l))) (Q (.c (.bool true)) d))->p [.c (.bool u),(.c (Il a))] d)->p [.c (.bool false),(.c (Il from'))] m))):Wc prog tbl 122 [.c (Il at'),.c (Il from'),.c (.ptr b 0),.c (.ptr k 0),.c (.ptr h2 0),.c (.ptr b2 0),.c (.ptr cv 0)] m Q:=zpK (n:=7) rfl (by kernel_rfl) (by kernel_rfl) h
theorem t22:tk prog 22=.sl 3:=by kernel_rfl
theorem g3:zcw prog 3=true:=by kernel_rfl
theorem z3:prog.cellsOf 3=1:=by kernel_rfl
theorem zvV{P:List Int}{p:Nat}(hp:p < P.length)(n:Int):(P.set p n).take (p+1)=P.take p++[n]:=by
 rw[List.take_add_one,List.getElem?_set_self hp,List.take_set_of_le (Nat.le_refl _)]; rfl
theorem _root_.Go.Abs.Chg.trans{S S1:Nat->Prop}{T:Nat->Prop}{m m1 m2:M}(h1:Chg (fun b=>S b\/T b) m m1)(h2:Chg (fun b=>S1 b\/T b) m1 m2)(ho:Own S m S1):Chg (fun b=>S b\/T b) m m2:=
 ⟨Nat.le_trans h1.nxt h2.nxt,fun b hb hS=>by
  rw[h2.g b (Nat.lt_of_lt_of_le hb h1.nxt) fun h=>h.elim (fun h3=>(ho b h3).elim (fun h4=>hS (.inl h4)) fun h4=>by omega) fun h3=>hS (.inr h3)]
  exact h1.g b hb hS,h2.vw.trans h1.vw⟩
theorem _root_.Go.Abs.Own.refl(S:Nat->Prop)(m:M):Own S m S:=fun _ hb=>.inl hb
theorem _root_.Go.Abs.Own.trans{S S1 S2:Nat->Prop}{m m1:M}(h1:Own S m S1)(h2:Own S1 m1 S2)(hn:m.nxt<=m1.nxt):Own S m S2:=fun b hb=>(h2 b hb).elim (h1 b) fun h=>.inr (by omega)
theorem _root_.Go.Abs.Chg.or{S T:Nat->Prop}{m m':M}(h:Chg S m m'):Chg (fun b=>S b\/T b) m m':=⟨h.nxt,fun b hb hS=>h.g b hb fun h2=>hS (.inl h2),h.vw⟩
theorem zvW(L:List Int)(i:Nat)(v:Int):(zqc L).set i (.int .i64 v)=zqc (L.set i v):=by unfold zqc; rw[List.map_set]
theorem zvX{n:Int}(h1:-1000000<=n)(h2:n<=1000000):zl6 .i64 n:=by simp only[zl6]; omega
theorem zvY{α:Type}(g:Nat->List α)(a:α):∀(e n:Nat),a∈zrm g e n↔∃j,n<=j/\j < n+e/\a∈g j
 | 0,n=>⟨fun h=>(by cases h),fun⟨j,h1,h2,_⟩=>by omega⟩
 | e+1,n=>by
  show a∈g n++zrm g e (n+1)↔_
  rw[List.mem_append,zvY g a e (n+1)]
  constructor
  ·rintro (h | ⟨j,h1,h2,h3⟩)
   ·exact⟨n,Nat.le_refl _,by omega,h⟩
   ·exact⟨j,by omega,by omega,h3⟩
  ·rintro⟨j,h1,h2,h3⟩
   by_cases hj:j=n
   ·subst hj; exact .inl h3
   ·exact .inr ⟨j,by omega,by omega,h3⟩
def hdr(bl size:Nat):C:=.sl bl 0 size 0 (some size)
def flC(b k h2 b2 cv:Nat):C:=.fn (.func 122) [] [.c (.ptr b 0),.c (.ptr k 0),.c (.ptr h2 0),.c (.ptr b2 0),.c (.ptr cv 0)]
def VsL(all:List (List Int))(n1 i:Nat)(x:List V)(m:M):Prop:=∃L c,all[i]? = some L/\x=[.c c]/\Li m c L/\(zl9 c=false/\zqj c 1 L.length)/\∀b o n s d,c=.sl b o n s d->n1<=b
theorem _root_.Go.Abs.Bk.st1n{m:M}{b n:Nat}{vs:List C}(h:Bk m b n vs){k:Nat}(c:C)(hk:k < vs.length)(hn:vs.length=n):stC m (.ptr b (0+k * 1)) 1 [c]=some (m.set b (.cells n (vs.set k c) false)):=by
 rw[show 0+k * 1=k by omega]
 by_cases h1:n=1
 ·subst h1
  have hk0:k=0:=by omega
  subst hk0
  have:vs.set 0 c=[c]:=by
   match vs,hn with
   | [a],_=>rfl
  rw[this];exact zp4 h.g [c]
 ·exact zp5 h.g c hk hn h1
theorem zvZ(n:Nat):zaJ [C.int .i64 0] n=zqc (List.replicate n 0):=by rw[zeB]; simp[zqc]
structure SlF (n size b b2 l k h2 bl cv:Nat) (S:Nat->Prop) (m:M) (P:List Int):Prop where
 bb:Bk m b 1 [.int .i64 (size:Int)]
 nn:Bk m b2 1 [.int .i64 (n:Int)]
 kk:Bk m k 1 [.fn (.yield l) [] []]
 hh:Bk m h2 1 [hdr bl size]
 ll:Bk m bl size (zqc P)
 cc:Bk m cv 1 [flC b k h2 b2 cv]
 ss:∀b',S b'->b' ≠ b/\b' ≠ b2/\b' ≠ k/\b' ≠ h2/\b' ≠ bl/\b' ≠ cv
 ne:b ≠ bl/\b2 ≠ bl/\k ≠ bl/\h2 ≠ bl/\cv ≠ bl
variable {n size b b2 l k h2 bl cv:Nat}
theorem SlF.to{S S':Nat->Prop}{m m':M}{P:List Int}(h:SlF n size b b2 l k h2 bl cv S m P)(hn:Chg S m m')(ho:Own S m S'):SlF n size b b2 l k h2 bl cv S' m' P:=by
 have tr:∀{b' j:Nat} {vs:List C},Bk m b' j vs->¬ S b'->Bk m' b' j vs:=fun hb hS=>⟨(hn.g _ hb.lt hS).trans hb.g,Nat.lt_of_lt_of_le hb.lt hn.nxt⟩;refine⟨tr h.bb fun h1=>(h.ss _ h1).1 rfl,tr h.nn fun h1=>(h.ss _ h1).2.1 rfl,tr h.kk fun h1=>(h.ss _ h1).2.2.1 rfl,tr h.hh fun h1=>(h.ss _ h1).2.2.2.1 rfl,tr h.ll fun h1=>(h.ss _ h1).2.2.2.2.1 rfl,tr h.cc fun h1=>(h.ss _ h1).2.2.2.2.2 rfl,fun b' hb=>?_,h.ne⟩
 rcases ho b' hb with h1 | h1
 ·exact h.ss b' h1
 ·have:=h.bb.lt; have:=h.nn.lt; have:=h.kk.lt; have:=h.hh.lt; have:=h.ll.lt; have:=h.cc.lt
  omega
theorem SlF.set{S:Nat->Prop}{m:M}{P:List Int}(h:SlF n size b b2 l k h2 bl cv S m P)(P':List Int):SlF n size b b2 l k h2 bl cv S (m.set bl (.cells size (zqc P') false)) P':=
 ⟨h.bb.setNe h.ne.1 _,h.nn.setNe h.ne.2.1 _,h.kk.setNe h.ne.2.2.1 _,h.hh.setNe h.ne.2.2.2.1 _,h.ll.set _,h.cc.setNe h.ne.2.2.2.2 _,h.ss,h.ne⟩
theorem SlF.li{S:Nat->Prop}{m:M}{P:List Int}(h:SlF n size b b2 l k h2 bl cv S m P)(hP:P.length=size):Li m (hdr bl size) P:=by
 refine⟨by rw[zqd]; omega,.inr ⟨bl,0,0,some size,by rw[hP]; rfl,h.ll.lt,fun _=>.inl ⟨size,zqc P,false,h.ll.g,by rw[zqd]; exact hP,by rw[zqd]; omega,by rw[List.drop_zero,List.take_length]⟩⟩⟩
theorem zv0{n0 n1:Nat}(hn:n<=1000)(hsz:size<=1000)(hn0:n0<=bl)(hn1:n1<=bl){all:List (List Int)}{I:Nat->(Nat->Prop)->M->Prop}{E:(Nat->Prop)->M->Prop}(hcl:zq0 prog tbl n0 l (VsL all n1) I E) :
  ∀(d p:Nat),d+p=size->∀(i fr:Nat) (S:Nat->Prop) (m:M) (P:List Int) (Q:V->M->Prop),SlF n size b b2 l k h2 bl cv S m P->P.length=size ->
   (∀j L,(zrn n d (P.take p) fr)[j]? = some L->all[i+j]? = some L)->I i S m ->
   (∀S' m' P',Own S m S'->Chg (fun b'=>S b'\/b'=bl) m m'->SlF n size b b2 l k h2 bl cv S' m' P'->P'.length=size->P'.take p=P.take p->I (i+(zrn n d (P.take p) fr).length) S' m'->Q (.c (.bool true)) m') ->
   (∀S' m',Own S m S'->Chg (fun b'=>S b'\/b'=bl) m m'->E S' m'->Q (.c (.bool false)) m') ->
   Wc prog tbl 122 [.c (.int .i64 (p:Int)),.c (.int .i64 (fr:Int)),.c (.ptr b 0),.c (.ptr k 0),.c (.ptr h2 0),.c (.ptr b2 0),.c (.ptr cv 0)] m Q:=by
 intro d
 induction d with
 | zero=>
  intro p hp i fr S m P Q hst hP hxs hI hT hF;refine zvU (p:Int) (fr:Int) b k h2 b2 cv ⟨_,hst.bb.rc rfl,?_⟩;rw[zpP];refine⟨fun _=>⟨_,hst.kk.rc rfl,_,hst.hh.rc rfl,?_⟩,fun h1=>absurd (by omega) h1⟩;have hx0:=hxs 0 (P.take p) rfl;rw[List.take_of_length_le (by omega),Nat.add_zero] at hx0
  show Wy prog tbl l [.c (hdr bl size)] m _
  refine hcl.yield i _ S m ⟨P,hdr bl size,hx0,rfl,hst.li hP,⟨rfl,.inr (.inl ⟨bl,0,0,size,by rw[hP]; rfl,by omega⟩)⟩,fun b' o n' s d h=>by cases h; exact hn1⟩ hI _ (fun S' m' ho hch hI'=>⟨_,rfl,?_⟩) fun S' m' ho hch hE=>⟨_,rfl,hF S' m' ho (Chg.or hch) hE⟩;exact hT S' m' P ho (Chg.or hch) (hst.to hch ho) hP rfl hI'
 | succ d ih=>
  intro p hp i fr S m P Q hst hP hxs hI hT hF;refine zvU (p:Int) (fr:Int) b k h2 b2 cv ⟨_,hst.bb.rc rfl,?_⟩;rw[zpP];refine⟨fun h1=>by omega,fun _ R6 hstep=>?_⟩
  let g:Nat->List (List Int):=fun x=>zrn n d (P.take p++[(x:Int)]) (x+1)
  have hex:zrn n (d+1) (P.take p) fr=zrm g (n - fr) fr:=rfl;rw[hex] at hxs hT
  have hgo:∀(e x:Nat) (b7:Bool) (m9:M) (S1:Nat->Prop) (P1:List Int) (i1:Nat),n - x=e->Own S m S1->Chg (fun b'=>S b'\/b'=bl) m m9->SlF n size b b2 l k h2 bl cv S1 m9 P1->P1.length=size->P1.take p=P.take p->I i1 S1 m9 ->
    i1+(zrm g e x).length=i+(zrm g (n - fr) fr).length->(∀j L,(zrm g e x)[j]? = some L->all[i1+j]? = some L)->R6 [.c (.bool b7),.c (.int .i64 (x:Int))] m9:=by
   intro e
   induction e with
   | zero=>
    intro x b7 m9 S1 P1 i1 hen ho hch hst1 hP1 htk hI1 hlen hxs1;refine hstep _ _ _ ⟨_,hst1.nn.rc rfl,?_⟩;rw[zpP];refine⟨fun h1=>by omega,fun _=>hT S1 m9 P1 ho hch hst1 hP1 htk ?_⟩;have:i1+0=_:=hlen;rw[<- this,Nat.add_zero]; exact hI1
   | succ e ihe=>
    intro x b7 m9 S1 P1 i1 hen ho hch hst1 hP1 htk hI1 hlen hxs1;refine hstep _ _ _ ⟨_,hst1.nn.rc rfl,?_⟩;rw[zpP];refine⟨fun _=>?_,fun h1=>absurd (by omega) h1⟩
    have hp9:p < P1.length:=by omega
    refine⟨_,hst1.hh.rc rfl,p,rfl,(by show p < size; omega),_,hst1.ll.st1n _ (by rw[zqd]; exact hp9) (by rw[zqd]; exact hP1),?_⟩;rw[zvW];have hst2:=hst1.set (P1.set p (x:Int));have hch2:Chg (fun b'=>S1 b'\/b'=bl) m9 (m9.set bl (.cells size (zqc (P1.set p (x:Int))) false)):=⟨Nat.le_refl _,fun b' _ hS=>by rw[M.g_set,if_neg fun h1=>hS (.inr h1)],rfl⟩;have hI2:I i1 S1 (m9.set bl (.cells size (zqc (P1.set p (x:Int))) false)):=(hcl.li i1).st _ _ _ hI1 (Nat.le_refl _) rfl (fun b' hb=>by rw[M.g_set,if_neg (hst1.ss b' hb).2.2.2.2.1]) (fun b' hb=>by rw[M.g_set,if_neg (by omega)]);have hchm:=Chg.trans (T:=fun b'=>b'=bl) hch hch2 ho;generalize m9.set bl (.cells size (zqc (P1.set p (x:Int))) false)=m13 at hst2 hch2 hI2 hchm
    have hP2:(P1.set p (x:Int)).length=size:=by rw[List.length_set]; exact hP1
    have htk2:(P1.set p (x:Int)).take (p+1)=P.take p++[(x:Int)]:=by rw[zvV hp9,htk]
    have htk3:(P1.set p (x:Int)).take p=P.take p:=by rw[List.take_set_of_le (Nat.le_refl _),htk]
    generalize P1.set p (x:Int)=P2 at hst2 htk2 htk3 hP2;have hge:zrm g (e+1) x=g x++zrm g e (x+1):=rfl
    have hg:g x=zrn n d (P2.take (p+1)) (x+1):=by rw[htk2]
    rw[hge,hg] at hlen hxs1;rw[List.length_append] at hlen;refine⟨_,hst2.cc.rc rfl,zvX (by omega) (by omega),zvX (by omega) (by omega),?_⟩
    show Wc prog tbl 122 [.c (.int .i64 ((p+1:Nat):Int)),.c (.int .i64 ((x+1:Nat):Int)),.c (.ptr b 0),.c (.ptr k 0),.c (.ptr h2 0),.c (.ptr b2 0),.c (.ptr cv 0)] m13 _
    refine ih (p+1) (by omega) i1 (x+1) S1 m13 P2 _ hst2 hP2 (fun j H hj=>hxs1 j H (by rw[List.getElem?_append_left (List.getElem?_eq_some_iff.1 hj).1]; exact hj)) hI2 (fun S' m' P' ho' hch' hst' hP' htk' hI'=>⟨_,rfl,?_⟩) fun S' m' ho' hch' hE=>⟨_,rfl,?_⟩
    ·have htk4:P'.take p=P.take p:=by
      have h1:=congrArg (List.take p) htk';rw[List.take_take,List.take_take,Nat.min_eq_left (by omega)] at h1;rw[h1,htk3]
     refine⟨zvX (by omega) (by omega),ihe (x+1) b7 m' S' P' _ (by omega) (Own.trans ho ho' hchm.nxt) (Chg.trans (T:=fun b'=>b'=bl) hchm hch' ho) hst' hP' htk4 hI' (by omega) fun j H hj=>?_⟩;rw[Nat.add_assoc];exact hxs1 _ H (by rw[List.getElem?_append_right (by omega),Nat.add_sub_cancel_left]; exact hj)
    ·exact hF S' m' (Own.trans ho ho' hchm.nxt) (Chg.trans (T:=fun b'=>b'=bl) hchm hch' ho) hE
  exact hgo (n - fr) fr false m S P i rfl (Own.refl S m) ⟨Nat.le_refl _,fun _ _ _=>rfl,rfl⟩ hst hP rfl hI rfl hxs
theorem zv1(hn:n<=1000)(hsz:size<=1000):zq1 prog tbl (.fn (.func 121) [] [.c (.ptr b 0),.c (.ptr b2 0)]) (zrn n size [] 0).length (VsL (zrn n size [] 0)) (fun b'=>b'=b\/b'=b2) (fun m=>Bk m b 1 [.int .i64 (size:Int)]/\Bk m b2 1 [.int .i64 (n:Int)]):=by
 refine⟨fun m m' h hn' hv hg=>⟨⟨(hg b (.inl rfl)).trans h.1.g,Nat.lt_of_lt_of_le h.1.lt hn'⟩,⟨(hg b2 (.inr rfl)).trans h.2.g,Nat.lt_of_lt_of_le h.2.lt hn'⟩⟩,fun m h b' hb=>hb.elim (fun h1=>h1 ▸ h.1.lt) fun h1=>h1 ▸ h.2.lt,fun n0' l I E S m hcl hn0' hI hR hSD Q hQ=>?_⟩;have hSlt:=(hcl.li 0).lt _ _ hI;have hb:=hR.1.lt;have hb2:=hR.2.lt
 show Wc prog tbl 121 [.c (.fn (.yield l) [] []),.c (.ptr b 0),.c (.ptr b2 0)] m Q
 refine zvT _ b b2 fun m0 e0=>?_;obtain⟨b0,x0⟩:=Bk.new e0;refine⟨_,(hR.1.ext x0).rc rfl,size,size,rfl,rfl,Nat.le_refl _,by omega,fun m4 e4 m5 e5=>?_⟩;rw[zvZ,Nat.mul_one] at e4;obtain⟨b4,x4⟩:=Bk.new e4;obtain⟨b5,x5⟩:=Bk.new e5
 have n0:m0.nxt=m.nxt+1:=by rw[e0]; rfl
 have n4:m4.nxt=m.nxt+2:=by rw[e4]; show m0.nxt+1=_; omega
 have n5:m5.nxt=m.nxt+3:=by rw[e5]; show m4.nxt+1=_; omega
 refine⟨_,b5.st _,fun m7 e7=>?_⟩;have k6:=b5.set [C.sl m0.nxt 0 size 0 (some size)];have x6:Ext m (m5.set m4.nxt (.cells 1 [C.sl m0.nxt 0 size 0 (some size)] false)):=((x0.trans x4).trans x5).setR (by omega) _;have k0:Bk (m5.set m4.nxt (.cells 1 [C.sl m0.nxt 0 size 0 (some size)] false)) m.nxt 1 [.fn (.yield l) [] []]:=((b0.ext x4).ext x5).setNe (by omega) _;have k4:Bk (m5.set m4.nxt (.cells 1 [C.sl m0.nxt 0 size 0 (some size)] false)) m0.nxt size (zqc (List.replicate size 0)):=(b4.ext x5).setNe (by omega) _;have n6:(m5.set m4.nxt (.cells 1 [C.sl m0.nxt 0 size 0 (some size)] false)).nxt=m.nxt+3:=n5;have e7':m7=(m5.set m4.nxt (.cells 1 [C.sl m0.nxt 0 size 0 (some size)] false)).new (.cells 1 [.nilFn] false):=e7
 clear e7
 generalize m5.set m4.nxt (.cells 1 [C.sl m0.nxt 0 size 0 (some size)] false)=m6 at k6 x6 k0 k4 n6 e7' ⊢;obtain⟨b7,x7⟩:=Bk.new e7'
 have n7:m7.nxt=m.nxt+4:=by rw[e7']; show m6.nxt+1=_; omega
 refine⟨_,b7.st _,_,(b7.set _).rc rfl,?_⟩;have k8:=b7.set [flC b m.nxt m4.nxt b2 m6.nxt];have x8:Ext m (m7.set m6.nxt (.cells 1 [flC b m.nxt m4.nxt b2 m6.nxt] false)):=(x6.trans x7).setR (by omega) _;have j0:=(k0.ext x7).setNe (c:=m6.nxt) (by omega) (.cells 1 [flC b m.nxt m4.nxt b2 m6.nxt] false);have j4:=(k4.ext x7).setNe (c:=m6.nxt) (by omega) (.cells 1 [flC b m.nxt m4.nxt b2 m6.nxt] false);have j6:=(k6.ext x7).setNe (c:=m6.nxt) (by omega) (.cells 1 [flC b m.nxt m4.nxt b2 m6.nxt] false)
 show zmw prog tbl _ (flC b m.nxt m4.nxt b2 m6.nxt) (m7.set m6.nxt (.cells 1 [flC b m.nxt m4.nxt b2 m6.nxt] false)) _
 generalize m7.set m6.nxt (.cells 1 [flC b m.nxt m4.nxt b2 m6.nxt] false)=m8 at k8 x8 j0 j4 j6;have hI8:I 0 S m8:=(hcl.li 0).st _ _ _ hI x8.nxt x8.vw (fun b' hb=>x8.g b' (hSlt b' hb)) (fun b' hb=>x8.g b' (by omega))
 have hSl:SlF n size b b2 l m.nxt m4.nxt m0.nxt m6.nxt S m8 (List.replicate size 0):=⟨hR.1.ext x8,hR.2.ext x8,j0,j6,j4,k8,fun b' hb'=>by
  have h1:=hSlt b' hb';have h2:=hSD b' hb'
  exact⟨fun h=>h2 (.inl h),fun h=>h2 (.inr h),by omega,by omega,by omega,by omega⟩,by omega⟩
 have hchg:∀{m':M},Chg (fun b'=>S b'\/b'=m0.nxt) m8 m'->Chg S m m':=fun {m'} h=>⟨Nat.le_trans x8.nxt h.nxt,fun b' hb hSb=>by
  rw[h.g b' (Nat.lt_of_lt_of_le hb x8.nxt) fun h3=>h3.elim hSb fun h4=>by omega]
  exact x8.g b' hb,h.vw.trans x8.vw⟩
 show Wc prog tbl 122 [.c (.int .i64 ((0:Nat):Int)),.c (.int .i64 ((0:Nat):Int)),.c (.ptr b 0),.c (.ptr m.nxt 0),.c (.ptr m4.nxt 0),.c (.ptr b2 0),.c (.ptr m6.nxt 0)] m8 _
 refine zv0 hn hsz (n0:=n0') (n1:=m.nxt) (by omega) (by omega) hcl size 0 (by omega) 0 0 S m8 _ _ hSl (by simp) (fun j L hj=>by rw[Nat.zero_add]; exact hj) hI8 (fun S' m' P' ho hch hst' _ _ hI'=>⟨_,rfl,?_⟩) fun S' m' ho hch hE=>⟨_,rfl,?_⟩
 ·rw[Nat.zero_add] at hI';exact hQ _ S' m' (Own.trans (Own.refl S m) ho x8.nxt) (hchg hch) (.inl hI')
 ·exact hQ _ S' m' (Own.trans (Own.refl S m) ho x8.nxt) (hchg hch) (.inr hE)
theorem zv2{m:M}{z:C}{L:List Int}(hz:Li m z L)(hn:zl9 z=false):∃b o n s c,z=.sl b o n s c:=by
 rcases hz.val with ⟨rfl,_⟩ | ⟨b,o,s,c,rfl,_⟩
 ·cases hn
 ·exact⟨_,_,_,_,_,rfl⟩
theorem zv3{z:C}{L:List Int}{m:M}{Q:V->M->Prop}(hz:Li m z L)(hn:zl9 z=false)(hL:L.length<=1000)(h:∀z' m',Ext m m'->Li m' z' L->Fr m z'->zqj z' 1 L.length->Q (.c z') m'):Wc prog tbl 111 [.c z] m Q:=by
 obtain⟨b,o,n,s,c,rfl⟩:=zv2 hz hn;refine zut ⟨trivial,trivial,trivial,rfl,?_⟩
 show ∀m0:M,_
 intro m0 e0;obtain⟨b0,x0⟩:=Bk.new e0;have ho:zp7 m0 1 (.sl m.nxt 0 0 0 (some 0)) [] 0:=⟨rfl,.lit _ b0.g b0.lt⟩
 by_cases h0:L.length=0
 ·have hL0:L=[]:=List.eq_nil_of_length_eq_zero h0;subst hL0;exact⟨_,_,zqb t22 g3 z3 ho (hz.ext x0),h _ _ x0 ho.ls (fun b o n s d hq=>by cases hq; exact Nat.le_refl _) (.inr (.inl ⟨_,_,_,_,rfl,Nat.le_refl _⟩))⟩
 ·obtain⟨m',q1,q2,q3,q4,q5⟩:=zqa t22 g3 z3 ho (hz.ext x0) (by omega) (by omega) (by omega)
  have n0:m0.nxt=m.nxt+1:=by rw[e0]; rfl
  refine⟨_,m',q1,h _ _ ⟨by omega,fun b' hb=>?_,q4.trans x0.vw⟩ ?_ (fun b o n s d hq=>by cases hq; omega) (.inr (.inr ⟨_,_,by rw[Nat.zero_add]⟩))⟩
  ·rw[q5 b' (by omega) (by intro hq; cases hq)]; exact x0.g b' hb
  ·have:=q2.ls;rw[List.nil_append] at this;have e:0+L.length=L.length:=Nat.zero_add _;rw[e] at this ⊢;exact this
theorem zv4{α:Type}(g:Nat->List α)(p:α->Bool):∀e x,(zrm g (e+1) x).find? p=((g x).find? p).or ((zrm g e (x+1)).find? p):=fun e x=>by
 show(g x++zrm g e (x+1)).find? p=_
 rw[List.find?_append]
theorem zv5{l:List (List Int)}{i:Nat}{a:List Int}(h:l[i]? = some a)(p:List Int->Bool):(l.drop i).find? p=if p a then some a else (l.drop (i+1)).find? p:=by
 obtain⟨hi,ha⟩:=List.getElem?_eq_some_iff.1 h;rw[List.drop_eq_getElem_cons hi,ha,List.find?_cons]
 cases p a <;> rfl
theorem zv6{n:Nat}{L:List Int}:∀{d:Nat} {pre:List Int} {fr:Nat},L∈zrn n d pre fr->L.length=pre.length+d
 | 0,pre,fr,h=>by
  have:L=pre:=List.mem_singleton.1 h;rw[this]; rfl
 | d+1,pre,fr,h=>by
  obtain⟨x,_,_,h3⟩:=(zvY _ _ _ _).1 h;have:=zv6 h3;rw[List.length_append] at this
  simp only[List.length_cons,List.length_nil] at this
  omega
end
end Go.Proofs.Ytlpjlgmoaipoiaa

namespace Go.Proofs.Ytlpjlgmoaipoiaa
open _root_.Go.Proofs.Try
open Go.Abs
set_option maxRecDepth 100000
noncomputable section
def zv7(f:M)(x:C)(g:List Int->Option (Bool)):Prop:=∀(f' m:M) (a0:List Int) (c0:C) (r:Bool) (Q:V->M->Prop),Sub f f'->Pre f' m->Sl f' c0 a0->g a0=some r->(∀m',Ext m m'->Q (.c (.bool r)) m')->zmw prog tbl [.c c0] x m Q
theorem zv7.sub{f m:M}{x:C}{g:List Int->Option (Bool)}(h:zv7 f x g)(s:Sub f m):zv7 m x g:=fun f' m' a0 c0 r Q hs=>h f' m' a0 c0 r Q (s.trans hs)
theorem zq7{f:M}:∀(l:List Int),Cat f (zqc l) l
 | []=>rfl
 | a::l=>⟨[.int .i64 a],zqc l,rfl,rfl,zq7 l⟩
def asM(m:M):M:={ nxt:=m.nxt,g:=fun b=>if b < m.nxt then m.g b else none,vw:=m.vw }
theorem zv8(m:M):Sub (asM m) m:=⟨Nat.le_refl _,rfl,fun _b hb _=>(if_pos hb).symm⟩
theorem zv9{f m m':M}(h:Sub f m)(e:Ext m m'):Sub f (asM m'):=⟨Nat.le_trans h.nxt e.nxt,e.vw.trans h.vw,fun b hb hd=>by
 have:=Nat.lt_of_lt_of_le hb h.nxt;have:=e.nxt
 show(if b < m'.nxt then m'.g b else none)=_
 rw[if_pos (by omega),e.g b (by omega)]
 exact h.g b hb hd⟩
theorem zwa{f m m':M}(h:Pre f m)(e:Ext m m'):Pre (asM m') m':=⟨zv8 m',fun b hb=>if_neg (by have hb:m'.nxt<=b:=hb; omega),fun b hb=>by
 have hb:m'.nxt<=b:=hb
 show m'.vw b=none
 rw[e.vw,h.sub.vw]
 exact h.fv b (Nat.le_trans h.sub.nxt (Nat.le_trans e.nxt hb))⟩
theorem zwb{m:M}{z:C}{L:List Int}(h:Li m z L)(hok:zqj z 1 L.length):Sl (asM m) z L:=by
 refine⟨zqc L,⟨h.len,?_⟩,zq7 L,hok⟩
 rcases h.val with h1 | ⟨b,o,t,c,h1,h2,h3⟩
 ·exact .inl h1
 ·refine .inr ⟨b,o,t,c,h1,h2,fun h0=>(h3 h0).to' ?_ rfl⟩;exact if_pos h2
def grM(f m m':M):M:={ nxt:=m'.nxt,g:=fun b=>if b < m.nxt then f.g b else if b < m'.nxt then m'.g b else none,vw:=f.vw }
theorem zwc{f m m':M}(h:Pre f m)(e:Ext m m'):Pre (grM f m m') m':=by
 have hn:=h.sub.nxt;have he:=e.nxt;refine⟨⟨Nat.le_refl _,by show m'.vw=f.vw; rw[e.vw,h.sub.vw],fun b hb hd=>?_⟩,fun b hb=>?_,fun b hb=>h.fv b (by have hb:m'.nxt<=b:=hb; omega)⟩
 ·show m'.g b=(if b < m.nxt then f.g b else if b < m'.nxt then m'.g b else none)
  have hb:b < m'.nxt:=hb
  by_cases hbm:b < m.nxt
  ·rw[if_pos hbm];have hd:(if b < m.nxt then f.g b else if b < m'.nxt then m'.g b else none) ≠ none\/f.vw b ≠ none:=hd;rw[if_pos hbm] at hd
   have hbf:b < f.nxt:=by
    rcases Nat.lt_or_ge b f.nxt with h1 | h1
    ·exact h1
    ·exact(hd.elim (fun h2=>h2 (h.fz b h1)) fun h2=>h2 (h.fv b h1)).elim
   rw[e.g b hbm]; exact h.sub.g b hbf hd
  ·rw[if_neg hbm,if_pos hb]
 ·have hb:m'.nxt<=b:=hb
  show(if b < m.nxt then f.g b else if b < m'.nxt then m'.g b else none)=none
  rw[if_neg (by omega),if_neg (by omega)]
end
end Go.Proofs.Ytlpjlgmoaipoiaa

