/- An evaluator of code, its soundness, and what functions of the program do. Condition: none; a lemma text. -/
import Derived.Test.YtbkokcbnbmhaoaaTaF

namespace Go.Proofs.Ytbkokcbnbmhaoaa
theorem obs{α β:Type}{a:α}{f:α->Option β}:(some a).bind f=f a:=rfl

theorem zsx:∃_t:Nat->Nat,True:=⟨fun _=>0,trivial⟩
theorem gdi{α:Type}{p A:Prop}{o:Option α}{r:α}(hp:Go.Abs.gd p o=some r)(h:p->o=some r->A):p/\A:=have ⟨a,b⟩:=Go.Abs.zrs hp; ⟨a,h a b⟩
end Go.Proofs.Ytbkokcbnbmhaoaa

namespace Go.Proofs.Ytbkokcbnbmhaoaa
open _root_.Go.Proofs.Try
open Go.Abs
set_option maxRecDepth 100000
noncomputable section
structure Rg where
 Lo:Int
 Hi:Int
instance:MK Rg:=⟨fun k=>.agg 2 [.int .i64 k.Lo,.int .i64 k.Hi],fun k=>zne .i64 k.Lo/\zne .i64 k.Hi/\True⟩
instance:MV Rg:=⟨fun k=>.agg 2 [.int .i64 k.Lo,.int .i64 k.Hi]⟩
instance:Rp Rg:=⟨2,by omega,fun _ cs a=>cs=[.int .i64 a.Lo,.int .i64 a.Hi],fun h=>by rw[h]; rfl,fun h _=>h⟩
structure Tf where
 From:Int
 Whole:Bool
 Least:Int
 Weeks:List Int
 Counts:List Int
 Rates:List (List (List Int))
def zsy(a:Tf):Prop:=(zne .i64 a.From)/\(True)/\(zne .i64 a.Least)/\(a.Weeks.length<=maxLen/\∀a0∈a.Weeks,zne .i64 a0)/\(a.Counts.length<=maxLen/\∀a0∈a.Counts,zne .i64 a0)/\(a.Rates.length<=maxLen/\∀a0∈a.Rates,a0.length<=maxLen/\∀a1∈a0,a1.length<=maxLen/\∀a2∈a1,zne .i64 a2)
instance:Rp Tf:=⟨6,by omega,fun f cs a=>∃c3 c4 c5:C,cs=[.int .i64 a.From,.bool a.Whole,.int .i64 a.Least,c3,c4,c5]/\Sl f c3 a.Weeks/\Sl f c4 a.Counts/\Sl f c5 a.Rates,fun h=>by obtain⟨c3,c4,c5,h,_,_,_⟩:=h; rw[h]; rfl,fun h s=>by obtain⟨c3,c4,c5,h,h0,h1,h2⟩:=h; exact⟨c3,c4,c5,h,h0.subv s,h1.subv s,h2.subv s⟩⟩
theorem zsz{f:M}{x:C}{l:List Tf}(h:Sl f x l){n:Nat}{a:Tf}(hi:l[n]? = some a):∃c3 c4 c5:C,(∀m,Sub f m->ldA m (zng x (n * 6)) 6=some [.int .i64 a.From,.bool a.Whole,.int .i64 a.Least,c3,c4,c5]/\(∀j c,([.int .i64 a.From,.bool a.Whole,.int .i64 a.Least,c3,c4,c5]:List C)[j]? = some c->ldC m (znf (zng x (n * 6)) j)=some c)/\∀j i,0 < i->j+i<=6->ldA m (znf (zng x (n * 6)) j) i=some ((([.int .i64 a.From,.bool a.Whole,.int .i64 a.Least,c3,c4,c5]:List C).drop j).take i))/\Sl f c3 a.Weeks/\Sl f c4 a.Counts/\Sl f c5 a.Rates:=by
 obtain⟨cs,q1,q2⟩:=h.rdP hi;obtain⟨c3,c4,c5,rfl,z0,z1,z2⟩:=q2;exact⟨c3,c4,c5,q1,z0,z1,z2⟩
structure Clm where
 Crop:Int
 Value:Int
 Day:Rg
 Count:Rg
instance:MK Clm:=⟨fun k=>.agg 6 [.int .i64 k.Crop,.int .i64 k.Value,.int .i64 k.Day.Lo,.int .i64 k.Day.Hi,.int .i64 k.Count.Lo,.int .i64 k.Count.Hi],fun k=>zne .i64 k.Crop/\zne .i64 k.Value/\zne .i64 k.Day.Lo/\zne .i64 k.Day.Hi/\zne .i64 k.Count.Lo/\zne .i64 k.Count.Hi/\True⟩
instance:MV Clm:=⟨fun k=>.agg 6 [.int .i64 k.Crop,.int .i64 k.Value,.int .i64 k.Day.Lo,.int .i64 k.Day.Hi,.int .i64 k.Count.Lo,.int .i64 k.Count.Hi]⟩
instance:Rp Clm:=⟨6,by omega,fun _ cs a=>cs=[.int .i64 a.Crop,.int .i64 a.Value,.int .i64 a.Day.Lo,.int .i64 a.Day.Hi,.int .i64 a.Count.Lo,.int .i64 a.Count.Hi],fun h=>by rw[h]; rfl,fun h _=>h⟩
structure Tr where
 Day:Int
 Count:Int
instance:MK Tr:=⟨fun k=>.agg 2 [.int .i64 k.Day,.int .i64 k.Count],fun k=>zne .i64 k.Day/\zne .i64 k.Count/\True⟩
instance:MV Tr:=⟨fun k=>.agg 2 [.int .i64 k.Day,.int .i64 k.Count]⟩
instance:Rp Tr:=⟨2,by omega,fun _ cs a=>cs=[.int .i64 a.Day,.int .i64 a.Count],fun h=>by rw[h]; rfl,fun h _=>h⟩
structure Ht where
 Day:Int
 Count:Int
 crop:Int
instance:MK Ht:=⟨fun k=>.agg 3 [.int .i64 k.Day,.int .i64 k.Count,.int .i64 k.crop],fun k=>zne .i64 k.Day/\zne .i64 k.Count/\zne .i64 k.crop/\True⟩
instance:MV Ht:=⟨fun k=>.agg 3 [.int .i64 k.Day,.int .i64 k.Count,.int .i64 k.crop]⟩
instance:Rp Ht:=⟨3,by omega,fun _ cs a=>cs=[.int .i64 a.Day,.int .i64 a.Count,.int .i64 a.crop],fun h=>by rw[h]; rfl,fun h _=>h⟩
structure Mnr where
 paid:Tf->Int->Option (Int)
structure Wk where
 tariffs:List Tf
 parts:Option (Ht->Option (Int))
def zsA:Option Bool:=some true
def zsB(n:Int)(low:Int)(high:Int):Option (Bool):=(if low<=n then (some (decide (n<=high))) else (some false))
def prRises_L0(l:List Int)(most:Int):Nat->Int->Option (Bool)
 | 0,_=>none
 | a+1,x2=>(if x2 < (l.length:Int) then ((idx l x2).bind fun c=>((zsB c (0:Int) most).bind fun d=>(if d=true then (if (0:Int) < x2 then ((idx l x2).bind fun e=>(gd (zne .i64 (x2 - 1)) ((idx l (x2 - 1)).bind fun f=>(if e<=f then (some false) else (gd (zne .i64 (x2+1)) (prRises_L0 l most a (x2+1))))))) else (gd (zne .i64 (x2+1)) (prRises_L0 l most a (x2+1)))) else (some false)))) else (if (0:Int) < (l.length:Int) then ((idx l (0:Int)).bind fun g=>(some (decide (g=0)))) else (some false)))
def zsC(l:List Int)(most:Int):Option (Bool):=(prRises_L0 l most (l.length+1) (0:Int))
def zsD(t:Tf)(d:Int)(a:Int)(e:Bool->Int->Option (Bool)):Nat->Bool->Int->Option (Bool)
 | 0,_,_=>none
 | g+1,f,c=>(if c < (t.Counts.length:Int) then ((idx t.Rates d).bind fun h=>((idx h a).bind fun i=>((idx i c).bind fun j=>((zsB j (0:Int) (100:Int)).bind fun l=>(if l=true then (gd (zne .i64 (c+1)) (zsD t d a e g f (c+1))) else (some false)))))) else (gd (zne .i64 (a+1)) (e f (a+1))))
def zsE(t:Tf)(a:Int)(d:Bool->Int->Option (Bool)):Nat->Bool->Int->Option (Bool)
 | 0,_,_=>none
 | f+1,e,c=>(if c < (t.Weeks.length:Int) then ((idx t.Rates a).bind fun g=>((idx g c).bind fun h=>(if (h.length:Int)=(t.Counts.length:Int) then (zsD t a c (zsE t a d f) 1000000 e (0:Int)) else (some false)))) else (gd (zne .i64 (a+1)) (d e (a+1))))
def zsF(t:Tf):Nat->Bool->Int->Option (Bool)
 | 0,_,_=>none
 | c+1,d,a=>(if a < (t.Rates.length:Int) then ((idx t.Rates a).bind fun e=>(if (e.length:Int)=(t.Weeks.length:Int) then (zsE t a (zsF t c) 1000000 d (0:Int)) else (some false))) else (some true))
def zsG(t:Tf):Option (Bool):=((zsB t.From (0:Int) (120:Int)).bind fun a=>(if a=true then ((zsB t.Least (0:Int) (100:Int)).bind fun c=>(if c=true then ((zsC t.Weeks (120:Int)).bind fun d=>(if d=true then ((zsC t.Counts (100:Int)).bind fun e=>(if e=true then (gd (zne .i64 ((t.Counts.length:Int) - (1:Int))) ((idx t.Counts ((t.Counts.length:Int) - (1:Int))).bind fun f=>(if f=100 then (if (t.Rates.length:Int)=(0:Int) then (some false) else (zsF t 1000000 false (0:Int))) else (some false)))) else (some false))) else (some false))) else (some false))) else (some false)))
def zsH(l:List Tf):Nat->Int->Option (Int)
 | 0,_=>none
 | c+1,a=>(if a < (l.length:Int) then ((idx l a).bind fun d=>((zsG d).bind fun e=>(if e=true then ((idx l a).bind fun f=>((idx l (0:Int)).bind fun g=>(if (f.Rates.length:Int)=(g.Rates.length:Int) then (if a=0 then ((idx l a).bind fun h=>(if h.From=(0:Int) then (if (0:Int) < a then ((idx l a).bind fun i=>(gd (zne .i64 (a - 1)) ((idx l (a - 1)).bind fun j=>(if i.From<=j.From then (some 1) else (gd (zne .i64 (a+1)) (zsH l c (a+1))))))) else (gd (zne .i64 (a+1)) (zsH l c (a+1)))) else (some 1))) else (if (0:Int) < a then ((idx l a).bind fun m=>(gd (zne .i64 (a - 1)) ((idx l (a - 1)).bind fun n=>(if m.From<=n.From then (some 1) else (gd (zne .i64 (a+1)) (zsH l c (a+1))))))) else (gd (zne .i64 (a+1)) (zsH l c (a+1))))) else (some 1)))) else (some 1)))) else (if (l.length:Int)=(0:Int) then (some 1) else (some 0)))
def zsI(l:List Tf):Nat->Int->Int->Option (Int)
 | 0,_,_=>none
 | a+1,x1,x2=>(if x2 < (l.length:Int) then ((idx l x2).bind fun c=>(if (4:Int) < (c.Weeks.length:Int) then (some 3) else ((idx l x2).bind fun d=>(if (5:Int) < (d.Counts.length:Int) then (some 3) else ((idx l x2).bind fun e=>(if (3:Int) < (e.Rates.length:Int) then (some 3) else (gd (zne .i64 (x2+1)) (zsI l a x1 (x2+1))))))))) else (zsH l (l.length+1) (0:Int)))
def zsJ(l:List Tf):Option (Int):=(if (3:Int) < (l.length:Int) then (some 3) else (zsI l (l.length+1) (0:Int) (0:Int)))
def zsK(l:List Int)(n:Int):Nat->Int->Option (Int)
 | 0,_=>none
 | a+1,x1=>(gd (zne .i64 (x1+1)) (if (x1+1) < (l.length:Int) then (gd (zne .i64 (x1+1)) ((idx l (x1+1)).bind fun c=>(if c<=n then (gd (zne .i64 (x1+1)) (zsK l n a (x1+1))) else (some x1)))) else (some x1)))
def zsL(l:List Int)(n:Int):Option (Int):=(zsK l n 1000000 (0:Int))
def zsM(l:List Tf)(day:Int):Nat->(List Int)->Int->Option (Tf)
 | 0,_,_=>none
 | c+1,a,x3=>(if x3 < (l.length:Int) then ((idx l x3).bind fun d=>(gd (a.length < 1048576) (gd (zne .i64 (x3+1)) (zsM l day c (a++[d.From]) (x3+1))))) else ((zsL a day).bind fun e=>((idx l e).bind fun f=>(some f))))
def zsN(l:List Tf)(day:Int):Option (Tf):=(zsM l day (l.length+1) [] (0:Int))
def zsO(l:List Tf):Option (Int):=((idx l (0:Int)).bind fun a=>(some (a.Rates.length:Int)))
def zsP(l:List Int)(out:Int)(x2:Int)(a:Bool->Int->Option (Bool)):Nat->Bool->Int->Option (Bool)
 | 0,_,_=>none
 | c+1,b5,x6=>(if x6 < (l.length:Int) then (gd ((0:Int)<=out) (gd ((0:Int)<=(znj .u64 x2)) (gd ((znj .u64 x2)<=(64:Int)) (gd (zne .i64 (out / ((2:Int) ^ (Int.toNat (znj .u64 x2))))) (gd ((0:Int)<=(out / ((2:Int) ^ (Int.toNat (znj .u64 x2))))) (gd ((0:Int) < (2:Int)) (gd (zne .i64 ((out / ((2:Int) ^ (Int.toNat (znj .u64 x2)))) % (2:Int))) (if ((out / ((2:Int) ^ (Int.toNat (znj .u64 x2)))) % (2:Int))=(0:Int) then (gd ((0:Int)<=out) (gd ((0:Int)<=(znj .u64 x6)) (gd ((znj .u64 x6)<=(64:Int)) (gd (zne .i64 (out / ((2:Int) ^ (Int.toNat (znj .u64 x6))))) (gd ((0:Int)<=(out / ((2:Int) ^ (Int.toNat (znj .u64 x6))))) (gd ((0:Int) < (2:Int)) (gd (zne .i64 ((out / ((2:Int) ^ (Int.toNat (znj .u64 x6)))) % (2:Int))) (if ((out / ((2:Int) ^ (Int.toNat (znj .u64 x6)))) % (2:Int))=(0:Int) then ((idx l x6).bind fun d=>((idx l x2).bind fun e=>(if d < e then (some false) else (gd (zne .i64 (x6+1)) (zsP l out x2 a c b5 (x6+1)))))) else (gd (zne .i64 (x6+1)) (zsP l out x2 a c b5 (x6+1))))))))))) else (gd (zne .i64 (x6+1)) (zsP l out x2 a c b5 (x6+1))))))))))) else (gd (zne .i64 (x2+1)) (a b5 (x2+1))))
def zsQ(l:List Int)(out:Int):Nat->Bool->Int->Option (Bool)
 | 0,_,_=>none
 | a+1,b1,x2=>(if x2 < (l.length:Int) then (gd (zne .i64 (x2+1)) (zsP l out x2 (zsQ l out a) (((l.length:Int) - (x2+1)).toNat+1) b1 (x2+1))) else (some true))
def zsR(l:List Int)(out:Int):Option (Bool):=(zsQ l out (l.length+1) false (0:Int))
def zsS(l:List Int):Option (List Int):=(gd (([]:List Int).length+l.length<=1048576) (some ([]++l)))
def zsT(l:List Tf)(x4:Int)(a:Int)(d:Bool->Int->Option (Bool)):Nat->Bool->Int->Option (Bool)
 | 0,_,_=>none
 | f+1,e,c=>((idx l x4).bind fun g=>((idx g.Rates a).bind fun h=>(if c < (h.length:Int) then ((idx l x4).bind fun i=>((idx i.Rates a).bind fun j=>((idx j c).bind fun m=>(if (7:Int) < (m.length:Int) then (some false) else (gd (zne .i64 (c+1)) (zsT l x4 a d f e (c+1))))))) else (gd (zne .i64 (a+1)) (d e (a+1))))))
def zsU(l:List Tf)(x4:Int)(c:Bool->Int->Option (Bool)):Nat->Bool->Int->Option (Bool)
 | 0,_,_=>none
 | e+1,d,a=>((idx l x4).bind fun f=>(if a < (f.Rates.length:Int) then ((idx l x4).bind fun g=>((idx g.Rates a).bind fun h=>(if (7:Int) < (h.length:Int) then (some false) else (zsT l x4 a (zsU l x4 c e) 1000000 d (0:Int))))) else (gd (zne .i64 (x4+1)) (c d (x4+1)))))
def zsV(l:List Tf):Nat->Bool->Int->Option (Bool)
 | 0,_,_=>none
 | a+1,b1,x4=>(if x4 < (l.length:Int) then ((idx l x4).bind fun c=>(if (7:Int) < (c.Weeks.length:Int) then (some false) else ((idx l x4).bind fun d=>(if (7:Int) < (d.Counts.length:Int) then (some false) else ((idx l x4).bind fun e=>(if (5:Int) < (e.Rates.length:Int) then (some false) else (zsU l x4 (zsV l a) 1000000 b1 (0:Int)))))))) else (some true))
def zsW(l:List Tf):Option (Bool):=(if (5:Int) < (l.length:Int) then (some false) else (zsV l (l.length+1) false (0:Int)))
def zsX(l:List Tf):Option (Int):=((zsJ l).bind fun a=>(some a))
def zsY(l:List Tf):Option (Bool):=((zsW l).bind fun a=>(if a=true then ((zsX l).bind fun c=>(some (decide (c=0)))) else (some false)))
def zsZ(r:Rg)(n:Int):Option (Bool):=(if r.Lo<=n then (some (decide (n<=r.Hi))) else (some false))
def zs0(n:Int)(size:Int):Option (Bool):=(gd (zne .i64 (size - 1)) ((zsZ ({ Lo:=(0:Int),Hi:=(size - 1) }:Rg) n).bind fun a=>(some a)))
def zs1(n:Int):Option (Bool):=((zsZ ({ Lo:=(0:Int),Hi:=(120:Int) }:Rg) n).bind fun a=>(some a))
def zs2(n:Int):Option (Bool):=((zsZ ({ Lo:=(0:Int),Hi:=(100:Int) }:Rg) n).bind fun a=>(some a))
def zs3(n:Int):Option (Bool):=((zsZ ({ Lo:=(0:Int),Hi:=(100:Int) }:Rg) n).bind fun a=>(some a))
def zs4(l:List Int):Nat->Int->Option (Bool)
 | 0,_=>none
 | a+1,x2=>(if x2 < (l.length:Int) then ((idx l x2).bind fun c=>(gd (zne .i64 (x2 - 1)) ((idx l (x2 - 1)).bind fun d=>(if c<=d then (some false) else (gd (zne .i64 (x2+1)) (zs4 l a (x2+1))))))) else (some true))
def zs5(l:List Int):Option (Bool):=(zs4 l (((l.length:Int) - (1:Int)).toNat+1) (1:Int))
def zs6(l:List Int):Option (Bool):=(if (0:Int) < (l.length:Int) then ((idx l (0:Int)).bind fun a=>(if a=0 then ((zs5 l).bind fun c=>(some c)) else (some false))) else (some false))
def zs7(l:List Tf):Nat->(List Int)->Int->Option (List Int)
 | 0,_,_=>none
 | c+1,a,x2=>(if x2 < (l.length:Int) then ((idx l x2).bind fun d=>(gd (a.length < 1048576) (gd (zne .i64 (x2+1)) (zs7 l c (a++[d.From]) (x2+1))))) else (some a))
def zs8(l:List Tf):Option (List Int):=(zs7 l (l.length+1) [] (0:Int))
def zs9(l:List Tf)(t:Tf):Option (Bool):=((idx l (0:Int)).bind fun a=>(some (decide ((t.Rates.length:Int)=(a.Rates.length:Int)))))
def zta(l:List Tf)(n:Int):Option (Bool):=((idx l (0:Int)).bind fun a=>((zs0 n (a.Rates.length:Int)).bind fun c=>(some c)))
def ztb(t:Tf):Option (Bool):=(if (4:Int) < (t.Weeks.length:Int) then (some true) else (if (5:Int) < (t.Counts.length:Int) then (some true) else (some (decide ((3:Int) < (t.Rates.length:Int))))))
def ztc(x:Int):Option (Bool):=(some (!(decide (x=x))))
def ztd(x:Int):Option (Bool):=(some (!(decide (x=x))))
def zte(x:Int)(y:Int):Option (Bool):=((ztc x).bind fun a=>(if a=true then ((ztc y).bind fun c=>(if c=true then (some (decide (x < y))) else (some true))) else (some (decide (x < y)))))
def ztf(l:List Int)(x:Int):Nat->Int->Int->Option (Int × Bool)
 | 0,_,_=>none
 | a+1,x1,x2=>(if x1 < x2 then (gd (zne .i64 (x1+x2)) (gd ((0:Int)<=(znj .u64 (x1+x2))) (gd ((0:Int)<=(1:Int)) (gd ((1:Int)<=(64:Int)) (gd (zne .u64 ((znj .u64 (x1+x2)) / (2:Int))) ((idx l (znj .i64 ((znj .u64 (x1+x2)) / (2:Int)))).bind fun c=>((zte c x).bind fun d=>(if d=true then (gd (zne .i64 ((znj .i64 ((znj .u64 (x1+x2)) / (2:Int)))+(1:Int))) (ztf l x a ((znj .i64 ((znj .u64 (x1+x2)) / (2:Int)))+(1:Int)) x2)) else (ztf l x a x1 (znj .i64 ((znj .u64 (x1+x2)) / (2:Int)))))))))))) else (if x1 < (l.length:Int) then ((idx l x1).bind fun e=>(if e=x then (some (x1,true)) else ((idx l x1).bind fun f=>((ztd f).bind fun g=>(if g=true then ((ztd x).bind fun h=>(some (x1,h))) else (some (x1,false))))))) else (some (x1,false))))
def ztg(l:List Int)(x:Int):Option (Int × Bool):=(ztf l x (l.length+1) (0:Int) (l.length:Int))
def zth(days:List Int)(day:Int):Option (Int):=(gd (zne .i64 (day+1)) ((ztg days (day+1)).bind fun a=>(gd (zne .i64 (a.1 - (1:Int))) (some (a.1 - (1:Int))))))
def zti(l:List Tf)(day:Int):Option (Tf):=((zs8 l).bind fun a=>((zth a day).bind fun c=>((idx l c).bind fun d=>(some d))))
def ztj(_t:Tf)(loss:Int):Option (Int):=(some loss)
def ztk(t:Tf)(loss:Int):Option (Int):=(gd (zne .i64 (loss - t.Least)) (some (loss - t.Least)))
def ztl(t:Tf)(h:Ht):Option (Int):=((idx t.Rates h.crop).bind fun i=>((zth t.Weeks h.Day).bind fun j=>((idx i j).bind fun g=>((ztg t.Counts h.Count).bind fun d=>(if d.2=true then ((idx g d.1).bind fun l=>(some l)) else (gd (zne .i64 (d.1 - (1:Int))) ((idx t.Counts (d.1 - (1:Int))).bind fun a=>((idx t.Counts d.1).bind fun c=>(gd (zne .i64 (d.1 - (1:Int))) ((idx g (d.1 - (1:Int))).bind fun e=>(gd (zne .i64 (c - h.Count)) (gd ((0:Int)<=e) (gd ((0:Int)<=(c - h.Count)) (gd (zne .i64 (e * (c - h.Count))) ((idx g d.1).bind fun f=>(gd (zne .i64 (h.Count - a)) (gd ((0:Int)<=f) (gd ((0:Int)<=(h.Count - a)) (gd (zne .i64 (f * (h.Count - a))) (gd (zne .i64 ((e * (c - h.Count))+(f * (h.Count - a)))) (gd (zne .i64 (c - a)) (gd ((0:Int)<=((e * (c - h.Count))+(f * (h.Count - a)))) (gd ((0:Int) < (c - a)) (gd (zne .i64 (((e * (c - h.Count))+(f * (h.Count - a))) / (c - a))) (some (((e * (c - h.Count))+(f * (h.Count - a))) / (c - a)))))))))))))))))))))))))))
def ztm(x:Tf)(passes:Tf->Option (Bool)):Option (Bool):=((passes x).bind fun a=>(some (!a)))
def ztn(l:List Tf)(p:Tf->Option (Bool)):Nat->Int->Option (Int)
 | 0,_=>none
 | a+1,x2=>(if x2 < (l.length:Int) then ((idx l x2).bind fun c=>((p c).bind fun d=>(if d=true then (some x2) else (gd (zne .i64 (x2+1)) (ztn l p a (x2+1)))))) else (some (-1:Int)))
def zto(l:List Tf)(p:Tf->Option (Bool)):Option (Int):=(ztn l p (l.length+1) (0:Int))
def ztp(l:List Tf)(p:Tf->Option (Bool)):Option (Bool):=((zto l p).bind fun a=>(some (decide ((0:Int)<=a))))
def ztq(l:List Tf)(passes:Tf->Option (Bool)):Option (Bool):=((ztp l (fun a=>ztm a passes)).bind fun c=>(some (!c)))
def ztr(l:List Tf)(p:Tf->Option (Bool)):Nat->Int->Option (Int)
 | 0,_=>none
 | a+1,x2=>(if x2 < (l.length:Int) then ((idx l x2).bind fun c=>((p c).bind fun d=>(if d=true then (some x2) else (gd (zne .i64 (x2+1)) (ztr l p a (x2+1)))))) else (some (-1:Int)))
def zts(l:List Tf)(p:Tf->Option (Bool)):Option (Int):=(ztr l p (l.length+1) (0:Int))
def ztt(l:List Tf)(p:Tf->Option (Bool)):Option (Bool):=((zts l p).bind fun a=>(some (decide ((0:Int)<=a))))
def ztu(x:Int)(passes:Int->Option (Bool)):Option (Bool):=((passes x).bind fun a=>(some (!a)))
def ztv(l:List Int)(p:Int->Option (Bool)):Nat->Int->Option (Int)
 | 0,_=>none
 | a+1,x2=>(if x2 < (l.length:Int) then ((idx l x2).bind fun c=>((p c).bind fun d=>(if d=true then (some x2) else (gd (zne .i64 (x2+1)) (ztv l p a (x2+1)))))) else (some (-1:Int)))
def ztw(l:List Int)(p:Int->Option (Bool)):Option (Int):=(ztv l p (l.length+1) (0:Int))
def ztx(l:List Int)(p:Int->Option (Bool)):Option (Bool):=((ztw l p).bind fun a=>(some (decide ((0:Int)<=a))))
def zty(l:List Int)(passes:Int->Option (Bool)):Option (Bool):=((ztx l (fun a=>ztu a passes)).bind fun c=>(some (!c)))
def ztz(x:List Int)(passes:List Int->Option (Bool)):Option (Bool):=((passes x).bind fun a=>(some (!a)))
def ztA(l:List (List Int))(p:List Int->Option (Bool)):Nat->Int->Option (Int)
 | 0,_=>none
 | a+1,x2=>(if x2 < (l.length:Int) then ((idx l x2).bind fun c=>((p c).bind fun d=>(if d=true then (some x2) else (gd (zne .i64 (x2+1)) (ztA l p a (x2+1)))))) else (some (-1:Int)))
def ztB(l:List (List Int))(p:List Int->Option (Bool)):Option (Int):=(ztA l p (l.length+1) (0:Int))
def ztC(l:List (List Int))(p:List Int->Option (Bool)):Option (Bool):=((ztB l p).bind fun a=>(some (decide ((0:Int)<=a))))
def ztD(l:List (List Int))(passes:List Int->Option (Bool)):Option (Bool):=((ztC l (fun a=>ztz a passes)).bind fun c=>(some (!c)))
def ztE(x:List (List Int))(passes:List (List Int)->Option (Bool)):Option (Bool):=((passes x).bind fun a=>(some (!a)))
def ztF(l:List (List (List Int)))(p:List (List Int)->Option (Bool)):Nat->Int->Option (Int)
 | 0,_=>none
 | a+1,x2=>(if x2 < (l.length:Int) then ((idx l x2).bind fun c=>((p c).bind fun d=>(if d=true then (some x2) else (gd (zne .i64 (x2+1)) (ztF l p a (x2+1)))))) else (some (-1:Int)))
def ztG(l:List (List (List Int)))(p:List (List Int)->Option (Bool)):Option (Int):=(ztF l p (l.length+1) (0:Int))
def ztH(l:List (List (List Int)))(p:List (List Int)->Option (Bool)):Option (Bool):=((ztG l p).bind fun a=>(some (decide ((0:Int)<=a))))
def ztI(l:List (List (List Int)))(passes:List (List Int)->Option (Bool)):Option (Bool):=((ztH l (fun a=>ztE a passes)).bind fun c=>(some (!c)))
def ztJ(t:Tf)(rates:List Int):Option (Bool):=(if (rates.length:Int)=(t.Counts.length:Int) then ((zty rates (fun a=>zs3 a)).bind fun c=>(some c)) else (some false))
def ztK(t:Tf)(weeks:List (List Int)):Option (Bool):=(if (weeks.length:Int)=(t.Weeks.length:Int) then ((ztD weeks (fun a=>ztJ t a)).bind fun c=>(some c)) else (some false))
def ztL(t:Tf):Option (Bool):=((zs1 t.From).bind fun a=>(if a=true then ((zs3 t.Least).bind fun c=>(if c=true then ((zs6 t.Weeks).bind fun d=>(if d=true then ((zty t.Weeks (fun e=>zs1 e)).bind fun f=>(if f=true then ((zs6 t.Counts).bind fun g=>(if g=true then (gd (zne .i64 ((t.Counts.length:Int) - (1:Int))) ((idx t.Counts ((t.Counts.length:Int) - (1:Int))).bind fun h=>(if h=100 then (if (0:Int) < (t.Rates.length:Int) then ((ztI t.Rates (fun i=>ztK t i)).bind fun j=>(some j)) else (some false)) else (some false)))) else (some false))) else (some false))) else (some false))) else (some false))) else (some false)))
def ztM(l:List Tf):Option (Bool):=(if (3:Int) < (l.length:Int) then (some true) else ((ztt l (fun a=>ztb a)).bind fun c=>(some c)))
def ztN(l:List Tf):Option (Bool):=((ztq l (fun a=>ztL a)).bind fun c=>(if c=true then ((zs8 l).bind fun d=>((zs6 d).bind fun e=>(if e=true then ((ztq l (fun f=>zs9 l f)).bind fun g=>(some g)) else (some false)))) else (some false)))
def ztO(l:List Tf):Option (Int):=((ztM l).bind fun a=>(if a=true then (some 3) else ((ztN l).bind fun c=>(if c=true then (some 0) else (some 1)))))
def ztP(t:Tf):Option (Mnr):=(if t.Whole=true then (some ({ paid:=(fun a c=>ztj a c) }:Mnr)) else (some ({ paid:=(fun d e=>ztk d e) }:Mnr)))
def ztQ(t:Tf)(h:Ht):Option (Int):=((ztl t h).bind fun a=>(if a < t.Least then (some 0) else ((ztP t).bind fun c=>((c.paid t a).bind fun d=>(some d)))))
def ztR(l:List Tf):Option (Wk × Int):=((ztO l).bind fun a=>(if a=0 then (some (({ tariffs:=l,parts:=(some fun _=>none:Option (Ht->Option (Int))) }:Wk),(0:Int))) else (some (({ tariffs:=[],parts:=none }:Wk),a))))
def ztS(w:Wk)(h:Ht):Option (Int × Option (Ht->Option (Int))):=(gd (MK.fit h) (zrU (zrM w.parts h) ((zti w.tariffs h.Day).bind fun c=>((ztQ c h).bind fun a=>(gd (MK.fit h) ((zrN w.parts h a).bind fun d=>(some (a,d)))))) fun e=>(some (e,w.parts))))
def ztT(l:List Tf)(crop:Int)(day:Int)(count:Int):Option (Int × Int):=((ztR l).bind fun a=>(if a.2=(0:Int) then ((zta a.1.tariffs crop).bind fun c=>(if c=true then ((zs1 day).bind fun d=>(if d=true then ((zs2 count).bind fun e=>(if e=true then ((ztS a.1 ({ Day:=day,Count:=count,crop:=crop }:Ht)).bind fun f=>(some (f.1,(0:Int)))) else (some ((0:Int),(2:Int))))) else (some ((0:Int),(2:Int))))) else (some ((0:Int),(2:Int))))) else (some ((0:Int),a.2))))
def ztU(crop:Int)(day:Int)(c:Wk × Int):Nat->(Option (Ht->Option (Int)))->Int->Option (Int × Int)
 | 0,_,_=>none
 | e+1,f,a=>(if a < 101 then ((ztS ({ tariffs:=c.1.tariffs,parts:=f }:Wk) ({ Day:=day,Count:=a,crop:=crop }:Ht)).bind fun d=>(if (0:Int) < d.1 then (some (a,(0:Int))) else (gd (zne .i64 (a+1)) (ztU crop day c e d.2 (a+1))))) else (some ((0:Int),(7:Int))))
def ztV(l:List Tf)(crop:Int)(day:Int):Option (Int × Int):=((ztR l).bind fun a=>(if a.2=(0:Int) then ((zta a.1.tariffs crop).bind fun c=>(if c=true then ((zs1 day).bind fun d=>(if d=true then (ztU crop day a (Int.toNat (101:Int)+1) a.1.parts (0:Int)) else (some ((0:Int),(2:Int))))) else (some ((0:Int),(2:Int))))) else (some ((0:Int),a.2))))
def ztW(l:List Tf)(x2:Int)(f:Int)(g:Bool)(h:Int)(d:List (List (List Int)))(a:Int)(i:Int->Bool->Int->(List (List (List Int)))->Int->Option (List Tf)):Nat->(List (List Int))->Int->Option (List Tf)
 | 0,_,_=>none
 | j+1,e,c=>((idx l x2).bind fun m=>((idx m.Rates a).bind fun n=>(if c < (n.length:Int) then ((idx l x2).bind fun o=>((idx o.Rates a).bind fun p=>((idx p c).bind fun q=>((zsS q).bind fun r=>(gd (e.length < 1048576) (gd (zne .i64 (c+1)) (ztW l x2 f g h d a i j (e++[r]) (c+1)))))))) else (gd (d.length < 1048576) (gd (zne .i64 (a+1)) (i f g h (d++[e]) (a+1)))))))
def ztX(l:List Tf)(a:List Tf)(x2:Int)(c:List Int)(d:List Int)(e:(List Tf)->Int->Option (List Tf)):Nat->Int->Bool->Int->(List (List (List Int)))->Int->Option (List Tf)
 | 0,_,_,_,_,_=>none
 | m+1,f,g,h,i,j=>((idx l x2).bind fun n=>(if j < (n.Rates.length:Int) then (ztW l x2 f g h i j (ztX l a x2 c d e m) 1000000 [] (0:Int)) else (gd (a.length < 1048576) (gd (zne .i64 (x2+1)) (e (a++[({ From:=f,Whole:=g,Least:=h,Weeks:=c,Counts:=d,Rates:=i }:Tf)]) (x2+1))))))
def ztY(l:List Tf):Nat->(List Tf)->Int->Option (List Tf)
 | 0,_,_=>none
 | c+1,a,x2=>(if x2 < (l.length:Int) then ((idx l x2).bind fun d=>((idx l x2).bind fun e=>((idx l x2).bind fun f=>((idx l x2).bind fun g=>((zsS g.Weeks).bind fun h=>((idx l x2).bind fun i=>((zsS i.Counts).bind fun j=>(ztX l a x2 h j (ztY l c) 1000000 d.From e.Whole f.Least [] (0:Int))))))))) else (some a))
def ztZ(l:List Tf):Option (List Tf):=(ztY l (l.length+1) [] (0:Int))
def zt0(l:List Tf)(crop:Int)(day:Int)(count:Int)(more:Int):Option (Bool):=((zsY l).bind fun g=>(if g=true then ((zsO l).bind fun a=>(gd ((0:Int)<=(znj .i64 crop)) (gd ((0:Int) < a) (gd (zne .i64 ((znj .i64 crop) % a)) (gd ((0:Int)<=(znj .i64 day)) (gd ((0:Int) < (121:Int)) (gd (zne .i64 ((znj .i64 day) % (121:Int))) (gd ((0:Int)<=(znj .i64 count)) (gd ((0:Int) < (101:Int)) (gd (zne .i64 ((znj .i64 count) % (101:Int))) ((zsN l ((znj .i64 day) % (121:Int))).bind fun e=>((idx e.Rates ((znj .i64 crop) % a)).bind fun h=>((zsL e.Weeks ((znj .i64 day) % (121:Int))).bind fun i=>((idx h i).bind fun j=>((zsR j (0:Int)).bind fun m=>(if m=true then (gd (zne .i64 (((znj .i64 count) % (101:Int))+(znj .i64 more))) ((ztZ l).bind fun n=>((ztT n ((znj .i64 crop) % a) ((znj .i64 day) % (121:Int)) ((znj .i64 count) % (101:Int))).bind fun c=>((ztZ l).bind fun o=>((ztT o ((znj .i64 crop) % a) ((znj .i64 day) % (121:Int)) (min (100:Int) (((znj .i64 count) % (101:Int))+(znj .i64 more)))).bind fun f=>((ztZ l).bind fun p=>((ztV p ((znj .i64 crop) % a) ((znj .i64 day) % (121:Int))).bind fun d=>(if c.2=(0:Int) then (if f.2=(0:Int) then (if f.1 < c.1 then (some false) else (if d.2=(0:Int) then (if ((decide ((0:Int) < c.1)) == (decide (d.1<=((znj .i64 count) % (101:Int)))))=true then ((zsA).bind fun q=>(some q)) else (some false)) else (if d.2=(7:Int) then (if ((decide ((0:Int) < c.1)) == false)=true then ((zsA).bind fun r=>(some r)) else (some false)) else (some false)))) else (some false)) else (some false))))))))) else ((zsA).bind fun s=>(some s)))))))))))))))))) else ((zsA).bind fun t=>(some t))))
theorem zt1{a d:Int}{e:Bool}{f g i:C}{o:Nat}{m:M}{Q:V->M->Prop}(h:(∀j:M,(j=(M.new m (AO.cells 6 [Il a,.bool e,Il d,f,g,i] false)))->∃p,((ldC j (.ptr o 0))=(some p))/\∃q r s t u w,((ldA j (.ptr m.nxt 0) 6)=(some [Il q,.bool r,Il s,t,u,w]))/\znD prog tbl [.agg 6 [Il q,.bool r,Il s,t,u,w]] p j (fun y z=>∃l,(y=(.c (.bool l)))/\Q (.c (.bool (!l))) z))):Wc prog tbl 104 [.agg 6 [Il a,.bool e,Il d,f,g,i],.c (.ptr o 0)] m Q:=zqP (n:=2) rfl (by kernel_rfl) (by kernel_rfl) h
theorem zt2{a:Int}{d:Nat}{m:M}{Q:V->M->Prop}(h:(∃e,((ldC m (.ptr d 0))=(some e))/\znD prog tbl [.c (Il a)] e m (fun g i=>∃f,(g=(.c (.bool f)))/\Q (.c (.bool (!f))) i))):Wc prog tbl 122 [.c (Il a),.c (.ptr d 0)] m Q:=zqP (n:=2) rfl (by kernel_rfl) (by kernel_rfl) h
theorem zt3{a:C}{d:Nat}{m:M}{Q:V->M->Prop}(h:(∃e,((ldC m (.ptr d 0))=(some e))/\znD prog tbl [.c a] e m (fun g i=>∃f,(g=(.c (.bool f)))/\Q (.c (.bool (!f))) i))):Wc prog tbl 135 [.c (a),.c (.ptr d 0)] m Q:=zqP (n:=2) rfl (by kernel_rfl) (by kernel_rfl) h
theorem zt4{a:C}{d:Nat}{m:M}{Q:V->M->Prop}(h:(∃e,((ldC m (.ptr d 0))=(some e))/\znD prog tbl [.c a] e m (fun g i=>∃f,(g=(.c (.bool f)))/\Q (.c (.bool (!f))) i))):Wc prog tbl 124 [.c (a),.c (.ptr d 0)] m Q:=zqP (n:=2) rfl (by kernel_rfl) (by kernel_rfl) h
theorem w18{f:C}{a d e:Int}{m:M}{Q:V->M->Prop}(h:(Wc prog tbl 53 [.c f] m (fun J g=>∃w y u,J=.tup [.agg 2 [w,y],(.c (Il u))]/\∀z:M,(z=M.new g (AO.cells 2 [C.sl0,C.map0] false))->∃j:M,stC z (.ptr g.nxt 0) 2 [w,y]=some j/\ifB (!decide (u=0)) (Q (.tup [.c (Il 0),(.c (Il u))]) j) (isPt (.ptr g.nxt 0)/\∃A,ldC j (.ptr g.nxt 0)=some A/\Wc prog tbl 54 [.c A,(.c (Il a))] j (fun N B=>∃l,N=.c (.bool l)/\ifB (!l) (Q (.tup [.c (Il 0),(.c (Il 2))]) B) (Wc prog tbl 55 [.c (Il d)] B (fun D o=>∃p,D=.c (.bool p)/\ifB (!p) (Q (.tup [.c (Il 0),(.c (Il 2))]) o) (Wc prog tbl 56 [.c (Il e)] o (fun F i=>∃q,F=.c (.bool q)/\ifB (!q) (Q (.tup [.c (Il 0),(.c (Il 2))]) i) (∃r s,ldA i (.ptr g.nxt 0) 2=some [r,s]/\Wc prog tbl 57 [.agg 2 [r,s],(.agg 3 [Il d,Il e,Il a])] i (fun G I=>∃t,G=.c (Il t)/\Q (.tup [.c (Il t),(.c (Il 0))]) I))))))))))):Wc prog tbl 18 [.c f,(.c (Il a)),(.c (Il d)),(.c (Il e))] m Q:=zqP (n:=4) rfl (by kernel_rfl) (by kernel_rfl) h
theorem w21{a:C}{m:M}{Q:V->M->Prop}(h:(Wc prog tbl 60 [.c a] m (fun i d=>∃e,i=.c (.bool e)/\ifB e (Q (.c (Il 3)) d) (Wc prog tbl 61 [.c a] d (fun j f=>∃g,j=.c (.bool g)/\ifB (!g) (Q (.c (Il 1)) f) (Q (.c (Il 0)) f)))))):Wc prog tbl 21 [.c a] m Q:=zqP (n:=1) rfl (by kernel_rfl) (by kernel_rfl) h
theorem w51{d:C}{a:Int}{m:M}{Q:V->M->Prop}(h:(∀p:List V->M->Prop,(∀s:Bool,∀f:Int,∀q:M,(isSl d/\ifB (decide (f < (slLen d:Int))) (zne .i64 (f+1)/\∀i:List V->M->Prop,(∀j:Bool,∀e:Int,∀g:M,(isSl d/\ifB (decide (e < (slLen d:Int))) ((0:Int)<=a/\(0:Int)<=(znj .u64 f)/\(znj .u64 f)<=(64:Int)/\zne .i64 (a / ((2:Int) ^ (Int.toNat (znj .u64 f))))/\(0:Int)<=(a / ((2:Int) ^ (Int.toNat (znj .u64 f))))/\(0:Int) < (2:Int)/\zne .i64 ((a / ((2:Int) ^ (Int.toNat (znj .u64 f)))) % (2:Int))/\ifB (decide (((a / ((2:Int) ^ (Int.toNat (znj .u64 f)))) % (2:Int))=(0:Int))) ((0:Int)<=a/\(0:Int)<=(znj .u64 e)/\(znj .u64 e)<=(64:Int)/\zne .i64 (a / ((2:Int) ^ (Int.toNat (znj .u64 e))))/\(0:Int)<=(a / ((2:Int) ^ (Int.toNat (znj .u64 e))))/\(0:Int) < (2:Int)/\zne .i64 ((a / ((2:Int) ^ (Int.toNat (znj .u64 e)))) % (2:Int))/\ifB (decide (((a / ((2:Int) ^ (Int.toNat (znj .u64 e)))) % (2:Int))=(0:Int))) (∃r:Nat,e=((r:Nat):Int)/\r < (slLen d)/\∃t,ldC g (zng d (r * 1))=some (Il t)/\∃l:Nat,f=((l:Nat):Int)/\l < (slLen d)/\∃o,ldC g (zng d (l * 1))=some (Il o)/\ifB (decide (t < o)) (Q (.c (.bool false)) g) (zne .i64 (e+1)/\i [.c (.bool j),(.c (Il (e+1)))] g)) (zne .i64 (e+1)/\i [.c (.bool j),(.c (Il (e+1)))] g)) (zne .i64 (e+1)/\i [.c (.bool j),(.c (Il (e+1)))] g)) (zne .i64 (f+1)/\p [.c (.bool j),(.c (Il (f+1)))] g))->i [.c (.bool j),(.c (Il e))] g)->i [.c (.bool s),(.c (Il (f+1)))] q) (Q (.c (.bool true)) q))->p [.c (.bool s),(.c (Il f))] q)->p [.c (.bool false),(.c (Il 0))] m)):Wc prog tbl 51 [.c d,(.c (Il a))] m Q:=zqP (n:=2) rfl (by kernel_rfl) (by kernel_rfl) h
theorem w54{a:C}{d:Int}{m:M}{Q:V->M->Prop}(h:(∃e:Nat,(0:Int)=((e:Nat):Int)/\e < (slLen a)/\isPt (zng a (e * 6))/\∃f,ldC m (znf (zng a (e * 6)) 5)=some f/\isSl f/\Wc prog tbl 77 [.c (Il d),(.c (Il (slLen f:Int)))] m (fun i j=>∃g,i=.c (.bool g)/\Q (.c (.bool g)) j))):Wc prog tbl 54 [.c a,(.c (Il d))] m Q:=zqP (n:=2) rfl (by kernel_rfl) (by kernel_rfl) h
theorem w57{e f:C}{g i j:Int}{m:M}{Q:V->M->Prop}(h:(∀a:M,(a=M.new m (AO.cells 2 [e,f] false))->∀d:M,(d=M.new a (AO.cells 3 [Il g,Il i,Il j] false))->isPt (.ptr m.nxt 0)/\∃P,ldC d (.ptr m.nxt 1)=some P/\∃S T Y,ldA d (.ptr a.nxt 0) 3=some [Il S,Il T,Il Y]/\∃O:Option U,lkM prog 103 d P (.agg 3 [Il S,Il T,Il Y])=some O/\((O=Option.none)->isPt (.ptr m.nxt 0)/\∃Z,ldC d (.ptr m.nxt 0)=some Z/\isPt (.ptr a.nxt 0)/\isPt (.ptr a.nxt 0)/\∃x8,ldC d (.ptr a.nxt 0)=some (Il x8)/\Wc prog tbl 79 [.c Z,(.c (Il x8))] d (fun v9 s=>∃t u w y z A,v9=.agg 6 [Il t,.bool u,Il w,y,z,A]/\∃l o p,ldA s (.ptr a.nxt 0) 3=some [Il l,Il o,Il p]/\ldA d (.ptr a.nxt 0) 3=some [Il l,Il o,Il p]/\Wc prog tbl 80 [.agg 6 [Il t,.bool u,Il w,y,z,A],(.agg 3 [Il l,Il o,Il p])] s (fun ab q=>∃r,ab=.c (Il r)/\isPt (.ptr m.nxt 0)/\∃B,ldC q (.ptr m.nxt 1)=some B/\∃D F G,ldA q (.ptr a.nxt 0) 3=some [Il D,Il F,Il G]/\∃I:M,upM prog 103 q B (.agg 3 [Il D,Il F,Il G]) (.c (Il r))=some I/\Q (.c (Il r)) I)))/\∀J:U,(O=some J)->∃N,J=.c (Il N)/\Q (.c (Il N)) d)):Wc prog tbl 57 [.agg 2 [e,f],(.agg 3 [Il g,Il i,Il j])] m Q:=zqP (n:=2) rfl (by kernel_rfl) (by kernel_rfl) h
theorem w60{a:C}{m:M}{Q:V->M->Prop}(h:(isSl a/\ifB (decide ((3:Int) < (slLen a:Int))) (Q (.c (.bool true)) m) (Wc prog tbl 82 [.c a,(.c (C.fn (Fn.func 83) [] []))] m (fun e f=>∃d,e=.c (.bool d)/\Q (.c (.bool d)) f)))):Wc prog tbl 60 [.c a] m Q:=zqP (n:=1) rfl (by kernel_rfl) (by kernel_rfl) h
theorem w79{a:C}{d:Int}{m:M}{Q:V->M->Prop}(h:(∀u:M,(u=M.new m (AO.cells 6 [Il 0,.bool false,Il 0,C.sl0,C.sl0,C.sl0] false))->Wc prog tbl 87 [.c a] u (fun D F=>∃w,D=.c w/\Wc prog tbl 98 [.c w,(.c (Il d))] F (fun G y=>∃z,G=.c (Il z)/\∃t:Nat,z=((t:Nat):Int)/\t < (slLen a)/\∃A B f g i j,ldA y (zng a (t * 6)) 6=some [Il A,.bool B,Il f,g,i,j]/\∃e:M,stC y (.ptr m.nxt 0) 6 [Il A,.bool B,Il f,g,i,j]=some e/\∃l o p q r s,ldA e (.ptr m.nxt 0) 6=some [Il l,.bool o,Il p,q,r,s]/\Q (.agg 6 [Il l,.bool o,Il p,q,r,s]) e)))):Wc prog tbl 79 [.c a,(.c (Il d))] m Q:=zqP (n:=2) rfl (by kernel_rfl) (by kernel_rfl) h
theorem w82{a d:C}{m:M}{Q:V->M->Prop}(h:(Wc prog tbl 102 [.c a,.c d] m (fun f g=>∃e,f=.c (Il e)/\Q (.c (.bool (decide ((0:Int)<=e)))) g))):Wc prog tbl 82 [.c a,.c d] m Q:=zqP (n:=2) rfl (by kernel_rfl) (by kernel_rfl) h
theorem w85{e f:Int}{g:Bool}{i j l:C}{m:M}{Q:V->M->Prop}(h:(∀P:M,(P=M.new m (AO.cells 6 [Il e,.bool g,Il f,i,j,l] false))->isPt (.ptr m.nxt 0)/\∃Y,ldC P (.ptr m.nxt 0)=some (Il Y)/\Wc prog tbl 55 [.c (Il Y)] P (fun v2 S=>∃Z,v2=.c (.bool Z)/\ifB Z (isPt (.ptr m.nxt 0)/\∃x5,ldC S (.ptr m.nxt 2)=some (Il x5)/\Wc prog tbl 105 [.c (Il x5)] S (fun v6 T=>∃b8,v6=.c (.bool b8)/\ifB b8 (isPt (.ptr m.nxt 0)/\∃c9,ldC T (.ptr m.nxt 3)=some c9/\Wc prog tbl 86 [.c c9] T (fun ad o=>∃t,ad=.c (.bool t)/\ifB t (isPt (.ptr m.nxt 0)/\∃u,ldC o (.ptr m.nxt 3)=some u/\Wc prog tbl 106 [.c u,(.c (C.fn (Fn.func 55) [] []))] o (fun ae p=>∃w,ae=.c (.bool w)/\ifB w (isPt (.ptr m.nxt 0)/\∃y,ldC p (.ptr m.nxt 4)=some y/\Wc prog tbl 86 [.c y] p (fun af a=>∃z,af=.c (.bool z)/\ifB z (isPt (.ptr m.nxt 0)/\∃q,ldC a (.ptr m.nxt 4)=some q/\isPt (.ptr m.nxt 0)/\∃d,ldC a (.ptr m.nxt 4)=some d/\isSl d/\zne .i64 ((slLen d:Int) - (1:Int))/\∃r:Nat,((slLen d:Int) - (1:Int))=((r:Nat):Int)/\r < (slLen q)/\∃A,ldC a (zng q (r * 1))=some (Il A)/\ifB (decide (A=100)) (isPt (.ptr m.nxt 0)/\∃s,ldC a (.ptr m.nxt 5)=some s/\isSl s/\ifB (decide ((0:Int) < (slLen s:Int))) (isPt (.ptr m.nxt 0)/\∃B,ldC a (.ptr m.nxt 5)=some B/\∃D F G I J N,ldA a (.ptr m.nxt 0) 6=some [Il D,.bool F,Il G,I,J,N]/\zaa (zaE vW [.agg 6 [Il D,.bool F,Il G,I,J,N]]) False fun ag=>Wc prog tbl 107 [.c B,(.c (C.fn (Fn.func 108) ag []))] a (fun ah ai=>∃O,ah=.c (.bool O)/\Q (.c (.bool O)) ai)) (Q (.c (.bool false)) a)) (Q (.c (.bool false)) a)) (Q (.c (.bool false)) a))) (Q (.c (.bool false)) p))) (Q (.c (.bool false)) o))) (Q (.c (.bool false)) T))) (Q (.c (.bool false)) S)))):Wc prog tbl 85 [.agg 6 [Il e,.bool g,Il f,i,j,l]] m Q:=zqP (n:=1) rfl (by kernel_rfl) (by kernel_rfl) h
theorem w88{a d e f:C}{g i:Int}{j:Bool}{m:M}{Q:V->M->Prop}(h:(∀l:M,(l=M.new m (AO.cells 6 [Il g,.bool j,Il i,d,e,f] false))->isPt (.ptr m.nxt 0)/\∃p,ldC l (.ptr m.nxt 5)=some p/\isSl p/\∃o:Nat,(0:Int)=((o:Nat):Int)/\o < (slLen a)/\isPt (zng a (o * 6))/\∃q,ldC l (znf (zng a (o * 6)) 5)=some q/\isSl q/\Q (.c (.bool (decide ((slLen p:Int)=(slLen q:Int))))) l)):Wc prog tbl 88 [.c a,(.agg 6 [Il g,.bool j,Il i,d,e,f])] m Q:=zqP (n:=2) rfl (by kernel_rfl) (by kernel_rfl) h
theorem w99{t u w y z:Int}{A:Bool}{B D F:C}{m:M}{Q:V->M->Prop}(h:(∀e:M,(e=M.new m (AO.cells 6 [Il t,.bool A,Il u,B,D,F] false))->∀q:M,(q=M.new e (AO.cells 3 [Il w,Il y,Il z] false))->isPt (.ptr m.nxt 0)/\∃s,ldC q (.ptr m.nxt 5)=some s/\isPt (.ptr e.nxt 0)/\∃x3,ldC q (.ptr e.nxt 2)=some (Il x3)/\∃Z:Nat,x3=((Z:Nat):Int)/\Z < (slLen s)/\∃G,ldC q (zng s (Z * 1))=some G/\isPt (.ptr m.nxt 0)/\∃c6,ldC q (.ptr m.nxt 3)=some c6/\isPt (.ptr e.nxt 0)/\isPt (.ptr e.nxt 0)/\∃x7,ldC q (.ptr e.nxt 0)=some (Il x7)/\Wc prog tbl 98 [.c c6,(.c (Il x7))] q (fun v8 r=>∃aa,v8=.c (Il aa)/\ifB (cmC G) (ldC r (zng s (Z * 1))=some G) False/\ldC r (.ptr e.nxt 2)=some (Il x3)/\ifB (cmC s) (ldC r (.ptr m.nxt 5)=some s) False/\∃I:Nat,aa=((I:Nat):Int)/\I < (slLen G)/\∃l,ldC r (zng G (I * 1))=some l/\isPt (.ptr m.nxt 0)/\∃ab,ldC r (.ptr m.nxt 4)=some ab/\isPt (.ptr e.nxt 0)/\isPt (.ptr e.nxt 0)/\∃ac,ldC r (.ptr e.nxt 1)=some (Il ac)/\Wc prog tbl 117 [.c ab,(.c (Il ac))] r (fun ai f=>∃g ad,ai=.tup [.c (Il g),(.c (.bool ad))]/\ifB ad (∃J:Nat,g=((J:Nat):Int)/\J < (slLen l)/\∃ae,ldC f (zng l (J * 1))=some (Il ae)/\Q (.c (Il ae)) f) (isPt (.ptr m.nxt 0)/\∃N,ldC f (.ptr m.nxt 4)=some N/\zne .i64 (g - 1)/\∃O:Nat,(g - 1)=((O:Nat):Int)/\O < (slLen N)/\∃a,ldC f (zng N (O * 1))=some (Il a)/\isPt (.ptr m.nxt 0)/\∃P,ldC f (.ptr m.nxt 4)=some P/\∃S:Nat,g=((S:Nat):Int)/\S < (slLen P)/\∃d,ldC f (zng P (S * 1))=some (Il d)/\zne .i64 (g - 1)/\∃T:Nat,(g - 1)=((T:Nat):Int)/\T < (slLen l)/\∃o,ldC f (zng l (T * 1))=some (Il o)/\isPt (.ptr e.nxt 0)/\isPt (.ptr e.nxt 0)/\∃i,ldC f (.ptr e.nxt 1)=some (Il i)/\zne .i64 (d - i)/\(0:Int)<=o/\(0:Int)<=(d - i)/\zne .i64 (o * (d - i))/\∃Y:Nat,g=((Y:Nat):Int)/\Y < (slLen l)/\∃p,ldC f (zng l (Y * 1))=some (Il p)/\isPt (.ptr e.nxt 0)/\isPt (.ptr e.nxt 0)/\∃j,ldC f (.ptr e.nxt 1)=some (Il j)/\zne .i64 (j - a)/\(0:Int)<=p/\(0:Int)<=(j - a)/\zne .i64 (p * (j - a))/\zne .i64 ((o * (d - i))+(p * (j - a)))/\zne .i64 (d - a)/\(0:Int)<=((o * (d - i))+(p * (j - a)))/\(0:Int) < (d - a)/\zne .i64 (((o * (d - i))+(p * (j - a))) / (d - a))/\Q (.c (Il (((o * (d - i))+(p * (j - a))) / (d - a)))) f))))):Wc prog tbl 99 [.agg 6 [Il t,.bool A,Il u,B,D,F],(.agg 3 [Il w,Il y,Il z])] m Q:=zqP (n:=2) rfl (by kernel_rfl) (by kernel_rfl) h
theorem zt5{a e:C}{m:M}{Q:V->M->Prop}(h:(isSl a/\∀l:List V->M->Prop,(∀p d:Int,∀f:M,(ifB (decide (d < (slLen a:Int))) (∃o:Nat,d=((o:Nat):Int)/\o < (slLen a)/\∃q r s t u g,ldA f (zng a (o * 6)) 6=some [Il q,.bool r,Il s,t,u,g]/\znD prog tbl [.agg 6 [Il q,.bool r,Il s,t,u,g]] e f (fun w i=>∃j,w=.c (.bool j)/\ifB j (Q (.c (Il d)) i) (zne .i64 (d+1)/\l [.c (Il p),(.c (Il (d+1)))] i))) (Q (.c (Il (-1:Int))) f))->l [.c (Il p),(.c (Il d))] f)->l [.c (Il 0),(.c (Il 0))] m)):Wc prog tbl 102 [.c a,.c e] m Q:=zqP (n:=2) rfl (by kernel_rfl) (by kernel_rfl) h
theorem zt6{a:Int}{m:M}{Q:V->M->Prop}(h:(Wc prog tbl 78 [.agg 2 [Il 0,Il 100],(.c (Il a))] m (fun e f=>∃d,e=.c (.bool d)/\Q (.c (.bool d)) f))):Wc prog tbl 105 [.c (Il a)] m Q:=zqP (n:=1) rfl (by kernel_rfl) (by kernel_rfl) h
theorem zt7{d e:Int}{f:Bool}{g i j a:C}{m:M}{Q:V->M->Prop}(h:(∀l:M,(l=M.new m (AO.cells 6 [Il d,.bool f,Il e,g,i,j] false))->isSl a/\isPt (.ptr m.nxt 0)/\∃p,ldC l (.ptr m.nxt 3)=some p/\isSl p/\ifB (decide ((slLen a:Int)=(slLen p:Int))) (∃q r s t u w,ldA l (.ptr m.nxt 0) 6=some [Il q,.bool r,Il s,t,u,w]/\zaa (zaE vW [.agg 6 [Il q,.bool r,Il s,t,u,w]]) False fun z=>Wc prog tbl 125 [.c a,(.c (C.fn (Fn.func 126) z []))] l (fun A y=>∃o,A=.c (.bool o)/\Q (.c (.bool o)) y)) (Q (.c (.bool false)) l))):Wc prog tbl 108 [.agg 6 [Il d,.bool f,Il e,g,i,j],.c a] m Q:=zqP (n:=2) rfl (by kernel_rfl) (by kernel_rfl) h
theorem zt8{a d e:Int}{f:Bool}{g i j:C}{m:M}{Q:V->M->Prop}(h:(∀l:M,(l=M.new m (AO.cells 6 [Il a,.bool f,Il d,g,i,j] false))->Q (.c (Il e)) l)):Wc prog tbl 118 [.agg 6 [Il a,.bool f,Il d,g,i,j],(.c (Il e))] m Q:=zqP (n:=2) rfl (by kernel_rfl) (by kernel_rfl) h
theorem zt9{a d:C}{m:M}{Q:V->M->Prop}(h:(Wc prog tbl 132 [.c a,.c d] m (fun f g=>∃e,f=.c (Il e)/\Q (.c (.bool (decide ((0:Int)<=e)))) g))):Wc prog tbl 121 [.c a,.c d] m Q:=zqP (n:=2) rfl (by kernel_rfl) (by kernel_rfl) h
theorem zua{a e:C}{m:M}{Q:V->M->Prop}(h:(isSl a/\∀g:List V->M->Prop,(∀j d:Int,∀f:M,(ifB (decide (d < (slLen a:Int))) (∃i:Nat,d=((i:Nat):Int)/\i < (slLen a)/\∃l,ldC f (zng a (i * 1))=some (Il l)/\znD prog tbl [.c (Il l)] e f (fun q o=>∃p,q=.c (.bool p)/\ifB p (Q (.c (Il d)) o) (zne .i64 (d+1)/\g [.c (Il j),(.c (Il (d+1)))] o))) (Q (.c (Il (-1:Int))) f))->g [.c (Il j),(.c (Il d))] f)->g [.c (Il 0),(.c (Il 0))] m)):Wc prog tbl 132 [.c a,.c e] m Q:=zqP (n:=2) rfl (by kernel_rfl) (by kernel_rfl) h
theorem w19{a:C}{m:M}{Q:V->M->Prop}(h:(∀R0:List V->M->Prop,(∀c1:C,∀e:Int,∀g:M,(isSl a/\ifB (decide (e < (slLen a:Int))) (∀t:M,(t=zpf g 1)->∃u:Nat,e=((u:Nat):Int)/\u < (slLen a)/\isPt (zng a (u * 6))/\∃G,ldC t (znf (zng a (u * 6)) 0)=some (Il G)/\∃w:Nat,e=((w:Nat):Int)/\w < (slLen a)/\isPt (zng a (w * 6))/\∃I,ldC t (znf (zng a (w * 6)) 1)=some (.bool I)/\∃y:Nat,e=((y:Nat):Int)/\y < (slLen a)/\isPt (zng a (y * 6))/\∃p,ldC t (znf (zng a (y * 6)) 2)=some (Il p)/\∃q:Nat,e=((q:Nat):Int)/\q < (slLen a)/\isPt (zng a (q * 6))/\∃z,ldC t (znf (zng a (q * 6)) 3)=some z/\Wc prog tbl 58 [.c z] t (fun aF r=>∃ad,aF=.c ad/\ldC r (znf (zng a (y * 6)) 2)=some (Il p)/\ldC r (znf (zng a (w * 6)) 1)=some (.bool I)/\ldC r (znf (zng a (u * 6)) 0)=some (Il G)/\∃i:Nat,e=((i:Nat):Int)/\i < (slLen a)/\isPt (zng a (i * 6))/\∃j,ldC r (znf (zng a (i * 6)) 4)=some j/\ifB (cmC j) (ldC t (znf (zng a (i * 6)) 4)=some j) False/\Wc prog tbl 58 [.c j] r (fun aG A=>∃ae,aG=.c ae/\ldC A (znf (zng a (y * 6)) 2)=some (Il p)/\ldC A (znf (zng a (w * 6)) 1)=some (.bool I)/\ldC A (znf (zng a (u * 6)) 0)=some (Il G)/\∀f:M,(f=M.set A (g.nxt+0) (AO.cells 6 [Il 0,.bool false,Il 0,C.sl0,C.sl0,C.sl0] false))->ifB (cmC j) (ldC f (znf (zng a (i * 6)) 4)=some j) False/\ifB (cmC z) (ldC f (znf (zng a (q * 6)) 3)=some z) False/\ldC f (znf (zng a (y * 6)) 2)=some (Il p)/\ldC f (znf (zng a (w * 6)) 1)=some (.bool I)/\ldC f (znf (zng a (u * 6)) 0)=some (Il G)/\∃af:M,stC f (.ptr (g.nxt+0) 0) 6 [Il G,.bool I,Il p,ad,ae,C.sl0]=some af/\∀J:List V->M->Prop,(∀l:Int,∀o:M,(∃B:Nat,e=((B:Nat):Int)/\B < (slLen a)/\isPt (zng a (B * 6))/\∃N,ldC o (znf (zng a (B * 6)) 5)=some N/\isSl N/\ifB (decide (l < (slLen N:Int))) (∀O:List V->M->Prop,(∀P:C,∀s:Int,∀d:M,(∃D:Nat,e=((D:Nat):Int)/\D < (slLen a)/\isPt (zng a (D * 6))/\∃S,ldC d (znf (zng a (D * 6)) 5)=some S/\∃T:Nat,l=((T:Nat):Int)/\T < (slLen S)/\∃Y,ldC d (zng S (T * 1))=some Y/\isSl Y/\ifB (decide (s < (slLen Y:Int))) (∃F:Nat,e=((F:Nat):Int)/\F < (slLen a)/\isPt (zng a (F * 6))/\∃Z,ldC d (znf (zng a (F * 6)) 5)=some Z/\∃aa:Nat,l=((aa:Nat):Int)/\aa < (slLen Z)/\∃ab,ldC d (zng Z (aa * 1))=some ab/\∃ac:Nat,s=((ac:Nat):Int)/\ac < (slLen ab)/\∃ag,ldC d (zng ab (ac * 1))=some ag/\Wc prog tbl 58 [.c ag] d (fun aH ah=>∃ai,aH=.c ai/\∀aj:M,(aj=M.new ah (AO.cells 1 [ai] false))->∃ak,∃al:M,ApR prog 77 aj P (.sl ah.nxt 0 1 0 (some 1)) ak al/\zne .i64 (s+1)/\O [.c ak,(.c (Il (s+1)))] al)) (isPt (.ptr (g.nxt+0) 0)/\∃am,ldC d (.ptr (g.nxt+0) 5)=some am/\∀an:M,(an=M.new d (AO.cells 1 [P] false))->∃ao,∃ap:M,ApR prog 74 an am (.sl d.nxt 0 1 0 (some 1)) ao ap/\isPt (.ptr (g.nxt+0) 0)/\∃aq:M,stC ap (.ptr (g.nxt+0) 5) 1 [ao]=some aq/\zne .i64 (l+1)/\J [.c (Il (l+1))] aq))->O [.c P,(.c (Il s))] d)->O [.c C.sl0,(.c (Il 0))] o) (∃ar au av ax ay az,ldA o (.ptr (g.nxt+0) 0) 6=some [Il ar,.bool au,Il av,ax,ay,az]/\∀aA:M,(aA=M.new o (AO.cells 6 [Il ar,.bool au,Il av,ax,ay,az] false))->∃aB,∃aC:M,ApR prog 28 aA c1 (.sl o.nxt 0 1 0 (some 1)) aB aC/\zne .i64 (e+1)/\R0 [.c aB,(.c (Il (e+1)))] aC))->J [.c (Il l)] o)->J [.c (Il 0)] af))) (Q (.c c1) g))->R0 [.c c1,(.c (Il e))] g)->R0 [.c C.sl0,(.c (Il 0))] m)):Wc prog tbl 19 [.c a] m Q:=zqP (n:=1) rfl (by kernel_rfl) (by kernel_rfl) h
theorem w22{a d e:Int}{m:M}{Q:V->M->Prop}(h:(ifB (decide (d<=a)) (Q (.c (.bool (decide (a<=e)))) m) (Q (.c (.bool false)) m))):Wc prog tbl 22 [.c (Il a),(.c (Il d)),(.c (Il e))] m Q:=zqP (n:=3) rfl (by kernel_rfl) (by kernel_rfl) h
theorem w49{a:C}{m:M}{Q:V->M->Prop}(h:(Wc prog tbl 16 [.c a] m (fun g d=>∃e,g=.c (.bool e)/\ifB e (Wc prog tbl 20 [.c a] d (fun i j=>∃f,i=.c (Il f)/\Q (.c (.bool (decide (f=0)))) j)) (Q (.c (.bool false)) d)))):Wc prog tbl 49 [.c a] m Q:=zqP (n:=1) rfl (by kernel_rfl) (by kernel_rfl) h
theorem w52{a:C}{e:Int}{m:M}{Q:V->M->Prop}(h:(∀g:List V->M->Prop,(∀d:Int,∀f:M,(zne .i64 (d+1)/\isSl a/\ifB (decide ((d+1) < (slLen a:Int))) (zne .i64 (d+1)/\∃i:Nat,(d+1)=((i:Nat):Int)/\i < (slLen a)/\∃j,ldC f (zng a (i * 1))=some (Il j)/\ifB (decide (j<=e)) (zne .i64 (d+1)/\g [.c (Il (d+1))] f) (Q (.c (Il d)) f)) (Q (.c (Il d)) f))->g [.c (Il d)] f)->g [.c (Il 0)] m)):Wc prog tbl 52 [.c a,(.c (Il e))] m Q:=zqP (n:=2) rfl (by kernel_rfl) (by kernel_rfl) h
theorem w55{a:Int}{m:M}{Q:V->M->Prop}(h:(Wc prog tbl 78 [.agg 2 [Il 0,Il 120],(.c (Il a))] m (fun e f=>∃d,e=.c (.bool d)/\Q (.c (.bool d)) f))):Wc prog tbl 55 [.c (Il a)] m Q:=zqP (n:=1) rfl (by kernel_rfl) (by kernel_rfl) h
theorem w58{a:C}{m:M}{Q:V->M->Prop}(h:(∀d:M,(d=M.new m (AO.cells 0 [] false))->∃e,∃f:M,ApR prog 73 d (.sl m.nxt 0 0 0 (some 0)) a e f/\Q (.c e) f)):Wc prog tbl 58 [.c a] m Q:=zqP (n:=1) rfl (by kernel_rfl) (by kernel_rfl) h
theorem w61{a:C}{m:M}{Q:V->M->Prop}(h:(Wc prog tbl 84 [.c a,(.c (C.fn (Fn.func 85) [] []))] m (fun p e=>∃f,p=.c (.bool f)/\ifB f (Wc prog tbl 87 [.c a] e (fun q r=>∃g,q=.c g/\Wc prog tbl 86 [.c g] r (fun s i=>∃j,s=.c (.bool j)/\ifB j (zaa (zaE vW [.c a]) False fun t=>Wc prog tbl 84 [.c a,(.c (C.fn (Fn.func 88) t []))] i (fun l o=>∃d,l=.c (.bool d)/\Q (.c (.bool d)) o)) (Q (.c (.bool false)) i)))) (Q (.c (.bool false)) e)))):Wc prog tbl 61 [.c a] m Q:=zqP (n:=1) rfl (by kernel_rfl) (by kernel_rfl) h
theorem w77{d a:Int}{m:M}{Q:V->M->Prop}(h:(zne .i64 (a - 1)/\Wc prog tbl 78 [.agg 2 [Il 0,(Il (a - 1))],(.c (Il d))] m (fun f g=>∃e,f=.c (.bool e)/\Q (.c (.bool e)) g))):Wc prog tbl 77 [.c (Il d),(.c (Il a))] m Q:=zqP (n:=2) rfl (by kernel_rfl) (by kernel_rfl) h
theorem w80{l o p q r:Int}{s:Bool}{t u w:C}{m:M}{Q:V->M->Prop}(h:(∀T:M,(T=M.new m (AO.cells 6 [Il l,.bool s,Il o,t,u,w] false))->∀z:M,(z=M.new T (AO.cells 3 [Il p,Il q,Il r] false))->∃Y Z x4 c5 c6 c7,ldA z (.ptr m.nxt 0) 6=some [Il Y,.bool Z,Il x4,c5,c6,c7]/\∃x8 x9 A,ldA z (.ptr T.nxt 0) 3=some [Il x8,Il x9,Il A]/\Wc prog tbl 99 [.agg 6 [Il Y,.bool Z,Il x4,c5,c6,c7],(.agg 3 [Il x8,Il x9,Il A])] z (fun ag a=>∃y,ag=.c (Il y)/\isPt (.ptr m.nxt 0)/\∃B,ldC a (.ptr m.nxt 2)=some (Il B)/\ifB (decide (y < B)) (Q (.c (Il 0)) a) (∃D F G I J N,ldA a (.ptr m.nxt 0) 6=some [Il D,.bool F,Il G,I,J,N]/\Wc prog tbl 100 [.agg 6 [Il D,.bool F,Il G,I,J,N]] a (fun ah O=>∃P,ah=.agg 1 [P]/\∃d e f g i j,ldA O (.ptr m.nxt 0) 6=some [Il d,.bool e,Il f,g,i,j]/\ifB (zaL cmC [Il d,.bool e,Il f,g,i,j]) (ldA a (.ptr m.nxt 0) 6=some [Il d,.bool e,Il f,g,i,j]) False/\znD prog tbl [.agg 6 [Il d,.bool e,Il f,g,i,j],(.c (Il y))] P O (fun ai aj=>∃S,ai=.c (Il S)/\Q (.c (Il S)) aj)))))):Wc prog tbl 80 [.agg 6 [Il l,.bool s,Il o,t,u,w],(.agg 3 [Il p,Il q,Il r])] m Q:=zqP (n:=2) rfl (by kernel_rfl) (by kernel_rfl) h
theorem w83{d e:Int}{f:Bool}{g i j:C}{m:M}{Q:V->M->Prop}(h:(∀a:M,(a=M.new m (AO.cells 6 [Il d,.bool f,Il e,g,i,j] false))->isPt (.ptr m.nxt 0)/\∃l,ldC a (.ptr m.nxt 3)=some l/\isSl l/\ifB (decide ((4:Int) < (slLen l:Int))) (Q (.c (.bool true)) a) (isPt (.ptr m.nxt 0)/\∃o,ldC a (.ptr m.nxt 4)=some o/\isSl o/\ifB (decide ((5:Int) < (slLen o:Int))) (Q (.c (.bool true)) a) (isPt (.ptr m.nxt 0)/\∃p,ldC a (.ptr m.nxt 5)=some p/\isSl p/\Q (.c (.bool (decide ((3:Int) < (slLen p:Int))))) a)))):Wc prog tbl 83 [.agg 6 [Il d,.bool f,Il e,g,i,j]] m Q:=zqP (n:=1) rfl (by kernel_rfl) (by kernel_rfl) h
theorem w86{a:C}{m:M}{Q:V->M->Prop}(h:(isSl a/\ifB (decide ((0:Int) < (slLen a:Int))) (∃d:Nat,(0:Int)=((d:Nat):Int)/\d < (slLen a)/\∃e,ldC m (zng a (d * 1))=some (Il e)/\ifB (decide (e=0)) (Wc prog tbl 109 [.c a] m (fun g i=>∃f,g=.c (.bool f)/\Q (.c (.bool f)) i)) (Q (.c (.bool false)) m)) (Q (.c (.bool false)) m))):Wc prog tbl 86 [.c a] m Q:=zqP (n:=1) rfl (by kernel_rfl) (by kernel_rfl) h
theorem w95{a:Int}{m:M}{Q:V->M->Prop}(h:(Q (.c (.bool (!decide (a=a)))) m)):Wc prog tbl 95 [.c (Il a)] m Q:=zqP (n:=1) rfl (by kernel_rfl) (by kernel_rfl) h
theorem zub{c d:Int}{e:Bool}{f g i:C}{m:M}{Q:V->M->Prop}(h:(∀a:M,(a=M.new m (AO.cells 6 [Il c,.bool e,Il d,f,g,i] false))->∀j:M,(j=M.new a (AO.cells 1 [C.nilFn] false))->isPt (.ptr m.nxt 0)/\∃p,ldC j (.ptr m.nxt 1)=some (.bool p)/\ifB p (∃l:M,stC j (.ptr a.nxt 0) 1 [(C.fn (Fn.func 118) [] [])]=some l/\∃q,ldA l (.ptr a.nxt 0) 1=some [q]/\Q (.agg 1 [q]) l) (∃o:M,stC j (.ptr a.nxt 0) 1 [(C.fn (Fn.func 119) [] [])]=some o/\∃r,ldA o (.ptr a.nxt 0) 1=some [r]/\Q (.agg 1 [r]) o))):Wc prog tbl 100 [.agg 6 [Il c,.bool e,Il d,f,g,i]] m Q:=zqP (n:=1) rfl (by kernel_rfl) (by kernel_rfl) h
theorem zuc{a d:C}{m:M}{Q:V->M->Prop}(h:(Wc prog tbl 120 [.c a,.c d] m (fun f g=>∃e,f=.c (Il e)/\Q (.c (.bool (decide ((0:Int)<=e)))) g))):Wc prog tbl 103 [.c a,.c d] m Q:=zqP (n:=2) rfl (by kernel_rfl) (by kernel_rfl) h
theorem zud{a d:C}{m:M}{Q:V->M->Prop}(h:(∀e:M,(e=M.new m (AO.cells 1 [d] false))->Wc prog tbl 121 [.c a,(.c (C.fn (Fn.func 122) [] [(W.c (C0.ptr m.nxt 0))]))] e (fun g i=>∃f,g=.c (.bool f)/\Q (.c (.bool (!f))) i))):Wc prog tbl 106 [.c a,.c d] m Q:=zqP (n:=2) rfl (by kernel_rfl) (by kernel_rfl) h
theorem zue{a:C}{m:M}{Q:V->M->Prop}(h:(∀f:List V->M->Prop,(∀j:Bool,∀d:Int,∀e:M,(isSl a/\ifB (decide (d < (slLen a:Int))) (∃g:Nat,d=((g:Nat):Int)/\g < (slLen a)/\∃l,ldC e (zng a (g * 1))=some (Il l)/\zne .i64 (d - 1)/\∃i:Nat,(d - 1)=((i:Nat):Int)/\i < (slLen a)/\∃o,ldC e (zng a (i * 1))=some (Il o)/\ifB (decide (l<=o)) (Q (.c (.bool false)) e) (zne .i64 (d+1)/\f [.c (.bool j),(.c (Il (d+1)))] e)) (Q (.c (.bool true)) e))->f [.c (.bool j),(.c (Il d))] e)->f [.c (.bool false),(.c (Il 1))] m)):Wc prog tbl 109 [.c a] m Q:=zqP (n:=1) rfl (by kernel_rfl) (by kernel_rfl) h
theorem zuf{d e a:Int}{f:Bool}{g i j:C}{m:M}{Q:V->M->Prop}(h:(∀l:M,(l=M.new m (AO.cells 6 [Il d,.bool f,Il e,g,i,j] false))->isPt (.ptr m.nxt 0)/\∃o,ldC l (.ptr m.nxt 2)=some (Il o)/\zne .i64 (a - o)/\Q (.c (Il (a - o))) l)):Wc prog tbl 119 [.agg 6 [Il d,.bool f,Il e,g,i,j],(.c (Il a))] m Q:=zqP (n:=2) rfl (by kernel_rfl) (by kernel_rfl) h
theorem zug{a d:C}{m:M}{Q:V->M->Prop}(h:(∀e:M,(e=M.new m (AO.cells 1 [d] false))->Wc prog tbl 134 [.c a,(.c (C.fn (Fn.func 135) [] [(W.c (C0.ptr m.nxt 0))]))] e (fun g i=>∃f,g=.c (.bool f)/\Q (.c (.bool (!f))) i))):Wc prog tbl 125 [.c a,.c d] m Q:=zqP (n:=2) rfl (by kernel_rfl) (by kernel_rfl) h
theorem zuh{a d:Int}{m:M}{Q:V->M->Prop}(h:(Wc prog tbl 95 [.c (Il a)] m (fun j e=>∃f,j=.c (.bool f)/\ifB f (Wc prog tbl 95 [.c (Il d)] e (fun l g=>∃i,l=.c (.bool i)/\ifB (!i) (Q (.c (.bool true)) g) (Q (.c (.bool (decide (a < d)))) g))) (Q (.c (.bool (decide (a < d)))) e)))):Wc prog tbl 130 [.c (Il a),(.c (Il d))] m Q:=zqP (n:=2) rfl (by kernel_rfl) (by kernel_rfl) h
theorem zui{a e:C}{m:M}{Q:V->M->Prop}(h:(isSl a/\∀g:List V->M->Prop,(∀j d:Int,∀f:M,(ifB (decide (d < (slLen a:Int))) (∃i:Nat,d=((i:Nat):Int)/\i < (slLen a)/\∃l,ldC f (zng a (i * 1))=some l/\znD prog tbl [.c l] e f (fun q o=>∃p,q=.c (.bool p)/\ifB p (Q (.c (Il d)) o) (zne .i64 (d+1)/\g [.c (Il j),(.c (Il (d+1)))] o))) (Q (.c (Il (-1:Int))) f))->g [.c (Il j),(.c (Il d))] f)->g [.c (Il 0),(.c (Il 0))] m)):Wc prog tbl 133 [.c a,.c e] m Q:=zqP (n:=2) rfl (by kernel_rfl) (by kernel_rfl) h
theorem zuj{a e:C}{m:M}{Q:V->M->Prop}(h:(isSl a/\∀g:List V->M->Prop,(∀j d:Int,∀f:M,(ifB (decide (d < (slLen a:Int))) (∃i:Nat,d=((i:Nat):Int)/\i < (slLen a)/\∃l,ldC f (zng a (i * 1))=some l/\znD prog tbl [.c l] e f (fun q o=>∃p,q=.c (.bool p)/\ifB p (Q (.c (Il d)) o) (zne .i64 (d+1)/\g [.c (Il j),(.c (Il (d+1)))] o))) (Q (.c (Il (-1:Int))) f))->g [.c (Il j),(.c (Il d))] f)->g [.c (Il 0),(.c (Il 0))] m)):Wc prog tbl 136 [.c a,.c e] m Q:=zqP (n:=2) rfl (by kernel_rfl) (by kernel_rfl) h
theorem w10{f:C}{g d e r:Int}{m:M}{Q:V->M->Prop}(h:(Wc prog tbl 49 [.c f] m (fun v0 m1=>∃b2,v0=.c (.bool b2)/\ifB (!b2) (Wc prog tbl 17 [] m1 (fun v3 m4=>∃b5,v3=.c (.bool b5)/\Q (.c (.bool b5)) m4)) (Wc prog tbl 23 [.c f] m1 (fun v6 m7=>∃s,v6=.c (Il s)/\(0:Int)<=(znj .i64 g)/\(0:Int) < s/\zne .i64 ((znj .i64 g) % s)/\(0:Int)<=(znj .i64 d)/\(0:Int) < (121:Int)/\zne .i64 ((znj .i64 d) % (121:Int))/\(0:Int)<=(znj .i64 e)/\(0:Int) < (101:Int)/\zne .i64 ((znj .i64 e) % (101:Int))/\Wc prog tbl 50 [.c f,(.c (Il ((znj .i64 d) % (121:Int))))] m7 (fun v9 i=>∃z A B D F G,v9=.agg 6 [Il z,.bool A,Il B,D,F,G]/\∀I:M,(I=M.new i (AO.cells 6 [Il 0,.bool false,Il 0,C.sl0,C.sl0,C.sl0] false))->∃o:M,stC I (.ptr i.nxt 0) 6 [Il z,.bool A,Il B,D,F,G]=some o/\isPt (.ptr i.nxt 0)/\∃j,ldC o (.ptr i.nxt 5)=some j/\∃t:Nat,((znj .i64 g) % s)=((t:Nat):Int)/\t < (slLen j)/\∃p,ldC o (zng j (t * 1))=some p/\isPt (.ptr i.nxt 0)/\∃J,ldC o (.ptr i.nxt 3)=some J/\Wc prog tbl 52 [.c J,(.c (Il ((znj .i64 d) % (121:Int))))] o (fun al u=>∃N,al=.c (Il N)/\ifB (cmC p) (ldC u (zng j (t * 1))=some p) False/\ifB (cmC j) (ldC u (.ptr i.nxt 5)=some j) False/\∃w:Nat,N=((w:Nat):Int)/\w < (slLen p)/\∃O,ldC u (zng p (w * 1))=some O/\Wc prog tbl 51 [.c O,(.c (Il 0))] u (fun am P=>∃S,am=.c (.bool S)/\ifB (!S) (Wc prog tbl 17 [] P (fun an ao=>∃T,an=.c (.bool T)/\Q (.c (.bool T)) ao)) (zne .i64 (((znj .i64 e) % (101:Int))+(znj .i64 r))/\Wc prog tbl 19 [.c f] P (fun ap aq=>∃Y,ap=.c Y/\Wc prog tbl 18 [.c Y,(.c (Il ((znj .i64 g) % s))),(.c (Il ((znj .i64 d) % (121:Int)))),(.c (Il ((znj .i64 e) % (101:Int))))] aq (fun ar au=>∃l Z,ar=.tup [.c (Il l),(.c (Il Z))]/\Wc prog tbl 19 [.c f] au (fun av ax=>∃aa,av=.c aa/\Wc prog tbl 18 [.c aa,(.c (Il ((znj .i64 g) % s))),(.c (Il ((znj .i64 d) % (121:Int)))),(.c (Il (Min.min (100:Int) (((znj .i64 e) % (101:Int))+(znj .i64 r)))))] ax (fun ay az=>∃ab ac,ay=.tup [.c (Il ab),(.c (Il ac))]/\Wc prog tbl 19 [.c f] az (fun aA aB=>∃ad,aA=.c ad/\Wc prog tbl 38 [.c ad,(.c (Il ((znj .i64 g) % s))),(.c (Il ((znj .i64 d) % (121:Int))))] aB (fun aC a=>∃y q,aC=.tup [.c (Il y),(.c (Il q))]/\ifB (!decide (Z=0)) (Q (.c (.bool false)) a) (ifB (!decide (ac=0)) (Q (.c (.bool false)) a) (ifB (decide (ab < l)) (Q (.c (.bool false)) a) (ifB (!decide (q=0)) (ifB (!decide (q=7)) (Q (.c (.bool false)) a) (ifB (decide (q=0)) (ifB ((decide ((0:Int) < l)) == (decide (y<=((znj .i64 e) % (101:Int))))) (Wc prog tbl 17 [] a (fun aD aE=>∃ae,aD=.c (.bool ae)/\Q (.c (.bool ae)) aE)) (Q (.c (.bool false)) a)) (ifB ((decide ((0:Int) < l)) == false) (Wc prog tbl 17 [] a (fun aF aG=>∃af,aF=.c (.bool af)/\Q (.c (.bool af)) aG)) (Q (.c (.bool false)) a)))) (ifB (decide (q=0)) (ifB ((decide ((0:Int) < l)) == (decide (y<=((znj .i64 e) % (101:Int))))) (Wc prog tbl 17 [] a (fun aH aI=>∃ag,aH=.c (.bool ag)/\Q (.c (.bool ag)) aI)) (Q (.c (.bool false)) a)) (ifB ((decide ((0:Int) < l)) == false) (Wc prog tbl 17 [] a (fun aJ aK=>∃ah,aJ=.c (.bool ah)/\Q (.c (.bool ah)) aK)) (Q (.c (.bool false)) a))))))))))))))))))))):Wc prog tbl 10 [.c f,(.c (C.int .u8 g)),(.c (C.int .u8 d)),(.c (C.int .u8 e)),(.c (C.int .u8 r))] m Q:=zqP (n:=5) rfl (by kernel_rfl) (by kernel_rfl) h
theorem w16{a:C}{m:M}{Q:V->M->Prop}(h:(isSl a/\ifB (decide ((5:Int) < (slLen a:Int))) (Q (.c (.bool false)) m) (∀Z:List V->M->Prop,(∀b1 b2 b3:Bool,∀e:Int,∀i:M,(isSl a/\ifB (decide (e < (slLen a:Int))) (∃T:Nat,e=((T:Nat):Int)/\T < (slLen a)/\isPt (zng a (T * 6))/\∃c7,ldC i (znf (zng a (T * 6)) 3)=some c7/\isSl c7/\ifB (decide ((7:Int) < (slLen c7:Int))) (Q (.c (.bool false)) i) (∃Y:Nat,e=((Y:Nat):Int)/\Y < (slLen a)/\isPt (zng a (Y * 6))/\∃c9,ldC i (znf (zng a (Y * 6)) 4)=some c9/\isSl c9/\ifB (decide ((7:Int) < (slLen c9:Int))) (Q (.c (.bool false)) i) (∃o:Nat,e=((o:Nat):Int)/\o < (slLen a)/\isPt (zng a (o * 6))/\∃u,ldC i (znf (zng a (o * 6)) 5)=some u/\isSl u/\ifB (decide ((5:Int) < (slLen u:Int))) (Q (.c (.bool false)) i) (∀w:List V->M->Prop,(∀j ad:Bool,∀f:Int,∀g:M,(∃p:Nat,e=((p:Nat):Int)/\p < (slLen a)/\isPt (zng a (p * 6))/\∃y,ldC g (znf (zng a (p * 6)) 5)=some y/\isSl y/\ifB (decide (f < (slLen y:Int))) (∃q:Nat,e=((q:Nat):Int)/\q < (slLen a)/\isPt (zng a (q * 6))/\∃z,ldC g (znf (zng a (q * 6)) 5)=some z/\∃A:Nat,f=((A:Nat):Int)/\A < (slLen z)/\∃B,ldC g (zng z (A * 1))=some B/\isSl B/\ifB (decide ((7:Int) < (slLen B:Int))) (Q (.c (.bool false)) g) (∀D:List V->M->Prop,(∀r:Bool,∀l:Int,∀d:M,(∃s:Nat,e=((s:Nat):Int)/\s < (slLen a)/\isPt (zng a (s * 6))/\∃F,ldC d (znf (zng a (s * 6)) 5)=some F/\∃G:Nat,f=((G:Nat):Int)/\G < (slLen F)/\∃I,ldC d (zng F (G * 1))=some I/\isSl I/\ifB (decide (l < (slLen I:Int))) (∃t:Nat,e=((t:Nat):Int)/\t < (slLen a)/\isPt (zng a (t * 6))/\∃J,ldC d (znf (zng a (t * 6)) 5)=some J/\∃N:Nat,f=((N:Nat):Int)/\N < (slLen J)/\∃O,ldC d (zng J (N * 1))=some O/\∃P:Nat,l=((P:Nat):Int)/\P < (slLen O)/\∃S,ldC d (zng O (P * 1))=some S/\isSl S/\ifB (decide ((7:Int) < (slLen S:Int))) (Q (.c (.bool false)) d) (zne .i64 (l+1)/\D [.c (.bool r),(.c (Il (l+1)))] d)) (zne .i64 (f+1)/\w [.c (.bool r),(.c (.bool r)),(.c (Il (f+1)))] d))->D [.c (.bool r),(.c (Il l))] d)->D [.c (.bool j),(.c (Il 0))] g)) (zne .i64 (e+1)/\Z [.c (.bool j),(.c (.bool j)),(.c (.bool j)),(.c (Il (e+1)))] g))->w [.c (.bool j),(.c (.bool ad)),(.c (Il f))] g)->w [.c (.bool b1),(.c (.bool b1)),(.c (Il 0))] i)))) (Q (.c (.bool true)) i))->Z [.c (.bool b1),(.c (.bool b2)),(.c (.bool b3)),(.c (Il e))] i)->Z [.c (.bool false),(.c (.bool false)),(.c (.bool false)),(.c (Il 0))] m))):Wc prog tbl 16 [.c a] m Q:=zqP (n:=1) rfl (by kernel_rfl) (by kernel_rfl) h
theorem w20{a:C}{m:M}{Q:V->M->Prop}(h:(Wc prog tbl 59 [.c a] m (fun e f=>∃d,e=.c (Il d)/\Q (.c (Il d)) f))):Wc prog tbl 20 [.c a] m Q:=zqP (n:=1) rfl (by kernel_rfl) (by kernel_rfl) h
theorem w23{a:C}{m:M}{Q:V->M->Prop}(h:(∃d:Nat,(0:Int)=((d:Nat):Int)/\d < (slLen a)/\isPt (zng a (d * 6))/\∃e,ldC m (znf (zng a (d * 6)) 5)=some e/\isSl e/\Q (.c (Il (slLen e:Int))) m)):Wc prog tbl 23 [.c a] m Q:=zqP (n:=1) rfl (by kernel_rfl) (by kernel_rfl) h
theorem w38{g:C}{d e:Int}{m:M}{Q:V->M->Prop}(h:(Wc prog tbl 53 [.c g] m (fun N i=>∃A B z,N=.tup [.agg 2 [A,B],(.c (Il z))]/\∀D:M,(D=M.new i (AO.cells 2 [C.sl0,C.map0] false))->∃l:M,stC D (.ptr i.nxt 0) 2 [A,B]=some l/\ifB (!decide (z=0)) (Q (.tup [.c (Il 0),(.c (Il z))]) l) (isPt (.ptr i.nxt 0)/\∃F,ldC l (.ptr i.nxt 0)=some F/\Wc prog tbl 54 [.c F,(.c (Il d))] l (fun O G=>∃o,O=.c (.bool o)/\ifB (!o) (Q (.tup [.c (Il 0),(.c (Il 2))]) G) (Wc prog tbl 55 [.c (Il e)] G (fun I p=>∃q,I=.c (.bool q)/\ifB (!q) (Q (.tup [.c (Il 0),(.c (Il 2))]) p) (∀j:List V->M->Prop,(∀r s a:Int,∀f:M,(ifB (decide (a < 101)) (∃t u,ldA f (.ptr i.nxt 0) 2=some [t,u]/\Wc prog tbl 57 [.agg 2 [t,u],(.agg 3 [Il e,Il a,Il d])] f (fun J w=>∃y,J=.c (Il y)/\ifB (decide ((0:Int) < y)) (Q (.tup [.c (Il a),(.c (Il 0))]) w) (zne .i64 (a+1)/\j [.c (Il r),(.c (Il s)),(.c (Il (a+1)))] w))) (Q (.tup [.c (Il 0),(.c (Il 7))]) f))->j [.c (Il r),(.c (Il s)),(.c (Il a))] f)->j [.c (Il 0),(.c (Il 0)),(.c (Il 0))] p)))))))):Wc prog tbl 38 [.c g,(.c (Il d)),(.c (Il e))] m Q:=zqP (n:=3) rfl (by kernel_rfl) (by kernel_rfl) h
theorem w50{a:C}{d:Int}{m:M}{Q:V->M->Prop}(h:(∀I:M,(I=M.new m (AO.cells 6 [Il 0,.bool false,Il 0,C.sl0,C.sl0,C.sl0] false))->∀F:List V->M->Prop,(∀G:C,∀e:Int,∀f:M,(isSl a/\ifB (decide (e < (slLen a:Int))) (∃j:Nat,e=((j:Nat):Int)/\j < (slLen a)/\isPt (zng a (j * 6))/\∃J,ldC f (znf (zng a (j * 6)) 0)=some (Il J)/\∀N:M,(N=M.new f (AO.cells 1 [Il J] false))->∃O,∃P:M,ApR prog 73 N G (.sl f.nxt 0 1 0 (some 1)) O P/\zne .i64 (e+1)/\F [.c O,(.c (Il (e+1)))] P) (Wc prog tbl 52 [.c G,(.c (Il d))] f (fun S l=>∃o,S=.c (Il o)/\∃g:Nat,o=((g:Nat):Int)/\g < (slLen a)/\∃p q r s t u,ldA l (zng a (g * 6)) 6=some [Il p,.bool q,Il r,s,t,u]/\∃i:M,stC l (.ptr m.nxt 0) 6 [Il p,.bool q,Il r,s,t,u]=some i/\∃w y z A B D,ldA i (.ptr m.nxt 0) 6=some [Il w,.bool y,Il z,A,B,D]/\Q (.agg 6 [Il w,.bool y,Il z,A,B,D]) i)))->F [.c G,(.c (Il e))] f)->F [.c C.sl0,(.c (Il 0))] I)):Wc prog tbl 50 [.c a,(.c (Il d))] m Q:=zqP (n:=2) rfl (by kernel_rfl) (by kernel_rfl) h
theorem w53{a:C}{m:M}{Q:V->M->Prop}(h:(∀j:M,(j=M.new m (AO.cells 2 [C.sl0,C.map0] false))->Wc prog tbl 21 [.c a] j (fun r e=>∃f,r=.c (Il f)/\ifB (!decide (f=0)) (∃g:M,stC e (.ptr m.nxt 0) 2 [C.sl0,C.map0]=some g/\∃l o,ldA g (.ptr m.nxt 0) 2=some [l,o]/\Q (.tup [.agg 2 [l,o],(.c (Il f))]) g) (∀p:M,(p=M.new e (AO.map [] 0))->∃i:M,stC p (.ptr m.nxt 0) 2 [a,(C.map e.nxt)]=some i/\∃q d,ldA i (.ptr m.nxt 0) 2=some [q,d]/\Q (.tup [.agg 2 [q,d],(.c (Il 0))]) i)))):Wc prog tbl 53 [.c a] m Q:=zqP (n:=1) rfl (by kernel_rfl) (by kernel_rfl) h
theorem w56{a:Int}{m:M}{Q:V->M->Prop}(h:(Wc prog tbl 78 [.agg 2 [Il 0,Il 100],(.c (Il a))] m (fun e f=>∃d,e=.c (.bool d)/\Q (.c (.bool d)) f))):Wc prog tbl 56 [.c (Il a)] m Q:=zqP (n:=1) rfl (by kernel_rfl) (by kernel_rfl) h
theorem w59{a:C}{m:M}{Q:V->M->Prop}(h:(isSl a/\ifB (decide ((3:Int) < (slLen a:Int))) (Q (.c (Il 3)) m) (∀R0:List V->M->Prop,(∀x1 l:Int,∀g:M,(isSl a/\ifB (decide (l < (slLen a:Int))) (∃A:Nat,l=((A:Nat):Int)/\A < (slLen a)/\isPt (zng a (A * 6))/\∃c5,ldC g (znf (zng a (A * 6)) 3)=some c5/\isSl c5/\ifB (decide ((4:Int) < (slLen c5:Int))) (Q (.c (Il 3)) g) (∃B:Nat,l=((B:Nat):Int)/\B < (slLen a)/\isPt (zng a (B * 6))/\∃c7,ldC g (znf (zng a (B * 6)) 4)=some c7/\isSl c7/\ifB (decide ((5:Int) < (slLen c7:Int))) (Q (.c (Il 3)) g) (∃D:Nat,l=((D:Nat):Int)/\D < (slLen a)/\isPt (zng a (D * 6))/\∃c9,ldC g (znf (zng a (D * 6)) 5)=some c9/\isSl c9/\ifB (decide ((3:Int) < (slLen c9:Int))) (Q (.c (Il 3)) g) (zne .i64 (l+1)/\R0 [.c (Il x1),(.c (Il (l+1)))] g)))) (∀f:List V->M->Prop,(∀i d:Int,∀j:M,(isSl a/\ifB (decide (d < (slLen a:Int))) (∃w:Nat,d=((w:Nat):Int)/\w < (slLen a)/\∃F G I J N O,ldA j (zng a (w * 6)) 6=some [Il F,.bool G,Il I,J,N,O]/\Wc prog tbl 81 [.agg 6 [Il F,.bool G,Il I,J,N,O]] j (fun ag e=>∃P,ag=.c (.bool P)/\ifB (!P) (Q (.c (Il 1)) e) (∃o:Nat,d=((o:Nat):Int)/\o < (slLen a)/\isPt (zng a (o * 6))/\∃y,ldC e (znf (zng a (o * 6)) 5)=some y/\isSl y/\∃p:Nat,(0:Int)=((p:Nat):Int)/\p < (slLen a)/\isPt (zng a (p * 6))/\∃z,ldC e (znf (zng a (p * 6)) 5)=some z/\isSl z/\ifB (!decide ((slLen y:Int)=(slLen z:Int))) (Q (.c (Il 1)) e) (ifB (decide (d=0)) (∃q:Nat,d=((q:Nat):Int)/\q < (slLen a)/\isPt (zng a (q * 6))/\∃S,ldC e (znf (zng a (q * 6)) 0)=some (Il S)/\ifB (!decide (S=0)) (Q (.c (Il 1)) e) (ifB (decide ((0:Int) < d)) (∃r:Nat,d=((r:Nat):Int)/\r < (slLen a)/\isPt (zng a (r * 6))/\∃T,ldC e (znf (zng a (r * 6)) 0)=some (Il T)/\zne .i64 (d - 1)/\∃s:Nat,(d - 1)=((s:Nat):Int)/\s < (slLen a)/\isPt (zng a (s * 6))/\∃Y,ldC e (znf (zng a (s * 6)) 0)=some (Il Y)/\ifB (decide (T<=Y)) (Q (.c (Il 1)) e) (zne .i64 (d+1)/\f [.c (Il i),(.c (Il (d+1)))] e)) (zne .i64 (d+1)/\f [.c (Il i),(.c (Il (d+1)))] e))) (ifB (decide ((0:Int) < d)) (∃t:Nat,d=((t:Nat):Int)/\t < (slLen a)/\isPt (zng a (t * 6))/\∃Z,ldC e (znf (zng a (t * 6)) 0)=some (Il Z)/\zne .i64 (d - 1)/\∃u:Nat,(d - 1)=((u:Nat):Int)/\u < (slLen a)/\isPt (zng a (u * 6))/\∃aa,ldC e (znf (zng a (u * 6)) 0)=some (Il aa)/\ifB (decide (Z<=aa)) (Q (.c (Il 1)) e) (zne .i64 (d+1)/\f [.c (Il i),(.c (Il (d+1)))] e)) (zne .i64 (d+1)/\f [.c (Il i),(.c (Il (d+1)))] e)))))) (isSl a/\ifB (decide ((slLen a:Int)=(0:Int))) (Q (.c (Il 1)) j) (Q (.c (Il 0)) j)))->f [.c (Il i),(.c (Il d))] j)->f [.c (Il x1),(.c (Il 0))] g))->R0 [.c (Il x1),(.c (Il l))] g)->R0 [.c (Il 0),(.c (Il 0))] m))):Wc prog tbl 59 [.c a] m Q:=zqP (n:=1) rfl (by kernel_rfl) (by kernel_rfl) h
theorem w78{d e a:Int}{m:M}{Q:V->M->Prop}(h:(∀f:M,(f=M.new m (AO.cells 2 [Il d,Il e] false))->isPt (.ptr m.nxt 0)/\∃g,ldC f (.ptr m.nxt 0)=some (Il g)/\ifB (decide (g<=a)) (isPt (.ptr m.nxt 0)/\∃i,ldC f (.ptr m.nxt 1)=some (Il i)/\Q (.c (.bool (decide (a<=i)))) f) (Q (.c (.bool false)) f))):Wc prog tbl 78 [.agg 2 [Il d,Il e],(.c (Il a))] m Q:=zqP (n:=2) rfl (by kernel_rfl) (by kernel_rfl) h
theorem w81{q r:Int}{s:Bool}{t u w:C}{m:M}{Q:V->M->Prop}(h:(∀m0:M,(m0=M.new m (AO.cells 6 [Il q,.bool s,Il r,t,u,w] false))->isPt (.ptr m.nxt 0)/\∃x1,ldC m0 (.ptr m.nxt 0)=some (Il x1)/\Wc prog tbl 22 [.c (Il x1),(.c (Il 0)),(.c (Il 120))] m0 (fun v2 m3=>∃b4,v2=.c (.bool b4)/\ifB (!b4) (Q (.c (.bool false)) m3) (isPt (.ptr m.nxt 0)/\∃x5,ldC m3 (.ptr m.nxt 2)=some (Il x5)/\Wc prog tbl 22 [.c (Il x5),(.c (Il 0)),(.c (Il 100))] m3 (fun v6 m7=>∃b8,v6=.c (.bool b8)/\ifB (!b8) (Q (.c (.bool false)) m7) (isPt (.ptr m.nxt 0)/\∃c9,ldC m7 (.ptr m.nxt 3)=some c9/\Wc prog tbl 101 [.c c9,(.c (Il 120))] m7 (fun aD y=>∃al,aD=.c (.bool al)/\ifB (!al) (Q (.c (.bool false)) y) (isPt (.ptr m.nxt 0)/\∃am,ldC y (.ptr m.nxt 4)=some am/\Wc prog tbl 101 [.c am,(.c (Il 100))] y (fun aE d=>∃an,aE=.c (.bool an)/\ifB (!an) (Q (.c (.bool false)) d) (isPt (.ptr m.nxt 0)/\∃z,ldC d (.ptr m.nxt 4)=some z/\isPt (.ptr m.nxt 0)/\∃o,ldC d (.ptr m.nxt 4)=some o/\isSl o/\zne .i64 ((slLen o:Int) - (1:Int))/\∃A:Nat,((slLen o:Int) - (1:Int))=((A:Nat):Int)/\A < (slLen z)/\∃ao,ldC d (zng z (A * 1))=some (Il ao)/\ifB (!decide (ao=100)) (Q (.c (.bool false)) d) (isPt (.ptr m.nxt 0)/\∃B,ldC d (.ptr m.nxt 5)=some B/\isSl B/\ifB (decide ((slLen B:Int)=(0:Int))) (Q (.c (.bool false)) d) (∀D:List V->M->Prop,(∀F aF aG:Bool,∀g:Int,∀e:M,(isPt (.ptr m.nxt 0)/\∃G,ldC e (.ptr m.nxt 5)=some G/\isSl G/\ifB (decide (g < (slLen G:Int))) (isPt (.ptr m.nxt 0)/\∃I,ldC e (.ptr m.nxt 5)=some I/\∃J:Nat,g=((J:Nat):Int)/\J < (slLen I)/\∃N,ldC e (zng I (J * 1))=some N/\isSl N/\isPt (.ptr m.nxt 0)/\∃O,ldC e (.ptr m.nxt 3)=some O/\isSl O/\ifB (!decide ((slLen N:Int)=(slLen O:Int))) (Q (.c (.bool false)) e) (∀P:List V->M->Prop,(∀j aH:Bool,∀i:Int,∀a:M,(isPt (.ptr m.nxt 0)/\∃S,ldC a (.ptr m.nxt 3)=some S/\isSl S/\ifB (decide (i < (slLen S:Int))) (isPt (.ptr m.nxt 0)/\∃T,ldC a (.ptr m.nxt 5)=some T/\∃Y:Nat,g=((Y:Nat):Int)/\Y < (slLen T)/\∃Z,ldC a (zng T (Y * 1))=some Z/\∃aa:Nat,i=((aa:Nat):Int)/\aa < (slLen Z)/\∃ab,ldC a (zng Z (aa * 1))=some ab/\isSl ab/\isPt (.ptr m.nxt 0)/\∃ac,ldC a (.ptr m.nxt 4)=some ac/\isSl ac/\ifB (!decide ((slLen ab:Int)=(slLen ac:Int))) (Q (.c (.bool false)) a) (∀ad:List V->M->Prop,(∀p:Bool,∀l:Int,∀f:M,(isPt (.ptr m.nxt 0)/\∃ae,ldC f (.ptr m.nxt 4)=some ae/\isSl ae/\ifB (decide (l < (slLen ae:Int))) (isPt (.ptr m.nxt 0)/\∃af,ldC f (.ptr m.nxt 5)=some af/\∃ag:Nat,g=((ag:Nat):Int)/\ag < (slLen af)/\∃ah,ldC f (zng af (ag * 1))=some ah/\∃ai:Nat,i=((ai:Nat):Int)/\ai < (slLen ah)/\∃aj,ldC f (zng ah (ai * 1))=some aj/\∃ak:Nat,l=((ak:Nat):Int)/\ak < (slLen aj)/\∃ap,ldC f (zng aj (ak * 1))=some (Il ap)/\Wc prog tbl 22 [.c (Il ap),(.c (Il 0)),(.c (Il 100))] f (fun aI aq=>∃ar,aI=.c (.bool ar)/\ifB (!ar) (Q (.c (.bool false)) aq) (zne .i64 (l+1)/\ad [.c (.bool p),(.c (Il (l+1)))] aq))) (zne .i64 (i+1)/\P [.c (.bool p),(.c (.bool p)),(.c (Il (i+1)))] f))->ad [.c (.bool p),(.c (Il l))] f)->ad [.c (.bool j),(.c (Il 0))] a)) (zne .i64 (g+1)/\D [.c (.bool j),(.c (.bool j)),(.c (.bool j)),(.c (Il (g+1)))] a))->P [.c (.bool j),(.c (.bool aH)),(.c (Il i))] a)->P [.c (.bool F),(.c (.bool F)),(.c (Il 0))] e)) (Q (.c (.bool true)) e))->D [.c (.bool F),(.c (.bool aF)),(.c (.bool aG)),(.c (Il g))] e)->D [.c (.bool false),(.c (.bool false)),(.c (.bool false)),(.c (Il 0))] d)))))))))))):Wc prog tbl 81 [.agg 6 [Il q,.bool s,Il r,t,u,w]] m Q:=zqP (n:=1) rfl (by kernel_rfl) (by kernel_rfl) h
theorem w84{a d:C}{m:M}{Q:V->M->Prop}(h:(∀e:M,(e=M.new m (AO.cells 1 [d] false))->Wc prog tbl 103 [.c a,(.c (C.fn (Fn.func 104) [] [(W.c (C0.ptr m.nxt 0))]))] e (fun g i=>∃f,g=.c (.bool f)/\Q (.c (.bool (!f))) i))):Wc prog tbl 84 [.c a,.c d] m Q:=zqP (n:=2) rfl (by kernel_rfl) (by kernel_rfl) h
theorem w87{a:C}{m:M}{Q:V->M->Prop}(h:(isSl a/\∀q:List V->M->Prop,(∀r:C,∀f:Int,∀d:M,(ifB (decide (f < (slLen a:Int))) (∃s:Nat,f=((s:Nat):Int)/\s < (slLen a)/\∃t u w y z g,ldA d (zng a (s * 6)) 6=some [Il t,.bool u,Il w,y,z,g]/\∀i:M,(i=M.new d (AO.cells 6 [Il 0,.bool false,Il 0,C.sl0,C.sl0,C.sl0] false))->∃e:M,stC i (.ptr d.nxt 0) 6 [Il t,.bool u,Il w,y,z,g]=some e/\isPt (.ptr d.nxt 0)/\∃j,ldC e (.ptr d.nxt 0)=some (Il j)/\∀l:M,(l=M.new e (AO.cells 1 [Il j] false))->∃o,∃p:M,ApR prog 73 l r (.sl e.nxt 0 1 0 (some 1)) o p/\zne .i64 (f+1)/\q [.c o,(.c (Il (f+1)))] p) (Q (.c r) d))->q [.c r,(.c (Il f))] d)->q [.c C.sl0,(.c (Il 0))] m)):Wc prog tbl 87 [.c a] m Q:=zqP (n:=1) rfl (by kernel_rfl) (by kernel_rfl) h
theorem w98{d:C}{a:Int}{m:M}{Q:V->M->Prop}(h:(zne .i64 (a+1)/\Wc prog tbl 117 [.c d,(.c (Il (a+1)))] m (fun f g=>∃e i,f=.tup [.c (Il e),(.c (.bool i))]/\zne .i64 (e - 1)/\Q (.c (Il (e - 1))) g))):Wc prog tbl 98 [.c d,(.c (Il a))] m Q:=zqP (n:=2) rfl (by kernel_rfl) (by kernel_rfl) h
theorem zuk{a:C}{g:Int}{m:M}{Q:V->M->Prop}(h:(∀l:List V->M->Prop,(∀r:Bool,∀d:Int,∀e:M,(isSl a/\ifB (decide (d < (slLen a:Int))) (∃s:Nat,d=((s:Nat):Int)/\s < (slLen a)/\∃u,ldC e (zng a (s * 1))=some (Il u)/\Wc prog tbl 22 [.c (Il u),(.c (Il 0)),(.c (Il g))] e (fun y f=>∃w,y=.c (.bool w)/\ifB (!w) (Q (.c (.bool false)) f) (ifB (decide ((0:Int) < d)) (∃t:Nat,d=((t:Nat):Int)/\t < (slLen a)/\∃o,ldC f (zng a (t * 1))=some (Il o)/\zne .i64 (d - 1)/\∃i:Nat,(d - 1)=((i:Nat):Int)/\i < (slLen a)/\∃p,ldC f (zng a (i * 1))=some (Il p)/\ifB (decide (o<=p)) (Q (.c (.bool false)) f) (zne .i64 (d+1)/\l [.c (.bool r),(.c (Il (d+1)))] f)) (zne .i64 (d+1)/\l [.c (.bool r),(.c (Il (d+1)))] f)))) (isSl a/\ifB (decide ((0:Int) < (slLen a:Int))) (∃j:Nat,(0:Int)=((j:Nat):Int)/\j < (slLen a)/\∃q,ldC e (zng a (j * 1))=some (Il q)/\Q (.c (.bool (decide (q=0)))) e) (Q (.c (.bool false)) e)))->l [.c (.bool r),(.c (Il d))] e)->l [.c (.bool false),(.c (Il 0))] m)):Wc prog tbl 101 [.c a,(.c (Il g))] m Q:=zqP (n:=2) rfl (by kernel_rfl) (by kernel_rfl) h
theorem zul{a d:C}{m:M}{Q:V->M->Prop}(h:(∀e:M,(e=M.new m (AO.cells 1 [d] false))->Wc prog tbl 123 [.c a,(.c (C.fn (Fn.func 124) [] [(W.c (C0.ptr m.nxt 0))]))] e (fun g i=>∃f,g=.c (.bool f)/\Q (.c (.bool (!f))) i))):Wc prog tbl 107 [.c a,.c d] m Q:=zqP (n:=2) rfl (by kernel_rfl) (by kernel_rfl) h
theorem zum{a:C}{f:Int}{m:M}{Q:V->M->Prop}(h:(isSl a/\∀j:List V->M->Prop,(∀d e:Int,∀g:M,(ifB (decide (d < e)) (zne .i64 (d+e)/\(0:Int)<=(znj .u64 (d+e))/\(0:Int)<=(1:Int)/\(1:Int)<=(64:Int)/\zne .u64 ((znj .u64 (d+e)) / (2:Int))/\∃s:Nat,znj .i64 ((znj .u64 (d+e)) / (2:Int))=((s:Nat):Int)/\s < (slLen a)/\∃u,ldC g (zng a (s * 1))=some (Il u)/\Wc prog tbl 130 [.c (Il u),(.c (Il f))] g (fun D w=>∃y,D=.c (.bool y)/\ifB y (zne .i64 ((znj .i64 ((znj .u64 (d+e)) / (2:Int)))+(1:Int))/\j [.c (Il ((znj .i64 ((znj .u64 (d+e)) / (2:Int)))+(1:Int))),(.c (Il e))] w) (j [.c (Il d),(.c (Il (znj .i64 ((znj .u64 (d+e)) / (2:Int)))))] w))) (ifB (decide (d < (slLen a:Int))) (∃t:Nat,d=((t:Nat):Int)/\t < (slLen a)/\∃l,ldC g (zng a (t * 1))=some (Il l)/\ifB (decide (l=f)) (Q (.tup [.c (Il d),(.c (.bool true))]) g) (∃i:Nat,d=((i:Nat):Int)/\i < (slLen a)/\∃o,ldC g (zng a (i * 1))=some (Il o)/\Wc prog tbl 131 [.c (Il o)] g (fun z p=>∃q,z=.c (.bool q)/\ifB q (Wc prog tbl 131 [.c (Il f)] p (fun A B=>∃r,A=.c (.bool r)/\Q (.tup [.c (Il d),(.c (.bool r))]) B)) (Q (.tup [.c (Il d),(.c (.bool false))]) p)))) (Q (.tup [.c (Il d),(.c (.bool false))]) g)))->j [.c (Il d),(.c (Il e))] g)->j [.c (Il 0),(.c (Il (slLen a:Int)))] m)):Wc prog tbl 117 [.c a,(.c (Il f))] m Q:=zqP (n:=2) rfl (by kernel_rfl) (by kernel_rfl) h
theorem zun{a e:C}{m:M}{Q:V->M->Prop}(h:(isSl a/\∀l:List V->M->Prop,(∀p d:Int,∀f:M,(ifB (decide (d < (slLen a:Int))) (∃o:Nat,d=((o:Nat):Int)/\o < (slLen a)/\∃q r s t u g,ldA f (zng a (o * 6)) 6=some [Il q,.bool r,Il s,t,u,g]/\znD prog tbl [.agg 6 [Il q,.bool r,Il s,t,u,g]] e f (fun w i=>∃j,w=.c (.bool j)/\ifB j (Q (.c (Il d)) i) (zne .i64 (d+1)/\l [.c (Il p),(.c (Il (d+1)))] i))) (Q (.c (Il (-1:Int))) f))->l [.c (Il p),(.c (Il d))] f)->l [.c (Il 0),(.c (Il 0))] m)):Wc prog tbl 120 [.c a,.c e] m Q:=zqP (n:=2) rfl (by kernel_rfl) (by kernel_rfl) h
theorem zuo{a d:C}{m:M}{Q:V->M->Prop}(h:(Wc prog tbl 133 [.c a,.c d] m (fun f g=>∃e,f=.c (Il e)/\Q (.c (.bool (decide ((0:Int)<=e)))) g))):Wc prog tbl 123 [.c a,.c d] m Q:=zqP (n:=2) rfl (by kernel_rfl) (by kernel_rfl) h
theorem zup{d e:Int}{f:Bool}{g i j a:C}{m:M}{Q:V->M->Prop}(h:(∀l:M,(l=M.new m (AO.cells 6 [Il d,.bool f,Il e,g,i,j] false))->isSl a/\isPt (.ptr m.nxt 0)/\∃o,ldC l (.ptr m.nxt 4)=some o/\isSl o/\ifB (decide ((slLen a:Int)=(slLen o:Int))) (Wc prog tbl 106 [.c a,(.c (C.fn (Fn.func 105) [] []))] l (fun q r=>∃p,q=.c (.bool p)/\Q (.c (.bool p)) r)) (Q (.c (.bool false)) l))):Wc prog tbl 126 [.agg 6 [Il d,.bool f,Il e,g,i,j],.c a] m Q:=zqP (n:=2) rfl (by kernel_rfl) (by kernel_rfl) h
theorem zuq{a:Int}{m:M}{Q:V->M->Prop}(h:(Q (.c (.bool (!decide (a=a)))) m)):Wc prog tbl 131 [.c (Il a)] m Q:=zqP (n:=1) rfl (by kernel_rfl) (by kernel_rfl) h
theorem zur{a d:C}{m:M}{Q:V->M->Prop}(h:(Wc prog tbl 136 [.c a,.c d] m (fun f g=>∃e,f=.c (Il e)/\Q (.c (.bool (decide ((0:Int)<=e)))) g))):Wc prog tbl 134 [.c a,.c d] m Q:=zqP (n:=2) rfl (by kernel_rfl) (by kernel_rfl) h
def zus(f:M)(x:C)(g:Tf->Option (Bool)):Prop:=∀(f' m:M) (a0:Tf) (c0 c1 c2:C) (r:Bool) (Q:V->M->Prop),Sub f f'->Pre f' m->Sl f' c0 a0.Weeks->Sl f' c1 a0.Counts->Sl f' c2 a0.Rates->g a0=some r->(∀m',Ext m m'->Q (.c (.bool r)) m')->znD prog tbl [.agg 6 [(.int .i64 a0.From),.bool a0.Whole,(.int .i64 a0.Least),c0,c1,c2]] x m Q
theorem zus.sub{f m:M}{x:C}{g:Tf->Option (Bool)}(h:zus f x g)(s:Sub f m):zus m x g:=fun f' m' a0 c0 c1 c2 r Q hs=>h f' m' a0 c0 c1 c2 r Q (s.trans hs)
def zut(f:M)(x:C)(g:Clm->Option (Bool)):Prop:=∀(f' m:M) (a0:Clm) (r:Bool) (Q:V->M->Prop),Sub f f'->Pre f' m->g a0=some r->(∀m',Ext m m'->Q (.c (.bool r)) m')->znD prog tbl [.agg 6 [(.int .i64 a0.Crop),(.int .i64 a0.Value),(.int .i64 a0.Day.Lo),(.int .i64 a0.Day.Hi),(.int .i64 a0.Count.Lo),(.int .i64 a0.Count.Hi)]] x m Q
theorem zut.sub{f m:M}{x:C}{g:Clm->Option (Bool)}(h:zut f x g)(s:Sub f m):zut m x g:=fun f' m' a0 r Q hs=>h f' m' a0 r Q (s.trans hs)
def zuu(f:M)(x:C)(g:Int->Option (Bool)):Prop:=∀(f' m:M) (a0:Int) (r:Bool) (Q:V->M->Prop),Sub f f'->Pre f' m->g a0=some r->(∀m',Ext m m'->Q (.c (.bool r)) m')->znD prog tbl [.c (.int .i64 a0)] x m Q
theorem zuu.sub{f m:M}{x:C}{g:Int->Option (Bool)}(h:zuu f x g)(s:Sub f m):zuu m x g:=fun f' m' a0 r Q hs=>h f' m' a0 r Q (s.trans hs)
def zuv(f:M)(x:C)(g:List Int->Option (Bool)):Prop:=∀(f' m:M) (a0:List Int) (c0:C) (r:Bool) (Q:V->M->Prop),Sub f f'->Pre f' m->Sl f' c0 a0->g a0=some r->(∀m',Ext m m'->Q (.c (.bool r)) m')->znD prog tbl [.c c0] x m Q
theorem zuv.sub{f m:M}{x:C}{g:List Int->Option (Bool)}(h:zuv f x g)(s:Sub f m):zuv m x g:=fun f' m' a0 c0 r Q hs=>h f' m' a0 c0 r Q (s.trans hs)
def zuw(f:M)(x:C)(g:List (List Int)->Option (Bool)):Prop:=∀(f' m:M) (a0:List (List Int)) (c0:C) (r:Bool) (Q:V->M->Prop),Sub f f'->Pre f' m->Sl f' c0 a0->g a0=some r->(∀m',Ext m m'->Q (.c (.bool r)) m')->znD prog tbl [.c c0] x m Q
theorem zuw.sub{f m:M}{x:C}{g:List (List Int)->Option (Bool)}(h:zuw f x g)(s:Sub f m):zuw m x g:=fun f' m' a0 c0 r Q hs=>h f' m' a0 c0 r Q (s.trans hs)
def zux(f:M)(x:C)(g:Tf->Int->Option (Int)):Prop:=∀(f' m:M) (a0:Tf) (a1:Int) (c0 c1 c2:C) (r:Int) (Q:V->M->Prop),Sub f f'->Pre f' m->Sl f' c0 a0.Weeks->Sl f' c1 a0.Counts->Sl f' c2 a0.Rates->g a0 a1=some r->(∀m',Ext m m'->Q (.c (.int .i64 r)) m')->znD prog tbl [.agg 6 [(.int .i64 a0.From),.bool a0.Whole,(.int .i64 a0.Least),c0,c1,c2],.c (.int .i64 a1)] x m Q
theorem zux.sub{f m:M}{x:C}{g:Tf->Int->Option (Int)}(h:zux f x g)(s:Sub f m):zux m x g:=fun f' m' a0 a1 c0 c1 c2 r Q hs=>h f' m' a0 a1 c0 c1 c2 r Q (s.trans hs)
def zuy(mc:C)(f:M)(x:C)(g:Tr->Tr->(Option (Ht->Option (Int)))->Option (Int × Option (Ht->Option (Int)))):Prop:=∀(f' m:M) (a0:Tr) (a1:Tr) (M0:Option (Ht->Option (Int))) (r:Int × Option (Ht->Option (Int))) (Q:V->M->Prop),Sub f f'->Pre f' m->Mc f' m mc M0->g a0 a1 M0=some r->(∀m',zrO mc m m'->Mi m' mc r.2->Q (.c (.int .i64 r.1)) m')->znD prog tbl [.agg 2 [(.int .i64 a0.Day),(.int .i64 a0.Count)],.agg 2 [(.int .i64 a1.Day),(.int .i64 a1.Count)]] x m Q
theorem zuy.sub{mc:C}{f m:M}{x:C}{g:Tr->Tr->(Option (Ht->Option (Int)))->Option (Int × Option (Ht->Option (Int)))}(h:zuy mc f x g)(s:Sub f m):zuy mc m x g:=fun f' m' a0 a1 M0 r Q hs=>h f' m' a0 a1 M0 r Q (s.trans hs)
theorem zuz:KL prog 103 Ht:=zrT (n:=3) (ks:=[.int .i64,.int .i64,.int .i64]) (by kernel_rfl) (by kernel_rfl) (cs:=fun k=>[.int .i64 k.Day,.int .i64 k.Count,.int .i64 k.crop]) (fun _=>rfl) fun a b fa fb=>⟨_,_,(zrS (zrP fa.1 fb.1) (zrS (zrP fa.2.1 fb.2.1) (zrS (zrP fa.2.2.1 fb.2.2.1) zrR))),⟨fun h=>by obtain⟨aDay,aCount,acrop⟩:=a; obtain⟨bDay,bCount,bcrop⟩:=b; simp_all,fun h=>by subst h; exact⟨rfl,rfl,rfl,trivial⟩⟩⟩
theorem zuA:TA prog 28 6:=⟨76,by kernel_rfl,by kernel_rfl,by kernel_rfl⟩
theorem zuB:TA prog 73 1:=⟨3,by kernel_rfl,by kernel_rfl,by kernel_rfl⟩
theorem zuC:TA prog 74 1:=⟨77,by kernel_rfl,by kernel_rfl,by kernel_rfl⟩
theorem zuD:TA prog 77 1:=⟨73,by kernel_rfl,by kernel_rfl,by kernel_rfl⟩
theorem zuE{m f:M}{Q:V->M->Prop}{rz:Bool}(_hS:Pre f m)(hp:zsA=some rz)(hq:∀m',Ext m m'->Q (.c (.bool rz)) m'):Wc prog tbl 17 [] m Q:=by
 obtain rfl:=oi hp;exact zqN (show zlv tbl 17=some true from rfl) (hq _ (.refl m))
theorem zuF{n:Int}{low:Int}{high:Int}{m f:M}{Q:V->M->Prop}{rz:Bool}(hS:Pre f m)(hp:zsB n low high=some rz)(hq:∀m',Ext m m'->Q (.c (.bool rz)) m'):Wc prog tbl 22 [.c (Il n),.c (Il low),.c (Il high)] m Q:=by
 have d:=hS.st;obtain⟨e,_⟩:=zsx;refine w22 ?_;unfold zsB at hp;refine ifd hp (fun a hp=>?_) fun a hp=>?_
 ·obtain rfl:=oi hp;exact hq _ d.ext'
 obtain rfl:=oi hp;exact hq _ d.ext'
theorem zuG{l:List Int}{most:Int}{ca100:C}{m f:M}{Q:V->M->Prop}{rz:Bool}(hS:Pre f m)(ha100:Sl f ca100 l)(hp:zsC l most=some rz)(hq:∀m',Ext m m'->Q (.c (.bool rz)) m'):Wc prog tbl 101 [.c ca100,.c (Il most)] m Q:=by
 have S0:=hS.st;obtain⟨τ0,_⟩:=zsx;refine zuk ?_;unfold zsC at hp;intro R0 aa
 have hgo:∀(g:Nat) (D:Bool) (u:Int) (w:M) (e:Nat->Nat),St (Fm.of m) f f w->prRises_L0 l most g u=some rz->R0 [.c (.bool D),.c (Il u)] w:=by
  intro g
  induction g with
  | zero=>intro D u w e a hp; cases hp
  | succ g t=>
   intro D u w e a hp;refine aa _ _ _ ?_;rw[prRises_L0] at hp;refine⟨ha100.isSl,?_⟩
   try rw[ha100.slLen]
   refine ifd hp (fun F hp=>?_) fun F hp=>?_; rotate_left
   ·refine⟨ha100.isSl,?_⟩
    try rw[ha100.slLen]
    refine ifd hp (fun G hp=>?_) fun G hp=>?_; rotate_left
    ·obtain rfl:=oi hp;exact hq _ a.ext'
    obtain⟨ga,h,hp⟩:=zrr hp;obtain⟨ba,y,p,h⟩:=zrl h;refine⟨ba,y,(by first|exact p|(rw[ha100.slLen];exact p)),_,(ha100.rdI h a.sub),?_⟩;obtain rfl:=oi hp;exact hq _ a.ext'
   obtain⟨I,i,hp⟩:=zrr hp;obtain⟨n4,z,q,i⟩:=zrl i;refine⟨n4,z,(by first|exact q|(rw[ha100.slLen];exact q)),_,(ha100.rdI i a.sub),?_⟩;obtain⟨ia,J,hp⟩:=zrr hp;refine zuF (n:=I) (low:=(0:Int)) (high:=most) a.pre  J fun m7 N=>?_;obtain⟨d,ja⟩:=a.call N e;refine⟨_,rfl,?_⟩;refine zr0 hp (fun O hp=>?_) fun O hp=>?_
   ·obtain rfl:=oi hp;exact hq _ d.ext'
   refine ifd hp (fun P hp=>?_) fun P hp=>?_; rotate_left
   ·refine gdi hp fun S hp=>?_;exact t _ _ _ e d hp
   obtain⟨ka,j,hp⟩:=zrr hp;obtain⟨n9,A,r,j⟩:=zrl j;refine⟨n9,A,(by first|exact r|(rw[ha100.slLen];exact r)),_,(ha100.rdI j d.sub),?_⟩;refine gdi hp fun T hp=>?_;obtain⟨ma,o,hp⟩:=zrr hp;obtain⟨ca,B,s,o⟩:=zrl o;refine⟨ca,B,(by first|exact s|(rw[ha100.slLen];exact s)),_,(ha100.rdI o d.sub),?_⟩;refine ifd hp (fun Y hp=>?_) fun Y hp=>?_
   ·obtain rfl:=oi hp;exact hq _ d.ext'
   refine gdi hp fun Z hp=>?_;exact t _ _ _ e d hp
 exact hgo _ _ _ _ τ0 S0 hp
theorem zuH{t:Tf}{ca103 ca104 ca105:C}{m f:M}{Q:V->M->Prop}{rz:Bool}(hS:Pre f m)(ha103:Sl f ca103 t.Weeks)(ha104:Sl f ca104 t.Counts)(ha105:Sl f ca105 t.Rates)(hp:zsG t=some rz)(hq:∀m',Ext m m'->Q (.c (.bool rz)) m'):Wc prog tbl 81 [.agg 6 [Il t.From,.bool t.Whole,Il t.Least,ca103,ca104,ca105]] m Q:=by
 have S0:=hS.st;obtain⟨τ0,_⟩:=zsx;refine w81 ?_;unfold zsG at hp;intro m0 Ia;obtain⟨i,ja,Mb,ka⟩:=S0.blk Ia τ0 1;refine⟨trivial,_,ka.bk.rc rfl,?_⟩;obtain⟨Nb,Ja,hp⟩:=zrr hp;refine zuF (n:=t.From) (low:=(0:Int)) (high:=(120:Int)) ja.pre  Ja fun m3 Ka=>?_;obtain⟨B,La⟩:=ja.call Ka i;have la:=ka.k La;refine⟨_,rfl,?_⟩;refine zr0 hp (fun Ma hp=>?_) fun Ma hp=>?_
 ·obtain rfl:=oi hp;exact hq _ B.ext'
 refine⟨trivial,_,la.bk.rc rfl,?_⟩;obtain⟨Ob,Na,hp⟩:=zrr hp;refine zuF (n:=t.Least) (low:=(0:Int)) (high:=(100:Int)) B.pre  Na fun m7 Oa=>?_;obtain⟨D,Pa⟩:=B.call Oa i;have ma:=la.k Pa;refine⟨_,rfl,?_⟩;refine zr0 hp (fun Qa hp=>?_) fun Qa hp=>?_
 ·obtain rfl:=oi hp;exact hq _ D.ext'
 refine⟨trivial,_,ma.bk.rc rfl,?_⟩;obtain⟨Pb,Ra,hp⟩:=zrr hp;refine zuG (l:=t.Weeks) (most:=(120:Int)) D.pre ha103 Ra fun dc Sa=>?_;obtain⟨F,Ta⟩:=D.call Sa i;have na:=ma.k Ta;refine⟨_,rfl,?_⟩;refine zr0 hp (fun Ua hp=>?_) fun Ua hp=>?_
 ·obtain rfl:=oi hp;exact hq _ F.ext'
 refine⟨trivial,_,na.bk.rc rfl,?_⟩;obtain⟨Qb,Va,hp⟩:=zrr hp;refine zuG (l:=t.Counts) (most:=(100:Int)) F.pre ha104 Va fun ec Wa=>?_;obtain⟨j,Xa⟩:=F.call Wa i;have a:=na.k Xa;refine⟨_,rfl,?_⟩;refine zr0 hp (fun Ya hp=>?_) fun Ya hp=>?_
 ·obtain rfl:=oi hp;exact hq _ j.ext'
 refine⟨trivial,_,a.bk.rc rfl,trivial,_,a.bk.rc rfl,ha104.isSl,?_⟩;obtain⟨oa,hp⟩:=zrs hp;refine⟨(by first|exact oa|(rw[ha104.slLen];exact oa)),?_⟩;obtain⟨Rb,G,hp⟩:=zrr hp;obtain⟨zb,T,Y,G⟩:=zrl G;refine⟨zb,(by first|exact T|(rw[ha104.slLen];exact T)),(by first|exact Y|(rw[ha104.slLen];exact Y)),_,(ha104.rdI G j.sub),?_⟩;refine zrY hp (fun Za hp=>?_) fun Za hp=>?_
 ·obtain rfl:=oi hp;exact hq _ j.ext'
 refine⟨trivial,_,a.bk.rc rfl,ha105.isSl,?_⟩
 try rw[ha105.slLen]
 refine ifd hp (fun ab hp=>?_) fun ab hp=>?_
 ·obtain rfl:=oi hp;exact hq _ j.ext'
 intro Ab bb
 have hgo:∀(e:Nat) (Z:Bool) (pa:Bool) (qa:Bool) (o:Int) (w:M) (s:Nat->Nat),St (Fm.of m) f f w->Lb (Fm.of m) f s w 1 m.nxt 6 [Il t.From,.bool t.Whole,Il t.Least,ca103,ca104,ca105]->zsF t e Z o=some rz->Ab [.c (.bool Z),.c (.bool pa),.c (.bool qa),.c (Il o)] w:=by
  intro e
  induction e with
  | zero=>intro Z pa qa o w s p a hp; cases hp
  | succ e za=>
   intro Z pa qa o w s p a hp;refine bb _ _ _ _ _ ?_;rw[zsF] at hp;refine⟨trivial,_,a.bk.rc rfl,ha105.isSl,?_⟩
   try rw[ha105.slLen]
   refine ifd hp (fun cb hp=>?_) fun cb hp=>?_; rotate_left
   ·obtain rfl:=oi hp;exact hq _ p.ext'
   refine⟨trivial,_,a.bk.rc rfl,?_⟩;obtain⟨Sb,I,hp⟩:=zrr hp;obtain⟨Bb,Aa,aa,I⟩:=zrl I;obtain⟨Tb,db,sa⟩:=ha105.rdS I;refine⟨Bb,Aa,(by first|exact aa|(rw[ha105.slLen];exact aa)),_,(db _ p.sub),sa.isSl,trivial,_,a.bk.rc rfl,ha103.isSl,?_⟩
   try rw[sa.slLen]
   try rw[ha103.slLen]
   refine zrY hp (fun eb hp=>?_) fun eb hp=>?_
   ·obtain rfl:=oi hp;exact hq _ p.ext'
   intro Cb fb
   have hgo:∀(q:Nat) (ba:Bool) (ta:Bool) (y:Int) (z:M) (r:Nat->Nat),St (Fm.of m) f f z->Lb (Fm.of m) f r z 1 m.nxt 6 [Il t.From,.bool t.Whole,Il t.Least,ca103,ca104,ca105]->zsE t o (zsF t e) q ba y=some rz->Cb [.c (.bool ba),.c (.bool ta),.c (Il y)] z:=by
    intro q
    induction q with
    | zero=>intro ba ta y z r g a hp; cases hp
    | succ q Ba=>
     intro ba ta y z r g a hp;refine fb _ _ _ _ ?_;rw[zsE] at hp;refine⟨trivial,_,a.bk.rc rfl,ha103.isSl,?_⟩
     try rw[ha103.slLen]
     refine ifd hp (fun gb hp=>?_) fun gb hp=>?_; rotate_left
     ·refine gdi hp fun hb hp=>?_;exact za _ _ _ _ _ r g a hp
     refine⟨trivial,_,a.bk.rc rfl,?_⟩;obtain⟨Ub,J,hp⟩:=zrr hp;obtain⟨Db,Ca,ca,J⟩:=zrl J;obtain⟨Vb,ib,ua⟩:=ha105.rdS J;refine⟨Db,Ca,(by first|exact ca|(rw[ha105.slLen];exact ca)),_,(ib _ g.sub),?_⟩;obtain⟨Wb,N,hp⟩:=zrr hp;obtain⟨Eb,Da,da,N⟩:=zrl N;obtain⟨Xb,jb,va⟩:=ua.rdS N;refine⟨Eb,Da,(by first|exact da|(rw[ua.slLen];exact da)),_,(jb _ g.sub),va.isSl,trivial,_,a.bk.rc rfl,ha104.isSl,?_⟩
     try rw[va.slLen]
     try rw[ha104.slLen]
     refine zrY hp (fun kb hp=>?_) fun kb hp=>?_
     ·obtain rfl:=oi hp;exact hq _ g.ext'
     intro Fb mb
     have hgo:∀(u:Nat) (ea:Bool) (fa:Int) (A:M) (h:Nat->Nat),St (Fm.of m) f f A->Lb (Fm.of m) f h A 1 m.nxt 6 [Il t.From,.bool t.Whole,Il t.Least,ca103,ca104,ca105]->zsD t o y (zsE t o (zsF t e) q) u ea fa=some rz->Fb [.c (.bool ea),.c (Il fa)] A:=by
      intro u
      induction u with
      | zero=>intro ea fa A h d a hp; cases hp
      | succ u Ea=>
       intro ea fa A h d a hp;refine mb _ _ _ ?_;rw[zsD] at hp;refine⟨trivial,_,a.bk.rc rfl,ha104.isSl,?_⟩
       try rw[ha104.slLen]
       refine ifd hp (fun ob hp=>?_) fun ob hp=>?_; rotate_left
       ·refine gdi hp fun pb hp=>?_;exact Ba _ _ _ _ h d a hp
       refine⟨trivial,_,a.bk.rc rfl,?_⟩;obtain⟨Yb,O,hp⟩:=zrr hp;obtain⟨Gb,Fa,ga,O⟩:=zrl O;obtain⟨Zb,qb,wa⟩:=ha105.rdS O;refine⟨Gb,Fa,(by first|exact ga|(rw[ha105.slLen];exact ga)),_,(qb _ d.sub),?_⟩;obtain⟨ac,P,hp⟩:=zrr hp;obtain⟨Hb,Ga,ha,P⟩:=zrl P;obtain⟨bc,rb,xa⟩:=wa.rdS P;refine⟨Hb,Ga,(by first|exact ha|(rw[wa.slLen];exact ha)),_,(rb _ d.sub),?_⟩;obtain⟨sb,S,hp⟩:=zrr hp;obtain⟨Ib,Ha,ia,S⟩:=zrl S;refine⟨Ib,Ha,(by first|exact ia|(rw[xa.slLen];exact ia)),_,(xa.rdI S d.sub),?_⟩;obtain⟨cc,tb,hp⟩:=zrr hp;refine zuF (n:=sb) (low:=(0:Int)) (high:=(100:Int)) d.pre  tb fun fc ub=>?_;obtain⟨ya,vb⟩:=d.call ub h;have wb:=a.k vb;refine⟨_,rfl,?_⟩;refine zr0 hp (fun xb hp=>?_) fun xb hp=>?_
       ·obtain rfl:=oi hp;exact hq _ ya.ext'
       refine gdi hp fun yb hp=>?_;exact Ea _ _ _ h ya wb hp
     exact hgo _ _ _ _ r g a hp
   exact hgo _ _ _ _ _ s p a hp
 exact hgo _ _ _ _ _ _ i j a hp
theorem zuI{l:List Tf}{ca100:C}{m f:M}{Q:V->M->Prop}{rz:Int}(hS:Pre f m)(ha100:Sl f ca100 l)(hp:zsJ l=some rz)(hq:∀m',Ext m m'->Q (.c (Il rz)) m'):Wc prog tbl 59 [.c ca100] m Q:=by
 have S0:=hS.st;obtain⟨τ0,_⟩:=zsx;refine w59 ?_;unfold zsJ at hp;refine⟨ha100.isSl,?_⟩
 try rw[ha100.slLen]
 refine ifd hp (fun wa hp=>?_) fun wa hp=>?_
 ·obtain rfl:=oi hp;exact hq _ S0.ext'
 intro R0 ob
 have hgo:∀(i:Nat) (x1:Int) (x2:Int) (m3:M) (j:Nat->Nat),St (Fm.of m) f f m3->zsI l i x1 x2=some rz->R0 [.c (Il x1),.c (Il x2)] m3:=by
  intro i
  induction i with
  | zero=>intro x1 x2 m3 j d hp; cases hp
  | succ i xa=>
   intro x1 x2 m3 j d hp;refine ob _ _ _ ?_;rw[zsI] at hp;refine⟨ha100.isSl,?_⟩
   try rw[ha100.slLen]
   refine ifd hp (fun ya hp=>?_) fun ya hp=>?_
   ·obtain⟨Ab,n,hp⟩:=zrr hp;obtain⟨n4,ka,D,n⟩:=zrl n;obtain⟨Cb,Db,Eb,za,ba,Fb,Gb⟩:=zsz ha100 n;refine⟨n4,ka,(by first|exact D|(rw[ha100.slLen];exact D)),(ha100.isPt n _),_,((za _ d.sub).2.1 3 _ rfl),ba.isSl,?_⟩
    try rw[ba.slLen]
    refine ifd hp (fun Aa hp=>?_) fun Aa hp=>?_
    ·obtain rfl:=oi hp;exact hq _ d.ext'
    obtain⟨Hb,o,hp⟩:=zrr hp;obtain⟨n6,la,F,o⟩:=zrl o;obtain⟨Jb,Kb,Mb,Ba,Nb,ca,Ob⟩:=zsz ha100 o;refine⟨n6,la,(by first|exact F|(rw[ha100.slLen];exact F)),(ha100.isPt o _),_,((Ba _ d.sub).2.1 4 _ rfl),ca.isSl,?_⟩
    try rw[ca.slLen]
    refine ifd hp (fun Ca hp=>?_) fun Ca hp=>?_
    ·obtain rfl:=oi hp;exact hq _ d.ext'
    obtain⟨Pb,p,hp⟩:=zrr hp;obtain⟨n8,ma,G,p⟩:=zrl p;obtain⟨Rb,Sb,Tb,Da,Ub,Vb,da⟩:=zsz ha100 p;refine⟨n8,ma,(by first|exact G|(rw[ha100.slLen];exact G)),(ha100.isPt p _),_,((Da _ d.sub).2.1 5 _ rfl),da.isSl,?_⟩
    try rw[da.slLen]
    refine ifd hp (fun Ea hp=>?_) fun Ea hp=>?_
    ·obtain rfl:=oi hp;exact hq _ d.ext'
    refine gdi hp fun Fa hp=>?_;exact xa _ _ _ j d hp
   intro pb Ga
   have hgo:∀(q:Nat) (ea:Int) (I:Int) (J:M) (e:Nat->Nat),St (Fm.of m) f f J->zsH l q I=some rz->pb [.c (Il ea),.c (Il I)] J:=by
    intro q
    induction q with
    | zero=>intro ea I J e g hp; cases hp
    | succ q h=>
     intro ea I J e g hp;refine Ga _ _ _ ?_;rw[zsH] at hp;refine⟨ha100.isSl,?_⟩
     try rw[ha100.slLen]
     refine ifd hp (fun Ha hp=>?_) fun Ha hp=>?_; rotate_left
     ·refine⟨ha100.isSl,?_⟩
      try rw[ha100.slLen]
      refine ifd hp (fun Ia hp=>?_) fun Ia hp=>?_
      ·obtain rfl:=oi hp;exact hq _ g.ext'
      obtain rfl:=oi hp;exact hq _ g.ext'
     obtain⟨Ja,B,hp⟩:=zrr hp;obtain⟨qb,na,N,B⟩:=zrl B;obtain⟨Wb,Xb,Yb,Ka,La,Ma,Na⟩:=zsz ha100 B;refine⟨qb,na,(by first|exact N|(rw[ha100.slLen];exact N)),_,_,_,_,_,_,(Ka _ g.sub).1,?_⟩;obtain⟨Zb,Oa,hp⟩:=zrr hp;refine zuH (t:=Ja) g.pre La Ma Na Oa fun dd Pa=>?_;obtain⟨a,ac⟩:=g.call Pa e;refine⟨_,rfl,?_⟩;refine zr0 hp (fun Qa hp=>?_) fun Qa hp=>?_
     ·obtain rfl:=oi hp;exact hq _ a.ext'
     obtain⟨bc,r,hp⟩:=zrr hp;obtain⟨rb,oa,O,r⟩:=zrl r;obtain⟨cc,dc,ec,Ra,fc,gc,fa⟩:=zsz ha100 r;refine⟨rb,oa,(by first|exact O|(rw[ha100.slLen];exact O)),(ha100.isPt r _),_,((Ra _ a.sub).2.1 5 _ rfl),fa.isSl,?_⟩;obtain⟨hc,s,hp⟩:=zrr hp;obtain⟨sb,pa,P,s⟩:=zrl s;obtain⟨ic,jc,kc,Sa,nc,oc,ga⟩:=zsz ha100 s;refine⟨sb,pa,(by first|exact P|(rw[ha100.slLen];exact P)),(ha100.isPt s _),_,((Sa _ a.sub).2.1 5 _ rfl),ga.isSl,?_⟩
     try rw[fa.slLen]
     try rw[ga.slLen]
     refine zrY hp (fun Ta hp=>?_) fun Ta hp=>?_
     ·obtain rfl:=oi hp;exact hq _ a.ext'
     refine ifd hp (fun Ua hp=>?_) fun Ua hp=>?_; rotate_left
     ·refine ifd hp (fun Va hp=>?_) fun Va hp=>?_; rotate_left
      ·refine gdi hp fun Wa hp=>?_;exact h _ _ _ e a hp
      obtain⟨pc,u,hp⟩:=zrr hp;obtain⟨tb,qa,S,u⟩:=zrl u;obtain⟨qc,sc,tc,Xa,uc,vc,wc⟩:=zsz ha100 u;refine⟨tb,qa,(by first|exact S|(rw[ha100.slLen];exact S)),(ha100.isPt u _),_,((Xa _ a.sub).2.1 0 _ rfl),?_⟩;refine gdi hp fun Ya hp=>?_;obtain⟨xc,w,hp⟩:=zrr hp;obtain⟨ub,sa,T,w⟩:=zrl w;obtain⟨yc,zc,Ac,Za,Bc,Cc,Dc⟩:=zsz ha100 w;refine⟨ub,sa,(by first|exact T|(rw[ha100.slLen];exact T)),(ha100.isPt w _),_,((Za _ a.sub).2.1 0 _ rfl),?_⟩;refine ifd hp (fun ab hp=>?_) fun ab hp=>?_
      ·obtain rfl:=oi hp;exact hq _ a.ext'
      refine gdi hp fun bb hp=>?_;exact h _ _ _ e a hp
     obtain⟨Ec,y,hp⟩:=zrr hp;obtain⟨vb,ta,Y,y⟩:=zrl y;obtain⟨Fc,Gc,Hc,cb,Ic,Jc,Kc⟩:=zsz ha100 y;refine⟨vb,ta,(by first|exact Y|(rw[ha100.slLen];exact Y)),(ha100.isPt y _),_,((cb _ a.sub).2.1 0 _ rfl),?_⟩;refine zrY hp (fun db hp=>?_) fun db hp=>?_
     ·obtain rfl:=oi hp;exact hq _ a.ext'
     refine ifd hp (fun eb hp=>?_) fun eb hp=>?_; rotate_left
     ·refine gdi hp fun fb hp=>?_;exact h _ _ _ e a hp
     obtain⟨Nc,z,hp⟩:=zrr hp;obtain⟨wb,ua,Z,z⟩:=zrl z;obtain⟨Oc,Pc,Qc,gb,Rc,Tc,Uc⟩:=zsz ha100 z;refine⟨wb,ua,(by first|exact Z|(rw[ha100.slLen];exact Z)),(ha100.isPt z _),_,((gb _ a.sub).2.1 0 _ rfl),?_⟩;refine gdi hp fun hb hp=>?_;obtain⟨Vc,A,hp⟩:=zrr hp;obtain⟨xb,va,aa,A⟩:=zrl A;obtain⟨Xc,Yc,Zc,ib,ad,bd,cd⟩:=zsz ha100 A;refine⟨xb,va,(by first|exact aa|(rw[ha100.slLen];exact aa)),(ha100.isPt A _),_,((ib _ a.sub).2.1 0 _ rfl),?_⟩;refine ifd hp (fun jb hp=>?_) fun jb hp=>?_
     ·obtain rfl:=oi hp;exact hq _ a.ext'
     refine gdi hp fun kb hp=>?_;exact h _ _ _ e a hp
   exact hgo _ _ _ _ j d hp
 exact hgo _ _ _ _ τ0 S0 hp
theorem zuJ{l:List Int}{n:Int}{ca100:C}{m f:M}{Q:V->M->Prop}{rz:Int}(hS:Pre f m)(ha100:Sl f ca100 l)(hp:zsL l n=some rz)(hq:∀m',Ext m m'->Q (.c (Il rz)) m'):Wc prog tbl 52 [.c ca100,.c (Il n)] m Q:=by
 have y:=hS.st;obtain⟨z,_⟩:=zsx;refine w52 ?_;unfold zsL at hp;intro A w
 have hgo:∀(d:Nat) (i:Int) (j:M) (e:Nat->Nat),St (Fm.of m) f f j->zsK l n d i=some rz->A [.c (Il i)] j:=by
  intro d
  induction d with
  | zero=>intro i j e a hp; cases hp
  | succ d p=>
   intro i j e a hp;refine w _ _ ?_;rw[zsK] at hp;obtain⟨q,hp⟩:=zrs hp;refine⟨q,ha100.isSl,?_⟩
   try rw[ha100.slLen]
   refine ifd hp (fun r hp=>?_) fun r hp=>?_; rotate_left
   ·obtain rfl:=oi hp;exact hq _ a.ext'
   refine gdi hp fun s hp=>?_;obtain⟨B,g,hp⟩:=zrr hp;obtain⟨D,o,h,g⟩:=zrl g;refine⟨D,o,(by first|exact h|(rw[ha100.slLen];exact h)),_,(ha100.rdI g a.sub),?_⟩;refine ifd hp (fun t hp=>?_) fun t hp=>?_; rotate_left
   ·obtain rfl:=oi hp;exact hq _ a.ext'
   refine gdi hp fun u hp=>?_;exact p _ _ e a hp
 exact hgo _ _ _ z y hp
theorem zuK{l:List Tf}{day:Int}{ca100:C}{m f:M}{Q:V->M->Prop}{rz:Tf}(hS:Pre f m)(ha100:Sl f ca100 l)(hp:zsN l day=some rz)(hq:∀m' f' c3 c4 c5,Grw m f m' f'->Sl f' c3 rz.Weeks->Sl f' c4 rz.Counts->Sl f' c5 rz.Rates->Q (.agg 6 [Il rz.From,.bool rz.Whole,Il rz.Least,c3,c4,c5]) m'):Wc prog tbl 50 [.c ca100,.c (Il day)] m Q:=by
 have S0:=hS.st;obtain⟨τ0,_⟩:=zsx;refine w50 ?_;unfold zsN at hp;intro m0 N;obtain⟨O,P,Ea,d⟩:=S0.blk N τ0 1;intro R1 Aa
 have hgo:∀(i:Nat) (F:C) (G:Int) (e:List Int) (u:M) (g:Nat->Nat),St (Fm.of m) f f u->Lb (Fm.of m) f g u 1 m.nxt 6 [Il 0,.bool false,Il 0,.sl0,.sl0,.sl0]->Ow (Fm.of m) f g u 2 F e->zsM l day i e G=some rz->R1 [.c F,.c (Il G)] u:=by
  intro i
  induction i with
  | zero=>intro F G e u g j d p hp; cases hp
  | succ i S=>
   intro F G e u g j d p hp;refine Aa _ _ _ ?_;rw[zsM] at hp;refine⟨ha100.isSl,?_⟩
   try rw[ha100.slLen]
   refine ifd hp (fun T hp=>?_) fun T hp=>?_
   ·obtain⟨w,o,hp⟩:=zrr hp;obtain⟨n5,I,s,o⟩:=zrl o;obtain⟨Ha,Ia,Ja,Y,Ka,La,Ma⟩:=zsz ha100 o;refine⟨n5,I,(by first|exact s|(rw[ha100.slLen];exact s)),(ha100.isPt o _),_,((Y _ j.sub).2.1 0 _ rfl),?_⟩;obtain⟨Z,hp⟩:=zrs hp;intro m7 aa;obtain⟨ba,ca,da,ea,fa,ga,ha⟩:=p.app' zuB j (a:=w.From) (show Rp.rep (α:=Int) f _ w.From from rfl) Z aa;have ia:=d.k ga;refine⟨ba,ca,ea,?_⟩;refine gdi hp fun ja hp=>?_;exact S _ _ _ _ da fa ia ha hp
   obtain⟨ka,y,h,la⟩:=p.freeze j;have ma:=d.k h;obtain⟨Na,na,hp⟩:=zrr hp;refine zuJ (l:=e) (n:=day) y.pre la na fun Pa oa=>?_;obtain⟨z,pa⟩:=y.call oa g;have qa:=ma.k pa;refine⟨_,rfl,?_⟩;obtain⟨q,r,hp⟩:=zrr hp;obtain⟨Ba,J,t,r⟩:=zrl r;obtain⟨A,B,D,sa,ta,ua,va⟩:=zsz ha100 r;refine⟨Ba,J,(by first|exact t|(rw[ha100.slLen];exact t)),_,_,_,_,_,_,(sa _ (Sub.trans h.fs z.sub)).1,?_⟩;obtain⟨wa,xa,ya,Oa,za⟩:=qa.sto z [Il q.From,.bool q.Whole,Il q.Least,A,B,D];refine⟨wa,xa,?_⟩;refine⟨_,_,_,_,_,_,za.bk.ra,?_⟩;obtain rfl:=oi hp;exact hq _ ka A B D ya.grw (ta.sub h.fs) (ua.sub h.fs) (va.sub h.fs)
 exact hgo _ _ _ _ _ O P d (Ow.nil _ _ _ _ _) hp
theorem zuL{l:List Tf}{ca100:C}{m f:M}{Q:V->M->Prop}{rz:Int}(hS:Pre f m)(ha100:Sl f ca100 l)(hp:zsO l=some rz)(hq:∀m',Ext m m'->Q (.c (Il rz)) m'):Wc prog tbl 23 [.c ca100] m Q:=by
 have i:=hS.st;obtain⟨t,_⟩:=zsx;refine w23 ?_;unfold zsO at hp;obtain⟨j,a,hp⟩:=zrr hp;obtain⟨n,g,d,a⟩:=zrl a;obtain⟨o,p,q,h,r,s,e⟩:=zsz ha100 a;refine⟨n,g,(by first|exact d|(rw[ha100.slLen];exact d)),(ha100.isPt a _),_,((h _ i.sub).2.1 5 _ rfl),e.isSl,?_⟩
 try rw[e.slLen]
 obtain rfl:=oi hp;exact hq _ i.ext'
theorem zuM{l:List Int}{out:Int}{ca100:C}{m f:M}{Q:V->M->Prop}{rz:Bool}(hS:Pre f m)(ha100:Sl f ca100 l)(hp:zsR l out=some rz)(hq:∀m',Ext m m'->Q (.c (.bool rz)) m'):Wc prog tbl 51 [.c ca100,.c (Il out)] m Q:=by
 have S0:=hS.st;obtain⟨τ0,_⟩:=zsx;refine w51 ?_;unfold zsR at hp;intro R0 ma
 have hgo:∀(e:Nat) (u:Bool) (r:Int) (w:M) (h:Nat->Nat),St (Fm.of m) f f w->zsQ l out e u r=some rz->R0 [.c (.bool u),.c (Il r)] w:=by
  intro e
  induction e with
  | zero=>intro u r w h i hp; cases hp
  | succ e la=>
   intro u r w h i hp;refine ma _ _ _ ?_;rw[zsQ] at hp;refine⟨ha100.isSl,?_⟩
   try rw[ha100.slLen]
   refine ifd hp (fun y hp=>?_) fun y hp=>?_; rotate_left
   ·obtain rfl:=oi hp;exact hq _ i.ext'
   refine gdi hp fun z hp=>?_;intro R4 na
   have hgo:∀(g:Nat) (A:Bool) (B:Int) (D:M) (d:Nat->Nat),St (Fm.of m) f f D->zsP l out r (zsQ l out e) g A B=some rz->R4 [.c (.bool A),.c (Il B)] D:=by
    intro g
    induction g with
    | zero=>intro A B D d a hp; cases hp
    | succ g q=>
     intro A B D d a hp;refine na _ _ _ ?_;rw[zsP] at hp;refine⟨ha100.isSl,?_⟩
     try rw[ha100.slLen]
     refine ifd hp (fun F hp=>?_) fun F hp=>?_; rotate_left
     ·refine gdi hp fun G hp=>?_;exact la _ _ _ d a hp
     refine gdi hp fun I hp=>?_;refine gdi hp fun J hp=>?_;refine gdi hp fun N hp=>?_;refine gdi hp fun O hp=>?_;refine gdi hp fun P hp=>?_;refine gdi hp fun S hp=>?_;refine gdi hp fun T hp=>?_;refine ifd hp (fun Y hp=>?_) fun Y hp=>?_; rotate_left
     ·refine gdi hp fun Z hp=>?_;exact q _ _ _ d a hp
     refine gdi hp fun aa hp=>?_;refine gdi hp fun ba hp=>?_;refine gdi hp fun ca hp=>?_;refine gdi hp fun da hp=>?_;refine gdi hp fun ea hp=>?_;refine gdi hp fun fa hp=>?_;refine gdi hp fun ga hp=>?_;refine ifd hp (fun ha hp=>?_) fun ha hp=>?_; rotate_left
     ·refine gdi hp fun ia hp=>?_;exact q _ _ _ d a hp
     obtain⟨pa,j,hp⟩:=zrr hp;obtain⟨n8,s,o,j⟩:=zrl j;refine⟨n8,s,(by first|exact o|(rw[ha100.slLen];exact o)),_,(ha100.rdI j a.sub),?_⟩;obtain⟨qa,n,hp⟩:=zrr hp;obtain⟨oa,t,p,n⟩:=zrl n;refine⟨oa,t,(by first|exact p|(rw[ha100.slLen];exact p)),_,(ha100.rdI n a.sub),?_⟩;refine ifd hp (fun ja hp=>?_) fun ja hp=>?_
     ·obtain rfl:=oi hp;exact hq _ a.ext'
     refine gdi hp fun ka hp=>?_;exact q _ _ _ d a hp
   exact hgo _ _ _ _ h i hp
 exact hgo _ _ _ _ τ0 S0 hp
theorem zuN{l:List Int}{ca100:C}{m f:M}{Q:V->M->Prop}{rz:List Int}(hS:Pre f m)(ha100:Sl f ca100 l)(hp:zsS l=some rz)(hq:∀m' f' c0,Grw m f m' f'->Sl f' c0 rz->Q (.c c0) m'):Wc prog tbl 58 [.c ca100] m Q:=by
 have z:=hS.st;obtain⟨A,_⟩:=zsx;refine w58 ?_;unfold zsS at hp;intro B d;obtain⟨s,e,t,g⟩:=Ow.lit0 (α:=Int) z A 1 d;obtain⟨h,hp⟩:=zrs hp;obtain⟨a,i,u,j,n,w,o⟩:=g.appL zuB e ha100 h;refine⟨a,i,j,?_⟩;obtain⟨p,q,y,r⟩:=o.freeze n;obtain rfl:=oi hp;exact hq _ p a q.grw r
theorem zuO{l:List Tf}{ca100:C}{m f:M}{Q:V->M->Prop}{rz:Bool}(hS:Pre f m)(ha100:Sl f ca100 l)(hp:zsW l=some rz)(hq:∀m',Ext m m'->Q (.c (.bool rz)) m'):Wc prog tbl 16 [.c ca100] m Q:=by
 have S0:=hS.st;obtain⟨τ0,_⟩:=zsx;refine w16 ?_;unfold zsW at hp;refine⟨ha100.isSl,?_⟩
 try rw[ha100.slLen]
 refine ifd hp (fun Ea hp=>?_) fun Ea hp=>?_
 ·obtain rfl:=oi hp;exact hq _ S0.ext'
 intro R0 mb
 have hgo:∀(g:Nat) (b1:Bool) (b2:Bool) (b3:Bool) (x4:Int) (m5:M) (w:Nat->Nat),St (Fm.of m) f f m5->zsV l g b1 x4=some rz->R0 [.c (.bool b1),.c (.bool b2),.c (.bool b3),.c (Il x4)] m5:=by
  intro g
  induction g with
  | zero=>intro b1 b2 b3 x4 m5 w a hp; cases hp
  | succ g hb=>
   intro b1 b2 b3 x4 m5 w a hp;refine mb _ _ _ _ _ ?_;rw[zsV] at hp;refine⟨ha100.isSl,?_⟩
   try rw[ha100.slLen]
   refine ifd hp (fun Ha hp=>?_) fun Ha hp=>?_; rotate_left
   ·obtain rfl:=oi hp;exact hq _ a.ext'
   obtain⟨zb,i,hp⟩:=zrr hp;obtain⟨n6,sa,D,i⟩:=zrl i;obtain⟨Ab,Bb,Cb,Ia,ba,Db,Eb⟩:=zsz ha100 i;refine⟨n6,sa,(by first|exact D|(rw[ha100.slLen];exact D)),(ha100.isPt i _),_,((Ia _ a.sub).2.1 3 _ rfl),ba.isSl,?_⟩
   try rw[ba.slLen]
   refine ifd hp (fun Ja hp=>?_) fun Ja hp=>?_
   ·obtain rfl:=oi hp;exact hq _ a.ext'
   obtain⟨Fb,j,hp⟩:=zrr hp;obtain⟨n8,ta,F,j⟩:=zrl j;obtain⟨Gb,Hb,Ib,Ka,Jb,ca,Kb⟩:=zsz ha100 j;refine⟨n8,ta,(by first|exact F|(rw[ha100.slLen];exact F)),(ha100.isPt j _),_,((Ka _ a.sub).2.1 4 _ rfl),ca.isSl,?_⟩
   try rw[ca.slLen]
   refine ifd hp (fun La hp=>?_) fun La hp=>?_
   ·obtain rfl:=oi hp;exact hq _ a.ext'
   obtain⟨Mb,n,hp⟩:=zrr hp;obtain⟨ob,ua,G,n⟩:=zrl n;obtain⟨Nb,Ob,Pb,Ma,Qb,Rb,da⟩:=zsz ha100 n;refine⟨ob,ua,(by first|exact G|(rw[ha100.slLen];exact G)),(ha100.isPt n _),_,((Ma _ a.sub).2.1 5 _ rfl),da.isSl,?_⟩
   try rw[da.slLen]
   refine ifd hp (fun Na hp=>?_) fun Na hp=>?_
   ·obtain rfl:=oi hp;exact hq _ a.ext'
   intro pb ib
   have hgo:∀(h:Nat) (ea:Bool) (va:Bool) (I:Int) (fa:M) (o:Nat->Nat),St (Fm.of m) f f fa->zsU l x4 (zsV l g) h ea I=some rz->pb [.c (.bool ea),.c (.bool va),.c (Il I)] fa:=by
    intro h
    induction h with
    | zero=>intro ea va I fa o e hp; cases hp
    | succ h Oa=>
     intro ea va I fa o e hp;refine ib _ _ _ _ ?_;rw[zsU] at hp;obtain⟨Sb,p,hp⟩:=zrr hp;obtain⟨qb,wa,J,p⟩:=zrl p;obtain⟨Tb,Ub,Vb,Pa,Wb,Xb,ga⟩:=zsz ha100 p;refine⟨qb,wa,(by first|exact J|(rw[ha100.slLen];exact J)),(ha100.isPt p _),_,((Pa _ e.sub).2.1 5 _ rfl),ga.isSl,?_⟩
     try rw[ga.slLen]
     refine ifd hp (fun Qa hp=>?_) fun Qa hp=>?_; rotate_left
     ·refine gdi hp fun Ra hp=>?_;exact hb _ _ _ _ _ o e hp
     obtain⟨Yb,q,hp⟩:=zrr hp;obtain⟨rb,xa,N,q⟩:=zrl q;obtain⟨Zb,ac,bc,Sa,cc,dc,ha⟩:=zsz ha100 q;refine⟨rb,xa,(by first|exact N|(rw[ha100.slLen];exact N)),(ha100.isPt q _),_,((Sa _ e.sub).2.1 5 _ rfl),?_⟩;obtain⟨ec,y,hp⟩:=zrr hp;obtain⟨sb,ya,O,y⟩:=zrl y;obtain⟨fc,Ta,ia⟩:=ha.rdS y;refine⟨sb,ya,(by first|exact O|(rw[ha.slLen];exact O)),_,(Ta _ e.sub),ia.isSl,?_⟩
     try rw[ia.slLen]
     refine ifd hp (fun Ua hp=>?_) fun Ua hp=>?_
     ·obtain rfl:=oi hp;exact hq _ e.ext'
     intro tb jb
     have hgo:∀(r:Nat) (ja:Bool) (ka:Int) (la:M) (s:Nat->Nat),St (Fm.of m) f f la->zsT l x4 I (zsU l x4 (zsV l g) h) r ja ka=some rz->tb [.c (.bool ja),.c (Il ka)] la:=by
      intro r
      induction r with
      | zero=>intro ja ka la s d hp; cases hp
      | succ r Va=>
       intro ja ka la s d hp;refine jb _ _ _ ?_;rw[zsT] at hp;obtain⟨gc,t,hp⟩:=zrr hp;obtain⟨ub,za,P,t⟩:=zrl t;obtain⟨hc,ic,jc,Wa,kc,nc,ma⟩:=zsz ha100 t;refine⟨ub,za,(by first|exact P|(rw[ha100.slLen];exact P)),(ha100.isPt t _),_,((Wa _ d.sub).2.1 5 _ rfl),?_⟩;obtain⟨oc,z,hp⟩:=zrr hp;obtain⟨vb,Aa,S,z⟩:=zrl z;obtain⟨pc,Xa,na⟩:=ma.rdS z;refine⟨vb,Aa,(by first|exact S|(rw[ma.slLen];exact S)),_,(Xa _ d.sub),na.isSl,?_⟩
       try rw[na.slLen]
       refine ifd hp (fun Ya hp=>?_) fun Ya hp=>?_; rotate_left
       ·refine gdi hp fun Za hp=>?_;exact Oa _ _ _ _ s d hp
       obtain⟨qc,u,hp⟩:=zrr hp;obtain⟨wb,Ba,T,u⟩:=zrl u;obtain⟨sc,tc,uc,ab,vc,wc,oa⟩:=zsz ha100 u;refine⟨wb,Ba,(by first|exact T|(rw[ha100.slLen];exact T)),(ha100.isPt u _),_,((ab _ d.sub).2.1 5 _ rfl),?_⟩;obtain⟨xc,A,hp⟩:=zrr hp;obtain⟨xb,Ca,Y,A⟩:=zrl A;obtain⟨yc,bb,pa⟩:=oa.rdS A;refine⟨xb,Ca,(by first|exact Y|(rw[oa.slLen];exact Y)),_,(bb _ d.sub),?_⟩;obtain⟨zc,B,hp⟩:=zrr hp;obtain⟨yb,Da,Z,B⟩:=zrl B;obtain⟨Ac,cb,qa⟩:=pa.rdS B;refine⟨yb,Da,(by first|exact Z|(rw[pa.slLen];exact Z)),_,(cb _ d.sub),qa.isSl,?_⟩
       try rw[qa.slLen]
       refine ifd hp (fun db hp=>?_) fun db hp=>?_
       ·obtain rfl:=oi hp;exact hq _ d.ext'
       refine gdi hp fun eb hp=>?_;exact Va _ _ _ s d hp
     exact hgo _ _ _ _ o e hp
   exact hgo _ _ _ _ _ w a hp
 exact hgo _ _ _ _ _ _ τ0 S0 hp
theorem zuP{l:List Tf}{ca100:C}{m f:M}{Q:V->M->Prop}{rz:Int}(hS:Pre f m)(ha100:Sl f ca100 l)(hp:zsX l=some rz)(hq:∀m',Ext m m'->Q (.c (Il rz)) m'):Wc prog tbl 20 [.c ca100] m Q:=by
 have g:=hS.st;obtain⟨j,_⟩:=zsx;refine w20 ?_;unfold zsX at hp;obtain⟨h,a,hp⟩:=zrr hp;refine zuI (l:=l) g.pre ha100 a fun n d=>?_;obtain⟨e,i⟩:=g.call d j;refine⟨_,rfl,?_⟩;obtain rfl:=oi hp;exact hq _ e.ext'
theorem zuQ{l:List Tf}{ca100:C}{m f:M}{Q:V->M->Prop}{rz:Bool}(hS:Pre f m)(ha100:Sl f ca100 l)(hp:zsY l=some rz)(hq:∀m',Ext m m'->Q (.c (.bool rz)) m'):Wc prog tbl 49 [.c ca100] m Q:=by
 have n:=hS.st;obtain⟨o,_⟩:=zsx;refine w49 ?_;unfold zsY at hp;obtain⟨p,d,hp⟩:=zrr hp;refine zuO (l:=l) n.pre ha100 d fun t e=>?_;obtain⟨a,q⟩:=n.call e o;refine⟨_,rfl,?_⟩;refine zrZ hp (fun g hp=>?_) fun g hp=>?_; rotate_left
 ·obtain rfl:=oi hp;exact hq _ a.ext'
 obtain⟨r,h,hp⟩:=zrr hp;refine zuP (l:=l) a.pre ha100 h fun u i=>?_;obtain⟨j,s⟩:=a.call i o;refine⟨_,rfl,?_⟩;obtain rfl:=oi hp;exact hq _ j.ext'
theorem zuR{r:Rg}{n:Int}{m f:M}{Q:V->M->Prop}{rz:Bool}(hS:Pre f m)(hp:zsZ r n=some rz)(hq:∀m',Ext m m'->Q (.c (.bool rz)) m'):Wc prog tbl 78 [.agg 2 [Il r.Lo,Il r.Hi],.c (Il n)] m Q:=by
 have j:=hS.st;obtain⟨l,_⟩:=zsx;refine w78 ?_;unfold zsZ at hp;intro o e;obtain⟨h,a,i,d⟩:=j.blk e l 1;refine⟨trivial,_,d.bk.rc rfl,?_⟩;refine ifd hp (fun g hp=>?_) fun g hp=>?_; rotate_left
 ·obtain rfl:=oi hp;exact hq _ a.ext'
 refine⟨trivial,_,d.bk.rc rfl,?_⟩;obtain rfl:=oi hp;exact hq _ a.ext'
theorem zuS{n:Int}{size:Int}{m f:M}{Q:V->M->Prop}{rz:Bool}(hS:Pre f m)(hp:zs0 n size=some rz)(hq:∀m',Ext m m'->Q (.c (.bool rz)) m'):Wc prog tbl 77 [.c (Il n),.c (Il size)] m Q:=by
 have h:=hS.st;obtain⟨l,_⟩:=zsx;refine w77 ?_;unfold zs0 at hp;refine gdi hp fun a hp=>?_;obtain⟨i,d,hp⟩:=zrr hp;refine zuR (r:=({ Lo:=(0:Int),Hi:=(size - 1) }:Rg)) (n:=n) h.pre  d fun o e=>?_;obtain⟨g,j⟩:=h.call e l;refine⟨_,rfl,?_⟩;obtain rfl:=oi hp;exact hq _ g.ext'
theorem zuT{n:Int}{m f:M}{Q:V->M->Prop}{rz:Bool}(hS:Pre f m)(hp:zs1 n=some rz)(hq:∀m',Ext m m'->Q (.c (.bool rz)) m'):Wc prog tbl 55 [.c (Il n)] m Q:=by
 have g:=hS.st;obtain⟨j,_⟩:=zsx;refine w55 ?_;unfold zs1 at hp;obtain⟨h,a,hp⟩:=zrr hp;refine zuR (r:=({ Lo:=(0:Int),Hi:=(120:Int) }:Rg)) (n:=n) g.pre  a fun l d=>?_;obtain⟨e,i⟩:=g.call d j;refine⟨_,rfl,?_⟩;obtain rfl:=oi hp;exact hq _ e.ext'
theorem zuU{n:Int}{m f:M}{Q:V->M->Prop}{rz:Bool}(hS:Pre f m)(hp:zs2 n=some rz)(hq:∀m',Ext m m'->Q (.c (.bool rz)) m'):Wc prog tbl 56 [.c (Il n)] m Q:=by
 have g:=hS.st;obtain⟨j,_⟩:=zsx;refine w56 ?_;unfold zs2 at hp;obtain⟨h,a,hp⟩:=zrr hp;refine zuR (r:=({ Lo:=(0:Int),Hi:=(100:Int) }:Rg)) (n:=n) g.pre  a fun l d=>?_;obtain⟨e,i⟩:=g.call d j;refine⟨_,rfl,?_⟩;obtain rfl:=oi hp;exact hq _ e.ext'
theorem zuV{n:Int}{m f:M}{Q:V->M->Prop}{rz:Bool}(hS:Pre f m)(hp:zs3 n=some rz)(hq:∀m',Ext m m'->Q (.c (.bool rz)) m'):Wc prog tbl 105 [.c (Il n)] m Q:=by
 have g:=hS.st;obtain⟨j,_⟩:=zsx;refine zt6 ?_;unfold zs3 at hp;obtain⟨h,a,hp⟩:=zrr hp;refine zuR (r:=({ Lo:=(0:Int),Hi:=(100:Int) }:Rg)) (n:=n) g.pre  a fun l d=>?_;obtain⟨e,i⟩:=g.call d j;refine⟨_,rfl,?_⟩;obtain rfl:=oi hp;exact hq _ e.ext'
theorem zuW{l:List Int}{ca100:C}{m f:M}{Q:V->M->Prop}{rz:Bool}(hS:Pre f m)(ha100:Sl f ca100 l)(hp:zs5 l=some rz)(hq:∀m',Ext m m'->Q (.c (.bool rz)) m'):Wc prog tbl 109 [.c ca100] m Q:=by
 have D:=hS.st;obtain⟨F,_⟩:=zsx;refine zue ?_;unfold zs5 at hp;intro G z
 have hgo:∀(d:Nat) (w:Bool) (p:Int) (q:M) (e:Nat->Nat),St (Fm.of m) f f q->zs4 l d p=some rz->G [.c (.bool w),.c (Il p)] q:=by
  intro d
  induction d with
  | zero=>intro w p q e a hp; cases hp
  | succ d y=>
   intro w p q e a hp;refine z _ _ _ ?_;rw[zs4] at hp;refine⟨ha100.isSl,?_⟩
   try rw[ha100.slLen]
   refine ifd hp (fun r hp=>?_) fun r hp=>?_; rotate_left
   ·obtain rfl:=oi hp;exact hq _ a.ext'
   obtain⟨A,g,hp⟩:=zrr hp;obtain⟨I,n,i,g⟩:=zrl g;refine⟨I,n,(by first|exact i|(rw[ha100.slLen];exact i)),_,(ha100.rdI g a.sub),?_⟩;refine gdi hp fun s hp=>?_;obtain⟨B,h,hp⟩:=zrr hp;obtain⟨J,o,j,h⟩:=zrl h;refine⟨J,o,(by first|exact j|(rw[ha100.slLen];exact j)),_,(ha100.rdI h a.sub),?_⟩;refine ifd hp (fun t hp=>?_) fun t hp=>?_
   ·obtain rfl:=oi hp;exact hq _ a.ext'
   refine gdi hp fun u hp=>?_;exact y _ _ _ e a hp
 exact hgo _ _ _ _ F D hp
theorem zuX{l:List Int}{ca100:C}{m f:M}{Q:V->M->Prop}{rz:Bool}(hS:Pre f m)(ha100:Sl f ca100 l)(hp:zs6 l=some rz)(hq:∀m',Ext m m'->Q (.c (.bool rz)) m'):Wc prog tbl 86 [.c ca100] m Q:=by
 have e:=hS.st;obtain⟨s,_⟩:=zsx;refine w86 ?_;unfold zs6 at hp;refine⟨ha100.isSl,?_⟩
 try rw[ha100.slLen]
 refine ifd hp (fun h hp=>?_) fun h hp=>?_; rotate_left
 ·obtain rfl:=oi hp;exact hq _ e.ext'
 obtain⟨p,a,hp⟩:=zrr hp;obtain⟨t,g,d,a⟩:=zrl a;refine⟨t,g,(by first|exact d|(rw[ha100.slLen];exact d)),_,(ha100.rdI a e.sub),?_⟩;refine ifd hp (fun i hp=>?_) fun i hp=>?_; rotate_left
 ·obtain rfl:=oi hp;exact hq _ e.ext'
 obtain⟨q,j,hp⟩:=zrr hp;refine zuW (l:=l) e.pre ha100 j fun u n=>?_;obtain⟨o,r⟩:=e.call n s;refine⟨_,rfl,?_⟩;obtain rfl:=oi hp;exact hq _ o.ext'
theorem zuY{l:List Tf}{ca100:C}{m f:M}{Q:V->M->Prop}{rz:List Int}(hS:Pre f m)(ha100:Sl f ca100 l)(hp:zs8 l=some rz)(hq:∀m' f' c0,Grw m f m' f'->Sl f' c0 rz->Q (.c c0) m'):Wc prog tbl 87 [.c ca100] m Q:=by
 have S0:=hS.st;obtain⟨τ0,_⟩:=zsx;refine w87 ?_;unfold zs8 at hp;refine⟨ha100.isSl,?_⟩;intro R0 ia
 have hgo:∀(g:Nat) (p:C) (s:Int) (h:List Int) (q:M) (i:Nat->Nat),St (Fm.of m) f f q->Ow (Fm.of m) f i q 1 p h->zs7 l g h s=some rz->R0 [.c p,.c (Il s)] q:=by
  intro g
  induction g with
  | zero=>intro p s h q i j d hp; cases hp
  | succ g ha=>
   intro p s h q i j d hp;refine ia _ _ _ ?_;rw[zs7] at hp
   try rw[ha100.slLen]
   refine ifd hp (fun t hp=>?_) fun t hp=>?_; rotate_left
   ·obtain⟨u,w,ja,y⟩:=d.freeze j;obtain rfl:=oi hp;exact hq _ u p w.grw y
   obtain⟨e,n,hp⟩:=zrr hp;obtain⟨n4,r,o,n⟩:=zrl n;obtain⟨z,A,B,D,ka,la,ma⟩:=zsz ha100 n;refine⟨n4,r,(by first|exact o|(rw[ha100.slLen];exact o)),_,_,_,_,_,_,(D _ j.sub).1,?_⟩;intro ua F;obtain⟨na,G,I,J⟩:=j.blk F i 2;have d:=d.k I;obtain⟨N,O,P,S,T⟩:=J.sto G [Il e.From,.bool e.Whole,Il e.Least,z,A,B];have d:=d.k S;refine⟨N,O,?_⟩;refine⟨trivial,_,T.bk.rc rfl,?_⟩;obtain⟨Y,hp⟩:=zrs hp;intro va Z;obtain⟨aa,ba,ca,da,ea,oa,fa⟩:=d.app' zuB P (a:=e.From) (show Rp.rep (α:=Int) f _ e.From from rfl) Y Z;refine⟨aa,ba,da,?_⟩;refine gdi hp fun ga hp=>?_;exact ha _ _ _ _ ca ea fa hp
 exact hgo _ _ _ _ _ τ0 S0 (Ow.nil _ _ _ _ _) hp
theorem zuZ{l:List Tf}{t:Tf}{ca100 ca203 ca204 ca205:C}{m f:M}{Q:V->M->Prop}{rz:Bool}(hS:Pre f m)(ha100:Sl f ca100 l)(_ha203:Sl f ca203 t.Weeks)(_ha204:Sl f ca204 t.Counts)(ha205:Sl f ca205 t.Rates)(hp:zs9 l t=some rz)(hq:∀m',Ext m m'->Q (.c (.bool rz)) m'):Wc prog tbl 88 [.c ca100,.agg 6 [Il t.From,.bool t.Whole,Il t.Least,ca203,ca204,ca205]] m Q:=by
 have z:=hS.st;obtain⟨A,_⟩:=zsx;refine w88 ?_;unfold zs9 at hp;intro D i;obtain⟨o,e,p,j⟩:=z.blk i A 1;refine⟨trivial,_,j.bk.rc rfl,ha205.isSl,?_⟩;obtain⟨q,a,hp⟩:=zrr hp;obtain⟨B,h,d,a⟩:=zrl a;obtain⟨r,s,u,n,w,y,g⟩:=zsz ha100 a;refine⟨B,h,(by first|exact d|(rw[ha100.slLen];exact d)),(ha100.isPt a _),_,((n _ e.sub).2.1 5 _ rfl),g.isSl,?_⟩
 try rw[ha205.slLen]
 try rw[g.slLen]
 obtain rfl:=oi hp;exact hq _ e.ext'
theorem zu0{l:List Tf}{n:Int}{ca100:C}{m f:M}{Q:V->M->Prop}{rz:Bool}(hS:Pre f m)(ha100:Sl f ca100 l)(hp:zta l n=some rz)(hq:∀m',Ext m m'->Q (.c (.bool rz)) m'):Wc prog tbl 54 [.c ca100,.c (Il n)] m Q:=by
 have q:=hS.st;obtain⟨A,_⟩:=zsx;refine w54 ?_;unfold zta at hp;obtain⟨h,a,hp⟩:=zrr hp;obtain⟨B,g,d,a⟩:=zrl a;obtain⟨r,s,t,i,u,w,e⟩:=zsz ha100 a;refine⟨B,g,(by first|exact d|(rw[ha100.slLen];exact d)),(ha100.isPt a _),_,((i _ q.sub).2.1 5 _ rfl),e.isSl,?_⟩
 try rw[e.slLen]
 obtain⟨y,j,hp⟩:=zrr hp;refine zuS (n:=n) (size:=(h.Rates.length:Int)) q.pre  j fun D o=>?_;obtain⟨p,z⟩:=q.call o A;refine⟨_,rfl,?_⟩;obtain rfl:=oi hp;exact hq _ p.ext'
theorem zu1{t:Tf}{ca103 ca104 ca105:C}{m f:M}{Q:V->M->Prop}{rz:Bool}(hS:Pre f m)(ha103:Sl f ca103 t.Weeks)(ha104:Sl f ca104 t.Counts)(ha105:Sl f ca105 t.Rates)(hp:ztb t=some rz)(hq:∀m',Ext m m'->Q (.c (.bool rz)) m'):Wc prog tbl 83 [.agg 6 [Il t.From,.bool t.Whole,Il t.Least,ca103,ca104,ca105]] m Q:=by
 have l:=hS.st;obtain⟨n,_⟩:=zsx;refine w83 ?_;unfold ztb at hp;intro o e;obtain⟨i,a,j,d⟩:=l.blk e n 1;refine⟨trivial,_,d.bk.rc rfl,ha103.isSl,?_⟩
 try rw[ha103.slLen]
 refine ifd hp (fun g hp=>?_) fun g hp=>?_
 ·obtain rfl:=oi hp;exact hq _ a.ext'
 refine⟨trivial,_,d.bk.rc rfl,ha104.isSl,?_⟩
 try rw[ha104.slLen]
 refine ifd hp (fun h hp=>?_) fun h hp=>?_
 ·obtain rfl:=oi hp;exact hq _ a.ext'
 refine⟨trivial,_,d.bk.rc rfl,ha105.isSl,?_⟩
 try rw[ha105.slLen]
 obtain rfl:=oi hp;exact hq _ a.ext'
theorem zu2{x:Int}{m f:M}{Q:V->M->Prop}{rz:Bool}(hS:Pre f m)(hp:ztc x=some rz)(hq:∀m',Ext m m'->Q (.c (.bool rz)) m'):Wc prog tbl 95 [.c (Il x)] m Q:=by
 have a:=hS.st;obtain⟨d,_⟩:=zsx;refine w95 ?_;unfold ztc at hp;obtain rfl:=oi hp;exact hq _ a.ext'
theorem zu3{x:Int}{m f:M}{Q:V->M->Prop}{rz:Bool}(hS:Pre f m)(hp:ztd x=some rz)(hq:∀m',Ext m m'->Q (.c (.bool rz)) m'):Wc prog tbl 131 [.c (Il x)] m Q:=by
 have a:=hS.st;obtain⟨d,_⟩:=zsx;refine zuq ?_;unfold ztd at hp;obtain rfl:=oi hp;exact hq _ a.ext'
theorem zu4{x:Int}{y:Int}{m f:M}{Q:V->M->Prop}{rz:Bool}(hS:Pre f m)(hp:zte x y=some rz)(hq:∀m',Ext m m'->Q (.c (.bool rz)) m'):Wc prog tbl 130 [.c (Il x),.c (Il y)] m Q:=by
 have n:=hS.st;obtain⟨o,_⟩:=zsx;refine zuh ?_;unfold zte at hp;obtain⟨p,e,hp⟩:=zrr hp;refine zu2 (x:=x) n.pre  e fun t g=>?_;obtain⟨a,q⟩:=n.call g o;refine⟨_,rfl,?_⟩;refine zrZ hp (fun h hp=>?_) fun h hp=>?_; rotate_left
 ·obtain rfl:=oi hp;exact hq _ a.ext'
 obtain⟨r,i,hp⟩:=zrr hp;refine zu2 (x:=y) a.pre  i fun u j=>?_;obtain⟨d,s⟩:=a.call j o;refine⟨_,rfl,?_⟩;refine zr0 hp (fun l hp=>?_) fun l hp=>?_
 ·obtain rfl:=oi hp;exact hq _ d.ext'
 obtain rfl:=oi hp;exact hq _ d.ext'
theorem zu5{l:List Int}{x:Int}{ca100:C}{m f:M}{Q:V->M->Prop}{rz:Int × Bool}(hS:Pre f m)(ha100:Sl f ca100 l)(hp:ztg l x=some rz)(hq:∀m',Ext m m'->Q (.tup [.c (Il rz.1),.c (.bool rz.2)]) m'):Wc prog tbl 117 [.c ca100,.c (Il x)] m Q:=by
 have S0:=hS.st;obtain⟨τ0,_⟩:=zsx;refine zum ?_;unfold ztg at hp;refine⟨ha100.isSl,?_⟩;intro R0 ha
 try rw[ha100.slLen]
 have hgo:∀(e:Nat) (w:Int) (z:Int) (A:M) (d:Nat->Nat),St (Fm.of m) f f A->ztf l x e w z=some rz->R0 [.c (Il w),.c (Il z)] A:=by
  intro e
  induction e with
  | zero=>intro w z A d a hp; cases hp
  | succ e r=>
   intro w z A d a hp;refine ha _ _ _ ?_;rw[ztf] at hp;refine ifd hp (fun B hp=>?_) fun B hp=>?_
   ·refine gdi hp fun D hp=>?_;refine gdi hp fun F hp=>?_;refine gdi hp fun G hp=>?_;refine gdi hp fun I hp=>?_;refine gdi hp fun J hp=>?_;obtain⟨N,g,hp⟩:=zrr hp;obtain⟨n4,s,n,g⟩:=zrl g;refine⟨n4,s,(by first|exact n|(rw[ha100.slLen];exact n)),_,(ha100.rdI g a.sub),?_⟩;obtain⟨ja,O,hp⟩:=zrr hp;refine zu4 (x:=N) (y:=x) a.pre  O fun m7 P=>?_;obtain⟨q,ka⟩:=a.call P d;refine⟨_,rfl,?_⟩;refine zrZ hp (fun S hp=>?_) fun S hp=>?_; rotate_left
    ·exact r _ _ _ d q hp
    refine gdi hp fun T hp=>?_;exact r _ _ _ d q hp
   try rw[ha100.slLen]
   refine ifd hp (fun Y hp=>?_) fun Y hp=>?_; rotate_left
   ·obtain rfl:=oi hp;exact hq _ a.ext'
   obtain⟨la,h,hp⟩:=zrr hp;obtain⟨n9,t,o,h⟩:=zrl h;refine⟨n9,t,(by first|exact o|(rw[ha100.slLen];exact o)),_,(ha100.rdI h a.sub),?_⟩;refine ifd hp (fun Z hp=>?_) fun Z hp=>?_
   ·obtain rfl:=oi hp;exact hq _ a.ext'
   obtain⟨aa,i,hp⟩:=zrr hp;obtain⟨ia,u,p,i⟩:=zrl i;refine⟨ia,u,(by first|exact p|(rw[ha100.slLen];exact p)),_,(ha100.rdI i a.sub),?_⟩;obtain⟨ma,ba,hp⟩:=zrr hp;refine zu3 (x:=aa) a.pre  ba fun wa ca=>?_;obtain⟨j,na⟩:=a.call ca d;refine⟨_,rfl,?_⟩;refine zrZ hp (fun da hp=>?_) fun da hp=>?_; rotate_left
   ·obtain rfl:=oi hp;exact hq _ j.ext'
   obtain⟨oa,ea,hp⟩:=zrr hp;refine zu3 (x:=x) j.pre  ea fun xa fa=>?_;obtain⟨ga,pa⟩:=j.call fa d;refine⟨_,rfl,?_⟩;obtain rfl:=oi hp;exact hq _ ga.ext'
 exact hgo _ _ _ _ τ0 S0 hp
theorem zu6{days:List Int}{day:Int}{ca100:C}{m f:M}{Q:V->M->Prop}{rz:Int}(hS:Pre f m)(ha100:Sl f ca100 days)(hp:zth days day=some rz)(hq:∀m',Ext m m'->Q (.c (Il rz)) m'):Wc prog tbl 98 [.c ca100,.c (Il day)] m Q:=by
 have i:=hS.st;obtain⟨o,_⟩:=zsx;refine w98 ?_;unfold zth at hp;refine gdi hp fun a hp=>?_;obtain⟨j,d,hp⟩:=zrr hp;refine zu5 (l:=days) (x:=(day+1)) i.pre ha100 d fun p e=>?_;obtain⟨g,n⟩:=i.call e o;refine⟨_,_,rfl,?_⟩;refine gdi hp fun h hp=>?_;obtain rfl:=oi hp;exact hq _ g.ext'
theorem zu7{l:List Tf}{day:Int}{ca100:C}{m f:M}{Q:V->M->Prop}{rz:Tf}(hS:Pre f m)(ha100:Sl f ca100 l)(hp:zti l day=some rz)(hq:∀m' f' c3 c4 c5,Grw m f m' f'->Sl f' c3 rz.Weeks->Sl f' c4 rz.Counts->Sl f' c5 rz.Rates->Q (.agg 6 [Il rz.From,.bool rz.Whole,Il rz.Least,c3,c4,c5]) m'):Wc prog tbl 79 [.c ca100,.c (Il day)] m Q:=by
 have S0:=hS.st;obtain⟨τ0,_⟩:=zsx;refine w79 ?_;unfold zti at hp;intro m0 s;obtain⟨h,i,aa,t⟩:=S0.blk s τ0 1;obtain⟨u,w,hp⟩:=zrr hp;refine zuY (l:=l) i.pre ha100 w fun m2 y ba z A=>?_;obtain⟨j,a⟩:=i.callG z h;have B:=t.k a;refine⟨_,rfl,?_⟩;obtain⟨ca,D,hp⟩:=zrr hp;refine zu6 (days:=u) (day:=day) j.pre A D fun m5 F=>?_;obtain⟨n,G⟩:=j.call F h;have I:=B.k G;refine⟨_,rfl,?_⟩;obtain⟨d,e,hp⟩:=zrr hp;obtain⟨n7,r,g,e⟩:=zrl e;obtain⟨o,p,q,J,N,O,P⟩:=zsz ha100 e;refine⟨n7,r,(by first|exact g|(rw[ha100.slLen];exact g)),_,_,_,_,_,_,(J _ (Sub.trans a.fs n.sub)).1,?_⟩;obtain⟨S,T,Y,da,Z⟩:=I.sto n [Il d.From,.bool d.Whole,Il d.Least,o,p,q];refine⟨S,T,?_⟩;refine⟨_,_,_,_,_,_,Z.bk.ra,?_⟩;obtain rfl:=oi hp;exact hq _ y o p q Y.grw (N.sub a.fs) (O.sub a.fs) (P.sub a.fs)
theorem zu8{t:Tf}{loss:Int}{ca103 ca104 ca105:C}{m f:M}{Q:V->M->Prop}{rz:Int}(hS:Pre f m)(_ha103:Sl f ca103 t.Weeks)(_ha104:Sl f ca104 t.Counts)(_ha105:Sl f ca105 t.Rates)(hp:ztj t loss=some rz)(hq:∀m',Ext m m'->Q (.c (Il rz)) m'):Wc prog tbl 118 [.agg 6 [Il t.From,.bool t.Whole,Il t.Least,ca103,ca104,ca105],.c (Il loss)] m Q:=by
 have i:=hS.st;obtain⟨j,_⟩:=zsx;refine zt8 ?_;unfold ztj at hp;intro l a;obtain⟨e,d,g,h⟩:=i.blk a j 1;obtain rfl:=oi hp;exact hq _ d.ext'
theorem zu9{t:Tf}{loss:Int}{ca103 ca104 ca105:C}{m f:M}{Q:V->M->Prop}{rz:Int}(hS:Pre f m)(_ha103:Sl f ca103 t.Weeks)(_ha104:Sl f ca104 t.Counts)(_ha105:Sl f ca105 t.Rates)(hp:ztk t loss=some rz)(hq:∀m',Ext m m'->Q (.c (Il rz)) m'):Wc prog tbl 119 [.agg 6 [Il t.From,.bool t.Whole,Il t.Least,ca103,ca104,ca105],.c (Il loss)] m Q:=by
 have j:=hS.st;obtain⟨l,_⟩:=zsx;refine zuf ?_;unfold ztk at hp;intro n a;obtain⟨h,d,i,e⟩:=j.blk a l 1;refine⟨trivial,_,e.bk.rc rfl,?_⟩;refine gdi hp fun g hp=>?_;obtain rfl:=oi hp;exact hq _ d.ext'
theorem zva{t:Tf}{h:Ht}{ca103 ca104 ca105:C}{m f:M}{Q:V->M->Prop}{rz:Int}(hS:Pre f m)(ha103:Sl f ca103 t.Weeks)(ha104:Sl f ca104 t.Counts)(ha105:Sl f ca105 t.Rates)(hp:ztl t h=some rz)(hq:∀m',Ext m m'->Q (.c (Il rz)) m'):Wc prog tbl 99 [.agg 6 [Il t.From,.bool t.Whole,Il t.Least,ca103,ca104,ca105],.agg 3 [Il h.Day,Il h.Count,Il h.crop]] m Q:=by
 have S0:=hS.st;obtain⟨τ0,_⟩:=zsx;refine w99 ?_;unfold ztl at hp;intro m0 ga;obtain⟨ha,ia,Oa,ja⟩:=S0.blk ga τ0 1;intro m1 ka;obtain⟨N,g,la,i⟩:=ia.blk ka ha 2;have j:=ja.k la;refine⟨trivial,_,j.bk.rc rfl,trivial,_,i.bk.rc rfl,?_⟩;obtain⟨Pa,n,hp⟩:=zrr hp;obtain⟨n4,Z,A,n⟩:=zrl n;obtain⟨Qa,O,o⟩:=ha105.rdS n;refine⟨n4,Z,(by first|exact A|(rw[ha105.slLen];exact A)),_,(O _ g.sub),trivial,_,j.bk.rc rfl,trivial,trivial,_,i.bk.rc rfl,?_⟩;obtain⟨Ra,ma,hp⟩:=zrr hp;refine zu6 (days:=t.Weeks) (day:=h.Day) g.pre ha103 ma fun m9 na=>?_;obtain⟨e,P⟩:=g.call na N;have p:=j.k P;have q:=i.k P;refine⟨_,rfl,(by rw[show cmC _=true from zpZ (o.noFn)]; exact(O _ e.sub)),(q.bk.rc rfl),(by rw[show cmC _=true from zpZ (ha105.noFn)]; exact(p.bk.rc rfl)),?_⟩;obtain⟨Sa,r,hp⟩:=zrr hp;obtain⟨Ia,aa,B,r⟩:=zrl r;obtain⟨Ta,oa,d⟩:=o.rdS r;refine⟨Ia,aa,(by first|exact B|(rw[o.slLen];exact B)),_,(oa _ e.sub),trivial,_,p.bk.rc rfl,trivial,trivial,_,q.bk.rc rfl,?_⟩;obtain⟨Ua,pa,hp⟩:=zrr hp;refine zu5 (l:=t.Counts) (x:=h.Count) e.pre ha104 pa fun db qa=>?_;obtain⟨a,S⟩:=e.call qa N;have T:=p.k S;have Y:=q.k S;refine⟨_,_,rfl,?_⟩;refine zrZ hp (fun sa hp=>?_) fun sa hp=>?_
 ·obtain⟨Va,s,hp⟩:=zrr hp;obtain⟨Ja,ba,D,s⟩:=zrl s;refine⟨Ja,ba,(by first|exact D|(rw[d.slLen];exact D)),_,(d.rdI s a.sub),?_⟩;obtain rfl:=oi hp;exact hq _ a.ext'
 refine⟨trivial,_,T.bk.rc rfl,?_⟩;refine gdi hp fun ta hp=>?_;obtain⟨Wa,u,hp⟩:=zrr hp;obtain⟨Ka,ca,F,u⟩:=zrl u;refine⟨Ka,ca,(by first|exact F|(rw[ha104.slLen];exact F)),_,(ha104.rdI u a.sub),trivial,_,T.bk.rc rfl,?_⟩;obtain⟨Xa,w,hp⟩:=zrr hp;obtain⟨La,da,G,w⟩:=zrl w;refine⟨La,da,(by first|exact G|(rw[ha104.slLen];exact G)),_,(ha104.rdI w a.sub),?_⟩;refine gdi hp fun ua hp=>?_;obtain⟨Ya,y,hp⟩:=zrr hp;obtain⟨Ma,ea,I,y⟩:=zrl y;refine⟨Ma,ea,(by first|exact I|(rw[d.slLen];exact I)),_,(d.rdI y a.sub),trivial,trivial,_,Y.bk.rc rfl,?_⟩;refine gdi hp fun va hp=>?_;refine gdi hp fun wa hp=>?_;refine gdi hp fun xa hp=>?_;refine gdi hp fun ya hp=>?_;obtain⟨Za,z,hp⟩:=zrr hp;obtain⟨Na,fa,J,z⟩:=zrl z;refine⟨Na,fa,(by first|exact J|(rw[d.slLen];exact J)),_,(d.rdI z a.sub),trivial,trivial,_,Y.bk.rc rfl,?_⟩;refine gdi hp fun za hp=>?_;refine gdi hp fun Aa hp=>?_;refine gdi hp fun Ba hp=>?_;refine gdi hp fun Ca hp=>?_;refine gdi hp fun Da hp=>?_;refine gdi hp fun Ea hp=>?_;refine gdi hp fun Fa hp=>?_;refine gdi hp fun Ga hp=>?_;refine gdi hp fun Ha hp=>?_;obtain rfl:=oi hp;exact hq _ a.ext'
theorem zvb{x:Tf}{passes:Tf->Option (Bool)}{b0:Nat}{ca103 ca104 ca105 cb000:C}{m f:M}{Q:V->M->Prop}{rz:Bool}(hS:Pre f m)(ha103:Sl f ca103 x.Weeks)(ha104:Sl f ca104 x.Counts)(ha105:Sl f ca105 x.Rates)(hb0:Bk f b0 1 [cb000])(hb000:zus f cb000 passes)(hp:ztm x passes=some rz)(hq:∀m',Ext m m'->Q (.c (.bool rz)) m'):Wc prog tbl 104 [.agg 6 [Il x.From,.bool x.Whole,Il x.Least,ca103,ca104,ca105],.c (.ptr b0 0)] m Q:=by
 have p:=hS.st;obtain⟨q,_⟩:=zsx;refine zt1 ?_;unfold ztm at hp;intro r d;obtain⟨e,a,l,g⟩:=p.blk d q 1;refine⟨_,(hb0.sub a.sub).rc rfl,_,_,_,_,_,_,g.bk.ra,?_⟩;obtain⟨n,h,hp⟩:=zrr hp;refine hb000 _ _ _ _ _ _ _ _ (Sub.refl _) a.pre ha103 ha104 ha105 h fun s i=>?_;obtain⟨j,o⟩:=a.call i e;refine⟨_,rfl,?_⟩;obtain rfl:=oi hp;exact hq _ j.ext'
theorem zvc{l:List Tf}{p:Tf->Option (Bool)}{ca100 ca200:C}{m f:M}{Q:V->M->Prop}{rz:Int}(hS:Pre f m)(ha100:Sl f ca100 l)(ha200:zus f ca200 p)(hp:zto l p=some rz)(hq:∀m',Ext m m'->Q (.c (Il rz)) m'):Wc prog tbl 120 [.c ca100,.c ca200] m Q:=by
 have S:=hS.st;obtain⟨T,_⟩:=zsx;refine zun ?_;unfold zto at hp;refine⟨ha100.isSl,?_⟩;intro Y F
 have hgo:∀(d:Nat) (B:Int) (n:Int) (o:M) (e:Nat->Nat),St (Fm.of m) f f o->ztn l p d n=some rz->Y [.c (Il B),.c (Il n)] o:=by
  intro d
  induction d with
  | zero=>intro B n o e a hp; cases hp
  | succ d D=>
   intro B n o e a hp;refine F _ _ _ ?_;rw[ztn] at hp
   try rw[ha100.slLen]
   refine ifd hp (fun q hp=>?_) fun q hp=>?_; rotate_left
   ·obtain rfl:=oi hp;exact hq _ a.ext'
   obtain⟨G,g,hp⟩:=zrr hp;obtain⟨Z,j,h,g⟩:=zrl g;obtain⟨I,J,N,r,s,t,u⟩:=zsz ha100 g;refine⟨Z,j,(by first|exact h|(rw[ha100.slLen];exact h)),_,_,_,_,_,_,(r _ a.sub).1,?_⟩;obtain⟨O,w,hp⟩:=zrr hp;refine ha200 _ _ _ _ _ _ _ _ (Sub.refl _) a.pre s t u w fun aa y=>?_;obtain⟨i,P⟩:=a.call y e;refine⟨_,rfl,?_⟩;refine zrZ hp (fun z hp=>?_) fun z hp=>?_
   ·obtain rfl:=oi hp;exact hq _ i.ext'
   refine gdi hp fun A hp=>?_;exact D _ _ _ e i hp
 exact hgo _ _ _ _ T S hp
theorem zvd{l:List Tf}{p:Tf->Option (Bool)}{ca100 ca200:C}{m f:M}{Q:V->M->Prop}{rz:Bool}(hS:Pre f m)(ha100:Sl f ca100 l)(ha200:zus f ca200 p)(hp:ztp l p=some rz)(hq:∀m',Ext m m'->Q (.c (.bool rz)) m'):Wc prog tbl 103 [.c ca100,.c ca200] m Q:=by
 have g:=hS.st;obtain⟨j,_⟩:=zsx;refine zuc ?_;unfold ztp at hp;obtain⟨h,a,hp⟩:=zrr hp;refine zvc (l:=l) (p:=p) g.pre ha100 ha200 a fun n d=>?_;obtain⟨e,i⟩:=g.call d j;refine⟨_,rfl,?_⟩;obtain rfl:=oi hp;exact hq _ e.ext'
theorem zve{l:List Tf}{passes:Tf->Option (Bool)}{ca100 ca200:C}{m f:M}{Q:V->M->Prop}{rz:Bool}(hS:Pre f m)(ha100:Sl f ca100 l)(ha200:zus f ca200 passes)(hp:ztq l passes=some rz)(hq:∀m',Ext m m'->Q (.c (.bool rz)) m'):Wc prog tbl 84 [.c ca100,.c ca200] m Q:=by
 have J:=hS.st;obtain⟨N,_⟩:=zsx;refine w84 ?_;unfold ztq at hp;intro O i;obtain⟨j,n,A,o⟩:=J.blk i N 1;obtain⟨q,d,e,g⟩:=o.freeze n
 have h:zus q ((C.fn (Fn.func 104) [] [(W.c (C0.ptr m.nxt 0))])) (fun a=>ztm a passes):=by
  intro f' m' a B D F r Q hs hpre s t u hg hq;exact zvb hpre s t u (g.sub hs) ((ha200.sub e.fs).sub hs) hg hq
 obtain⟨G,w,hp⟩:=zrr hp;refine zvd (l:=l) (p:=(fun a=>ztm a passes)) d.pre (ha100.sub e.fs) h w fun P y=>?_;obtain⟨z,I⟩:=d.call y j;refine⟨_,rfl,?_⟩;obtain rfl:=oi hp;exact hq _ z.ext'
theorem zvf{l:List Tf}{p:Tf->Option (Bool)}{ca100 ca200:C}{m f:M}{Q:V->M->Prop}{rz:Int}(hS:Pre f m)(ha100:Sl f ca100 l)(ha200:zus f ca200 p)(hp:zts l p=some rz)(hq:∀m',Ext m m'->Q (.c (Il rz)) m'):Wc prog tbl 102 [.c ca100,.c ca200] m Q:=by
 have S:=hS.st;obtain⟨T,_⟩:=zsx;refine zt5 ?_;unfold zts at hp;refine⟨ha100.isSl,?_⟩;intro Y F
 have hgo:∀(d:Nat) (B:Int) (n:Int) (o:M) (e:Nat->Nat),St (Fm.of m) f f o->ztr l p d n=some rz->Y [.c (Il B),.c (Il n)] o:=by
  intro d
  induction d with
  | zero=>intro B n o e a hp; cases hp
  | succ d D=>
   intro B n o e a hp;refine F _ _ _ ?_;rw[ztr] at hp
   try rw[ha100.slLen]
   refine ifd hp (fun q hp=>?_) fun q hp=>?_; rotate_left
   ·obtain rfl:=oi hp;exact hq _ a.ext'
   obtain⟨G,g,hp⟩:=zrr hp;obtain⟨Z,j,h,g⟩:=zrl g;obtain⟨I,J,N,r,s,t,u⟩:=zsz ha100 g;refine⟨Z,j,(by first|exact h|(rw[ha100.slLen];exact h)),_,_,_,_,_,_,(r _ a.sub).1,?_⟩;obtain⟨O,w,hp⟩:=zrr hp;refine ha200 _ _ _ _ _ _ _ _ (Sub.refl _) a.pre s t u w fun aa y=>?_;obtain⟨i,P⟩:=a.call y e;refine⟨_,rfl,?_⟩;refine zrZ hp (fun z hp=>?_) fun z hp=>?_
   ·obtain rfl:=oi hp;exact hq _ i.ext'
   refine gdi hp fun A hp=>?_;exact D _ _ _ e i hp
 exact hgo _ _ _ _ T S hp
theorem zvg{l:List Tf}{p:Tf->Option (Bool)}{ca100 ca200:C}{m f:M}{Q:V->M->Prop}{rz:Bool}(hS:Pre f m)(ha100:Sl f ca100 l)(ha200:zus f ca200 p)(hp:ztt l p=some rz)(hq:∀m',Ext m m'->Q (.c (.bool rz)) m'):Wc prog tbl 82 [.c ca100,.c ca200] m Q:=by
 have g:=hS.st;obtain⟨j,_⟩:=zsx;refine w82 ?_;unfold ztt at hp;obtain⟨h,a,hp⟩:=zrr hp;refine zvf (l:=l) (p:=p) g.pre ha100 ha200 a fun n d=>?_;obtain⟨e,i⟩:=g.call d j;refine⟨_,rfl,?_⟩;obtain rfl:=oi hp;exact hq _ e.ext'
theorem zvh{x:Int}{passes:Int->Option (Bool)}{b0:Nat}{cb000:C}{m f:M}{Q:V->M->Prop}{rz:Bool}(hS:Pre f m)(hb0:Bk f b0 1 [cb000])(hb000:zuu f cb000 passes)(hp:ztu x passes=some rz)(hq:∀m',Ext m m'->Q (.c (.bool rz)) m'):Wc prog tbl 122 [.c (Il x),.c (.ptr b0 0)] m Q:=by
 have g:=hS.st;obtain⟨j,_⟩:=zsx;refine zt2 ?_;unfold ztu at hp;refine⟨_,(hb0.sub g.sub).rc rfl,?_⟩;obtain⟨h,a,hp⟩:=zrr hp;refine hb000 _ _ _ _ _ (Sub.refl _) g.pre  a fun l d=>?_;obtain⟨e,i⟩:=g.call d j;refine⟨_,rfl,?_⟩;obtain rfl:=oi hp;exact hq _ e.ext'
theorem zvi{l:List Int}{p:Int->Option (Bool)}{ca100 ca200:C}{m f:M}{Q:V->M->Prop}{rz:Int}(hS:Pre f m)(ha100:Sl f ca100 l)(ha200:zuu f ca200 p)(hp:ztw l p=some rz)(hq:∀m',Ext m m'->Q (.c (Il rz)) m'):Wc prog tbl 132 [.c ca100,.c ca200] m Q:=by
 have F:=hS.st;obtain⟨G,_⟩:=zsx;refine zua ?_;unfold ztw at hp;refine⟨ha100.isSl,?_⟩;intro I z
 have hgo:∀(d:Nat) (w:Int) (n:Int) (o:M) (e:Nat->Nat),St (Fm.of m) f f o->ztv l p d n=some rz->I [.c (Il w),.c (Il n)] o:=by
  intro d
  induction d with
  | zero=>intro w n o e a hp; cases hp
  | succ d y=>
   intro w n o e a hp;refine z _ _ _ ?_;rw[ztv] at hp
   try rw[ha100.slLen]
   refine ifd hp (fun q hp=>?_) fun q hp=>?_; rotate_left
   ·obtain rfl:=oi hp;exact hq _ a.ext'
   obtain⟨A,g,hp⟩:=zrr hp;obtain⟨J,j,h,g⟩:=zrl g;refine⟨J,j,(by first|exact h|(rw[ha100.slLen];exact h)),_,(ha100.rdI g a.sub),?_⟩;obtain⟨B,r,hp⟩:=zrr hp;refine ha200 _ _ _ _ _ (Sub.refl _) a.pre  r fun N s=>?_;obtain⟨i,D⟩:=a.call s e;refine⟨_,rfl,?_⟩;refine zrZ hp (fun t hp=>?_) fun t hp=>?_
   ·obtain rfl:=oi hp;exact hq _ i.ext'
   refine gdi hp fun u hp=>?_;exact y _ _ _ e i hp
 exact hgo _ _ _ _ G F hp
theorem zvj{l:List Int}{p:Int->Option (Bool)}{ca100 ca200:C}{m f:M}{Q:V->M->Prop}{rz:Bool}(hS:Pre f m)(ha100:Sl f ca100 l)(ha200:zuu f ca200 p)(hp:ztx l p=some rz)(hq:∀m',Ext m m'->Q (.c (.bool rz)) m'):Wc prog tbl 121 [.c ca100,.c ca200] m Q:=by
 have g:=hS.st;obtain⟨j,_⟩:=zsx;refine zt9 ?_;unfold ztx at hp;obtain⟨h,a,hp⟩:=zrr hp;refine zvi (l:=l) (p:=p) g.pre ha100 ha200 a fun n d=>?_;obtain⟨e,i⟩:=g.call d j;refine⟨_,rfl,?_⟩;obtain rfl:=oi hp;exact hq _ e.ext'
theorem zvk{l:List Int}{passes:Int->Option (Bool)}{ca100 ca200:C}{m f:M}{Q:V->M->Prop}{rz:Bool}(hS:Pre f m)(ha100:Sl f ca100 l)(ha200:zuu f ca200 passes)(hp:zty l passes=some rz)(hq:∀m',Ext m m'->Q (.c (.bool rz)) m'):Wc prog tbl 106 [.c ca100,.c ca200] m Q:=by
 have A:=hS.st;obtain⟨B,_⟩:=zsx;refine zud ?_;unfold zty at hp;intro D i;obtain⟨j,n,w,o⟩:=A.blk i B 1;obtain⟨q,d,e,g⟩:=o.freeze n
 have h:zuu q ((C.fn (Fn.func 122) [] [(W.c (C0.ptr m.nxt 0))])) (fun a=>ztu a passes):=by
  intro f' m' a r Q hs hpre  hg hq;exact zvh hpre (g.sub hs) ((ha200.sub e.fs).sub hs) hg hq
 obtain⟨y,s,hp⟩:=zrr hp;refine zvj (l:=l) (p:=(fun a=>ztu a passes)) d.pre (ha100.sub e.fs) h s fun F t=>?_;obtain⟨u,z⟩:=d.call t j;refine⟨_,rfl,?_⟩;obtain rfl:=oi hp;exact hq _ u.ext'
theorem zvl{x:List Int}{passes:List Int->Option (Bool)}{b0:Nat}{ca100 cb000:C}{m f:M}{Q:V->M->Prop}{rz:Bool}(hS:Pre f m)(ha100:Sl f ca100 x)(hb0:Bk f b0 1 [cb000])(hb000:zuv f cb000 passes)(hp:ztz x passes=some rz)(hq:∀m',Ext m m'->Q (.c (.bool rz)) m'):Wc prog tbl 135 [.c ca100,.c (.ptr b0 0)] m Q:=by
 have g:=hS.st;obtain⟨j,_⟩:=zsx;refine zt3 ?_;unfold ztz at hp;refine⟨_,(hb0.sub g.sub).rc rfl,?_⟩;obtain⟨h,a,hp⟩:=zrr hp;refine hb000 _ _ _ _ _ _ (Sub.refl _) g.pre ha100 a fun l d=>?_;obtain⟨e,i⟩:=g.call d j;refine⟨_,rfl,?_⟩;obtain rfl:=oi hp;exact hq _ e.ext'
theorem zvm{l:List (List Int)}{p:List Int->Option (Bool)}{ca100 ca200:C}{m f:M}{Q:V->M->Prop}{rz:Int}(hS:Pre f m)(ha100:Sl f ca100 l)(ha200:zuv f ca200 p)(hp:ztB l p=some rz)(hq:∀m',Ext m m'->Q (.c (Il rz)) m'):Wc prog tbl 136 [.c ca100,.c ca200] m Q:=by
 have J:=hS.st;obtain⟨N,_⟩:=zsx;refine zuj ?_;unfold ztB at hp;refine⟨ha100.isSl,?_⟩;intro O B
 have hgo:∀(d:Nat) (z:Int) (n:Int) (o:M) (e:Nat->Nat),St (Fm.of m) f f o->ztA l p d n=some rz->O [.c (Il z),.c (Il n)] o:=by
  intro d
  induction d with
  | zero=>intro z n o e a hp; cases hp
  | succ d A=>
   intro z n o e a hp;refine B _ _ _ ?_;rw[ztA] at hp
   try rw[ha100.slLen]
   refine ifd hp (fun q hp=>?_) fun q hp=>?_; rotate_left
   ·obtain rfl:=oi hp;exact hq _ a.ext'
   obtain⟨D,g,hp⟩:=zrr hp;obtain⟨P,j,h,g⟩:=zrl g;obtain⟨F,r,s⟩:=ha100.rdS g;refine⟨P,j,(by first|exact h|(rw[ha100.slLen];exact h)),_,(r _ a.sub),?_⟩;obtain⟨G,t,hp⟩:=zrr hp;refine ha200 _ _ _ _ _ _ (Sub.refl _) a.pre s t fun S u=>?_;obtain⟨i,I⟩:=a.call u e;refine⟨_,rfl,?_⟩;refine zrZ hp (fun w hp=>?_) fun w hp=>?_
   ·obtain rfl:=oi hp;exact hq _ i.ext'
   refine gdi hp fun y hp=>?_;exact A _ _ _ e i hp
 exact hgo _ _ _ _ N J hp
theorem zvn{l:List (List Int)}{p:List Int->Option (Bool)}{ca100 ca200:C}{m f:M}{Q:V->M->Prop}{rz:Bool}(hS:Pre f m)(ha100:Sl f ca100 l)(ha200:zuv f ca200 p)(hp:ztC l p=some rz)(hq:∀m',Ext m m'->Q (.c (.bool rz)) m'):Wc prog tbl 134 [.c ca100,.c ca200] m Q:=by
 have g:=hS.st;obtain⟨j,_⟩:=zsx;refine zur ?_;unfold ztC at hp;obtain⟨h,a,hp⟩:=zrr hp;refine zvm (l:=l) (p:=p) g.pre ha100 ha200 a fun n d=>?_;obtain⟨e,i⟩:=g.call d j;refine⟨_,rfl,?_⟩;obtain rfl:=oi hp;exact hq _ e.ext'
theorem zvo{l:List (List Int)}{passes:List Int->Option (Bool)}{ca100 ca200:C}{m f:M}{Q:V->M->Prop}{rz:Bool}(hS:Pre f m)(ha100:Sl f ca100 l)(ha200:zuv f ca200 passes)(hp:ztD l passes=some rz)(hq:∀m',Ext m m'->Q (.c (.bool rz)) m'):Wc prog tbl 125 [.c ca100,.c ca200] m Q:=by
 have D:=hS.st;obtain⟨F,_⟩:=zsx;refine zug ?_;unfold ztD at hp;intro G i;obtain⟨j,n,y,o⟩:=D.blk i F 1;obtain⟨q,d,e,g⟩:=o.freeze n
 have h:zuv q ((C.fn (Fn.func 135) [] [(W.c (C0.ptr m.nxt 0))])) (fun a=>ztz a passes):=by
  intro f' m' a z r Q hs hpre s hg hq;exact zvl hpre s (g.sub hs) ((ha200.sub e.fs).sub hs) hg hq
 obtain⟨A,t,hp⟩:=zrr hp;refine zvn (l:=l) (p:=(fun a=>ztz a passes)) d.pre (ha100.sub e.fs) h t fun I u=>?_;obtain⟨w,B⟩:=d.call u j;refine⟨_,rfl,?_⟩;obtain rfl:=oi hp;exact hq _ w.ext'
theorem zvp{x:List (List Int)}{passes:List (List Int)->Option (Bool)}{b0:Nat}{ca100 cb000:C}{m f:M}{Q:V->M->Prop}{rz:Bool}(hS:Pre f m)(ha100:Sl f ca100 x)(hb0:Bk f b0 1 [cb000])(hb000:zuw f cb000 passes)(hp:ztE x passes=some rz)(hq:∀m',Ext m m'->Q (.c (.bool rz)) m'):Wc prog tbl 124 [.c ca100,.c (.ptr b0 0)] m Q:=by
 have g:=hS.st;obtain⟨j,_⟩:=zsx;refine zt4 ?_;unfold ztE at hp;refine⟨_,(hb0.sub g.sub).rc rfl,?_⟩;obtain⟨h,a,hp⟩:=zrr hp;refine hb000 _ _ _ _ _ _ (Sub.refl _) g.pre ha100 a fun l d=>?_;obtain⟨e,i⟩:=g.call d j;refine⟨_,rfl,?_⟩;obtain rfl:=oi hp;exact hq _ e.ext'
theorem zvq{l:List (List (List Int))}{p:List (List Int)->Option (Bool)}{ca100 ca200:C}{m f:M}{Q:V->M->Prop}{rz:Int}(hS:Pre f m)(ha100:Sl f ca100 l)(ha200:zuw f ca200 p)(hp:ztG l p=some rz)(hq:∀m',Ext m m'->Q (.c (Il rz)) m'):Wc prog tbl 133 [.c ca100,.c ca200] m Q:=by
 have J:=hS.st;obtain⟨N,_⟩:=zsx;refine zui ?_;unfold ztG at hp;refine⟨ha100.isSl,?_⟩;intro O B
 have hgo:∀(d:Nat) (z:Int) (n:Int) (o:M) (e:Nat->Nat),St (Fm.of m) f f o->ztF l p d n=some rz->O [.c (Il z),.c (Il n)] o:=by
  intro d
  induction d with
  | zero=>intro z n o e a hp; cases hp
  | succ d A=>
   intro z n o e a hp;refine B _ _ _ ?_;rw[ztF] at hp
   try rw[ha100.slLen]
   refine ifd hp (fun q hp=>?_) fun q hp=>?_; rotate_left
   ·obtain rfl:=oi hp;exact hq _ a.ext'
   obtain⟨D,g,hp⟩:=zrr hp;obtain⟨P,j,h,g⟩:=zrl g;obtain⟨F,r,s⟩:=ha100.rdS g;refine⟨P,j,(by first|exact h|(rw[ha100.slLen];exact h)),_,(r _ a.sub),?_⟩;obtain⟨G,t,hp⟩:=zrr hp;refine ha200 _ _ _ _ _ _ (Sub.refl _) a.pre s t fun S u=>?_;obtain⟨i,I⟩:=a.call u e;refine⟨_,rfl,?_⟩;refine zrZ hp (fun w hp=>?_) fun w hp=>?_
   ·obtain rfl:=oi hp;exact hq _ i.ext'
   refine gdi hp fun y hp=>?_;exact A _ _ _ e i hp
 exact hgo _ _ _ _ N J hp
theorem zvr{l:List (List (List Int))}{p:List (List Int)->Option (Bool)}{ca100 ca200:C}{m f:M}{Q:V->M->Prop}{rz:Bool}(hS:Pre f m)(ha100:Sl f ca100 l)(ha200:zuw f ca200 p)(hp:ztH l p=some rz)(hq:∀m',Ext m m'->Q (.c (.bool rz)) m'):Wc prog tbl 123 [.c ca100,.c ca200] m Q:=by
 have g:=hS.st;obtain⟨j,_⟩:=zsx;refine zuo ?_;unfold ztH at hp;obtain⟨h,a,hp⟩:=zrr hp;refine zvq (l:=l) (p:=p) g.pre ha100 ha200 a fun n d=>?_;obtain⟨e,i⟩:=g.call d j;refine⟨_,rfl,?_⟩;obtain rfl:=oi hp;exact hq _ e.ext'
theorem zvs{l:List (List (List Int))}{passes:List (List Int)->Option (Bool)}{ca100 ca200:C}{m f:M}{Q:V->M->Prop}{rz:Bool}(hS:Pre f m)(ha100:Sl f ca100 l)(ha200:zuw f ca200 passes)(hp:ztI l passes=some rz)(hq:∀m',Ext m m'->Q (.c (.bool rz)) m'):Wc prog tbl 107 [.c ca100,.c ca200] m Q:=by
 have D:=hS.st;obtain⟨F,_⟩:=zsx;refine zul ?_;unfold ztI at hp;intro G i;obtain⟨j,n,y,o⟩:=D.blk i F 1;obtain⟨q,d,e,g⟩:=o.freeze n
 have h:zuw q ((C.fn (Fn.func 124) [] [(W.c (C0.ptr m.nxt 0))])) (fun a=>ztE a passes):=by
  intro f' m' a z r Q hs hpre s hg hq;exact zvp hpre s (g.sub hs) ((ha200.sub e.fs).sub hs) hg hq
 obtain⟨A,t,hp⟩:=zrr hp;refine zvr (l:=l) (p:=(fun a=>ztE a passes)) d.pre (ha100.sub e.fs) h t fun I u=>?_;obtain⟨w,B⟩:=d.call u j;refine⟨_,rfl,?_⟩;obtain rfl:=oi hp;exact hq _ w.ext'
theorem zvt{t:Tf}{rates:List Int}{ca103 ca104 ca105 ca200:C}{m f:M}{Q:V->M->Prop}{rz:Bool}(hS:Pre f m)(_ha103:Sl f ca103 t.Weeks)(ha104:Sl f ca104 t.Counts)(_ha105:Sl f ca105 t.Rates)(ha200:Sl f ca200 rates)(hp:ztJ t rates=some rz)(hq:∀m',Ext m m'->Q (.c (.bool rz)) m'):Wc prog tbl 126 [.agg 6 [Il t.From,.bool t.Whole,Il t.Least,ca103,ca104,ca105],.c ca200] m Q:=by
 have w:=hS.st;obtain⟨y,_⟩:=zsx;refine zup ?_;unfold ztJ at hp;intro z g;obtain⟨h,d,q,i⟩:=w.blk g y 1;refine⟨ha200.isSl,trivial,_,i.bk.rc rfl,ha104.isSl,?_⟩
 try rw[ha200.slLen]
 try rw[ha104.slLen]
 refine ifd hp (fun j hp=>?_) fun j hp=>?_; rotate_left
 ·obtain rfl:=oi hp;exact hq _ d.ext'
 have e:zuu f ((C.fn (Fn.func 105) [] [])) (fun a=>zs3 a):=by
  intro f' m' a r Q hs hpre  hg hq;exact zuV hpre  hg hq
 obtain⟨s,n,hp⟩:=zrr hp;refine zvk (l:=rates) (passes:=(fun a=>zs3 a)) d.pre ha200 e n fun A o=>?_;obtain⟨p,u⟩:=d.call o h;refine⟨_,rfl,?_⟩;obtain rfl:=oi hp;exact hq _ p.ext'
theorem zvu{t:Tf}{weeks:List (List Int)}{ca103 ca104 ca105 ca200:C}{m f:M}{Q:V->M->Prop}{rz:Bool}(hS:Pre f m)(ha103:Sl f ca103 t.Weeks)(ha104:Sl f ca104 t.Counts)(ha105:Sl f ca105 t.Rates)(ha200:Sl f ca200 weeks)(hp:ztK t weeks=some rz)(hq:∀m',Ext m m'->Q (.c (.bool rz)) m'):Wc prog tbl 108 [.agg 6 [Il t.From,.bool t.Whole,Il t.Least,ca103,ca104,ca105],.c ca200] m Q:=by
 have D:=hS.st;obtain⟨F,_⟩:=zsx;refine zt7 ?_;unfold ztK at hp;intro I h;obtain⟨i,d,y,e⟩:=D.blk h F 1;refine⟨ha200.isSl,trivial,_,e.bk.rc rfl,ha103.isSl,?_⟩
 try rw[ha200.slLen]
 try rw[ha103.slLen]
 refine ifd hp (fun j hp=>?_) fun j hp=>?_; rotate_left
 ·obtain rfl:=oi hp;exact hq _ d.ext'
 refine⟨_,_,_,_,_,_,e.bk.ra,?_⟩;obtain⟨s,u,w⟩:∃ws,zaE vW [.agg 6 [Il t.From,.bool t.Whole,Il t.Least,ca103,ca104,ca105]]=some ws/\zbZ wV ws=[.agg 6 [Il t.From,.bool t.Whole,Il t.Least,ca103,ca104,ca105]]:=(zrB (zrz (zru rfl (zru rfl (zru rfl (zru ha103.noFn (zru ha104.noFn (zru ha105.noFn zrv))))))) zrA);rw[u,zd3]
 have g:zuv f ((C.fn (Fn.func 126) s [])) (fun a=>ztJ t a):=by
  intro f' m' a z r Q hs hpre n hg hq
  show Wc prog tbl 126 (appS (zbZ wV s) _) m' Q
  rw[w];exact zvt hpre (ha103.sub hs) (ha104.sub hs) (ha105.sub hs) n hg hq
 obtain⟨A,o,hp⟩:=zrr hp;refine zvo (l:=weeks) (passes:=(fun a=>ztJ t a)) d.pre ha200 g o fun G p=>?_;obtain⟨q,B⟩:=d.call p i;refine⟨_,rfl,?_⟩;obtain rfl:=oi hp;exact hq _ q.ext'
theorem zvv{t:Tf}{ca103 ca104 ca105:C}{m f:M}{Q:V->M->Prop}{rz:Bool}(hS:Pre f m)(ha103:Sl f ca103 t.Weeks)(ha104:Sl f ca104 t.Counts)(ha105:Sl f ca105 t.Rates)(hp:ztL t=some rz)(hq:∀m',Ext m m'->Q (.c (.bool rz)) m'):Wc prog tbl 85 [.agg 6 [Il t.From,.bool t.Whole,Il t.Least,ca103,ca104,ca105]] m Q:=by
 have S0:=hS.st;obtain⟨τ0,_⟩:=zsx;refine w85 ?_;unfold ztL at hp;intro m0 J;obtain⟨a,w,ya,y⟩:=S0.blk J τ0 1;refine⟨trivial,_,y.bk.rc rfl,?_⟩;obtain⟨za,N,hp⟩:=zrr hp;refine zuT (n:=t.From) w.pre  N fun m3 O=>?_;obtain⟨i,P⟩:=w.call O a;have z:=y.k P;refine⟨_,rfl,?_⟩;refine zrZ hp (fun S hp=>?_) fun S hp=>?_; rotate_left
 ·obtain rfl:=oi hp;exact hq _ i.ext'
 refine⟨trivial,_,z.bk.rc rfl,?_⟩;obtain⟨Aa,T,hp⟩:=zrr hp;refine zuV (n:=t.Least) i.pre  T fun m7 Y=>?_;obtain⟨j,Z⟩:=i.call Y a;have A:=z.k Z;refine⟨_,rfl,?_⟩;refine zrZ hp (fun aa hp=>?_) fun aa hp=>?_; rotate_left
 ·obtain rfl:=oi hp;exact hq _ j.ext'
 refine⟨trivial,_,A.bk.rc rfl,?_⟩;obtain⟨Ba,ba,hp⟩:=zrr hp;refine zuX (l:=t.Weeks) j.pre ha103 ba fun Ka ca=>?_;obtain⟨o,da⟩:=j.call ca a;have B:=A.k da;refine⟨_,rfl,?_⟩;refine zrZ hp (fun ea hp=>?_) fun ea hp=>?_; rotate_left
 ·obtain rfl:=oi hp;exact hq _ o.ext'
 refine⟨trivial,_,B.bk.rc rfl,?_⟩
 have G:zuu f ((C.fn (Fn.func 55) [] [])) (fun g=>zs1 g):=by
  intro f' m' g r Q hs hpre  hg hq;exact zuT hpre  hg hq
 obtain⟨Ca,fa,hp⟩:=zrr hp;refine zvk (l:=t.Weeks) (passes:=(fun g=>zs1 g)) o.pre ha103 G fa fun La ga=>?_;obtain⟨p,ha⟩:=o.call ga a;have D:=B.k ha;refine⟨_,rfl,?_⟩;refine zrZ hp (fun ia hp=>?_) fun ia hp=>?_; rotate_left
 ·obtain rfl:=oi hp;exact hq _ p.ext'
 refine⟨trivial,_,D.bk.rc rfl,?_⟩;obtain⟨Da,ja,hp⟩:=zrr hp;refine zuX (l:=t.Counts) p.pre ha104 ja fun Ma ka=>?_;obtain⟨d,la⟩:=p.call ka a;have e:=D.k la;refine⟨_,rfl,?_⟩;refine zrZ hp (fun ma hp=>?_) fun ma hp=>?_; rotate_left
 ·obtain rfl:=oi hp;exact hq _ d.ext'
 refine⟨trivial,_,e.bk.rc rfl,trivial,_,e.bk.rc rfl,ha104.isSl,?_⟩;obtain⟨F,hp⟩:=zrs hp;refine⟨(by first|exact F|(rw[ha104.slLen];exact F)),?_⟩;obtain⟨Ea,q,hp⟩:=zrr hp;obtain⟨xa,s,u,q⟩:=zrl q;refine⟨xa,(by first|exact s|(rw[ha104.slLen];exact s)),(by first|exact u|(rw[ha104.slLen];exact u)),_,(ha104.rdI q d.sub),?_⟩;refine ifd hp (fun na hp=>?_) fun na hp=>?_; rotate_left
 ·obtain rfl:=oi hp;exact hq _ d.ext'
 refine⟨trivial,_,e.bk.rc rfl,ha105.isSl,?_⟩
 try rw[ha105.slLen]
 refine ifd hp (fun oa hp=>?_) fun oa hp=>?_; rotate_left
 ·obtain rfl:=oi hp;exact hq _ d.ext'
 refine⟨trivial,_,e.bk.rc rfl,_,_,_,_,_,_,e.bk.ra,?_⟩;obtain⟨ua,va,wa⟩:∃ws,zaE vW [.agg 6 [Il t.From,.bool t.Whole,Il t.Least,ca103,ca104,ca105]]=some ws/\zbZ wV ws=[.agg 6 [Il t.From,.bool t.Whole,Il t.Least,ca103,ca104,ca105]]:=(zrB (zrz (zru rfl (zru rfl (zru rfl (zru ha103.noFn (zru ha104.noFn (zru ha105.noFn zrv))))))) zrA);rw[va,zd3]
 have I:zuw f ((C.fn (Fn.func 108) ua [])) (fun h=>ztK t h):=by
  intro f' m' h Fa r Q hs hpre pa hg hq
  show Wc prog tbl 108 (appS (zbZ wV ua) _) m' Q
  rw[wa];exact zvu hpre (ha103.sub hs) (ha104.sub hs) (ha105.sub hs) pa hg hq
 obtain⟨Ga,qa,hp⟩:=zrr hp;refine zvs (l:=t.Rates) (passes:=(fun h=>ztK t h)) d.pre ha105 I qa fun Na sa=>?_;obtain⟨ta,Ha⟩:=d.call sa a;refine⟨_,rfl,?_⟩;obtain rfl:=oi hp;exact hq _ ta.ext'
theorem zvw{l:List Tf}{ca100:C}{m f:M}{Q:V->M->Prop}{rz:Bool}(hS:Pre f m)(ha100:Sl f ca100 l)(hp:ztM l=some rz)(hq:∀m',Ext m m'->Q (.c (.bool rz)) m'):Wc prog tbl 60 [.c ca100] m Q:=by
 have q:=hS.st;obtain⟨z,_⟩:=zsx;refine w60 ?_;unfold ztM at hp;refine⟨ha100.isSl,?_⟩
 try rw[ha100.slLen]
 refine ifd hp (fun e hp=>?_) fun e hp=>?_
 ·obtain rfl:=oi hp;exact hq _ q.ext'
 have d:zus f ((C.fn (Fn.func 83) [] [])) (fun a=>ztb a):=by
  intro f' m' a s t u r Q hs hpre g h i hg hq;exact zu1 hpre g h i hg hq
 obtain⟨w,j,hp⟩:=zrr hp;refine zvg (l:=l) (p:=(fun a=>ztb a)) q.pre ha100 d j fun A n=>?_;obtain⟨o,y⟩:=q.call n z;refine⟨_,rfl,?_⟩;obtain rfl:=oi hp;exact hq _ o.ext'
theorem zvx{l:List Tf}{ca100:C}{m f:M}{Q:V->M->Prop}{rz:Bool}(hS:Pre f m)(ha100:Sl f ca100 l)(hp:ztN l=some rz)(hq:∀m',Ext m m'->Q (.c (.bool rz)) m'):Wc prog tbl 61 [.c ca100] m Q:=by
 have Y:=hS.st;obtain⟨o,_⟩:=zsx;refine w61 ?_;unfold ztN at hp
 have j:zus f ((C.fn (Fn.func 85) [] [])) (fun a=>ztL a):=by
  intro f' m' a ca da ea r Q hs hpre p q s hg hq;exact zvv hpre p q s hg hq
 obtain⟨fa,t,hp⟩:=zrr hp;refine zve (l:=l) (passes:=(fun a=>ztL a)) Y.pre ha100 j t fun m1 u=>?_;obtain⟨e,ga⟩:=Y.call u o;refine⟨_,rfl,?_⟩;refine zrZ hp (fun w hp=>?_) fun w hp=>?_; rotate_left
 ·obtain rfl:=oi hp;exact hq _ e.ext'
 obtain⟨y,z,hp⟩:=zrr hp;refine zuY (l:=l) e.pre ha100 z fun m4 A ha B D=>?_;obtain⟨h,i⟩:=e.callG B o;refine⟨_,rfl,?_⟩;obtain⟨ia,F,hp⟩:=zrr hp;refine zuX (l:=y) h.pre D F fun m7 G=>?_;obtain⟨g,ja⟩:=h.call G o;refine⟨_,rfl,?_⟩;refine zrZ hp (fun I hp=>?_) fun I hp=>?_; rotate_left
 ·obtain rfl:=oi hp;exact hq _ g.ext'
 obtain⟨Z,aa,ba⟩:∃ws,zaE vW [.c ca100]=some ws/\zbZ wV ws=[.c ca100]:=(zrB (zry ha100.noFn) zrA);rw[aa,zd3]
 have n:zus A ((C.fn (Fn.func 88) Z [])) (fun d=>zs9 l d):=by
  intro f' m' d ka la ma r Q hs hpre J N O hg hq
  show Wc prog tbl 88 (appS (zbZ wV Z) _) m' Q
  rw[ba];exact zuZ hpre ((ha100.sub i.fs).sub hs) J N O hg hq
 obtain⟨na,P,hp⟩:=zrr hp;refine zve (l:=l) (passes:=(fun d=>zs9 l d)) g.pre (ha100.sub i.fs) n P fun pa S=>?_;obtain⟨T,oa⟩:=g.call S o;refine⟨_,rfl,?_⟩;obtain rfl:=oi hp;exact hq _ T.ext'
theorem zvy{l:List Tf}{ca100:C}{m f:M}{Q:V->M->Prop}{rz:Int}(hS:Pre f m)(ha100:Sl f ca100 l)(hp:ztO l=some rz)(hq:∀m',Ext m m'->Q (.c (Il rz)) m'):Wc prog tbl 21 [.c ca100] m Q:=by
 have o:=hS.st;obtain⟨p,_⟩:=zsx;refine w21 ?_;unfold ztO at hp;obtain⟨q,e,hp⟩:=zrr hp;refine zvw (l:=l) o.pre ha100 e fun u g=>?_;obtain⟨a,r⟩:=o.call g p;refine⟨_,rfl,?_⟩;refine zrZ hp (fun h hp=>?_) fun h hp=>?_
 ·obtain rfl:=oi hp;exact hq _ a.ext'
 obtain⟨s,i,hp⟩:=zrr hp;refine zvx (l:=l) a.pre ha100 i fun w j=>?_;obtain⟨d,t⟩:=a.call j p;refine⟨_,rfl,?_⟩;refine zr0 hp (fun n hp=>?_) fun n hp=>?_
 ·obtain rfl:=oi hp;exact hq _ d.ext'
 obtain rfl:=oi hp;exact hq _ d.ext'
theorem zvz{t:Tf}{ca103 ca104 ca105:C}{m f:M}{Q:V->M->Prop}{rz:Mnr}(hS:Pre f m)(_ha103:Sl f ca103 t.Weeks)(_ha104:Sl f ca104 t.Counts)(_ha105:Sl f ca105 t.Rates)(hp:ztP t=some rz)(hq:∀m' f' c0,Grw m f m' f'->zux f' c0 rz.paid->Q (.agg 1 [c0]) m'):Wc prog tbl 100 [.agg 6 [Il t.From,.bool t.Whole,Il t.Least,ca103,ca104,ca105]] m Q:=by
 have S0:=hS.st;obtain⟨τ0,_⟩:=zsx;refine zub ?_;unfold ztP at hp;intro m0 l;obtain⟨n,o,Y,p⟩:=S0.blk l τ0 1;intro m1 q;obtain⟨Z,a,s,c⟩:=o.blk q n 2;have u:=p.k s;refine⟨trivial,_,u.bk.rc rfl,?_⟩;refine zrZ hp (fun w hp=>?_) fun w hp=>?_
 ·obtain⟨y,z,A,aa,B⟩:=c.sto a [(C.fn (Fn.func 118) [] [])];refine⟨y,z,?_⟩;refine⟨_,B.bk.ra,?_⟩
  have i:zux f ((C.fn (Fn.func 118) [] [])) (fun d e=>ztj d e):=by
   intro f' m' d e ba ca da r Q hs hpre D F G hg hq;exact zu8 hpre D F G hg hq
  obtain rfl:=oi hp;exact hq _ f (C.fn (Fn.func 118) [] []) A.grw i
 obtain⟨I,J,N,ea,O⟩:=c.sto a [(C.fn (Fn.func 119) [] [])];refine⟨I,J,?_⟩;refine⟨_,O.bk.ra,?_⟩
 have j:zux f ((C.fn (Fn.func 119) [] [])) (fun g h=>ztk g h):=by
  intro f' m' g h fa ga ha r Q hs hpre P S T hg hq;exact zu9 hpre P S T hg hq
 obtain rfl:=oi hp;exact hq _ f (C.fn (Fn.func 119) [] []) N.grw j
theorem zvA{t:Tf}{h:Ht}{ca103 ca104 ca105:C}{m f:M}{Q:V->M->Prop}{rz:Int}(hS:Pre f m)(ha103:Sl f ca103 t.Weeks)(ha104:Sl f ca104 t.Counts)(ha105:Sl f ca105 t.Rates)(hp:ztQ t h=some rz)(hq:∀m',Ext m m'->Q (.c (Il rz)) m'):Wc prog tbl 80 [.agg 6 [Il t.From,.bool t.Whole,Il t.Least,ca103,ca104,ca105],.agg 3 [Il h.Day,Il h.Count,Il h.crop]] m Q:=by
 have S0:=hS.st;obtain⟨τ0,_⟩:=zsx;refine w80 ?_;unfold ztQ at hp;intro m0 n;obtain⟨o,p,O,q⟩:=S0.blk n τ0 1;intro m1 r;obtain⟨e,i,s,u⟩:=p.blk r o 2;have j:=q.k s;refine⟨_,_,_,_,_,_,j.bk.ra,_,_,_,u.bk.ra,?_⟩;obtain⟨P,w,hp⟩:=zrr hp;refine zva (t:=t) (h:=h) i.pre ha103 ha104 ha105 w fun da y=>?_;obtain⟨g,z⟩:=i.call y e;have a:=j.k z;refine⟨_,rfl,trivial,_,a.bk.rc rfl,?_⟩;refine ifd hp (fun A hp=>?_) fun A hp=>?_
 ·obtain rfl:=oi hp;exact hq _ g.ext'
 refine⟨_,_,_,_,_,_,a.bk.ra,?_⟩;obtain⟨S,B,hp⟩:=zrr hp;refine zvz (t:=t) g.pre ha103 ha104 ha105 B fun ea T Y D F=>?_;obtain⟨l,d⟩:=g.callG D e;have G:=a.k d;refine⟨_,rfl,_,_,_,_,_,_,G.bk.ra,(by rw[show zaL cmC _=true from zp0 (zru rfl (zru rfl (zru rfl (zru ha103.noFn (zru ha104.noFn (zru ha105.noFn zrv))))))]; exact(a.bk.ra)),?_⟩;obtain⟨Z,I,hp⟩:=zrr hp;refine F _ _ _ _ _ _ _ _ _ (Sub.refl _) l.pre (ha103.sub d.fs) (ha104.sub d.fs) (ha105.sub d.fs) I fun fa J=>?_;obtain⟨N,aa⟩:=l.call J e;refine⟨_,rfl,?_⟩;obtain rfl:=oi hp;exact hq _ N.ext'
theorem zvB{l:List Tf}{ca100:C}{m f:M}{Q:V->M->Prop}{rz:Wk × Int}(hS:Pre f m)(ha100:Sl f ca100 l)(hp:ztR l=some rz)(hq:∀m' f' c0 c1,Grw m f m' f'->Sl f' c0 rz.1.tariffs->Mn m f' m' c1 rz.1.parts->Q (.tup [.agg 2 [c0,c1],.c (Il rz.2)]) m'):Wc prog tbl 53 [.c ca100] m Q:=by
 have Y:=hS.st;obtain⟨Z,_⟩:=zsx;refine w53 ?_;unfold ztR at hp;intro m0 h;obtain⟨a,d,O,i⟩:=Y.blk h Z 1;obtain⟨P,j,hp⟩:=zrr hp;refine zvy (l:=l) d.pre ha100 j fun N n=>?_;obtain⟨e,o⟩:=d.call n a;have g:=i.k o;refine⟨_,rfl,?_⟩;refine zrY hp (fun p hp=>?_) fun p hp=>?_
 ·obtain⟨q,r,s,S,t⟩:=g.sto e [.sl0,C.map0];refine⟨q,r,?_⟩;refine⟨_,_,t.bk.ra,?_⟩;obtain rfl:=oi hp;exact hq _ f .sl0 .map0 s.grw (Sl.nil _) (Mo.nil _ _ a _ 0).mn
 intro m7 u;obtain⟨T,w,y,z⟩:=Mo.new (K:=Ht) (V':=Int) e u a 2;have A:=g.k y;obtain⟨B,D,F,G,I⟩:=A.sto w [ca100,(.map N.nxt)];have J:=z.k G;refine⟨B,D,?_⟩;refine⟨_,_,I.bk.ra,?_⟩;obtain rfl:=oi hp;exact hq _ f ca100 (.map N.nxt) F.grw ha100 J.mn
theorem zvC{w:Wk}{h:Ht}{ca100 ca101:C}{m f:M}{Q:V->M->Prop}{rz:Int × Option (Ht->Option (Int))}(hS:Pre f m)(ha100:Sl f ca100 w.tariffs)(ha101:Mc f m ca101 w.parts)(hp:ztS w h=some rz)(hq:∀m',zrO ca101 m m'->Mi m' ca101 rz.2->Q (.c (Il rz.1)) m'):Wc prog tbl 57 [.agg 2 [ca100,ca101],.agg 3 [Il h.Day,Il h.Count,Il h.crop]] m Q:=by
 have S0:=hS.stM ha101;obtain⟨τ0,M0⟩:∃τ,Mo (Fm.mp m ca101) f τ m 1 ca101 w.parts:=⟨_,ha101.mo 1⟩;refine w57 ?_;unfold ztS at hp;intro m0 y;obtain⟨z,A,B,D⟩:=S0.blk y τ0 2;have F:=M0.k B;intro m1 G;obtain⟨o,d,p,a⟩:=A.blk G z 3;have e:=D.k p;have g:=F.k p;refine⟨trivial,_,e.bk.rc rfl,_,_,_,a.bk.ra,?_⟩;obtain⟨I,hp⟩:=zrs hp;refine⟨_,g.mi.lk zuz (k:=h) I rfl,?_⟩
 cases n:(zrM w.parts h) with
 | none=>
  rw[zrV n] at hp;refine⟨fun _=>?_,fun u hu=>(by cases hu)⟩;refine⟨trivial,_,e.bk.rc rfl,trivial,trivial,_,a.bk.rc rfl,?_⟩;obtain⟨J,N,hp⟩:=zrr hp;refine zu7 (l:=w.tariffs) (day:=h.Day) d.pre ha100 N fun xa ma na oa pa O P S T=>?_;obtain⟨q,i⟩:=d.callG O o;have Y:=e.k i;have r:=a.k i;have Z:=g.k i;refine⟨_,_,_,_,_,_,rfl,_,_,_,r.bk.ra,(a.bk.ra),?_⟩;obtain⟨s,aa,hp⟩:=zrr hp;refine zvA (t:=J) (h:=h) q.pre P S T aa fun ya ba=>?_;obtain⟨ca,j⟩:=q.call ba o;have da:=Y.k j;have ea:=r.k j;have fa:=Z.k j;refine⟨_,rfl,trivial,_,da.bk.rc rfl,_,_,_,ea.bk.ra,?_⟩;obtain⟨ga,hp⟩:=zrs hp;obtain⟨qa,ha,hp⟩:=zrr hp;obtain⟨ia,ja,ka,sa,la⟩:=Mo.up zuz ca fa (k:=h) ga (v:=s) ha (kv:=.agg 3 [Il h.Day,Il h.Count,Il h.crop]) (yv:=.c (Il s)) rfl rfl;refine⟨ia,ja,?_⟩;obtain rfl:=oi hp;exact hq _ ka.extB la.mi
 | some ta=>
  rw[zrW n] at hp;refine⟨fun h=>(by cases h),fun u hu=>?_⟩;obtain rfl:=oi hu;refine⟨_,rfl,?_⟩;obtain rfl:=oi hp;exact hq _ d.extB g.mi
theorem zvD{l:List Tf}{crop:Int}{day:Int}{count:Int}{ca100:C}{m f:M}{Q:V->M->Prop}{rz:Int × Int}(hS:Pre f m)(ha100:Sl f ca100 l)(hp:ztT l crop day count=some rz)(hq:∀m',Ext m m'->Q (.tup [.c (Il rz.1),.c (Il rz.2)]) m'):Wc prog tbl 18 [.c ca100,.c (Il crop),.c (Il day),.c (Il count)] m Q:=by
 have S0:=hS.st;obtain⟨τ0,_⟩:=zsx;refine w18 ?_;unfold ztT at hp;obtain⟨j,y,hp⟩:=zrr hp;refine zvB (l:=l) S0.pre ha100 y fun m1 va z A B o D=>?_;obtain⟨F,G,wa,I⟩:=S0.callN B D τ0 1;refine⟨_,_,_,rfl,?_⟩;intro m5 J;obtain⟨d,N,O,P⟩:=G.blk J F 2;have S:=I.k O;obtain⟨T,Y,e,Z,p⟩:=P.sto N [z,A];have aa:=S.k Z;refine⟨T,Y,?_⟩;refine zrY hp (fun ba hp=>?_) fun ba hp=>?_
 ·obtain rfl:=oi hp;exact hq _ e.ext'
 refine⟨trivial,_,p.bk.rc rfl,?_⟩;obtain⟨xa,ca,hp⟩:=zrr hp;refine zu0 (l:=j.1.tariffs) (n:=crop) e.pre o ca fun m9 da=>?_;obtain⟨g,q⟩:=e.call da d;have ea:=p.k q;have fa:=aa.k q;refine⟨_,rfl,?_⟩;refine zr0 hp (fun ga hp=>?_) fun ga hp=>?_
 ·obtain rfl:=oi hp;exact hq _ g.ext'
 obtain⟨ya,ha,hp⟩:=zrr hp;refine zuT (n:=day) g.pre  ha fun Ea ia=>?_;obtain⟨i,r⟩:=g.call ia d;have ja:=ea.k r;have ka:=fa.k r;refine⟨_,rfl,?_⟩;refine zr0 hp (fun la hp=>?_) fun la hp=>?_
 ·obtain rfl:=oi hp;exact hq _ i.ext'
 obtain⟨za,ma,hp⟩:=zrr hp;refine zuU (n:=count) i.pre  ma fun Fa na=>?_;obtain⟨a,s⟩:=i.call na d;have oa:=ja.k s;have t:=ka.k s;refine⟨_,rfl,?_⟩;refine zr0 hp (fun pa hp=>?_) fun pa hp=>?_
 ·obtain rfl:=oi hp;exact hq _ a.ext'
 refine⟨_,_,oa.bk.ra,?_⟩;obtain⟨Aa,qa,hp⟩:=zrr hp;refine zvC (w:=j.1) (h:=({ Day:=day,Count:=count,crop:=crop }:Ht)) a.pre o (t.mc a) qa fun Ga sa u=>?_;obtain⟨ta,Ba,Ca⟩:=a.callM t sa u;refine⟨_,rfl,?_⟩;obtain rfl:=oi hp;exact hq _ ta.ext'
theorem zvE{l:List Tf}{crop:Int}{day:Int}{ca100:C}{m f:M}{Q:V->M->Prop}{rz:Int × Int}(hS:Pre f m)(ha100:Sl f ca100 l)(hp:ztV l crop day=some rz)(hq:∀m',Ext m m'->Q (.tup [.c (Il rz.1),.c (Il rz.2)]) m'):Wc prog tbl 38 [.c ca100,.c (Il crop),.c (Il day)] m Q:=by
 have S0:=hS.st;obtain⟨τ0,_⟩:=zsx;refine w38 ?_;unfold ztV at hp;obtain⟨p,P,hp⟩:=zrr hp;refine zvB (l:=l) S0.pre ha100 P fun m1 q z r S A T=>?_;obtain⟨Y,Z,Ga,aa⟩:=S0.callN S T τ0 1;refine⟨_,_,_,rfl,?_⟩;intro m5 ba;obtain⟨s,ca,da,ea⟩:=Z.blk ba Y 2;have fa:=aa.k da;obtain⟨ga,ha,t,ia,B⟩:=ea.sto ca [z,r];have ja:=fa.k ia;refine⟨ga,ha,?_⟩;refine zrY hp (fun ka hp=>?_) fun ka hp=>?_
 ·obtain rfl:=oi hp;exact hq _ t.ext'
 refine⟨trivial,_,B.bk.rc rfl,?_⟩;obtain⟨Ha,la,hp⟩:=zrr hp;refine zu0 (l:=p.1.tariffs) (n:=crop) t.pre A la fun m9 ma=>?_;obtain⟨u,D⟩:=t.call ma s;have na:=B.k D;have oa:=ja.k D;refine⟨_,rfl,?_⟩;refine zr0 hp (fun pa hp=>?_) fun pa hp=>?_
 ·obtain rfl:=oi hp;exact hq _ u.ext'
 obtain⟨Ia,qa,hp⟩:=zrr hp;refine zuT (n:=day) u.pre  qa fun Ma sa=>?_;obtain⟨F,G⟩:=u.call sa s;have a:=na.k G;have d:=oa.k G;refine⟨_,rfl,?_⟩;refine zr0 hp (fun ta hp=>?_) fun ta hp=>?_
 ·obtain rfl:=oi hp;exact hq _ F.ext'
 intro Fa Da
 have hgo:∀(j:Nat) (J:Int) (N:Int) (y:Int) (e:Option (Ht->Option (Int))) (o:M) (g:Nat->Nat),St (Fm.of m) f q o->Lb (Fm.of m) q g o 2 m1.nxt 2 [z,r]->Mo (Fm.of m) q g o 1 r e->ztU crop day p j e y=some rz->Fa [.c (Il J),.c (Il N),.c (Il y)] o:=by
  intro j
  induction j with
  | zero=>intro J N y e o g i a d hp; cases hp
  | succ j ua=>
   intro J N y e o g i a d hp;refine Da _ _ _ _ ?_;rw[ztU] at hp;refine ifd hp (fun va hp=>?_) fun va hp=>?_; rotate_left
   ·obtain rfl:=oi hp;exact hq _ i.ext'
   refine⟨_,_,a.bk.ra,?_⟩;obtain⟨Ja,wa,hp⟩:=zrr hp;refine zvC (w:=({ tariffs:=p.1.tariffs,parts:=e }:Wk)) (h:=({ Day:=day,Count:=y,crop:=crop }:Ht)) i.pre A (d.mc i) wa fun Na xa O=>?_;obtain⟨I,ya,za⟩:=i.callM d xa O;have Aa:=a.k ya;refine⟨_,rfl,?_⟩;refine ifd hp (fun Ba hp=>?_) fun Ba hp=>?_
   ·obtain rfl:=oi hp;exact hq _ I.ext'
   refine gdi hp fun Ca hp=>?_;exact ua _ _ _ _ _ g I Aa za hp
 exact hgo _ _ _ _ _ _ s F a d hp
theorem zvF{l:List Tf}{ca100:C}{m f:M}{Q:V->M->Prop}{rz:List Tf}(hS:Pre f m)(ha100:Sl f ca100 l)(hp:ztZ l=some rz)(hq:∀m' f' c0,Grw m f m' f'->Sl f' c0 rz->Q (.c c0) m'):Wc prog tbl 19 [.c ca100] m Q:=by
 have S0:=hS.st;obtain⟨τ0,_⟩:=zsx;refine w19 ?_;unfold ztZ at hp;intro R0 md
 have hgo:∀(B:Nat) (c1:C) (x2:Int) (u:List Tf) (m3:M) (N:M) (Y:Nat->Nat),St (Fm.of m) f N m3->Sub f N->Ow (Fm.of m) N Y m3 1 c1 u->ztY l B u x2=some rz->R0 [.c c1,.c (Il x2)] m3:=by
  intro B
  induction B with
  | zero=>intro c1 x2 u m3 N Y va d e hp; cases hp
  | succ B jd=>
   intro c1 x2 u m3 N Y va d e hp;refine md _ _ _ ?_;rw[ztY] at hp;refine⟨ha100.isSl,?_⟩
   try rw[ha100.slLen]
   refine ifd hp (fun zb hp=>?_) fun zb hp=>?_; rotate_left
   ·obtain⟨Ab,Bb,yd,Cb⟩:=e.freeze va;obtain rfl:=oi hp;exact hq _ Ab c1 Bb.grw Cb
   intro m4 Db;obtain⟨wa,z,Eb,mb⟩:=va.growK Db Y 2;have e:=e.k Eb;have Fb:=mb 0 (by decide);obtain⟨Gb,Z,hp⟩:=zrr hp;obtain⟨n5,ob,Ga,Z⟩:=zrl Z;obtain⟨zd,Ad,Bd,aa,Cd,Dd,Ed⟩:=zsz ha100 Z;refine⟨n5,ob,(by first|exact Ga|(rw[ha100.slLen];exact Ga)),(ha100.isPt Z _),_,((aa _ (Sub.trans d z.sub)).2.1 0 _ rfl),?_⟩;obtain⟨Hb,ba,hp⟩:=zrr hp;obtain⟨n7,pb,Ha,ba⟩:=zrl ba;obtain⟨Fd,Gd,Hd,ca,Id,Jd,Ld⟩:=zsz ha100 ba;refine⟨n7,pb,(by first|exact Ha|(rw[ha100.slLen];exact Ha)),(ha100.isPt ba _),_,((ca _ (Sub.trans d z.sub)).2.1 1 _ rfl),?_⟩;obtain⟨Ib,da,hp⟩:=zrr hp;obtain⟨n9,qb,Ia,da⟩:=zrl da;obtain⟨Md,Nd,Od,ea,Pd,Qd,Rd⟩:=zsz ha100 da;refine⟨n9,qb,(by first|exact Ia|(rw[ha100.slLen];exact Ia)),(ha100.isPt da _),_,((ea _ (Sub.trans d z.sub)).2.1 2 _ rfl),?_⟩;obtain⟨Jb,fa,hp⟩:=zrr hp;obtain⟨nd,rb,Ja,fa⟩:=zrl fa;obtain⟨Sd,Td,Ud,Va,Wa,Vd,Wd⟩:=zsz ha100 fa;refine⟨nd,rb,(by first|exact Ja|(rw[ha100.slLen];exact Ja)),(ha100.isPt fa _),_,((Va _ (Sub.trans d z.sub)).2.1 3 _ rfl),?_⟩;obtain⟨ga,Kb,hp⟩:=zrr hp;refine zuN (l:=Jb.Weeks) z.pre (Wa.sub d) Kb fun Ke Xd ha Mb Nb=>?_;obtain⟨D,g⟩:=z.callG Mb wa;have Ob:=Fb.k g;have e:=e.k g;refine⟨_,rfl,((ea _ (Sub.trans (Sub.trans d g.fs) D.sub)).2.1 2 _ rfl),((ca _ (Sub.trans (Sub.trans d g.fs) D.sub)).2.1 1 _ rfl),((aa _ (Sub.trans (Sub.trans d g.fs) D.sub)).2.1 0 _ rfl),?_⟩;obtain⟨Pb,ia,hp⟩:=zrr hp;obtain⟨od,sb,Ka,ia⟩:=zrl ia;obtain⟨Yd,Zd,ae,xa,be,ya,ce⟩:=zsz ha100 ia;refine⟨od,sb,(by first|exact Ka|(rw[ha100.slLen];exact Ka)),(ha100.isPt ia _),_,((xa _ (Sub.trans (Sub.trans d g.fs) D.sub)).2.1 4 _ rfl),(by rw[show cmC _=true from zpZ (ya.noFn)]; exact((xa _ (Sub.trans d z.sub)).2.1 4 _ rfl)),?_⟩
   obtain⟨ja,Qb,hp⟩:=zrr hp;refine zuN (l:=Pb.Counts) D.pre (ya.sub (Sub.trans d g.fs)) Qb fun Me Xa ka Rb Sb=>?_;obtain⟨la,h⟩:=D.callG Rb wa;have Tb:=Ob.k h;have e:=e.k h;refine⟨_,rfl,((ea _ (Sub.trans (Sub.trans (Sub.trans d g.fs) h.fs) la.sub)).2.1 2 _ rfl),((ca _ (Sub.trans (Sub.trans (Sub.trans d g.fs) h.fs) la.sub)).2.1 1 _ rfl),((aa _ (Sub.trans (Sub.trans (Sub.trans d g.fs) h.fs) la.sub)).2.1 0 _ rfl),?_⟩;intro Ne Ub;obtain⟨F,Vb,Wb⟩:=Tb.set la Ub;have e:=e.k Vb;refine⟨(by rw[show cmC _=true from zpZ (ya.noFn)]; exact((xa _ (Sub.trans (Sub.trans (Sub.trans d g.fs) h.fs) F.sub)).2.1 4 _ rfl)),(by rw[show cmC _=true from zpZ (Wa.noFn)]; exact((Va _ (Sub.trans (Sub.trans (Sub.trans d g.fs) h.fs) F.sub)).2.1 3 _ rfl)),((ea _ (Sub.trans (Sub.trans (Sub.trans d g.fs) h.fs) F.sub)).2.1 2 _ rfl),((ca _ (Sub.trans (Sub.trans (Sub.trans d g.fs) h.fs) F.sub)).2.1 1 _ rfl),((aa _ (Sub.trans (Sub.trans (Sub.trans d g.fs) h.fs) F.sub)).2.1 0 _ rfl),?_⟩;obtain⟨Xb,Yb,Zb,ac,o⟩:=Wb.sto F [Il Gb.From,.bool Hb.Whole,Il Ib.Least,ha,ka,.sl0];have e:=e.k ac;refine⟨Xb,Yb,?_⟩;intro pd kd
   have hgo:∀(O:Nat) (La:Int) (G:C) (p:Int) (q:Bool) (r:Int) (w:List (List (List Int))) (ua:M) (s:M) (I:Nat->Nat),St (Fm.of m) f s ua->Sub Xa s->Lb (Fm.of m) s I ua 2 (m3.nxt+0) 6 [Il p,.bool q,Il r,ha,ka,G]->Ow (Fm.of m) s I ua 3 G w->Ow (Fm.of m) s I ua 1 c1 u->ztX l u x2 ga ja (ztY l B) O p q r w La=some rz->pd [.c (Il La)] ua:=by
    intro O
    induction O with
    | zero=>intro La G p q r w ua s I ma i o j e hp; cases hp
    | succ O bc=>
     intro La G p q r w ua s I ma i o j e hp;refine kd _ _ ?_;rw[ztX] at hp;obtain⟨de,na,hp⟩:=zrr hp;obtain⟨qd,tb,Ma,na⟩:=zrl na;obtain⟨ee,fe,ge,cc,he,ie,Ya⟩:=zsz ha100 na;refine⟨qd,tb,(by first|exact Ma|(rw[ha100.slLen];exact Ma)),(ha100.isPt na _),_,((cc _ (Sub.trans (Sub.trans (Sub.trans (Sub.trans d g.fs) h.fs) i) ma.sub)).2.1 5 _ rfl),Ya.isSl,?_⟩
     try rw[Ya.slLen]
     refine ifd hp (fun dc hp=>?_) fun dc hp=>?_; rotate_left
     ·refine⟨_,_,_,_,_,_,o.bk.ra,?_⟩;obtain⟨Za,ec,oa,fc⟩:=j.freeze ma;have e:=e.k oa;obtain⟨gc,hp⟩:=zrs hp;intro Oe hc;obtain⟨ic,jc,kc,nc,oc,je,pc⟩:=e.app' zuA ec (a:=({ From:=p,Whole:=q,Least:=r,Weeks:=ga,Counts:=ja,Rates:=w }:Tf)) (show Rp.rep (α:=Tf) Za _ ({ From:=p,Whole:=q,Least:=r,Weeks:=ga,Counts:=ja,Rates:=w }:Tf) from ⟨_,_,_,rfl,(Nb.sub (Sub.trans (Sub.trans h.fs i) oa.fs)),(Sb.sub (Sub.trans i oa.fs)),fc⟩) gc hc;refine⟨ic,jc,nc,?_⟩;refine gdi hp fun qc hp=>?_;exact jd _ _ _ _ Za kc oc (Sub.trans (Sub.trans (Sub.trans (Sub.trans d g.fs) h.fs) i) oa.fs) pc hp
     intro sd ld
     have hgo:∀(pa:Nat) (ab:C) (bb:Int) (J:List (List Int)) (T:M) (y:M) (A:Nat->Nat),St (Fm.of m) f y T->Sub s y->Lb (Fm.of m) y A T 2 (m3.nxt+0) 6 [Il p,.bool q,Il r,ha,ka,G]->Ow (Fm.of m) y A T 4 ab J->Ow (Fm.of m) y A T 1 c1 u->Ow (Fm.of m) y A T 3 G w->ztW l x2 p q r w La (ztX l u x2 ga ja (ztY l B) O) pa J bb=some rz->sd [.c ab,.c (Il bb)] T:=by
      intro pa
      induction pa with
      | zero=>intro ab bb J T y A t n o P e j hp; cases hp
      | succ pa sc=>
       intro ab bb J T y A t n o P e j hp;refine ld _ _ _ ?_;rw[ztW] at hp;obtain⟨ke,qa,hp⟩:=zrr hp;obtain⟨td,ub,Na,qa⟩:=zrl qa;obtain⟨me,oe,pe,tc,qe,re,cb⟩:=zsz ha100 qa;refine⟨td,ub,(by first|exact Na|(rw[ha100.slLen];exact Na)),(ha100.isPt qa _),_,((tc _ (Sub.trans (Sub.trans (Sub.trans (Sub.trans (Sub.trans d g.fs) h.fs) i) n) t.sub)).2.1 5 _ rfl),?_⟩;obtain⟨se,za,hp⟩:=zrr hp;obtain⟨ud,vb,Oa,za⟩:=zrl za;obtain⟨te,uc,db⟩:=cb.rdS za;refine⟨ud,vb,(by first|exact Oa|(rw[cb.slLen];exact Oa)),_,(uc _ (Sub.trans (Sub.trans (Sub.trans (Sub.trans (Sub.trans d g.fs) h.fs) i) n) t.sub)),db.isSl,?_⟩
       try rw[db.slLen]
       refine ifd hp (fun vc hp=>?_) fun vc hp=>?_; rotate_left
       ·refine⟨trivial,_,o.bk.rc rfl,?_⟩;obtain⟨eb,wc,sa,xc⟩:=P.freeze t;have yc:=o.k sa;have e:=e.k sa;have j:=j.k sa;obtain⟨zc,hp⟩:=zrs hp;intro Pe Ac;obtain⟨Aa,Bc,Cc,Dc,Ec,fb,Ba⟩:=j.app' zuC wc (a:=J) (show Rp.rep (α:=List (List Int)) eb _ J from ⟨_,rfl,xc⟩) zc Ac;have Fc:=yc.k fb;have e:=e.k fb;refine⟨Aa,Bc,Dc,?_⟩;refine⟨trivial,?_⟩;obtain⟨Gc,Hc,Ic,gb,Ca⟩:=Fc.sto1 Ec 5 Aa (by simp) rfl
        replace Ca:Lb _ _ _ _ _ _ _ [Il p,.bool q,Il r,ha,ka,Aa]:=Ca
        have e:=e.k gb;have Ba:=Ba.k gb;refine⟨Gc,Hc,?_⟩;refine gdi hp fun Jc hp=>?_;exact bc _ _ _ _ _ _ _ eb Cc Ic (Sub.trans (Sub.trans i n) sa.fs) Ca Ba e hp
       obtain⟨ue,ta,hp⟩:=zrr hp;obtain⟨vd,wb,Pa,ta⟩:=zrl ta;obtain⟨ve,we,xe,Kc,ye,ze,hb⟩:=zsz ha100 ta;refine⟨vd,wb,(by first|exact Pa|(rw[ha100.slLen];exact Pa)),(ha100.isPt ta _),_,((Kc _ (Sub.trans (Sub.trans (Sub.trans (Sub.trans (Sub.trans d g.fs) h.fs) i) n) t.sub)).2.1 5 _ rfl),?_⟩;obtain⟨Ae,Da,hp⟩:=zrr hp;obtain⟨wd,xb,Qa,Da⟩:=zrl Da;obtain⟨Be,Nc,ib⟩:=hb.rdS Da;refine⟨wd,xb,(by first|exact Qa|(rw[hb.slLen];exact Qa)),_,(Nc _ (Sub.trans (Sub.trans (Sub.trans (Sub.trans (Sub.trans d g.fs) h.fs) i) n) t.sub)),?_⟩;obtain⟨Oc,Ea,hp⟩:=zrr hp;obtain⟨xd,yb,Ra,Ea⟩:=zrl Ea;obtain⟨Ce,Pc,Qc⟩:=ib.rdS Ea;refine⟨xd,yb,(by first|exact Ra|(rw[ib.slLen];exact Ra)),_,(Pc _ (Sub.trans (Sub.trans (Sub.trans (Sub.trans (Sub.trans d g.fs) h.fs) i) n) t.sub)),?_⟩;obtain⟨jb,Rc,hp⟩:=zrr hp;refine zuN (l:=Oc) t.pre (Qc.sub (Sub.trans (Sub.trans (Sub.trans (Sub.trans d g.fs) h.fs) i) n)) Rc fun Qe kb De Tc Uc=>?_;obtain⟨Vc,S⟩:=t.callG Tc A;have Xc:=o.k S;have e:=e.k S;have j:=j.k S;have P:=P.k S;refine⟨_,rfl,?_⟩;obtain⟨Yc,hp⟩:=zrs hp;intro Re Zc;obtain⟨ad,bd,cd,dd,ed,Fa,fd⟩:=P.app' zuD Vc (a:=jb) (show Rp.rep (α:=List Int) kb _ jb from ⟨_,rfl,Uc⟩) Yc Zc;have hd:=Xc.k Fa;have e:=e.k Fa;have j:=j.k Fa;refine⟨ad,bd,dd,?_⟩;refine gdi hp fun id hp=>?_;exact sc _ _ _ _ kb cd ed (Sub.trans n S.fs) hd fd e j hp
     exact hgo _ _ _ _ _ s I ma (Sub.refl _) o (Ow.nil _ _ _ _ _) e j hp
   exact hgo _ _ _ _ _ _ _ _ Xa wa Zb (Sub.refl _) o (Ow.nil _ _ _ _ _) e hp
 exact hgo _ _ _ _ _ f τ0 S0 (Sub.refl _) (Ow.nil _ _ _ _ _) hp
theorem zvG{l:List Tf}{crop:Int}{day:Int}{count:Int}{more:Int}{ca100:C}{m f:M}{Q:V->M->Prop}{rz:Bool}(hS:Pre f m)(ha100:Sl f ca100 l)(hp:zt0 l crop day count more=some rz)(hq:∀m',Ext m m'->Q (.c (.bool rz)) m'):Wc prog tbl 10 [.c ca100,.c (.int .u8 crop),.c (.int .u8 day),.c (.int .u8 count),.c (.int .u8 more)] m Q:=by
 have S0:=hS.st;obtain⟨O,_⟩:=zsx;refine w10 ?_;unfold zt0 at hp;obtain⟨zb,T,hp⟩:=zrr hp;refine zuQ (l:=l) S0.pre ha100 T fun m1 Y=>?_;obtain⟨e,Ab⟩:=S0.call Y O;refine⟨_,rfl,?_⟩;refine zr0 hp (fun Z hp=>?_) fun Z hp=>?_
 ·obtain⟨Bb,aa,hp⟩:=zrr hp;refine zuE e.pre  aa fun m4 ba=>?_;obtain⟨ca,Cb⟩:=e.call ba O;refine⟨_,rfl,?_⟩;obtain rfl:=oi hp;exact hq _ ca.ext'
 obtain⟨j,da,hp⟩:=zrr hp;refine zuL (l:=l) e.pre ha100 da fun m7 ea=>?_;obtain⟨A,Db⟩:=e.call ea O;refine⟨_,rfl,?_⟩;refine gdi hp fun fa hp=>?_;refine gdi hp fun ga hp=>?_;refine gdi hp fun ha hp=>?_;refine gdi hp fun ia hp=>?_;refine gdi hp fun ja hp=>?_;refine gdi hp fun ka hp=>?_;refine gdi hp fun la hp=>?_;refine gdi hp fun ma hp=>?_;refine gdi hp fun na hp=>?_;obtain⟨g,oa,hp⟩:=zrr hp;refine zuK (l:=l) (day:=((znj .i64 day) % (121:Int))) A.pre ha100 oa fun ic Eb pa qa sa ta ua Fb o=>?_;obtain⟨va,p⟩:=A.callG ta O;refine⟨_,_,_,_,_,_,rfl,?_⟩;intro jc wa;obtain⟨a,xa,Gb,ya⟩:=va.blk wa O 1;obtain⟨za,Aa,q,Hb,r⟩:=ya.sto xa [Il g.From,.bool g.Whole,Il g.Least,pa,qa,sa];refine⟨za,Aa,?_⟩;refine⟨trivial,_,r.bk.rc rfl,?_⟩;obtain⟨Ib,s,hp⟩:=zrr hp;obtain⟨xb,P,y,s⟩:=zrl s;obtain⟨Jb,B,t⟩:=o.rdS s;refine⟨xb,P,(by first|exact y|(rw[o.slLen];exact y)),_,(B _ q.sub),trivial,_,r.bk.rc rfl,?_⟩;obtain⟨Kb,Ba,hp⟩:=zrr hp;refine zuJ (l:=g.Weeks) (n:=((znj .i64 day) % (121:Int))) q.pre ua Ba fun kc Ca=>?_;obtain⟨h,Da⟩:=q.call Ca a;have Ea:=r.k Da;refine⟨_,rfl,(by rw[show cmC _=true from zpZ (t.noFn)]; exact(B _ h.sub)),(by rw[show cmC _=true from zpZ (o.noFn)]; exact(Ea.bk.rc rfl)),?_⟩;obtain⟨Fa,u,hp⟩:=zrr hp;obtain⟨yb,S,z,u⟩:=zrl u;obtain⟨Mb,Ga,Ha⟩:=t.rdS u;refine⟨yb,S,(by first|exact z|(rw[t.slLen];exact z)),_,(Ga _ h.sub),?_⟩;obtain⟨Nb,Ia,hp⟩:=zrr hp;refine zuM (l:=Fa) (out:=(0:Int)) h.pre Ha Ia fun nc Ja=>?_;obtain⟨i,Ob⟩:=h.call Ja a;refine⟨_,rfl,?_⟩
 refine zr0 hp (fun Ka hp=>?_) fun Ka hp=>?_
 ·obtain⟨Pb,La,hp⟩:=zrr hp;refine zuE i.pre  La fun oc Ma=>?_;obtain⟨Na,Qb⟩:=i.call Ma a;refine⟨_,rfl,?_⟩;obtain rfl:=oi hp;exact hq _ Na.ext'
 refine gdi hp fun Oa hp=>?_;obtain⟨Pa,Qa,hp⟩:=zrr hp;refine zvF (l:=l) i.pre (ha100.sub p.fs) Qa fun pc Rb Sb Ra Sa=>?_;obtain⟨D,F⟩:=i.callG Ra a;refine⟨_,rfl,?_⟩;obtain⟨Tb,Ta,hp⟩:=zrr hp;refine zvD (l:=Pa) (crop:=((znj .i64 crop) % j)) (day:=((znj .i64 day) % (121:Int))) (count:=((znj .i64 count) % (101:Int))) D.pre Sa Ta fun qc Ua=>?_;obtain⟨G,Ub⟩:=D.call Ua a;refine⟨_,_,rfl,?_⟩;obtain⟨Va,Wa,hp⟩:=zrr hp;refine zvF (l:=l) G.pre (ha100.sub (Sub.trans p.fs F.fs)) Wa fun sc Vb Wb Xa Ya=>?_;obtain⟨I,Za⟩:=G.callG Xa a;refine⟨_,rfl,?_⟩;obtain⟨Xb,ab,hp⟩:=zrr hp;refine zvD (l:=Va) (crop:=((znj .i64 crop) % j)) (day:=((znj .i64 day) % (121:Int))) (count:=(min (100:Int) (((znj .i64 count) % (101:Int))+(znj .i64 more)))) I.pre Ya ab fun tc bb=>?_;obtain⟨J,Yb⟩:=I.call bb a;refine⟨_,_,rfl,?_⟩;obtain⟨cb,db,hp⟩:=zrr hp;refine zvF (l:=l) J.pre (ha100.sub (Sub.trans (Sub.trans p.fs F.fs) Za.fs)) db fun uc Zb ac eb fb=>?_;obtain⟨N,bc⟩:=J.callG eb a;refine⟨_,rfl,?_⟩;obtain⟨cc,gb,hp⟩:=zrr hp;refine zvE (l:=cb) (crop:=((znj .i64 crop) % j)) (day:=((znj .i64 day) % (121:Int))) N.pre fb gb fun vc hb=>?_;obtain⟨d,dc⟩:=N.call hb a;refine⟨_,_,rfl,?_⟩;refine zrY hp (fun ib hp=>?_) fun ib hp=>?_
 ·obtain rfl:=oi hp;exact hq _ d.ext'
 refine zrY hp (fun jb hp=>?_) fun jb hp=>?_
 ·obtain rfl:=oi hp;exact hq _ d.ext'
 refine ifd hp (fun kb hp=>?_) fun kb hp=>?_
 ·obtain rfl:=oi hp;exact hq _ d.ext'
 refine zrY hp (fun w hp=>?_) fun w hp=>?_; rotate_left
 ·refine zr1 w ?_;refine zrZ hp (fun mb hp=>?_) fun mb hp=>?_; rotate_left
  ·obtain rfl:=oi hp;exact hq _ d.ext'
  obtain⟨ec,ob,hp⟩:=zrr hp;refine zuE d.pre  ob fun wc pb=>?_;obtain⟨qb,fc⟩:=d.call pb a;refine⟨_,rfl,?_⟩;obtain rfl:=oi hp;exact hq _ qb.ext'
 refine zrY hp (fun rb hp=>?_) fun rb hp=>?_
 ·obtain rfl:=oi hp;exact hq _ d.ext'
 refine zr2 w ?_;refine zrZ hp (fun sb hp=>?_) fun sb hp=>?_; rotate_left
 ·obtain rfl:=oi hp;exact hq _ d.ext'
 obtain⟨gc,tb,hp⟩:=zrr hp;refine zuE d.pre  tb fun xc ub=>?_;obtain⟨vb,hc⟩:=d.call ub a;refine⟨_,rfl,?_⟩;obtain rfl:=oi hp;exact hq _ vb.ext'
def lastN:List Int->Int->Nat
 | x::y::l,n=>if y<=n then lastN (y::l) n+1 else 0
 | _,_=>0
theorem zvH:∀(l:List Int) (n:Int),l ≠ []->lastN l n < l.length
 | [],_,h=>absurd rfl h
 | [_],_,_=>by simp[lastN]
 | x::y::l,n,_=>by
  unfold lastN
  split
  ·have:=zvH (y::l) n (by simp)
   simp only[List.length_cons] at this ⊢; omega
  ·simp
theorem zvI:∀(l:List Int) (n:Int),(∀x,l.head? = some x->x<=n)->∀x,l[lastN l n]? = some x->x<=n
 | [],_,_,x,h=>by simp at h
 | [a],n,h0,x,h=>by
  simp[lastN] at h; subst h; exact h0 a rfl
 | a::y::l,n,h0,x,h=>by
  unfold lastN at h
  split at h
  ·rename_i hy
   rw[List.getElem?_cons_succ] at h;exact zvI (y::l) n (fun z hz=>by simp at hz; omega) x h
  ·simp at h; subst h; exact h0 _ rfl
theorem zvJ:∀(l:List Int) (n:Int),l.Pairwise (· < ·)->∀j,lastN l n < j->∀x,l[j]? = some x->n < x
 | [],_,_,j,_,x,h=>by simp at h
 | [a],n,_,j,hj,x,h=>by
  have:j < [a].length:=(List.getElem?_eq_some_iff.1 h).1
  simp at this; omega
 | a::y::l,n,hp,j,hj,x,h=>by
  have hp':=(List.pairwise_cons.1 hp).2;unfold lastN at hj
  cases j with
  | zero=>omega
  | succ j=>
   rw[List.getElem?_cons_succ] at h
   split at hj
   ·exact zvJ (y::l) n hp' j (by omega) x h
   ·rename_i hy
    have hx:x∈y::l:=List.mem_of_getElem? h
    rcases List.mem_cons.1 hx with hx | hx
    ·omega
    ·have:=(List.pairwise_cons.1 hp').1 x hx; omega
theorem zvK{l:List Int}(hp:l.Pairwise (· < ·)){i j:Nat}{x y:Int}(hx:l[i]? = some x)(hy:l[j]? = some y)(hij:i < j):x < y:=by
 obtain⟨h1,h2⟩:=List.getElem?_eq_some_iff.1 hx;obtain⟨h3,h4⟩:=List.getElem?_eq_some_iff.1 hy;rw[<- h2,<- h4];exact List.pairwise_iff_getElem.1 hp i j h1 h3 hij
theorem zvL{l:List Int}{n:Int}(hp:l.Pairwise (· < ·)){k:Nat}(hk:k < l.length)(h1:∀x,l[k]? = some x->x<=n)(h2:∀x,l[k+1]? = some x->n < x)(h0:∀x,l.head? = some x->x<=n):lastN l n=k:=by
 have hne:l ≠ []:=fun h=>by subst h; simp at hk
 have hl:=zvH l n hne;obtain⟨a,ha⟩:∃a,l[lastN l n]? = some a:=⟨_,List.getElem?_eq_getElem hl⟩;obtain⟨b,hb⟩:∃b,l[k]? = some b:=⟨_,List.getElem?_eq_getElem hk⟩;have h3:=zvI l n h0 a ha;have h4:=h1 b hb
 rcases Nat.lt_trichotomy (lastN l n) k with h | h | h
 ·have:=zvJ l n hp k h b hb; omega
 ·exact h
 ·have hk1:k+1 < l.length:=by omega
  have h5:=h2 _ (List.getElem?_eq_getElem hk1)
  rcases Nat.lt_or_ge (k+1) (lastN l n) with h6 | h6
  ·have:=zvK hp (List.getElem?_eq_getElem hk1) ha h6; omega
  ·have h7:lastN l n=k+1:=by omega
   rw[h7,List.getElem?_eq_getElem hk1] at ha
   cases ha; omega
theorem zvM{l:List Int}{n m:Int}(h:n<=m):lastN l n<=lastN l m:=by
 induction l with
 | nil=>exact Nat.le_refl _
 | cons x l ih=>
  cases l with
  | nil=>exact Nat.le_refl _
  | cons y l=>
   unfold lastN
   split
   ·rw[if_pos (by omega)]; exact Nat.succ_le_succ ih
   ·exact Nat.zero_le _
def nth(l:List Int)(i:Nat):Int:=l.getD i 0
theorem zvN{l:List Int}{i:Nat}{x:Int}(h:l[i]? = some x):nth l i=x:=by
 unfold nth; rw[List.getD_eq_getElem?_getD,h]; rfl
theorem zvO{l:List Int}{i:Nat}(h:i < l.length):l[i]? = some (nth l i):=by
 rw[List.getElem?_eq_getElem h,zvN (List.getElem?_eq_getElem h)]
def zvP(a b x y n:Int):Int:=(x * (b - n)+y * (n - a)) / (b - a)
def zvQ(counts rates:List Int)(n:Int):Int:=
 let i:=lastN counts n
 if nth counts i=n then nth rates i else zvP (nth counts i) (nth counts (i+1)) (nth rates i) (nth rates (i+1)) n
theorem zvR{a b x y n z:Int}(h1:a<=n)(h2:n<=b)(hab:a < b)(hx:0<=x)(hy:0<=y)(hxz:x<=z)(hyz:y<=z):zvP a b x y n<=z:=by
  unfold zvP;have e1:x * (b - n)<=z * (b - n):=Int.mul_le_mul_of_nonneg_right hxz (by omega);have e2:y * (n - a)<=z * (n - a):=Int.mul_le_mul_of_nonneg_right hyz (by omega)
  have e3:z * (b - n)+z * (n - a)=z * (b - a):=by rw[<- Int.mul_add]; congr 1; omega
  have:x * (b - n)+y * (n - a)<=z * (b - a):=by omega
  calc (x * (b - n)+y * (n - a)) / (b - a)<=(z * (b - a)) / (b - a):=Int.ediv_le_ediv (by omega) this
    _=z:=Int.mul_ediv_cancel _ (by omega)
theorem zvS{a b x y n z:Int}(h1:a<=n)(h2:n<=b)(hab:a < b)(hz:0<=z)(hxz:z<=x)(hyz:z<=y):z<=zvP a b x y n:=by
  unfold zvP;have e1:z * (b - n)<=x * (b - n):=Int.mul_le_mul_of_nonneg_right hxz (by omega);have e2:z * (n - a)<=y * (n - a):=Int.mul_le_mul_of_nonneg_right hyz (by omega)
  have e3:z * (b - n)+z * (n - a)=z * (b - a):=by rw[<- Int.mul_add]; congr 1; omega
  have:z * (b - a)<=x * (b - n)+y * (n - a):=by omega
  calc z=(z * (b - a)) / (b - a):=(Int.mul_ediv_cancel _ (by omega)).symm
    _<=_:=Int.ediv_le_ediv (by omega) this
theorem zvT{a b x y n m:Int}(h1:a<=n)(hnm:n<=m)(h2:m<=b)(hab:a < b)(hx:0<=x)(hxy:x<=y):zvP a b x y n<=zvP a b x y m:=by
 unfold zvP;refine Int.ediv_le_ediv (by omega) ?_;have e1:x * (m - n)<=y * (m - n):=Int.mul_le_mul_of_nonneg_right hxy (by omega)
 have e2:x * (b - n)=x * (b - m)+x * (m - n):=by rw[<- Int.mul_add]; congr 1; omega
 have e3:y * (m - a)=y * (n - a)+y * (m - n):=by rw[<- Int.mul_add]; congr 1; omega
 omega
structure Cnt (counts:List Int):Prop where
 pw:counts.Pairwise (· < ·)
 hd:counts.head? = some 0
 lst:counts.getLast? = some 100
structure Rts (counts rates:List Int):Prop extends Cnt counts where
 len:rates.length=counts.length
 rng:∀r∈rates,0<=r/\r<=100
variable {cs rs:List Int}
theorem Cnt.ne(h:Cnt cs):cs ≠ []:=fun e=>by have:=h.hd; rw[e] at this; cases this
theorem Cnt.h0(h:Cnt cs){n:Int}(hn:0<=n):∀x,cs.head? = some x->x<=n:=fun x hx=>by
 have:=h.hd; rw[this] at hx; cases hx; exact hn
theorem Cnt.lt(h:Cnt cs)(n:Int):lastN cs n < cs.length:=zvH cs n h.ne
theorem Cnt.btw(h:Cnt cs){n:Int}(hn:0<=n)(h100:n<=100):nth cs (lastN cs n)<=n/\(nth cs (lastN cs n) ≠ n->lastN cs n+1 < cs.length/\n < nth cs (lastN cs n+1)):=by
 have hl:=h.lt n;have h1:=zvI cs n (h.h0 hn) _ (zvO hl);refine⟨h1,fun hne=>?_⟩
 have hlast:cs[cs.length - 1]? = some 100:=by rw[<- h.lst,List.getLast?_eq_getElem?]
 have hlt:lastN cs n+1 < cs.length:=by
  rcases Nat.lt_or_ge (lastN cs n+1) cs.length with hh | hh
  ·exact hh
  ·have:lastN cs n=cs.length - 1:=by omega
   rw[this] at hne h1;have:=zvN hlast
   omega
 exact⟨hlt,zvJ cs n h.pw _ (Nat.lt_succ_self _) _ (zvO hlt)⟩
theorem Rts.at(h:Rts cs rs){i:Nat}(hi:i < cs.length):0<=nth rs i/\nth rs i<=100:=by
 have:i < rs.length:=by rw[h.len]; exact hi
 exact h.rng _ (List.mem_of_getElem? (zvO this))
theorem Rts.loss_rng(h:Rts cs rs){n:Int}(hn:0<=n)(h100:n<=100):0<=zvQ cs rs n/\zvQ cs rs n<=100:=by
 obtain⟨h1,h2⟩:=h.btw hn h100;have hi:=h.at (h.lt n);unfold zvQ; dsimp only
 split
 ·exact hi
 ·rename_i hne
  obtain⟨h3,h4⟩:=h2 hne;have hi2:=h.at h3;exact⟨zvS h1 (by omega) (by omega) (Int.le_refl _) hi.1 hi2.1,zvR h1 (by omega) (by omega) hi.1 hi2.1 hi.2 hi2.2⟩
theorem Cnt.last_at(h:Cnt cs){i:Nat}(hi:i < cs.length):lastN cs (nth cs i)=i:=by
 refine zvL h.pw hi (fun x hx=>?_) (fun x hx=>?_) fun x hx=>?_
 ·rw[zvN hx]; exact Int.le_refl _
 ·exact zvK h.pw (zvO hi) hx (Nat.lt_succ_self _)
 ·have h0:cs[0]? = some x:=by rw[<- hx]; cases cs <;> rfl
  rcases Nat.eq_zero_or_pos i with h5 | h5
  ·subst h5; rw[zvN h0]; exact Int.le_refl _
  ·exact Int.le_of_lt (zvK h.pw h0 (zvO hi) h5)
theorem Rts.loss_mono(h:Rts cs rs)(hr:rs.Pairwise (·<=·)){n m:Int}(hn:0<=n)(hnm:n<=m)(h100:m<=100):zvQ cs rs n<=zvQ cs rs m:=by
 have hle:∀i j,i<=j->j < cs.length->nth rs i<=nth rs j:=fun i j hij hj=>by
  rcases Nat.lt_or_ge i j with h1 | h1
  ·have hj':j < rs.length:=by rw[h.len]; exact hj
   have hi':i < rs.length:=by omega
   have e1:=zvN (List.getElem?_eq_getElem hi');have e2:=zvN (List.getElem?_eq_getElem hj');rw[e1,e2];exact List.pairwise_iff_getElem.1 hr i j hi' hj' h1
  ·have:i=j:=by omega
   subst this; exact Int.le_refl _
 obtain⟨h1,h2⟩:=h.btw hn (by omega);obtain⟨h3,h4⟩:=h.btw (show 0<=m by omega) h100;have hi:=h.at (h.lt n);have hj:=h.at (h.lt m);have hmono:=zvM (l:=cs) hnm;unfold zvQ; dsimp only
 by_cases he:nth cs (lastN cs n)=n
 ·rw[if_pos he]
  by_cases hf:nth cs (lastN cs m)=m
  ·rw[if_pos hf]; exact hle _ _ hmono (h.lt m)
  ·rw[if_neg hf];obtain⟨h5,h6⟩:=h4 hf;exact zvS h3 (by omega) (by omega) hi.1 (hle _ _ hmono (h.lt m)) (hle _ _ (by omega) h5)
 ·rw[if_neg he];obtain⟨h7,h8⟩:=h2 he
  rcases Nat.lt_or_ge (lastN cs n) (lastN cs m) with hlt | hge
  ·have h9:zvP (nth cs (lastN cs n)) (nth cs (lastN cs n+1)) (nth rs (lastN cs n)) (nth rs (lastN cs n+1)) n<=nth rs (lastN cs m):=
    zvR h1 (by omega) (by omega) hi.1 (h.at h7).1 (hle _ _ hmono (h.lt m)) (hle _ _ hlt (h.lt m))
   refine Int.le_trans h9 ?_
   by_cases hf:nth cs (lastN cs m)=m
   ·rw[if_pos hf]; exact Int.le_refl _
   ·rw[if_neg hf];obtain⟨h5,h6⟩:=h4 hf;exact zvS h3 (by omega) (by omega) hj.1 (Int.le_refl _) (hle _ _ (by omega) h5)
  ·have heq:lastN cs m=lastN cs n:=by omega
   rw[heq] at h3 h4 ⊢
   by_cases hf:nth cs (lastN cs n)=m
   ·omega
   ·rw[if_neg hf];obtain⟨h5,h6⟩:=h4 hf;exact zvT h1 hnm (by omega) (by omega) hi.1 (hle _ _ (by omega) h5)
end
end Go.Proofs.Ytbkokcbnbmhaoaa

namespace Go.Proofs.Ytbkokcbnbmhaoaa
open _root_.Go.Proofs.Try
open Go.Abs
set_option maxRecDepth 100000
noncomputable section
structure VT (t:Tf):Prop where
 frm:0<=t.From/\t.From<=120
 lst:0<=t.Least/\t.Least<=100
 wks:t.Weeks.Pairwise (· < ·)/\t.Weeks.head? = some 0/\∀x∈t.Weeks,0<=x/\x<=120
 cts:t.Counts.Pairwise (· < ·)/\t.Counts.head? = some 0/\∀x∈t.Counts,0<=x/\x<=100
 c100:t.Counts.getLast? = some 100
 rne:t.Rates ≠ []
 rts:∀c∈t.Rates,c.length=t.Weeks.length/\∀w∈c,w.length=t.Counts.length/\∀r∈w,0<=r/\r<=100
def zvU(l:List Tf):Nat:=match l with | []=>0 | t::_=>t.Rates.length
structure VL (l:List Tf):Prop where
 ne:l ≠ []
 vt:∀t∈l,VT t
 pw:(l.map (·.From)).Pairwise (· < ·)
 hd:(l.map (·.From)).head? = some 0
 crp:∀t∈l,t.Rates.length=zvU l
def zvV(t:Tf):Prop:=4 < t.Weeks.length\/5 < t.Counts.length\/3 < t.Rates.length
def zvW(l:List Tf):Prop:=3 < l.length\/∃t∈l,zvV t
open Classical in
def zvX(l:List Tf):Int:=if zvW l then 3 else if VL l then 0 else 1
theorem zvY{l:List Tf}:zvX l=0↔¬ zvW l/\VL l:=by
 unfold zvX
 split
 ·rename_i h; exact⟨fun h=>by omega,fun h'=>absurd h h'.1⟩
 ·rename_i h
  split
  ·rename_i h2; exact⟨fun _=>⟨h,h2⟩,fun _=>rfl⟩
  ·rename_i h2; exact⟨fun h=>by omega,fun h'=>absurd h'.2 h2⟩
def zvZ(t:Tf)(crop day:Int):List Int:=(t.Rates.getD crop.toNat []).getD (lastN t.Weeks day) []
def zv0(t:Tf)(loss:Int):Int:=if loss < t.Least then 0 else if t.Whole=true then loss else loss - t.Least
def zv1(t:Tf)(crop day count:Int):Int:=zv0 t (zvQ t.Counts (zvZ t crop day) count)
instance:Inhabited Tf:=⟨⟨0,false,0,[],[],[]⟩⟩
def ofN(l:List Tf)(day:Int):Tf:=l.getD (lastN (l.map (·.From)) day) default
def zv2(l:List Tf)(crop day count:Int):Int:=zv1 (ofN l day) crop day count
theorem VT.wlt{t:Tf}(h:VT t)(d:Int):lastN t.Weeks d < t.Weeks.length:=zvH _ _ fun e=>by have:=h.wks.2.1; rw[e] at this; cases this
theorem VT.cnt{t:Tf}(h:VT t):Cnt t.Counts:=⟨h.cts.1,h.cts.2.1,h.c100⟩
theorem VT.rates{t:Tf}(h:VT t){crop:Int}(h0:0<=crop)(h1:crop < t.Rates.length)(day:Int) :
  ∃wks,t.Rates[crop.toNat]? = some wks/\wks[lastN t.Weeks day]? = some (zvZ t crop day)/\Rts t.Counts (zvZ t crop day):=by
 have hc:crop.toNat < t.Rates.length:=by omega
 have e1:=List.getElem?_eq_getElem hc;obtain⟨q1,q2⟩:=h.rts _ (List.getElem_mem hc)
 have hw:lastN t.Weeks day < t.Rates[crop.toNat].length:=by rw[q1]; exact h.wlt day
 have e2:=List.getElem?_eq_getElem hw
 have e3:zvZ t crop day=t.Rates[crop.toNat][lastN t.Weeks day]:=by
  have e4:t.Rates.getD crop.toNat []=t.Rates[crop.toNat]:=by rw[List.getD_eq_getElem?_getD,e1]; rfl
  unfold zvZ;rw[e4,List.getD_eq_getElem?_getD,e2,Option.getD_some]
 obtain⟨q3,q4⟩:=q2 _ (List.getElem_mem hw);refine⟨_,e1,by rw[e2,e3],⟨h.cnt,by rw[e3]; exact q3,by rw[e3]; exact q4⟩⟩
theorem VL.of{l:List Tf}(h:VL l)(day:Int):l[lastN (l.map (·.From)) day]? = some (ofN l day)/\ofN l day∈l:=by
 have hl:=zvH (l.map (·.From)) day fun e=>h.ne (List.map_eq_nil_iff.1 e);rw[List.length_map] at hl
 have e:l[lastN (l.map (·.From)) day]? = some (ofN l day):=by
  unfold ofN;rw[List.getD_eq_getElem?_getD,List.getElem?_eq_getElem hl,Option.getD_some]
 exact⟨e,List.mem_of_getElem? e⟩
theorem zv3{t:Tf}(h:VT t){x:Int}(h0:0<=x)(h1:x<=100):0<=zv0 t x/\zv0 t x<=100:=by
 have:=h.lst;unfold zv0
 split
 ·omega
 ·split <;> omega
theorem VL.vof{l:List Tf}(h:VL l)(day:Int):VT (ofN l day):=h.vt _ (h.of day).2
theorem VL.cof{l:List Tf}(h:VL l)(day:Int):(ofN l day).Rates.length=zvU l:=h.crp _ (h.of day).2
theorem VL.rts{l:List Tf}(h:VL l){crop:Int}(h0:0<=crop)(h1:crop < zvU l)(day:Int):Rts (ofN l day).Counts (zvZ (ofN l day) crop day):=by
 obtain⟨_,_,_,q⟩:=(h.vof day).rates h0 (by rw[h.cof]; exact h1) day;exact q
theorem VL.part_rng{l:List Tf}(h:VL l){crop n:Int}(h0:0<=crop)(h1:crop < zvU l)(hn:0<=n)(hn1:n<=100)(day:Int):0<=zv2 l crop day n/\zv2 l crop day n<=100:=by
 obtain⟨q1,q2⟩:=(h.rts h0 h1 day).loss_rng hn hn1;exact zv3 (h.vof day) q1 q2
theorem zv4{t:Tf}(h:VT t){x y:Int}(hxy:x<=y)(hx:0<=x):zv0 t x<=zv0 t y:=by
 have:=h.lst;unfold zv0
 by_cases h1:x < t.Least
 ·rw[if_pos h1]
  split
  ·omega
  ·split <;> omega
 ·rw[if_neg h1,if_neg (show ¬ y < t.Least by omega)]
  split <;> omega
end
end Go.Proofs.Ytbkokcbnbmhaoaa

namespace Go.Proofs.Ytbkokcbnbmhaoaa
open _root_.Go.Proofs.Try
open Go.Abs
set_option maxRecDepth 100000
noncomputable section
structure zoG (t u:Tf):Prop where
 frm:u.From=t.From
 wks:u.Weeks=t.Weeks
 cts:u.Counts=t.Counts
 rts:u.Rates=t.Rates
theorem VT.same{t u:Tf}(h:VT t)(s:zoG t u)(hl:0<=u.Least/\u.Least<=100):VT u:=
 ⟨by rw[s.frm]; exact h.frm,hl,by rw[s.wks]; exact h.wks,by rw[s.cts]; exact h.cts,by rw[s.cts]; exact h.c100,by rw[s.rts]; exact h.rne,by rw[s.rts,s.wks,s.cts]; exact h.rts⟩
theorem zv5{f:Tf->Tf}{l:List Tf}(hs:∀t∈l,zoG t (f t)):zvU (l.map f)=zvU l:=by
 cases l with
 | nil=>rfl
 | cons t l=>show(f t).Rates.length=t.Rates.length; rw[(hs t (List.mem_cons_self ..)).rts]
theorem zv6{f:Tf->Tf}{l:List Tf}(hs:∀t∈l,zoG t (f t)):(l.map f).map (·.From)=l.map (·.From):=by
 rw[List.map_map];exact List.map_congr_left fun t ht=>(hs t ht).frm
theorem VL.map{f:Tf->Tf}{l:List Tf}(h:VL l)(hs:∀t∈l,zoG t (f t))(hl:∀t∈l,0<=(f t).Least/\(f t).Least<=100):VL (l.map f):=by
 have hf:=zv6 hs;refine⟨fun e=>h.ne (List.map_eq_nil_iff.1 e),fun u hu=>?_,by rw[hf]; exact h.pw,by rw[hf]; exact h.hd,fun u hu=>?_⟩
 ·obtain⟨t,ht,rfl⟩:=List.mem_map.1 hu;exact(h.vt t ht).same (hs t ht) (hl t ht)
 ·obtain⟨t,ht,rfl⟩:=List.mem_map.1 hu;rw[zv5 hs,(hs t ht).rts];exact h.crp t ht
theorem zv7{n lo hi:Int}:Ev (zsB n lo hi) (lo<=n/\n<=hi):=Ev.ite fun _=>Ev.dec Iff.rfl
theorem zv8{r:Rg}{n:Int}:Ev (zsZ r n) (r.Lo<=n/\n<=r.Hi):=Ev.ite fun _=>Ev.dec Iff.rfl
theorem zv9{n:Int}:Ev (zs1 n) (0<=n/\n<=120):=zv8.ret
theorem zwa{n:Int}:Ev (zs2 n) (0<=n/\n<=100):=zv8.ret
theorem zwb{n:Int}:Ev (zs3 n) (0<=n/\n<=100):=zv8.ret
theorem zwc{n s:Int}(hs:0<=s/\s<=4611686018427387904):Ev (zs0 n s) (0<=n/\n < s):=Ev.gd (fI (by omega)) (zv8.ret.imp (by show 0<=n/\n<=s - 1↔_; omega))
def zwd{α:Type}(l:List α):Prop:=l.length<=1048576
theorem zwd.lt{α:Type}{l:List α}(h:zwd l):l.length < 4611686018427387904:=by unfold zwd at h; omega
theorem zwe{l:List Int}{k:Nat}(h:k < l.length):idx l (k:Int)=some (nth l k):=zsc (zvO h)
theorem zwf{l:List Int}{k:Nat}(h0:0 < k)(h:k - 1 < l.length):idx l ((k:Int) - 1)=some (nth l (k - 1)):=zse h0 (zvO h)
theorem zwg:∀{l:List Int},(∀j,0 < j->j < l.length->nth l (j - 1) < nth l j)->l.Pairwise (· < ·)
 | [],_=>.nil
 | [a],_=>List.pairwise_singleton _ _
 | a::b::l,h=>by
  have h1:(b::l).Pairwise (· < ·):=zwg fun j h0 hj=>by
   have:=h (j+1) (by omega) (by simp at hj ⊢; omega);obtain⟨i,rfl⟩:∃i,j=i+1:=⟨j - 1,by omega⟩;exact this
  have h2:a < b:=h 1 (by omega) (by simp);refine List.pairwise_cons.2 ⟨fun x hx=>?_,h1⟩
  rcases List.mem_cons.1 hx with rfl | hx
  ·exact h2
  ·exact Int.lt_trans h2 ((List.pairwise_cons.1 h1).1 x hx)
theorem zwh{l:List Int}:(∀j,0 < j->j < l.length->nth l (j - 1) < nth l j)↔l.Pairwise (· < ·):=
 ⟨zwg,fun h j h0 hj=>zvK h (zvO (by omega)) (zvO hj) (by omega)⟩
theorem zwi{l:List Int}:(∀j,0 < j->j < l.length->∀a b,l[j - 1]? = some a->l[j]? = some b->a < b)↔l.Pairwise (· < ·):=by
 constructor
 ·intro h;rw[List.pairwise_iff_getElem];intro i j hi hj hij
  have key:∀d,(hd:i+d+1 < l.length)->l[i] < l[i+d+1]:=fun d=>by
   induction d with
   | zero=>intro hd; exact h (i+1) (by omega) hd _ _ (List.getElem?_eq_getElem hi) (List.getElem?_eq_getElem hd)
   | succ d ih=>
    intro hd;have h1:=ih (by omega);have h2:=h (i+(d+1)+1) (by omega) hd _ _ (List.getElem?_eq_getElem (show i+d+1 < l.length by omega)) (List.getElem?_eq_getElem hd);exact Int.lt_trans h1 h2
  have:=key (j - i - 1) (by omega)
  simpa [show i+(j - i - 1)+1=j by omega] using this
 ·intro h j h0 hj a b ha hb;obtain⟨h1,rfl⟩:=List.getElem?_eq_some_iff.1 ha;obtain⟨h2,rfl⟩:=List.getElem?_eq_some_iff.1 hb;exact List.pairwise_iff_getElem.1 h (j - 1) j h1 h2 (by omega)
theorem zwj{l:List Int}(hl:zwd l):Ev (zs5 l) (l.Pairwise (· < ·)):=by
 unfold zwd at hl;unfold zs5
 by_cases h0:l.length=0
 ·have:l=[]:=List.eq_nil_of_length_eq_zero h0;subst this
  show Ev (zs4 [] 1 1) _
  rw[zs4,if_neg (by decide)];exact Ev.tt .nil
 ·have e:∃n,l.length=n+1:=⟨l.length - 1,by omega⟩;obtain⟨n,hn⟩:=e
  have key:=zsh (n:=n) (F:=fun d x=>zs4 l d (x+1)) (ok:=fun j=>∀a b,l[j]? = some a->l[j+1]? = some b->a < b) (bad:=some false) (fin:=some true) (fun d k hk=>by
   show(_->zs4 l (d+1) ((k:Int)+1)=_)/\_
   have ha:=List.getElem?_eq_getElem (show k < l.length by omega);have hb:=List.getElem?_eq_getElem (show k+1 < l.length by omega);rw[zs4,if_pos (by omega),zsd (show(k:Int)+1=((k+1:Nat):Int) by omega) (show k+1 < l.length by omega),obs,zrt (fI (by omega)),zsd (show(k:Int)+1 - 1=(k:Int) by omega) (show k < l.length by omega),obs];refine⟨fun h=>?_,fun h=>?_⟩
   ·have:=h _ _ ha hb;rw[if_neg (by omega),zrt (fI (by omega))]
   ·rw[if_pos]
    apply Classical.byContradiction
    intro h2
    exact h fun a b h3 h4=>by rw[ha] at h3; rw[hb] at h4; cases h3; cases h4; omega) (fun d=>by show zs4 l (d+1) _=_; rw[zs4,if_neg (by omega)]) (d:=((l.length:Int) - 1).toNat+1) (by omega)
  have e0:zs4 l (((l.length:Int) - 1).toNat+1) (0+1)=zs4 l (((l.length:Int) - 1).toNat+1) 1:=rfl
  have hiff:(∀j,j < n->∀a b,l[j]? = some a->l[j+1]? = some b->a < b)↔l.Pairwise (· < ·):=by
   rw[<- zwi]
   constructor
   ·intro h j h0 hj a b h1 h2;have:=h (j - 1) (by omega) a b h1;rw[show j - 1+1=j by omega] at this;exact this h2
   ·intro h j hj a b h1 h2;exact h (j+1) (by omega) (by omega) a b (by rw[Nat.add_sub_cancel]; exact h1) h2
  by_cases hq:∀j,j < n->∀a b,l[j]? = some a->l[j+1]? = some b->a < b
  ·have:=key.1 hq;exact⟨true,this,⟨fun _=>hiff.1 hq,fun _=>rfl⟩⟩
  ·have:=key.2 hq;exact⟨false,this,⟨fun h=>(by cases h),fun h=>absurd (hiff.2 h) hq⟩⟩
theorem zwk{l:List Int}(hl:zwd l):Ev (zs6 l) (l.Pairwise (· < ·)/\l.head? = some 0):=by
 unfold zs6
 cases l with
 | nil=>exact Ev.ff (by simp)
 | cons a l=>
  rw[if_pos (by simp)];refine Ev.bind (zsf rfl) ?_;refine(Ev.ite fun _=>(zwj hl).ret).imp ?_
  constructor
  ·rintro⟨rfl,h⟩; exact⟨h,rfl⟩
  ·rintro⟨h,e⟩; exact⟨oi e,h⟩
theorem zwl{l:List Int}{most:Int}(hl:zwd l):Ev (zsC l most) ((l.Pairwise (· < ·)/\l.head? = some 0)/\∀x∈l,0<=x/\x<=most):=by
 have hl:=hl.lt
 have key:Ev (prRises_L0 l most (l.length+1) 0) ((∀j,j < l.length->((0<=nth l j/\nth l j<=most)/\(0 < j->nth l (j - 1) < nth l j)))/\l.head? = some 0):=by
  refine Ev.loop (F:=prRises_L0 l most) (fin:=if (0:Int) < (l.length:Int) then ((idx l (0:Int)).bind fun x=>some (decide (x=(0:Int)))) else some false) (fun d k hk=>?_) (fun d=>?_) (by omega) fun _=>?_
  ·rw[prRises_L0,if_pos (by omega),zwe hk,obs];obtain⟨b,h1,h2⟩:=zv7 (n:=nth l k) (lo:=0) (hi:=most);rw[h1,obs]
   cases b with
   | false=>
    rw[if_neg (by simp)];exact⟨fun h=>(by have:=h2.2 h.1; cases this),fun _=>rfl⟩
   | true=>
    have h3:=h2.1 rfl;rw[if_pos rfl]
    by_cases h0:0 < k
    ·rw[if_pos (show(0:Int) < k by omega),obs,zrt (fI (by omega)),zwf h0 (by omega),obs,zrt (fI (by omega))];refine⟨fun h=>?_,fun h=>?_⟩
     ·rw[if_neg (by have:=h.2 h0; omega)]
     ·rw[if_pos (by
       rcases Int.lt_or_le (nth l (k - 1)) (nth l k) with h1 | h1
       ·exact absurd ⟨h3,fun _=>h1⟩ h
       ·exact h1)]
    ·rw[if_neg (show ¬ (0:Int) < k by omega),zrt (fI (by omega))];exact⟨fun _=>rfl,fun h=>absurd ⟨h3,fun h'=>absurd h' h0⟩ h⟩
  ·rw[prRises_L0,if_neg (Int.lt_irrefl _)]
  ·cases l with
   | nil=>exact Ev.ff (by simp)
   | cons a l=>rw[if_pos (by simp)]; exact Ev.bind (zsf rfl) (Ev.dec (by simp))
 refine key.imp ⟨fun⟨h1,h2⟩=>⟨⟨zwg fun j h0 hj=>(h1 j hj).2 h0,h2⟩,fun x hx=>?_⟩,fun⟨⟨h1,h2⟩,h3⟩=>⟨fun j hj=>⟨h3 _ (List.mem_of_getElem? (zvO hj)),fun h0=>zwh.2 h1 j h0 hj⟩,h2⟩⟩;obtain⟨i,hi⟩:=List.mem_iff_getElem?.1 hx;rw[<- zvN hi];exact(h1 i (List.getElem?_eq_some_iff.1 hi).1).1
theorem gTf{l:List Tf}{p:Tf->Option Bool}:∀{d:Nat} {x:Int},ztn l p d x=gIdx l p d x
 | 0,_=>rfl
 | d+1,x=>by unfold ztn gIdx; simp only[gTf (d:=d)]
theorem zwm{l:List Tf}{p:Tf->Option Bool}:∀{d:Nat} {x:Int},ztr l p d x=gIdx l p d x
 | 0,_=>rfl
 | d+1,x=>by unfold ztr gIdx; simp only[zwm (d:=d)]
theorem gI{l:List Int}{p:Int->Option Bool}:∀{d:Nat} {x:Int},ztv l p d x=gIdx l p d x
 | 0,_=>rfl
 | d+1,x=>by unfold ztv gIdx; simp only[gI (d:=d)]
theorem gL{l:List (List Int)}{p:List Int->Option Bool}:∀{d:Nat} {x:Int},ztA l p d x=gIdx l p d x
 | 0,_=>rfl
 | d+1,x=>by unfold ztA gIdx; simp only[gL (d:=d)]
theorem gLL{l:List (List (List Int))}{p:List (List Int)->Option Bool}:∀{d:Nat} {x:Int},ztF l p d x=gIdx l p d x
 | 0,_=>rfl
 | d+1,x=>by unfold ztF gIdx; simp only[gLL (d:=d)]
theorem zwn{l:List Tf}{p:Tf->Option Bool}{q:Tf->Prop}(hp:∀a∈l,Ev (p a) (q a))(hl:zwd l):Ev (ztq l p) (∀a∈l,q a):=Ev.each hp hl.lt gTf
theorem zwo{l:List Int}{p:Int->Option Bool}{q:Int->Prop}(hp:∀a∈l,Ev (p a) (q a))(hl:zwd l):Ev (zty l p) (∀a∈l,q a):=Ev.each hp hl.lt gI
theorem zwp{l:List (List Int)}{p:List Int->Option Bool}{q:List Int->Prop}(hp:∀a∈l,Ev (p a) (q a))(hl:zwd l):Ev (ztD l p) (∀a∈l,q a):=Ev.each hp hl.lt gL
theorem zwq{l:List (List (List Int))}{p:List (List Int)->Option Bool}{q:List (List Int)->Prop}(hp:∀a∈l,Ev (p a) (q a))(hl:zwd l):Ev (ztI l p) (∀a∈l,q a):=Ev.each hp hl.lt gLL
theorem zwr{l:List Tf}{p:Tf->Option Bool}{q:Tf->Prop}(hp:∀a∈l,Ev (p a) (q a))(hl:zwd l):Ev (ztt l p) (∃a∈l,q a):=Ev.contains hp hl.lt zwm
end
end Go.Proofs.Ytbkokcbnbmhaoaa

