/- An evaluator of the code of a program, its soundness, what calls ask, memory, and what functions of the program do. Condition: none; a lemma text of this claim. -/
import Derived.Test.YteojndcmgpiklaaGreatUdF

namespace Go.Proofs.YteojndcmgpiklaaGreat
theorem obs{α β:Type}{a:α}{f:α→Option β}:(some a).bind f=f a:=rfl
theorem zrC:∃_t:Nat→Nat,True:=⟨fun _=>0,trivial⟩
theorem gdi{α:Type}{p A:Prop}{o:Option α}{r:α}(hp:Go.Abs.gd p o=some r)(h:p→o=some r→A):p∧A:=have ⟨a,b⟩:=Go.Abs.zqe hp; ⟨a,h a b⟩
end Go.Proofs.YteojndcmgpiklaaGreat

namespace Go.Proofs.YteojndcmgpiklaaGreat
open _root_.Go.Proofs.Tryz
open Go.Abs
set_option maxRecDepth 100000
noncomputable section
structure Rg where
 Lo:Int
 Hi:Int
def zrD(a:Rg):Prop:=(zl0 .i64 a.Lo)∧(zl0 .i64 a.Hi)
instance:MK Rg:=⟨fun k=>.agg 2 [.int .i64 k.Lo,.int .i64 k.Hi],fun k=>zl0 .i64 k.Lo∧zl0 .i64 k.Hi∧True⟩
instance:MV Rg:=⟨fun k=>.agg 2 [.int .i64 k.Lo,.int .i64 k.Hi]⟩
instance:Rp Rg:=⟨2,by omega,fun _ cs a=>cs=[.int .i64 a.Lo,.int .i64 a.Hi],fun h=>by rw[h]; rfl,fun h _=>h⟩
theorem zrE{f:M}{x:C}{l:List Rg}(h:Sl f x l){n:Nat}{a:Rg}(hi:l[n]? = some a):∃_u:Unit,(∀m,Sub f m→ldA m (zl2 x (n * 2)) 2=some [.int .i64 a.Lo,.int .i64 a.Hi]∧(∀j c,([.int .i64 a.Lo,.int .i64 a.Hi]:List C)[j]? = some c→ldC m (zl1 (zl2 x (n * 2)) j)=some c)∧∀j i,0 < i→j+i≤2→ldA m (zl1 (zl2 x (n * 2)) j) i=some ((([.int .i64 a.Lo,.int .i64 a.Hi]:List C).drop j).take i)):=by
 obtain⟨cs,q1,q2⟩:=h.rdP hi;have q2:cs=_:=q2;subst q2;exact⟨(),q1⟩
structure Tf where
 From:Int
 Whole:Bool
 Least:Int
 Weeks:List Int
 Counts:List Int
 Rates:List (List (List Int))
def zrF(a:Tf):Prop:=(zl0 .i64 a.From)∧(True)∧(zl0 .i64 a.Least)∧(a.Weeks.length≤maxLen∧∀a0∈a.Weeks,zl0 .i64 a0)∧(a.Counts.length≤maxLen∧∀a0∈a.Counts,zl0 .i64 a0)∧(a.Rates.length≤maxLen∧∀a0∈a.Rates,a0.length≤maxLen∧∀a1∈a0,a1.length≤maxLen∧∀a2∈a1,zl0 .i64 a2)
instance:Rp Tf:=⟨6,by omega,fun f cs a=>∃c3 c4 c5:C,cs=[.int .i64 a.From,.bool a.Whole,.int .i64 a.Least,c3,c4,c5]∧Sl f c3 a.Weeks∧Sl f c4 a.Counts∧Sl f c5 a.Rates,fun h=>by obtain⟨c3,c4,c5,h,_,_,_⟩:=h; rw[h]; rfl,fun h s=>by obtain⟨c3,c4,c5,h,h0,h1,h2⟩:=h; exact⟨c3,c4,c5,h,h0.subv s,h1.subv s,h2.subv s⟩⟩
theorem zrG{f:M}{x:C}{l:List Tf}(h:Sl f x l){n:Nat}{a:Tf}(hi:l[n]? = some a):∃c3 c4 c5:C,(∀m,Sub f m→ldA m (zl2 x (n * 6)) 6=some [.int .i64 a.From,.bool a.Whole,.int .i64 a.Least,c3,c4,c5]∧(∀j c,([.int .i64 a.From,.bool a.Whole,.int .i64 a.Least,c3,c4,c5]:List C)[j]? = some c→ldC m (zl1 (zl2 x (n * 6)) j)=some c)∧∀j i,0 < i→j+i≤6→ldA m (zl1 (zl2 x (n * 6)) j) i=some ((([.int .i64 a.From,.bool a.Whole,.int .i64 a.Least,c3,c4,c5]:List C).drop j).take i))∧Sl f c3 a.Weeks∧Sl f c4 a.Counts∧Sl f c5 a.Rates:=by
 obtain⟨cs,q1,q2⟩:=h.rdP hi;obtain⟨c3,c4,c5,rfl,z0,z1,z2⟩:=q2;exact⟨c3,c4,c5,q1,z0,z1,z2⟩
structure Clm where
 Crop:Int
 Value:Int
 Day:Rg
 Count:Rg
instance:MK Clm:=⟨fun k=>.agg 6 [.int .i64 k.Crop,.int .i64 k.Value,.int .i64 k.Day.Lo,.int .i64 k.Day.Hi,.int .i64 k.Count.Lo,.int .i64 k.Count.Hi],fun k=>zl0 .i64 k.Crop∧zl0 .i64 k.Value∧zl0 .i64 k.Day.Lo∧zl0 .i64 k.Day.Hi∧zl0 .i64 k.Count.Lo∧zl0 .i64 k.Count.Hi∧True⟩
instance:MV Clm:=⟨fun k=>.agg 6 [.int .i64 k.Crop,.int .i64 k.Value,.int .i64 k.Day.Lo,.int .i64 k.Day.Hi,.int .i64 k.Count.Lo,.int .i64 k.Count.Hi]⟩
instance:Rp Clm:=⟨6,by omega,fun _ cs a=>cs=[.int .i64 a.Crop,.int .i64 a.Value,.int .i64 a.Day.Lo,.int .i64 a.Day.Hi,.int .i64 a.Count.Lo,.int .i64 a.Count.Hi],fun h=>by rw[h]; rfl,fun h _=>h⟩
theorem zrH{f:M}{x:C}{l:List Clm}(h:Sl f x l){n:Nat}{a:Clm}(hi:l[n]? = some a):∃_u:Unit,(∀m,Sub f m→ldA m (zl2 x (n * 6)) 6=some [.int .i64 a.Crop,.int .i64 a.Value,.int .i64 a.Day.Lo,.int .i64 a.Day.Hi,.int .i64 a.Count.Lo,.int .i64 a.Count.Hi]∧(∀j c,([.int .i64 a.Crop,.int .i64 a.Value,.int .i64 a.Day.Lo,.int .i64 a.Day.Hi,.int .i64 a.Count.Lo,.int .i64 a.Count.Hi]:List C)[j]? = some c→ldC m (zl1 (zl2 x (n * 6)) j)=some c)∧∀j i,0 < i→j+i≤6→ldA m (zl1 (zl2 x (n * 6)) j) i=some ((([.int .i64 a.Crop,.int .i64 a.Value,.int .i64 a.Day.Lo,.int .i64 a.Day.Hi,.int .i64 a.Count.Lo,.int .i64 a.Count.Hi]:List C).drop j).take i)):=by
 obtain⟨cs,q1,q2⟩:=h.rdP hi;have q2:cs=_:=q2;subst q2;exact⟨(),q1⟩
structure Tr where
 Day:Int
 Count:Int
instance:MK Tr:=⟨fun k=>.agg 2 [.int .i64 k.Day,.int .i64 k.Count],fun k=>zl0 .i64 k.Day∧zl0 .i64 k.Count∧True⟩
instance:MV Tr:=⟨fun k=>.agg 2 [.int .i64 k.Day,.int .i64 k.Count]⟩
instance:Rp Tr:=⟨2,by omega,fun _ cs a=>cs=[.int .i64 a.Day,.int .i64 a.Count],fun h=>by rw[h]; rfl,fun h _=>h⟩
structure Ht where
 Day:Int
 Count:Int
 crop:Int
instance:MK Ht:=⟨fun k=>.agg 3 [.int .i64 k.Day,.int .i64 k.Count,.int .i64 k.crop],fun k=>zl0 .i64 k.Day∧zl0 .i64 k.Count∧zl0 .i64 k.crop∧True⟩
instance:MV Ht:=⟨fun k=>.agg 3 [.int .i64 k.Day,.int .i64 k.Count,.int .i64 k.crop]⟩
instance:Rp Ht:=⟨3,by omega,fun _ cs a=>cs=[.int .i64 a.Day,.int .i64 a.Count,.int .i64 a.crop],fun h=>by rw[h]; rfl,fun h _=>h⟩
structure Fld where
 Crop:Int
 Value:Int
 Near:Int
 First:Rg
 Second:Rg
 Umpire:Rg
def zrI(a:Fld):Prop:=(zl0 .i64 a.Crop)∧(zl0 .i64 a.Value)∧(zl0 .i64 a.Near)∧(zrD a.First)∧(zrD a.Second)∧(zrD a.Umpire)
instance:MK Fld:=⟨fun k=>.agg 9 [.int .i64 k.Crop,.int .i64 k.Value,.int .i64 k.Near,.int .i64 k.First.Lo,.int .i64 k.First.Hi,.int .i64 k.Second.Lo,.int .i64 k.Second.Hi,.int .i64 k.Umpire.Lo,.int .i64 k.Umpire.Hi],fun k=>zl0 .i64 k.Crop∧zl0 .i64 k.Value∧zl0 .i64 k.Near∧zl0 .i64 k.First.Lo∧zl0 .i64 k.First.Hi∧zl0 .i64 k.Second.Lo∧zl0 .i64 k.Second.Hi∧zl0 .i64 k.Umpire.Lo∧zl0 .i64 k.Umpire.Hi∧True⟩
instance:MV Fld:=⟨fun k=>.agg 9 [.int .i64 k.Crop,.int .i64 k.Value,.int .i64 k.Near,.int .i64 k.First.Lo,.int .i64 k.First.Hi,.int .i64 k.Second.Lo,.int .i64 k.Second.Hi,.int .i64 k.Umpire.Lo,.int .i64 k.Umpire.Hi]⟩
instance:Rp Fld:=⟨9,by omega,fun _ cs a=>cs=[.int .i64 a.Crop,.int .i64 a.Value,.int .i64 a.Near,.int .i64 a.First.Lo,.int .i64 a.First.Hi,.int .i64 a.Second.Lo,.int .i64 a.Second.Hi,.int .i64 a.Umpire.Lo,.int .i64 a.Umpire.Hi],fun h=>by rw[h]; rfl,fun h _=>h⟩
theorem zrJ{f:M}{x:C}{l:List Fld}(h:Sl f x l){n:Nat}{a:Fld}(hi:l[n]? = some a):∃_u:Unit,(∀m,Sub f m→ldA m (zl2 x (n * 9)) 9=some [.int .i64 a.Crop,.int .i64 a.Value,.int .i64 a.Near,.int .i64 a.First.Lo,.int .i64 a.First.Hi,.int .i64 a.Second.Lo,.int .i64 a.Second.Hi,.int .i64 a.Umpire.Lo,.int .i64 a.Umpire.Hi]∧(∀j c,([.int .i64 a.Crop,.int .i64 a.Value,.int .i64 a.Near,.int .i64 a.First.Lo,.int .i64 a.First.Hi,.int .i64 a.Second.Lo,.int .i64 a.Second.Hi,.int .i64 a.Umpire.Lo,.int .i64 a.Umpire.Hi]:List C)[j]? = some c→ldC m (zl1 (zl2 x (n * 9)) j)=some c)∧∀j i,0 < i→j+i≤9→ldA m (zl1 (zl2 x (n * 9)) j) i=some ((([.int .i64 a.Crop,.int .i64 a.Value,.int .i64 a.Near,.int .i64 a.First.Lo,.int .i64 a.First.Hi,.int .i64 a.Second.Lo,.int .i64 a.Second.Hi,.int .i64 a.Umpire.Lo,.int .i64 a.Umpire.Hi]:List C).drop j).take i)):=by
 obtain⟨cs,q1,q2⟩:=h.rdP hi;have q2:cs=_:=q2;subst q2;exact⟨(),q1⟩
structure Cse where
 Tariffs:List Tf
 Day:Int
 Fee:Int
 Fields:List Fld
def zrK(a:Cse):Prop:=(a.Tariffs.length≤maxLen∧∀a0∈a.Tariffs,zrF a0)∧(zl0 .i64 a.Day)∧(zl0 .i64 a.Fee)∧(a.Fields.length≤maxLen∧∀a0∈a.Fields,zrI a0)
instance:Rp Cse:=⟨4,by omega,fun f cs a=>∃c0 c3:C,cs=[c0,.int .i64 a.Day,.int .i64 a.Fee,c3]∧Sl f c0 a.Tariffs∧Sl f c3 a.Fields,fun h=>by obtain⟨c0,c3,h,_,_⟩:=h; rw[h]; rfl,fun h s=>by obtain⟨c0,c3,h,h0,h1⟩:=h; exact⟨c0,c3,h,h0.subv s,h1.subv s⟩⟩
structure Thr where
 First:Int
 Second:Int
 Umpire:Int
instance:MK Thr:=⟨fun k=>.agg 3 [.int .i64 k.First,.int .i64 k.Second,.int .i64 k.Umpire],fun k=>zl0 .i64 k.First∧zl0 .i64 k.Second∧zl0 .i64 k.Umpire∧True⟩
instance:MV Thr:=⟨fun k=>.agg 3 [.int .i64 k.First,.int .i64 k.Second,.int .i64 k.Umpire]⟩
instance:Rp Thr:=⟨3,by omega,fun _ cs a=>cs=[.int .i64 a.First,.int .i64 a.Second,.int .i64 a.Umpire],fun h=>by rw[h]; rfl,fun h _=>h⟩
theorem zrL{f:M}{x:C}{l:List Thr}(h:Sl f x l){n:Nat}{a:Thr}(hi:l[n]? = some a):∃_u:Unit,(∀m,Sub f m→ldA m (zl2 x (n * 3)) 3=some [.int .i64 a.First,.int .i64 a.Second,.int .i64 a.Umpire]∧(∀j c,([.int .i64 a.First,.int .i64 a.Second,.int .i64 a.Umpire]:List C)[j]? = some c→ldC m (zl1 (zl2 x (n * 3)) j)=some c)∧∀j i,0 < i→j+i≤3→ldA m (zl1 (zl2 x (n * 3)) j) i=some ((([.int .i64 a.First,.int .i64 a.Second,.int .i64 a.Umpire]:List C).drop j).take i)):=by
 obtain⟨cs,q1,q2⟩:=h.rdP hi;have q2:cs=_:=q2;subst q2;exact⟨(),q1⟩
structure Res where
 Counts:List Int
 Award:Int
 Farmer:Int
 Society:Int
instance:Rp Res:=⟨4,by omega,fun f cs a=>∃c0:C,cs=[c0,.int .i64 a.Award,.int .i64 a.Farmer,.int .i64 a.Society]∧Sl f c0 a.Counts,fun h=>by obtain⟨c0,h,_⟩:=h; rw[h]; rfl,fun h s=>by obtain⟨c0,h,h0⟩:=h; exact⟨c0,h,h0.subv s⟩⟩
structure Sd4 where
 f0:Int
 f1:Int
 f2:Int
 f3:Int
instance:MK Sd4:=⟨fun k=>.agg 4 [.int .i64 k.f0,.int .i64 k.f1,.int .i64 k.f2,.int .i64 k.f3],fun k=>zl0 .i64 k.f0∧zl0 .i64 k.f1∧zl0 .i64 k.f2∧zl0 .i64 k.f3∧True⟩
instance:MV Sd4:=⟨fun k=>.agg 4 [.int .i64 k.f0,.int .i64 k.f1,.int .i64 k.f2,.int .i64 k.f3]⟩
instance:Rp Sd4:=⟨4,by omega,fun _ cs a=>cs=[.int .i64 a.f0,.int .i64 a.f1,.int .i64 a.f2,.int .i64 a.f3],fun h=>by rw[h]; rfl,fun h _=>h⟩
structure Ver where
 fee:Int
 pence:Int
 fields:Sd4
instance:MK Ver:=⟨fun k=>.agg 6 [.int .i64 k.fee,.int .i64 k.pence,.int .i64 k.fields.f0,.int .i64 k.fields.f1,.int .i64 k.fields.f2,.int .i64 k.fields.f3],fun k=>zl0 .i64 k.fee∧zl0 .i64 k.pence∧zl0 .i64 k.fields.f0∧zl0 .i64 k.fields.f1∧zl0 .i64 k.fields.f2∧zl0 .i64 k.fields.f3∧True⟩
instance:MV Ver:=⟨fun k=>.agg 6 [.int .i64 k.fee,.int .i64 k.pence,.int .i64 k.fields.f0,.int .i64 k.fields.f1,.int .i64 k.fields.f2,.int .i64 k.fields.f3]⟩
instance:Rp Ver:=⟨6,by omega,fun _ cs a=>cs=[.int .i64 a.fee,.int .i64 a.pence,.int .i64 a.fields.f0,.int .i64 a.fields.f1,.int .i64 a.fields.f2,.int .i64 a.fields.f3],fun h=>by rw[h]; rfl,fun h _=>h⟩
structure Oc where
 pence:Int
 loser:Int
instance:MK Oc:=⟨fun k=>.agg 2 [.int .i64 k.pence,.int .i64 k.loser],fun k=>zl0 .i64 k.pence∧zl0 .i64 k.loser∧True⟩
instance:MV Oc:=⟨fun k=>.agg 2 [.int .i64 k.pence,.int .i64 k.loser]⟩
instance:Rp Oc:=⟨2,by omega,fun _ cs a=>cs=[.int .i64 a.pence,.int .i64 a.loser],fun h=>by rw[h]; rfl,fun h _=>h⟩
structure Mnr where
 paid:Tf→Int→Option (Int)
structure Wk where
 tariffs:List Tf
 parts:Option (Ht→Option (Int))
structure UWk where
 c:Cse
 payments:Option (Clm→Option (Int))
structure Qn where
 ask:Ver→Option (Int)
def zrM(n:Int)(low:Int)(high:Int):Option (Bool):=(if low≤n then (some (decide (n≤high))) else (some false))
def prRises_L0(l:List Int)(most:Int):Nat→Int→Option (Bool)
 | 0,_=>none
 | d305+1,x2=>(if x2 < (l.length:Int) then ((idx l x2).bind fun x307=>((zrM x307 (0:Int) most).bind fun r309=>(if r309=true then (if (0:Int) < x2 then ((idx l x2).bind fun x316=>(gd (zl0 .i64 (x2 - 1)) ((idx l (x2 - 1)).bind fun x319=>(if x316≤x319 then (some false) else (gd (zl0 .i64 (x2+1)) (prRises_L0 l most d305 (x2+1))))))) else (gd (zl0 .i64 (x2+1)) (prRises_L0 l most d305 (x2+1)))) else (some false)))) else (if (0:Int) < (l.length:Int) then ((idx l (0:Int)).bind fun x325=>(some (decide (x325=0)))) else (some false)))
def zrN(l:List Int)(most:Int):Option (Bool):=(prRises_L0 l most (l.length+1) (0:Int))
def zrO(t:Tf)(x26:Int)(x36:Int)(K_R33:Bool→Int→Option (Bool)):Nat→Bool→Int→Option (Bool)
 | 0,_,_=>none
 | d392+1,b46,x47=>(if x47 < (t.Counts.length:Int) then ((idx t.Rates x26).bind fun v394=>((idx v394 x36).bind fun v399=>((idx v399 x47).bind fun x404=>((zrM x404 (0:Int) (100:Int)).bind fun r406=>(if r406=true then (gd (zl0 .i64 (x47+1)) (zrO t x26 x36 K_R33 d392 b46 (x47+1))) else (some false)))))) else (gd (zl0 .i64 (x36+1)) (K_R33 b46 (x36+1))))
def zrP(t:Tf)(x26:Int)(K_R22:Bool→Int→Option (Bool)):Nat→Bool→Int→Option (Bool)
 | 0,_,_=>none
 | d377+1,b34,x36=>(if x36 < (t.Weeks.length:Int) then ((idx t.Rates x26).bind fun v379=>((idx v379 x36).bind fun v384=>(if (v384.length:Int)=(t.Counts.length:Int) then (zrO t x26 x36 (zrP t x26 K_R22 d377) 1000000 b34 (0:Int)) else (some false)))) else (gd (zl0 .i64 (x26+1)) (K_R22 b34 (x26+1))))
def zrQ(t:Tf):Nat→Bool→Int→Option (Bool)
 | 0,_,_=>none
 | d367+1,b23,x26=>(if x26 < (t.Rates.length:Int) then ((idx t.Rates x26).bind fun v369=>(if (v369.length:Int)=(t.Weeks.length:Int) then (zrP t x26 (zrQ t d367) 1000000 b23 (0:Int)) else (some false))) else (some true))
def zrR(t:Tf):Option (Bool):=((zrM t.From (0:Int) (120:Int)).bind fun r332=>(if r332=true then ((zrM t.Least (0:Int) (100:Int)).bind fun r339=>(if r339=true then ((zrN t.Weeks (120:Int)).bind fun r346=>(if r346=true then ((zrN t.Counts (100:Int)).bind fun r353=>(if r353=true then (gd (zl0 .i64 ((t.Counts.length:Int) - (1:Int))) ((idx t.Counts ((t.Counts.length:Int) - (1:Int))).bind fun x361=>(if x361=100 then (if (t.Rates.length:Int)=(0:Int) then (some false) else (zrQ t 1000000 false (0:Int))) else (some false)))) else (some false))) else (some false))) else (some false))) else (some false)))
def zrS(l:List Tf):Nat→Int→Option (Int)
 | 0,_=>none
 | d454+1,x12=>(if x12 < (l.length:Int) then ((idx l x12).bind fun v456=>((zrR v456).bind fun r465=>(if r465=true then ((idx l x12).bind fun v471=>((idx l (0:Int)).bind fun v480=>(if (v471.Rates.length:Int)=(v480.Rates.length:Int) then (if x12=0 then ((idx l x12).bind fun v491=>(if v491.From=(0:Int) then (if (0:Int) < x12 then ((idx l x12).bind fun v502=>(gd (zl0 .i64 (x12 - 1)) ((idx l (x12 - 1)).bind fun v512=>(if v502.From≤v512.From then (some (1:Int)) else (gd (zl0 .i64 (x12+1)) (zrS l d454 (x12+1))))))) else (gd (zl0 .i64 (x12+1)) (zrS l d454 (x12+1)))) else (some (1:Int)))) else (if (0:Int) < x12 then ((idx l x12).bind fun v525=>(gd (zl0 .i64 (x12 - 1)) ((idx l (x12 - 1)).bind fun v535=>(if v525.From≤v535.From then (some (1:Int)) else (gd (zl0 .i64 (x12+1)) (zrS l d454 (x12+1))))))) else (gd (zl0 .i64 (x12+1)) (zrS l d454 (x12+1))))) else (some (1:Int))))) else (some (1:Int))))) else (if (l.length:Int)=(0:Int) then (some (1:Int)) else (some (0:Int))))
def zrT(l:List Tf):Nat→Int→Int→Option (Int)
 | 0,_,_=>none
 | d419+1,x1,x2=>(if x2 < (l.length:Int) then ((idx l x2).bind fun v421=>(if (4:Int) < (v421.Weeks.length:Int) then (some (3:Int)) else ((idx l x2).bind fun v431=>(if (5:Int) < (v431.Counts.length:Int) then (some (3:Int)) else ((idx l x2).bind fun v441=>(if (3:Int) < (v441.Rates.length:Int) then (some (3:Int)) else (gd (zl0 .i64 (x2+1)) (zrT l d419 x1 (x2+1))))))))) else (zrS l (l.length+1) (0:Int)))
def zrU(l:List Tf):Option (Int):=(if (3:Int) < (l.length:Int) then (some (3:Int)) else (zrT l (l.length+1) (0:Int) (0:Int)))
def zrV(l:List Int)(n:Int):Nat→Int→Option (Int)
 | 0,_=>none
 | d550+1,x1=>(gd (zl0 .i64 (x1+1)) (if (x1+1) < (l.length:Int) then (gd (zl0 .i64 (x1+1)) ((idx l (x1+1)).bind fun x554=>(if x554≤n then (gd (zl0 .i64 (x1+1)) (zrV l n d550 (x1+1))) else (some x1)))) else (some x1)))
def zrW(l:List Int)(n:Int):Option (Int):=(zrV l n 1000000 (0:Int))
def zrX(l:List Tf)(day:Int):Nat→(List Int)→Int→Option (Tf)
 | 0,_,_=>none
 | d567+1,l565,x3=>(if x3 < (l.length:Int) then ((idx l x3).bind fun v569=>(gd (l565.length < 1048576) (gd (zl0 .i64 (x3+1)) (zrX l day d567 (l565++[v569.From]) (x3+1))))) else ((zrW l565 day).bind fun r594=>((idx l r594).bind fun v601=>(some v601))))
def zrY(l:List Tf):Option (Int):=((idx l (0:Int)).bind fun v700=>(some (v700.Rates.length:Int)))
def zrZ(a:List Int)(b:List Int):Nat→Int→Option (Bool)
 | 0,_=>none
 | d711+1,x2=>(if x2 < (a.length:Int) then (if x2 < (b.length:Int) then ((idx a x2).bind fun x714=>((idx b x2).bind fun x716=>(if x714=x716 then (gd (zl0 .i64 (x2+1)) (zrZ a b d711 (x2+1))) else ((idx a x2).bind fun x719=>((idx b x2).bind fun x721=>(some (decide (x719 < x721)))))))) else (some (decide ((a.length:Int) < (b.length:Int))))) else (some (decide ((a.length:Int) < (b.length:Int)))))
def zr0(a:List Int)(b:List Int):Option (Bool):=(zrZ a b (a.length+1) (0:Int))
def zr1(a:List Int)(b:List Int):Option (Bool):=(if (a.length:Int)=(b.length:Int) then ((zr0 a b).bind fun r725=>(if r725=true then (some false) else ((zr0 b a).bind fun r731=>(some (!r731))))) else (some false))
def zr2(l:List Int):Option (List Int):=(gd (([]:List Int).length+l.length≤1048576) (some ([]++l)))
def zr3(l:List Tf)(x4:Int)(x15:Int)(K_R12:Bool→Int→Option (Bool)):Nat→Bool→Int→Option (Bool)
 | 0,_,_=>none
 | d818+1,b24,x25=>((idx l x4).bind fun v819=>((idx v819.Rates x15).bind fun v828=>(if x25 < (v828.length:Int) then ((idx l x4).bind fun v834=>((idx v834.Rates x15).bind fun v843=>((idx v843 x25).bind fun v848=>(if (7:Int) < (v848.length:Int) then (some false) else (gd (zl0 .i64 (x25+1)) (zr3 l x4 x15 K_R12 d818 b24 (x25+1))))))) else (gd (zl0 .i64 (x15+1)) (K_R12 b24 (x15+1))))))
def zr4(l:List Tf)(x4:Int)(K_R0:Bool→Int→Option (Bool)):Nat→Bool→Int→Option (Bool)
 | 0,_,_=>none
 | d790+1,b13,x15=>((idx l x4).bind fun v791=>(if x15 < (v791.Rates.length:Int) then ((idx l x4).bind fun v801=>((idx v801.Rates x15).bind fun v810=>(if (7:Int) < (v810.length:Int) then (some false) else (zr3 l x4 x15 (zr4 l x4 K_R0 d790) 1000000 b13 (0:Int))))) else (gd (zl0 .i64 (x4+1)) (K_R0 b13 (x4+1)))))
def zr5(l:List Tf):Nat→Bool→Int→Option (Bool)
 | 0,_,_=>none
 | d756+1,b1,x4=>(if x4 < (l.length:Int) then ((idx l x4).bind fun v758=>(if (7:Int) < (v758.Weeks.length:Int) then (some false) else ((idx l x4).bind fun v768=>(if (7:Int) < (v768.Counts.length:Int) then (some false) else ((idx l x4).bind fun v778=>(if (5:Int) < (v778.Rates.length:Int) then (some false) else (zr4 l x4 (zr5 l d756) 1000000 b1 (0:Int)))))))) else (some true))
def zr6(l:List Tf):Option (Bool):=(if (5:Int) < (l.length:Int) then (some false) else (zr5 l (l.length+1) false (0:Int)))
def zr7(l:List Tf)(x2:Int)(y945:Int)(y946:Bool)(y947:Int)(y948:List (List (List Int)))(x24:Int)(K_R23:Int→Bool→Int→(List (List (List Int)))→Int→Option (List Tf)):Nat→(List (List Int))→Int→Option (List Tf)
 | 0,_,_=>none
 | d967+1,l965,x30=>((idx l x2).bind fun v968=>((idx v968.Rates x24).bind fun v977=>(if x30 < (v977.length:Int) then ((idx l x2).bind fun v983=>((idx v983.Rates x24).bind fun v992=>((idx v992 x30).bind fun v997=>((zr2 v997).bind fun r1002=>(gd (l965.length < 1048576) (gd (zl0 .i64 (x30+1)) (zr7 l x2 y945 y946 y947 y948 x24 K_R23 d967 (l965++[r1002]) (x30+1)))))))) else (gd (y948.length < 1048576) (gd (zl0 .i64 (x24+1)) (K_R23 y945 y946 y947 (y948++[l965]) (x24+1)))))))
def zr8(l:List Tf)(l860:List Tf)(x2:Int)(r906:List Int)(r924:List Int)(K_R0:(List Tf)→Int→Option (List Tf)):Nat→Int→Bool→Int→(List (List (List Int)))→Int→Option (List Tf)
 | 0,_,_,_,_,_=>none
 | d951+1,y945,y946,y947,y948,x24=>((idx l x2).bind fun v952=>(if x24 < (v952.Rates.length:Int) then (zr7 l x2 y945 y946 y947 y948 x24 (zr8 l l860 x2 r906 r924 K_R0 d951) 1000000 [] (0:Int)) else (gd (l860.length < 1048576) (gd (zl0 .i64 (x2+1)) (K_R0 (l860++[({ From:=y945,Whole:=y946,Least:=y947,Weeks:=r906,Counts:=r924,Rates:=y948 }:Tf)]) (x2+1))))))
def zr9(l:List Tf):Nat→(List Tf)→Int→Option (List Tf)
 | 0,_,_=>none
 | d862+1,l860,x2=>(if x2 < (l.length:Int) then ((idx l x2).bind fun v870=>((idx l x2).bind fun v879=>((idx l x2).bind fun v888=>((idx l x2).bind fun v897=>((zr2 v897.Weeks).bind fun r906=>((idx l x2).bind fun v915=>((zr2 v915.Counts).bind fun r924=>(zr8 l l860 x2 r906 r924 (zr9 l d862) 1000000 v870.From v879.Whole v888.Least [] (0:Int))))))))) else (some l860))
def zsa(l:List Tf):Option (List Tf):=(zr9 l (l.length+1) [] (0:Int))
def zsb(r:Rg)(n:Int):Option (Bool):=(if r.Lo≤n then (some (decide (n≤r.Hi))) else (some false))
def zsc(n:Int)(size:Int):Option (Bool):=(gd (zl0 .i64 (size - 1)) ((zsb ({ Lo:=(0:Int),Hi:=(size - 1) }:Rg) n).bind fun r1073=>(some r1073)))
def zsd(n:Int):Option (Bool):=((zsb ({ Lo:=(0:Int),Hi:=(120:Int) }:Rg) n).bind fun r1078=>(some r1078))
def zse(n:Int):Option (Bool):=((zsb ({ Lo:=(0:Int),Hi:=(100:Int) }:Rg) n).bind fun r1083=>(some r1083))
def zsf(n:Int):Option (Bool):=((zsb ({ Lo:=(0:Int),Hi:=(100:Int) }:Rg) n).bind fun r1088=>(some r1088))
def zsg(l:List Int):Nat→Int→Option (Bool)
 | 0,_=>none
 | d1095+1,x2=>(if x2 < (l.length:Int) then ((idx l x2).bind fun x1097=>(if (0:Int) < x2 then (gd (zl0 .i64 (x2 - 1)) ((idx l (x2 - 1)).bind fun x1101=>(if x1097≤x1101 then (some false) else (gd (zl0 .i64 (x2+1)) (zsg l d1095 (x2+1)))))) else (gd (zl0 .i64 (x2+1)) (zsg l d1095 (x2+1))))) else (if (0:Int) < (l.length:Int) then ((idx l (0:Int)).bind fun x1107=>(some (decide (x1107=0)))) else (some false)))
def zsh(l:List Int):Option (Bool):=(zsg l (l.length+1) (0:Int))
def zsi(l:List Tf):Nat→(List Int)→Int→Option (List Int)
 | 0,_,_=>none
 | d1113+1,l1111,x2=>(if x2 < (l.length:Int) then ((idx l x2).bind fun v1115=>(gd (l1111.length < 1048576) (gd (zl0 .i64 (x2+1)) (zsi l d1113 (l1111++[v1115.From]) (x2+1))))) else (some l1111))
def zsj(l:List Tf):Option (List Int):=(zsi l (l.length+1) [] (0:Int))
def zsk(l:List Tf)(t:Tf):Option (Bool):=((idx l (0:Int)).bind fun v1154=>(some (decide ((t.Rates.length:Int)=(v1154.Rates.length:Int)))))
def zsl(l:List Tf)(n:Int):Option (Bool):=((idx l (0:Int)).bind fun v1163=>((zsc n (v1163.Rates.length:Int)).bind fun r1172=>(some r1172)))
def zsm(t:Tf):Option (Bool):=(if (4:Int) < (t.Weeks.length:Int) then (some true) else (if (5:Int) < (t.Counts.length:Int) then (some true) else (some (decide ((3:Int) < (t.Rates.length:Int))))))
def zsn(c:Clm)(t:Tr):Option (Bool):=((zsb c.Day t.Day).bind fun r1195=>(if r1195=true then ((zsb c.Count t.Count).bind fun r1203=>(some r1203)) else (some false)))
def zso(x:Int):Option (Bool):=(some (!(decide (x=x))))
def zsp(x:Int):Option (Bool):=(some (!(decide (x=x))))
def zsq(x:Int)(y:Int):Option (Bool):=((zso x).bind fun r1210=>(if r1210=true then ((zso y).bind fun r1216=>(if r1216=true then (some (decide (x < y))) else (some true))) else (some (decide (x < y)))))
def zsr(l:List Int)(x:Int):Nat→Int→Int→Option (Int × Bool)
 | 0,_,_=>none
 | d1224+1,x1,x2=>(if x1 < x2 then (gd (zl0 .i64 (x1+x2)) (gd ((0:Int)≤(zl5 .u64 (x1+x2))) (gd ((0:Int)≤(1:Int)) (gd ((1:Int)≤(64:Int)) (gd (zl0 .u64 ((zl5 .u64 (x1+x2)) / (2:Int))) ((idx l (zl5 .i64 ((zl5 .u64 (x1+x2)) / (2:Int)))).bind fun x1231=>((zsq x1231 x).bind fun r1233=>(if r1233=true then (gd (zl0 .i64 ((zl5 .i64 ((zl5 .u64 (x1+x2)) / (2:Int)))+(1:Int))) (zsr l x d1224 ((zl5 .i64 ((zl5 .u64 (x1+x2)) / (2:Int)))+(1:Int)) x2)) else (zsr l x d1224 x1 (zl5 .i64 ((zl5 .u64 (x1+x2)) / (2:Int)))))))))))) else (if x1 < (l.length:Int) then ((idx l x1).bind fun x1241=>(if x1241=x then (some (x1,true)) else ((idx l x1).bind fun x1244=>((zsp x1244).bind fun r1246=>(if r1246=true then ((zsp x).bind fun r1252=>(some (x1,r1252))) else (some (x1,false))))))) else (some (x1,false))))
def zss(l:List Int)(x:Int):Option (Int × Bool):=(zsr l x (l.length+1) (0:Int) (l.length:Int))
def zst(days:List Int)(day:Int):Option (Int):=(gd (zl0 .i64 (day+1)) ((zss days (day+1)).bind fun r1258=>(gd (zl0 .i64 (r1258.1 - (1:Int))) (some (r1258.1 - (1:Int))))))
def zsu(l:List Tf)(day:Int):Option (Tf):=((zsj l).bind fun r1269=>((zst r1269 day).bind fun r1278=>((idx l r1278).bind fun v1284=>(some v1284))))
def zsv(_t:Tf)(loss:Int):Option (Int):=(some loss)
def zsw(t:Tf)(loss:Int):Option (Int):=(gd (zl0 .i64 (loss - t.Least)) (some (loss - t.Least)))
def zsx(t:Tf)(h:Ht):Option (Int):=((idx t.Rates h.crop).bind fun v1320=>((zst t.Weeks h.Day).bind fun r1325=>((idx v1320 r1325).bind fun v1332=>((zss t.Counts h.Count).bind fun r1337=>(if r1337.2=true then ((idx v1332 r1337.1).bind fun x1345=>(some x1345)) else (gd (zl0 .i64 (r1337.1 - (1:Int))) ((idx t.Counts (r1337.1 - (1:Int))).bind fun x1348=>((idx t.Counts r1337.1).bind fun x1350=>(gd (zl0 .i64 (r1337.1 - (1:Int))) ((idx v1332 (r1337.1 - (1:Int))).bind fun x1353=>(gd (zl0 .i64 (x1350 - h.Count)) (gd ((0:Int)≤x1353) (gd ((0:Int)≤(x1350 - h.Count)) (gd (zl0 .i64 (x1353 * (x1350 - h.Count))) ((idx v1332 r1337.1).bind fun x1359=>(gd (zl0 .i64 (h.Count - x1348)) (gd ((0:Int)≤x1359) (gd ((0:Int)≤(h.Count - x1348)) (gd (zl0 .i64 (x1359 * (h.Count - x1348))) (gd (zl0 .i64 ((x1353 * (x1350 - h.Count))+(x1359 * (h.Count - x1348)))) (gd (zl0 .i64 (x1350 - x1348)) (gd ((0:Int)≤((x1353 * (x1350 - h.Count))+(x1359 * (h.Count - x1348)))) (gd ((0:Int) < (x1350 - x1348)) (gd (zl0 .i64 (((x1353 * (x1350 - h.Count))+(x1359 * (h.Count - x1348))) / (x1350 - x1348))) (some (((x1353 * (x1350 - h.Count))+(x1359 * (h.Count - x1348))) / (x1350 - x1348)))))))))))))))))))))))))))
def zsy(l:List Int):Nat→Int→Int→Option (Int)
 | 0,_,_=>none
 | d1375+1,x3,x4=>(if x4 < (l.length:Int) then ((idx l x4).bind fun x1377=>(if x1377 < x3 then (gd (zl0 .i64 (x4+1)) (zsy l d1375 x1377 (x4+1))) else (gd (zl0 .i64 (x4+1)) (zsy l d1375 x3 (x4+1))))) else (some x3))
def zsz(l:List Int):Option (Int):=(if (l.length:Int)=(0:Int) then (some (0:Int)) else ((idx l (0:Int)).bind fun x1371=>(zsy l (l.length+1) x1371 (0:Int))))
def zsA(l:List Int):Nat→Int→Int→Option (Int)
 | 0,_,_=>none
 | d1387+1,x3,x4=>(if x4 < (l.length:Int) then ((idx l x4).bind fun x1389=>(gd (zl0 .i64 (x4+1)) (zsA l d1387 (max x3 x1389) (x4+1)))) else (some x3))
def zsB(l:List Int):Option (Int):=(if (l.length:Int) < (1:Int) then none else ((idx l (0:Int)).bind fun x1383=>(zsA l (((l.length:Int) - (1:Int)).toNat+1) x1383 (1:Int))))
def zsC(x:Tf)(passes:Tf→Option (Bool)):Option (Bool):=((passes x).bind fun r1397=>(some (!r1397)))
def zsD(l:List Tf)(p:Tf→Option (Bool)):Nat→Int→Option (Int)
 | 0,_=>none
 | d1405+1,x2=>(if x2 < (l.length:Int) then ((idx l x2).bind fun v1407=>((p v1407).bind fun r1416=>(if r1416=true then (some x2) else (gd (zl0 .i64 (x2+1)) (zsD l p d1405 (x2+1)))))) else (some (-1:Int)))
def zsE(l:List Tf)(p:Tf→Option (Bool)):Option (Int):=(zsD l p (l.length+1) (0:Int))
def zsF(l:List Tf)(p:Tf→Option (Bool)):Option (Bool):=((zsE l p).bind fun r1423=>(some (decide ((0:Int)≤r1423))))
def zsG(l:List Tf)(passes:Tf→Option (Bool)):Option (Bool):=((zsF l (fun a1437=>zsC a1437 passes)).bind fun r1445=>(some (!r1445)))
def zsH(l:List Tf)(p:Tf→Option (Bool)):Nat→Int→Option (Int)
 | 0,_=>none
 | d1452+1,x2=>(if x2 < (l.length:Int) then ((idx l x2).bind fun v1454=>((p v1454).bind fun r1463=>(if r1463=true then (some x2) else (gd (zl0 .i64 (x2+1)) (zsH l p d1452 (x2+1)))))) else (some (-1:Int)))
def zsI(l:List Tf)(p:Tf→Option (Bool)):Option (Int):=(zsH l p (l.length+1) (0:Int))
def zsJ(l:List Tf)(p:Tf→Option (Bool)):Option (Bool):=((zsI l p).bind fun r1470=>(some (decide ((0:Int)≤r1470))))
def zsK(x:Clm)(passes:Clm→Option (Bool)):Option (Bool):=((passes x).bind fun r1480=>(some (!r1480)))
def zsL(l:List Clm)(p:Clm→Option (Bool)):Nat→Int→Option (Int)
 | 0,_=>none
 | d1488+1,x2=>(if x2 < (l.length:Int) then ((idx l x2).bind fun v1490=>((p v1490).bind fun r1493=>(if r1493=true then (some x2) else (gd (zl0 .i64 (x2+1)) (zsL l p d1488 (x2+1)))))) else (some (-1:Int)))
def zsM(l:List Clm)(p:Clm→Option (Bool)):Option (Int):=(zsL l p (l.length+1) (0:Int))
def zsN(l:List Clm)(p:Clm→Option (Bool)):Option (Bool):=((zsM l p).bind fun r1500=>(some (decide ((0:Int)≤r1500))))
def zsO(l:List Clm)(passes:Clm→Option (Bool)):Option (Bool):=((zsN l (fun a1514=>zsK a1514 passes)).bind fun r1516=>(some (!r1516)))
def zsP(x:Int)(passes:Int→Option (Bool)):Option (Bool):=((passes x).bind fun r1521=>(some (!r1521)))
def zsQ(l:List Int)(p:Int→Option (Bool)):Nat→Int→Option (Int)
 | 0,_=>none
 | d1528+1,x2=>(if x2 < (l.length:Int) then ((idx l x2).bind fun x1530=>((p x1530).bind fun r1532=>(if r1532=true then (some x2) else (gd (zl0 .i64 (x2+1)) (zsQ l p d1528 (x2+1)))))) else (some (-1:Int)))
def zsR(l:List Int)(p:Int→Option (Bool)):Option (Int):=(zsQ l p (l.length+1) (0:Int))
def zsS(l:List Int)(p:Int→Option (Bool)):Option (Bool):=((zsR l p).bind fun r1539=>(some (decide ((0:Int)≤r1539))))
def zsT(l:List Int)(passes:Int→Option (Bool)):Option (Bool):=((zsS l (fun a1553=>zsP a1553 passes)).bind fun r1555=>(some (!r1555)))
def zsU(x:List Int)(passes:List Int→Option (Bool)):Option (Bool):=((passes x).bind fun r1560=>(some (!r1560)))
def zsV(l:List (List Int))(p:List Int→Option (Bool)):Nat→Int→Option (Int)
 | 0,_=>none
 | d1567+1,x2=>(if x2 < (l.length:Int) then ((idx l x2).bind fun v1569=>((p v1569).bind fun r1574=>(if r1574=true then (some x2) else (gd (zl0 .i64 (x2+1)) (zsV l p d1567 (x2+1)))))) else (some (-1:Int)))
def zsW(l:List (List Int))(p:List Int→Option (Bool)):Option (Int):=(zsV l p (l.length+1) (0:Int))
def zsX(l:List (List Int))(p:List Int→Option (Bool)):Option (Bool):=((zsW l p).bind fun r1581=>(some (decide ((0:Int)≤r1581))))
def zsY(l:List (List Int))(passes:List Int→Option (Bool)):Option (Bool):=((zsX l (fun a1595=>zsU a1595 passes)).bind fun r1599=>(some (!r1599)))
def zsZ(x:List (List Int))(passes:List (List Int)→Option (Bool)):Option (Bool):=((passes x).bind fun r1604=>(some (!r1604)))
def zs0(l:List (List (List Int)))(p:List (List Int)→Option (Bool)):Nat→Int→Option (Int)
 | 0,_=>none
 | d1611+1,x2=>(if x2 < (l.length:Int) then ((idx l x2).bind fun v1613=>((p v1613).bind fun r1618=>(if r1618=true then (some x2) else (gd (zl0 .i64 (x2+1)) (zs0 l p d1611 (x2+1)))))) else (some (-1:Int)))
def zs1(l:List (List (List Int)))(p:List (List Int)→Option (Bool)):Option (Int):=(zs0 l p (l.length+1) (0:Int))
def zs2(l:List (List (List Int)))(p:List (List Int)→Option (Bool)):Option (Bool):=((zs1 l p).bind fun r1625=>(some (decide ((0:Int)≤r1625))))
def zs3(l:List (List (List Int)))(passes:List (List Int)→Option (Bool)):Option (Bool):=((zs2 l (fun a1639=>zsZ a1639 passes)).bind fun r1643=>(some (!r1643)))
def zs4(r:Rg)(passes:Int→Option (Bool)):Option (Bool):=(if r.Lo≤r.Hi then ((passes r.Lo).bind fun r1654=>(if r1654=true then ((passes r.Hi).bind fun r1661=>(some r1661)) else (some false))) else (some false))
def zs5(t:Tf)(rates:List Int):Option (Bool):=(if (rates.length:Int)=(t.Counts.length:Int) then ((zsT rates (fun a1673=>zsf a1673)).bind fun r1675=>(some r1675)) else (some false))
def zs6(t:Tf)(weeks:List (List Int)):Option (Bool):=(if (weeks.length:Int)=(t.Weeks.length:Int) then ((zsY weeks (fun a1687=>zs5 t a1687)).bind fun r1691=>(some r1691)) else (some false))
def zs7(t:Tf):Option (Bool):=((zsd t.From).bind fun r1702=>(if r1702=true then ((zsf t.Least).bind fun r1709=>(if r1709=true then ((zsh t.Weeks).bind fun r1716=>(if r1716=true then ((zsT t.Weeks (fun a1723=>zsd a1723)).bind fun r1725=>(if r1725=true then ((zsh t.Counts).bind fun r1732=>(if r1732=true then (gd (zl0 .i64 ((t.Counts.length:Int) - (1:Int))) ((idx t.Counts ((t.Counts.length:Int) - (1:Int))).bind fun x1740=>(if x1740=100 then (if (0:Int) < (t.Rates.length:Int) then ((zs3 t.Rates (fun a1744=>zs6 t a1744)).bind fun r1748=>(some r1748)) else (some false)) else (some false)))) else (some false))) else (some false))) else (some false))) else (some false))) else (some false)))
def zs8(l:List Tf):Option (Bool):=(if (3:Int) < (l.length:Int) then (some true) else ((zsJ l (fun a1755=>zsm a1755)).bind fun r1763=>(some r1763)))
def zs9(l:List Tf):Option (Bool):=((zsG l (fun a1768=>zs7 a1768)).bind fun r1776=>(if r1776=true then ((zsj l).bind fun r1782=>((zsh r1782).bind fun r1790=>(if r1790=true then ((zsG l (fun a1796=>zsk l a1796)).bind fun r1804=>(some r1804)) else (some false)))) else (some false)))
def zta(l:List Tf)(c:Clm):Option (Bool):=((zsl l c.Crop).bind fun r1814=>(if r1814=true then ((zsb ({ Lo:=(0:Int),Hi:=(100000:Int) }:Rg) c.Value).bind fun r1821=>(if r1821=true then ((zs4 c.Day (fun a1828=>zsd a1828)).bind fun r1830=>(if r1830=true then (gd (zl0 .i64 (c.Day.Hi - c.Day.Lo)) (if (c.Day.Hi - c.Day.Lo)≤(10:Int) then ((zs4 c.Count (fun a1839=>zse a1839)).bind fun r1841=>(some r1841)) else (some false))) else (some false))) else (some false))) else (some false)))
def ztb(l:List Tf):Option (Int):=((zs8 l).bind fun r1847=>(if r1847=true then (some (3:Int)) else ((zs9 l).bind fun r1853=>(if r1853=true then (some (0:Int)) else (some (1:Int))))))
def ztc(t:Tf):Option (Mnr):=(if t.Whole=true then (some ({ paid:=(fun a1877 a1878=>zsv a1877 a1878) }:Mnr)) else (some ({ paid:=(fun a1892 a1893=>zsw a1892 a1893) }:Mnr)))
def ztd(t:Tf)(h:Ht):Option (Int):=((zsx t h).bind fun r1912=>(if r1912 < t.Least then (some (0:Int)) else ((ztc t).bind fun r1920=>((r1920.paid t r1912).bind fun r1930=>(some r1930)))))
def zte(l:List Tf):Option (Wk × Int):=((ztb l).bind fun r1942=>(if r1942=0 then (some (({ tariffs:=l,parts:=(some fun _=>none:Option (Ht→Option (Int))) }:Wk),(0:Int))) else (some (({ tariffs:=[],parts:=none }:Wk),r1942))))
def ztf(l:List Tf)(claims:List Clm):Option (Wk × Int):=((zte l).bind fun r1971=>(if r1971.2=(0:Int) then (if (5:Int) < (claims.length:Int) then (some (({ tariffs:=[],parts:=none }:Wk),(3:Int))) else ((zsO claims (fun a2014=>zta r1971.1.tariffs a2014)).bind fun r2016=>(if r2016=true then (some (r1971.1,(0:Int))) else (some (({ tariffs:=[],parts:=none }:Wk),(2:Int)))))) else (some (({ tariffs:=[],parts:=none }:Wk),r1971.2))))
def ztg(w:Wk)(h:Ht):Option (Int × Option (Ht→Option (Int))):=(gd (MK.fit h) (zqJ (zqA w.parts h) ((zsu w.tariffs h.Day).bind fun r2055=>((ztd r2055 h).bind fun r2070=>(gd (MK.fit h) ((zqB w.parts h r2070).bind fun w2079=>(some (r2070,w2079)))))) fun w2054=>(some (w2054,w.parts))))
def zth(w:Wk)(c:Clm)(t:Tr):Option (Int × Option (Ht→Option (Int))):=((ztg w ({ Day:=t.Day,Count:=t.Count,crop:=c.Crop }:Ht)).bind fun r2109=>(gd ((0:Int)≤c.Value) (gd ((0:Int)≤r2109.1) (gd (zl0 .i64 (c.Value * r2109.1)) (gd ((0:Int)≤(c.Value * r2109.1)) (gd ((0:Int) < (100:Int)) (gd (zl0 .i64 ((c.Value * r2109.1) / (100:Int))) (some (((c.Value * r2109.1) / (100:Int)),r2109.2)))))))))
def zti(c:Clm)(x2:Int)(K_R1:Int→Option (List Tr)):Nat→Int→Option (List Tr)
 | 0,_=>none
 | d2137+1,x7=>(if x7≤c.Count.Hi then (((gd (zl0 .i64 (x7+1)) (zti c x2 K_R1 d2137 (x7+1)))).bind fun r2139=>some (({ Day:=x2,Count:=x7 }:Tr)::r2139)) else (gd (zl0 .i64 (x2+1)) (K_R1 (x2+1))))
def ztj(c:Clm):Nat→Int→Option (List Tr)
 | 0,_=>none
 | d2130+1,x2=>(if x2≤c.Day.Hi then (zti c x2 (ztj c d2130) 1000000 c.Count.Lo) else (some []))
def ztk(c:Clm):Option (List Tr):=(ztj c 1000000 c.Day.Lo)
def ztl(c:Clm):Option (List Tr):=((ztk c).bind fun l2163=>(some l2163))
def ztm(w:Wk)(c:Clm):List Tr→(List Int)→(Option (Ht→Option (Int)))→Option (Rg × Option (Ht→Option (Int)))
 | [],y2212,w2216=>((zsz y2212).bind fun r2318=>((zsB y2212).bind fun r2329=>(some (({ Lo:=r2318,Hi:=r2329 }:Rg),w2216))))
 | a2218::q2219,y2212,w2216=>((zth ({ tariffs:=w.tariffs,parts:=w2216 }:Wk) c a2218).bind fun r2265=>(gd (y2212.length < 1048576) ((ztm w c q2219) (y2212++[r2265.1]) r2265.2)))
def ztn(w:Wk)(c:Clm):Option (Rg × Option (Ht→Option (Int))):=((ztl c).bind fun r2196=>(ztm w c r2196 [] w.parts))
def zto(l:List Tf)(c:Clm):Option (Rg × Int):=((ztf l ([c]:List Clm)).bind fun r2375=>(if r2375.2=(0:Int) then ((ztn r2375.1 c).bind fun r2414=>(some (r2414.1,(0:Int)))) else (some (({ Lo:=(0:Int),Hi:=(0:Int) }:Rg),r2375.2))))
def ztp(l:List Tf)(c:Clm)(t:Tr):Option (Int × Int):=((ztf l ([c]:List Clm)).bind fun r2457=>(if r2457.2=(0:Int) then ((zsn c t).bind fun r2488=>(if r2488=true then ((zth r2457.1 c t).bind fun r2498=>(some (r2498.1,(0:Int)))) else (some ((0:Int),(2:Int))))) else (some ((0:Int),r2457.2))))
def ztq(r:Rg)(n:Int):Option (Bool):=(if r.Lo≤n then (some (decide (n≤r.Hi))) else (some false))
def ztr(n:Int):Option (Bool):=((ztq ({ Lo:=(0:Int),Hi:=(100:Int) }:Rg) n).bind fun r2514=>(some r2514))
def zts(r:Rg):Option (Bool):=((ztr r.Lo).bind fun r2524=>(if r2524=true then ((ztr r.Hi).bind fun r2531=>(if r2531=true then (if r.Lo≤r.Hi then (gd (zl0 .i64 (r.Hi - r.Lo)) (some (decide ((r.Hi - r.Lo)≤(4:Int))))) else (some false)) else (some false))) else (some false)))
def ztt(x:Rg)(passes:Rg→Option (Bool)):Option (Bool):=((passes x).bind fun r2545=>(some (!r2545)))
def ztu(l:List Rg)(p:Rg→Option (Bool)):Nat→Int→Option (Int)
 | 0,_=>none
 | d2553+1,x2=>(if x2 < (l.length:Int) then ((idx l x2).bind fun v2555=>((p v2555).bind fun r2558=>(if r2558=true then (some x2) else (gd (zl0 .i64 (x2+1)) (ztu l p d2553 (x2+1)))))) else (some (-1:Int)))
def ztv(l:List Rg)(p:Rg→Option (Bool)):Option (Int):=(ztu l p (l.length+1) (0:Int))
def ztw(l:List Rg)(p:Rg→Option (Bool)):Option (Bool):=((ztv l p).bind fun r2565=>(some (decide ((0:Int)≤r2565))))
def ztx(l:List Rg)(passes:Rg→Option (Bool)):Option (Bool):=((ztw l (fun a2579=>ztt a2579 passes)).bind fun r2581=>(some (!r2581)))
def zty(x:Fld)(passes:Fld→Option (Bool)):Option (Bool):=((passes x).bind fun r2591=>(some (!r2591)))
def ztz(l:List Fld)(p:Fld→Option (Bool)):Nat→Int→Option (Int)
 | 0,_=>none
 | d2599+1,x2=>(if x2 < (l.length:Int) then ((idx l x2).bind fun v2601=>((p v2601).bind fun r2604=>(if r2604=true then (some x2) else (gd (zl0 .i64 (x2+1)) (ztz l p d2599 (x2+1)))))) else (some (-1:Int)))
def ztA(l:List Fld)(p:Fld→Option (Bool)):Option (Int):=(ztz l p (l.length+1) (0:Int))
def ztB(l:List Fld)(p:Fld→Option (Bool)):Option (Bool):=((ztA l p).bind fun r2611=>(some (decide ((0:Int)≤r2611))))
def ztC(l:List Fld)(passes:Fld→Option (Bool)):Option (Bool):=((ztB l (fun a2625=>zty a2625 passes)).bind fun r2627=>(some (!r2627)))
def ztD(f_:Fld)(t:Thr):Option (Bool):=((ztq f_.First t.First).bind fun r2643=>(if r2643=true then ((ztq f_.Second t.Second).bind fun r2651=>(if r2651=true then ((ztq f_.Umpire t.Umpire).bind fun r2659=>(some r2659)) else (some false))) else (some false)))
def ztE(a:Int)(b:Int):Option (Int):=(gd (zl0 .i64 ((max a b) - (min a b))) (some ((max a b) - (min a b))))
def ztF(f_:Fld)(t:Thr):Option (Bool):=((ztE t.First t.Second).bind fun r2678=>(some (decide (f_.Near < r2678))))
def ztG(f_:Fld)(t:Thr):Option (Int):=((ztF f_ t).bind fun r2696=>(if r2696=true then (some (min (max t.Umpire (min t.First t.Second)) (max t.First t.Second))) else (gd (zl0 .i64 (t.First+t.Second)) (gd ((0:Int)≤(t.First+t.Second)) (gd ((0:Int) < (2:Int)) (gd (zl0 .i64 ((t.First+t.Second) / (2:Int))) (some ((t.First+t.Second) / (2:Int)))))))))
def ztH(f_:Fld)(t:Thr):Option (Int):=((ztG f_ t).bind fun r2719=>((ztE t.First r2719).bind fun r2726=>((ztE t.Second r2719).bind fun r2733=>((ztF f_ t).bind fun r2740=>(if r2740=true then (if r2733 < r2726 then (some (2:Int)) else (if r2726 < r2733 then (some (3:Int)) else (some (1:Int)))) else (some (0:Int)))))))
def ztI(f_:Fld)(x2:Int)(x7:Int)(K_R6:Int→Option (List Thr)):Nat→Int→Option (List Thr)
 | 0,_=>none
 | d2769+1,x12=>(if x12≤f_.Umpire.Hi then (((gd (zl0 .i64 (x12+1)) (ztI f_ x2 x7 K_R6 d2769 (x12+1)))).bind fun r2771=>some (({ First:=x2,Second:=x7,Umpire:=x12 }:Thr)::r2771)) else (gd (zl0 .i64 (x7+1)) (K_R6 (x7+1))))
def ztJ(f_:Fld)(x2:Int)(K_R1:Int→Option (List Thr)):Nat→Int→Option (List Thr)
 | 0,_=>none
 | d2762+1,x7=>(if x7≤f_.Second.Hi then (ztI f_ x2 x7 (ztJ f_ x2 K_R1 d2762) 1000000 f_.Umpire.Lo) else (gd (zl0 .i64 (x2+1)) (K_R1 (x2+1))))
def ztK(f_:Fld):Nat→Int→Option (List Thr)
 | 0,_=>none
 | d2755+1,x2=>(if x2≤f_.First.Hi then (ztJ f_ x2 (ztK f_ d2755) 1000000 f_.Second.Lo) else (some []))
def ztL(f_:Fld):Option (List Thr):=(ztK f_ 1000000 f_.First.Lo)
def ztM(f_:Fld):Option (List Thr):=((ztL f_).bind fun l2796=>(some l2796))
def ztN(c:List Bool):Nat→(List Int)→Int→Option (List Int)
 | 0,_,_=>none
 | d2808+1,l2806,x3=>(if x3 < 101 then (gd (0≤x3∧x3 < 101) ((idx c x3).bind fun v2811=>(if v2811=true then (gd (l2806.length < 1048576) (gd (zl0 .i64 (x3+1)) (ztN c d2808 (l2806++[x3]) (x3+1)))) else (gd (zl0 .i64 (x3+1)) (ztN c d2808 l2806 (x3+1)))))) else (some l2806))
def ztO(c:List Bool):Option (List Int):=(ztN c (Int.toNat (101:Int)+1) [] (0:Int))
def ztP(f_:Fld):List Thr→(List Bool)→Option (List Bool)
 | [],y2862=>(some y2862)
 | a2864::q2865,y2862=>((ztG f_ a2864).bind fun r2905=>(gd (0≤r2905∧r2905 < 101) (gd (y2862.length=101) ((ztP f_ q2865) (y2862.set (Int.toNat r2905) true)))))
def ztQ(f_:Fld):Option (List Bool):=((ztM f_).bind fun r2849=>(ztP f_ r2849 (List.replicate 101 false)))
def ztR(f_:Fld):List Thr→Bool→Bool→Option (Int)
 | [],y2982,y2984=>(if y2984=true then (if y2982=true then (some (3:Int)) else (some (2:Int))) else (some (1:Int)))
 | a2986::q2987,y2982,y2984=>((ztF f_ a2986).bind fun r3027=>(if y2982=true then (if y2984=true then ((ztR f_ q2987) true true) else ((ztR f_ q2987) true (!r3027))) else (if y2984=true then ((ztR f_ q2987) r3027 true) else ((ztR f_ q2987) r3027 (!r3027)))))
def ztS(f_:Fld):Option (Int):=((ztM f_).bind fun r2970=>(ztR f_ r2970 false false))
def ztT(c:Cse)(f_:Fld)(count:Int):Option (Clm):=(some ({ Crop:=f_.Crop,Value:=f_.Value,Day:=({ Lo:=c.Day,Hi:=c.Day }:Rg),Count:=({ Lo:=count,Hi:=count }:Rg) }:Clm))
def ztU(c:Cse)(f_:Fld):Option (Bool):=((ztT c f_ (0:Int)).bind fun r3162=>((zto c.Tariffs r3162).bind fun r3170=>(some (decide (r3170.2=(0:Int))))))
def ztV(c:Cse)(f_:Fld):Option (Bool):=((ztU c f_).bind fun r3209=>(if r3209=true then ((ztr f_.Near).bind fun r3218=>(if r3218=true then ((ztx ([f_.First,f_.Second,f_.Umpire]:List Rg) (fun a3234=>zts a3234)).bind fun r3236=>(some r3236)) else (some false))) else (some false)))
def ztW(c:Cse):Option (Bool):=((ztq ({ Lo:=(0:Int),Hi:=(120:Int) }:Rg) c.Day).bind fun r3248=>(if r3248=true then ((ztq ({ Lo:=(0:Int),Hi:=(10000:Int) }:Rg) c.Fee).bind fun r3255=>(if r3255=true then ((ztC c.Fields (fun a3262=>ztV c a3262)).bind fun r3264=>(some r3264)) else (some false))) else (some false)))
def ztX(c:Cse)(n:Int):Option (Bool):=(gd (zl0 .i64 ((c.Fields.length:Int) - (1:Int))) ((ztq ({ Lo:=(0:Int),Hi:=((c.Fields.length:Int) - (1:Int)) }:Rg) n).bind fun r3276=>(some r3276)))
def ztY(c:Cse)(t:List Thr):Nat→Int→Option (Bool)
 | 0,_=>none
 | d3290+1,x5=>(if x5 < (c.Fields.length:Int) then ((idx c.Fields x5).bind fun v3292=>((idx t x5).bind fun v3307=>((ztD v3292 v3307).bind fun r3310=>(if r3310=true then (gd (zl0 .i64 (x5+1)) (ztY c t d3290 (x5+1))) else (some false))))) else (some true))
def ztZ(c:Cse)(t:List Thr):Option (Bool):=(if (t.length:Int)=(c.Fields.length:Int) then (ztY c t (c.Fields.length+1) (0:Int)) else (some false))
def zt0(c:Cse):Option (Int):=((ztb c.Tariffs).bind fun r3324=>(if r3324=0 then (if (3:Int) < (c.Fields.length:Int) then (some (3:Int)) else ((ztW c).bind fun r3332=>(if r3332=true then (some (0:Int)) else (some (1:Int))))) else (some r3324)))
def zt1(c:Cse):Option (UWk × Int):=((zt0 c).bind fun r3350=>(if r3350=0 then (some (({ c:=c,payments:=(some fun _=>none:Option (Clm→Option (Int))) }:UWk),(0:Int))) else (some (({ c:=({ Tariffs:=[],Day:=(0:Int),Fee:=(0:Int),Fields:=[] }:Cse),payments:=none }:UWk),r3350))))
def zt2(c:Cse)(field:Int):Option (Fld × Int):=((zt0 c).bind fun r3389=>(if r3389=0 then ((ztX c field).bind fun r3403=>(if r3403=true then ((idx c.Fields field).bind fun v3417=>(some (v3417,(0:Int)))) else (some (({ Crop:=(0:Int),Value:=(0:Int),Near:=(0:Int),First:=({ Lo:=(0:Int),Hi:=(0:Int) }:Rg),Second:=({ Lo:=(0:Int),Hi:=(0:Int) }:Rg),Umpire:=({ Lo:=(0:Int),Hi:=(0:Int) }:Rg) }:Fld),(2:Int))))) else (some (({ Crop:=(0:Int),Value:=(0:Int),Near:=(0:Int),First:=({ Lo:=(0:Int),Hi:=(0:Int) }:Rg),Second:=({ Lo:=(0:Int),Hi:=(0:Int) }:Rg),Umpire:=({ Lo:=(0:Int),Hi:=(0:Int) }:Rg) }:Fld),r3389))))
def zt3(v:Ver)(o:Oc):Option (Ver):=(gd (zl0 .i64 (v.pence+o.pence)) ((idx ([v.fields.f0,v.fields.f1,v.fields.f2,v.fields.f3]:List Int) o.loser).bind fun v3453=>(gd (zl0 .i64 (v3453+1)) (gd (0≤o.loser∧o.loser < (4:Int)) (some ({ fee:=v.fee,pence:=(v.pence+o.pence),fields:=({ f0:=(sti o.loser 0 (v3453+1) v.fields.f0),f1:=(sti o.loser 1 (v3453+1) v.fields.f1),f2:=(sti o.loser 2 (v3453+1) v.fields.f2),f3:=(sti o.loser 3 (v3453+1) v.fields.f3) }:Sd4) }:Ver))))))
def zt4(v:Ver):Option (Bool):=((idx ([v.fields.f0,v.fields.f1,v.fields.f2,v.fields.f3]:List Int) (1:Int)).bind fun v3476=>((idx ([v.fields.f0,v.fields.f1,v.fields.f2,v.fields.f3]:List Int) (2:Int)).bind fun v3478=>(gd (zl0 .i64 (v3476+v3478)) ((idx ([v.fields.f0,v.fields.f1,v.fields.f2,v.fields.f3]:List Int) (3:Int)).bind fun v3481=>(gd (zl0 .i64 ((v3476+v3478)+v3481)) (some (decide ((0:Int) < ((v3476+v3478)+v3481)))))))))
def zt5(v:Ver):Option (Int):=(some v.pence)
def zt6(v:Ver):Option (Int):=((idx ([v.fields.f0,v.fields.f1,v.fields.f2,v.fields.f3]:List Int) (2:Int)).bind fun v3494=>((idx ([v.fields.f0,v.fields.f1,v.fields.f2,v.fields.f3]:List Int) (3:Int)).bind fun v3496=>((zt4 v).bind fun r3497=>(if r3497=true then (if v3494 < v3496 then (some (0:Int)) else (if v3496 < v3494 then (some v.fee) else (gd ((0:Int)≤v.fee) (gd ((0:Int) < (2:Int)) (gd (zl0 .i64 (v.fee / (2:Int))) (gd (zl0 .i64 (v.fee - (v.fee / (2:Int)))) (some (v.fee - (v.fee / (2:Int)))))))))) else (some (0:Int))))))
def zt7(v:Ver):Option (Int):=((zt4 v).bind fun r3515=>(if r3515=true then ((zt6 v).bind fun r3522=>(gd (zl0 .i64 (v.fee - r3522)) (some (v.fee - r3522)))) else (some (0:Int))))
def zt8(v:Ver):Option (Int):=((zt5 v).bind fun r3534=>((zt6 v).bind fun r3540=>(gd (zl0 .i64 (r3534 - r3540)) (some (r3534 - r3540)))))
def zt9(v:Ver):Option (Int):=((zt5 v).bind fun r3552=>((zt7 v).bind fun r3558=>(gd (zl0 .i64 (r3552+r3558)) (some (r3552+r3558)))))
def zua(w:UWk)(f_:Fld)(count:Int):Option (Int × Option (Clm→Option (Int))):=((ztT w.c f_ count).bind fun r3578=>(gd (MK.fit r3578) (zqJ (zqA w.payments r3578) ((ztp w.c.Tariffs r3578 ({ Day:=w.c.Day,Count:=count }:Tr)).bind fun r3605=>(gd (MK.fit r3578) ((zqB w.payments r3578 r3605.1).bind fun w3615=>(some (r3605.1,w3615))))) fun w3604=>(some (w3604,w.payments)))))
def zub(w:UWk)(f_:Fld)(t:Thr):Option (Oc × Option (Clm→Option (Int))):=((ztG f_ t).bind fun r3655=>((zua w f_ r3655).bind fun r3665=>((ztH f_ t).bind fun r3676=>(some (({ pence:=r3665.1,loser:=r3676 }:Oc),r3665.2)))))
def zuc(w:UWk)(f_:Fld):List Thr→(Option (Clm→Option (Int)))→(Option (Oc→Option (Bool)))→Option (Option (Oc→Option (Bool)) × Option (Clm→Option (Int)))
 | [],w3750,w3752=>(some (w3752,w3750))
 | a3754::q3755,w3750,w3752=>((zub ({ c:=w.c,payments:=w3750 }:UWk) f_ a3754).bind fun r3801=>(gd (MK.fit r3801.1) ((zqB w3752 r3801.1 true).bind fun w3815=>((zuc w f_ q3755) r3801.2 w3815))))
def zud(w:UWk)(f_:Fld):Option (Option (Oc→Option (Bool)) × Option (Clm→Option (Int))):=((ztM f_).bind fun r3734=>(zuc w f_ r3734 w.payments (some fun _=>none:Option (Oc→Option (Bool)))))
def zue(w:UWk)(t:List Thr):Nat→(List Int)→Int→Int→Int→Int→Int→Int→Int→Int→Int→(Option (Clm→Option (Int)))→Int→Option (Res × Option (Clm→Option (Int)))
 | 0,_,_,_,_,_,_,_,_,_,_,_,_=>none
 | d3886+1,y3873,y3876,y3877,y3878,y3879,y3880,y3881,y3882,y3883,y3884,w3885,x8=>(if x8 < (w.c.Fields.length:Int) then ((idx w.c.Fields x8).bind fun v3888=>((idx t x8).bind fun v3911=>((ztG v3888 v3911).bind fun r3914=>(gd (y3873.length < 1048576) ((idx t x8).bind fun v3950=>((zub ({ c:=w.c,payments:=w3885 }:UWk) v3888 v3950).bind fun r3953=>((zt3 ({ fee:=y3879,pence:=y3880,fields:=({ f0:=y3881,f1:=y3882,f2:=y3883,f3:=y3884 }:Sd4) }:Ver) r3953.1).bind fun r3965=>(gd (zl0 .i64 (x8+1)) (zue w t d3886 (y3873++[r3914]) y3876 y3877 y3878 r3965.fee r3965.pence r3965.fields.f0 r3965.fields.f1 r3965.fields.f2 r3965.fields.f3 r3953.2 (x8+1)))))))))) else ((zt5 ({ fee:=y3879,pence:=y3880,fields:=({ f0:=y3881,f1:=y3882,f2:=y3883,f3:=y3884 }:Sd4) }:Ver)).bind fun r3987=>((zt6 ({ fee:=y3879,pence:=y3880,fields:=({ f0:=y3881,f1:=y3882,f2:=y3883,f3:=y3884 }:Sd4) }:Ver)).bind fun r3997=>((zt7 ({ fee:=y3879,pence:=y3880,fields:=({ f0:=y3881,f1:=y3882,f2:=y3883,f3:=y3884 }:Sd4) }:Ver)).bind fun r4007=>(some (({ Counts:=y3873,Award:=r3987,Farmer:=r3997,Society:=r4007 }:Res),w3885))))))
def zuf(w:UWk)(t:List Thr):Option (Res × Option (Clm→Option (Int))):=(zue w t (w.c.Fields.length+1) [] (0:Int) (0:Int) (0:Int) w.c.Fee (0:Int) (0:Int) (0:Int) (0:Int) (0:Int) w.payments (0:Int))
def zug(w:UWk)(f_:Fld)(pence:Int)(r4092:List Int):Nat→(List Bool)→(Option (Clm→Option (Int)))→Int→Option (List Bool × Option (Clm→Option (Int)))
 | 0,_,_,_=>none
 | d4109+1,y4107,w4108,x9=>(if x9 < (r4092.length:Int) then ((idx r4092 x9).bind fun x4111=>((zua ({ c:=w.c,payments:=w4108 }:UWk) f_ x4111).bind fun r4113=>(gd (0≤x4111∧x4111 < 101) (gd (y4107.length=101) (gd (zl0 .i64 (x9+1)) (zug w f_ pence r4092 d4109 (y4107.set (Int.toNat x4111) (decide (r4113.1=pence))) r4113.2 (x9+1))))))) else (some (y4107,w4108)))
def zuh(w:UWk)(f_:Fld)(could:List Bool)(pence:Int):Option (List Bool × Option (Clm→Option (Int))):=((ztO could).bind fun r4092=>(zug w f_ pence r4092 (r4092.length+1) could w.payments (0:Int)))
def zui(w:UWk)(f_:Fld)(t:Thr):Option (Bool × Option (Clm→Option (Int))):=((ztG f_ t).bind fun r4167=>((zua w f_ r4167).bind fun r4176=>((ztQ ({ Crop:=f_.Crop,Value:=f_.Value,Near:=f_.Near,First:=({ Lo:=t.First,Hi:=t.First }:Rg),Second:=({ Lo:=t.Second,Hi:=t.Second }:Rg),Umpire:=f_.Umpire }:Fld)).bind fun r4202=>((zuh ({ c:=w.c,payments:=r4176.2 }:UWk) ({ Crop:=f_.Crop,Value:=f_.Value,Near:=f_.Near,First:=({ Lo:=t.First,Hi:=t.First }:Rg),Second:=({ Lo:=t.Second,Hi:=t.Second }:Rg),Umpire:=f_.Umpire }:Fld) r4202 r4176.1).bind fun r4229=>(gd (r4229.1.length=101∧r4202.length=101) (some ((!(decide (r4229.1=r4202))),r4229.2)))))))
def zuj(x4:Int)(K_R3:(List Int)→(Option (Clm→Option (Int)))→Int→Option (List Int × Option (Clm→Option (Int))))(y4315:List Int)(w4321:Option (Clm→Option (Int))):Option (List Int × Option (Clm→Option (Int))):=(gd (zl0 .i64 (x4+1)) (K_R3 y4315 w4321 (x4+1)))
def zuk(w:UWk)(x4:Int)(v4263:Fld)(K_R3:(List Int)→(Option (Clm→Option (Int)))→Int→Option (List Int × Option (Clm→Option (Int)))):List Thr→(List Int)→(Option (Clm→Option (Int)))→Option (List Int × Option (Clm→Option (Int)))
 | [],y4315,w4321=>(gd (zl0 .i64 (x4+1)) (K_R3 y4315 w4321 (x4+1)))
 | a4328::q4329,y4315,w4321=>((zui ({ c:=w.c,payments:=w4321 }:UWk) v4263 a4328).bind fun r4375=>(if r4375.1=true then (gd (y4315.length < 1048576) ((zuj x4 (K_R3)) (y4315++[x4]) r4375.2)) else ((zuk w x4 v4263 K_R3 q4329) y4315 r4375.2)))
def zul(w:UWk):Nat→(List Int)→(Option (Clm→Option (Int)))→Int→Option (List Int × Option (Clm→Option (Int)))
 | 0,_,_,_=>none
 | d4261+1,y4257,w4260,x4=>(if x4 < (w.c.Fields.length:Int) then ((idx w.c.Fields x4).bind fun v4263=>((ztM v4263).bind fun r4301=>(zuk w x4 v4263 (zul w d4261) r4301 y4257 w4260))) else (some (y4257,w4260)))
def zum(w:UWk):Option (List Int × Option (Clm→Option (Int))):=(zul w (w.c.Fields.length+1) [] w.payments (0:Int))
def zun(c:Cse)(t:List Thr):Option (Res × Int):=((zt1 c).bind fun r4439=>(if r4439.2=(0:Int) then ((ztZ r4439.1.c t).bind fun r4480=>(if r4480=true then ((zuf r4439.1 t).bind fun r4498=>(some (r4498.1,(0:Int)))) else (some (({ Counts:=[],Award:=(0:Int),Farmer:=(0:Int),Society:=(0:Int) }:Res),(2:Int))))) else (some (({ Counts:=[],Award:=(0:Int),Farmer:=(0:Int),Society:=(0:Int) }:Res),r4439.2))))
def zuo(c:Cse)(field:Int):Option (List Int × Int):=((zt2 c field).bind fun r4524=>(if r4524.2=(0:Int) then ((ztQ r4524.1).bind fun r4543=>((ztO r4543).bind fun r4550=>(some (r4550,(0:Int))))) else (some ([],r4524.2))))
def zup(c:Cse)(field:Int):Option (Int × Int):=((zt2 c field).bind fun r4565=>(if r4565.2=(0:Int) then ((ztS r4565.1).bind fun r4584=>(some (r4584,(0:Int)))) else (some ((0:Int),r4565.2))))
def zuq(c:Cse):Option (List Int × Int):=((zt1 c).bind fun r4596=>(if r4596.2=(0:Int) then ((zum r4596.1).bind fun r4626=>(some (r4626.1,(0:Int)))) else (some ([],r4596.2))))
def zur(r:Rg):Option (Bool):=(if (0:Int)≤r.Lo then (if r.Lo≤r.Hi then (if r.Hi≤(100:Int) then (gd (zl0 .i64 (r.Hi - r.Lo)) (some (decide ((r.Hi - r.Lo)≤(4:Int))))) else (some false)) else (some false)) else (some false))
def zus(c:Cse):Nat→Int→Option (Int)
 | 0,_=>none
 | d4703+1,x16=>(if x16 < (c.Fields.length:Int) then ((idx c.Fields x16).bind fun v4705=>((zrY c.Tariffs).bind fun r4720=>(gd (zl0 .i64 (r4720 - 1)) ((zrM v4705.Crop (0:Int) (r4720 - 1)).bind fun r4728=>(if r4728=true then ((zrM v4705.Value (0:Int) (100000:Int)).bind fun r4736=>(if r4736=true then ((zrM v4705.Near (0:Int) (100:Int)).bind fun r4744=>(if r4744=true then ((zur v4705.First).bind fun r4752=>(if r4752=true then ((zur v4705.Second).bind fun r4760=>(if r4760=true then ((zur v4705.Umpire).bind fun r4768=>(if r4768=true then (gd (zl0 .i64 (x16+1)) (zus c d4703 (x16+1))) else (some (1:Int)))) else (some (1:Int)))) else (some (1:Int)))) else (some (1:Int)))) else (some (1:Int)))) else (some (1:Int))))))) else (some (0:Int)))
def zut(c:Cse):Option (Int):=((zrU c.Tariffs).bind fun r4679=>(if r4679=0 then (if (3:Int) < (c.Fields.length:Int) then (some (3:Int)) else ((zrM c.Day (0:Int) (120:Int)).bind fun r4687=>(if r4687=true then ((zrM c.Fee (0:Int) (10000:Int)).bind fun r4694=>(if r4694=true then (zus c 1000000 (0:Int)) else (some (1:Int)))) else (some (1:Int))))) else (some r4679)))
def zuu(r:Rg):Option (Rg):=(some r)
def zuv(c:Cse)(r6019:List Tf):Nat→Int→Int→(List Fld)→Int→Option (Cse)
 | 0,_,_,_,_=>none
 | d6050+1,y6045,y6046,y6047,x12=>(if x12 < (c.Fields.length:Int) then ((idx c.Fields x12).bind fun v6052=>((zuu v6052.First).bind fun r6071=>((zuu v6052.Second).bind fun r6080=>((zuu v6052.Umpire).bind fun r6089=>(gd (y6047.length < 1048576) (gd (zl0 .i64 (x12+1)) (zuv c r6019 d6050 y6045 y6046 (y6047++[({ Crop:=v6052.Crop,Value:=v6052.Value,Near:=v6052.Near,First:=r6071,Second:=r6080,Umpire:=r6089 }:Fld)]) (x12+1)))))))) else (some ({ Tariffs:=r6019,Day:=y6045,Fee:=y6046,Fields:=y6047 }:Cse)))
def zuw(c:Cse):Option (Cse):=((zsa c.Tariffs).bind fun r6019=>(zuv c r6019 1000000 c.Day c.Fee [] (0:Int)))
def zux(c:Cse):Option (Bool):=((zr6 c.Tariffs).bind fun r6168=>(if r6168=true then (some (decide ((c.Fields.length:Int)≤(6:Int)))) else (some false)))
def zuy(c:Cse):Option (Int):=((zut c).bind fun r6180=>(some r6180))
def zuz(a:Res)(b:Res):Option (Bool):=((zr1 a.Counts b.Counts).bind fun r6217=>(if r6217=true then (if a.Award=b.Award then (if a.Farmer=b.Farmer then (some (decide (a.Society=b.Society))) else (some false)) else (some false)) else (some false)))
def zuA(low:Int)(high:Int):Option (Rg):=(some ({ Lo:=low,Hi:=high }:Rg))
def zuB:Option (Cse):=((zuA (40:Int) (41:Int)).bind fun r6293=>((zuA (30:Int) (30:Int)).bind fun r6305=>((zuA (33:Int) (36:Int)).bind fun r6317=>((zuA (20:Int) (20:Int)).bind fun r6329=>((zuA (17:Int) (18:Int)).bind fun r6341=>((zuA (0:Int) (4:Int)).bind fun r6353=>(some ({ Tariffs:=([({ From:=(0:Int),Whole:=true,Least:=(0:Int),Weeks:=([(0:Int)]:List Int),Counts:=([(0:Int),(100:Int)]:List Int),Rates:=([([([(0:Int),(100:Int)]:List Int)]:List (List Int))]:List (List (List Int))) }:Tf)]:List Tf),Day:=(10:Int),Fee:=(31:Int),Fields:=([({ Crop:=(0:Int),Value:=(1000:Int),Near:=(4:Int),First:=r6293,Second:=r6305,Umpire:=r6317 }:Fld),({ Crop:=(0:Int),Value:=(200:Int),Near:=(4:Int),First:=r6329,Second:=r6341,Umpire:=r6353 }:Fld)]:List Fld) }:Cse))))))))
def zuC(first:Int)(u:Int)(second:Int):Option (List Thr):=(some ([({ First:=first,Second:=(30:Int),Umpire:=u }:Thr),({ First:=(20:Int),Second:=second,Umpire:=(0:Int) }:Thr)]:List Thr))
def zuD(c:Cse):Option (Bool):=((zux c).bind fun r6467=>(if r6467=true then ((zuy c).bind fun r6474=>(some (decide (r6474=0)))) else (some false)))
abbrev KOc:={k:Oc // MK.fit k}
abbrev fOc(f:Oc→Option Bool):KOc→Option U:=fun k=>(f k.1).map MV.enc
def zuE(f:Oc→Option Bool):List KOc:=open Classical in if h:∃ks,zqZ (zqz Oc) (fOc f) ks then Classical.choose h else []
theorem zuF{f:Oc→Option Bool}{ks:List KOc}(h:zqZ (zqz Oc) (fOc f) ks):zqZ (zqz Oc) (fOc f) (zuE f):=by
 unfold zuE;rw[dif_pos ⟨ks,h⟩];exact Classical.choose_spec (p:=fun ks=>zqZ (zqz Oc) (fOc f) ks) ⟨ks,h⟩
theorem zqZ.perm{κ:Type}{enc:κ→U}{f:κ→Option U}{k1 k2:List κ}(h1:zqZ enc f k1)(h2:zqZ enc f k2):k1.Perm k2:=
 (List.perm_ext_iff_of_nodup h1.1 h2.1).2 fun a=>(h1.2 a).trans (h2.2 a).symm
def zuG(f:Oc→Option Bool):List Oc:=(zuE f).map (·.1)
def zuH(g:Ver→Option (List Ver))(v:Ver):List Oc→Option (List Ver)
 | []=>some []
 | o::q=>(zt3 v o).bind fun v'=>(g v').bind fun a=>(zuH g v q).bind fun b=>some (a++b)
def zuI:List (List Oc)→Ver→Option (List Ver)
 | [],v=>some [v]
 | L::r,v=>zuH (zuI r) v L
def zuJ(q:Ver→Option Int):List Ver→Option (List Int)
 | []=>some []
 | v::r=>(q v).bind fun x=>(zuJ q r).bind fun s=>some (x::s)
def zuK(w:UWk):List Fld→Option (Clm→Option Int)→Option (List (Oc→Option Bool) × Option (Clm→Option Int))
 | [],p=>some ([],p)
 | f_::fs,p=>(zud ({ c:=w.c,payments:=p }:UWk) f_).bind fun r=>r.1.bind fun g=>(zuK w fs r.2).bind fun s=>some (g::s.1,s.2)
def zuL(fee:Int):Ver:={ fee:=fee,pence:=0,fields:={ f0:=0,f1:=0,f2:=0,f3:=0 } }
def zuM(w:UWk)(q:Qn):Option (Rg × Option (Clm→Option Int)):=
 (zuK w w.c.Fields w.payments).bind fun r=>gd (w.c.Fields.length≤1000) ((zuI (r.1.map zuG) (zuL w.c.Fee)).bind fun vs=>gd (vs.length * 8≤140737488355328∧vs ≠ []) ((zuJ q.ask vs).bind fun xs=>some (({ Lo:=zrg xs,Hi:=zrh xs }:Rg),r.2)))
theorem zuN{g:Ver→Option (List Ver)}{v:Ver}{a:Oc}{l2:List Oc}:∀{l1:List Oc} {vr:List Ver},zuH g v (l1++a::l2)=some vr→∃v' c vr',zt3 v a=some v'∧g v'=some c∧zuH g v (l1++l2)=some vr'∧(c++vr').Perm vr
 | [],vr,h=>by
  obtain⟨v',h1,h2⟩:=zqd (show(zt3 v a).bind _=some vr from h);obtain⟨c,h3,h4⟩:=zqd h2;obtain⟨b,h5,h6⟩:=zqd h4
  cases h6
  exact⟨v',c,b,h1,h3,h5,.refl _⟩
 | o::l1,vr,h=>by
  obtain⟨v1,h1,h2⟩:=zqd (show(zt3 v o).bind _=some vr from h);obtain⟨c1,h3,h4⟩:=zqd h2;obtain⟨b,h5,h6⟩:=zqd h4
  cases h6
  obtain⟨v',c,vr',q1,q2,q3,q4⟩:=zuN h5;refine⟨v',c,c1++vr',q1,q2,?_,?_⟩
  ·show(zt3 v o).bind _=_
   rw[h1,obs,h3,obs]
   show(zuH g v (l1++l2)).bind _=_
   rw[q3]; rfl
  ·rw[← List.append_assoc];exact((List.perm_append_comm.append_right vr').trans (by rw[List.append_assoc])).trans (q4.append_left c1)
theorem zuO{g:Ver→Option (List Ver)}{v:Ver}{L L':List Oc}(h:L.Perm L'):∀{vs:List Ver},zuH g v L=some vs→∃vs',zuH g v L'=some vs'∧vs'.Perm vs:=by
 induction h with
 | nil=>exact fun h=>⟨_,h,.refl _⟩
 | cons x _ ih=>
  intro vs h;obtain⟨v1,h1,h2⟩:=zqd (show(zt3 v x).bind _=some vs from h);obtain⟨c1,h3,h4⟩:=zqd h2;obtain⟨b,h5,h6⟩:=zqd h4
  cases h6
  obtain⟨b',q1,q2⟩:=ih h5;refine⟨c1++b',?_,q2.append_left _⟩
  show(zt3 v x).bind _=_
  rw[h1,obs,h3,obs,q1]; rfl
 | swap x y l=>
  intro vs h;obtain⟨v1,h1,h2⟩:=zqd (show(zt3 v y).bind _=some vs from h);obtain⟨c1,h3,h4⟩:=zqd h2;obtain⟨b,h5,h6⟩:=zqd h4
  cases h6
  obtain⟨v2,k1,k2⟩:=zqd (show(zt3 v x).bind _=some b from h5);obtain⟨c2,k3,k4⟩:=zqd k2;obtain⟨b2,k5,k6⟩:=zqd k4
  cases k6
  refine⟨c2++(c1++b2),?_,?_⟩
  ·show(zt3 v x).bind _=_
   rw[k1,obs,k3,obs]
   show((zt3 v y).bind _).bind _=_
   rw[h1,obs,h3,obs,k5]; rfl
  ·rw[← List.append_assoc,← List.append_assoc];exact List.perm_append_comm.append_right b2
 | trans _ _ ih1 ih2=>
  intro vs h;obtain⟨v1,q1,q2⟩:=ih1 h;obtain⟨v2,q3,q4⟩:=ih2 q1;exact⟨v2,q3,q4.trans q2⟩
theorem zuP{q:Ver→Option Int}{L L':List Ver}(h:L.Perm L'):∀{xs:List Int},zuJ q L=some xs→∃xs',zuJ q L'=some xs'∧xs'.Perm xs:=by
 induction h with
 | nil=>exact fun h=>⟨_,h,.refl _⟩
 | cons x _ ih=>
  intro xs h;obtain⟨a,h1,h2⟩:=zqd (show(q x).bind _=some xs from h);obtain⟨b,h3,h4⟩:=zqd h2
  cases h4
  obtain⟨b',q1,q2⟩:=ih h3;exact⟨a::b',by show(q x).bind _=_; rw[h1,obs,q1]; rfl,q2.cons a⟩
 | swap x y l=>
  intro xs h;obtain⟨a,h1,h2⟩:=zqd (show(q y).bind _=some xs from h);obtain⟨b,h3,h4⟩:=zqd h2
  cases h4
  obtain⟨a2,k1,k2⟩:=zqd (show(q x).bind _=some b from h3);obtain⟨b2,k3,k4⟩:=zqd k2
  cases k4
  exact⟨a2::a::b2,by show(q x).bind _=_; rw[k1,obs]; show((q y).bind _).bind _=_; rw[h1,obs,k3]; rfl,.swap _ _ _⟩
 | trans _ _ ih1 ih2=>
  intro vs h;obtain⟨v1,q1,q2⟩:=ih1 h;obtain⟨v2,q3,q4⟩:=ih2 q1;exact⟨v2,q3,q4.trans q2⟩
theorem zuQ{q:Ver→Option Int}{v:Ver}{x:Int}(hv:q v=some x):∀{l:List Ver} {xs:List Int},zuJ q l=some xs→zuJ q (l++[v])=some (xs++[x])
 | [],xs,h=>by cases h; show(q v).bind _=_; rw[hv]; rfl
 | u::l,xs,h=>by
  obtain⟨a,h1,h2⟩:=zqd (show(q u).bind _=some xs from h);obtain⟨b,h3,h4⟩:=zqd h2
  cases h4
  show(q u).bind _=_
  rw[h1,obs]
  show(zuJ q (l++[v])).bind _=_
  rw[zuQ hv h3]; rfl
theorem zuR{q:Ver→Option Int}:∀{l:List Ver} {xs:List Int},zuJ q l=some xs→∀v∈l,q v ≠ none
 | u::l,xs,h,v,hv=>by
  obtain⟨a,h1,h2⟩:=zqd (show(q u).bind _=some xs from h);obtain⟨b,h3,h4⟩:=zqd h2
  rcases List.mem_cons.1 hv with rfl | hv
  ·rw[h1]; simp
  ·exact zuR h3 v hv
theorem zuS{q:Ver→Option Int}:∀{l:List Ver} {xs:List Int},zuJ q l=some xs→xs.length=l.length
 | [],xs,h=>by cases h; rfl
 | u::l,xs,h=>by
  obtain⟨a,h1,h2⟩:=zqd (show(q u).bind _=some xs from h);obtain⟨b,h3,h4⟩:=zqd h2
  cases h4
  simp[zuS h3]
def zuT(c:Cse):Option (Rg × Int):=((zt1 c).bind fun r116=>(if r116.2=(0:Int) then ((zuM r116.1 ({ ask:=(fun a157=>zt5 a157) }:Qn)).bind fun r159=>(some (r159.1,(0:Int)))) else (some (({ Lo:=(0:Int),Hi:=(0:Int) }:Rg),r116.2))))
def zuU(c:Cse):Option (Rg × Rg × Int):=((zt1 c).bind fun r195=>(if r195.2=(0:Int) then ((zuM r195.1 ({ ask:=(fun a249=>zt6 a249) }:Qn)).bind fun r251=>((zuM ({ c:=r195.1.c,payments:=r251.2 }:UWk) ({ ask:=(fun a262=>zt7 a262) }:Qn)).bind fun r264=>(some (r251.1,r264.1,(0:Int))))) else (some (({ Lo:=(0:Int),Hi:=(0:Int) }:Rg),({ Lo:=(0:Int),Hi:=(0:Int) }:Rg),r195.2))))
def zuV(c:Cse):Option (Rg × Int):=((zt1 c).bind fun r304=>(if r304.2=(0:Int) then ((zuM r304.1 ({ ask:=(fun a345=>zt8 a345) }:Qn)).bind fun r347=>((zuM ({ c:=r304.1.c,payments:=r347.2 }:UWk) ({ ask:=(fun a357=>zt9 a357) }:Qn)).bind fun r359=>(some (({ Lo:=r347.1.Lo,Hi:=r359.1.Hi }:Rg),(0:Int))))) else (some (({ Lo:=(0:Int),Hi:=(0:Int) }:Rg),r304.2))))
def zuW:Option (Bool):=((zuB).bind fun r377=>((zuC (40:Int) (35:Int) (17:Int)).bind fun r387=>((zun r377 r387).bind fun r395=>((zuB).bind fun r413=>((zuo r413 (0:Int)).bind fun r424=>((zuB).bind fun r433=>((zup r433 (1:Int)).bind fun r444=>((zuB).bind fun r450=>((zuT r450).bind fun r461=>((zuB).bind fun r479=>((zuU r479).bind fun r491=>((zuB).bind fun r529=>((zuV r529).bind fun r543=>((zuB).bind fun r570=>((zuq r570).bind fun r585=>(if r395.2=(0:Int) then ((zuz r395.1 ({ Counts:=([(35:Int),(18:Int)]:List Int),Award:=(386:Int),Farmer:=(16:Int),Society:=(15:Int) }:Res)).bind fun r619=>(if r619=true then (if r424.2=(0:Int) then ((zr1 r424.1 ([(33:Int),(34:Int),(35:Int),(36:Int)]:List Int)).bind fun r651=>(if r651=true then (if r444.2=(0:Int) then (if r444.1=(2:Int) then (if r461.2=(0:Int) then ((zuA (366:Int) (398:Int)).bind fun r665=>(gd (zl0 .i64 r461.1.Lo) (gd (zl0 .i64 r665.Lo) (gd (zl0 .i64 r461.1.Hi) (gd (zl0 .i64 r665.Hi) (if ((decide (r461.1.Lo=r665.Lo)) && (decide (r461.1.Hi=r665.Hi)))=true then (if r491.2.2=(0:Int) then ((zuA (0:Int) (31:Int)).bind fun r681=>(gd (zl0 .i64 r491.1.Lo) (gd (zl0 .i64 r681.Lo) (gd (zl0 .i64 r491.1.Hi) (gd (zl0 .i64 r681.Hi) (if ((decide (r491.1.Lo=r681.Lo)) && (decide (r491.1.Hi=r681.Hi)))=true then (gd (zl0 .i64 r491.2.1.Lo) (gd (zl0 .i64 r491.1.Lo) (gd (zl0 .i64 r491.2.1.Hi) (gd (zl0 .i64 r491.1.Hi) (if ((decide (r491.2.1.Lo=r491.1.Lo)) && (decide (r491.2.1.Hi=r491.1.Hi)))=true then (if r543.2=(0:Int) then ((zuA (335:Int) (429:Int)).bind fun r702=>(gd (zl0 .i64 r543.1.Lo) (gd (zl0 .i64 r702.Lo) (gd (zl0 .i64 r543.1.Hi) (gd (zl0 .i64 r702.Hi) (if ((decide (r543.1.Lo=r702.Lo)) && (decide (r543.1.Hi=r702.Hi)))=true then (if r585.2=(0:Int) then ((zr1 r585.1 ([(0:Int)]:List Int)).bind fun r738=>(some r738)) else (some false)) else (some false))))))) else (some false)) else (some false)))))) else (some false))))))) else (some false)) else (some false))))))) else (some false)) else (some false)) else (some false)) else (some false))) else (some false)) else (some false))) else (some false)))))))))))))))))
end
end Go.Proofs.YteojndcmgpiklaaGreat

namespace Go.Proofs.YteojndcmgpiklaaGreat
open _root_.Go.Proofs.Tryz
open Go.Abs
structure zuX where
 Tariffs:List Tf
 Day:Int
 Fee:Int
 Fields:List Fld
end Go.Proofs.YteojndcmgpiklaaGreat

namespace Go.Proofs.YteojndcmgpiklaaGreat
open _root_.Go.Proofs.Tryz
open Go.Abs
set_option maxRecDepth 100000
noncomputable section
def zuY(c:Cse):Option (zuX):=(gd (([]:List Fld).length+c.Fields.length≤1048576) (some ({ Tariffs:=c.Tariffs,Day:=c.Day,Fee:=c.Fee,Fields:=([]++c.Fields) }:zuX)))
def zuZ(c:Cse)(more:Int)(which:Int):Option (Bool):=((zuD c).bind fun r307=>(if r307=true then (if (c.Fields.length:Int)=(0:Int) then ((zuW).bind fun r321=>(some r321)) else (gd ((0:Int)≤(zl5 .i64 which)) (gd ((0:Int) < (c.Fields.length:Int)) (gd (zl0 .i64 ((zl5 .i64 which) % (c.Fields.length:Int))) ((zuY c).bind fun r338=>((zuY c).bind fun r353=>((idx c.Fields ((zl5 .i64 which) % (c.Fields.length:Int))).bind fun v394=>(gd ((0:Int)≤(zl5 .i64 more)) (gd ((0:Int) < (9:Int)) (gd (zl0 .i64 ((zl5 .i64 more) % (9:Int))) (gd (zl0 .i64 (v394.Near+((zl5 .i64 more) % (9:Int)))) ((idx r338.Fields ((zl5 .i64 which) % (c.Fields.length:Int))).bind fun v401=>((idx r353.Fields ((zl5 .i64 which) % (c.Fields.length:Int))).bind fun v413=>((zuw c).bind fun r425=>((zup r425 ((zl5 .i64 which) % (c.Fields.length:Int))).bind fun r438=>((zuw ({ Tariffs:=r338.Tariffs,Day:=r338.Day,Fee:=r338.Fee,Fields:=(r338.Fields.set (Int.toNat ((zl5 .i64 which) % (c.Fields.length:Int))) ({ Crop:=v401.Crop,Value:=v401.Value,Near:=(min (100:Int) (v394.Near+((zl5 .i64 more) % (9:Int)))),First:=v401.First,Second:=v401.Second,Umpire:=v401.Umpire }:Fld)) }:Cse)).bind fun r453=>((zup r453 ((zl5 .i64 which) % (c.Fields.length:Int))).bind fun r468=>((zuw ({ Tariffs:=r353.Tariffs,Day:=r353.Day,Fee:=r353.Fee,Fields:=(r353.Fields.set (Int.toNat ((zl5 .i64 which) % (c.Fields.length:Int))) ({ Crop:=v413.Crop,Value:=v413.Value,Near:=(100:Int),First:=v413.First,Second:=v413.Second,Umpire:=v413.Umpire }:Fld)) }:Cse)).bind fun r485=>((zup r485 ((zl5 .i64 which) % (c.Fields.length:Int))).bind fun r501=>(if r438.2=(0:Int) then (if r468.2=(0:Int) then (if r501.2=(0:Int) then (if r501.1=(2:Int) then (if r438.1=(2:Int) then (if r468.1=(2:Int) then (if r468.1=(1:Int) then (if r438.1=(1:Int) then ((zuW).bind fun r551=>(some r551)) else (some false)) else ((zuW).bind fun r540=>(some r540))) else (some false)) else (if r468.1=(1:Int) then (if r438.1=(1:Int) then ((zuW).bind fun r528=>(some r528)) else (some false)) else ((zuW).bind fun r517=>(some r517)))) else (some false)) else (some false)) else (some false)) else (some false))))))))))))))))))))) else ((zuW).bind fun r314=>(some r314))))
end
end Go.Proofs.YteojndcmgpiklaaGreat

namespace Go.Proofs.YteojndcmgpiklaaGreat
open _root_.Go.Proofs.Tryz
open Go.Abs
set_option maxRecDepth 100000
noncomputable section
theorem zu0{a100:Int}{a101:Bool}{a102:Int}{a103:C}{a104:C}{a105:C}{b0:Nat}{m:M}{Q:V→M→Prop}(h :
 (∀m0:M,(m0=(M.new m (AO.cells 6 [(Il a100),(.bool a101),(Il a102),a103,
 a104,a105] false)))→∃c1:C,((ldC m0 (.ptr b0 0))=(some c1))∧∃x2,∃b3:Bool,
 ∃x4,∃c5:C,∃c6:C,∃c7:C,((ldA m0 (.ptr m.nxt 0) 6)=(some [(Il x2),
 (.bool b3),(Il x4),c5,c6,c7]))∧zmq prog tbl [(.agg 6 [(Il x2),
 (.bool b3),(Il x4),c5,c6,c7])] c1 m0 (fun v8 m9=>∃b10:Bool,(v8=(.c (.bool b10))) ∧ 
 Q (.c (.bool (!b10))) m9))):Wc prog tbl 146 [.agg 6 [Il a100,.bool a101,Il a102,a103,a104,a105],.c (.ptr b0 0)] m Q:=
 zpB (n:=2) rfl (by kernel_rfl) (by kernel_rfl) h
theorem zu1{a100:Int}{a101:Int}{a102:Int}{a103:Int}{a104:Int}{a105:Int}{b0:Nat}{m:M}{Q:V→M→Prop}(h :
 (∀m0:M,(m0=(M.new m (AO.cells 6 [(Il a100),(Il a101),(Il a102),
 (Il a103),(Il a104),(Il a105)] false)))→∃c1:C,((ldC m0 (.ptr b0 0))=(some c1)) ∧ 
 ∃x2 x3 x4 x5 x6 x7,((ldA m0 (.ptr m.nxt 0) 6)=(some [(Il x2),
 (Il x3),(Il x4),(Il x5),(Il x6),
 (Il x7)]))∧zmq prog tbl [(.agg 6 [(Il x2),(Il x3),
 (Il x4),(Il x5),(Il x6),(Il x7)])] c1 m0 (fun v8 m9 => 
 ∃b10:Bool,(v8=(.c (.bool b10)))∧Q (.c (.bool (!b10))) m9))):Wc prog tbl 135 [.agg 6 [Il a100,Il a101,Il a102,Il a103,Il a104,Il a105],.c (.ptr b0 0)] m Q:=
 zpB (n:=2) rfl (by kernel_rfl) (by kernel_rfl) h
theorem zu2{a100:Int}{b0:Nat}{m:M}{Q:V→M→Prop}(h :
 (∃c0:C,((ldC m (.ptr b0 0))=(some c0))∧zmq prog tbl [(.c (Il a100))] c0 m (fun v1 m2 => 
 ∃b3:Bool,(v1=(.c (.bool b3)))∧Q (.c (.bool (!b3))) m2))):Wc prog tbl 164 [.c (Il a100),.c (.ptr b0 0)] m Q:=
 zpB (n:=2) rfl (by kernel_rfl) (by kernel_rfl) h
theorem zu3{a100:C}{b0:Nat}{m:M}{Q:V→M→Prop}(h :
 (∃c0:C,((ldC m (.ptr b0 0))=(some c0))∧zmq prog tbl [(.c a100)] c0 m (fun v1 m2=>∃b3:Bool,
 (v1=(.c (.bool b3)))∧Q (.c (.bool (!b3))) m2))):Wc prog tbl 178 [.c (a100),.c (.ptr b0 0)] m Q:=
 zpB (n:=2) rfl (by kernel_rfl) (by kernel_rfl) h
theorem zu4{a100:C}{b0:Nat}{m:M}{Q:V→M→Prop}(h :
 (∃c0:C,((ldC m (.ptr b0 0))=(some c0))∧zmq prog tbl [(.c a100)] c0 m (fun v1 m2=>∃b3:Bool,
 (v1=(.c (.bool b3)))∧Q (.c (.bool (!b3))) m2))):Wc prog tbl 166 [.c (a100),.c (.ptr b0 0)] m Q:=
 zpB (n:=2) rfl (by kernel_rfl) (by kernel_rfl) h
theorem zu5{a100:C}{b0:Nat}{m:M}{Q:V→M→Prop}(h :
 (isPt (.ptr b0 0)∧isPt (.ptr b0 2)∧∃x0,((ldC m (.ptr b0 2))=(some (Il x0))) ∧ 
 ∀R1:List V→M→Prop,(∀x2:Int,∀m3:M,(isPt (.ptr b0 0)∧isPt (.ptr b0 2)∧∃x4,
 ((ldC m3 (.ptr b0 3))=(some (Il x4)))∧ifB (decide (x2≤x4)) (isPt (.ptr b0 0) ∧ 
 isPt (.ptr b0 4)∧∃x5,((ldC m3 (.ptr b0 4))=(some (Il x5))) ∧ 
 ∀R6:List V→M→Prop,(∀x7:Int,∀m8:M,(isPt (.ptr b0 0)∧isPt (.ptr b0 4) ∧ 
 ∃x9,((ldC m8 (.ptr b0 5))=(some (Il x9)))∧ifB (decide (x7≤x9)) (zmq prog tbl [(.agg 2 [(Il x2),
 (Il x7)])] a100 m8 (fun v10 m11=>∃b12:Bool,(v10=(.c (.bool b12))) ∧ 
 ifB (!b12) (Q (.tup []) m11) (zl0 .i64 (x7+1)∧R6 [(.c (Il (x7+1)))] m11))) (zl0 .i64 (x2+1) ∧ 
 R1 [(.c (Il (x2+1)))] m8))→R6 [(.c (Il x7))] m8) → 
 R6 [(.c (Il x5))] m3) (Q (.tup []) m3))→R1 [(.c (Il x2))] m3) → 
 R1 [(.c (Il x0))] m)):Wc prog tbl 183 [.c (a100),.c (.ptr b0 0)] m Q:=
 zpB (n:=2) rfl (by kernel_rfl) (by kernel_rfl) h
theorem zu6{a100:Int}{a101:Int}{b0:Nat}{m:M}{Q:V→M→Prop}(h :
 (∀m0:M,(m0=(M.new m (AO.cells 2 [(Il a100),(Il a101)] false)))→∃c1:C,
 ((ldC m0 (.ptr b0 0))=(some c1))∧∃x2 x3,((ldA m0 (.ptr m.nxt 0) 2)=(some [(Il x2),
 (Il x3)]))∧zmq prog tbl [(.agg 2 [(Il x2),(Il x3)])] c1 m0 (fun v4 m5 => 
 ∃b6:Bool,(v4=(.c (.bool b6)))∧Q (.c (.bool (!b6))) m5))):Wc prog tbl 154 [.agg 2 [Il a100,Il a101],.c (.ptr b0 0)] m Q:=
 zpB (n:=2) rfl (by kernel_rfl) (by kernel_rfl) h
theorem zu7{a100:Int}{a101:Int}{a102:Int}{a103:Int}{a104:Int}{a105:Int}{a106:Int}{a107:Int}{a108:Int}{b0:Nat}{m:M}{Q:V→M→Prop}(h :
 (∀m0:M,(m0=(M.new m (AO.cells 9 [(Il a100),(Il a101),(Il a102),
 (Il a103),(Il a104),(Il a105),(Il a106),
 (Il a107),(Il a108)] false)))→∃c1:C,((ldC m0 (.ptr b0 0))=(some c1)) ∧ 
 ∃x2 x3 x4 x5 x6 x7 x8 x9,
 ∃x10,((ldA m0 (.ptr m.nxt 0) 9)=(some [(Il x2),(Il x3),
 (Il x4),(Il x5),(Il x6),(Il x7),
 (Il x8),(Il x9),(Il x10)]))∧zmq prog tbl [(.agg 9 [(Il x2),
 (Il x3),(Il x4),(Il x5),(Il x6),
 (Il x7),(Il x8),(Il x9),(Il x10)])] c1 m0 (fun v11 m12 => 
 ∃b13:Bool,(v11=(.c (.bool b13)))∧Q (.c (.bool (!b13))) m12))):Wc prog tbl 122 [.agg 9 [Il a100,Il a101,Il a102,Il a103,Il a104,Il a105,Il a106,Il a107,Il a108],.c (.ptr b0 0)] m Q:=
 zpB (n:=2) rfl (by kernel_rfl) (by kernel_rfl) h
theorem zu8{a100:C}{b0:Nat}{m:M}{Q:V→M→Prop}(h :
 (isPt (.ptr b0 0)∧isPt (.ptr b0 3)∧∃x0,((ldC m (.ptr b0 3))=(some (Il x0))) ∧ 
 ∀R1:List V→M→Prop,(∀x2:Int,∀m3:M,(isPt (.ptr b0 0)∧isPt (.ptr b0 3)∧∃x4,
 ((ldC m3 (.ptr b0 4))=(some (Il x4)))∧ifB (decide (x2≤x4)) (isPt (.ptr b0 0) ∧ 
 isPt (.ptr b0 5)∧∃x5,((ldC m3 (.ptr b0 5))=(some (Il x5))) ∧ 
 ∀R6:List V→M→Prop,(∀x7:Int,∀m8:M,(isPt (.ptr b0 0)∧isPt (.ptr b0 5) ∧ 
 ∃x9,((ldC m8 (.ptr b0 6))=(some (Il x9)))∧ifB (decide (x7≤x9)) (isPt (.ptr b0 0) ∧ 
 isPt (.ptr b0 7)∧∃x10,((ldC m8 (.ptr b0 7))=(some (Il x10))) ∧ 
 ∀R11:List V→M→Prop,(∀x12:Int,∀m13:M,(isPt (.ptr b0 0) ∧ 
 isPt (.ptr b0 7)∧∃x14,((ldC m13 (.ptr b0 8))=(some (Il x14))) ∧ 
 ifB (decide (x12≤x14)) (zmq prog tbl [(.agg 3 [(Il x2),
 (Il x7),(Il x12)])] a100 m13 (fun v15 m16=>∃b17:Bool,
 (v15=(.c (.bool b17)))∧ifB (!b17) (Q (.tup []) m16) (zl0 .i64 (x12+1) ∧ 
 R11 [(.c (Il (x12+1)))] m16))) (zl0 .i64 (x7+1) ∧ 
 R6 [(.c (Il (x7+1)))] m13))→R11 [(.c (Il x12))] m13) → 
 R11 [(.c (Il x10))] m8) (zl0 .i64 (x2+1) ∧ 
 R1 [(.c (Il (x2+1)))] m8))→R6 [(.c (Il x7))] m8) → 
 R6 [(.c (Il x5))] m3) (Q (.tup []) m3))→R1 [(.c (Il x2))] m3) → 
 R1 [(.c (Il x0))] m)):Wc prog tbl 128 [.c (a100),.c (.ptr b0 0)] m Q:=
 zpB (n:=2) rfl (by kernel_rfl) (by kernel_rfl) h
theorem w16{a100:C}{a101:Int}{a102:Int}{a103:C}{m:M}{Q:V→M→Prop}(h :
 (∀m0:M,(m0=(M.new m (AO.cells 4 [a100,(Il a101),(Il a102),a103] false))) → 
 isPt (.ptr m.nxt 0)∧∃c1:C,((ldC m0 (.ptr m.nxt 0))=(some c1))∧Wc prog tbl 53 [(.c c1)] m0 (fun v2 m3 => 
 ∃b4:Bool,(v2=(.c (.bool b4)))∧ifB b4 (isPt (.ptr m.nxt 0)∧∃c5:C,((ldC m3 (.ptr m.nxt 3))=(some c5)) ∧ 
 isSl c5∧Q (.c (.bool (decide ((((slLen c5):Nat):Int)≤(6:Int))))) m3) (Q (.c (.bool false)) m3)))):Wc prog tbl 16 [(.agg 4 [a100,(Il a101),(Il a102),a103])] m Q:=
 zpB (n:=1) rfl (by kernel_rfl) (by kernel_rfl) h
theorem w28{a100:C}{a101:Int}{a102:Int}{a103:C}{a200:Int}{m:M}{Q:V→M→Prop}(h :
 (∀m0:M,(m0=(M.new m (AO.cells 4 [a100,(Il a101),(Il a102),a103] false))) → 
 ∃c1:C,∃x2 x3,∃c4:C,((ldA m0 (.ptr m.nxt 0) 4)=(some [c1,(Il x2),
 (Il x3),c4]))∧Wc prog tbl 63 [(.agg 4 [c1,(Il x2),(Il x3),
 c4]),(.c (Il a200))] m0 (fun v5 m6=>∃x7 x8 x9 x10,
 ∃x11 x12 x13 x14 x15 x16,(v5=(.tup [(.agg 9 [(Il x7),
 (Il x8),(Il x9),(Il x10),(Il x11),
 (Il x12),(Il x13),(Il x14),(Il x15)]),
 (.c (Il x16))]))∧∀m17:M,(m17=(M.new m6 (AO.cells 9 [(Il 0),
 (Il 0),(Il 0),(Il 0),
 (Il 0),(Il 0),(Il 0),
 (Il 0),(Il 0)] false)))→∃m18:M,
 ((stC m17 (.ptr m6.nxt 0) 9 [(Il x7),(Il x8),(Il x9),
 (Il x10),(Il x11),(Il x12),(Il x13),
 (Il x14),(Il x15)])=(some m18))∧ifB (!decide (x16=0)) (Q (.tup [(.c (Il 0)),
 (.c (Il x16))]) m18) (∃x19 x20 x21,
 ∃x22 x23 x24 x25 x26 x27,
 ((ldA m18 (.ptr m6.nxt 0) 9)=(some [(Il x19),(Il x20),
 (Il x21),(Il x22),(Il x23),(Il x24),
 (Il x25),(Il x26),(Il x27)])) ∧ 
 Wc prog tbl 66 [(.agg 9 [(Il x19),(Il x20),
 (Il x21),(Il x22),(Il x23),(Il x24),
 (Il x25),(Il x26),(Il x27)])] m18 (fun v28 m29 => 
 ∃x30,(v28=(.c (Il x30)))∧Q (.tup [(.c (Il x30)),
 (.c (Il 0))]) m29))))):Wc prog tbl 28 [(.agg 4 [a100,(Il a101),(Il a102),a103]),(.c (Il a200))] m Q:=
 zpB (n:=2) rfl (by kernel_rfl) (by kernel_rfl) h
theorem w36{a100:C}{a101:Int}{a102:Int}{a103:C}{m:M}{Q:V→M→Prop}(h :
 (∀m0:M,(m0=(M.new m (AO.cells 4 [a100,(Il a101),(Il a102),a103] false))) → 
 ∃c1:C,∃x2 x3,∃c4:C,((ldA m0 (.ptr m.nxt 0) 4)=(some [c1,(Il x2),
 (Il x3),c4]))∧Wc prog tbl 54 [(.agg 4 [c1,(Il x2),(Il x3),
 c4])] m0 (fun v5 m6=>∃c7:C,∃x8 x9,∃c10:C,∃c11:C,∃x12,
 (v5=(.tup [(.agg 5 [c7,(Il x8),(Il x9),c10,c11]),(.c (Il x12))])) ∧ 
 ∀m13:M,(m13=(M.new m6 (AO.cells 5 [C.sl0,(Il 0),(Il 0),
 C.sl0,C.map0] false)))→∃m14:M,((stC m13 (.ptr m6.nxt 0) 5 [c7,(Il x8),
 (Il x9),c10,c11])=(some m14))∧ifB (!decide (x12=0)) (Q (.tup [(.c C.sl0),
 (.c (Il x12))]) m14) (∃c15:C,∃x16 x17,∃c18:C,
 ∃c19:C,((ldA m14 (.ptr m6.nxt 0) 5)=(some [c15,(Il x16),
 (Il x17),c18,c19]))∧Wc prog tbl 74 [(.agg 5 [c15,(Il x16),
 (Il x17),c18,c19])] m14 (fun v20 m21=>∃c22:C,(v20=(.c c22)) ∧ 
 Q (.tup [(.c c22),(.c (Il 0))]) m21))))):Wc prog tbl 36 [(.agg 4 [a100,(Il a101),(Il a102),a103])] m Q:=
 zpB (n:=1) rfl (by kernel_rfl) (by kernel_rfl) h
theorem w40{m:M}{Q:V→M→Prop}(h :
 (∀m0:M,(m0=(M.new m (AO.cells 4 [C.sl0,(Il 0),(Il 0),C.sl0] false))) → 
 ∀m1:M,(m1=(M.new m0 (AO.cells 1 [(Il 0)] false)))→∀m2:M,(m2=(M.new m1 (AO.cells 2 [(Il 0),
 (Il (100:Int))] false)))→∀m3:M,(m3=(M.new m2 (AO.cells 2 [(Il 0),
 (Il (100:Int))] false)))→∀m4:M,(m4=(M.new m3 (AO.cells 1 [(.sl m2.nxt 0 2 0 (some 2))] false))) → 
 ∀m5:M,(m5=(M.new m4 (AO.cells 1 [(.sl m3.nxt 0 1 0 (some 1))] false)))→∀m6:M,
 (m6=(M.new m5 (AO.cells 6 [(Il 0),(.bool true),(Il 0),
 (.sl m0.nxt 0 1 0 (some 1)),(.sl m1.nxt 0 2 0 (some 2)),(.sl m4.nxt 0 1 0 (some 1))] false))) → 
 Wc prog tbl 42 [(.c (Il (40:Int))),(.c (Il (41:Int)))] m6 (fun v7 m8 => 
 ∃x9 x10,(v7=(.agg 2 [(Il x9),(Il x10)])) ∧ 
 Wc prog tbl 42 [(.c (Il (30:Int))),(.c (Il (30:Int)))] m8 (fun v11 m12 => 
 ∃x13 x14,(v11=(.agg 2 [(Il x13),(Il x14)])) ∧ 
 Wc prog tbl 42 [(.c (Il (33:Int))),(.c (Il (36:Int)))] m12 (fun v15 m16 => 
 ∃x17 x18,(v15=(.agg 2 [(Il x17),(Il x18)])) ∧ 
 Wc prog tbl 42 [(.c (Il (20:Int))),(.c (Il (20:Int)))] m16 (fun v19 m20 => 
 ∃x21 x22,(v19=(.agg 2 [(Il x21),(Il x22)])) ∧ 
 Wc prog tbl 42 [(.c (Il (17:Int))),(.c (Il (18:Int)))] m20 (fun v23 m24 => 
 ∃x25 x26,(v23=(.agg 2 [(Il x25),(Il x26)])) ∧ 
 Wc prog tbl 42 [(.c (Il 0)),(.c (Il (4:Int)))] m24 (fun v27 m28 => 
 ∃x29 x30,(v27=(.agg 2 [(Il x29),(Il x30)])) ∧ 
 ∀m31:M,(m31=(M.new m28 (AO.cells 18 [(Il 0),(Il (1000:Int)),
 (Il (4:Int)),(Il x9),(Il x10),
 (Il x13),(Il x14),(Il x17),(Il x18),
 (Il 0),(Il (200:Int)),(Il (4:Int)),
 (Il x21),(Il x22),(Il x25),(Il x26),
 (Il x29),(Il x30)] false)))→∃m32:M,((stC m31 (.ptr m.nxt 0) 4 [(.sl m5.nxt 0 1 0 (some 1)),
 (Il (10:Int)),(Il (31:Int)),(.sl m28.nxt 0 2 0 (some 2))])=(some m32)) ∧ 
 ∃c33:C,∃x34 x35,∃c36:C,((ldA m32 (.ptr m.nxt 0) 4)=(some [c33,
 (Il x34),(Il x35),c36]))∧Q (.agg 4 [c33,
 (Il x34),(Il x35),c36]) m32)))))))):Wc prog tbl 40 [] m Q:=
 zpB (n:=0) rfl (by kernel_rfl) (by kernel_rfl) h
theorem w48{a100:Int}{a200:Int}{a300:Int}{m:M}{Q:V→M→Prop}(h :
 (ifB (decide (a200≤a100)) (Q (.c (.bool (decide (a100≤a300)))) m) (Q (.c (.bool false)) m))):Wc prog tbl 48 [(.c (Il a100)),(.c (Il a200)),(.c (Il a300))] m Q:=
 zpB (n:=3) rfl (by kernel_rfl) (by kernel_rfl) h
theorem w52{a100:C}{a101:Int}{a102:Int}{a103:C}{m:M}{Q:V→M→Prop}(h :
 (∀m0:M,(m0=(M.new m (AO.cells 4 [a100,(Il a101),(Il a102),a103] false))) → 
 ∀m1:M,(m1=(M.new m0 (AO.cells 4 [C.sl0,(Il 0),(Il 0),
 C.sl0] false)))→∃c2:C,∃x3 x4,∃c5:C,((ldA m1 (.ptr m.nxt 0) 4)=(some [c2,
 (Il x3),(Il x4),c5]))∧∀m6:M,(m6=(M.new m1 (AO.cells 4 [C.sl0,
 (Il 0),(Il 0),C.sl0] false)))→∃m7:M,((stC m6 (.ptr m1.nxt 0) 4 [c2,
 (Il x3),(Il x4),c5])=(some m7))∧∀m8:M,(m8=(M.new m7 (AO.cells 0 [] false))) → 
 isPt (.ptr m.nxt 0)∧∃c9:C,((ldC m8 (.ptr m.nxt 3))=(some c9))∧∃c10:C,
 ∃m11:M,(ApR prog 23 m8 (.sl m7.nxt 0 0 0 (some 0)) c9 c10 m11)∧isPt (.ptr m1.nxt 0) ∧ 
 ∃m12:M,((stC m11 (.ptr m1.nxt 3) 1 [c10])=(some m12))∧∃c13:C,
 ∃x14 x15,∃c16:C,((ldA m12 (.ptr m1.nxt 0) 4)=(some [c13,
 (Il x14),(Il x15),c16]))∧∃m17:M,((stC m12 (.ptr m0.nxt 0) 4 [c13,
 (Il x14),(Il x15),c16])=(some m17)) ∧ 
 ∃c18:C,∃x19 x20,∃c21:C,((ldA m17 (.ptr m0.nxt 0) 4)=(some [c18,
 (Il x19),(Il x20),c21]))∧Q (.agg 4 [c18,
 (Il x19),(Il x20),c21]) m17)):Wc prog tbl 52 [(.agg 4 [a100,(Il a101),(Il a102),a103])] m Q:=
 zpB (n:=1) rfl (by kernel_rfl) (by kernel_rfl) h
theorem w56{a100:C}{a101:Int}{a102:Int}{a103:C}{a104:C}{a200:C}{m:M}{Q:V→M→Prop}(h :
 (∀m0:M,(m0=(M.new m (AO.cells 5 [a100,(Il a101),(Il a102),a103,a104] false))) → 
 ∀m1:M,(m1=(M.new m0 (AO.cells 4 [C.sl0,(Il 0),(Il 0),
 (Il 0)] false)))→∀m2:M,(m2=(M.new m1 (AO.cells 4 [C.sl0,(Il 0),
 (Il 0),(Il 0)] false)))→isPt (.ptr m.nxt 0) ∧ 
 isPt (.ptr m.nxt 0)∧∃x3,((ldC m2 (.ptr m.nxt 2))=(some (Il x3))) ∧ 
 ∀m4:M,(m4=(M.new m2 (AO.cells 6 [(Il 0),(Il 0),
 (Il 0),(Il 0),(Il 0),
 (Il 0)] false)))→∃m5:M,((stC m4 (.ptr m2.nxt 0) 6 [(Il x3),
 (Il 0),(Il 0),(Il 0),
 (Il 0),(Il 0)])=(some m5))∧isPt (.ptr m.nxt 0) ∧ 
 isPt (.ptr m.nxt 0)∧∃c6:C,((ldC m5 (.ptr m.nxt 3))=(some c6))∧isSl c6 ∧ 
 ∀R7:List V→M→Prop,(∀x8:Int,∀m9:M,(ifB (decide (x8 < (((slLen c6):Nat):Int))) (∃n10:Nat,
 (x8=((n10:Nat):Int))∧(n10 < (slLen c6))∧∃x11 x12 x13,
 ∃x14 x15 x16 x17 x18 x19,
 ((ldA m9 (zl2 c6 (n10 * 9)) 9)=(some [(Il x11),(Il x12),
 (Il x13),(Il x14),(Il x15),(Il x16),
 (Il x17),(Il x18),(Il x19)])) ∧ 
 ∀m20:M,(m20=(M.new m9 (AO.cells 9 [(Il 0),(Il 0),
 (Il 0),(Il 0),(Il 0),
 (Il 0),(Il 0),(Il 0),
 (Il 0)] false)))→∃m21:M,((stC m20 (.ptr m9.nxt 0) 9 [(Il x11),
 (Il x12),(Il x13),(Il x14),(Il x15),
 (Il x16),(Il x17),(Il x18),(Il x19)])=(some m21)) ∧ 
 isPt (.ptr m1.nxt 0)∧∃c22:C,((ldC m21 (.ptr m1.nxt 0))=(some c22)) ∧ 
 ∃x23 x24 x25 x26 x27 x28,
 ∃x29 x30 x31,((ldA m21 (.ptr m9.nxt 0) 9)=(some [(Il x23),
 (Il x24),(Il x25),(Il x26),(Il x27),
 (Il x28),(Il x29),(Il x30),(Il x31)])) ∧ 
 ∃n32:Nat,(x8=((n32:Nat):Int))∧(n32 < (slLen a200))∧∃x33,
 ∃x34 x35,((ldA m21 (zl2 a200 (n32 * 3)) 3)=(some [(Il x33),
 (Il x34),(Il x35)]))∧Wc prog tbl 85 [(.agg 9 [(Il x23),
 (Il x24),(Il x25),(Il x26),(Il x27),
 (Il x28),(Il x29),(Il x30),(Il x31)]),
 (.agg 3 [(Il x33),(Il x34),(Il x35)])] m21 (fun v36 m37 => 
 ∃x38,(v36=(.c (Il x38)))∧(ifB (cmC c22) ((ldC m37 (.ptr m1.nxt 0))=(some c22)) False) ∧ 
 ∀m39:M,(m39=(M.new m37 (AO.cells 1 [(Il x38)] false))) → 
 (ifB (cmC c22) ((ldC m39 (.ptr m1.nxt 0))=(some c22)) False)∧∃c40:C,
 ∃m41:M,(ApR prog 29 m39 c22 (.sl m37.nxt 0 1 0 (some 1)) c40 m41) ∧ 
 isPt (.ptr m1.nxt 0)∧∃m42:M,((stC m41 (.ptr m1.nxt 0) 1 [c40])=(some m42)) ∧ 
 ∃x43 x44 x45 x46 x47 x48,
 ((ldA m42 (.ptr m2.nxt 0) 6)=(some [(Il x43),(Il x44),
 (Il x45),(Il x46),(Il x47),(Il x48)])) ∧ 
 ∃c49:C,∃x50 x51,∃c52:C,∃c53:C,((ldA m42 (.ptr m.nxt 0) 5)=(some [c49,
 (Il x50),(Il x51),c52,c53]))∧∃x54,
 ∃x55 x56 x57 x58 x59 x60,
 ∃x61 x62,((ldA m42 (.ptr m9.nxt 0) 9)=(some [(Il x54),
 (Il x55),(Il x56),(Il x57),(Il x58),
 (Il x59),(Il x60),(Il x61),(Il x62)])) ∧ 
 ∃n63:Nat,(x8=((n63:Nat):Int))∧(n63 < (slLen a200))∧∃x64,
 ∃x65 x66,((ldA m42 (zl2 a200 (n63 * 3)) 3)=(some [(Il x64),
 (Il x65),(Il x66)]))∧Wc prog tbl 87 [(.agg 5 [c49,
 (Il x50),(Il x51),c52,c53]),(.agg 9 [(Il x54),
 (Il x55),(Il x56),(Il x57),(Il x58),
 (Il x59),(Il x60),(Il x61),(Il x62)]),
 (.agg 3 [(Il x64),(Il x65),(Il x66)])] m42 (fun v67 m68 => 
 ∃x69 x70,(v67=(.agg 2 [(Il x69),(Il x70)])) ∧ 
 ((ldA m68 (.ptr m2.nxt 0) 6)=(some [(Il x43),(Il x44),
 (Il x45),(Il x46),(Il x47),(Il x48)])) ∧ 
 Wc prog tbl 86 [(.agg 6 [(Il x43),(Il x44),
 (Il x45),(Il x46),(Il x47),(Il x48)]),
 (.agg 2 [(Il x69),(Il x70)])] m68 (fun v71 m72 => 
 ∃x73 x74 x75 x76 x77 x78,
 (v71=(.agg 6 [(Il x73),(Il x74),(Il x75),
 (Il x76),(Il x77),(Il x78)])) ∧ 
 ∃m79:M,((stC m72 (.ptr m2.nxt 0) 6 [(Il x73),(Il x74),
 (Il x75),(Il x76),(Il x77),(Il x78)])=(some m79)) ∧ 
 zl0 .i64 (x8+1)∧R7 [(.c (Il (x8+1)))] m79)))) (∃x80,
 ∃x81 x82 x83 x84 x85,((ldA m9 (.ptr m2.nxt 0) 6)=(some [(Il x80),
 (Il x81),(Il x82),(Il x83),(Il x84),
 (Il x85)]))∧Wc prog tbl 69 [(.agg 6 [(Il x80),
 (Il x81),(Il x82),(Il x83),(Il x84),
 (Il x85)])] m9 (fun v86 m87=>∃x88,(v86=(.c (Il x88))) ∧ 
 ∃x89 x90 x91 x92 x93 x94,
 ((ldA m87 (.ptr m2.nxt 0) 6)=(some [(Il x89),(Il x90),
 (Il x91),(Il x92),(Il x93),(Il x94)])) ∧ 
 ((ldA m9 (.ptr m2.nxt 0) 6)=(some [(Il x89),(Il x90),
 (Il x91),(Il x92),(Il x93),(Il x94)])) ∧ 
 Wc prog tbl 70 [(.agg 6 [(Il x89),(Il x90),
 (Il x91),(Il x92),(Il x93),(Il x94)])] m87 (fun v95 m96 => 
 ∃x97,(v95=(.c (Il x97)))∧∃x98 x99,
 ∃x100 x101 x102 x103,((ldA m96 (.ptr m2.nxt 0) 6)=(some [(Il x98),
 (Il x99),(Il x100),(Il x101),
 (Il x102),(Il x103)]))∧((ldA m87 (.ptr m2.nxt 0) 6)=(some [(Il x98),
 (Il x99),(Il x100),(Il x101),
 (Il x102),(Il x103)]))∧((ldA m9 (.ptr m2.nxt 0) 6)=(some [(Il x98),
 (Il x99),(Il x100),(Il x101),
 (Il x102),(Il x103)]))∧Wc prog tbl 71 [(.agg 6 [(Il x98),
 (Il x99),(Il x100),(Il x101),
 (Il x102),(Il x103)])] m96 (fun v104 m105=>∃x106,
 (v104=(.c (Il x106)))∧isPt (.ptr m1.nxt 0)∧∃m107:M,
 ((stC m105 (.ptr m1.nxt 1) 1 [(Il x88)])=(some m107)) ∧ 
 isPt (.ptr m1.nxt 0)∧∃m108:M,((stC m107 (.ptr m1.nxt 2) 1 [(Il x97)])=(some m108)) ∧ 
 isPt (.ptr m1.nxt 0)∧∃m109:M,((stC m108 (.ptr m1.nxt 3) 1 [(Il x106)])=(some m109)) ∧ 
 ∃c110:C,∃x111 x112 x113,((ldA m109 (.ptr m1.nxt 0) 4)=(some [c110,
 (Il x111),(Il x112),(Il x113)])) ∧ 
 ∃m114:M,((stC m109 (.ptr m0.nxt 0) 4 [c110,(Il x111),
 (Il x112),(Il x113)])=(some m114)) ∧ 
 ∃c115:C,∃x116 x117 x118,((ldA m114 (.ptr m0.nxt 0) 4)=(some [c115,
 (Il x116),(Il x117),(Il x118)])) ∧ 
 Q (.agg 4 [c115,(Il x116),(Il x117),(Il x118)]) m114))))) → 
 R7 [(.c (Il x8))] m9)→R7 [(.c (Il 0))] m5)):Wc prog tbl 56 [(.agg 5 [a100,(Il a101),(Il a102),a103,a104]),(.c a200)] m Q:=
 zpB (n:=2) rfl (by kernel_rfl) (by kernel_rfl) h
theorem w64{a100:Int}{a101:Int}{a102:Int}{a103:Int}{a104:Int}{a105:Int}{a106:Int}{a107:Int}{a108:Int}{m:M}{Q:V→M→Prop}(h :
 (∀m0:M,(m0=(M.new m (AO.cells 9 [(Il a100),(Il a101),(Il a102),
 (Il a103),(Il a104),(Il a105),(Il a106),
 (Il a107),(Il a108)] false)))→∀m1:M,(m1=(M.new m0 (AO.cells 101 [(.bool false),
 (.bool false),(.bool false),(.bool false),(.bool false),(.bool false),(.bool false),(.bool false),
 (.bool false),(.bool false),(.bool false),(.bool false),(.bool false),(.bool false),(.bool false),
 (.bool false),(.bool false),(.bool false),(.bool false),(.bool false),(.bool false),(.bool false),
 (.bool false),(.bool false),(.bool false),(.bool false),(.bool false),(.bool false),(.bool false),
 (.bool false),(.bool false),(.bool false),(.bool false),(.bool false),(.bool false),(.bool false),
 (.bool false),(.bool false),(.bool false),(.bool false),(.bool false),(.bool false),(.bool false),
 (.bool false),(.bool false),(.bool false),(.bool false),(.bool false),(.bool false),(.bool false),
 (.bool false),(.bool false),(.bool false),(.bool false),(.bool false),(.bool false),(.bool false),
 (.bool false),(.bool false),(.bool false),(.bool false),(.bool false),(.bool false),(.bool false),
 (.bool false),(.bool false),(.bool false),(.bool false),(.bool false),(.bool false),(.bool false),
 (.bool false),(.bool false),(.bool false),(.bool false),(.bool false),(.bool false),(.bool false),
 (.bool false),(.bool false),(.bool false),(.bool false),(.bool false),(.bool false),(.bool false),
 (.bool false),(.bool false),(.bool false),(.bool false),(.bool false),(.bool false),(.bool false),
 (.bool false),(.bool false),(.bool false),(.bool false),(.bool false),(.bool false),(.bool false),
 (.bool false),(.bool false)] false)))→∀m2:M,(m2=(M.new m1 (AO.cells 101 [(.bool false),
 (.bool false),(.bool false),(.bool false),(.bool false),(.bool false),(.bool false),(.bool false),
 (.bool false),(.bool false),(.bool false),(.bool false),(.bool false),(.bool false),(.bool false),
 (.bool false),(.bool false),(.bool false),(.bool false),(.bool false),(.bool false),(.bool false),
 (.bool false),(.bool false),(.bool false),(.bool false),(.bool false),(.bool false),(.bool false),
 (.bool false),(.bool false),(.bool false),(.bool false),(.bool false),(.bool false),(.bool false),
 (.bool false),(.bool false),(.bool false),(.bool false),(.bool false),(.bool false),(.bool false),
 (.bool false),(.bool false),(.bool false),(.bool false),(.bool false),(.bool false),(.bool false),
 (.bool false),(.bool false),(.bool false),(.bool false),(.bool false),(.bool false),(.bool false),
 (.bool false),(.bool false),(.bool false),(.bool false),(.bool false),(.bool false),(.bool false),
 (.bool false),(.bool false),(.bool false),(.bool false),(.bool false),(.bool false),(.bool false),
 (.bool false),(.bool false),(.bool false),(.bool false),(.bool false),(.bool false),(.bool false),
 (.bool false),(.bool false),(.bool false),(.bool false),(.bool false),(.bool false),(.bool false),
 (.bool false),(.bool false),(.bool false),(.bool false),(.bool false),(.bool false),(.bool false),
 (.bool false),(.bool false),(.bool false),(.bool false),(.bool false),(.bool false),(.bool false),
 (.bool false),(.bool false)] false)))→∃x3 x4 x5 x6 x7,
 ∃x8 x9 x10 x11,((ldA m2 (.ptr m.nxt 0) 9)=(some [(Il x3),
 (Il x4),(Il x5),(Il x6),(Il x7),
 (Il x8),(Il x9),(Il x10),(Il x11)])) ∧ 
 Wc prog tbl 98 [(.agg 9 [(Il x3),(Il x4),(Il x5),
 (Il x6),(Il x7),(Il x8),(Il x9),
 (Il x10),(Il x11)])] m2 (fun v12 m13=>∃c14:C,(v12=(.c c14)) ∧ 
 zoA prog tbl c14 m13 (fun l15 m16 R17 R18=>∃x19 x20 x21,
 (l15=[(.agg 3 [(Il x19),(Il x20),(Il x21)])]) ∧ 
 ∀m22:M,(m22=(M.new m16 (AO.cells 3 [(Il 0),(Il 0),
 (Il 0)] false)))→∃m23:M,((stC m22 (.ptr m16.nxt 0) 3 [(Il x19),
 (Il x20),(Il x21)])=(some m23))∧R17 m23 (fun m24 => 
 ∃x25 x26 x27 x28 x29 x30,
 ∃x31 x32 x33,((ldA m24 (.ptr m.nxt 0) 9)=(some [(Il x25),
 (Il x26),(Il x27),(Il x28),(Il x29),
 (Il x30),(Il x31),(Il x32),(Il x33)])) ∧ 
 ∃x34 x35 x36,((ldA m24 (.ptr m16.nxt 0) 3)=(some [(Il x34),
 (Il x35),(Il x36)]))∧Wc prog tbl 85 [(.agg 9 [(Il x25),
 (Il x26),(Il x27),(Il x28),(Il x29),
 (Il x30),(Il x31),(Il x32),(Il x33)]),
 (.agg 3 [(Il x34),(Il x35),(Il x36)])] m24 (fun v37 m38 => 
 ∃x39,(v37=(.c (Il x39)))∧isPt (.ptr m1.nxt 0) ∧ 
 ∃n40:Nat,(x39=((n40:Nat):Int))∧(n40 < 101)∧∃m41:M,((stC m38 (.ptr m1.nxt (0+(n40 * 1))) 1 [(.bool true)])=(some m41)) ∧ 
 R18 Ex.nrm m41))) (zoq.mk (fun m42=>∃l43:List C,
 ((ldA m42 (.ptr m1.nxt 0) 101)=(some l43))∧∃m44:M,((stC m42 (.ptr m0.nxt 0) 101 l43)=(some m44)) ∧ 
 ∃l45:List C,((ldA m44 (.ptr m0.nxt 0) 101)=(some l45))∧Q (.agg 101 l45) m44) [] (fun m46 => 
 ∃l47:List C,((ldA m46 (.ptr m0.nxt 0) 101)=(some l47))∧Q (.agg 101 l47) m46))))):Wc prog tbl 64 [(.agg 9 [(Il a100),(Il a101),(Il a102),(Il a103),(Il a104),(Il a105),(Il a106),(Il a107),(Il a108)])] m Q:=
 zpB (n:=1) rfl (by kernel_rfl) (by kernel_rfl) h
theorem w69{a100:Int}{a101:Int}{a102:Int}{a103:Int}{a104:Int}{a105:Int}{m:M}{Q:V→M→Prop}(h :
 (∀m0:M,(m0=(M.new m (AO.cells 6 [(Il a100),(Il a101),(Il a102),
 (Il a103),(Il a104),(Il a105)] false)))→isPt (.ptr m.nxt 0) ∧ 
 ∃x1,((ldC m0 (.ptr m.nxt 1))=(some (Il x1)))∧Q (.c (Il x1)) m0)):Wc prog tbl 69 [(.agg 6 [(Il a100),(Il a101),(Il a102),(Il a103),(Il a104),(Il a105)])] m Q:=
 zpB (n:=1) rfl (by kernel_rfl) (by kernel_rfl) h
theorem w73{a100:Int}{a101:Int}{a102:Int}{a103:Int}{a104:Int}{a105:Int}{m:M}{Q:V→M→Prop}(h :
 (∀m0:M,(m0=(M.new m (AO.cells 6 [(Il a100),(Il a101),(Il a102),
 (Il a103),(Il a104),(Il a105)] false)))→∃x1,
 ∃x2 x3 x4 x5 x6,((ldA m0 (.ptr m.nxt 0) 6)=(some [(Il x1),
 (Il x2),(Il x3),(Il x4),(Il x5),
 (Il x6)]))∧Wc prog tbl 69 [(.agg 6 [(Il x1),(Il x2),
 (Il x3),(Il x4),(Il x5),(Il x6)])] m0 (fun v7 m8 => 
 ∃x9,(v7=(.c (Il x9)))∧∃x10 x11 x12 x13,
 ∃x14 x15,((ldA m8 (.ptr m.nxt 0) 6)=(some [(Il x10),
 (Il x11),(Il x12),(Il x13),(Il x14),
 (Il x15)]))∧((ldA m0 (.ptr m.nxt 0) 6)=(some [(Il x10),
 (Il x11),(Il x12),(Il x13),(Il x14),
 (Il x15)]))∧Wc prog tbl 71 [(.agg 6 [(Il x10),(Il x11),
 (Il x12),(Il x13),(Il x14),(Il x15)])] m8 (fun v16 m17 => 
 ∃x18,(v16=(.c (Il x18)))∧zl0 .i64 (x9+x18) ∧ 
 Q (.c (Il (x9+x18))) m17)))):Wc prog tbl 73 [(.agg 6 [(Il a100),(Il a101),(Il a102),(Il a103),(Il a104),(Il a105)])] m Q:=
 zpB (n:=1) rfl (by kernel_rfl) (by kernel_rfl) h
theorem w81{a100:Int}{a101:Int}{a102:Int}{a103:Int}{a104:Int}{a105:Int}{a200:Int}{a201:Int}{m:M}{Q:V→M→Prop}(h :
 (∀m0:M,(m0=(M.new m (AO.cells 6 [(Il a100),(Il a101),(Il a102),
 (Il a103),(Il a104),(Il a105)] false)))→∀m1:M,(m1=(M.new m0 (AO.cells 2 [(Il a200),
 (Il a201)] false)))→isPt (.ptr m.nxt 0)∧∃x2 x3,((ldA m1 (.ptr m.nxt 2) 2)=(some [(Il x2),
 (Il x3)]))∧isPt (.ptr m0.nxt 0)∧∃x4,((ldC m1 (.ptr m0.nxt 0))=(some (Il x4))) ∧ 
 Wc prog tbl 109 [(.agg 2 [(Il x2),(Il x3)]),(.c (Il x4))] m1 (fun v5 m6 => 
 ∃b7:Bool,(v5=(.c (.bool b7)))∧ifB b7 (isPt (.ptr m.nxt 0)∧∃x8 x9,
 ((ldA m6 (.ptr m.nxt 4) 2)=(some [(Il x8),(Il x9)])) ∧ 
 isPt (.ptr m0.nxt 0)∧∃x10,((ldC m6 (.ptr m0.nxt 1))=(some (Il x10))) ∧ 
 Wc prog tbl 109 [(.agg 2 [(Il x8),(Il x9)]),(.c (Il x10))] m6 (fun v11 m12 => 
 ∃b13:Bool,(v11=(.c (.bool b13)))∧Q (.c (.bool b13)) m12)) (Q (.c (.bool false)) m6)))):Wc prog tbl 81 [(.agg 6 [(Il a100),(Il a101),(Il a102),(Il a103),(Il a104),(Il a105)]),(.agg 2 [(Il a200),(Il a201)])] m Q:=
 zpB (n:=2) rfl (by kernel_rfl) (by kernel_rfl) h
theorem w85{a100:Int}{a101:Int}{a102:Int}{a103:Int}{a104:Int}{a105:Int}{a106:Int}{a107:Int}{a108:Int}{a200:Int}{a201:Int}{a202:Int}{m:M}{Q:V→M→Prop}(h :
 (∀m0:M,(m0=(M.new m (AO.cells 9 [(Il a100),(Il a101),(Il a102),
 (Il a103),(Il a104),(Il a105),(Il a106),
 (Il a107),(Il a108)] false)))→∀m1:M,(m1=(M.new m0 (AO.cells 3 [(Il a200),
 (Il a201),(Il a202)] false)))→∃x2 x3 x4,
 ∃x5 x6 x7 x8 x9 x10,((ldA m1 (.ptr m.nxt 0) 9)=(some [(Il x2),
 (Il x3),(Il x4),(Il x5),(Il x6),
 (Il x7),(Il x8),(Il x9),(Il x10)])) ∧ 
 ∃x11 x12 x13,((ldA m1 (.ptr m0.nxt 0) 3)=(some [(Il x11),
 (Il x12),(Il x13)]))∧Wc prog tbl 99 [(.agg 9 [(Il x2),
 (Il x3),(Il x4),(Il x5),(Il x6),
 (Il x7),(Il x8),(Il x9),(Il x10)]),
 (.agg 3 [(Il x11),(Il x12),(Il x13)])] m1 (fun v14 m15 => 
 ∃b16:Bool,(v14=(.c (.bool b16)))∧ifB (!b16) (isPt (.ptr m0.nxt 0)∧∃x17,
 ((ldC m15 (.ptr m0.nxt 0))=(some (Il x17)))∧isPt (.ptr m0.nxt 0) ∧ 
 ∃x18,((ldC m15 (.ptr m0.nxt 1))=(some (Il x18))) ∧ 
 zl0 .i64 (x17+x18)∧((0:Int)≤(x17+x18))∧((0:Int) < (2:Int)) ∧ 
 zl0 .i64 ((x17+x18) / (2:Int))∧Q (.c (Il ((x17+x18) / (2:Int)))) m15) (isPt (.ptr m0.nxt 0) ∧ 
 ∃x19,((ldC m15 (.ptr m0.nxt 2))=(some (Il x19))) ∧ 
 isPt (.ptr m0.nxt 0)∧∃x20,((ldC m15 (.ptr m0.nxt 0))=(some (Il x20))) ∧ 
 isPt (.ptr m0.nxt 0)∧∃x21,((ldC m15 (.ptr m0.nxt 1))=(some (Il x21))) ∧ 
 isPt (.ptr m0.nxt 0)∧∃x22,((ldC m15 (.ptr m0.nxt 0))=(some (Il x22))) ∧ 
 isPt (.ptr m0.nxt 0)∧∃x23,((ldC m15 (.ptr m0.nxt 1))=(some (Il x23))) ∧ 
 Q (.c (Il (Min.min (Max.max x19 (Min.min x20 x21)) (Max.max x22 x23)))) m15)))):Wc prog tbl 85 [(.agg 9 [(Il a100),(Il a101),(Il a102),(Il a103),(Il a104),(Il a105),(Il a106),(Il a107),(Il a108)]),(.agg 3 [(Il a200),(Il a201),(Il a202)])] m Q:=
 zpB (n:=2) rfl (by kernel_rfl) (by kernel_rfl) h
theorem w89{a100:C}{m:M}{Q:V→M→Prop}(h :
 (∃n0:Nat,((0:Int)=((n0:Nat):Int))∧(n0 < (slLen a100))∧isPt (zl2 a100 (n0 * 6))∧∃c1:C,
 ((ldC m (zl1 (zl2 a100 (n0 * 6)) 5))=(some c1))∧isSl c1∧Q (.c (Il (((slLen c1):Nat):Int))) m)):Wc prog tbl 89 [(.c a100)] m Q:=
 zpB (n:=1) rfl (by kernel_rfl) (by kernel_rfl) h
theorem w93{a100:Int}{a101:Int}{a200:Int}{m:M}{Q:V→M→Prop}(h :
 (∀m0:M,(m0=(M.new m (AO.cells 2 [(Il a100),(Il a101)] false)))→isPt (.ptr m.nxt 0) ∧ 
 ∃x1,((ldC m0 (.ptr m.nxt 0))=(some (Il x1)))∧ifB (decide (x1≤a200)) (isPt (.ptr m.nxt 0) ∧ 
 ∃x2,((ldC m0 (.ptr m.nxt 1))=(some (Il x2)))∧Q (.c (.bool (decide (a200≤x2)))) m0) (Q (.c (.bool false)) m0))):Wc prog tbl 93 [(.agg 2 [(Il a100),(Il a101)]),(.c (Il a200))] m Q:=
 zpB (n:=2) rfl (by kernel_rfl) (by kernel_rfl) h
theorem w97{a100:C}{a101:Int}{a102:Int}{a103:C}{a200:Int}{m:M}{Q:V→M→Prop}(h :
 (∀m0:M,(m0=(M.new m (AO.cells 4 [a100,(Il a101),(Il a102),a103] false))) → 
 isPt (.ptr m.nxt 0)∧∃c1:C,((ldC m0 (.ptr m.nxt 3))=(some c1))∧isSl c1∧zl0 .i64 ((((slLen c1):Nat):Int) - (1:Int)) ∧ 
 Wc prog tbl 93 [(.agg 2 [(Il 0),(Il ((((slLen c1):Nat):Int) - (1:Int)))]),
 (.c (Il a200))] m0 (fun v2 m3=>∃b4:Bool,(v2=(.c (.bool b4)))∧Q (.c (.bool b4)) m3))):Wc prog tbl 97 [(.agg 4 [a100,(Il a101),(Il a102),a103]),(.c (Il a200))] m Q:=
 zpB (n:=2) rfl (by kernel_rfl) (by kernel_rfl) h
theorem zu9{a100:C}{m:M}{Q:V→M→Prop}(h :
 (isSl a100∧ifB (decide ((((slLen a100):Nat):Int)=(0:Int))) (Q (.c (Il 0)) m) (∃n0:Nat,
 ((0:Int)=((n0:Nat):Int))∧(n0 < (slLen a100))∧∃x1,((ldC m (zl2 a100 (n0 * 1)))=(some (Il x1))) ∧ 
 isSl a100∧∀R2:List V→M→Prop,(∀x3:Int,∀x4:Int,∀m5:M,(ifB (decide (x4 < (((slLen a100):Nat):Int))) (∃n6:Nat,
 (x4=((n6:Nat):Int))∧(n6 < (slLen a100))∧∃x7,((ldC m5 (zl2 a100 (n6 * 1)))=(some (Il x7))) ∧ 
 ifB (decide (x7 < x3)) (zl0 .i64 (x4+1)∧R2 [(.c (Il x7)),
 (.c (Il (x4+1)))] m5) (zl0 .i64 (x4+1) ∧ 
 R2 [(.c (Il x3)),(.c (Il (x4+1)))] m5)) (Q (.c (Il x3)) m5)) → 
 R2 [(.c (Il x3)),(.c (Il x4))] m5)→R2 [(.c (Il x1)),
 (.c (Il 0))] m))):Wc prog tbl 101 [(.c a100)] m Q:=
 zpB (n:=1) rfl (by kernel_rfl) (by kernel_rfl) h
theorem zva{a100:C}{m:M}{Q:V→M→Prop}(h :
 (∀m0:M,(m0=(M.new m (AO.cells 2 [C.sl0,C.map0] false)))→Wc prog tbl 58 [(.c a100)] m0 (fun v1 m2 => 
 ∃x3,(v1=(.c (Il x3)))∧ifB (!decide (x3=0)) (∃m4:M,((stC m2 (.ptr m.nxt 0) 2 [C.sl0,
 C.map0])=(some m4))∧∃c5:C,∃c6:C,((ldA m4 (.ptr m.nxt 0) 2)=(some [c5,
 c6]))∧Q (.tup [(.agg 2 [c5,c6]),(.c (Il x3))]) m4) (∀m7:M,(m7=(M.new m2 (AO.map [] 0))) → 
 ∃m8:M,((stC m7 (.ptr m.nxt 0) 2 [a100,(C.map m2.nxt)])=(some m8))∧∃c9:C,
 ∃c10:C,((ldA m8 (.ptr m.nxt 0) 2)=(some [c9,c10]))∧Q (.tup [(.agg 2 [c9,
 c10]),(.c (Il 0))]) m8)))):Wc prog tbl 106 [(.c a100)] m Q:=
 zpB (n:=1) rfl (by kernel_rfl) (by kernel_rfl) h
theorem zvb{a100:C}{a101:C}{a200:Int}{a201:Int}{a202:Int}{m:M}{Q:V→M→Prop}(h :
 (∀m0:M,(m0=(M.new m (AO.cells 2 [a100,a101] false)))→∀m1:M,(m1=(M.new m0 (AO.cells 3 [(Il a200),
 (Il a201),(Il a202)] false)))→isPt (.ptr m.nxt 0)∧∃c2:C,
 ((ldC m1 (.ptr m.nxt 1))=(some c2))∧∃x3 x4 x5,((ldA m1 (.ptr m0.nxt 0) 3)=(some [(Il x3),
 (Il x4),(Il x5)]))∧∃y6:Option U,((lkM prog 183 m1 c2 (.agg 3 [(Il x3),
 (Il x4),(Il x5)]))=(some y6))∧((y6=Option.none) → 
 isPt (.ptr m.nxt 0)∧∃c7:C,((ldC m1 (.ptr m.nxt 0))=(some c7))∧isPt (.ptr m0.nxt 0) ∧ 
 isPt (.ptr m0.nxt 0)∧∃x8,((ldC m1 (.ptr m0.nxt 0))=(some (Il x8))) ∧ 
 Wc prog tbl 140 [(.c c7),(.c (Il x8))] m1 (fun v9 m10=>∃x11,
 ∃b12:Bool,∃x13,∃c14:C,∃c15:C,∃c16:C,(v9=(.agg 6 [(Il x11),
 (.bool b12),(Il x13),c14,c15,c16]))∧∃x17 x18,
 ∃x19,((ldA m10 (.ptr m0.nxt 0) 3)=(some [(Il x17),
 (Il x18),(Il x19)]))∧((ldA m1 (.ptr m0.nxt 0) 3)=(some [(Il x17),
 (Il x18),(Il x19)]))∧Wc prog tbl 141 [(.agg 6 [(Il x11),
 (.bool b12),(Il x13),c14,c15,c16]),(.agg 3 [(Il x17),
 (Il x18),(Il x19)])] m10 (fun v20 m21=>∃x22,
 (v20=(.c (Il x22)))∧isPt (.ptr m.nxt 0)∧∃c23:C,
 ((ldC m21 (.ptr m.nxt 1))=(some c23))∧∃x24 x25,
 ∃x26,((ldA m21 (.ptr m0.nxt 0) 3)=(some [(Il x24),
 (Il x25),(Il x26)]))∧∃m27:M,((upM prog 183 m21 c23 (.agg 3 [(Il x24),
 (Il x25),(Il x26)]) (.c (Il x22)))=(some m27)) ∧ 
 Q (.c (Il x22)) m27)))∧∀u28:U,
 (y6=(some u28))→∃x29,(u28=(.c (Il x29)))∧Q (.c (Il x29)) m1)):Wc prog tbl 110 [(.agg 2 [a100,a101]),(.agg 3 [(Il a200),(Il a201),(Il a202)])] m Q:=
 zpB (n:=2) rfl (by kernel_rfl) (by kernel_rfl) h
theorem zvc{a100:C}{a200:C}{m:M}{Q:V→M→Prop}(h :
 (Wc prog tbl 144 [(.c a100),(.c a200)] m (fun v0 m1=>∃x2,(v0=(.c (Il x2)))∧Q (.c (.bool (decide ((0:Int)≤x2)))) m1))):Wc prog tbl 114 [(.c a100),(.c a200)] m Q:=
 zpB (n:=2) rfl (by kernel_rfl) (by kernel_rfl) h
theorem zvd{a100:C}{m:M}{Q:V→M→Prop}(h :
 (isSl a100∧∀R0:List V→M→Prop,(∀b1:Bool,∀x2:Int,∀m3:M,(ifB (decide (x2 < (((slLen a100):Nat):Int))) (∃n4:Nat,
 (x2=((n4:Nat):Int))∧(n4 < (slLen a100))∧∃x5,((ldC m3 (zl2 a100 (n4 * 1)))=(some (Il x5))) ∧ 
 ifB (decide ((0:Int) < x2)) (zl0 .i64 (x2 - 1)∧∃n6:Nat,((x2 - 1)=((n6:Nat):Int)) ∧ 
 (n6 < (slLen a100))∧∃x7,((ldC m3 (zl2 a100 (n6 * 1)))=(some (Il x7))) ∧ 
 ifB (decide (x5≤x7)) (Q (.c (.bool false)) m3) (zl0 .i64 (x2+1) ∧ 
 R0 [(.c (.bool b1)),(.c (Il (x2+1)))] m3)) (zl0 .i64 (x2+1) ∧ 
 R0 [(.c (.bool b1)),(.c (Il (x2+1)))] m3)) (isSl a100 ∧ 
 ifB (decide ((0:Int) < (((slLen a100):Nat):Int))) (∃n8:Nat,((0:Int)=((n8:Nat):Int)) ∧ 
 (n8 < (slLen a100))∧∃x9,((ldC m3 (zl2 a100 (n8 * 1)))=(some (Il x9))) ∧ 
 Q (.c (.bool (decide (x9=0)))) m3) (Q (.c (.bool false)) m3)))→R0 [(.c (.bool b1)),
 (.c (Il x2))] m3)→R0 [(.c (.bool false)),(.c (Il 0))] m)):Wc prog tbl 118 [(.c a100)] m Q:=
 zpB (n:=1) rfl (by kernel_rfl) (by kernel_rfl) h
theorem zve{a100:C}{a101:Int}{a102:Int}{a103:C}{a200:Int}{a201:Int}{a202:Int}{a203:Int}{a204:Int}{a205:Int}{a206:Int}{a207:Int}{a208:Int}{m:M}{Q:V→M→Prop}(h :
 (∀m0:M,(m0=(M.new m (AO.cells 4 [a100,(Il a101),(Il a102),a103] false))) → 
 ∀m1:M,(m1=(M.new m0 (AO.cells 9 [(Il a200),(Il a201),(Il a202),
 (Il a203),(Il a204),(Il a205),(Il a206),
 (Il a207),(Il a208)] false)))→∀m2:M,(m2=(zn2 m1 1))→isPt (.ptr m.nxt 0) ∧ 
 ∃c3:C,((ldC m2 (.ptr m.nxt 0))=(some c3))∧∃c4:C,∃x5 x6,∃c7:C,
 ((ldA m2 (.ptr m.nxt 0) 4)=(some [c4,(Il x5),(Il x6),
 c7]))∧∃x8 x9 x10 x11 x12 x13,
 ∃x14 x15 x16,((ldA m2 (.ptr m0.nxt 0) 9)=(some [(Il x8),
 (Il x9),(Il x10),(Il x11),(Il x12),
 (Il x13),(Il x14),(Il x15),(Il x16)])) ∧ 
 Wc prog tbl 142 [(.agg 4 [c4,(Il x5),(Il x6),c7]),
 (.agg 9 [(Il x8),(Il x9),(Il x10),
 (Il x11),(Il x12),(Il x13),(Il x14),
 (Il x15),(Il x16)]),(.c (Il 0))] m2 (fun v17 m18 => 
 ∃x19 x20 x21 x22 x23 x24,
 (v17=(.agg 6 [(Il x19),(Il x20),(Il x21),
 (Il x22),(Il x23),(Il x24)])) ∧ 
 (ifB (cmC c3) ((ldC m18 (.ptr m.nxt 0))=(some c3)) False)∧Wc prog tbl 152 [(.c c3),
 (.agg 6 [(Il x19),(Il x20),(Il x21),
 (Il x22),(Il x23),(Il x24)])] m18 (fun v25 m26 => 
 ∃x27 x28 x29,(v25=(.tup [(.agg 2 [(Il x27),
 (Il x28)]),(.c (Il x29))]))∧∀m30:M,(m30=(M.set m26 (m1.nxt+0) (AO.cells 2 [(Il 0),
 (Il 0)] false)))→((ldA m30 (.ptr m0.nxt 0) 9)=(some [(Il x8),
 (Il x9),(Il x10),(Il x11),(Il x12),
 (Il x13),(Il x14),(Il x15),(Il x16)])) ∧ 
 (ifB (zaL cmC [c4,(Il x5),(Il x6),c7]) ((ldA m30 (.ptr m.nxt 0) 4)=(some [c4,
 (Il x5),(Il x6),c7])) False)∧(ifB (cmC c3) ((ldC m30 (.ptr m.nxt 0))=(some c3)) False) ∧ 
 ∃m31:M,((stC m30 (.ptr (m1.nxt+0) 0) 2 [(Il x27),(Il x28)])=(some m31)) ∧ 
 Q (.c (.bool (decide (x29=0)))) m31)))):Wc prog tbl 123 [(.agg 4 [a100,(Il a101),(Il a102),a103]),(.agg 9 [(Il a200),(Il a201),(Il a202),(Il a203),(Il a204),(Il a205),(Il a206),(Il a207),(Il a208)])] m Q:=
 zpB (n:=2) rfl (by kernel_rfl) (by kernel_rfl) h
theorem zvf{a100:C}{a200:C}{m:M}{Q:V→M→Prop}(h :
 (Wc prog tbl 157 [(.c a100),(.c a200)] m (fun v0 m1=>∃x2,(v0=(.c (Il x2)))∧Q (.c (.bool (decide ((0:Int)≤x2)))) m1))):Wc prog tbl 134 [(.c a100),(.c a200)] m Q:=
 zpB (n:=2) rfl (by kernel_rfl) (by kernel_rfl) h
theorem zvg{a100:Int}{m:M}{Q:V→M→Prop}(h :
 (Wc prog tbl 109 [(.agg 2 [(Il 0),(Il (100:Int))]),(.c (Il a100))] m (fun v0 m1 => 
 ∃b2:Bool,(v0=(.c (.bool b2)))∧Q (.c (.bool b2)) m1))):Wc prog tbl 139 [(.c (Il a100))] m Q:=
 zpB (n:=1) rfl (by kernel_rfl) (by kernel_rfl) h
theorem zvh{a100:C}{a200:Int}{m:M}{Q:V→M→Prop}(h :
 (∀R0:List V→M→Prop,(∀b1:Bool,∀x2:Int,∀m3:M,(isSl a100∧ifB (decide (x2 < (((slLen a100):Nat):Int))) (∃n4:Nat,
 (x2=((n4:Nat):Int))∧(n4 < (slLen a100))∧∃x5,((ldC m3 (zl2 a100 (n4 * 1)))=(some (Il x5))) ∧ 
 Wc prog tbl 48 [(.c (Il x5)),(.c (Il 0)),(.c (Il a200))] m3 (fun v6 m7 => 
 ∃b8:Bool,(v6=(.c (.bool b8)))∧ifB (!b8) (Q (.c (.bool false)) m7) (ifB (decide ((0:Int) < x2)) (∃n9:Nat,
 (x2=((n9:Nat):Int))∧(n9 < (slLen a100))∧∃x10,((ldC m7 (zl2 a100 (n9 * 1)))=(some (Il x10))) ∧ 
 zl0 .i64 (x2 - 1)∧∃n11:Nat,((x2 - 1)=((n11:Nat):Int)) ∧ 
 (n11 < (slLen a100))∧∃x12,((ldC m7 (zl2 a100 (n11 * 1)))=(some (Il x12))) ∧ 
 ifB (decide (x10≤x12)) (Q (.c (.bool false)) m7) (zl0 .i64 (x2+1) ∧ 
 R0 [(.c (.bool b1)),(.c (Il (x2+1)))] m7)) (zl0 .i64 (x2+1) ∧ 
 R0 [(.c (.bool b1)),(.c (Il (x2+1)))] m7)))) (isSl a100 ∧ 
 ifB (decide ((0:Int) < (((slLen a100):Nat):Int))) (∃n13:Nat,((0:Int)=((n13:Nat):Int)) ∧ 
 (n13 < (slLen a100))∧∃x14,((ldC m3 (zl2 a100 (n13 * 1)))=(some (Il x14))) ∧ 
 Q (.c (.bool (decide (x14=0)))) m3) (Q (.c (.bool false)) m3)))→R0 [(.c (.bool b1)),
 (.c (Il x2))] m3)→R0 [(.c (.bool false)),(.c (Il 0))] m)):Wc prog tbl 143 [(.c a100),(.c (Il a200))] m Q:=
 zpB (n:=2) rfl (by kernel_rfl) (by kernel_rfl) h
theorem zvi{a100:C}{a200:C}{m:M}{Q:V→M→Prop}(h :
 (∀m0:M,(m0=(M.new m (AO.cells 1 [a200] false)))→Wc prog tbl 163 [(.c a100),(.c (C.fn (Fn.func 164) [] [(W.c (C0.ptr m.nxt 0))]))] m0 (fun v1 m2 => 
 ∃b3:Bool,(v1=(.c (.bool b3)))∧Q (.c (.bool (!b3))) m2))):Wc prog tbl 148 [(.c a100),(.c a200)] m Q:=
 zpB (n:=2) rfl (by kernel_rfl) (by kernel_rfl) h
theorem zvj{a100:C}{a200:Int}{a201:Int}{a202:Int}{a203:Int}{a204:Int}{a205:Int}{m:M}{Q:V→M→Prop}(h :
 (∀m0:M,(m0=(M.new m (AO.cells 6 [(Il a200),(Il a201),(Il a202),
 (Il a203),(Il a204),(Il a205)] false)))→∀m1:M,(m1=(M.new m0 (AO.cells 2 [(Il 0),
 (Il 0)] false)))→∃x2 x3 x4 x5 x6,
 ∃x7,((ldA m1 (.ptr m.nxt 0) 6)=(some [(Il x2),(Il x3),
 (Il x4),(Il x5),(Il x6),(Il x7)])) ∧ 
 ∀m8:M,(m8=(M.new m1 (AO.cells 6 [(Il x2),(Il x3),(Il x4),
 (Il x5),(Il x6),(Il x7)] false)))→Wc prog tbl 80 [(.c a100),
 (.c (.sl m1.nxt 0 1 0 (some 1)))] m8 (fun v9 m10=>∃c11:C,∃c12:C,∃x13,
 (v9=(.tup [(.agg 2 [c11,c12]),(.c (Il x13))]))∧∀m14:M,(m14=(M.new m10 (AO.cells 2 [C.sl0,
 C.map0] false)))→∃m15:M,((stC m14 (.ptr m10.nxt 0) 2 [c11,c12])=(some m15)) ∧ 
 ifB (!decide (x13=0)) (∃m16:M,((stC m15 (.ptr m0.nxt 0) 2 [(Il 0),
 (Il 0)])=(some m16))∧∃x17 x18,
 ((ldA m16 (.ptr m0.nxt 0) 2)=(some [(Il x17),(Il x18)])) ∧ 
 Q (.tup [(.agg 2 [(Il x17),(Il x18)]),(.c (Il x13))]) m16) (∃c19:C,
 ∃c20:C,((ldA m15 (.ptr m10.nxt 0) 2)=(some [c19,c20]))∧∃x21,
 ∃x22 x23 x24 x25 x26,((ldA m15 (.ptr m.nxt 0) 6)=(some [(Il x21),
 (Il x22),(Il x23),(Il x24),(Il x25),
 (Il x26)]))∧Wc prog tbl 169 [(.agg 2 [c19,c20]),(.agg 6 [(Il x21),
 (Il x22),(Il x23),(Il x24),(Il x25),
 (Il x26)])] m15 (fun v27 m28=>∃x29 x30,(v27=(.agg 2 [(Il x29),
 (Il x30)]))∧∃m31:M,((stC m28 (.ptr m0.nxt 0) 2 [(Il x29),
 (Il x30)])=(some m31))∧∃x32 x33,
 ((ldA m31 (.ptr m0.nxt 0) 2)=(some [(Il x32),(Il x33)])) ∧ 
 Q (.tup [(.agg 2 [(Il x32),(Il x33)]),(.c (Il 0))]) m31))))):Wc prog tbl 152 [(.c a100),(.agg 6 [(Il a200),(Il a201),(Il a202),(Il a203),(Il a204),(Il a205)])] m Q:=
 zpB (n:=2) rfl (by kernel_rfl) (by kernel_rfl) h
theorem zvk{a100:C}{a200:C}{m:M}{Q:V→M→Prop}(h :
 (isSl a100∧∀R0:List V→M→Prop,(∀x1:Int,∀x2:Int,∀m3:M,(ifB (decide (x2 < (((slLen a100):Nat):Int))) (∃n4:Nat,
 (x2=((n4:Nat):Int))∧(n4 < (slLen a100))∧∃x5 x6 x7 x8,
 ∃x9 x10,((ldA m3 (zl2 a100 (n4 * 6)) 6)=(some [(Il x5),
 (Il x6),(Il x7),(Il x8),(Il x9),
 (Il x10)]))∧zmq prog tbl [(.agg 6 [(Il x5),(Il x6),
 (Il x7),(Il x8),(Il x9),(Il x10)])] a200 m3 (fun v11 m12 => 
 ∃b13:Bool,(v11=(.c (.bool b13)))∧ifB b13 (Q (.c (Il x2)) m12) (zl0 .i64 (x2+1) ∧ 
 R0 [(.c (Il x1)),(.c (Il (x2+1)))] m12))) (Q (.c (Il (-1:Int))) m3)) → 
 R0 [(.c (Il x1)),(.c (Il x2))] m3)→R0 [(.c (Il 0)),
 (.c (Il 0))] m)):Wc prog tbl 157 [(.c a100),(.c a200)] m Q:=
 zpB (n:=2) rfl (by kernel_rfl) (by kernel_rfl) h
theorem zvl{a100:Int}{a101:Bool}{a102:Int}{a103:C}{a104:C}{a105:C}{m:M}{Q:V→M→Prop}(h :
 (∀m0:M,(m0=(M.new m (AO.cells 6 [(Il a100),(.bool a101),(Il a102),a103,
 a104,a105] false)))→∀m1:M,(m1=(M.new m0 (AO.cells 1 [C.nilFn] false)))→isPt (.ptr m.nxt 0) ∧ 
 ∃b2:Bool,((ldC m1 (.ptr m.nxt 1))=(some (.bool b2)))∧ifB b2 (∃m3:M,((stC m1 (.ptr m0.nxt 0) 1 [(C.fn (Fn.func 173) [] [])])=(some m3)) ∧ 
 ∃c4:C,((ldA m3 (.ptr m0.nxt 0) 1)=(some [c4]))∧Q (.agg 1 [c4]) m3) (∃m5:M,
 ((stC m1 (.ptr m0.nxt 0) 1 [(C.fn (Fn.func 174) [] [])])=(some m5))∧∃c6:C,((ldA m5 (.ptr m0.nxt 0) 1)=(some [c6])) ∧ 
 Q (.agg 1 [c6]) m5))):Wc prog tbl 161 [(.agg 6 [(Il a100),(.bool a101),(Il a102),a103,a104,a105])] m Q:=
 zpB (n:=1) rfl (by kernel_rfl) (by kernel_rfl) h
theorem zvm{a100:C}{a200:C}{m:M}{Q:V→M→Prop}(h :
 (∀m0:M,(m0=(M.new m (AO.cells 1 [a200] false)))→Wc prog tbl 177 [(.c a100),(.c (C.fn (Fn.func 178) [] [(W.c (C0.ptr m.nxt 0))]))] m0 (fun v1 m2 => 
 ∃b3:Bool,(v1=(.c (.bool b3)))∧Q (.c (.bool (!b3))) m2))):Wc prog tbl 167 [(.c a100),(.c a200)] m Q:=
 zpB (n:=2) rfl (by kernel_rfl) (by kernel_rfl) h
theorem zvn{a100:C}{a200:C}{m:M}{Q:V→M→Prop}(h :
 (isSl a100∧∀R0:List V→M→Prop,(∀x1:Int,∀x2:Int,∀m3:M,(ifB (decide (x2 < (((slLen a100):Nat):Int))) (∃n4:Nat,
 (x2=((n4:Nat):Int))∧(n4 < (slLen a100))∧∃x5,((ldC m3 (zl2 a100 (n4 * 1)))=(some (Il x5))) ∧ 
 zmq prog tbl [(.c (Il x5))] a200 m3 (fun v6 m7=>∃b8:Bool,(v6=(.c (.bool b8))) ∧ 
 ifB b8 (Q (.c (Il x2)) m7) (zl0 .i64 (x2+1)∧R0 [(.c (Il x1)),
 (.c (Il (x2+1)))] m7))) (Q (.c (Il (-1:Int))) m3)) → 
 R0 [(.c (Il x1)),(.c (Il x2))] m3)→R0 [(.c (Il 0)),
 (.c (Il 0))] m)):Wc prog tbl 175 [(.c a100),(.c a200)] m Q:=
 zpB (n:=2) rfl (by kernel_rfl) (by kernel_rfl) h
theorem zvo{a100:Int}{a200:Int}{m:M}{Q:V→M→Prop}(h :
 (Wc prog tbl 184 [(.c (Il a100))] m (fun v0 m1=>∃b2:Bool,(v0=(.c (.bool b2)))∧ifB b2 (Wc prog tbl 184 [(.c (Il a200))] m1 (fun v3 m4 => 
 ∃b5:Bool,(v3=(.c (.bool b5)))∧ifB (!b5) (Q (.c (.bool true)) m4) (Q (.c (.bool (decide (a100 < a200)))) m4))) (Q (.c (.bool (decide (a100 < a200)))) m1)))):Wc prog tbl 180 [(.c (Il a100)),(.c (Il a200))] m Q:=
 zpB (n:=2) rfl (by kernel_rfl) (by kernel_rfl) h
theorem w17{m:M}{Q:V→M→Prop}(h :
 (Wc prog tbl 40 [] m (fun v0 m1=>∃c2:C,∃x3 x4,∃c5:C,(v0=(.agg 4 [c2,(Il x3),
 (Il x4),c5]))∧Wc prog tbl 41 [(.c (Il (40:Int))),(.c (Il (35:Int))),
 (.c (Il (17:Int)))] m1 (fun v6 m7=>∃c8:C,(v6=(.c c8))∧Wc prog tbl 18 [(.agg 4 [c2,
 (Il x3),(Il x4),c5]),(.c c8)] m7 (fun v9 m10=>∃c11:C,
 ∃x12 x13 x14 x15,(v9=(.tup [(.agg 4 [c11,(Il x12),
 (Il x13),(Il x14)]),(.c (Il x15))])) ∧ 
 ∀m16:M,(m16=(M.new m10 (AO.cells 4 [C.sl0,(Il 0),(Il 0),
 (Il 0)] false)))→∃m17:M,((stC m16 (.ptr m10.nxt 0) 4 [c11,
 (Il x12),(Il x13),(Il x14)])=(some m17)) ∧ 
 Wc prog tbl 40 [] m17 (fun v18 m19=>∃c20:C,∃x21 x22,∃c23:C,
 (v18=(.agg 4 [c20,(Il x21),(Il x22),c23])) ∧ 
 Wc prog tbl 27 [(.agg 4 [c20,(Il x21),(Il x22),
 c23]),(.c (Il 0))] m19 (fun v24 m25=>∃c26:C,∃x27,
 (v24=(.tup [(.c c26),(.c (Il x27))]))∧Wc prog tbl 40 [] m25 (fun v28 m29 => 
 ∃c30:C,∃x31 x32,∃c33:C,(v28=(.agg 4 [c30,(Il x31),
 (Il x32),c33]))∧Wc prog tbl 28 [(.agg 4 [c30,(Il x31),
 (Il x32),c33]),(.c (Il (1:Int)))] m29 (fun v34 m35 => 
 ∃x36 x37,(v34=(.tup [(.c (Il x36)),(.c (Il x37))])) ∧ 
 Wc prog tbl 40 [] m35 (fun v38 m39=>∃c40:C,∃x41 x42,
 ∃c43:C,(v38=(.agg 4 [c40,(Il x41),(Il x42),
 c43]))∧Wc prog tbl 33 [(.agg 4 [c40,(Il x41),(Il x42),
 c43])] m39 (fun v44 m45=>∃x46 x47 x48,(v44=(.tup [(.agg 2 [(Il x46),
 (Il x47)]),(.c (Il x48))]))∧∀m49:M,(m49=(M.new m45 (AO.cells 2 [(Il 0),
 (Il 0)] false)))→∃m50:M,((stC m49 (.ptr m45.nxt 0) 2 [(Il x46),
 (Il x47)])=(some m50))∧Wc prog tbl 40 [] m50 (fun v51 m52 => 
 ∃c53:C,∃x54 x55,∃c56:C,(v51=(.agg 4 [c53,(Il x54),
 (Il x55),c56]))∧Wc prog tbl 34 [(.agg 4 [c53,(Il x54),
 (Il x55),c56])] m52 (fun v57 m58=>∃x59 x60,
 ∃x61 x62 x63,(v57=(.tup [(.agg 2 [(Il x59),
 (Il x60)]),(.agg 2 [(Il x61),(Il x62)]),
 (.c (Il x63))]))∧∀m64:M,(m64=(M.new m58 (AO.cells 2 [(Il 0),
 (Il 0)] false)))→∀m65:M,(m65=(M.new m64 (AO.cells 2 [(Il 0),
 (Il 0)] false)))→∃m66:M,((stC m65 (.ptr m58.nxt 0) 2 [(Il x59),
 (Il x60)])=(some m66))∧∃m67:M,((stC m66 (.ptr m64.nxt 0) 2 [(Il x61),
 (Il x62)])=(some m67))∧Wc prog tbl 40 [] m67 (fun v68 m69 => 
 ∃c70:C,∃x71 x72,∃c73:C,(v68=(.agg 4 [c70,(Il x71),
 (Il x72),c73]))∧Wc prog tbl 35 [(.agg 4 [c70,(Il x71),
 (Il x72),c73])] m69 (fun v74 m75=>∃x76 x77,
 ∃x78,(v74=(.tup [(.agg 2 [(Il x76),(Il x77)]),
 (.c (Il x78))]))∧∀m79:M,(m79=(M.new m75 (AO.cells 2 [(Il 0),
 (Il 0)] false)))→∃m80:M,((stC m79 (.ptr m75.nxt 0) 2 [(Il x76),
 (Il x77)])=(some m80))∧Wc prog tbl 40 [] m80 (fun v81 m82 => 
 ∃c83:C,∃x84 x85,∃c86:C,(v81=(.agg 4 [c83,(Il x84),
 (Il x85),c86]))∧Wc prog tbl 36 [(.agg 4 [c83,(Il x84),
 (Il x85),c86])] m82 (fun v87 m88=>∃c89:C,∃x90,
 (v87=(.tup [(.c c89),(.c (Il x90))]))∧ifB (decide (x15=0)) (∃c91:C,
 ∃x92 x93 x94,((ldA m88 (.ptr m10.nxt 0) 4)=(some [c91,
 (Il x92),(Il x93),(Il x94)])) ∧ 
 ∀m95:M,(m95=(M.new m88 (AO.cells 2 [(Il (35:Int)),(Il (18:Int))] false))) → 
 (ifB (zaL cmC [c91,(Il x92),(Il x93),(Il x94)]) ((ldA m95 (.ptr m10.nxt 0) 4)=(some [c91,
 (Il x92),(Il x93),(Il x94)])) False) ∧ 
 Wc prog tbl 25 [(.agg 4 [c91,(Il x92),(Il x93),
 (Il x94)]),(.agg 4 [(.sl m88.nxt 0 2 0 (some 2)),
 (Il (386:Int)),(Il (16:Int)),(Il (15:Int))])] m95 (fun v96 m97 => 
 ∃b98:Bool,(v96=(.c (.bool b98)))∧ifB b98 (ifB (decide (x27=0)) (∀m99:M,
 (m99=(M.new m97 (AO.cells 4 [(Il (33:Int)),(Il (34:Int)),
 (Il (35:Int)),(Il (36:Int))] false)))→Wc prog tbl 30 [(.c c26),
 (.c (.sl m97.nxt 0 4 0 (some 4)))] m99 (fun v100 m101=>∃b102:Bool,
 (v100=(.c (.bool b102)))∧ifB b102 (ifB (decide (x37=0)) (ifB (decide (x36=2)) (ifB (decide (x48=0)) (∃x103,
 ∃x104,((ldA m101 (.ptr m45.nxt 0) 2)=(some [(Il x103),
 (Il x104)]))∧Wc prog tbl 42 [(.c (Il (366:Int))),
 (.c (Il (398:Int)))] m101 (fun v105 m106=>∃x107,
 ∃x108,(v105=(.agg 2 [(Il x107),(Il x108)])) ∧ 
 ((ldA m106 (.ptr m45.nxt 0) 2)=(some [(Il x103),
 (Il x104)]))∧zl0 .i64 x103∧zl0 .i64 x107 ∧ 
 zl0 .i64 x104∧zl0 .i64 x108∧ifB ((decide (x103=x107)) && (decide (x104=x108))) (ifB (decide (x63=0)) (∃x109,
 ∃x110,((ldA m106 (.ptr m58.nxt 0) 2)=(some [(Il x109),
 (Il x110)]))∧Wc prog tbl 42 [(.c (Il 0)),
 (.c (Il (31:Int)))] m106 (fun v111 m112=>∃x113 x114,
 (v111=(.agg 2 [(Il x113),(Il x114)]))∧((ldA m112 (.ptr m58.nxt 0) 2)=(some [(Il x109),
 (Il x110)]))∧zl0 .i64 x109∧zl0 .i64 x113 ∧ 
 zl0 .i64 x110∧zl0 .i64 x114∧ifB ((decide (x109=x113)) && (decide (x110=x114))) (∃x115,
 ∃x116,((ldA m112 (.ptr m64.nxt 0) 2)=(some [(Il x115),
 (Il x116)]))∧∃x117 x118,((ldA m112 (.ptr m58.nxt 0) 2)=(some [(Il x117),
 (Il x118)]))∧zl0 .i64 x115∧zl0 .i64 x117 ∧ 
 zl0 .i64 x116∧zl0 .i64 x118∧ifB ((decide (x115=x117)) && (decide (x116=x118))) (ifB (decide (x78=0)) (∃x119,
 ∃x120,((ldA m112 (.ptr m75.nxt 0) 2)=(some [(Il x119),
 (Il x120)]))∧Wc prog tbl 42 [(.c (Il (335:Int))),
 (.c (Il (429:Int)))] m112 (fun v121 m122=>∃x123,
 ∃x124,(v121=(.agg 2 [(Il x123),(Il x124)])) ∧ 
 ((ldA m122 (.ptr m75.nxt 0) 2)=(some [(Il x119),
 (Il x120)]))∧zl0 .i64 x119∧zl0 .i64 x123 ∧ 
 zl0 .i64 x120∧zl0 .i64 x124∧ifB ((decide (x119=x123)) && (decide (x120=x124))) (ifB (decide (x90=0)) (∀m125:M,
 (m125=(M.new m122 (AO.cells 1 [(Il 0)] false)))→Wc prog tbl 30 [(.c c89),
 (.c (.sl m122.nxt 0 1 0 (some 1)))] m125 (fun v126 m127=>∃b128:Bool,
 (v126=(.c (.bool b128)))∧Q (.c (.bool b128)) m127)) (Q (.c (.bool false)) m122)) (Q (.c (.bool false)) m122))) (Q (.c (.bool false)) m112)) (Q (.c (.bool false)) m112)) (Q (.c (.bool false)) m112))) (Q (.c (.bool false)) m106)) (Q (.c (.bool false)) m106))) (Q (.c (.bool false)) m101)) (Q (.c (.bool false)) m101)) (Q (.c (.bool false)) m101)) (Q (.c (.bool false)) m101))) (Q (.c (.bool false)) m97)) (Q (.c (.bool false)) m97))) (Q (.c (.bool false)) m88)))))))))))))))))):Wc prog tbl 17 [] m Q:=
 zpB (n:=0) rfl (by kernel_rfl) (by kernel_rfl) h
theorem w25{a100:C}{a101:Int}{a102:Int}{a103:Int}{a200:C}{a201:Int}{a202:Int}{a203:Int}{m:M}{Q:V→M→Prop}(h :
 (∀m0:M,(m0=(M.new m (AO.cells 4 [a100,(Il a101),(Il a102),(Il a103)] false))) → 
 ∀m1:M,(m1=(M.new m0 (AO.cells 4 [a200,(Il a201),(Il a202),(Il a203)] false))) → 
 isPt (.ptr m.nxt 0)∧∃c2:C,((ldC m1 (.ptr m.nxt 0))=(some c2))∧isPt (.ptr m0.nxt 0) ∧ 
 ∃c3:C,((ldC m1 (.ptr m0.nxt 0))=(some c3))∧Wc prog tbl 30 [(.c c2),(.c c3)] m1 (fun v4 m5 => 
 ∃b6:Bool,(v4=(.c (.bool b6)))∧ifB b6 (isPt (.ptr m.nxt 0)∧∃x7,((ldC m5 (.ptr m.nxt 1))=(some (Il x7))) ∧ 
 isPt (.ptr m0.nxt 0)∧∃x8,((ldC m5 (.ptr m0.nxt 1))=(some (Il x8))) ∧ 
 ifB (decide (x7=x8)) (isPt (.ptr m.nxt 0)∧∃x9,((ldC m5 (.ptr m.nxt 2))=(some (Il x9))) ∧ 
 isPt (.ptr m0.nxt 0)∧∃x10,((ldC m5 (.ptr m0.nxt 2))=(some (Il x10))) ∧ 
 ifB (decide (x9=x10)) (isPt (.ptr m.nxt 0)∧∃x11,((ldC m5 (.ptr m.nxt 3))=(some (Il x11))) ∧ 
 isPt (.ptr m0.nxt 0)∧∃x12,((ldC m5 (.ptr m0.nxt 3))=(some (Il x12))) ∧ 
 Q (.c (.bool (decide (x11=x12)))) m5) (Q (.c (.bool false)) m5)) (Q (.c (.bool false)) m5)) (Q (.c (.bool false)) m5)))):Wc prog tbl 25 [(.agg 4 [a100,(Il a101),(Il a102),(Il a103)]),(.agg 4 [a200,(Il a201),(Il a202),(Il a203)])] m Q:=
 zpB (n:=2) rfl (by kernel_rfl) (by kernel_rfl) h
theorem w33{a100:C}{a101:Int}{a102:Int}{a103:C}{m:M}{Q:V→M→Prop}(h :
 (∀m0:M,(m0=(M.new m (AO.cells 4 [a100,(Il a101),(Il a102),a103] false))) → 
 ∀m1:M,(m1=(M.new m0 (AO.cells 2 [(Il 0),(Il 0)] false))) → 
 ∃c2:C,∃x3 x4,∃c5:C,((ldA m1 (.ptr m.nxt 0) 4)=(some [c2,(Il x3),
 (Il x4),c5]))∧Wc prog tbl 54 [(.agg 4 [c2,(Il x3),(Il x4),
 c5])] m1 (fun v6 m7=>∃c8:C,∃x9 x10,∃c11:C,∃c12:C,∃x13,
 (v6=(.tup [(.agg 5 [c8,(Il x9),(Il x10),c11,c12]),
 (.c (Il x13))]))∧∀m14:M,(m14=(M.new m7 (AO.cells 5 [C.sl0,(Il 0),
 (Il 0),C.sl0,C.map0] false)))→∃m15:M,((stC m14 (.ptr m7.nxt 0) 5 [c8,
 (Il x9),(Il x10),c11,c12])=(some m15)) ∧ 
 ifB (!decide (x13=0)) (∃m16:M,((stC m15 (.ptr m0.nxt 0) 2 [(Il 0),
 (Il 0)])=(some m16))∧∃x17 x18,
 ((ldA m16 (.ptr m0.nxt 0) 2)=(some [(Il x17),(Il x18)])) ∧ 
 Q (.tup [(.agg 2 [(Il x17),(Il x18)]),(.c (Il x13))]) m16) (∃c19:C,
 ∃x20 x21,∃c22:C,∃c23:C,((ldA m15 (.ptr m7.nxt 0) 5)=(some [c19,
 (Il x20),(Il x21),c22,c23]))∧Wc prog tbl 68 [(.agg 5 [c19,
 (Il x20),(Il x21),c22,c23]),(.agg 1 [(C.fn (Fn.func 69) [] [])])] m15 (fun v24 m25 => 
 ∃x26 x27,(v24=(.agg 2 [(Il x26),(Il x27)])) ∧ 
 ∃m28:M,((stC m25 (.ptr m0.nxt 0) 2 [(Il x26),(Il x27)])=(some m28)) ∧ 
 ∃x29 x30,((ldA m28 (.ptr m0.nxt 0) 2)=(some [(Il x29),
 (Il x30)]))∧Q (.tup [(.agg 2 [(Il x29),(Il x30)]),
 (.c (Il 0))]) m28))))):Wc prog tbl 33 [(.agg 4 [a100,(Il a101),(Il a102),a103])] m Q:=
 zpB (n:=1) rfl (by kernel_rfl) (by kernel_rfl) h
theorem w41{a100:Int}{a200:Int}{a300:Int}{m:M}{Q:V→M→Prop}(h :
 (∀m0:M,(m0=(M.new m (AO.cells 6 [(Il a100),(Il (30:Int)),(Il a200),
 (Il (20:Int)),(Il a300),(Il 0)] false)))→Q (.c (.sl m.nxt 0 2 0 (some 2))) m0)):Wc prog tbl 41 [(.c (Il a100)),(.c (Il a200)),(.c (Il a300))] m Q:=
 zpB (n:=3) rfl (by kernel_rfl) (by kernel_rfl) h
theorem w53{a100:C}{m:M}{Q:V→M→Prop}(h :
 (isSl a100∧ifB (decide ((5:Int) < (((slLen a100):Nat):Int))) (Q (.c (.bool false)) m) (∀R0:List V → 
 M→Prop,(∀b1:Bool,∀b2:Bool,∀b3:Bool,∀x4:Int,∀m5:M,(isSl a100∧ifB (decide (x4 < (((slLen a100):Nat):Int))) (∃n6:Nat,
 (x4=((n6:Nat):Int))∧(n6 < (slLen a100))∧isPt (zl2 a100 (n6 * 6))∧∃c7:C,((ldC m5 (zl1 (zl2 a100 (n6 * 6)) 3))=(some c7)) ∧ 
 isSl c7∧ifB (decide ((7:Int) < (((slLen c7):Nat):Int))) (Q (.c (.bool false)) m5) (∃n8:Nat,
 (x4=((n8:Nat):Int))∧(n8 < (slLen a100))∧isPt (zl2 a100 (n8 * 6))∧∃c9:C,
 ((ldC m5 (zl1 (zl2 a100 (n8 * 6)) 4))=(some c9))∧isSl c9∧ifB (decide ((7:Int) < (((slLen c9):Nat):Int))) (Q (.c (.bool false)) m5) (∃n10:Nat,
 (x4=((n10:Nat):Int))∧(n10 < (slLen a100))∧isPt (zl2 a100 (n10 * 6)) ∧ 
 ∃c11:C,((ldC m5 (zl1 (zl2 a100 (n10 * 6)) 5))=(some c11)) ∧ 
 isSl c11∧ifB (decide ((5:Int) < (((slLen c11):Nat):Int))) (Q (.c (.bool false)) m5) (∀R12:List V → 
 M→Prop,(∀b13:Bool,∀b14:Bool,∀x15:Int,∀m16:M,(∃n17:Nat,
 (x4=((n17:Nat):Int))∧(n17 < (slLen a100))∧isPt (zl2 a100 (n17 * 6)) ∧ 
 ∃c18:C,((ldC m16 (zl1 (zl2 a100 (n17 * 6)) 5))=(some c18)) ∧ 
 isSl c18∧ifB (decide (x15 < (((slLen c18):Nat):Int))) (∃n19:Nat,(x4=((n19:Nat):Int)) ∧ 
 (n19 < (slLen a100))∧isPt (zl2 a100 (n19 * 6))∧∃c20:C,((ldC m16 (zl1 (zl2 a100 (n19 * 6)) 5))=(some c20)) ∧ 
 ∃n21:Nat,(x15=((n21:Nat):Int))∧(n21 < (slLen c20))∧∃c22:C,
 ((ldC m16 (zl2 c20 (n21 * 1)))=(some c22))∧isSl c22∧ifB (decide ((7:Int) < (((slLen c22):Nat):Int))) (Q (.c (.bool false)) m16) (∀R23:List V → 
 M→Prop,(∀b24:Bool,∀x25:Int,∀m26:M,(∃n27:Nat,(x4=((n27:Nat):Int)) ∧ 
 (n27 < (slLen a100))∧isPt (zl2 a100 (n27 * 6))∧∃c28:C,((ldC m26 (zl1 (zl2 a100 (n27 * 6)) 5))=(some c28)) ∧ 
 ∃n29:Nat,(x15=((n29:Nat):Int))∧(n29 < (slLen c28))∧∃c30:C,
 ((ldC m26 (zl2 c28 (n29 * 1)))=(some c30))∧isSl c30∧ifB (decide (x25 < (((slLen c30):Nat):Int))) (∃n31:Nat,
 (x4=((n31:Nat):Int))∧(n31 < (slLen a100))∧isPt (zl2 a100 (n31 * 6)) ∧ 
 ∃c32:C,((ldC m26 (zl1 (zl2 a100 (n31 * 6)) 5))=(some c32)) ∧ 
 ∃n33:Nat,(x15=((n33:Nat):Int))∧(n33 < (slLen c32))∧∃c34:C,
 ((ldC m26 (zl2 c32 (n33 * 1)))=(some c34))∧∃n35:Nat,(x25=((n35:Nat):Int)) ∧ 
 (n35 < (slLen c34))∧∃c36:C,((ldC m26 (zl2 c34 (n35 * 1)))=(some c36)) ∧ 
 isSl c36∧ifB (decide ((7:Int) < (((slLen c36):Nat):Int))) (Q (.c (.bool false)) m26) (zl0 .i64 (x25+1) ∧ 
 R23 [(.c (.bool b24)),(.c (Il (x25+1)))] m26)) (zl0 .i64 (x15+1) ∧ 
 R12 [(.c (.bool b24)),(.c (.bool b24)),(.c (Il (x15+1)))] m26)) → 
 R23 [(.c (.bool b24)),(.c (Il x25))] m26)→R23 [(.c (.bool b13)),
 (.c (Il 0))] m16)) (zl0 .i64 (x4+1) ∧ 
 R0 [(.c (.bool b13)),(.c (.bool b13)),(.c (.bool b13)),(.c (Il (x4+1)))] m16)) → 
 R12 [(.c (.bool b13)),(.c (.bool b14)),(.c (Il x15))] m16) → 
 R12 [(.c (.bool b1)),(.c (.bool b1)),(.c (Il 0))] m5)))) (Q (.c (.bool true)) m5)) → 
 R0 [(.c (.bool b1)),(.c (.bool b2)),(.c (.bool b3)),(.c (Il x4))] m5) → 
 R0 [(.c (.bool false)),(.c (.bool false)),(.c (.bool false)),(.c (Il 0))] m))):Wc prog tbl 53 [(.c a100)] m Q:=
 zpB (n:=1) rfl (by kernel_rfl) (by kernel_rfl) h
theorem w57{a100:C}{a101:Int}{a102:Int}{a103:C}{m:M}{Q:V→M→Prop}(h :
 (∀m0:M,(m0=(M.new m (AO.cells 4 [a100,(Il a101),(Il a102),a103] false))) → 
 isPt (.ptr m.nxt 0)∧∃c1:C,((ldC m0 (.ptr m.nxt 0))=(some c1))∧Wc prog tbl 88 [(.c c1)] m0 (fun v2 m3 => 
 ∃x4,(v2=(.c (Il x4)))∧ifB (!decide (x4=0)) (Q (.c (Il x4)) m3) (isPt (.ptr m.nxt 0) ∧ 
 ∃c5:C,((ldC m3 (.ptr m.nxt 3))=(some c5))∧isSl c5∧ifB (decide ((3:Int) < (((slLen c5):Nat):Int))) (Q (.c (Il (3:Int))) m3) (isPt (.ptr m.nxt 0) ∧ 
 ∃x6,((ldC m3 (.ptr m.nxt 1))=(some (Il x6)))∧Wc prog tbl 48 [(.c (Il x6)),
 (.c (Il 0)),(.c (Il (120:Int)))] m3 (fun v7 m8 => 
 ∃b9:Bool,(v7=(.c (.bool b9)))∧ifB (!b9) (Q (.c (Il (1:Int))) m8) (isPt (.ptr m.nxt 0) ∧ 
 ∃x10,((ldC m8 (.ptr m.nxt 2))=(some (Il x10))) ∧ 
 Wc prog tbl 48 [(.c (Il x10)),(.c (Il 0)),
 (.c (Il (10000:Int)))] m8 (fun v11 m12=>∃b13:Bool,(v11=(.c (.bool b13))) ∧ 
 ifB (!b13) (Q (.c (Il (1:Int))) m12) (∀R14:List V→M → 
 Prop,(∀x15:Int,∀x16:Int,∀m17:M,(isPt (.ptr m.nxt 0)∧∃c18:C,
 ((ldC m17 (.ptr m.nxt 3))=(some c18))∧isSl c18∧ifB (decide (x16 < (((slLen c18):Nat):Int))) (isPt (.ptr m.nxt 0) ∧ 
 ∃c19:C,((ldC m17 (.ptr m.nxt 3))=(some c19))∧∃n20:Nat,
 (x16=((n20:Nat):Int))∧(n20 < (slLen c19))∧∃x21 x22,
 ∃x23 x24 x25 x26 x27 x28,
 ∃x29,((ldA m17 (zl2 c19 (n20 * 9)) 9)=(some [(Il x21),
 (Il x22),(Il x23),(Il x24),(Il x25),
 (Il x26),(Il x27),(Il x28),(Il x29)])) ∧ 
 ∀m30:M,(m30=(M.new m17 (AO.cells 9 [(Il 0),(Il 0),
 (Il 0),(Il 0),(Il 0),
 (Il 0),(Il 0),(Il 0),
 (Il 0)] false)))→∃m31:M,((stC m30 (.ptr m17.nxt 0) 9 [(Il x21),
 (Il x22),(Il x23),(Il x24),(Il x25),
 (Il x26),(Il x27),(Il x28),(Il x29)])=(some m31)) ∧ 
 isPt (.ptr m17.nxt 0)∧∃x32,((ldC m31 (.ptr m17.nxt 0))=(some (Il x32))) ∧ 
 isPt (.ptr m.nxt 0)∧∃c33:C,((ldC m31 (.ptr m.nxt 0))=(some c33)) ∧ 
 Wc prog tbl 89 [(.c c33)] m31 (fun v34 m35=>∃x36,(v34=(.c (Il x36))) ∧ 
 ((ldC m35 (.ptr m17.nxt 0))=(some (Il x32)))∧zl0 .i64 (x36 - 1) ∧ 
 Wc prog tbl 48 [(.c (Il x32)),(.c (Il 0)),
 (.c (Il (x36 - 1)))] m35 (fun v37 m38=>∃b39:Bool,
 (v37=(.c (.bool b39)))∧ifB (!b39) (Q (.c (Il (1:Int))) m38) (isPt (.ptr m17.nxt 0) ∧ 
 ∃x40,((ldC m38 (.ptr m17.nxt 1))=(some (Il x40))) ∧ 
 Wc prog tbl 48 [(.c (Il x40)),(.c (Il 0)),
 (.c (Il (100000:Int)))] m38 (fun v41 m42=>∃b43:Bool,
 (v41=(.c (.bool b43)))∧ifB (!b43) (Q (.c (Il (1:Int))) m42) (isPt (.ptr m17.nxt 0) ∧ 
 ∃x44,((ldC m42 (.ptr m17.nxt 2))=(some (Il x44))) ∧ 
 Wc prog tbl 48 [(.c (Il x44)),(.c (Il 0)),
 (.c (Il (100:Int)))] m42 (fun v45 m46=>∃b47:Bool,(v45=(.c (.bool b47))) ∧ 
 ifB (!b47) (Q (.c (Il (1:Int))) m46) (isPt (.ptr m17.nxt 0) ∧ 
 ∃x48 x49,((ldA m46 (.ptr m17.nxt 3) 2)=(some [(Il x48),
 (Il x49)]))∧Wc prog tbl 90 [(.agg 2 [(Il x48),
 (Il x49)])] m46 (fun v50 m51=>∃b52:Bool,(v50=(.c (.bool b52))) ∧ 
 ifB (!b52) (Q (.c (Il (1:Int))) m51) (isPt (.ptr m17.nxt 0) ∧ 
 ∃x53 x54,((ldA m51 (.ptr m17.nxt 5) 2)=(some [(Il x53),
 (Il x54)]))∧Wc prog tbl 90 [(.agg 2 [(Il x53),
 (Il x54)])] m51 (fun v55 m56=>∃b57:Bool,(v55=(.c (.bool b57))) ∧ 
 ifB (!b57) (Q (.c (Il (1:Int))) m56) (isPt (.ptr m17.nxt 0) ∧ 
 ∃x58 x59,((ldA m56 (.ptr m17.nxt 7) 2)=(some [(Il x58),
 (Il x59)]))∧Wc prog tbl 90 [(.agg 2 [(Il x58),
 (Il x59)])] m56 (fun v60 m61=>∃b62:Bool,(v60=(.c (.bool b62))) ∧ 
 ifB (!b62) (Q (.c (Il (1:Int))) m61) (zl0 .i64 (x16+1) ∧ 
 R14 [(.c (Il x15)),(.c (Il (x16+1)))] m61)))))))))))))) (Q (.c (Il 0)) m17)) → 
 R14 [(.c (Il x15)),(.c (Il x16))] m17) → 
 R14 [(.c (Il 0)),(.c (Il 0))] m12))))))))):Wc prog tbl 57 [(.agg 4 [a100,(Il a101),(Il a102),a103])] m Q:=
 zpB (n:=1) rfl (by kernel_rfl) (by kernel_rfl) h
theorem w70{a100:Int}{a101:Int}{a102:Int}{a103:Int}{a104:Int}{a105:Int}{m:M}{Q:V→M→Prop}(h :
 (∀m0:M,(m0=(M.new m (AO.cells 6 [(Il a100),(Il a101),(Il a102),
 (Il a103),(Il a104),(Il a105)] false)))→isPt (.ptr m.nxt 0) ∧ 
 isPt (.ptr m.nxt 2)∧∃n1:Nat,((2:Int)=((n1:Nat):Int))∧(n1 < 4)∧∃x2,((ldC m0 (.ptr m.nxt (2+(n1 * 1))))=(some (Il x2))) ∧ 
 isPt (.ptr m.nxt 0)∧isPt (.ptr m.nxt 2)∧∃n3:Nat,((3:Int)=((n3:Nat):Int)) ∧ 
 (n3 < 4)∧∃x4,((ldC m0 (.ptr m.nxt (2+(n3 * 1))))=(some (Il x4))) ∧ 
 ∃x5 x6 x7 x8 x9 x10,((ldA m0 (.ptr m.nxt 0) 6)=(some [(Il x5),
 (Il x6),(Il x7),(Il x8),(Il x9),
 (Il x10)]))∧Wc prog tbl 103 [(.agg 6 [(Il x5),
 (Il x6),(Il x7),(Il x8),(Il x9),
 (Il x10)])] m0 (fun v11 m12=>∃b13:Bool,(v11=(.c (.bool b13))) ∧ 
 ifB (!b13) (Q (.c (Il 0)) m12) (ifB (decide (x2 < x4)) (Q (.c (Il 0)) m12) (ifB (decide (x4 < x2)) (isPt (.ptr m.nxt 0) ∧ 
 ∃x14,((ldC m12 (.ptr m.nxt 0))=(some (Il x14))) ∧ 
 Q (.c (Il x14)) m12) (isPt (.ptr m.nxt 0)∧∃x15,
 ((ldC m12 (.ptr m.nxt 0))=(some (Il x15)))∧isPt (.ptr m.nxt 0) ∧ 
 ∃x16,((ldC m12 (.ptr m.nxt 0))=(some (Il x16))) ∧ 
 ((0:Int)≤x16)∧((0:Int) < (2:Int))∧zl0 .i64 (x16 / 2) ∧ 
 zl0 .i64 (x15 - (x16 / 2))∧Q (.c (Il (x15 - (x16 / 2)))) m12)))))):Wc prog tbl 70 [(.agg 6 [(Il a100),(Il a101),(Il a102),(Il a103),(Il a104),(Il a105)])] m Q:=
 zpB (n:=1) rfl (by kernel_rfl) (by kernel_rfl) h
theorem w74{a100:C}{a101:Int}{a102:Int}{a103:C}{a104:C}{m:M}{Q:V→M→Prop}(h :
 (∀m0:M,(m0=(M.new m (AO.cells 5 [a100,(Il a101),(Il a102),a103,a104] false))) → 
 ∀m1:M,(m1=(M.new m0 (AO.cells 1 [C.sl0] false)))→isPt (.ptr m.nxt 0)∧isPt (.ptr m.nxt 0) ∧ 
 ∃c2:C,((ldC m1 (.ptr m.nxt 3))=(some c2))∧isSl c2∧∀R3:List V→M→Prop,(∀x4:Int,
 ∀m5:M,(ifB (decide (x4 < (((slLen c2):Nat):Int))) (∃n6:Nat,(x4=((n6:Nat):Int)) ∧ 
 (n6 < (slLen c2))∧∃x7 x8 x9 x10 x11 x12,
 ∃x13 x14 x15,((ldA m5 (zl2 c2 (n6 * 9)) 9)=(some [(Il x7),
 (Il x8),(Il x9),(Il x10),(Il x11),
 (Il x12),(Il x13),(Il x14),(Il x15)])) ∧ 
 ∀m16:M,(m16=(M.new m5 (AO.cells 1 [(Il 0)] false))) → 
 ∀m17:M,(m17=(M.new m16 (AO.cells 9 [(Il 0),(Il 0),
 (Il 0),(Il 0),(Il 0),
 (Il 0),(Il 0),(Il 0),
 (Il 0)] false)))→∃m18:M,((stC m17 (.ptr m5.nxt 0) 1 [(Il x4)])=(some m18)) ∧ 
 ∃m19:M,((stC m18 (.ptr m16.nxt 0) 9 [(Il x7),(Il x8),
 (Il x9),(Il x10),(Il x11),(Il x12),
 (Il x13),(Il x14),(Il x15)])=(some m19)) ∧ 
 ∃x20 x21 x22 x23 x24 x25,
 ∃x26 x27 x28,((ldA m19 (.ptr m16.nxt 0) 9)=(some [(Il x20),
 (Il x21),(Il x22),(Il x23),(Il x24),
 (Il x25),(Il x26),(Il x27),(Il x28)])) ∧ 
 Wc prog tbl 98 [(.agg 9 [(Il x20),(Il x21),
 (Il x22),(Il x23),(Il x24),(Il x25),
 (Il x26),(Il x27),(Il x28)])] m19 (fun v29 m30 => 
 ∃c31:C,(v29=(.c c31))∧zoA prog tbl c31 m30 (fun l33 m34 R35 R36 => 
 ∃x37 x38 x39,(l33=[(.agg 3 [(Il x37),
 (Il x38),(Il x39)])])∧∀m40:M,(m40=(M.new m34 (AO.cells 3 [(Il 0),
 (Il 0),(Il 0)] false)))→∃m41:M,
 ((stC m40 (.ptr m34.nxt 0) 3 [(Il x37),(Il x38),
 (Il x39)])=(some m41))∧R35 m41 (fun m42=>∃c43:C,
 ∃x44 x45,∃c46:C,∃c47:C,((ldA m42 (.ptr m.nxt 0) 5)=(some [c43,
 (Il x44),(Il x45),c46,c47]))∧∃x48,
 ∃x49 x50 x51 x52 x53 x54,
 ∃x55 x56,((ldA m42 (.ptr m16.nxt 0) 9)=(some [(Il x48),
 (Il x49),(Il x50),(Il x51),(Il x52),
 (Il x53),(Il x54),(Il x55),(Il x56)])) ∧ 
 ∃x57 x58 x59,((ldA m42 (.ptr m34.nxt 0) 3)=(some [(Il x57),
 (Il x58),(Il x59)]))∧Wc prog tbl 104 [(.agg 5 [c43,
 (Il x44),(Il x45),c46,c47]),(.agg 9 [(Il x48),
 (Il x49),(Il x50),(Il x51),(Il x52),
 (Il x53),(Il x54),(Il x55),(Il x56)]),
 (.agg 3 [(Il x57),(Il x58),(Il x59)])] m42 (fun v60 m61 => 
 ∃b62:Bool,(v60=(.c (.bool b62)))∧ifB b62 (∃c63:C,((ldC m61 (.ptr m0.nxt 0))=(some c63)) ∧ 
 ∃x64,((ldC m61 (.ptr m5.nxt 0))=(some (Il x64))) ∧ 
 ∀m65:M,(m65=(M.new m61 (AO.cells 1 [(Il x64)] false))) → 
 ∃c66:C,∃m67:M,(ApR prog 29 m65 c63 (.sl m61.nxt 0 1 0 (some 1)) c66 m67) ∧ 
 ∃m68:M,((stC m67 (.ptr m0.nxt 0) 1 [c66])=(some m68))∧R36 (Ex.exit 1) m68) (R36 Ex.nrm m61)))) (zoq.mk (fun m69 => 
 zl0 .i64 (x4+1)∧R3 [(.c (Il (x4+1)))] m69) [(1,
 (fun m32=>zl0 .i64 (x4+1)∧R3 [(.c (Il (x4+1)))] m32))] (fun m70 => 
 Q (.c C.sl0) m70)))) (∃c71:C,((ldC m5 (.ptr m0.nxt 0))=(some c71)) ∧ 
 Q (.c c71) m5))→R3 [(.c (Il x4))] m5)→R3 [(.c (Il 0))] m1)):Wc prog tbl 74 [(.agg 5 [a100,(Il a101),(Il a102),a103,a104])] m Q:=
 zpB (n:=1) rfl (by kernel_rfl) (by kernel_rfl) h
theorem w82{a100:C}{a101:C}{a200:Int}{a201:Int}{a202:Int}{a203:Int}{a204:Int}{a205:Int}{a300:Int}{a301:Int}{m:M}{Q:V→M→Prop}(h :
 (∀m0:M,(m0=(M.new m (AO.cells 2 [a100,a101] false)))→∀m1:M,(m1=(M.new m0 (AO.cells 6 [(Il a200),
 (Il a201),(Il a202),(Il a203),(Il a204),
 (Il a205)] false)))→∀m2:M,(m2=(M.new m1 (AO.cells 2 [(Il a300),
 (Il a301)] false)))→isPt (.ptr m0.nxt 0)∧∃x3,((ldC m2 (.ptr m0.nxt 1))=(some (Il x3))) ∧ 
 ∃c4:C,∃c5:C,((ldA m2 (.ptr m.nxt 0) 2)=(some [c4,c5]))∧∃x6 x7,
 ((ldA m2 (.ptr m1.nxt 0) 2)=(some [(Il x6),(Il x7)])) ∧ 
 isPt (.ptr m0.nxt 0)∧∃x8,((ldC m2 (.ptr m0.nxt 0))=(some (Il x8))) ∧ 
 Wc prog tbl 110 [(.agg 2 [c4,c5]),(.agg 3 [(Il x6),(Il x7),
 (Il x8)])] m2 (fun v9 m10=>∃x11,(v9=(.c (Il x11))) ∧ 
 ((ldC m10 (.ptr m0.nxt 1))=(some (Il x3)))∧((0:Int)≤x3) ∧ 
 ((0:Int)≤x11)∧zl0 .i64 (x3 * x11)∧((0:Int)≤(x3 * x11))∧((0:Int) < (100:Int)) ∧ 
 zl0 .i64 ((x3 * x11) / (100:Int))∧Q (.c (Il ((x3 * x11) / (100:Int)))) m10))):Wc prog tbl 82 [(.agg 2 [a100,a101]),(.agg 6 [(Il a200),(Il a201),(Il a202),(Il a203),(Il a204),(Il a205)]),(.agg 2 [(Il a300),(Il a301)])] m Q:=
 zpB (n:=3) rfl (by kernel_rfl) (by kernel_rfl) h
theorem w86{a100:Int}{a101:Int}{a102:Int}{a103:Int}{a104:Int}{a105:Int}{a200:Int}{a201:Int}{m:M}{Q:V→M→Prop}(h :
 (∀m0:M,(m0=(M.new m (AO.cells 6 [(Il a100),(Il a101),(Il a102),
 (Il a103),(Il a104),(Il a105)] false)))→∀m1:M,(m1=(M.new m0 (AO.cells 2 [(Il a200),
 (Il a201)] false)))→∀m2:M,(m2=(M.new m1 (AO.cells 6 [(Il 0),
 (Il 0),(Il 0),(Il 0),(Il 0),
 (Il 0)] false)))→isPt (.ptr m.nxt 0)∧∃x3,((ldC m2 (.ptr m.nxt 1))=(some (Il x3))) ∧ 
 isPt (.ptr m0.nxt 0)∧∃x4,((ldC m2 (.ptr m0.nxt 0))=(some (Il x4))) ∧ 
 zl0 .i64 (x3+x4)∧isPt (.ptr m.nxt 0)∧∃m5:M,((stC m2 (.ptr m.nxt 1) 1 [(Il (x3+x4))])=(some m5)) ∧ 
 isPt (.ptr m0.nxt 0)∧∃x6,((ldC m5 (.ptr m0.nxt 1))=(some (Il x6))) ∧ 
 isPt (.ptr m.nxt 0)∧isPt (.ptr m.nxt 2)∧∃n7:Nat,(x6=((n7:Nat):Int)) ∧ 
 (n7 < 4)∧∃x8,((ldC m5 (.ptr m.nxt (2+(n7 * 1))))=(some (Il x8))) ∧ 
 zl0 .i64 (x8+1)∧isPt (.ptr m.nxt 0)∧isPt (.ptr m.nxt 2) ∧ 
 ∃n9:Nat,(x6=((n9:Nat):Int))∧(n9 < 4)∧∃m10:M,((stC m5 (.ptr m.nxt (2+(n9 * 1))) 1 [(Il (x8+1))])=(some m10)) ∧ 
 ∃x11 x12 x13 x14 x15 x16,
 ((ldA m10 (.ptr m.nxt 0) 6)=(some [(Il x11),(Il x12),
 (Il x13),(Il x14),(Il x15),(Il x16)])) ∧ 
 ∃m17:M,((stC m10 (.ptr m1.nxt 0) 6 [(Il x11),(Il x12),
 (Il x13),(Il x14),(Il x15),(Il x16)])=(some m17)) ∧ 
 ∃x18 x19 x20 x21 x22 x23,
 ((ldA m17 (.ptr m1.nxt 0) 6)=(some [(Il x18),(Il x19),
 (Il x20),(Il x21),(Il x22),(Il x23)])) ∧ 
 Q (.agg 6 [(Il x18),(Il x19),(Il x20),
 (Il x21),(Il x22),(Il x23)]) m17)):Wc prog tbl 86 [(.agg 6 [(Il a100),(Il a101),(Il a102),(Il a103),(Il a104),(Il a105)]),(.agg 2 [(Il a200),(Il a201)])] m Q:=
 zpB (n:=2) rfl (by kernel_rfl) (by kernel_rfl) h
theorem w90{a100:Int}{a101:Int}{m:M}{Q:V→M→Prop}(h :
 (∀m0:M,(m0=(M.new m (AO.cells 2 [(Il a100),(Il a101)] false)))→isPt (.ptr m.nxt 0) ∧ 
 ∃x1,((ldC m0 (.ptr m.nxt 0))=(some (Il x1)))∧ifB (decide ((0:Int)≤x1)) (isPt (.ptr m.nxt 0) ∧ 
 ∃x2,((ldC m0 (.ptr m.nxt 0))=(some (Il x2)))∧isPt (.ptr m.nxt 0) ∧ 
 ∃x3,((ldC m0 (.ptr m.nxt 1))=(some (Il x3)))∧ifB (decide (x2≤x3)) (isPt (.ptr m.nxt 0) ∧ 
 ∃x4,((ldC m0 (.ptr m.nxt 1))=(some (Il x4)))∧ifB (decide (x4≤100)) (isPt (.ptr m.nxt 0) ∧ 
 ∃x5,((ldC m0 (.ptr m.nxt 1))=(some (Il x5)))∧isPt (.ptr m.nxt 0) ∧ 
 ∃x6,((ldC m0 (.ptr m.nxt 0))=(some (Il x6)))∧zl0 .i64 (x5 - x6) ∧ 
 Q (.c (.bool (decide ((x5 - x6)≤(4:Int))))) m0) (Q (.c (.bool false)) m0)) (Q (.c (.bool false)) m0)) (Q (.c (.bool false)) m0))):Wc prog tbl 90 [(.agg 2 [(Il a100),(Il a101)])] m Q:=
 zpB (n:=1) rfl (by kernel_rfl) (by kernel_rfl) h
theorem w94{a100:C}{a200:C}{m:M}{Q:V→M→Prop}(h :
 (∀m0:M,(m0=(M.new m (AO.cells 1 [a200] false)))→Wc prog tbl 121 [(.c a100),(.c (C.fn (Fn.func 122) [] [(W.c (C0.ptr m.nxt 0))]))] m0 (fun v1 m2 => 
 ∃b3:Bool,(v1=(.c (.bool b3)))∧Q (.c (.bool (!b3))) m2))):Wc prog tbl 94 [(.c a100),(.c a200)] m Q:=
 zpB (n:=2) rfl (by kernel_rfl) (by kernel_rfl) h
theorem w98{a100:Int}{a101:Int}{a102:Int}{a103:Int}{a104:Int}{a105:Int}{a106:Int}{a107:Int}{a108:Int}{m:M}{Q:V→M→Prop}(h :
 (∀m0:M,(m0=(M.new m (AO.cells 9 [(Il a100),(Il a101),(Il a102),
 (Il a103),(Il a104),(Il a105),(Il a106),
 (Il a107),(Il a108)] false)))→Q (.c (C.fn (Fn.func 128) [] [(W.c (C0.ptr m.nxt 0))])) m0)):Wc prog tbl 98 [(.agg 9 [(Il a100),(Il a101),(Il a102),(Il a103),(Il a104),(Il a105),(Il a106),(Il a107),(Il a108)])] m Q:=
 zpB (n:=1) rfl (by kernel_rfl) (by kernel_rfl) h
theorem zvp{a100:C}{m:M}{Q:V→M→Prop}(h :
 (isSl a100∧ifB (decide ((((slLen a100):Nat):Int) < (1:Int))) False (∃n0:Nat,((0:Int)=((n0:Nat):Int)) ∧ 
 (n0 < (slLen a100))∧∃x1,((ldC m (zl2 a100 (n0 * 1)))=(some (Il x1))) ∧ 
 ∀R2:List V→M→Prop,(∀x3:Int,∀x4:Int,∀m5:M,(isSl a100∧ifB (decide (x4 < (((slLen a100):Nat):Int))) (∃n6:Nat,
 (x4=((n6:Nat):Int))∧(n6 < (slLen a100))∧∃x7,((ldC m5 (zl2 a100 (n6 * 1)))=(some (Il x7))) ∧ 
 zl0 .i64 (x4+1)∧R2 [(.c (Il (Max.max x3 x7))),(.c (Il (x4+1)))] m5) (Q (.c (Il x3)) m5)) → 
 R2 [(.c (Il x3)),(.c (Il x4))] m5)→R2 [(.c (Il x1)),
 (.c (Il (1:Int)))] m))):Wc prog tbl 102 [(.c a100)] m Q:=
 zpB (n:=1) rfl (by kernel_rfl) (by kernel_rfl) h
theorem zvq{a100:C}{a200:C}{m:M}{Q:V→M→Prop}(h :
 (∀m0:M,(m0=(M.new m (AO.cells 1 [a200] false)))→Wc prog tbl 134 [(.c a100),(.c (C.fn (Fn.func 135) [] [(W.c (C0.ptr m.nxt 0))]))] m0 (fun v1 m2 => 
 ∃b3:Bool,(v1=(.c (.bool b3)))∧Q (.c (.bool (!b3))) m2))):Wc prog tbl 107 [(.c a100),(.c a200)] m Q:=
 zpB (n:=2) rfl (by kernel_rfl) (by kernel_rfl) h
theorem zvr{a100:C}{a101:Int}{a102:Int}{a103:C}{a104:C}{a200:Int}{a201:Int}{a202:Int}{a203:Int}{a204:Int}{a205:Int}{a206:Int}{a207:Int}{a208:Int}{a300:Int}{m:M}{Q:V→M→Prop}(h :
 (∀m0:M,(m0=(M.new m (AO.cells 5 [a100,(Il a101),(Il a102),a103,a104] false))) → 
 ∀m1:M,(m1=(M.new m0 (AO.cells 9 [(Il a200),(Il a201),(Il a202),
 (Il a203),(Il a204),(Il a205),(Il a206),
 (Il a207),(Il a208)] false)))→isPt (.ptr m.nxt 0)∧∃c2:C,
 ∃x3 x4,∃c5:C,((ldA m1 (.ptr m.nxt 0) 4)=(some [c2,(Il x3),
 (Il x4),c5]))∧∃x6 x7 x8 x9 x10,
 ∃x11 x12 x13 x14,((ldA m1 (.ptr m0.nxt 0) 9)=(some [(Il x6),
 (Il x7),(Il x8),(Il x9),(Il x10),
 (Il x11),(Il x12),(Il x13),(Il x14)])) ∧ 
 Wc prog tbl 142 [(.agg 4 [c2,(Il x3),(Il x4),c5]),(.agg 9 [(Il x6),
 (Il x7),(Il x8),(Il x9),(Il x10),
 (Il x11),(Il x12),(Il x13),(Il x14)]),
 (.c (Il a300))] m1 (fun v15 m16=>∃x17 x18 x19,
 ∃x20 x21 x22,(v15=(.agg 6 [(Il x17),
 (Il x18),(Il x19),(Il x20),(Il x21),
 (Il x22)]))∧∀m23:M,(m23=(M.new m16 (AO.cells 6 [(Il 0),
 (Il 0),(Il 0),(Il 0),
 (Il 0),(Il 0)] false)))→∃m24:M,
 ((stC m23 (.ptr m16.nxt 0) 6 [(Il x17),(Il x18),
 (Il x19),(Il x20),(Il x21),(Il x22)])=(some m24)) ∧ 
 isPt (.ptr m.nxt 0)∧∃c25:C,((ldC m24 (.ptr m.nxt 4))=(some c25)) ∧ 
 ∃x26 x27 x28 x29 x30 x31,
 ((ldA m24 (.ptr m16.nxt 0) 6)=(some [(Il x26),(Il x27),
 (Il x28),(Il x29),(Il x30),(Il x31)])) ∧ 
 ∃y32:Option U,((lkM prog 97 m24 c25 (.agg 6 [(Il x26),
 (Il x27),(Il x28),(Il x29),(Il x30),
 (Il x31)]))=(some y32))∧((y32=Option.none)→isPt (.ptr m.nxt 0) ∧ 
 isPt (.ptr m.nxt 0)∧∃c33:C,((ldC m24 (.ptr m.nxt 0))=(some c33)) ∧ 
 ∃x34 x35 x36 x37 x38 x39,
 ((ldA m24 (.ptr m16.nxt 0) 6)=(some [(Il x34),(Il x35),
 (Il x36),(Il x37),(Il x38),(Il x39)])) ∧ 
 isPt (.ptr m.nxt 0)∧isPt (.ptr m.nxt 0)∧∃x40,((ldC m24 (.ptr m.nxt 1))=(some (Il x40))) ∧ 
 Wc prog tbl 50 [(.c c33),(.agg 6 [(Il x34),(Il x35),
 (Il x36),(Il x37),(Il x38),(Il x39)]),
 (.agg 2 [(Il x40),(Il a300)])] m24 (fun v41 m42 => 
 ∃x43 x44,(v41=(.tup [(.c (Il x43)),(.c (Il x44))])) ∧ 
 isPt (.ptr m.nxt 0)∧∃c45:C,((ldC m42 (.ptr m.nxt 4))=(some c45)) ∧ 
 ∃x46 x47 x48 x49 x50 x51,
 ((ldA m42 (.ptr m16.nxt 0) 6)=(some [(Il x46),(Il x47),
 (Il x48),(Il x49),(Il x50),(Il x51)])) ∧ 
 ∃m52:M,((upM prog 97 m42 c45 (.agg 6 [(Il x46),(Il x47),
 (Il x48),(Il x49),(Il x50),(Il x51)]) (.c (Il x43)))=(some m52)) ∧ 
 Q (.c (Il x43)) m52))∧∀u53:U,
 (y32=(some u53))→∃x54,(u53=(.c (Il x54))) ∧ 
 Q (.c (Il x54)) m24))):Wc prog tbl 111 [(.agg 5 [a100,(Il a101),(Il a102),a103,a104]),(.agg 9 [(Il a200),(Il a201),(Il a202),(Il a203),(Il a204),(Il a205),(Il a206),(Il a207),(Il a208)]),(.c (Il a300))] m Q:=
 zpB (n:=3) rfl (by kernel_rfl) (by kernel_rfl) h
theorem zvs{a100:Int}{a101:Bool}{a102:Int}{a103:C}{a104:C}{a105:C}{m:M}{Q:V→M→Prop}(h :
 (∀m0:M,(m0=(M.new m (AO.cells 6 [(Il a100),(.bool a101),(Il a102),a103,
 a104,a105] false)))→isPt (.ptr m.nxt 0)∧∃c1:C,((ldC m0 (.ptr m.nxt 3))=(some c1)) ∧ 
 isSl c1∧ifB (decide ((4:Int) < (((slLen c1):Nat):Int))) (Q (.c (.bool true)) m0) (isPt (.ptr m.nxt 0) ∧ 
 ∃c2:C,((ldC m0 (.ptr m.nxt 4))=(some c2))∧isSl c2∧ifB (decide ((5:Int) < (((slLen c2):Nat):Int))) (Q (.c (.bool true)) m0) (isPt (.ptr m.nxt 0) ∧ 
 ∃c3:C,((ldC m0 (.ptr m.nxt 5))=(some c3))∧isSl c3∧Q (.c (.bool (decide ((3:Int) < (((slLen c3):Nat):Int))))) m0)))):Wc prog tbl 115 [(.agg 6 [(Il a100),(.bool a101),(Il a102),a103,a104,a105])] m Q:=
 zpB (n:=1) rfl (by kernel_rfl) (by kernel_rfl) h
theorem zvt{a100:C}{m:M}{Q:V→M→Prop}(h :
 (isSl a100∧∀R0:List V→M→Prop,(∀c1:C,∀x2:Int,∀m3:M,(ifB (decide (x2 < (((slLen a100):Nat):Int))) (∃n4:Nat,
 (x2=((n4:Nat):Int))∧(n4 < (slLen a100))∧∃x5,∃b6:Bool,∃x7,∃c8:C,
 ∃c9:C,∃c10:C,((ldA m3 (zl2 a100 (n4 * 6)) 6)=(some [(Il x5),
 (.bool b6),(Il x7),c8,c9,c10]))∧∀m11:M,(m11=(M.new m3 (AO.cells 6 [(Il 0),
 (.bool false),(Il 0),C.sl0,C.sl0,C.sl0] false)))→∃m12:M,
 ((stC m11 (.ptr m3.nxt 0) 6 [(Il x5),(.bool b6),(Il x7),
 c8,c9,c10])=(some m12))∧isPt (.ptr m3.nxt 0)∧∃x13,((ldC m12 (.ptr m3.nxt 0))=(some (Il x13))) ∧ 
 ∀m14:M,(m14=(M.new m12 (AO.cells 1 [(Il x13)] false)))→∃c15:C,
 ∃m16:M,(ApR prog 29 m14 c1 (.sl m12.nxt 0 1 0 (some 1)) c15 m16) ∧ 
 zl0 .i64 (x2+1)∧R0 [(.c c15),(.c (Il (x2+1)))] m16) (Q (.c c1) m3)) → 
 R0 [(.c c1),(.c (Il x2))] m3)→R0 [(.c C.sl0),(.c (Il 0))] m)):Wc prog tbl 119 [(.c a100)] m Q:=
 zpB (n:=1) rfl (by kernel_rfl) (by kernel_rfl) h
theorem zvu{a100:Int}{m:M}{Q:V→M→Prop}(h :
 (Wc prog tbl 93 [(.agg 2 [(Il 0),(Il (100:Int))]),(.c (Il a100))] m (fun v0 m1 => 
 ∃b2:Bool,(v0=(.c (.bool b2)))∧Q (.c (.bool b2)) m1))):Wc prog tbl 124 [(.c (Il a100))] m Q:=
 zpB (n:=1) rfl (by kernel_rfl) (by kernel_rfl) h
theorem zvv{a100:Int}{a200:Int}{m:M}{Q:V→M→Prop}(h :
 (zl0 .i64 ((Max.max a100 a200) - (Min.min a100 a200))∧Q (.c (Il ((Max.max a100 a200) - (Min.min a100 a200)))) m)):Wc prog tbl 129 [(.c (Il a100)),(.c (Il a200))] m Q:=
 zpB (n:=2) rfl (by kernel_rfl) (by kernel_rfl) h
theorem zvw{a100:C}{a200:Int}{m:M}{Q:V→M→Prop}(h :
 (∃n0:Nat,((0:Int)=((n0:Nat):Int))∧(n0 < (slLen a100))∧isPt (zl2 a100 (n0 * 6))∧∃c1:C,
 ((ldC m (zl1 (zl2 a100 (n0 * 6)) 5))=(some c1))∧isSl c1∧Wc prog tbl 158 [(.c (Il a200)),
 (.c (Il (((slLen c1):Nat):Int)))] m (fun v2 m3=>∃b4:Bool,(v2=(.c (.bool b4))) ∧ 
 Q (.c (.bool b4)) m3))):Wc prog tbl 136 [(.c a100),(.c (Il a200))] m Q:=
 zpB (n:=2) rfl (by kernel_rfl) (by kernel_rfl) h
theorem zvx{a100:C}{a200:Int}{m:M}{Q:V→M→Prop}(h :
 (∀m0:M,(m0=(M.new m (AO.cells 6 [(Il 0),(.bool false),(Il 0),
 C.sl0,C.sl0,C.sl0] false)))→Wc prog tbl 119 [(.c a100)] m0 (fun v1 m2=>∃c3:C,(v1=(.c c3)) ∧ 
 Wc prog tbl 159 [(.c c3),(.c (Il a200))] m2 (fun v4 m5=>∃x6,(v4=(.c (Il x6))) ∧ 
 ∃n7:Nat,(x6=((n7:Nat):Int))∧(n7 < (slLen a100))∧∃x8,∃b9:Bool,∃x10,
 ∃c11:C,∃c12:C,∃c13:C,((ldA m5 (zl2 a100 (n7 * 6)) 6)=(some [(Il x8),
 (.bool b9),(Il x10),c11,c12,c13]))∧∃m14:M,((stC m5 (.ptr m.nxt 0) 6 [(Il x8),
 (.bool b9),(Il x10),c11,c12,c13])=(some m14))∧∃x15,
 ∃b16:Bool,∃x17,∃c18:C,∃c19:C,∃c20:C,((ldA m14 (.ptr m.nxt 0) 6)=(some [(Il x15),
 (.bool b16),(Il x17),c18,c19,c20]))∧Q (.agg 6 [(Il x15),
 (.bool b16),(Il x17),c18,c19,c20]) m14)))):Wc prog tbl 140 [(.c a100),(.c (Il a200))] m Q:=
 zpB (n:=2) rfl (by kernel_rfl) (by kernel_rfl) h
theorem zvy{a100:C}{a200:C}{m:M}{Q:V→M→Prop}(h :
 (isSl a100∧∀R0:List V→M→Prop,(∀x1:Int,∀x2:Int,∀m3:M,(ifB (decide (x2 < (((slLen a100):Nat):Int))) (∃n4:Nat,
 (x2=((n4:Nat):Int))∧(n4 < (slLen a100))∧∃x5,∃b6:Bool,∃x7,∃c8:C,
 ∃c9:C,∃c10:C,((ldA m3 (zl2 a100 (n4 * 6)) 6)=(some [(Il x5),
 (.bool b6),(Il x7),c8,c9,c10]))∧zmq prog tbl [(.agg 6 [(Il x5),
 (.bool b6),(Il x7),c8,c9,c10])] a200 m3 (fun v11 m12=>∃b13:Bool,
 (v11=(.c (.bool b13)))∧ifB b13 (Q (.c (Il x2)) m12) (zl0 .i64 (x2+1) ∧ 
 R0 [(.c (Il x1)),(.c (Il (x2+1)))] m12))) (Q (.c (Il (-1:Int))) m3)) → 
 R0 [(.c (Il x1)),(.c (Il x2))] m3)→R0 [(.c (Il 0)),
 (.c (Il 0))] m)):Wc prog tbl 144 [(.c a100),(.c a200)] m Q:=
 zpB (n:=2) rfl (by kernel_rfl) (by kernel_rfl) h
theorem zvz{a100:C}{a200:C}{m:M}{Q:V→M→Prop}(h :
 (∀m0:M,(m0=(M.new m (AO.cells 1 [a200] false)))→Wc prog tbl 165 [(.c a100),(.c (C.fn (Fn.func 166) [] [(W.c (C0.ptr m.nxt 0))]))] m0 (fun v1 m2 => 
 ∃b3:Bool,(v1=(.c (.bool b3)))∧Q (.c (.bool (!b3))) m2))):Wc prog tbl 149 [(.c a100),(.c a200)] m Q:=
 zpB (n:=2) rfl (by kernel_rfl) (by kernel_rfl) h
theorem zvA{a100:C}{a200:C}{m:M}{Q:V→M→Prop}(h :
 (Wc prog tbl 170 [(.c a100),(.c a200)] m (fun v0 m1=>∃x2,(v0=(.c (Il x2)))∧Q (.c (.bool (decide ((0:Int)≤x2)))) m1))):Wc prog tbl 153 [(.c a100),(.c a200)] m Q:=
 zpB (n:=2) rfl (by kernel_rfl) (by kernel_rfl) h
theorem zvB{a100:Int}{a200:Int}{m:M}{Q:V→M→Prop}(h :
 (zl0 .i64 (a200 - 1)∧Wc prog tbl 109 [(.agg 2 [(Il 0),(Il (a200 - 1))]),
 (.c (Il a100))] m (fun v0 m1=>∃b2:Bool,(v0=(.c (.bool b2)))∧Q (.c (.bool b2)) m1))):Wc prog tbl 158 [(.c (Il a100)),(.c (Il a200))] m Q:=
 zpB (n:=2) rfl (by kernel_rfl) (by kernel_rfl) h
theorem zvC{a100:C}{a200:C}{m:M}{Q:V→M→Prop}(h :
 (isSl a100∧∀R0:List V→M→Prop,(∀x1:Int,∀x2:Int,∀m3:M,(ifB (decide (x2 < (((slLen a100):Nat):Int))) (∃n4:Nat,
 (x2=((n4:Nat):Int))∧(n4 < (slLen a100))∧∃x5,∃b6:Bool,∃x7,∃c8:C,
 ∃c9:C,∃c10:C,((ldA m3 (zl2 a100 (n4 * 6)) 6)=(some [(Il x5),
 (.bool b6),(Il x7),c8,c9,c10]))∧zmq prog tbl [(.agg 6 [(Il x5),
 (.bool b6),(Il x7),c8,c9,c10])] a200 m3 (fun v11 m12=>∃b13:Bool,
 (v11=(.c (.bool b13)))∧ifB b13 (Q (.c (Il x2)) m12) (zl0 .i64 (x2+1) ∧ 
 R0 [(.c (Il x1)),(.c (Il (x2+1)))] m12))) (Q (.c (Il (-1:Int))) m3)) → 
 R0 [(.c (Il x1)),(.c (Il x2))] m3)→R0 [(.c (Il 0)),
 (.c (Il 0))] m)):Wc prog tbl 162 [(.c a100),(.c a200)] m Q:=
 zpB (n:=2) rfl (by kernel_rfl) (by kernel_rfl) h
theorem zvD{a100:Int}{a101:Bool}{a102:Int}{a103:C}{a104:C}{a105:C}{a200:C}{m:M}{Q:V→M→Prop}(h :
 (∀m0:M,(m0=(M.new m (AO.cells 6 [(Il a100),(.bool a101),(Il a102),a103,
 a104,a105] false)))→isSl a200∧isPt (.ptr m.nxt 0)∧∃c1:C,((ldC m0 (.ptr m.nxt 4))=(some c1)) ∧ 
 isSl c1∧ifB (decide ((((slLen a200):Nat):Int)=(((slLen c1):Nat):Int))) (Wc prog tbl 148 [(.c a200),
 (.c (C.fn (Fn.func 147) [] []))] m0 (fun v2 m3=>∃b4:Bool,(v2=(.c (.bool b4)))∧Q (.c (.bool b4)) m3)) (Q (.c (.bool false)) m0))):Wc prog tbl 168 [(.agg 6 [(Il a100),(.bool a101),(Il a102),a103,a104,a105]),(.c a200)] m Q:=
 zpB (n:=2) rfl (by kernel_rfl) (by kernel_rfl) h
theorem zvE{a100:C}{a200:Int}{m:M}{Q:V→M→Prop}(h :
 (isSl a100∧∀R0:List V→M→Prop,(∀x1:Int,∀x2:Int,∀m3:M,(ifB (decide (x1 < x2)) (zl0 .i64 (x1+x2) ∧ 
 ((0:Int)≤(zl5 .u64 (x1+x2)))∧((0:Int)≤(1:Int))∧((1:Int)≤(64:Int)) ∧ 
 zl0 .u64 ((zl5 .u64 (x1+x2)) / (2:Int))∧∃n4:Nat,((zl5 .i64 ((zl5 .u64 (x1+x2)) / (2:Int)))=((n4:Nat):Int)) ∧ 
 (n4 < (slLen a100))∧∃x5,((ldC m3 (zl2 a100 (n4 * 1)))=(some (Il x5))) ∧ 
 Wc prog tbl 180 [(.c (Il x5)),(.c (Il a200))] m3 (fun v6 m7 => 
 ∃b8:Bool,(v6=(.c (.bool b8)))∧ifB b8 (zl0 .i64 ((zl5 .i64 ((zl5 .u64 (x1+x2)) / (2:Int)))+(1:Int)) ∧ 
 R0 [(.c (Il ((zl5 .i64 ((zl5 .u64 (x1+x2)) / (2:Int)))+(1:Int)))),
 (.c (Il x2))] m7) (R0 [(.c (Il x1)),(.c (Il (zl5 .i64 ((zl5 .u64 (x1+x2)) / (2:Int)))))] m7))) (ifB (decide (x1 < (((slLen a100):Nat):Int))) (∃n9:Nat,
 (x1=((n9:Nat):Int))∧(n9 < (slLen a100))∧∃x10,((ldC m3 (zl2 a100 (n9 * 1)))=(some (Il x10))) ∧ 
 ifB (decide (x10=a200)) (Q (.tup [(.c (Il x1)),(.c (.bool true))]) m3) (∃n11:Nat,
 (x1=((n11:Nat):Int))∧(n11 < (slLen a100))∧∃x12,((ldC m3 (zl2 a100 (n11 * 1)))=(some (Il x12))) ∧ 
 Wc prog tbl 181 [(.c (Il x12))] m3 (fun v13 m14=>∃b15:Bool,(v13=(.c (.bool b15))) ∧ 
 ifB b15 (Wc prog tbl 181 [(.c (Il a200))] m14 (fun v16 m17=>∃b18:Bool,
 (v16=(.c (.bool b18)))∧Q (.tup [(.c (Il x1)),(.c (.bool b18))]) m17)) (Q (.tup [(.c (Il x1)),
 (.c (.bool false))]) m14)))) (Q (.tup [(.c (Il x1)),
 (.c (.bool false))]) m3)))→R0 [(.c (Il x1)),(.c (Il x2))] m3) → 
 R0 [(.c (Il 0)),(.c (Il (((slLen a100):Nat):Int)))] m)):Wc prog tbl 172 [(.c a100),(.c (Il a200))] m Q:=
 zpB (n:=2) rfl (by kernel_rfl) (by kernel_rfl) h
theorem zvF{a100:C}{a200:C}{m:M}{Q:V→M→Prop}(h :
 (isSl a100∧∀R0:List V→M→Prop,(∀x1:Int,∀x2:Int,∀m3:M,(ifB (decide (x2 < (((slLen a100):Nat):Int))) (∃n4:Nat,
 (x2=((n4:Nat):Int))∧(n4 < (slLen a100))∧∃c5:C,((ldC m3 (zl2 a100 (n4 * 1)))=(some c5)) ∧ 
 zmq prog tbl [(.c c5)] a200 m3 (fun v6 m7=>∃b8:Bool,(v6=(.c (.bool b8)))∧ifB b8 (Q (.c (Il x2)) m7) (zl0 .i64 (x2+1) ∧ 
 R0 [(.c (Il x1)),(.c (Il (x2+1)))] m7))) (Q (.c (Il (-1:Int))) m3)) → 
 R0 [(.c (Il x1)),(.c (Il x2))] m3)→R0 [(.c (Il 0)),
 (.c (Il 0))] m)):Wc prog tbl 176 [(.c a100),(.c a200)] m Q:=
 zpB (n:=2) rfl (by kernel_rfl) (by kernel_rfl) h
theorem zvG{a100:Int}{m:M}{Q:V→M→Prop}(h :
 (Q (.c (.bool (!decide (a100=a100)))) m)):Wc prog tbl 181 [(.c (Il a100))] m Q:=
 zpB (n:=1) rfl (by kernel_rfl) (by kernel_rfl) h
theorem w10{a100:C}{a101:Int}{a102:Int}{a103:C}{a200:Int}{a300:Int}{m:M}{Q:V→M→Prop}(h :
 (∀m0:M,(m0=(M.new m (AO.cells 4 [a100,(Il a101),(Il a102),a103] false))) → 
 ∃c1:C,∃x2 x3,∃c4:C,((ldA m0 (.ptr m.nxt 0) 4)=(some [c1,(Il x2),
 (Il x3),c4]))∧Wc prog tbl 43 [(.agg 4 [c1,(Il x2),(Il x3),
 c4])] m0 (fun v5 m6=>∃b7:Bool,(v5=(.c (.bool b7)))∧ifB (!b7) (Wc prog tbl 17 [] m6 (fun v8 m9 => 
 ∃b10:Bool,(v8=(.c (.bool b10)))∧Q (.c (.bool b10)) m9)) (isPt (.ptr m.nxt 0) ∧ 
 ∃c11:C,((ldC m6 (.ptr m.nxt 3))=(some c11))∧isSl c11∧ifB (decide ((((slLen c11):Nat):Int)=(0:Int))) (Wc prog tbl 17 [] m6 (fun v12 m13 => 
 ∃b14:Bool,(v12=(.c (.bool b14)))∧Q (.c (.bool b14)) m13)) (isPt (.ptr m.nxt 0) ∧ 
 ∃c15:C,((ldC m6 (.ptr m.nxt 3))=(some c15))∧isSl c15∧((0:Int)≤(zl5 .i64 a300)) ∧ 
 ((0:Int) < (((slLen c15):Nat):Int))∧zl0 .i64 ((zl5 .i64 a300) % (((slLen c15):Nat):Int)) ∧ 
 ∀m16:M,(m16=(zn2 m6 2))→∃c17:C,∃x18 x19,∃c20:C,
 ((ldA m16 (.ptr m.nxt 0) 4)=(some [c17,(Il x18),
 (Il x19),c20]))∧Wc prog tbl 52 [(.agg 4 [c17,(Il x18),
 (Il x19),c20])] m16 (fun v21 m22=>∃c23:C,∃x24,
 ∃x25,∃c26:C,(v21=(.agg 4 [c23,(Il x24),(Il x25),
 c26]))∧∃c27:C,∃x28 x29,∃c30:C,((ldA m22 (.ptr m.nxt 0) 4)=(some [c27,
 (Il x28),(Il x29),c30]))∧(ifB (zaL cmC [c27,
 (Il x28),(Il x29),c30]) ((ldA m16 (.ptr m.nxt 0) 4)=(some [c27,
 (Il x28),(Il x29),c30])) False)∧Wc prog tbl 52 [(.agg 4 [c27,
 (Il x28),(Il x29),c30])] m22 (fun v31 m32 => 
 ∃c33:C,∃x34 x35,∃c36:C,(v31=(.agg 4 [c33,(Il x34),
 (Il x35),c36]))∧∀m37:M,(m37=(M.set m32 (m6.nxt+0) (AO.cells 4 [C.sl0,
 (Il 0),(Il 0),C.sl0] false))) → 
 (ifB (zaL cmC [c27,(Il x28),(Il x29),c30]) ((ldA m37 (.ptr m.nxt 0) 4)=(some [c27,
 (Il x28),(Il x29),c30])) False)∧(ifB (zaL cmC [c17,
 (Il x18),(Il x19),c20]) ((ldA m37 (.ptr m.nxt 0) 4)=(some [c17,
 (Il x18),(Il x19),c20])) False)∧∀m38:M,
 (m38=(M.set m37 (m6.nxt+1) (AO.cells 4 [C.sl0,(Il 0),
 (Il 0),C.sl0] false)))→(ifB (zaL cmC [c27,(Il x28),
 (Il x29),c30]) ((ldA m38 (.ptr m.nxt 0) 4)=(some [c27,
 (Il x28),(Il x29),c30])) False)∧(ifB (zaL cmC [c17,
 (Il x18),(Il x19),c20]) ((ldA m38 (.ptr m.nxt 0) 4)=(some [c17,
 (Il x18),(Il x19),c20])) False)∧∃m39:M,
 ((stC m38 (.ptr (m6.nxt+0) 0) 4 [c23,(Il x24),(Il x25),
 c26])=(some m39))∧∃m40:M,((stC m39 (.ptr (m6.nxt+1) 0) 4 [c33,
 (Il x34),(Il x35),c36])=(some m40)) ∧ 
 isPt (.ptr (m6.nxt+0) 0)∧∃c41:C,((ldC m40 (.ptr (m6.nxt+0) 3))=(some c41)) ∧ 
 isPt (.ptr (m6.nxt+1) 0)∧∃c42:C,((ldC m40 (.ptr (m6.nxt+1) 3))=(some c42)) ∧ 
 isPt (.ptr m.nxt 0)∧∃c43:C,((ldC m40 (.ptr m.nxt 3))=(some c43)) ∧ 
 ∃n44:Nat,(((zl5 .i64 a300) % (((slLen c15):Nat):Int))=((n44:Nat):Int)) ∧ 
 (n44 < (slLen c43))∧isPt (zl2 c43 (n44 * 9))∧∃x45,((ldC m40 (zl1 (zl2 c43 (n44 * 9)) 2))=(some (Il x45))) ∧ 
 ((0:Int)≤(zl5 .i64 a200))∧((0:Int) < (9:Int))∧zl0 .i64 ((zl5 .i64 a200) % (9:Int)) ∧ 
 zl0 .i64 (x45+((zl5 .i64 a200) % (9:Int)))∧∃n46:Nat,
 (((zl5 .i64 a300) % (((slLen c15):Nat):Int))=((n46:Nat):Int)) ∧ 
 (n46 < (slLen c41))∧isPt (zl2 c41 (n46 * 9))∧∃m47:M,((stC m40 (zl1 (zl2 c41 (n46 * 9)) 2) 1 [(Il (Min.min (100:Int) (x45+((zl5 .i64 a200) % (9:Int)))))])=(some m47)) ∧ 
 (ifB (cmC c42) ((ldC m47 (.ptr (m6.nxt+1) 3))=(some c42)) False) ∧ 
 ∃n48:Nat,(((zl5 .i64 a300) % (((slLen c15):Nat):Int))=((n48:Nat):Int)) ∧ 
 (n48 < (slLen c42))∧isPt (zl2 c42 (n48 * 9))∧∃m49:M,((stC m47 (zl1 (zl2 c42 (n48 * 9)) 2) 1 [(Il (100:Int))])=(some m49)) ∧ 
 ∃c50:C,∃x51 x52,∃c53:C,((ldA m49 (.ptr m.nxt 0) 4)=(some [c50,
 (Il x51),(Il x52),c53]))∧Wc prog tbl 19 [(.agg 4 [c50,
 (Il x51),(Il x52),c53])] m49 (fun v54 m55 => 
 ∃c56:C,∃x57 x58,∃c59:C,(v54=(.agg 4 [c56,(Il x57),
 (Il x58),c59]))∧Wc prog tbl 28 [(.agg 4 [c56,(Il x57),
 (Il x58),c59]),(.c (Il ((zl5 .i64 a300) % (((slLen c15):Nat):Int))))] m55 (fun v60 m61 => 
 ∃x62 x63,(v60=(.tup [(.c (Il x62)),(.c (Il x63))])) ∧ 
 ∃c64:C,∃x65 x66,∃c67:C,((ldA m61 (.ptr (m6.nxt+0) 0) 4)=(some [c64,
 (Il x65),(Il x66),c67]))∧Wc prog tbl 19 [(.agg 4 [c64,
 (Il x65),(Il x66),c67])] m61 (fun v68 m69 => 
 ∃c70:C,∃x71 x72,∃c73:C,(v68=(.agg 4 [c70,(Il x71),
 (Il x72),c73]))∧Wc prog tbl 28 [(.agg 4 [c70,(Il x71),
 (Il x72),c73]),(.c (Il ((zl5 .i64 a300) % (((slLen c15):Nat):Int))))] m69 (fun v74 m75 => 
 ∃x76 x77,(v74=(.tup [(.c (Il x76)),(.c (Il x77))])) ∧ 
 ∃c78:C,∃x79 x80,∃c81:C,((ldA m75 (.ptr (m6.nxt+1) 0) 4)=(some [c78,
 (Il x79),(Il x80),c81]))∧Wc prog tbl 19 [(.agg 4 [c78,
 (Il x79),(Il x80),c81])] m75 (fun v82 m83 => 
 ∃c84:C,∃x85 x86,∃c87:C,(v82=(.agg 4 [c84,(Il x85),
 (Il x86),c87]))∧Wc prog tbl 28 [(.agg 4 [c84,(Il x85),
 (Il x86),c87]),(.c (Il ((zl5 .i64 a300) % (((slLen c15):Nat):Int))))] m83 (fun v88 m89 => 
 ∃x90 x91,(v88=(.tup [(.c (Il x90)),(.c (Il x91))])) ∧ 
 ifB (decide (x63=0)) (ifB (decide (x77=0)) (ifB (decide (x91=0)) (ifB (decide (x90=2)) (ifB (!decide (x62=2)) (ifB (!decide (x76=1)) (Wc prog tbl 17 [] m89 (fun v92 m93 => 
 ∃b94:Bool,(v92=(.c (.bool b94)))∧Q (.c (.bool b94)) m93)) (ifB (decide (x62=1)) (Wc prog tbl 17 [] m89 (fun v95 m96 => 
 ∃b97:Bool,(v95=(.c (.bool b97)))∧Q (.c (.bool b97)) m96)) (Q (.c (.bool false)) m89))) (ifB (decide (x76=2)) (ifB (!decide (x76=1)) (Wc prog tbl 17 [] m89 (fun v98 m99 => 
 ∃b100:Bool,(v98=(.c (.bool b100)))∧Q (.c (.bool b100)) m99)) (ifB (decide (x62=1)) (Wc prog tbl 17 [] m89 (fun v101 m102 => 
 ∃b103:Bool,(v101=(.c (.bool b103)))∧Q (.c (.bool b103)) m102)) (Q (.c (.bool false)) m89))) (Q (.c (.bool false)) m89))) (Q (.c (.bool false)) m89)) (Q (.c (.bool false)) m89)) (Q (.c (.bool false)) m89)) (Q (.c (.bool false)) m89)))))))))))))):Wc prog tbl 10 [(.agg 4 [a100,(Il a101),(Il a102),a103]),(.c (C.int .u8 a200)),(.c (C.int .u8 a300))] m Q:=
 zpB (n:=3) rfl (by kernel_rfl) (by kernel_rfl) h
theorem w18{a100:C}{a101:Int}{a102:Int}{a103:C}{a200:C}{m:M}{Q:V→M→Prop}(h :
 (∀m0:M,(m0=(M.new m (AO.cells 4 [a100,(Il a101),(Il a102),a103] false))) → 
 ∀m1:M,(m1=(M.new m0 (AO.cells 4 [C.sl0,(Il 0),(Il 0),
 (Il 0)] false)))→∃c2:C,∃x3 x4,∃c5:C,((ldA m1 (.ptr m.nxt 0) 4)=(some [c2,
 (Il x3),(Il x4),c5]))∧Wc prog tbl 54 [(.agg 4 [c2,(Il x3),
 (Il x4),c5])] m1 (fun v6 m7=>∃c8:C,∃x9 x10,∃c11:C,
 ∃c12:C,∃x13,(v6=(.tup [(.agg 5 [c8,(Il x9),(Il x10),
 c11,c12]),(.c (Il x13))]))∧∀m14:M,(m14=(M.new m7 (AO.cells 5 [C.sl0,
 (Il 0),(Il 0),C.sl0,C.map0] false))) → 
 ∃m15:M,((stC m14 (.ptr m7.nxt 0) 5 [c8,(Il x9),(Il x10),
 c11,c12])=(some m15))∧ifB (!decide (x13=0)) (∃m16:M,((stC m15 (.ptr m0.nxt 0) 4 [C.sl0,
 (Il 0),(Il 0),(Il 0)])=(some m16)) ∧ 
 ∃c17:C,∃x18 x19 x20,((ldA m16 (.ptr m0.nxt 0) 4)=(some [c17,
 (Il x18),(Il x19),(Il x20)])) ∧ 
 Q (.tup [(.agg 4 [c17,(Il x18),(Il x19),(Il x20)]),
 (.c (Il x13))]) m16) (isPt (.ptr m7.nxt 0)∧∃c21:C,
 ∃x22 x23,∃c24:C,((ldA m15 (.ptr m7.nxt 0) 4)=(some [c21,
 (Il x22),(Il x23),c24]))∧Wc prog tbl 55 [(.agg 4 [c21,
 (Il x22),(Il x23),c24]),(.c a200)] m15 (fun v25 m26 => 
 ∃b27:Bool,(v25=(.c (.bool b27)))∧ifB (!b27) (∃m28:M,((stC m26 (.ptr m0.nxt 0) 4 [C.sl0,
 (Il 0),(Il 0),(Il 0)])=(some m28)) ∧ 
 ∃c29:C,∃x30 x31 x32,((ldA m28 (.ptr m0.nxt 0) 4)=(some [c29,
 (Il x30),(Il x31),(Il x32)])) ∧ 
 Q (.tup [(.agg 4 [c29,(Il x30),(Il x31),(Il x32)]),
 (.c (Il (2:Int)))]) m28) (∃c33:C,∃x34 x35,
 ∃c36:C,∃c37:C,((ldA m26 (.ptr m7.nxt 0) 5)=(some [c33,
 (Il x34),(Il x35),c36,c37]))∧Wc prog tbl 56 [(.agg 5 [c33,
 (Il x34),(Il x35),c36,c37]),(.c a200)] m26 (fun v38 m39 => 
 ∃c40:C,∃x41 x42 x43,(v38=(.agg 4 [c40,
 (Il x41),(Il x42),(Il x43)])) ∧ 
 ∃m44:M,((stC m39 (.ptr m0.nxt 0) 4 [c40,(Il x41),(Il x42),
 (Il x43)])=(some m44))∧∃c45:C,∃x46 x47,
 ∃x48,((ldA m44 (.ptr m0.nxt 0) 4)=(some [c45,(Il x46),
 (Il x47),(Il x48)]))∧Q (.tup [(.agg 4 [c45,
 (Il x46),(Il x47),(Il x48)]),
 (.c (Il 0))]) m44))))))):Wc prog tbl 18 [(.agg 4 [a100,(Il a101),(Il a102),a103]),(.c a200)] m Q:=
 zpB (n:=2) rfl (by kernel_rfl) (by kernel_rfl) h
theorem w22{a100:C}{a101:Int}{a102:Int}{a103:C}{m:M}{Q:V→M→Prop}(h :
 (∀m0:M,(m0=(M.new m (AO.cells 4 [a100,(Il a101),(Il a102),a103] false))) → 
 ∃c1:C,∃x2 x3,∃c4:C,((ldA m0 (.ptr m.nxt 0) 4)=(some [c1,(Il x2),
 (Il x3),c4]))∧Wc prog tbl 57 [(.agg 4 [c1,(Il x2),(Il x3),
 c4])] m0 (fun v5 m6=>∃x7,(v5=(.c (Il x7)))∧Q (.c (Il x7)) m6))):Wc prog tbl 22 [(.agg 4 [a100,(Il a101),(Il a102),a103])] m Q:=
 zpB (n:=1) rfl (by kernel_rfl) (by kernel_rfl) h
theorem w30{a100:C}{a200:C}{m:M}{Q:V→M→Prop}(h :
 (isSl a100∧isSl a200∧ifB (decide ((((slLen a100):Nat):Int)=(((slLen a200):Nat):Int))) (Wc prog tbl 67 [(.c a100),
 (.c a200)] m (fun v0 m1=>∃b2:Bool,(v0=(.c (.bool b2)))∧ifB (!b2) (Wc prog tbl 67 [(.c a200),
 (.c a100)] m1 (fun v3 m4=>∃b5:Bool,(v3=(.c (.bool b5)))∧Q (.c (.bool (!b5))) m4)) (Q (.c (.bool false)) m1))) (Q (.c (.bool false)) m))):Wc prog tbl 30 [(.c a100),(.c a200)] m Q:=
 zpB (n:=2) rfl (by kernel_rfl) (by kernel_rfl) h
theorem w34{a100:C}{a101:Int}{a102:Int}{a103:C}{m:M}{Q:V→M→Prop}(h :
 (∀m0:M,(m0=(M.new m (AO.cells 4 [a100,(Il a101),(Il a102),a103] false))) → 
 ∀m1:M,(m1=(M.new m0 (AO.cells 2 [(Il 0),(Il 0)] false))) → 
 ∀m2:M,(m2=(M.new m1 (AO.cells 2 [(Il 0),(Il 0)] false))) → 
 ∃c3:C,∃x4 x5,∃c6:C,((ldA m2 (.ptr m.nxt 0) 4)=(some [c3,(Il x4),
 (Il x5),c6]))∧Wc prog tbl 54 [(.agg 4 [c3,(Il x4),(Il x5),
 c6])] m2 (fun v7 m8=>∃c9:C,∃x10 x11,∃c12:C,∃c13:C,∃x14,
 (v7=(.tup [(.agg 5 [c9,(Il x10),(Il x11),c12,c13]),
 (.c (Il x14))]))∧∀m15:M,(m15=(M.new m8 (AO.cells 5 [C.sl0,
 (Il 0),(Il 0),C.sl0,C.map0] false))) → 
 ∃m16:M,((stC m15 (.ptr m8.nxt 0) 5 [c9,(Il x10),(Il x11),
 c12,c13])=(some m16))∧ifB (!decide (x14=0)) (∃m17:M,((stC m16 (.ptr m0.nxt 0) 2 [(Il 0),
 (Il 0)])=(some m17))∧∃m18:M,((stC m17 (.ptr m1.nxt 0) 2 [(Il 0),
 (Il 0)])=(some m18))∧∃x19 x20,
 ((ldA m18 (.ptr m0.nxt 0) 2)=(some [(Il x19),(Il x20)])) ∧ 
 ∃x21 x22,((ldA m18 (.ptr m1.nxt 0) 2)=(some [(Il x21),
 (Il x22)]))∧Q (.tup [(.agg 2 [(Il x19),(Il x20)]),
 (.agg 2 [(Il x21),(Il x22)]),(.c (Il x14))]) m18) (∃c23:C,
 ∃x24 x25,∃c26:C,∃c27:C,((ldA m16 (.ptr m8.nxt 0) 5)=(some [c23,
 (Il x24),(Il x25),c26,c27]))∧Wc prog tbl 68 [(.agg 5 [c23,
 (Il x24),(Il x25),c26,c27]),(.agg 1 [(C.fn (Fn.func 70) [] [])])] m16 (fun v28 m29 => 
 ∃x30 x31,(v28=(.agg 2 [(Il x30),(Il x31)])) ∧ 
 ∃c32:C,∃x33 x34,∃c35:C,∃c36:C,((ldA m29 (.ptr m8.nxt 0) 5)=(some [c32,
 (Il x33),(Il x34),c35,c36]))∧(ifB (zaL cmC [c32,
 (Il x33),(Il x34),c35,c36]) ((ldA m16 (.ptr m8.nxt 0) 5)=(some [c32,
 (Il x33),(Il x34),c35,c36])) False)∧Wc prog tbl 68 [(.agg 5 [c32,
 (Il x33),(Il x34),c35,c36]),(.agg 1 [(C.fn (Fn.func 71) [] [])])] m29 (fun v37 m38 => 
 ∃x39 x40,(v37=(.agg 2 [(Il x39),(Il x40)])) ∧ 
 ∃m41:M,((stC m38 (.ptr m0.nxt 0) 2 [(Il x30),(Il x31)])=(some m41)) ∧ 
 ∃m42:M,((stC m41 (.ptr m1.nxt 0) 2 [(Il x39),(Il x40)])=(some m42)) ∧ 
 ∃x43 x44,((ldA m42 (.ptr m0.nxt 0) 2)=(some [(Il x43),
 (Il x44)]))∧∃x45 x46,((ldA m42 (.ptr m1.nxt 0) 2)=(some [(Il x45),
 (Il x46)]))∧Q (.tup [(.agg 2 [(Il x43),(Il x44)]),
 (.agg 2 [(Il x45),(Il x46)]),(.c (Il 0))]) m42)))))):Wc prog tbl 34 [(.agg 4 [a100,(Il a101),(Il a102),a103])] m Q:=
 zpB (n:=1) rfl (by kernel_rfl) (by kernel_rfl) h
theorem w38{a100:Int}{a101:Int}{m:M}{Q:V→M→Prop}(h :
 (∀m0:M,(m0=(M.new m (AO.cells 2 [(Il a100),(Il a101)] false)))→∀m1:M,
 (m1=(M.new m0 (AO.cells 2 [(Il 0),(Il 0)] false)))→isPt (.ptr m.nxt 0) ∧ 
 ∃x2,((ldC m1 (.ptr m.nxt 0))=(some (Il x2)))∧isPt (.ptr m.nxt 0) ∧ 
 ∃x3,((ldC m1 (.ptr m.nxt 1))=(some (Il x3)))∧∃m4:M,((stC m1 (.ptr m0.nxt 0) 2 [(Il x2),
 (Il x3)])=(some m4))∧∃x5 x6,((ldA m4 (.ptr m0.nxt 0) 2)=(some [(Il x5),
 (Il x6)]))∧Q (.agg 2 [(Il x5),(Il x6)]) m4)):Wc prog tbl 38 [(.agg 2 [(Il a100),(Il a101)])] m Q:=
 zpB (n:=1) rfl (by kernel_rfl) (by kernel_rfl) h
theorem w42{a100:Int}{a200:Int}{m:M}{Q:V→M→Prop}(h :
 (∀m0:M,(m0=(M.new m (AO.cells 2 [(Il 0),(Il 0)] false))) → 
 ∃m1:M,((stC m0 (.ptr m.nxt 0) 2 [(Il a100),(Il a200)])=(some m1)) ∧ 
 ∃x2 x3,((ldA m1 (.ptr m.nxt 0) 2)=(some [(Il x2),(Il x3)])) ∧ 
 Q (.agg 2 [(Il x2),(Il x3)]) m1)):Wc prog tbl 42 [(.c (Il a100)),(.c (Il a200))] m Q:=
 zpB (n:=2) rfl (by kernel_rfl) (by kernel_rfl) h
theorem w50{a100:C}{a200:Int}{a201:Int}{a202:Int}{a203:Int}{a204:Int}{a205:Int}{a300:Int}{a301:Int}{m:M}{Q:V→M→Prop}(h :
 (∀m0:M,(m0=(M.new m (AO.cells 6 [(Il a200),(Il a201),(Il a202),
 (Il a203),(Il a204),(Il a205)] false)))→∀m1:M,(m1=(M.new m0 (AO.cells 2 [(Il a300),
 (Il a301)] false)))→∃x2 x3 x4 x5 x6,
 ∃x7,((ldA m1 (.ptr m.nxt 0) 6)=(some [(Il x2),(Il x3),
 (Il x4),(Il x5),(Il x6),(Il x7)])) ∧ 
 ∀m8:M,(m8=(M.new m1 (AO.cells 6 [(Il x2),(Il x3),(Il x4),
 (Il x5),(Il x6),(Il x7)] false)))→Wc prog tbl 80 [(.c a100),
 (.c (.sl m1.nxt 0 1 0 (some 1)))] m8 (fun v9 m10=>∃c11:C,∃c12:C,∃x13,
 (v9=(.tup [(.agg 2 [c11,c12]),(.c (Il x13))]))∧∀m14:M,(m14=(M.new m10 (AO.cells 2 [C.sl0,
 C.map0] false)))→∃m15:M,((stC m14 (.ptr m10.nxt 0) 2 [c11,c12])=(some m15)) ∧ 
 ifB (!decide (x13=0)) (Q (.tup [(.c (Il 0)),(.c (Il x13))]) m15) (∃x16,
 ∃x17 x18 x19 x20 x21,((ldA m15 (.ptr m.nxt 0) 6)=(some [(Il x16),
 (Il x17),(Il x18),(Il x19),(Il x20),
 (Il x21)]))∧∃x22 x23,((ldA m15 (.ptr m0.nxt 0) 2)=(some [(Il x22),
 (Il x23)]))∧Wc prog tbl 81 [(.agg 6 [(Il x16),
 (Il x17),(Il x18),(Il x19),(Il x20),
 (Il x21)]),(.agg 2 [(Il x22),(Il x23)])] m15 (fun v24 m25 => 
 ∃b26:Bool,(v24=(.c (.bool b26)))∧ifB (!b26) (Q (.tup [(.c (Il 0)),
 (.c (Il (2:Int)))]) m25) (∃c27:C,∃c28:C,((ldA m25 (.ptr m10.nxt 0) 2)=(some [c27,
 c28]))∧∃x29 x30 x31 x32 x33,
 ∃x34,((ldA m25 (.ptr m.nxt 0) 6)=(some [(Il x29),
 (Il x30),(Il x31),(Il x32),(Il x33),
 (Il x34)]))∧∃x35 x36,((ldA m25 (.ptr m0.nxt 0) 2)=(some [(Il x35),
 (Il x36)]))∧Wc prog tbl 82 [(.agg 2 [c27,c28]),(.agg 6 [(Il x29),
 (Il x30),(Il x31),(Il x32),(Il x33),
 (Il x34)]),(.agg 2 [(Il x35),(Il x36)])] m25 (fun v37 m38 => 
 ∃x39,(v37=(.c (Il x39)))∧Q (.tup [(.c (Il x39)),
 (.c (Il 0))]) m38))))))):Wc prog tbl 50 [(.c a100),(.agg 6 [(Il a200),(Il a201),(Il a202),(Il a203),(Il a204),(Il a205)]),(.agg 2 [(Il a300),(Il a301)])] m Q:=
 zpB (n:=3) rfl (by kernel_rfl) (by kernel_rfl) h
theorem w54{a100:C}{a101:Int}{a102:Int}{a103:C}{m:M}{Q:V→M→Prop}(h :
 (∀m0:M,(m0=(M.new m (AO.cells 4 [a100,(Il a101),(Il a102),a103] false))) → 
 ∀m1:M,(m1=(M.new m0 (AO.cells 5 [C.sl0,(Il 0),(Il 0),
 C.sl0,C.map0] false)))→∃c2:C,∃x3 x4,∃c5:C,((ldA m1 (.ptr m.nxt 0) 4)=(some [c2,
 (Il x3),(Il x4),c5]))∧Wc prog tbl 23 [(.agg 4 [c2,(Il x3),
 (Il x4),c5])] m1 (fun v6 m7=>∃x8,(v6=(.c (Il x8))) ∧ 
 ifB (!decide (x8=0)) (∃m9:M,((stC m7 (.ptr m0.nxt 0) 5 [C.sl0,(Il 0),
 (Il 0),C.sl0,C.map0])=(some m9))∧∃c10:C,∃x11,
 ∃x12,∃c13:C,∃c14:C,((ldA m9 (.ptr m0.nxt 0) 5)=(some [c10,
 (Il x11),(Il x12),c13,c14]))∧Q (.tup [(.agg 5 [c10,
 (Il x11),(Il x12),c13,c14]),(.c (Il x8))]) m9) (∃c15:C,
 ∃x16 x17,∃c18:C,((ldA m7 (.ptr m.nxt 0) 4)=(some [c15,
 (Il x16),(Il x17),c18]))∧∀m19:M,(m19=(M.new m7 (AO.map [] 0))) → 
 ∃m20:M,((stC m19 (.ptr m0.nxt 0) 5 [c15,(Il x16),(Il x17),
 c18,(C.map m7.nxt)])=(some m20))∧∃c21:C,∃x22 x23,
 ∃c24:C,∃c25:C,((ldA m20 (.ptr m0.nxt 0) 5)=(some [c21,(Il x22),
 (Il x23),c24,c25]))∧Q (.tup [(.agg 5 [c21,(Il x22),
 (Il x23),c24,c25]),(.c (Il 0))]) m20)))):Wc prog tbl 54 [(.agg 4 [a100,(Il a101),(Il a102),a103])] m Q:=
 zpB (n:=1) rfl (by kernel_rfl) (by kernel_rfl) h
theorem w58{a100:C}{m:M}{Q:V→M→Prop}(h :
 (Wc prog tbl 91 [(.c a100)] m (fun v0 m1=>∃b2:Bool,(v0=(.c (.bool b2)))∧ifB b2 (Q (.c (Il (3:Int))) m1) (Wc prog tbl 92 [(.c a100)] m1 (fun v3 m4 => 
 ∃b5:Bool,(v3=(.c (.bool b5)))∧ifB (!b5) (Q (.c (Il (1:Int))) m4) (Q (.c (Il 0)) m4)))))):Wc prog tbl 58 [(.c a100)] m Q:=
 zpB (n:=1) rfl (by kernel_rfl) (by kernel_rfl) h
theorem w66{a100:Int}{a101:Int}{a102:Int}{a103:Int}{a104:Int}{a105:Int}{a106:Int}{a107:Int}{a108:Int}{m:M}{Q:V→M→Prop}(h :
 (∀m0:M,(m0=(M.new m (AO.cells 9 [(Il a100),(Il a101),(Il a102),
 (Il a103),(Il a104),(Il a105),(Il a106),
 (Il a107),(Il a108)] false)))→∀m1:M,(m1=(M.new m0 (AO.cells 1 [(.bool false)] false))) → 
 ∀m2:M,(m2=(M.new m1 (AO.cells 1 [(.bool false)] false)))→∃m3:M,((stC m2 (.ptr m0.nxt 0) 1 [(.bool false)])=(some m3)) ∧ 
 ∃m4:M,((stC m3 (.ptr m1.nxt 0) 1 [(.bool false)])=(some m4))∧∃x5 x6,
 ∃x7 x8 x9 x10 x11 x12 x13,
 ((ldA m4 (.ptr m.nxt 0) 9)=(some [(Il x5),(Il x6),
 (Il x7),(Il x8),(Il x9),(Il x10),
 (Il x11),(Il x12),(Il x13)]))∧Wc prog tbl 98 [(.agg 9 [(Il x5),
 (Il x6),(Il x7),(Il x8),(Il x9),
 (Il x10),(Il x11),(Il x12),(Il x13)])] m4 (fun v14 m15 => 
 ∃c16:C,(v14=(.c c16))∧zoA prog tbl c16 m15 (fun l17 m18 R19 R20=>∃x21,
 ∃x22 x23,(l17=[(.agg 3 [(Il x21),(Il x22),
 (Il x23)])])∧∀m24:M,(m24=(M.new m18 (AO.cells 3 [(Il 0),
 (Il 0),(Il 0)] false)))→∃m25:M,
 ((stC m24 (.ptr m18.nxt 0) 3 [(Il x21),(Il x22),
 (Il x23)])=(some m25))∧R19 m25 (fun m26=>∃x27,
 ∃x28 x29 x30 x31 x32 x33,
 ∃x34 x35,((ldA m26 (.ptr m.nxt 0) 9)=(some [(Il x27),
 (Il x28),(Il x29),(Il x30),(Il x31),
 (Il x32),(Il x33),(Il x34),(Il x35)])) ∧ 
 ∃x36 x37 x38,((ldA m26 (.ptr m18.nxt 0) 3)=(some [(Il x36),
 (Il x37),(Il x38)]))∧Wc prog tbl 99 [(.agg 9 [(Il x27),
 (Il x28),(Il x29),(Il x30),(Il x31),
 (Il x32),(Il x33),(Il x34),(Il x35)]),
 (.agg 3 [(Il x36),(Il x37),(Il x38)])] m26 (fun v39 m40 => 
 ∃b41:Bool,(v39=(.c (.bool b41)))∧∃b42:Bool,((ldC m40 (.ptr m0.nxt 0))=(some (.bool b42))) ∧ 
 ifB b42 (∃b43:Bool,((ldC m40 (.ptr m1.nxt 0))=(some (.bool b43))) ∧ 
 ifB b43 (∃m44:M,((stC m40 (.ptr m0.nxt 0) 1 [(.bool true)])=(some m44)) ∧ 
 ∃m45:M,((stC m44 (.ptr m1.nxt 0) 1 [(.bool true)])=(some m45)) ∧ 
 R20 Ex.nrm m45) (∃m46:M,((stC m40 (.ptr m0.nxt 0) 1 [(.bool true)])=(some m46)) ∧ 
 ∃m47:M,((stC m46 (.ptr m1.nxt 0) 1 [(.bool (!b41))])=(some m47)) ∧ 
 R20 Ex.nrm m47)) (∃b48:Bool,((ldC m40 (.ptr m1.nxt 0))=(some (.bool b48))) ∧ 
 ifB b48 (∃m49:M,((stC m40 (.ptr m0.nxt 0) 1 [(.bool b41)])=(some m49)) ∧ 
 ∃m50:M,((stC m49 (.ptr m1.nxt 0) 1 [(.bool true)])=(some m50)) ∧ 
 R20 Ex.nrm m50) (∃m51:M,((stC m40 (.ptr m0.nxt 0) 1 [(.bool b41)])=(some m51)) ∧ 
 ∃m52:M,((stC m51 (.ptr m1.nxt 0) 1 [(.bool (!b41))])=(some m52)) ∧ 
 R20 Ex.nrm m52))))) (zoq.mk (fun m53 => 
 ∃b54:Bool,((ldC m53 (.ptr m1.nxt 0))=(some (.bool b54)))∧ifB (!b54) (Q (.c (Il (1:Int))) m53) (∃b55:Bool,
 ((ldC m53 (.ptr m0.nxt 0))=(some (.bool b55)))∧ifB (!b55) (Q (.c (Il (2:Int))) m53) (Q (.c (Il (3:Int))) m53))) [] (fun m56 => 
 Q (.c (Il 0)) m56))))):Wc prog tbl 66 [(.agg 9 [(Il a100),(Il a101),(Il a102),(Il a103),(Il a104),(Il a105),(Il a106),(Il a107),(Il a108)])] m Q:=
 zpB (n:=1) rfl (by kernel_rfl) (by kernel_rfl) h
theorem w71{a100:Int}{a101:Int}{a102:Int}{a103:Int}{a104:Int}{a105:Int}{m:M}{Q:V→M→Prop}(h :
 (∀m0:M,(m0=(M.new m (AO.cells 6 [(Il a100),(Il a101),(Il a102),
 (Il a103),(Il a104),(Il a105)] false)))→∃x1,
 ∃x2 x3 x4 x5 x6,((ldA m0 (.ptr m.nxt 0) 6)=(some [(Il x1),
 (Il x2),(Il x3),(Il x4),(Il x5),
 (Il x6)]))∧Wc prog tbl 103 [(.agg 6 [(Il x1),(Il x2),
 (Il x3),(Il x4),(Il x5),(Il x6)])] m0 (fun v7 m8 => 
 ∃b9:Bool,(v7=(.c (.bool b9)))∧ifB (!b9) (Q (.c (Il 0)) m8) (isPt (.ptr m.nxt 0) ∧ 
 ∃x10,((ldC m8 (.ptr m.nxt 0))=(some (Il x10)))∧∃x11,
 ∃x12 x13 x14 x15 x16,((ldA m8 (.ptr m.nxt 0) 6)=(some [(Il x11),
 (Il x12),(Il x13),(Il x14),(Il x15),
 (Il x16)]))∧Wc prog tbl 70 [(.agg 6 [(Il x11),
 (Il x12),(Il x13),(Il x14),(Il x15),
 (Il x16)])] m8 (fun v17 m18=>∃x19,(v17=(.c (Il x19))) ∧ 
 ((ldC m18 (.ptr m.nxt 0))=(some (Il x10)))∧zl0 .i64 (x10 - x19) ∧ 
 Q (.c (Il (x10 - x19))) m18))))):Wc prog tbl 71 [(.agg 6 [(Il a100),(Il a101),(Il a102),(Il a103),(Il a104),(Il a105)])] m Q:=
 zpB (n:=1) rfl (by kernel_rfl) (by kernel_rfl) h
theorem w83{a100:C}{m:M}{Q:V→M→Prop}(h :
 (∀m0:M,(m0=(M.new m (AO.cells 0 [] false)))→∃c1:C,∃m2:M,(ApR prog 29 m0 (.sl m.nxt 0 0 0 (some 0)) a100 c1 m2) ∧ 
 Q (.c c1) m2)):Wc prog tbl 83 [(.c a100)] m Q:=
 zpB (n:=1) rfl (by kernel_rfl) (by kernel_rfl) h
theorem w87{a100:C}{a101:Int}{a102:Int}{a103:C}{a104:C}{a200:Int}{a201:Int}{a202:Int}{a203:Int}{a204:Int}{a205:Int}{a206:Int}{a207:Int}{a208:Int}{a300:Int}{a301:Int}{a302:Int}{m:M}{Q:V→M→Prop}(h :
 (∀m0:M,(m0=(M.new m (AO.cells 5 [a100,(Il a101),(Il a102),a103,a104] false))) → 
 ∀m1:M,(m1=(M.new m0 (AO.cells 9 [(Il a200),(Il a201),(Il a202),
 (Il a203),(Il a204),(Il a205),(Il a206),
 (Il a207),(Il a208)] false)))→∀m2:M,(m2=(M.new m1 (AO.cells 3 [(Il a300),
 (Il a301),(Il a302)] false)))→∀m3:M,(m3=(M.new m2 (AO.cells 2 [(Il 0),
 (Il 0)] false)))→∃c4:C,∃x5 x6,∃c7:C,∃c8:C,
 ((ldA m3 (.ptr m.nxt 0) 5)=(some [c4,(Il x5),(Il x6),
 c7,c8]))∧∃x9 x10 x11 x12 x13 x14,
 ∃x15 x16 x17,((ldA m3 (.ptr m0.nxt 0) 9)=(some [(Il x9),
 (Il x10),(Il x11),(Il x12),(Il x13),
 (Il x14),(Il x15),(Il x16),(Il x17)])) ∧ 
 ∃x18 x19 x20 x21 x22 x23,
 ∃x24 x25 x26,((ldA m3 (.ptr m0.nxt 0) 9)=(some [(Il x18),
 (Il x19),(Il x20),(Il x21),(Il x22),
 (Il x23),(Il x24),(Il x25),(Il x26)])) ∧ 
 ∃x27 x28 x29,((ldA m3 (.ptr m1.nxt 0) 3)=(some [(Il x27),
 (Il x28),(Il x29)]))∧Wc prog tbl 85 [(.agg 9 [(Il x18),
 (Il x19),(Il x20),(Il x21),(Il x22),
 (Il x23),(Il x24),(Il x25),(Il x26)]),
 (.agg 3 [(Il x27),(Il x28),(Il x29)])] m3 (fun v30 m31 => 
 ∃x32,(v30=(.c (Il x32)))∧((ldA m31 (.ptr m0.nxt 0) 9)=(some [(Il x9),
 (Il x10),(Il x11),(Il x12),(Il x13),
 (Il x14),(Il x15),(Il x16),(Il x17)])) ∧ 
 (ifB (zaL cmC [c4,(Il x5),(Il x6),c7,c8]) ((ldA m31 (.ptr m.nxt 0) 5)=(some [c4,
 (Il x5),(Il x6),c7,c8])) False)∧Wc prog tbl 111 [(.agg 5 [c4,
 (Il x5),(Il x6),c7,c8]),(.agg 9 [(Il x9),
 (Il x10),(Il x11),(Il x12),(Il x13),
 (Il x14),(Il x15),(Il x16),(Il x17)]),
 (.c (Il x32))] m31 (fun v33 m34=>∃x35,(v33=(.c (Il x35))) ∧ 
 ∃x36 x37 x38 x39 x40 x41,
 ∃x42 x43 x44,((ldA m34 (.ptr m0.nxt 0) 9)=(some [(Il x36),
 (Il x37),(Il x38),(Il x39),(Il x40),
 (Il x41),(Il x42),(Il x43),(Il x44)])) ∧ 
 ((ldA m31 (.ptr m0.nxt 0) 9)=(some [(Il x36),(Il x37),
 (Il x38),(Il x39),(Il x40),(Il x41),
 (Il x42),(Il x43),(Il x44)])) ∧ 
 ((ldA m3 (.ptr m0.nxt 0) 9)=(some [(Il x36),(Il x37),
 (Il x38),(Il x39),(Il x40),(Il x41),
 (Il x42),(Il x43),(Il x44)])) ∧ 
 ∃x45 x46 x47,((ldA m34 (.ptr m1.nxt 0) 3)=(some [(Il x45),
 (Il x46),(Il x47)]))∧((ldA m31 (.ptr m1.nxt 0) 3)=(some [(Il x45),
 (Il x46),(Il x47)]))∧((ldA m3 (.ptr m1.nxt 0) 3)=(some [(Il x45),
 (Il x46),(Il x47)]))∧Wc prog tbl 112 [(.agg 9 [(Il x36),
 (Il x37),(Il x38),(Il x39),(Il x40),
 (Il x41),(Il x42),(Il x43),(Il x44)]),
 (.agg 3 [(Il x45),(Il x46),(Il x47)])] m34 (fun v48 m49 => 
 ∃x50,(v48=(.c (Il x50)))∧∃m51:M,((stC m49 (.ptr m2.nxt 0) 2 [(Il x35),
 (Il x50)])=(some m51))∧∃x52 x53,
 ((ldA m51 (.ptr m2.nxt 0) 2)=(some [(Il x52),(Il x53)])) ∧ 
 Q (.agg 2 [(Il x52),(Il x53)]) m51))))):Wc prog tbl 87 [(.agg 5 [a100,(Il a101),(Il a102),a103,a104]),(.agg 9 [(Il a200),(Il a201),(Il a202),(Il a203),(Il a204),(Il a205),(Il a206),(Il a207),(Il a208)]),(.agg 3 [(Il a300),(Il a301),(Il a302)])] m Q:=
 zpB (n:=3) rfl (by kernel_rfl) (by kernel_rfl) h
theorem w91{a100:C}{m:M}{Q:V→M→Prop}(h :
 (isSl a100∧ifB (decide ((3:Int) < (((slLen a100):Nat):Int))) (Q (.c (.bool true)) m) (Wc prog tbl 114 [(.c a100),
 (.c (C.fn (Fn.func 115) [] []))] m (fun v0 m1=>∃b2:Bool,(v0=(.c (.bool b2)))∧Q (.c (.bool b2)) m1)))):Wc prog tbl 91 [(.c a100)] m Q:=
 zpB (n:=1) rfl (by kernel_rfl) (by kernel_rfl) h
theorem w95{a100:C}{a101:Int}{a102:Int}{a103:C}{a200:Int}{a201:Int}{a202:Int}{a203:Int}{a204:Int}{a205:Int}{a206:Int}{a207:Int}{a208:Int}{m:M}{Q:V→M→Prop}(h :
 (∀m0:M,(m0=(M.new m (AO.cells 4 [a100,(Il a101),(Il a102),a103] false))) → 
 ∀m1:M,(m1=(M.new m0 (AO.cells 9 [(Il a200),(Il a201),(Il a202),
 (Il a203),(Il a204),(Il a205),(Il a206),
 (Il a207),(Il a208)] false)))→isPt (.ptr m0.nxt 0)∧∃x2,
 ∃x3,((ldA m1 (.ptr m0.nxt 3) 2)=(some [(Il x2),(Il x3)])) ∧ 
 isPt (.ptr m0.nxt 0)∧∃x4 x5,((ldA m1 (.ptr m0.nxt 5) 2)=(some [(Il x4),
 (Il x5)]))∧isPt (.ptr m0.nxt 0)∧∃x6 x7,((ldA m1 (.ptr m0.nxt 7) 2)=(some [(Il x6),
 (Il x7)]))∧∀m8:M,(m8=(M.new m1 (AO.cells 6 [(Il x2),
 (Il x3),(Il x4),(Il x5),(Il x6),
 (Il x7)] false)))→∃c9:C,∃x10 x11,∃c12:C,
 ((ldA m8 (.ptr m.nxt 0) 4)=(some [c9,(Il x10),(Il x11),
 c12]))∧∃x13 x14 x15 x16 x17 x18,
 ∃x19 x20 x21,((ldA m8 (.ptr m0.nxt 0) 9)=(some [(Il x13),
 (Il x14),(Il x15),(Il x16),(Il x17),
 (Il x18),(Il x19),(Il x20),(Il x21)])) ∧ 
 Wc prog tbl 123 [(.agg 4 [c9,(Il x10),(Il x11),
 c12]),(.agg 9 [(Il x13),(Il x14),(Il x15),
 (Il x16),(Il x17),(Il x18),(Il x19),
 (Il x20),(Il x21)])] m8 (fun v22 m23=>∃b24:Bool,
 (v22=(.c (.bool b24)))∧ifB b24 (isPt (.ptr m0.nxt 0)∧∃x25,
 ((ldC m23 (.ptr m0.nxt 2))=(some (Il x25)))∧Wc prog tbl 124 [(.c (Il x25))] m23 (fun v26 m27 => 
 ∃b28:Bool,(v26=(.c (.bool b28)))∧ifB b28 (Wc prog tbl 125 [(.c (.sl m1.nxt 0 3 0 (some 3))),
 (.c (C.fn (Fn.func 126) [] []))] m27 (fun v29 m30=>∃b31:Bool,(v29=(.c (.bool b31))) ∧ 
 Q (.c (.bool b31)) m30)) (Q (.c (.bool false)) m27))) (Q (.c (.bool false)) m23)))):Wc prog tbl 95 [(.agg 4 [a100,(Il a101),(Il a102),a103]),(.agg 9 [(Il a200),(Il a201),(Il a202),(Il a203),(Il a204),(Il a205),(Il a206),(Il a207),(Il a208)])] m Q:=
 zpB (n:=2) rfl (by kernel_rfl) (by kernel_rfl) h
theorem w99{a100:Int}{a101:Int}{a102:Int}{a103:Int}{a104:Int}{a105:Int}{a106:Int}{a107:Int}{a108:Int}{a200:Int}{a201:Int}{a202:Int}{m:M}{Q:V→M→Prop}(h :
 (∀m0:M,(m0=(M.new m (AO.cells 9 [(Il a100),(Il a101),(Il a102),
 (Il a103),(Il a104),(Il a105),(Il a106),
 (Il a107),(Il a108)] false)))→∀m1:M,(m1=(M.new m0 (AO.cells 3 [(Il a200),
 (Il a201),(Il a202)] false)))→isPt (.ptr m0.nxt 0)∧∃x2,
 ((ldC m1 (.ptr m0.nxt 0))=(some (Il x2)))∧isPt (.ptr m0.nxt 0)∧∃x3,
 ((ldC m1 (.ptr m0.nxt 1))=(some (Il x3)))∧Wc prog tbl 129 [(.c (Il x2)),
 (.c (Il x3))] m1 (fun v4 m5=>∃x6,(v4=(.c (Il x6))) ∧ 
 isPt (.ptr m.nxt 0)∧∃x7,((ldC m5 (.ptr m.nxt 2))=(some (Il x7))) ∧ 
 ((ldC m1 (.ptr m.nxt 2))=(some (Il x7)))∧Q (.c (.bool (decide (x7 < x6)))) m5))):Wc prog tbl 99 [(.agg 9 [(Il a100),(Il a101),(Il a102),(Il a103),(Il a104),(Il a105),(Il a106),(Il a107),(Il a108)]),(.agg 3 [(Il a200),(Il a201),(Il a202)])] m Q:=
 zpB (n:=2) rfl (by kernel_rfl) (by kernel_rfl) h
theorem zvH{a100:Int}{a101:Int}{a102:Int}{a103:Int}{a104:Int}{a105:Int}{m:M}{Q:V→M→Prop}(h :
 (∀m0:M,(m0=(M.new m (AO.cells 6 [(Il a100),(Il a101),(Il a102),
 (Il a103),(Il a104),(Il a105)] false)))→isPt (.ptr m.nxt 0) ∧ 
 isPt (.ptr m.nxt 2)∧∃n1:Nat,((1:Int)=((n1:Nat):Int))∧(n1 < 4)∧∃x2,((ldC m0 (.ptr m.nxt (2+(n1 * 1))))=(some (Il x2))) ∧ 
 isPt (.ptr m.nxt 0)∧isPt (.ptr m.nxt 2)∧∃n3:Nat,((2:Int)=((n3:Nat):Int)) ∧ 
 (n3 < 4)∧∃x4,((ldC m0 (.ptr m.nxt (2+(n3 * 1))))=(some (Il x4))) ∧ 
 zl0 .i64 (x2+x4)∧isPt (.ptr m.nxt 0)∧isPt (.ptr m.nxt 2)∧∃n5:Nat,
 ((3:Int)=((n5:Nat):Int))∧(n5 < 4)∧∃x6,((ldC m0 (.ptr m.nxt (2+(n5 * 1))))=(some (Il x6))) ∧ 
 zl0 .i64 ((x2+x4)+x6)∧Q (.c (.bool (decide ((0:Int) < ((x2+x4)+x6))))) m0)):Wc prog tbl 103 [(.agg 6 [(Il a100),(Il a101),(Il a102),(Il a103),(Il a104),(Il a105)])] m Q:=
 zpB (n:=1) rfl (by kernel_rfl) (by kernel_rfl) h
theorem zvI{a100:C}{a200:Int}{a201:Int}{a202:Int}{a203:Int}{a204:Int}{a205:Int}{m:M}{Q:V→M→Prop}(h :
 (∀m0:M,(m0=(M.new m (AO.cells 6 [(Il a200),(Il a201),(Il a202),
 (Il a203),(Il a204),(Il a205)] false)))→isPt (.ptr m.nxt 0) ∧ 
 ∃x1,((ldC m0 (.ptr m.nxt 0))=(some (Il x1)))∧Wc prog tbl 136 [(.c a100),
 (.c (Il x1))] m0 (fun v2 m3=>∃b4:Bool,(v2=(.c (.bool b4)))∧ifB b4 (isPt (.ptr m.nxt 0) ∧ 
 ∃x5,((ldC m3 (.ptr m.nxt 1))=(some (Il x5)))∧Wc prog tbl 109 [(.agg 2 [(Il 0),
 (Il (100000:Int))]),(.c (Il x5))] m3 (fun v6 m7=>∃b8:Bool,
 (v6=(.c (.bool b8)))∧ifB b8 (isPt (.ptr m.nxt 0)∧∃x9 x10,((ldA m7 (.ptr m.nxt 2) 2)=(some [(Il x9),
 (Il x10)]))∧Wc prog tbl 137 [(.agg 2 [(Il x9),(Il x10)]),
 (.c (C.fn (Fn.func 138) [] []))] m7 (fun v11 m12=>∃b13:Bool,(v11=(.c (.bool b13))) ∧ 
 ifB b13 (isPt (.ptr m.nxt 0)∧isPt (.ptr m.nxt 2)∧∃x14,((ldC m12 (.ptr m.nxt 3))=(some (Il x14))) ∧ 
 isPt (.ptr m.nxt 0)∧isPt (.ptr m.nxt 2)∧∃x15,((ldC m12 (.ptr m.nxt 2))=(some (Il x15))) ∧ 
 zl0 .i64 (x14 - x15)∧ifB (decide ((x14 - x15)≤(10:Int))) (isPt (.ptr m.nxt 0) ∧ 
 ∃x16 x17,((ldA m12 (.ptr m.nxt 4) 2)=(some [(Il x16),
 (Il x17)]))∧Wc prog tbl 137 [(.agg 2 [(Il x16),
 (Il x17)]),(.c (C.fn (Fn.func 139) [] []))] m12 (fun v18 m19 => 
 ∃b20:Bool,(v18=(.c (.bool b20)))∧Q (.c (.bool b20)) m19)) (Q (.c (.bool false)) m12)) (Q (.c (.bool false)) m12))) (Q (.c (.bool false)) m7))) (Q (.c (.bool false)) m3)))):Wc prog tbl 108 [(.c a100),(.agg 6 [(Il a200),(Il a201),(Il a202),(Il a203),(Il a204),(Il a205)])] m Q:=
 zpB (n:=2) rfl (by kernel_rfl) (by kernel_rfl) h
theorem zvJ{a100:Int}{a101:Int}{a102:Int}{a103:Int}{a104:Int}{a105:Int}{a106:Int}{a107:Int}{a108:Int}{a200:Int}{a201:Int}{a202:Int}{m:M}{Q:V→M→Prop}(h :
 (∀m0:M,(m0=(M.new m (AO.cells 9 [(Il a100),(Il a101),(Il a102),
 (Il a103),(Il a104),(Il a105),(Il a106),
 (Il a107),(Il a108)] false)))→∀m1:M,(m1=(M.new m0 (AO.cells 3 [(Il a200),
 (Il a201),(Il a202)] false)))→∃x2 x3 x4,
 ∃x5 x6 x7 x8 x9 x10,((ldA m1 (.ptr m.nxt 0) 9)=(some [(Il x2),
 (Il x3),(Il x4),(Il x5),(Il x6),
 (Il x7),(Il x8),(Il x9),(Il x10)])) ∧ 
 ∃x11 x12 x13,((ldA m1 (.ptr m0.nxt 0) 3)=(some [(Il x11),
 (Il x12),(Il x13)]))∧Wc prog tbl 85 [(.agg 9 [(Il x2),
 (Il x3),(Il x4),(Il x5),(Il x6),
 (Il x7),(Il x8),(Il x9),(Il x10)]),
 (.agg 3 [(Il x11),(Il x12),(Il x13)])] m1 (fun v14 m15 => 
 ∃x16,(v14=(.c (Il x16)))∧isPt (.ptr m0.nxt 0)∧∃x17,
 ((ldC m15 (.ptr m0.nxt 0))=(some (Il x17)))∧Wc prog tbl 129 [(.c (Il x17)),
 (.c (Il x16))] m15 (fun v18 m19=>∃x20,(v18=(.c (Il x20))) ∧ 
 isPt (.ptr m0.nxt 0)∧∃x21,((ldC m19 (.ptr m0.nxt 1))=(some (Il x21))) ∧ 
 ((ldC m15 (.ptr m0.nxt 1))=(some (Il x21)))∧Wc prog tbl 129 [(.c (Il x21)),
 (.c (Il x16))] m19 (fun v22 m23=>∃x24,(v22=(.c (Il x24))) ∧ 
 ∃x25 x26 x27 x28 x29 x30,
 ∃x31 x32 x33,((ldA m23 (.ptr m.nxt 0) 9)=(some [(Il x25),
 (Il x26),(Il x27),(Il x28),(Il x29),
 (Il x30),(Il x31),(Il x32),(Il x33)])) ∧ 
 ∃x34 x35 x36,((ldA m23 (.ptr m0.nxt 0) 3)=(some [(Il x34),
 (Il x35),(Il x36)]))∧Wc prog tbl 99 [(.agg 9 [(Il x25),
 (Il x26),(Il x27),(Il x28),(Il x29),
 (Il x30),(Il x31),(Il x32),(Il x33)]),
 (.agg 3 [(Il x34),(Il x35),(Il x36)])] m23 (fun v37 m38 => 
 ∃b39:Bool,(v37=(.c (.bool b39)))∧ifB (!b39) (Q (.c (Il 0)) m38) (ifB (decide (x24 < x20)) (Q (.c (Il (2:Int))) m38) (ifB (decide (x20 < x24)) (Q (.c (Il (3:Int))) m38) (Q (.c (Il (1:Int))) m38))))))))):Wc prog tbl 112 [(.agg 9 [(Il a100),(Il a101),(Il a102),(Il a103),(Il a104),(Il a105),(Il a106),(Il a107),(Il a108)]),(.agg 3 [(Il a200),(Il a201),(Il a202)])] m Q:=
 zpB (n:=2) rfl (by kernel_rfl) (by kernel_rfl) h
theorem zvK{a100:C}{a200:C}{m:M}{Q:V→M→Prop}(h :
 (∀m0:M,(m0=(M.new m (AO.cells 1 [a200] false)))→Wc prog tbl 145 [(.c a100),(.c (C.fn (Fn.func 146) [] [(W.c (C0.ptr m.nxt 0))]))] m0 (fun v1 m2 => 
 ∃b3:Bool,(v1=(.c (.bool b3)))∧Q (.c (.bool (!b3))) m2))):Wc prog tbl 116 [(.c a100),(.c a200)] m Q:=
 zpB (n:=2) rfl (by kernel_rfl) (by kernel_rfl) h
theorem zvL{a100:C}{a200:Int}{a201:Bool}{a202:Int}{a203:C}{a204:C}{a205:C}{m:M}{Q:V→M→Prop}(h :
 (∀m0:M,(m0=(M.new m (AO.cells 6 [(Il a200),(.bool a201),(Il a202),a203,
 a204,a205] false)))→isPt (.ptr m.nxt 0)∧∃c1:C,((ldC m0 (.ptr m.nxt 5))=(some c1)) ∧ 
 isSl c1∧∃n2:Nat,((0:Int)=((n2:Nat):Int))∧(n2 < (slLen a100))∧isPt (zl2 a100 (n2 * 6)) ∧ 
 ∃c3:C,((ldC m0 (zl1 (zl2 a100 (n2 * 6)) 5))=(some c3))∧isSl c3∧Q (.c (.bool (decide ((((slLen c1):Nat):Int)=(((slLen c3):Nat):Int))))) m0)):Wc prog tbl 120 [(.c a100),(.agg 6 [(Il a200),(.bool a201),(Il a202),a203,a204,a205])] m Q:=
 zpB (n:=2) rfl (by kernel_rfl) (by kernel_rfl) h
theorem zvM{a100:C}{a200:C}{m:M}{Q:V→M→Prop}(h :
 (∀m0:M,(m0=(M.new m (AO.cells 1 [a200] false)))→Wc prog tbl 153 [(.c a100),(.c (C.fn (Fn.func 154) [] [(W.c (C0.ptr m.nxt 0))]))] m0 (fun v1 m2 => 
 ∃b3:Bool,(v1=(.c (.bool b3)))∧Q (.c (.bool (!b3))) m2))):Wc prog tbl 125 [(.c a100),(.c a200)] m Q:=
 zpB (n:=2) rfl (by kernel_rfl) (by kernel_rfl) h
theorem zvN{a100:C}{a101:Int}{a102:Int}{a103:C}{a104:C}{a200:Int}{a201:Int}{a202:Int}{a203:Int}{a204:Int}{a205:Int}{a206:Int}{a207:Int}{a208:Int}{m:M}{Q:V→M→Prop}(h :
 (∀m0:M,(m0=(M.new m (AO.cells 5 [a100,(Il a101),(Il a102),a103,a104] false))) → 
 ∀m1:M,(m1=(M.new m0 (AO.cells 9 [(Il a200),(Il a201),(Il a202),
 (Il a203),(Il a204),(Il a205),(Il a206),
 (Il a207),(Il a208)] false)))→∀m2:M,(m2=(M.new m1 (AO.map [] 0))) → 
 ∀m3:M,(m3=(M.new m2 (AO.cells 1 [C.map0] false)))→∃m4:M,((stC m3 (.ptr m2.nxt 0) 1 [(C.map m1.nxt)])=(some m4)) ∧ 
 ∃x5 x6 x7 x8 x9 x10 x11 x12,
 ∃x13,((ldA m4 (.ptr m0.nxt 0) 9)=(some [(Il x5),(Il x6),
 (Il x7),(Il x8),(Il x9),(Il x10),
 (Il x11),(Il x12),(Il x13)]))∧Wc prog tbl 98 [(.agg 9 [(Il x5),
 (Il x6),(Il x7),(Il x8),(Il x9),
 (Il x10),(Il x11),(Il x12),(Il x13)])] m4 (fun v14 m15 => 
 ∃c16:C,(v14=(.c c16))∧zoA prog tbl c16 m15 (fun l17 m18 R19 R20=>∃x21,
 ∃x22 x23,(l17=[(.agg 3 [(Il x21),(Il x22),
 (Il x23)])])∧∀m24:M,(m24=(M.new m18 (AO.cells 3 [(Il 0),
 (Il 0),(Il 0)] false)))→∃m25:M,
 ((stC m24 (.ptr m18.nxt 0) 3 [(Il x21),(Il x22),
 (Il x23)])=(some m25))∧R19 m25 (fun m26=>∃c27:C,
 ((ldC m26 (.ptr m2.nxt 0))=(some c27))∧∃c28:C,∃x29,
 ∃x30,∃c31:C,∃c32:C,((ldA m26 (.ptr m.nxt 0) 5)=(some [c28,
 (Il x29),(Il x30),c31,c32]))∧∃x33,
 ∃x34 x35 x36 x37 x38 x39,
 ∃x40 x41,((ldA m26 (.ptr m0.nxt 0) 9)=(some [(Il x33),
 (Il x34),(Il x35),(Il x36),(Il x37),
 (Il x38),(Il x39),(Il x40),(Il x41)])) ∧ 
 ∃x42 x43 x44,((ldA m26 (.ptr m18.nxt 0) 3)=(some [(Il x42),
 (Il x43),(Il x44)]))∧Wc prog tbl 87 [(.agg 5 [c28,
 (Il x29),(Il x30),c31,c32]),(.agg 9 [(Il x33),
 (Il x34),(Il x35),(Il x36),(Il x37),
 (Il x38),(Il x39),(Il x40),(Il x41)]),
 (.agg 3 [(Il x42),(Il x43),(Il x44)])] m26 (fun v45 m46 => 
 ∃x47 x48,(v45=(.agg 2 [(Il x47),(Il x48)])) ∧ 
 (ifB (cmC c27) ((ldC m46 (.ptr m2.nxt 0))=(some c27)) False)∧∃m49:M,
 ((upM prog 158 m46 c27 (.agg 2 [(Il x47),(Il x48)]) (.c (.bool true)))=(some m49)) ∧ 
 R20 Ex.nrm m49))) (zoq.mk (fun m50 => 
 ∃c51:C,((ldC m50 (.ptr m2.nxt 0))=(some c51))∧Q (.c c51) m50) [] (fun m52 => 
 Q (.c C.map0) m52))))):Wc prog tbl 131 [(.agg 5 [a100,(Il a101),(Il a102),a103,a104]),(.agg 9 [(Il a200),(Il a201),(Il a202),(Il a203),(Il a204),(Il a205),(Il a206),(Il a207),(Il a208)])] m Q:=
 zpB (n:=2) rfl (by kernel_rfl) (by kernel_rfl) h
theorem zvO{a100:Int}{a101:Int}{a200:C}{m:M}{Q:V→M→Prop}(h :
 (∀m0:M,(m0=(M.new m (AO.cells 2 [(Il a100),(Il a101)] false)))→isPt (.ptr m.nxt 0) ∧ 
 ∃x1,((ldC m0 (.ptr m.nxt 0))=(some (Il x1)))∧isPt (.ptr m.nxt 0) ∧ 
 ∃x2,((ldC m0 (.ptr m.nxt 1))=(some (Il x2)))∧ifB (decide (x1≤x2)) (isPt (.ptr m.nxt 0) ∧ 
 ∃x3,((ldC m0 (.ptr m.nxt 0))=(some (Il x3)))∧zmq prog tbl [(.c (Il x3))] a200 m0 (fun v4 m5 => 
 ∃b6:Bool,(v4=(.c (.bool b6)))∧ifB b6 (isPt (.ptr m.nxt 0)∧∃x7,((ldC m5 (.ptr m.nxt 1))=(some (Il x7))) ∧ 
 zmq prog tbl [(.c (Il x7))] a200 m5 (fun v8 m9=>∃b10:Bool,(v8=(.c (.bool b10))) ∧ 
 Q (.c (.bool b10)) m9)) (Q (.c (.bool false)) m5))) (Q (.c (.bool false)) m0))):Wc prog tbl 137 [(.agg 2 [(Il a100),(Il a101)]),(.c a200)] m Q:=
 zpB (n:=2) rfl (by kernel_rfl) (by kernel_rfl) h
theorem zvP{a100:Int}{a101:Bool}{a102:Int}{a103:C}{a104:C}{a105:C}{a200:Int}{a201:Int}{a202:Int}{m:M}{Q:V→M→Prop}(h :
 (∀m0:M,(m0=(M.new m (AO.cells 6 [(Il a100),(.bool a101),(Il a102),a103,
 a104,a105] false)))→∀m1:M,(m1=(M.new m0 (AO.cells 3 [(Il a200),(Il a201),
 (Il a202)] false)))→∃x2,∃b3:Bool,∃x4,∃c5:C,∃c6:C,
 ∃c7:C,((ldA m1 (.ptr m.nxt 0) 6)=(some [(Il x2),(.bool b3),(Il x4),
 c5,c6,c7]))∧∃x8 x9 x10,((ldA m1 (.ptr m0.nxt 0) 3)=(some [(Il x8),
 (Il x9),(Il x10)]))∧Wc prog tbl 160 [(.agg 6 [(Il x2),
 (.bool b3),(Il x4),c5,c6,c7]),(.agg 3 [(Il x8),(Il x9),
 (Il x10)])] m1 (fun v11 m12=>∃x13,(v11=(.c (Il x13))) ∧ 
 isPt (.ptr m.nxt 0)∧∃x14,((ldC m12 (.ptr m.nxt 2))=(some (Il x14))) ∧ 
 ifB (decide (x13 < x14)) (Q (.c (Il 0)) m12) (∃x15,∃b16:Bool,
 ∃x17,∃c18:C,∃c19:C,∃c20:C,((ldA m12 (.ptr m.nxt 0) 6)=(some [(Il x15),
 (.bool b16),(Il x17),c18,c19,c20]))∧Wc prog tbl 161 [(.agg 6 [(Il x15),
 (.bool b16),(Il x17),c18,c19,c20])] m12 (fun v21 m22=>∃c23:C,
 (v21=(.agg 1 [c23]))∧∃x24,∃b25:Bool,∃x26,∃c27:C,
 ∃c28:C,∃c29:C,((ldA m22 (.ptr m.nxt 0) 6)=(some [(Il x24),
 (.bool b25),(Il x26),c27,c28,c29]))∧(ifB (zaL cmC [(Il x24),
 (.bool b25),(Il x26),c27,c28,c29]) ((ldA m12 (.ptr m.nxt 0) 6)=(some [(Il x24),
 (.bool b25),(Il x26),c27,c28,c29])) False)∧zmq prog tbl [(.agg 6 [(Il x24),
 (.bool b25),(Il x26),c27,c28,c29]),(.c (Il x13))] c23 m22 (fun v30 m31 => 
 ∃x32,(v30=(.c (Il x32)))∧Q (.c (Il x32)) m31)))))):Wc prog tbl 141 [(.agg 6 [(Il a100),(.bool a101),(Il a102),a103,a104,a105]),(.agg 3 [(Il a200),(Il a201),(Il a202)])] m Q:=
 zpB (n:=2) rfl (by kernel_rfl) (by kernel_rfl) h
theorem zvQ{a100:C}{a200:C}{m:M}{Q:V→M→Prop}(h :
 (Wc prog tbl 162 [(.c a100),(.c a200)] m (fun v0 m1=>∃x2,(v0=(.c (Il x2)))∧Q (.c (.bool (decide ((0:Int)≤x2)))) m1))):Wc prog tbl 145 [(.c a100),(.c a200)] m Q:=
 zpB (n:=2) rfl (by kernel_rfl) (by kernel_rfl) h
theorem zvR{a100:Int}{a101:Bool}{a102:Int}{a103:C}{a104:C}{a105:C}{a200:C}{m:M}{Q:V→M→Prop}(h :
 (∀m0:M,(m0=(M.new m (AO.cells 6 [(Il a100),(.bool a101),(Il a102),a103,
 a104,a105] false)))→isSl a200∧isPt (.ptr m.nxt 0)∧∃c1:C,((ldC m0 (.ptr m.nxt 3))=(some c1)) ∧ 
 isSl c1∧ifB (decide ((((slLen a200):Nat):Int)=(((slLen c1):Nat):Int))) (∃x2,∃b3:Bool,
 ∃x4,∃c5:C,∃c6:C,∃c7:C,((ldA m0 (.ptr m.nxt 0) 6)=(some [(Il x2),
 (.bool b3),(Il x4),c5,c6,c7]))∧zaa (zaE vW [(.agg 6 [(Il x2),
 (.bool b3),(Il x4),c5,c6,c7])]) False fun l8=>Wc prog tbl 167 [(.c a200),
 (.c (C.fn (Fn.func 168) l8 []))] m0 (fun v9 m10=>∃b11:Bool,(v9=(.c (.bool b11))) ∧ 
 Q (.c (.bool b11)) m10)) (Q (.c (.bool false)) m0))):Wc prog tbl 150 [(.agg 6 [(Il a100),(.bool a101),(Il a102),a103,a104,a105]),(.c a200)] m Q:=
 zpB (n:=2) rfl (by kernel_rfl) (by kernel_rfl) h
theorem zvS{a100:C}{a200:Int}{m:M}{Q:V→M→Prop}(h :
 (zl0 .i64 (a200+1)∧Wc prog tbl 172 [(.c a100),(.c (Il (a200+1)))] m (fun v0 m1 => 
 ∃x2,∃b3:Bool,(v0=(.tup [(.c (Il x2)),(.c (.bool b3))]))∧zl0 .i64 (x2 - 1) ∧ 
 Q (.c (Il (x2 - 1))) m1))):Wc prog tbl 159 [(.c a100),(.c (Il a200))] m Q:=
 zpB (n:=2) rfl (by kernel_rfl) (by kernel_rfl) h
theorem zvT{a100:C}{a200:C}{m:M}{Q:V→M→Prop}(h :
 (Wc prog tbl 175 [(.c a100),(.c a200)] m (fun v0 m1=>∃x2,(v0=(.c (Il x2)))∧Q (.c (.bool (decide ((0:Int)≤x2)))) m1))):Wc prog tbl 163 [(.c a100),(.c a200)] m Q:=
 zpB (n:=2) rfl (by kernel_rfl) (by kernel_rfl) h
theorem zvU{a100:C}{a101:C}{a200:Int}{a201:Int}{a202:Int}{a203:Int}{a204:Int}{a205:Int}{m:M}{Q:V→M→Prop}(h :
 (∀m0:M,(m0=(M.new m (AO.cells 2 [a100,a101] false)))→∀m1:M,(m1=(M.new m0 (AO.cells 6 [(Il a200),
 (Il a201),(Il a202),(Il a203),(Il a204),
 (Il a205)] false)))→∀m2:M,(m2=(M.new m1 (AO.cells 2 [(Il 0),
 (Il 0)] false)))→∀m3:M,(m3=(M.new m2 (AO.cells 1 [C.sl0] false))) → 
 ∃x4 x5 x6 x7 x8 x9,((ldA m3 (.ptr m0.nxt 0) 6)=(some [(Il x4),
 (Il x5),(Il x6),(Il x7),(Il x8),
 (Il x9)]))∧Wc prog tbl 179 [(.agg 6 [(Il x4),(Il x5),
 (Il x6),(Il x7),(Il x8),(Il x9)])] m3 (fun v10 m11 => 
 ∃c12:C,(v10=(.c c12))∧zoA prog tbl c12 m11 (fun l13 m14 R15 R16=>∃x17,
 ∃x18,(l13=[(.agg 2 [(Il x17),(Il x18)])]) ∧ 
 ∀m19:M,(m19=(M.new m14 (AO.cells 2 [(Il 0),(Il 0)] false))) → 
 ∃m20:M,((stC m19 (.ptr m14.nxt 0) 2 [(Il x17),(Il x18)])=(some m20)) ∧ 
 R15 m20 (fun m21=>∃c22:C,((ldC m21 (.ptr m2.nxt 0))=(some c22)) ∧ 
 ∃c23:C,∃c24:C,((ldA m21 (.ptr m.nxt 0) 2)=(some [c23,
 c24]))∧∃x25 x26 x27 x28 x29,
 ∃x30,((ldA m21 (.ptr m0.nxt 0) 6)=(some [(Il x25),
 (Il x26),(Il x27),(Il x28),(Il x29),
 (Il x30)]))∧∃x31 x32,((ldA m21 (.ptr m14.nxt 0) 2)=(some [(Il x31),
 (Il x32)]))∧Wc prog tbl 82 [(.agg 2 [c23,c24]),(.agg 6 [(Il x25),
 (Il x26),(Il x27),(Il x28),(Il x29),
 (Il x30)]),(.agg 2 [(Il x31),(Il x32)])] m21 (fun v33 m34 => 
 ∃x35,(v33=(.c (Il x35)))∧(ifB (cmC c22) ((ldC m34 (.ptr m2.nxt 0))=(some c22)) False) ∧ 
 ∀m36:M,(m36=(M.new m34 (AO.cells 1 [(Il x35)] false))) → 
 (ifB (cmC c22) ((ldC m36 (.ptr m2.nxt 0))=(some c22)) False)∧∃c37:C,
 ∃m38:M,(ApR prog 29 m36 c22 (.sl m34.nxt 0 1 0 (some 1)) c37 m38) ∧ 
 ∃m39:M,((stC m38 (.ptr m2.nxt 0) 1 [c37])=(some m39))∧R16 Ex.nrm m39))) (zoq.mk (fun m40 => 
 ∃c41:C,((ldC m40 (.ptr m2.nxt 0))=(some c41))∧Wc prog tbl 101 [(.c c41)] m40 (fun v42 m43 => 
 ∃x44,(v42=(.c (Il x44)))∧∃c45:C,((ldC m43 (.ptr m2.nxt 0))=(some c45)) ∧ 
 (ifB (cmC c45) ((ldC m40 (.ptr m2.nxt 0))=(some c45)) False)∧Wc prog tbl 102 [(.c c45)] m43 (fun v46 m47 => 
 ∃x48,(v46=(.c (Il x48)))∧∃m49:M,((stC m47 (.ptr m1.nxt 0) 2 [(Il x44),
 (Il x48)])=(some m49))∧∃x50 x51,
 ((ldA m49 (.ptr m1.nxt 0) 2)=(some [(Il x50),(Il x51)])) ∧ 
 Q (.agg 2 [(Il x50),(Il x51)]) m49))) [] (fun m52 => 
 ∃x53 x54,((ldA m52 (.ptr m1.nxt 0) 2)=(some [(Il x53),
 (Il x54)]))∧Q (.agg 2 [(Il x53),(Il x54)]) m52))))):Wc prog tbl 169 [(.agg 2 [a100,a101]),(.agg 6 [(Il a200),(Il a201),(Il a202),(Il a203),(Il a204),(Il a205)])] m Q:=
 zpB (n:=2) rfl (by kernel_rfl) (by kernel_rfl) h
theorem zvV{a100:Int}{a101:Bool}{a102:Int}{a103:C}{a104:C}{a105:C}{a200:Int}{m:M}{Q:V→M→Prop}(h :
 (∀m0:M,(m0=(M.new m (AO.cells 6 [(Il a100),(.bool a101),(Il a102),a103,
 a104,a105] false)))→Q (.c (Il a200)) m0)):Wc prog tbl 173 [(.agg 6 [(Il a100),(.bool a101),(Il a102),a103,a104,a105]),(.c (Il a200))] m Q:=
 zpB (n:=2) rfl (by kernel_rfl) (by kernel_rfl) h
theorem zvW{a100:C}{a200:C}{m:M}{Q:V→M→Prop}(h :
 (Wc prog tbl 182 [(.c a100),(.c a200)] m (fun v0 m1=>∃x2,(v0=(.c (Il x2)))∧Q (.c (.bool (decide ((0:Int)≤x2)))) m1))):Wc prog tbl 177 [(.c a100),(.c a200)] m Q:=
 zpB (n:=2) rfl (by kernel_rfl) (by kernel_rfl) h
theorem zvX{a100:C}{a200:C}{m:M}{Q:V→M→Prop}(h :
 (isSl a100∧∀R0:List V→M→Prop,(∀x1:Int,∀x2:Int,∀m3:M,(ifB (decide (x2 < (((slLen a100):Nat):Int))) (∃n4:Nat,
 (x2=((n4:Nat):Int))∧(n4 < (slLen a100))∧∃c5:C,((ldC m3 (zl2 a100 (n4 * 1)))=(some c5)) ∧ 
 zmq prog tbl [(.c c5)] a200 m3 (fun v6 m7=>∃b8:Bool,(v6=(.c (.bool b8)))∧ifB b8 (Q (.c (Il x2)) m7) (zl0 .i64 (x2+1) ∧ 
 R0 [(.c (Il x1)),(.c (Il (x2+1)))] m7))) (Q (.c (Il (-1:Int))) m3)) → 
 R0 [(.c (Il x1)),(.c (Il x2))] m3)→R0 [(.c (Il 0)),
 (.c (Il 0))] m)):Wc prog tbl 182 [(.c a100),(.c a200)] m Q:=
 zpB (n:=2) rfl (by kernel_rfl) (by kernel_rfl) h
end
end Go.Proofs.YteojndcmgpiklaaGreat

