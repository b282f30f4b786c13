/- An evaluator of the code of a program, its soundness, what calls ask, memory, and what functions of the program do. Condition: none; a lemma text of this claim. -/
import Derived.Test.YtbnfnhfanooplaaSuG

namespace Go.Proofs.Ytbnfnhfanooplaa
open _root_.Go.Proofs.Try
open Go.Abs
set_option maxRecDepth 100000
noncomputable section
def Fv_Crd_Bool (f : M) (x : C) (g : Crd → Option (Bool)) : Prop := ∀ (f' m : M) (a0 : Crd) (r : Bool) (Q : V → M → Prop), Sub f f' → Pre f' m → g a0 = some r → (∀ m', Ext m m' → Q (.c (.bool r)) m') → callP prog tbl [.agg 7 [(.int .i64 a0.X.Lo), (.int .i64 a0.X.Hi), (.int .i64 a0.Y.Lo), (.int .i64 a0.Y.Hi), (.bool a0.Hail), (.int .i64 a0.Size.Lo), (.int .i64 a0.Size.Hi)]] x m Q
theorem Fv_Crd_Bool.sub {f m : M} {x : C} {g : Crd → Option (Bool)} (h : Fv_Crd_Bool f x g) (s : Sub f m) : Fv_Crd_Bool m x g := fun f' m' a0 r Q hs => h f' m' a0 r Q (s.trans hs)
def Fv_Rct_Bool (f : M) (x : C) (g : Rct → Option (Bool)) : Prop := ∀ (f' m : M) (a0 : Rct) (r : Bool) (Q : V → M → Prop), Sub f f' → Pre f' m → g a0 = some r → (∀ m', Ext m m' → Q (.c (.bool r)) m') → callP prog tbl [.agg 4 [(.int .i64 a0.X.Lo), (.int .i64 a0.X.Hi), (.int .i64 a0.Y.Lo), (.int .i64 a0.Y.Hi)]] x m Q
theorem Fv_Rct_Bool.sub {f m : M} {x : C} {g : Rct → Option (Bool)} (h : Fv_Rct_Bool f x g) (s : Sub f m) : Fv_Rct_Bool m x g := fun f' m' a0 r Q hs => h f' m' a0 r Q (s.trans hs)
theorem kl43 : KL prog 43 Trh := kl_agg (n := 4) (ks := [.int .i64, .int .i64, .int .i64, .int .i64]) (by kernel_rfl) (by kernel_rfl) (cs := fun k => [.int .i64 k.A, .int .i64 k.B, .int .i64 k.Half, .int .i64 k.Peak]) (fun _ => rfl) fun a b fa fb => ⟨_, _, (eqKs_cons (eqK_i fa.1 fb.1) (eqKs_cons (eqK_i fa.2.1 fb.2.1) (eqKs_cons (eqK_i fa.2.2.1 fb.2.2.1) (eqKs_cons (eqK_i fa.2.2.2.1 fb.2.2.2.1) eqKs_nil)))), ⟨fun h => by obtain ⟨aA, aB, aHalf, aPeak⟩ := a; obtain ⟨bA, bB, bHalf, bPeak⟩ := b; simp_all, fun h => by subst h; exact ⟨rfl, rfl, rfl, rfl, trivial⟩⟩⟩
theorem ta24 : TA prog 24 7 := ⟨97, by kernel_rfl, by kernel_rfl, by kernel_rfl⟩
theorem ta35 : TA prog 35 7 := ⟨85, by kernel_rfl, by kernel_rfl, by kernel_rfl⟩
theorem ta46 : TA prog 46 4 := ⟨54, by kernel_rfl, by kernel_rfl, by kernel_rfl⟩
theorem ta69 : TA prog 69 1 := ⟨3, by kernel_rfl, by kernel_rfl, by kernel_rfl⟩
theorem s_awake {m f : M} {Q : V → M → Prop} {rz : Bool} (_hS : Pre f m) (hp : pawake = some rz) (hq : ∀ m', Ext m m' → Q (.c (.bool rz)) m') : Wc prog tbl 17 [] m Q := by
 obtain rfl := Option.some.inj hp
 exact call_known (show findT tbl 17 = some true from rfl) (hq _ (.refl m))
theorem s_rIn {n : Int} {low : Int} {high : Int} {m f : M} {Q : V → M → Prop} {rz : Bool} (hS : Pre f m)  (hp : prIn n low high = some rz) (hq : ∀ m', Ext m m' → Q (.c (.bool rz)) m') : Wc prog tbl 31 [.c (Il n), .c (Il low), .c (Il high)] m Q := by
 have b := hS.st
 obtain ⟨d, _⟩ : ∃ τ : Nat → Nat, True := ⟨fun _ => 0, trivial⟩
 refine w31 ?_
 unfold prIn at hp
 refine ifd hp (fun a hp => ?_) fun a hp => ?_
 ·obtain rfl := Option.some.inj hp
  exact hq _ b.ext'
 obtain rfl := Option.some.inj hp
 exact hq _ b.ext'
theorem s_rWithin {r : Rg} {low : Int} {high : Int} {m f : M} {Q : V → M → Prop} {rz : Bool} (hS : Pre f m)  (hp : prWithin r low high = some rz) (hq : ∀ m', Ext m m' → Q (.c (.bool rz)) m') : Wc prog tbl 70 [.agg 2 [(Il r.Lo), (Il r.Hi)], .c (Il low), .c (Il high)] m Q := by
 have h := hS.st
 obtain ⟨i, _⟩ : ∃ τ : Nat → Nat, True := ⟨fun _ => 0, trivial⟩
 refine w70 ?_
 unfold prWithin at hp
 intro n d
 obtain ⟨j, b, l, a⟩ := h.blk d i 1
 refine ⟨trivial, _, a.bk.rc rfl, ?_⟩
 refine ifd hp (fun e hp => ?_) fun e hp => ?_; rotate_left
 ·obtain rfl := Option.some.inj hp
  exact hq _ b.ext'
 refine ⟨trivial, _, a.bk.rc rfl, trivial, _, a.bk.rc rfl, ?_⟩
 refine ifd hp (fun g hp => ?_) fun g hp => ?_; rotate_left
 ·obtain rfl := Option.some.inj hp
  exact hq _ b.ext'
 refine ⟨trivial, _, a.bk.rc rfl, ?_⟩
 obtain rfl := Option.some.inj hp
 exact hq _ b.ext'
theorem s_rCount {r : Rg} {m f : M} {Q : V → M → Prop} {rz : Int} (hS : Pre f m)  (hp : prCount r = some rz) (hq : ∀ m', Ext m m' → Q (.c (Il rz)) m') : Wc prog tbl 62 [.agg 2 [(Il r.Lo), (Il r.Hi)]] m Q := by
 have h := hS.st
 obtain ⟨i, _⟩ : ∃ τ : Nat → Nat, True := ⟨fun _ => 0, trivial⟩
 refine w62 ?_
 unfold prCount at hp
 intro n b
 obtain ⟨j, d, l, a⟩ := h.blk b i 1
 refine ⟨trivial, _, a.bk.rc rfl, trivial, _, a.bk.rc rfl, ?_⟩
 refine gdi hp fun e hp => ?_
 refine gdi hp fun g hp => ?_
 obtain rfl := Option.some.inj hp
 exact hq _ d.ext'
theorem s_rIsRect {s : Stm} {r : Rct} {ca111 : C} {m f : M} {Q : V → M → Prop} {rz : Bool} (hS : Pre f m) (_ha111 : Sl f ca111 s.Cards) (hp : prIsRect s r = some rz) (hq : ∀ m', Ext m m' → Q (.c (.bool rz)) m') : Wc prog tbl 24 [.agg 12 [(Il s.Wide), (Il s.High), (Il s.Fall), (Il s.A.Lo), (Il s.A.Hi), (Il s.B.Lo), (Il s.B.Hi), (Il s.Half.Lo), (Il s.Half.Hi), (Il s.Peak.Lo), (Il s.Peak.Hi), ca111], .agg 4 [(Il r.X.Lo), (Il r.X.Hi), (Il r.Y.Lo), (Il r.Y.Hi)]] m Q := by
 have N := hS.st
 obtain ⟨O, _⟩ : ∃ τ : Nat → Nat, True := ⟨fun _ => 0, trivial⟩
 refine w24 ?_
 unfold prIsRect at hp
 intro m0 i
 obtain ⟨l, n, P, o⟩ := N.blk i O 1
 intro m1 p
 obtain ⟨b, d, q, e⟩ := n.blk p l 2
 have g := o.k q
 refine ⟨trivial, _, _, e.bk.rp (k := 0) (j := 2) rfl (by omega), trivial, _, g.bk.rc rfl, ?_⟩
 refine gdi hp fun t hp => ?_
 obtain ⟨S, u, hp⟩ := bsome hp
 refine s_rWithin (r := r.X) (low := (0 : Int)) (high := (s.Wide - (1 : Int))) d.pre  u fun m6 x => ?_
 obtain ⟨a, h⟩ := d.call x b
 have y := g.k h
 have z := e.k h
 refine ⟨_, rfl, ?_⟩
 refine ifbb hp (fun D hp => ?_) fun D hp => ?_; rotate_left
 ·obtain rfl := Option.some.inj hp
  exact hq _ a.ext'
 refine ⟨trivial, _, _, z.bk.rp (k := 2) (j := 2) rfl (by omega), trivial, _, y.bk.rc rfl, ?_⟩
 refine gdi hp fun F hp => ?_
 obtain ⟨T, G, hp⟩ := bsome hp
 refine s_rWithin (r := r.Y) (low := (0 : Int)) (high := (s.High - (1 : Int))) a.pre  G fun aa I => ?_
 obtain ⟨J, Z⟩ := a.call I b
 refine ⟨_, rfl, ?_⟩
 obtain rfl := Option.some.inj hp
 exact hq _ J.ext'
theorem s_rIsCard {s : Stm} {c : Crd} {ca111 : C} {m f : M} {Q : V → M → Prop} {rz : Bool} (hS : Pre f m) (ha111 : Sl f ca111 s.Cards) (hp : prIsCard s c = some rz) (hq : ∀ m', Ext m m' → Q (.c (.bool rz)) m') : Wc prog tbl 105 [.agg 12 [(Il s.Wide), (Il s.High), (Il s.Fall), (Il s.A.Lo), (Il s.A.Hi), (Il s.B.Lo), (Il s.B.Hi), (Il s.Half.Lo), (Il s.Half.Hi), (Il s.Peak.Lo), (Il s.Peak.Hi), ca111], .agg 7 [(Il c.X.Lo), (Il c.X.Hi), (Il c.Y.Lo), (Il c.Y.Hi), (.bool c.Hail), (Il c.Size.Lo), (Il c.Size.Hi)]] m Q := by
 have Z := hS.st
 obtain ⟨τ0, _⟩ : ∃ τ : Nat → Nat, True := ⟨fun _ => 0, trivial⟩
 refine w105 ?_
 unfold prIsCard at hp
 intro m0 l
 obtain ⟨n, o, ba, p⟩ := Z.blk l τ0 1
 intro m1 q
 obtain ⟨e, g, t, a⟩ := o.blk q n 2
 have u := p.k t
 refine ⟨_, _, _, _, _, _, _, _, _, _, _, _, u.bk.ra, trivial, _, _, a.bk.rp (k := 0) (j := 2) rfl (by omega), trivial, _, _, a.bk.rp (k := 2) (j := 2) rfl (by omega), ?_⟩
 obtain ⟨ca, x, hp⟩ := bsome hp
 refine s_rIsRect (s := s) (r := ({ X := c.X, Y := c.Y } : Rct)) g.pre ha111 x fun ea y => ?_
 obtain ⟨b, z⟩ := g.call y e
 have h := a.k z
 refine ⟨_, rfl, ?_⟩
 refine ifnb hp (fun D hp => ?_) fun D hp => ?_
 ·obtain rfl := Option.some.inj hp
  exact hq _ b.ext'
 refine ⟨trivial, _, _, h.bk.rp (k := 5) (j := 2) rfl (by omega), ?_⟩
 obtain ⟨da, F, hp⟩ := bsome hp
 refine s_rWithin (r := c.Size) (low := (0 : Int)) (high := (9 : Int)) b.pre  F fun fa G => ?_
 obtain ⟨d, I⟩ := b.call G e
 have i := h.k I
 refine ⟨_, rfl, ?_⟩
 refine ifnb hp (fun J hp => ?_) fun J hp => ?_
 ·obtain rfl := Option.some.inj hp
  exact hq _ d.ext'
 refine ⟨trivial, _, i.bk.rc rfl, ?_⟩
 refine ifbb hp (fun N hp => ?_) fun N hp => ?_
 ·obtain rfl := Option.some.inj hp
  exact hq _ d.ext'
 refine ⟨trivial, _, _, i.bk.rp (k := 5) (j := 2) rfl (by omega), ?_⟩
 refine gdi hp fun O hp => ?_
 refine gdi hp fun P hp => ?_
 refine gdi hp fun S hp => ?_
 refine gdi hp fun T hp => ?_
 obtain rfl := Option.some.inj hp
 exact hq _ d.ext'
theorem s_rMany {s : Stm} {ca111 : C} {m f : M} {Q : V → M → Prop} {rz : Int} (hS : Pre f m) (_ha111 : Sl f ca111 s.Cards) (hp : prMany s = some rz) (hq : ∀ m', Ext m m' → Q (.c (Il rz)) m') : Wc prog tbl 67 [.agg 12 [(Il s.Wide), (Il s.High), (Il s.Fall), (Il s.A.Lo), (Il s.A.Hi), (Il s.B.Lo), (Il s.B.Hi), (Il s.Half.Lo), (Il s.Half.Hi), (Il s.Peak.Lo), (Il s.Peak.Hi), ca111]] m Q := by
 have S0 := hS.st
 obtain ⟨τ0, _⟩ : ∃ τ : Nat → Nat, True := ⟨fun _ => 0, trivial⟩
 refine w67 ?_
 unfold prMany at hp
 intro m0 n
 obtain ⟨b, g, ea, a⟩ := S0.blk n τ0 1
 refine ⟨trivial, _, _, a.bk.rp (k := 3) (j := 2) rfl (by omega), ?_⟩
 obtain ⟨fa, o, hp⟩ := bsome hp
 refine s_rCount (r := s.A) g.pre  o fun m4 p => ?_
 obtain ⟨h, q⟩ := g.call p b
 have d := a.k q
 refine ⟨_, rfl, trivial, _, _, d.bk.rp (k := 5) (j := 2) rfl (by omega), (a.bk.rp (k := 5) (j := 2) rfl (by omega)), ?_⟩
 obtain ⟨ga, t, hp⟩ := bsome hp
 refine s_rCount (r := s.B) h.pre  t fun m9 u => ?_
 obtain ⟨i, x⟩ := h.call u b
 have e := d.k x
 refine ⟨_, rfl, ?_⟩
 refine gdi hp fun y hp => ?_
 refine gdi hp fun z hp => ?_
 obtain ⟨D, hp⟩ := gd_some hp
 refine ⟨D, trivial, _, _, e.bk.rp (k := 7) (j := 2) rfl (by omega), (d.bk.rp (k := 7) (j := 2) rfl (by omega)), (a.bk.rp (k := 7) (j := 2) rfl (by omega)), ?_⟩
 obtain ⟨ha, F, hp⟩ := bsome hp
 refine s_rCount (r := s.Half) i.pre  F fun ka G => ?_
 obtain ⟨l, I⟩ := i.call G b
 have J := e.k I
 refine ⟨_, rfl, ?_⟩
 refine gdi hp fun N hp => ?_
 refine gdi hp fun O hp => ?_
 obtain ⟨P, hp⟩ := gd_some hp
 refine ⟨P, trivial, _, _, J.bk.rp (k := 9) (j := 2) rfl (by omega), (e.bk.rp (k := 9) (j := 2) rfl (by omega)), (d.bk.rp (k := 9) (j := 2) rfl (by omega)), (a.bk.rp (k := 9) (j := 2) rfl (by omega)), ?_⟩
 obtain ⟨ia, S, hp⟩ := bsome hp
 refine s_rCount (r := s.Peak) l.pre  S fun la T => ?_
 obtain ⟨Y, ja⟩ := l.call T b
 refine ⟨_, rfl, ?_⟩
 refine gdi hp fun Z hp => ?_
 refine gdi hp fun aa hp => ?_
 refine gdi hp fun ba hp => ?_
 obtain rfl := Option.some.inj hp
 exact hq _ Y.ext'
theorem s_rFault {s : Stm} {ca111 : C} {m f : M} {Q : V → M → Prop} {rz : Int} (hS : Pre f m) (ha111 : Sl f ca111 s.Cards) (hp : prFault s = some rz) (hq : ∀ m', Ext m m' → Q (.c (Il rz)) m') : Wc prog tbl 66 [.agg 12 [(Il s.Wide), (Il s.High), (Il s.Fall), (Il s.A.Lo), (Il s.A.Hi), (Il s.B.Lo), (Il s.B.Hi), (Il s.Half.Lo), (Il s.Half.Hi), (Il s.Peak.Lo), (Il s.Peak.Hi), ca111]] m Q := by
 have S0 := hS.st
 obtain ⟨τ0, _⟩ : ∃ τ : Nat → Nat, True := ⟨fun _ => 0, trivial⟩
 refine w66 ?_
 unfold prFault at hp
 intro m0 T
 obtain ⟨e, b, Ra, d⟩ := S0.blk T τ0 1
 refine ⟨trivial, _, d.bk.rc rfl, ?_⟩
 refine ifd hp (fun Y hp => ?_) fun Y hp => ?_
 ·obtain rfl := Option.some.inj hp
  exact hq _ b.ext'
 refine ⟨trivial, _, d.bk.rc rfl, ?_⟩
 refine ifd hp (fun Z hp => ?_) fun Z hp => ?_
 ·obtain rfl := Option.some.inj hp
  exact hq _ b.ext'
 refine ⟨trivial, _, d.bk.rc rfl, ha111.isSl, ?_⟩
 try rw [ha111.slLen]
 refine ifd hp (fun aa hp => ?_) fun aa hp => ?_
 ·obtain rfl := Option.some.inj hp
  exact hq _ b.ext'
 refine ⟨trivial, _, d.bk.rc rfl, ?_⟩
 refine ifd hp (fun ba hp => ?_) fun ba hp => ?_
 ·obtain rfl := Option.some.inj hp
  exact hq _ b.ext'
 refine ⟨trivial, _, d.bk.rc rfl, ?_⟩
 refine ifd hp (fun ca hp => ?_) fun ca hp => ?_
 ·obtain rfl := Option.some.inj hp
  exact hq _ b.ext'
 refine ⟨trivial, _, d.bk.rc rfl, ?_⟩
 obtain ⟨Sa, da, hp⟩ := bsome hp
 refine s_rIn (n := s.Fall) (low := (0 : Int)) (high := (4 : Int)) b.pre  da fun m8 ea => ?_
 obtain ⟨o, fa⟩ := b.call ea e
 have p := d.k fa
 refine ⟨_, rfl, ?_⟩
 refine ifnb hp (fun ga hp => ?_) fun ga hp => ?_
 ·obtain rfl := Option.some.inj hp
  exact hq _ o.ext'
 refine ⟨trivial, _, _, p.bk.rp (k := 3) (j := 2) rfl (by omega), trivial, _, p.bk.rc rfl, ?_⟩
 refine gdi hp fun ha hp => ?_
 obtain ⟨Ta, ia, hp⟩ := bsome hp
 refine s_rWithin (r := s.A) (low := (0 : Int)) (high := (s.High - (1 : Int))) o.pre  ia fun ab ja => ?_
 obtain ⟨q, ka⟩ := o.call ja e
 have t := p.k ka
 refine ⟨_, rfl, ?_⟩
 refine ifnb hp (fun la hp => ?_) fun la hp => ?_
 ·obtain rfl := Option.some.inj hp
  exact hq _ q.ext'
 refine ⟨trivial, _, _, t.bk.rp (k := 5) (j := 2) rfl (by omega), trivial, _, t.bk.rc rfl, ?_⟩
 refine gdi hp fun ma hp => ?_
 obtain ⟨Ua, na, hp⟩ := bsome hp
 refine s_rWithin (r := s.B) (low := (0 : Int)) (high := (s.High - (1 : Int))) q.pre  na fun bb oa => ?_
 obtain ⟨u, pa⟩ := q.call oa e
 have F := t.k pa
 refine ⟨_, rfl, ?_⟩
 refine ifnb hp (fun qa hp => ?_) fun qa hp => ?_
 ·obtain rfl := Option.some.inj hp
  exact hq _ u.ext'
 refine ⟨trivial, _, _, F.bk.rp (k := 7) (j := 2) rfl (by omega), ?_⟩
 obtain ⟨Va, sa, hp⟩ := bsome hp
 refine s_rWithin (r := s.Half) (low := (0 : Int)) (high := (3 : Int)) u.pre  sa fun cb ta => ?_
 obtain ⟨x, ua⟩ := u.call ta e
 have G := F.k ua
 refine ⟨_, rfl, ?_⟩
 refine ifnb hp (fun va hp => ?_) fun va hp => ?_
 ·obtain rfl := Option.some.inj hp
  exact hq _ x.ext'
 refine ⟨trivial, _, _, G.bk.rp (k := 9) (j := 2) rfl (by omega), ?_⟩
 obtain ⟨Wa, wa, hp⟩ := bsome hp
 refine s_rWithin (r := s.Peak) (low := (1 : Int)) (high := (9 : Int)) x.pre  wa fun db xa => ?_
 obtain ⟨I, ya⟩ := x.call xa e
 have a := G.k ya
 refine ⟨_, rfl, ?_⟩
 refine ifnb hp (fun za hp => ?_) fun za hp => ?_
 ·obtain rfl := Option.some.inj hp
  exact hq _ I.ext'
 intro Na Aa
 have hgo : ∀ (i : Nat) (J : Int) (z : Int) (l : M) (g : Nat → Nat), St (Fm.of m) f f l → Lb (Fm.of m) f g l 1 m.nxt 12 [(Il s.Wide), (Il s.High), (Il s.Fall), (Il s.A.Lo), (Il s.A.Hi), (Il s.B.Lo), (Il s.B.Hi), (Il s.Half.Lo), (Il s.Half.Hi), (Il s.Peak.Lo), (Il s.Peak.Hi), ca111] → prFault_L0 s i z = some rz → Na [.c (Il J), .c (Il z)] l := by
  intro i
  induction i with
  | zero => intro J z l g h a hp; cases hp
  | succ i P =>
   intro J z l g h a hp
   refine Aa _ _ _ ?_
   rw [prFault_L0] at hp
   refine ⟨trivial, _, a.bk.rc rfl, ha111.isSl, ?_⟩
   try rw [ha111.slLen]
   refine ifd hp (fun Ba hp => ?_) fun Ba hp => ?_; rotate_left
   ·refine ⟨_, _, _, _, _, _, _, _, _, _, _, _, a.bk.ra, ?_⟩
    obtain ⟨Xa, Ca, hp⟩ := bsome hp
    refine s_rMany (s := s) h.pre ha111 Ca fun eb Da => ?_
    obtain ⟨N, Ya⟩ := h.call Da g
    refine ⟨_, rfl, ?_⟩
    refine ifd hp (fun Ea hp => ?_) fun Ea hp => ?_
    ·obtain rfl := Option.some.inj hp
     exact hq _ N.ext'
    obtain rfl := Option.some.inj hp
    exact hq _ N.ext'
   refine ⟨_, _, _, _, _, _, _, _, _, _, _, _, a.bk.ra, trivial, _, a.bk.rc rfl, ?_⟩
   obtain ⟨Fa, y, hp⟩ := bsome hp
   obtain ⟨Oa, S, D, y⟩ := idx_some y
   obtain ⟨_, Ga⟩ := rd_Crd ha111 y
   refine ⟨Oa, S, (by first | exact D | (rw [ha111.slLen]; exact D)), _, _, _, _, _, _, _, (Ga _ h.sub).1, ?_⟩
   obtain ⟨Za, Ha, hp⟩ := bsome hp
   refine s_rIsCard (s := s) (c := Fa) h.pre ha111 Ha fun fb Ia => ?_
   obtain ⟨O, Ja⟩ := h.call Ia g
   have Ka := a.k Ja
   refine ⟨_, rfl, ?_⟩
   refine ifnb hp (fun La hp => ?_) fun La hp => ?_
   ·obtain rfl := Option.some.inj hp
    exact hq _ O.ext'
   refine gdi hp fun Ma hp => ?_
   exact P _ _ _ g O Ka hp
 exact hgo _ _ _ _ e I a hp
theorem s_rNth {s : Stm} {n : Int} {ca111 : C} {m f : M} {Q : V → M → Prop} {rz : Trh} (hS : Pre f m) (_ha111 : Sl f ca111 s.Cards) (hp : prNth s n = some rz) (hq : ∀ m', Ext m m' → Q (.agg 4 [(Il rz.A), (Il rz.B), (Il rz.Half), (Il rz.Peak)]) m') : Wc prog tbl 88 [.agg 12 [(Il s.Wide), (Il s.High), (Il s.Fall), (Il s.A.Lo), (Il s.A.Hi), (Il s.B.Lo), (Il s.B.Hi), (Il s.Half.Lo), (Il s.Half.Hi), (Il s.Peak.Lo), (Il s.Peak.Hi), ca111], .c (Il n)] m Q := by
 have S0 := hS.st
 obtain ⟨τ0, _⟩ : ∃ τ : Nat → Nat, True := ⟨fun _ => 0, trivial⟩
 refine w88 ?_
 unfold prNth at hp
 intro m0 ia
 obtain ⟨ja, ka, Rb, la⟩ := S0.blk ia τ0 1
 intro m1 ma
 obtain ⟨na, oa, pa, qa⟩ := ka.blk ma ja 2
 have sa := la.k pa
 intro m2 ta
 obtain ⟨d, P, S, ua⟩ := oa.blk ta na 3
 have h := sa.k S
 have va := qa.k S
 refine ⟨trivial, trivial, _, h.bk.rc rfl, trivial, _, _, h.bk.rp (k := 3) (j := 2) rfl (by omega), ?_⟩
 obtain ⟨e, wa, hp⟩ := bsome hp
 refine s_rCount (r := s.A) P.pre  wa fun m7 xa => ?_
 obtain ⟨T, p⟩ := P.call xa d
 have q := h.k p
 have ya := va.k p
 have za := ua.k p
 refine ⟨_, rfl, (q.bk.rc rfl), ?_⟩
 refine gdi hp fun Aa hp => ?_
 refine gdi hp fun Ba hp => ?_
 refine gdi hp fun Ca hp => ?_
 obtain ⟨Da, hp⟩ := gd_some hp
 refine ⟨Da, trivial, _, _, q.bk.rp (k := 3) (j := 2) rfl (by omega), (h.bk.rp (k := 3) (j := 2) rfl (by omega)), ?_⟩
 obtain ⟨a, Ea, hp⟩ := bsome hp
 refine s_rCount (r := s.A) T.pre  Ea fun Tb Fa => ?_
 obtain ⟨Ga, t⟩ := T.call Fa d
 have Y := q.k t
 have Ha := ya.k t
 have Ia := za.k t
 refine ⟨_, rfl, (Y.bk.rc rfl), ?_⟩
 refine gdi hp fun Ja hp => ?_
 refine gdi hp fun Ka hp => ?_
 obtain ⟨La, hp⟩ := gd_some hp
 refine ⟨La, trivial, ?_⟩
 obtain ⟨Ma, Na, Z, aa, u⟩ := Ia.sto1 Ga 0 (Il (s.A.Lo + (n % e))) (by simp) rfl
 replace u : Lb _ _ _ _ _ _ _ [(Il (s.A.Lo + (n % e))), (Il 0), (Il 0), (Il 0)] := u
 have i := Y.k aa
 have Oa := Ha.k aa
 refine ⟨Ma, Na, ?_⟩
 refine ⟨trivial, trivial, _, i.bk.rc rfl, trivial, _, _, i.bk.rp (k := 5) (j := 2) rfl (by omega), ?_⟩
 obtain ⟨g, Pa, hp⟩ := bsome hp
 refine s_rCount (r := s.B) Z.pre  Pa fun Ub Qa => ?_
 obtain ⟨ba, x⟩ := Z.call Qa d
 have y := i.k x
 have Ra := Oa.k x
 have Sa := u.k x
 refine ⟨_, rfl, (y.bk.rc rfl), ?_⟩
 refine gdi hp fun Ta hp => ?_
 refine gdi hp fun Ua hp => ?_
 refine gdi hp fun Va hp => ?_
 obtain ⟨Wa, hp⟩ := gd_some hp
 refine ⟨Wa, trivial, _, _, y.bk.rp (k := 5) (j := 2) rfl (by omega), (i.bk.rp (k := 5) (j := 2) rfl (by omega)), ?_⟩
 obtain ⟨b, Xa, hp⟩ := bsome hp
 refine s_rCount (r := s.B) ba.pre  Xa fun Vb Ya => ?_
 obtain ⟨Za, z⟩ := ba.call Ya d
 have ca := y.k z
 have ab := Ra.k z
 have bb := Sa.k z
 refine ⟨_, rfl, (ca.bk.rc rfl), ?_⟩
 refine gdi hp fun cb hp => ?_
 refine gdi hp fun db hp => ?_
 obtain ⟨eb, hp⟩ := gd_some hp
 refine ⟨eb, trivial, ?_⟩
 obtain ⟨fb, gb, da, ea, D⟩ := bb.sto1 Za 1 (Il (s.B.Lo + ((n / a) % g))) (by simp) rfl
 replace D : Lb _ _ _ _ _ _ _ [(Il (s.A.Lo + (n % e))), (Il (s.B.Lo + ((n / a) % g))), (Il 0), (Il 0)] := D
 have l := ca.k ea
 have hb := ab.k ea
 refine ⟨fb, gb, ?_⟩
 refine ⟨trivial, trivial, _, l.bk.rc rfl, trivial, _, _, l.bk.rp (k := 7) (j := 2) rfl (by omega), ?_⟩
 obtain ⟨o, ib, hp⟩ := bsome hp
 refine s_rCount (r := s.Half) da.pre  ib fun Wb jb => ?_
 obtain ⟨fa, F⟩ := da.call jb d
 have G := l.k F
 have kb := hb.k F
 have mb := D.k F
 refine ⟨_, rfl, (G.bk.rc rfl), ?_⟩
 refine gdi hp fun nb hp => ?_
 refine gdi hp fun ob hp => ?_
 refine gdi hp fun pb hp => ?_
 obtain ⟨qb, hp⟩ := gd_some hp
 refine ⟨qb, trivial, _, _, G.bk.rp (k := 7) (j := 2) rfl (by omega), (l.bk.rp (k := 7) (j := 2) rfl (by omega)), ?_⟩
 obtain ⟨I, rb, hp⟩ := bsome hp
 refine s_rCount (r := s.Half) fa.pre  rb fun Xb sb => ?_
 obtain ⟨tb, J⟩ := fa.call sb d
 have ga := G.k J
 have ub := kb.k J
 have vb := mb.k J
 refine ⟨_, rfl, (ga.bk.rc rfl), ?_⟩
 refine gdi hp fun wb hp => ?_
 refine gdi hp fun xb hp => ?_
 obtain ⟨yb, hp⟩ := gd_some hp
 refine ⟨yb, trivial, ?_⟩
 obtain ⟨zb, Ab, Bb, ha, N⟩ := vb.sto1 tb 2 (Il (s.Half.Lo + (((n / a) / b) % o))) (by simp) rfl
 replace N : Lb _ _ _ _ _ _ _ [(Il (s.A.Lo + (n % e))), (Il (s.B.Lo + ((n / a) % g))), (Il (s.Half.Lo + (((n / a) / b) % o))), (Il 0)] := N
 have Cb := ga.k ha
 have Db := ub.k ha
 refine ⟨zb, Ab, ?_⟩
 refine ⟨trivial, trivial, _, Cb.bk.rc rfl, ?_⟩
 obtain ⟨Eb, hp⟩ := gd_some hp
 refine ⟨Eb, trivial, ?_⟩
 obtain ⟨Fb, Gb, Hb, Ib, O⟩ := N.sto1 Bb 3 (Il (s.Peak.Lo + (((n / a) / b) / I))) (by simp) rfl
 replace O : Lb _ _ _ _ _ _ _ [(Il (s.A.Lo + (n % e))), (Il (s.B.Lo + ((n / a) % g))), (Il (s.Half.Lo + (((n / a) / b) % o))), (Il (s.Peak.Lo + (((n / a) / b) / I)))] := O
 have Jb := Db.k Ib
 refine ⟨Fb, Gb, ?_⟩
 refine ⟨_, _, _, _, O.bk.ra, ?_⟩
 obtain ⟨Kb, Mb, Nb, Sb, Ob⟩ := Jb.sto Hb [(Il (s.A.Lo + (n % e))), (Il (s.B.Lo + ((n / a) % g))), (Il (s.Half.Lo + (((n / a) / b) % o))), (Il (s.Peak.Lo + (((n / a) / b) / I)))]
 refine ⟨Kb, Mb, ?_⟩
 refine ⟨_, _, _, _, Ob.bk.ra, ?_⟩
 obtain rfl := Option.some.inj hp
 exact hq _ Nb.ext'
theorem s_rDistance {s : Stm} {t : Trh} {x : Int} {y : Int} {ca111 : C} {m f : M} {Q : V → M → Prop} {rz : Int} (hS : Pre f m) (_ha111 : Sl f ca111 s.Cards) (hp : prDistance s t x y = some rz) (hq : ∀ m', Ext m m' → Q (.c (Il rz)) m') : Wc prog tbl 102 [.agg 12 [(Il s.Wide), (Il s.High), (Il s.Fall), (Il s.A.Lo), (Il s.A.Hi), (Il s.B.Lo), (Il s.B.Hi), (Il s.Half.Lo), (Il s.Half.Hi), (Il s.Peak.Lo), (Il s.Peak.Hi), ca111], .agg 4 [(Il t.A), (Il t.B), (Il t.Half), (Il t.Peak)], .c (Il x), .c (Il y)] m Q := by
 have S := hS.st
 obtain ⟨T, _⟩ : ∃ τ : Nat → Nat, True := ⟨fun _ => 0, trivial⟩
 refine w102 ?_
 unfold prDistance at hp
 intro m0 d
 obtain ⟨e, g, Y, h⟩ := S.blk d T 1
 intro m1 i
 obtain ⟨Z, a, j, b⟩ := g.blk i e 2
 have l := h.k j
 refine ⟨trivial, _, l.bk.rc rfl, ?_⟩
 refine gdi hp fun n hp => ?_
 refine gdi hp fun o hp => ?_
 refine gdi hp fun p hp => ?_
 obtain ⟨q, hp⟩ := gd_some hp
 refine ⟨q, trivial, _, b.bk.rc rfl, ?_⟩
 refine gdi hp fun r hp => ?_
 refine gdi hp fun u hp => ?_
 refine gdi hp fun z hp => ?_
 refine gdi hp fun D hp => ?_
 obtain ⟨F, hp⟩ := gd_some hp
 refine ⟨F, trivial, _, b.bk.rc rfl, ?_⟩
 refine gdi hp fun G hp => ?_
 refine gdi hp fun I hp => ?_
 refine gdi hp fun J hp => ?_
 refine gdi hp fun N hp => ?_
 refine ifd hp (fun O hp => ?_) fun O hp => ?_; rotate_left
 ·obtain rfl := Option.some.inj hp
  exact hq _ a.ext'
 refine gdi hp fun P hp => ?_
 obtain rfl := Option.some.inj hp
 exact hq _ a.ext'
theorem s_rHit {s : Stm} {t : Trh} {x : Int} {y : Int} {ca111 : C} {m f : M} {Q : V → M → Prop} {rz : Bool} (hS : Pre f m) (ha111 : Sl f ca111 s.Cards) (hp : prHit s t x y = some rz) (hq : ∀ m', Ext m m' → Q (.c (.bool rz)) m') : Wc prog tbl 71 [.agg 12 [(Il s.Wide), (Il s.High), (Il s.Fall), (Il s.A.Lo), (Il s.A.Hi), (Il s.B.Lo), (Il s.B.Hi), (Il s.Half.Lo), (Il s.Half.Hi), (Il s.Peak.Lo), (Il s.Peak.Hi), ca111], .agg 4 [(Il t.A), (Il t.B), (Il t.Half), (Il t.Peak)], .c (Il x), .c (Il y)] m Q := by
 have J := hS.st
 obtain ⟨N, _⟩ : ∃ τ : Nat → Nat, True := ⟨fun _ => 0, trivial⟩
 refine w71 ?_
 unfold prHit at hp
 intro T g
 obtain ⟨h, i, O, j⟩ := J.blk g N 1
 intro Y l
 obtain ⟨n, d, o, a⟩ := i.blk l h 2
 have b := j.k o
 refine ⟨_, _, _, _, _, _, _, _, _, _, _, _, b.bk.ra, _, _, _, _, a.bk.ra, ?_⟩
 obtain ⟨P, p, hp⟩ := bsome hp
 refine s_rDistance (s := s) (t := t) (x := x) (y := y) d.pre ha111 p fun S q => ?_
 obtain ⟨r, e⟩ := d.call q n
 have u := b.k e
 have z := a.k e
 refine ⟨_, rfl, trivial, _, u.bk.rc rfl, (b.bk.rc rfl), ?_⟩
 obtain ⟨D, hp⟩ := gd_some hp
 refine ⟨D, trivial, _, z.bk.rc rfl, (a.bk.rc rfl), ?_⟩
 refine gdi hp fun F hp => ?_
 refine gdi hp fun G hp => ?_
 refine gdi hp fun I hp => ?_
 obtain rfl := Option.some.inj hp
 exact hq _ r.ext'
theorem s_rSize {s : Stm} {t : Trh} {x : Int} {y : Int} {ca111 : C} {m f : M} {Q : V → M → Prop} {rz : Int} (hS : Pre f m) (ha111 : Sl f ca111 s.Cards) (hp : prSize s t x y = some rz) (hq : ∀ m', Ext m m' → Q (.c (Il rz)) m') : Wc prog tbl 54 [.agg 12 [(Il s.Wide), (Il s.High), (Il s.Fall), (Il s.A.Lo), (Il s.A.Hi), (Il s.B.Lo), (Il s.B.Hi), (Il s.Half.Lo), (Il s.Half.Hi), (Il s.Peak.Lo), (Il s.Peak.Hi), ca111], .agg 4 [(Il t.A), (Il t.B), (Il t.Half), (Il t.Peak)], .c (Il x), .c (Il y)] m Q := by
 have S0 := hS.st
 obtain ⟨τ0, _⟩ : ∃ τ : Nat → Nat, True := ⟨fun _ => 0, trivial⟩
 refine w54 ?_
 unfold prSize at hp
 intro m0 o
 obtain ⟨p, q, fa, r⟩ := S0.blk o τ0 1
 intro m1 u
 obtain ⟨e, g, z, h⟩ := q.blk u p 2
 have i := r.k z
 refine ⟨_, _, _, _, _, _, _, _, _, _, _, _, i.bk.ra, _, _, _, _, h.bk.ra, ?_⟩
 obtain ⟨ga, D, hp⟩ := bsome hp
 refine s_rHit (s := s) (t := t) (x := x) (y := y) g.pre ha111 D fun ia F => ?_
 obtain ⟨b, j⟩ := g.call F e
 have a := i.k j
 have d := h.k j
 refine ⟨_, rfl, ?_⟩
 refine ifnb hp (fun G hp => ?_) fun G hp => ?_
 ·obtain rfl := Option.some.inj hp
  exact hq _ b.ext'
 refine ⟨trivial, _, d.bk.rc rfl, trivial, _, a.bk.rc rfl, _, _, _, _, _, _, _, _, _, _, _, _, a.bk.ra, _, _, _, _, d.bk.ra, ?_⟩
 obtain ⟨ha, I, hp⟩ := bsome hp
 refine s_rDistance (s := s) (t := t) (x := x) (y := y) b.pre ha111 I fun ja J => ?_
 obtain ⟨N, l⟩ := b.call J e
 have n := a.k l
 have O := d.k l
 refine ⟨_, rfl, (n.bk.rc rfl), (O.bk.rc rfl), trivial, _, n.bk.rc rfl, (a.bk.rc rfl), ?_⟩
 refine gdi hp fun P hp => ?_
 refine gdi hp fun S hp => ?_
 refine gdi hp fun T hp => ?_
 refine gdi hp fun Y hp => ?_
 refine gdi hp fun Z hp => ?_
 refine gdi hp fun aa hp => ?_
 refine gdi hp fun ba hp => ?_
 refine gdi hp fun ca hp => ?_
 obtain rfl := Option.some.inj hp
 exact hq _ N.ext'
theorem s_rRight {s : Stm} {t : Trh} {c : Crd} {ca111 : C} {m f : M} {Q : V → M → Prop} {rz : Bool} (hS : Pre f m) (ha111 : Sl f ca111 s.Cards) (hp : prRight s t c = some rz) (hq : ∀ m', Ext m m' → Q (.c (.bool rz)) m') : Wc prog tbl 72 [.agg 12 [(Il s.Wide), (Il s.High), (Il s.Fall), (Il s.A.Lo), (Il s.A.Hi), (Il s.B.Lo), (Il s.B.Hi), (Il s.Half.Lo), (Il s.Half.Hi), (Il s.Peak.Lo), (Il s.Peak.Hi), ca111], .agg 4 [(Il t.A), (Il t.B), (Il t.Half), (Il t.Peak)], .agg 7 [(Il c.X.Lo), (Il c.X.Hi), (Il c.Y.Lo), (Il c.Y.Hi), (.bool c.Hail), (Il c.Size.Lo), (Il c.Size.Hi)]] m Q := by
 have S0 := hS.st
 obtain ⟨τ0, _⟩ : ∃ τ : Nat → Nat, True := ⟨fun _ => 0, trivial⟩
 refine w72 ?_
 unfold prRight at hp
 intro m0 ga
 obtain ⟨ha, ia, cb, ja⟩ := S0.blk ga τ0 1
 intro m1 ka
 obtain ⟨la, ma, na, oa⟩ := ia.blk ka ha 2
 have pa := ja.k na
 intro m2 qa
 obtain ⟨sa, ta, Z, a⟩ := ma.blk qa la 3
 have d := pa.k Z
 have e := oa.k Z
 refine ⟨trivial, trivial, _, a.bk.rc rfl, ?_⟩
 intro R4 Ya
 have hgo : ∀ (i : Nat) (b5 : Bool) (b6 : Bool) (u : Int) (z : M) (g : Nat → Nat), St (Fm.of m) f f z → Lb (Fm.of m) f g z 1 m.nxt 12 [(Il s.Wide), (Il s.High), (Il s.Fall), (Il s.A.Lo), (Il s.A.Hi), (Il s.B.Lo), (Il s.B.Hi), (Il s.Half.Lo), (Il s.Half.Hi), (Il s.Peak.Lo), (Il s.Peak.Hi), ca111] → Lb (Fm.of m) f g z 2 m0.nxt 4 [(Il t.A), (Il t.B), (Il t.Half), (Il t.Peak)] → Lb (Fm.of m) f g z 3 m1.nxt 7 [(Il c.X.Lo), (Il c.X.Hi), (Il c.Y.Lo), (Il c.Y.Hi), (.bool c.Hail), (Il c.Size.Lo), (Il c.Size.Hi)] → prRight_L0 s t c i b5 u = some rz → R4 [.c (.bool b5), .c (.bool b6), .c (Il u)] z := by
  intro i
  induction i with
  | zero => intro b5 b6 u z g D d e a hp; cases hp
  | succ i va =>
   intro b5 b6 u z g D d e a hp
   refine Ya _ _ _ _ ?_
   rw [prRight_L0] at hp
   refine ⟨trivial, trivial, _, a.bk.rc rfl, ?_⟩
   refine ifd hp (fun wa hp => ?_) fun wa hp => ?_; rotate_left
   ·obtain rfl := Option.some.inj hp
    exact hq _ D.ext'
   refine ⟨trivial, trivial, _, a.bk.rc rfl, ?_⟩
   intro Za xa
   have hgo : ∀ (p : Nat) (T : Bool) (aa : Bool) (j : Int) (l : M) (b : Nat → Nat), St (Fm.of m) f f l → Lb (Fm.of m) f b l 1 m.nxt 12 [(Il s.Wide), (Il s.High), (Il s.Fall), (Il s.A.Lo), (Il s.A.Hi), (Il s.B.Lo), (Il s.B.Hi), (Il s.Half.Lo), (Il s.Half.Hi), (Il s.Peak.Lo), (Il s.Peak.Hi), ca111] → Lb (Fm.of m) f b l 2 m0.nxt 4 [(Il t.A), (Il t.B), (Il t.Half), (Il t.Peak)] → Lb (Fm.of m) f b l 3 m1.nxt 7 [(Il c.X.Lo), (Il c.X.Hi), (Il c.Y.Lo), (Il c.Y.Hi), (.bool c.Hail), (Il c.Size.Lo), (Il c.Size.Hi)] → prRight_L1 s t c u (prRight_L0 s t c i) p T j = some rz → Za [.c (.bool T), .c (.bool aa), .c (Il j)] l := by
    intro p
    induction p with
    | zero => intro T aa j l b h d e a hp; cases hp
    | succ p q =>
     intro T aa j l b h d e a hp
     refine xa _ _ _ _ ?_
     rw [prRight_L1] at hp
     refine ⟨trivial, trivial, _, a.bk.rc rfl, ?_⟩
     refine ifd hp (fun ya hp => ?_) fun ya hp => ?_; rotate_left
     ·refine gdi hp fun za hp => ?_
      exact va _ _ _ _ b h d e a hp
     refine ⟨trivial, _, a.bk.rc rfl, ?_⟩
     refine ifbb hp (fun r hp => ?_) fun r hp => ?_; rotate_left
     ·refine ⟨trivial, _, a.bk.rc rfl, ?_⟩
      refine ifnbkf r ?_
      refine ⟨_, _, _, _, _, _, _, _, _, _, _, _, d.bk.ra, _, _, _, _, e.bk.ra, ?_⟩
      obtain ⟨eb, Aa, hp⟩ := bsome hp
      refine s_rHit (s := s) (t := t) (x := u) (y := j) h.pre ha111 Aa fun fb Ba => ?_
      obtain ⟨ba, F⟩ := h.call Ba b
      have Ca := d.k F
      have Da := e.k F
      have Ea := a.k F
      refine ⟨_, rfl, ?_⟩
      refine ifnb hp (fun Fa hp => ?_) fun Fa hp => ?_
      ·obtain rfl := Option.some.inj hp
       exact hq _ ba.ext'
      refine gdi hp fun Ga hp => ?_
      exact q _ _ _ _ b ba Ca Da Ea hp
     refine ⟨_, _, _, _, _, _, _, _, _, _, _, _, d.bk.ra, _, _, _, _, e.bk.ra, ?_⟩
     obtain ⟨gb, Ha, hp⟩ := bsome hp
     refine s_rHit (s := s) (t := t) (x := u) (y := j) h.pre ha111 Ha fun ib Ia => ?_
     obtain ⟨G, I⟩ := h.call Ia b
     have J := d.k I
     have N := e.k I
     have o := a.k I
     refine ⟨_, rfl, ?_⟩
     refine ifbb hp (fun Ja hp => ?_) fun Ja hp => ?_; rotate_left
     ·refine ⟨trivial, _, o.bk.rc rfl, ?_⟩
      refine ifnbkt r ?_
      refine gdi hp fun Ka hp => ?_
      exact q _ _ _ _ b G J N o hp
     refine ⟨_, _, _, _, _, _, _, _, _, _, _, _, J.bk.ra, _, _, _, _, N.bk.ra, ?_⟩
     obtain ⟨La, Ma, hp⟩ := bsome hp
     refine s_rSize (s := s) (t := t) (x := u) (y := j) G.pre ha111 Ma fun jb Na => ?_
     obtain ⟨ca, O⟩ := G.call Na b
     have Oa := J.k O
     have Pa := N.k O
     have P := o.k O
     refine ⟨_, rfl, trivial, trivial, _, P.bk.rc rfl, (o.bk.rc rfl), trivial, trivial, _, P.bk.rc rfl, (o.bk.rc rfl), ?_⟩
     obtain ⟨hb, Qa, hp⟩ := bsome hp
     refine s_rIn (n := La) (low := c.Size.Lo) (high := c.Size.Hi) ca.pre  Qa fun kb Ra => ?_
     obtain ⟨da, S⟩ := ca.call Ra b
     have Sa := Oa.k S
     have Ta := Pa.k S
     have ea := P.k S
     refine ⟨_, rfl, ?_⟩
     refine ifbb hp (fun Ua hp => ?_) fun Ua hp => ?_
     ·obtain rfl := Option.some.inj hp
      exact hq _ da.ext'
     refine ⟨trivial, _, ea.bk.rc rfl, ?_⟩
     refine ifnbkt r ?_
     refine gdi hp fun Va hp => ?_
     exact q _ _ _ _ b da Sa Ta ea hp
   exact hgo _ _ _ _ _ g D d e a hp
 exact hgo _ _ _ _ _ sa ta d e a hp
theorem s_rAll {s : Stm} {ca111 : C} {m f : M} {Q : V → M → Prop} {rz : List Int} (hS : Pre f m) (ha111 : Sl f ca111 s.Cards) (hp : prAll s = some rz) (hq : ∀ m' f' c0, Grw m f m' f' → Sl f' c0 rz → Q (.c c0) m') : Wc prog tbl 38 [.agg 12 [(Il s.Wide), (Il s.High), (Il s.Fall), (Il s.A.Lo), (Il s.A.Hi), (Il s.B.Lo), (Il s.B.Hi), (Il s.Half.Lo), (Il s.Half.Hi), (Il s.Peak.Lo), (Il s.Peak.Hi), ca111]] m Q := by
 have S0 := hS.st
 obtain ⟨τ0, _⟩ : ∃ τ : Nat → Nat, True := ⟨fun _ => 0, trivial⟩
 refine w38 ?_
 unfold prAll at hp
 intro m0 ba
 obtain ⟨ca, da, Wa, i⟩ := S0.blk ba τ0 1
 intro R1 Ra
 have hgo : ∀ (j : Nat) (G : C) (I : Int) (g : List Int) (J : M) (h : Nat → Nat), St (Fm.of m) f f J → Lb (Fm.of m) f h J 1 m.nxt 12 [(Il s.Wide), (Il s.High), (Il s.Fall), (Il s.A.Lo), (Il s.A.Hi), (Il s.B.Lo), (Il s.B.Hi), (Il s.Half.Lo), (Il s.Half.Hi), (Il s.Peak.Lo), (Il s.Peak.Hi), ca111] → Ow (Fm.of m) f h J 2 G g → prAll_L0 s j g I = some rz → R1 [.c G, .c (Il I)] J := by
  intro j
  induction j with
  | zero => intro G I g J h r i b hp; cases hp
  | succ j ea =>
   intro G I g J h r i b hp
   refine Ra _ _ _ ?_
   rw [prAll_L0] at hp
   refine ⟨_, _, _, _, _, _, _, _, _, _, _, _, i.bk.ra, ?_⟩
   obtain ⟨Ya, fa, hp⟩ := bsome hp
   refine s_rMany (s := s) r.pre ha111 fa fun bb ga => ?_
   obtain ⟨N, O⟩ := r.call ga h
   have d := i.k O
   have b := b.k O
   refine ⟨_, rfl, ?_⟩
   refine ifd hp (fun ha hp => ?_) fun ha hp => ?_; rotate_left
   ·obtain ⟨ia, ja, Za, ka⟩ := b.freeze N
    obtain rfl := Option.some.inj hp
    exact hq _ ia G ja.grw ka
   intro Sa la
   have hgo : ∀ (q : Nat) (o : Int) (z : Int) (p : M) (e : Nat → Nat), St (Fm.of m) f f p → Lb (Fm.of m) f e p 1 m.nxt 12 [(Il s.Wide), (Il s.High), (Il s.Fall), (Il s.A.Lo), (Il s.A.Hi), (Il s.B.Lo), (Il s.B.Hi), (Il s.Half.Lo), (Il s.Half.Hi), (Il s.Peak.Lo), (Il s.Peak.Hi), ca111] → Ow (Fm.of m) f e p 2 G g → prAll_L1 s g I (prAll_L0 s j) q o z = some rz → Sa [.c (Il o), .c (Il z)] p := by
    intro q
    induction q with
    | zero => intro o z p e l d b hp; cases hp
    | succ q D =>
     intro o z p e l d b hp
     refine la _ _ _ ?_
     rw [prAll_L1] at hp
     refine ⟨trivial, _, d.bk.rc rfl, ha111.isSl, ?_⟩
     try rw [ha111.slLen]
     refine ifd hp (fun ma hp => ?_) fun ma hp => ?_; rotate_left
     ·obtain ⟨na, hp⟩ := gd_some hp
      intro cb oa
      obtain ⟨pa, qa, sa, ta, ua, va, wa⟩ := b.app' ta69 l (a := o) (show Rp.rep (α := Int) f _ o from rfl) na oa
      have xa := d.k va
      refine ⟨pa, qa, ta, ?_⟩
      refine gdi hp fun ya hp => ?_
      exact ea _ _ _ _ sa ua xa wa hp
     refine ⟨_, _, _, _, _, _, _, _, _, _, _, _, d.bk.ra, _, _, _, _, _, _, _, _, _, _, _, _, d.bk.ra, ?_⟩
     obtain ⟨za, Aa, hp⟩ := bsome hp
     refine s_rNth (s := s) (n := I) l.pre ha111 Aa fun db Ba => ?_
     obtain ⟨u, P⟩ := l.call Ba e
     have x := d.k P
     have b := b.k P
     refine ⟨_, _, _, _, rfl, (by rw [show allS cmC _ = true from cmL_of (nf_cons rfl (nf_cons rfl (nf_cons rfl (nf_cons rfl (nf_cons rfl (nf_cons rfl (nf_cons rfl (nf_cons rfl (nf_cons rfl (nf_cons rfl (nf_cons rfl (nf_cons ha111.noFn nf_nil))))))))))))]; exact (x.bk.ra)), trivial, _, x.bk.rc rfl, (by rw [show cmC _ = true from cmC_of (ha111.noFn)]; exact (d.bk.rc rfl)), ?_⟩
     obtain ⟨Ca, y, hp⟩ := bsome hp
     obtain ⟨Ta, aa, F, y⟩ := idx_some y
     obtain ⟨_, S⟩ := rd_Crd ha111 y
     refine ⟨Ta, aa, (by first | exact F | (rw [ha111.slLen]; exact F)), _, _, _, _, _, _, _, (S _ u.sub).1, (S _ l.sub).1, ?_⟩
     obtain ⟨ab, Da, hp⟩ := bsome hp
     refine s_rRight (s := s) (t := za) (c := Ca) u.pre ha111 Da fun eb Ea => ?_
     obtain ⟨T, Y⟩ := u.call Ea e
     have Z := x.k Y
     have b := b.k Y
     refine ⟨_, rfl, ?_⟩
     refine ifbb hp (fun Fa hp => ?_) fun Fa hp => ?_; rotate_left
     ·refine gdi hp fun Ga hp => ?_
      exact D _ _ _ e T Z b hp
     refine gdi hp fun Ha hp => ?_
     refine gdi hp fun Ia hp => ?_
     refine gdi hp fun Ja hp => ?_
     refine gdi hp fun Ka hp => ?_
     refine gdi hp fun La hp => ?_
     refine gdi hp fun Ma hp => ?_
     refine gdi hp fun Na hp => ?_
     refine gdi hp fun Oa hp => ?_
     refine gdi hp fun Pa hp => ?_
     refine gdi hp fun Qa hp => ?_
     exact D _ _ _ e T Z b hp
   exact hgo _ _ _ _ h N d b hp
 exact hgo _ _ _ _ _ ca da i (Ow.nil _ _ _ _ _) hp
theorem s_rEvery {s : Stm} {ca111 : C} {m f : M} {Q : V → M → Prop} {rz : Int} (hS : Pre f m) (ha111 : Sl f ca111 s.Cards) (hp : prEvery s = some rz) (hq : ∀ m', Ext m m' → Q (.c (Il rz)) m') : Wc prog tbl 58 [.agg 12 [(Il s.Wide), (Il s.High), (Il s.Fall), (Il s.A.Lo), (Il s.A.Hi), (Il s.B.Lo), (Il s.B.Hi), (Il s.Half.Lo), (Il s.Half.Hi), (Il s.Peak.Lo), (Il s.Peak.Hi), ca111]] m Q := by
 have l := hS.st
 obtain ⟨n, _⟩ : ∃ τ : Nat → Nat, True := ⟨fun _ => 0, trivial⟩
 refine w58 ?_
 unfold prEvery at hp
 intro q g
 obtain ⟨o, h, p, i⟩ := l.blk g n 1
 refine ⟨trivial, _, i.bk.rc rfl, ha111.isSl, ?_⟩
 refine gdi hp fun j hp => ?_
 obtain ⟨a, hp⟩ := gd_some hp
 refine ⟨(by first | exact a | (rw [ha111.slLen]; exact a)), ?_⟩
 obtain ⟨b, hp⟩ := gd_some hp
 refine ⟨(by first | exact b | (rw [ha111.slLen]; exact b)), ?_⟩
 obtain ⟨d, hp⟩ := gd_some hp
 refine ⟨(by first | exact d | (rw [ha111.slLen]; exact d)), ?_⟩
 obtain ⟨e, hp⟩ := gd_some hp
 refine ⟨(by first | exact e | (rw [ha111.slLen]; exact e)), ?_⟩
 try rw [ha111.slLen]
 obtain rfl := Option.some.inj hp
 exact hq _ h.ext'
theorem s_rTruths {s : Stm} {ca111 : C} {m f : M} {Q : V → M → Prop} {rz : List Trh} (hS : Pre f m) (ha111 : Sl f ca111 s.Cards) (hp : prTruths s = some rz) (hq : ∀ m' f' c0, Grw m f m' f' → Sl f' c0 rz → Q (.c c0) m') : Wc prog tbl 63 [.agg 12 [(Il s.Wide), (Il s.High), (Il s.Fall), (Il s.A.Lo), (Il s.A.Hi), (Il s.B.Lo), (Il s.B.Hi), (Il s.Half.Lo), (Il s.Half.Hi), (Il s.Peak.Lo), (Il s.Peak.Hi), ca111]] m Q := by
 have S0 := hS.st
 obtain ⟨τ0, _⟩ : ∃ τ : Nat → Nat, True := ⟨fun _ => 0, trivial⟩
 refine w63 ?_
 unfold prTruths at hp
 intro m0 P
 obtain ⟨D, F, Da, G⟩ := S0.blk P τ0 1
 refine ⟨_, _, _, _, _, _, _, _, _, _, _, _, G.bk.ra, ?_⟩
 obtain ⟨S, T, hp⟩ := bsome hp
 refine s_rAll (s := s) F.pre ha111 T fun Ia j Ea Y e => ?_
 obtain ⟨Z, u⟩ := F.callG Y D
 have g := G.k u
 refine ⟨_, rfl, ?_⟩
 intro za aa
 have hgo : ∀ (l : Nat) (r : C) (t : Int) (o : List Trh) (i : M) (d : Nat → Nat), St (Fm.of m) f j i → Lb (Fm.of m) j d i 1 m.nxt 12 [(Il s.Wide), (Il s.High), (Il s.Fall), (Il s.A.Lo), (Il s.A.Hi), (Il s.B.Lo), (Il s.B.Hi), (Il s.Half.Lo), (Il s.Half.Hi), (Il s.Peak.Lo), (Il s.Peak.Hi), ca111] → Ow (Fm.of m) j d i 2 r o → prTruths_L0 s S l o t = some rz → za [.c r, .c (Il t)] i := by
  intro l
  induction l with
  | zero => intro r t o i d h g b hp; cases hp
  | succ l y =>
   intro r t o i d h g b hp
   refine aa _ _ _ ?_
   rw [prTruths_L0] at hp
   refine ⟨e.isSl, ?_⟩
   try rw [e.slLen]
   refine ifd hp (fun ba hp => ?_) fun ba hp => ?_; rotate_left
   ·obtain ⟨ca, da, Fa, ea⟩ := b.freeze h
    obtain rfl := Option.some.inj hp
    exact hq _ ca r da.grw ea
   obtain ⟨Ga, p, hp⟩ := bsome hp
   obtain ⟨Aa, O, z, p⟩ := idx_some p
   refine ⟨Aa, O, (by first | exact z | (rw [e.slLen]; exact z)), _, (e.rdI p h.sub), _, _, _, _, _, _, _, _, _, _, _, _, g.bk.ra, ?_⟩
   obtain ⟨Ha, fa, hp⟩ := bsome hp
   refine s_rEvery (s := s) h.pre (ha111.sub u.fs) fa fun Ja ga => ?_
   obtain ⟨q, I⟩ := h.call ga d
   have x := g.k I
   have b := b.k I
   refine ⟨_, rfl, (e.rdI p q.sub), ?_⟩
   refine ifd hp (fun ha hp => ?_) fun ha hp => ?_; rotate_left
   ·refine gdi hp fun ia hp => ?_
    exact y _ _ _ _ d q x b hp
   refine ⟨_, _, _, _, _, _, _, _, _, _, _, _, x.bk.ra, ?_⟩
   obtain ⟨J, ja, hp⟩ := bsome hp
   refine s_rNth (s := s) (n := t) q.pre (ha111.sub u.fs) ja fun Ka ka => ?_
   obtain ⟨la, N⟩ := q.call ka d
   have ma := x.k N
   have b := b.k N
   refine ⟨_, _, _, _, rfl, ?_⟩
   obtain ⟨na, hp⟩ := gd_some hp
   intro La oa
   obtain ⟨pa, qa, sa, ta, ua, va, wa⟩ := b.app' ta46 la (a := J) (show Rp.rep (α := Trh) j _ J from rfl) na oa
   have xa := ma.k va
   refine ⟨pa, qa, ta, ?_⟩
   refine gdi hp fun ya hp => ?_
   exact y _ _ _ _ sa ua xa wa hp
 exact hgo _ _ _ _ _ D Z g (Ow.nil _ _ _ _ _) hp
theorem s_rWorst {s : Stm} {l : List Trh} {x : Int} {y : Int} {ca111 ca200 : C} {m f : M} {Q : V → M → Prop} {rz : Int} (hS : Pre f m) (ha111 : Sl f ca111 s.Cards) (ha200 : Sl f ca200 l) (hp : prWorst s l x y = some rz) (hq : ∀ m', Ext m m' → Q (.c (Il rz)) m') : Wc prog tbl 64 [.agg 12 [(Il s.Wide), (Il s.High), (Il s.Fall), (Il s.A.Lo), (Il s.A.Hi), (Il s.B.Lo), (Il s.B.Hi), (Il s.Half.Lo), (Il s.Half.Hi), (Il s.Peak.Lo), (Il s.Peak.Hi), ca111], .c ca200, .c (Il x), .c (Il y)] m Q := by
 have S0 := hS.st
 obtain ⟨τ0, _⟩ : ∃ τ : Nat → Nat, True := ⟨fun _ => 0, trivial⟩
 refine w64 ?_
 unfold prWorst at hp
 intro m0 r
 obtain ⟨u, z, ca, b⟩ := S0.blk r τ0 1
 intro R1 aa
 have hgo : ∀ (e : Nat) (D : Int) (F : Int) (o : M) (a : Nat → Nat), St (Fm.of m) f f o → Lb (Fm.of m) f a o 1 m.nxt 12 [(Il s.Wide), (Il s.High), (Il s.Fall), (Il s.A.Lo), (Il s.A.Hi), (Il s.B.Lo), (Il s.B.Hi), (Il s.Half.Lo), (Il s.Half.Hi), (Il s.Peak.Lo), (Il s.Peak.Hi), ca111] → prWorst_L0 s l x y e D F = some rz → R1 [.c (Il D), .c (Il F)] o := by
  intro e
  induction e with
  | zero => intro D F o a d b hp; cases hp
  | succ e p =>
   intro D F o a d b hp
   refine aa _ _ _ ?_
   rw [prWorst_L0] at hp
   refine ⟨ha200.isSl, ?_⟩
   try rw [ha200.slLen]
   refine ifd hp (fun G hp => ?_) fun G hp => ?_; rotate_left
   ·refine ⟨ha200.isSl, ?_⟩
    obtain ⟨i, hp⟩ := gd_some hp
    refine ⟨(by first | exact i | (rw [ha200.slLen]; exact i)), ?_⟩
    try rw [ha200.slLen]
    obtain rfl := Option.some.inj hp
    exact hq _ d.ext'
   refine ⟨_, _, _, _, _, _, _, _, _, _, _, _, b.bk.ra, ?_⟩
   obtain ⟨I, g, hp⟩ := bsome hp
   obtain ⟨ba, q, h, g⟩ := idx_some g
   obtain ⟨_, J⟩ := rd_Trh ha200 g
   refine ⟨ba, q, (by first | exact h | (rw [ha200.slLen]; exact h)), _, _, _, _, (J _ d.sub).1, ?_⟩
   obtain ⟨da, N, hp⟩ := bsome hp
   refine s_rHit (s := s) (t := I) (x := x) (y := y) d.pre ha111 N fun ha O => ?_
   obtain ⟨j, P⟩ := d.call O a
   have n := b.k P
   refine ⟨_, rfl, ?_⟩
   refine ifbb hp (fun S hp => ?_) fun S hp => ?_; rotate_left
   ·refine gdi hp fun T hp => ?_
    exact p _ _ _ a j n hp
   refine gdi hp fun Y hp => ?_
   refine gdi hp fun Z hp => ?_
   exact p _ _ _ a j n hp
 exact hgo _ _ _ _ u z b hp
theorem s_lTo {r : Rg} {m f : M} {Q : V → M → Prop} {rz : Rg} (hS : Pre f m)  (hp : plTo r = some rz) (hq : ∀ m', Ext m m' → Q (.agg 2 [(Il rz.Lo), (Il rz.Hi)]) m') : Wc prog tbl 32 [.agg 2 [(Il r.Lo), (Il r.Hi)]] m Q := by
 have u := hS.st
 obtain ⟨x, _⟩ : ∃ τ : Nat → Nat, True := ⟨fun _ => 0, trivial⟩
 refine w32 ?_
 unfold plTo at hp
 intro y b
 obtain ⟨c, d, q, e⟩ := u.blk b x 1
 intro z g
 obtain ⟨s, h, i, j⟩ := d.blk g c 2
 have a := e.k i
 refine ⟨trivial, _, a.bk.rc rfl, trivial, _, a.bk.rc rfl, ?_⟩
 obtain ⟨l, n, o, t, p⟩ := j.sto h [(Il r.Lo), (Il r.Hi)]
 refine ⟨l, n, ?_⟩
 refine ⟨_, _, p.bk.ra, ?_⟩
 obtain rfl := Option.some.inj hp
 exact hq _ o.ext'
theorem s_lStorm {s : Stm} {ca111 : C} {m f : M} {Q : V → M → Prop} {rz : Stm} (hS : Pre f m) (ha111 : Sl f ca111 s.Cards) (hp : plStorm s = some rz) (hq : ∀ m' f' c11, Grw m f m' f' → Sl f' c11 rz.Cards → Q (.agg 12 [(Il rz.Wide), (Il rz.High), (Il rz.Fall), (Il rz.A.Lo), (Il rz.A.Hi), (Il rz.B.Lo), (Il rz.B.Hi), (Il rz.Half.Lo), (Il rz.Half.Hi), (Il rz.Peak.Lo), (Il rz.Peak.Hi), c11]) m') : Wc prog tbl 19 [.agg 12 [(Il s.Wide), (Il s.High), (Il s.Fall), (Il s.A.Lo), (Il s.A.Hi), (Il s.B.Lo), (Il s.B.Hi), (Il s.Half.Lo), (Il s.Half.Hi), (Il s.Peak.Lo), (Il s.Peak.Hi), ca111]] m Q := by
 have S0 := hS.st
 obtain ⟨τ0, _⟩ : ∃ τ : Nat → Nat, True := ⟨fun _ => 0, trivial⟩
 refine w19 ?_
 unfold plStorm at hp
 intro m0 Wa
 obtain ⟨Xa, Ya, Nc, Za⟩ := S0.blk Wa τ0 1
 intro m1 ab
 obtain ⟨bb, cb, db, eb⟩ := Ya.blk ab Xa 2
 have fb := Za.k db
 intro m2 gb
 obtain ⟨J, ya, za, Ua⟩ := cb.growK gb bb 3
 have e := fb.k za
 have hb := eb.k za
 have ib := Ua 0 (by decide)
 refine ⟨trivial, _, e.bk.rc rfl, trivial, _, e.bk.rc rfl, trivial, _, e.bk.rc rfl, trivial, _, _, e.bk.rp (k := 3) (j := 2) rfl (by omega), ?_⟩
 obtain ⟨Aa, jb, hp⟩ := bsome hp
 refine s_lTo (r := s.A) ya.pre  jb fun m9 kb => ?_
 obtain ⟨Ba, ja⟩ := ya.call kb J
 have h := e.k ja
 have mb := hb.k ja
 have nb := ib.k ja
 refine ⟨_, _, rfl, (h.bk.rc rfl), (h.bk.rc rfl), (h.bk.rc rfl), trivial, _, _, h.bk.rp (k := 5) (j := 2) rfl (by omega), (e.bk.rp (k := 5) (j := 2) rfl (by omega)), ?_⟩
 obtain ⟨Ca, ob, hp⟩ := bsome hp
 refine s_lTo (r := s.B) Ba.pre  ob fun Uc pb => ?_
 obtain ⟨Da, ka⟩ := Ba.call pb J
 have l := h.k ka
 have qb := mb.k ka
 have rb := nb.k ka
 refine ⟨_, _, rfl, (l.bk.rc rfl), (l.bk.rc rfl), (l.bk.rc rfl), trivial, _, _, l.bk.rp (k := 7) (j := 2) rfl (by omega), (h.bk.rp (k := 7) (j := 2) rfl (by omega)), (e.bk.rp (k := 7) (j := 2) rfl (by omega)), ?_⟩
 obtain ⟨Ea, sb, hp⟩ := bsome hp
 refine s_lTo (r := s.Half) Da.pre  sb fun Vc tb => ?_
 obtain ⟨Fa, la⟩ := Da.call tb J
 have N := l.k la
 have ub := qb.k la
 have vb := rb.k la
 refine ⟨_, _, rfl, (N.bk.rc rfl), (N.bk.rc rfl), (N.bk.rc rfl), trivial, _, _, N.bk.rp (k := 9) (j := 2) rfl (by omega), (l.bk.rp (k := 9) (j := 2) rfl (by omega)), (h.bk.rp (k := 9) (j := 2) rfl (by omega)), (e.bk.rp (k := 9) (j := 2) rfl (by omega)), ?_⟩
 obtain ⟨Ga, wb, hp⟩ := bsome hp
 refine s_lTo (r := s.Peak) Fa.pre  wb fun Xc xb => ?_
 obtain ⟨yb, ma⟩ := Fa.call xb J
 have ca := N.k ma
 have zb := ub.k ma
 have Ab := vb.k ma
 refine ⟨_, _, rfl, (ca.bk.rc rfl), (ca.bk.rc rfl), (ca.bk.rc rfl), ?_⟩
 intro Yc Bb
 obtain ⟨Cb, Ha, Db⟩ := Ab.set yb Bb
 have g := ca.k Ha
 have Eb := zb.k Ha
 refine ⟨(g.bk.rp (k := 9) (j := 2) rfl (by omega)), (g.bk.rp (k := 7) (j := 2) rfl (by omega)), (g.bk.rp (k := 5) (j := 2) rfl (by omega)), (g.bk.rp (k := 3) (j := 2) rfl (by omega)), (g.bk.rc rfl), (g.bk.rc rfl), (g.bk.rc rfl), ?_⟩
 obtain ⟨Fb, Gb, Hb, Ia, O⟩ := Db.sto Cb [(Il s.Wide), (Il s.High), (Il s.Fall), (Il Aa.Lo), (Il Aa.Hi), (Il Ca.Lo), (Il Ca.Hi), (Il Ea.Lo), (Il Ea.Hi), (Il Ga.Lo), (Il Ga.Hi), .sl0]
 have n := g.k Ia
 have P := Eb.k Ia
 refine ⟨Fb, Gb, ?_⟩
 intro Kc Jc
 have hgo : ∀ (da : Nat) (Ja : Int) (o : C) (p : Int) (q : Int) (t : Int) (u : Int) (x : Int) (y : Int) (z : Int) (D : Int) (F : Int) (G : Int) (I : Int) (ea : List Crd) (ba : M) (i : Nat → Nat), St (Fm.of m) f f ba → Lb (Fm.of m) f i ba 1 m.nxt 12 [(Il s.Wide), (Il s.High), (Il s.Fall), (Il s.A.Lo), (Il s.A.Hi), (Il s.B.Lo), (Il s.B.Hi), (Il s.Half.Lo), (Il s.Half.Hi), (Il s.Peak.Lo), (Il s.Peak.Hi), ca111] → Lb (Fm.of m) f i ba 2 m0.nxt 12 [(Il 0), (Il 0), (Il 0), (Il 0), (Il 0), (Il 0), (Il 0), (Il 0), (Il 0), (Il 0), (Il 0), .sl0] → Lb (Fm.of m) f i ba 3 (m1.nxt + 0) 12 [(Il p), (Il q), (Il t), (Il u), (Il x), (Il y), (Il z), (Il D), (Il F), (Il G), (Il I), o] → Ow (Fm.of m) f i ba 4 o ea → plStorm_L0 s da p q t u x y z D F G I ea Ja = some rz → Kc [.c (Il Ja)] ba := by
  intro da
  induction da with
  | zero => intro Ja o p q t u x y z D F G I ea ba i fa n P O b hp; cases hp
  | succ da Ib =>
   intro Ja o p q t u x y z D F G I ea ba i fa n P O b hp
   refine Jc _ _ ?_
   rw [plStorm_L0] at hp
   refine ⟨trivial, _, n.bk.rc rfl, ha111.isSl, ?_⟩
   try rw [ha111.slLen]
   refine ifd hp (fun Jb hp => ?_) fun Jb hp => ?_; rotate_left
   ·refine ⟨_, _, _, _, _, _, _, _, _, _, _, _, O.bk.ra, ?_⟩
    obtain ⟨Kb, Mb, Nb, Ob, Pb⟩ := P.sto fa [(Il p), (Il q), (Il t), (Il u), (Il x), (Il y), (Il z), (Il D), (Il F), (Il G), (Il I), o]
    have b := b.k Ob
    refine ⟨Kb, Mb, ?_⟩
    refine ⟨_, _, _, _, _, _, _, _, _, _, _, _, Pb.bk.ra, ?_⟩
    obtain ⟨Qb, Rb, Oc, Sb⟩ := b.freeze Nb
    obtain rfl := Option.some.inj hp
    exact hq _ Qb o Rb.grw Sb
   refine ⟨trivial, _, n.bk.rc rfl, ?_⟩
   obtain ⟨d, na, hp⟩ := bsome hp
   obtain ⟨Lc, Va, xa, na⟩ := idx_some na
   obtain ⟨_, Tb⟩ := rd_Crd ha111 na
   refine ⟨Lc, Va, (by first | exact xa | (rw [ha111.slLen]; exact xa)), _, _, _, _, _, _, _, (Tb _ fa.sub).1, ?_⟩
   intro Zc Ub
   obtain ⟨oa, Vb, ga, Wb⟩ := fa.blk Ub i 5
   have Xb := n.k ga
   have Yb := P.k ga
   have Zb := O.k ga
   have b := b.k ga
   obtain ⟨ac, bc, Ka, ha, S⟩ := Wb.sto Vb [(Il d.X.Lo), (Il d.X.Hi), (Il d.Y.Lo), (Il d.Y.Hi), (.bool d.Hail), (Il d.Size.Lo), (Il d.Size.Hi)]
   have cc := Xb.k ha
   have dc := Yb.k ha
   have La := Zb.k ha
   have b := b.k ha
   refine ⟨ac, bc, ?_⟩
   refine ⟨trivial, _, La.bk.rc rfl, trivial, _, _, S.bk.rp (k := 0) (j := 2) rfl (by omega), ?_⟩
   obtain ⟨Ma, ec, hp⟩ := bsome hp
   refine s_lTo (r := d.X) Ka.pre  ec fun ad fc => ?_
   obtain ⟨Na, T⟩ := Ka.call fc oa
   have gc := cc.k T
   have ic := dc.k T
   have Oa := La.k T
   have ia := S.k T
   have b := b.k T
   refine ⟨_, _, rfl, (by rw [show cmC _ = true from cmC_of (b.noFn)]; exact (Oa.bk.rc rfl)), trivial, _, _, ia.bk.rp (k := 2) (j := 2) rfl (by omega), (S.bk.rp (k := 2) (j := 2) rfl (by omega)), ?_⟩
   obtain ⟨Pa, jc, hp⟩ := bsome hp
   refine s_lTo (r := d.Y) Na.pre  jc fun bd kc => ?_
   obtain ⟨Qa, Z⟩ := Na.call kc oa
   have lc := gc.k Z
   have nc := ic.k Z
   have Ra := Oa.k Z
   have pa := ia.k Z
   have b := b.k Z
   refine ⟨_, _, rfl, (by rw [show cmC _ = true from cmC_of (b.noFn)]; exact (Ra.bk.rc rfl)), trivial, _, pa.bk.rc rfl, (ia.bk.rc rfl), (S.bk.rc rfl), trivial, _, _, pa.bk.rp (k := 5) (j := 2) rfl (by omega), (ia.bk.rp (k := 5) (j := 2) rfl (by omega)), (S.bk.rp (k := 5) (j := 2) rfl (by omega)), ?_⟩
   obtain ⟨Sa, oc, hp⟩ := bsome hp
   refine s_lTo (r := d.Size) Qa.pre  oc fun cd pc => ?_
   obtain ⟨qc, aa⟩ := Qa.call pc oa
   have sc := lc.k aa
   have tc := nc.k aa
   have qa := Ra.k aa
   have uc := pa.k aa
   have b := b.k aa
   refine ⟨_, _, rfl, (uc.bk.rc rfl), (by rw [show cmC _ = true from cmC_of (b.noFn)]; exact (qa.bk.rc rfl)), ?_⟩
   obtain ⟨vc, hp⟩ := gd_some hp
   intro dd Ta
   refine ⟨(by rw [show cmC _ = true from cmC_of (b.noFn)]; exact (qa.bk.ext (Bk.new Ta).2).rc rfl), ?_⟩
   obtain ⟨sa, wc, xc, yc, zc, ta, ua⟩ := b.app' ta35 qc (a := ({ X := Ma, Y := Pa, Hail := d.Hail, Size := Sa } : Crd)) (show Rp.rep (α := Crd) f _ ({ X := Ma, Y := Pa, Hail := d.Hail, Size := Sa } : Crd) from rfl) vc Ta
   have Ac := sc.k ta
   have Bc := tc.k ta
   have Cc := qa.k ta
   refine ⟨sa, wc, yc, ?_⟩
   refine ⟨trivial, ?_⟩
   obtain ⟨Dc, Ec, Fc, va, wa⟩ := Cc.sto1 zc 11 sa (by simp) rfl
   replace wa : Lb _ _ _ _ _ _ _ [(Il p), (Il q), (Il t), (Il u), (Il x), (Il y), (Il z), (Il D), (Il F), (Il G), (Il I), sa] := wa
   have Gc := Ac.k va
   have Hc := Bc.k va
   have ua := ua.k va
   refine ⟨Dc, Ec, ?_⟩
   refine gdi hp fun Ic hp => ?_
   exact Ib _ _ _ _ _ _ _ _ _ _ _ _ _ _ _ xc Fc Gc Hc wa ua hp
 exact hgo _ _ _ _ _ _ _ _ _ _ _ _ _ _ _ _ J Hb n P O (Ow.nil _ _ _ _ _) hp
theorem s_lThin {s : Stm} {ca111 : C} {m f : M} {Q : V → M → Prop} {rz : Bool} (hS : Pre f m) (ha111 : Sl f ca111 s.Cards) (hp : plThin s = some rz) (hq : ∀ m', Ext m m' → Q (.c (.bool rz)) m') : Wc prog tbl 16 [.agg 12 [(Il s.Wide), (Il s.High), (Il s.Fall), (Il s.A.Lo), (Il s.A.Hi), (Il s.B.Lo), (Il s.B.Hi), (Il s.Half.Lo), (Il s.Half.Hi), (Il s.Peak.Lo), (Il s.Peak.Hi), ca111]] m Q := by
 have z := hS.st
 obtain ⟨D, _⟩ : ∃ τ : Nat → Nat, True := ⟨fun _ => 0, trivial⟩
 refine w16 ?_
 unfold plThin at hp
 intro I g
 obtain ⟨e, a, t, b⟩ := z.blk g D 1
 refine ⟨trivial, _, b.bk.rc rfl, ha111.isSl, ?_⟩
 try rw [ha111.slLen]
 refine ifd hp (fun h hp => ?_) fun h hp => ?_; rotate_left
 ·obtain rfl := Option.some.inj hp
  exact hq _ a.ext'
 refine ⟨_, _, _, _, _, _, _, _, _, _, _, _, b.bk.ra, ?_⟩
 obtain ⟨u, i, hp⟩ := bsome hp
 refine s_rFault (s := s) a.pre ha111 i fun F j => ?_
 obtain ⟨d, l⟩ := a.call j e
 have n := b.k l
 refine ⟨_, rfl, ?_⟩
 refine ifnd hp (fun o hp => ?_) fun o hp => ?_
 ·obtain rfl := Option.some.inj hp
  exact hq _ d.ext'
 refine ⟨_, _, _, _, _, _, _, _, _, _, _, _, n.bk.ra, ?_⟩
 obtain ⟨x, p, hp⟩ := bsome hp
 refine s_rMany (s := s) d.pre ha111 p fun G q => ?_
 obtain ⟨r, y⟩ := d.call q e
 refine ⟨_, rfl, ?_⟩
 obtain rfl := Option.some.inj hp
 exact hq _ r.ext'
theorem s_lReady {s : Stm} {ca111 : C} {m f : M} {Q : V → M → Prop} {rz : Bool} (hS : Pre f m) (ha111 : Sl f ca111 s.Cards) (hp : plReady s = some rz) (hq : ∀ m', Ext m m' → Q (.c (.bool rz)) m') : Wc prog tbl 49 [.agg 12 [(Il s.Wide), (Il s.High), (Il s.Fall), (Il s.A.Lo), (Il s.A.Hi), (Il s.B.Lo), (Il s.B.Hi), (Il s.Half.Lo), (Il s.Half.Hi), (Il s.Peak.Lo), (Il s.Peak.Hi), ca111]] m Q := by
 have y := hS.st
 obtain ⟨z, _⟩ : ∃ τ : Nat → Nat, True := ⟨fun _ => 0, trivial⟩
 refine w49 ?_
 unfold plReady at hp
 intro G g
 obtain ⟨b, d, r, e⟩ := y.blk g z 1
 refine ⟨_, _, _, _, _, _, _, _, _, _, _, _, e.bk.ra, ?_⟩
 obtain ⟨t, h, hp⟩ := bsome hp
 refine s_lThin (s := s) d.pre ha111 h fun D i => ?_
 obtain ⟨a, j⟩ := d.call i b
 have l := e.k j
 refine ⟨_, rfl, ?_⟩
 refine ifbb hp (fun n hp => ?_) fun n hp => ?_; rotate_left
 ·obtain rfl := Option.some.inj hp
  exact hq _ a.ext'
 refine ⟨_, _, _, _, _, _, _, _, _, _, _, _, l.bk.ra, ?_⟩
 obtain ⟨u, o, hp⟩ := bsome hp
 refine s_rFault (s := s) a.pre ha111 o fun F p => ?_
 obtain ⟨q, x⟩ := a.call p b
 refine ⟨_, rfl, ?_⟩
 obtain rfl := Option.some.inj hp
 exact hq _ q.ext'
theorem s_lBox {s : Stm} {w : Int} {ca111 : C} {m f : M} {Q : V → M → Prop} {rz : Rct} (hS : Pre f m) (_ha111 : Sl f ca111 s.Cards) (hp : plBox s w = some rz) (hq : ∀ m', Ext m m' → Q (.agg 4 [(Il rz.X.Lo), (Il rz.X.Hi), (Il rz.Y.Lo), (Il rz.Y.Hi)]) m') : Wc prog tbl 51 [.agg 12 [(Il s.Wide), (Il s.High), (Il s.Fall), (Il s.A.Lo), (Il s.A.Hi), (Il s.B.Lo), (Il s.B.Hi), (Il s.Half.Lo), (Il s.Half.Hi), (Il s.Peak.Lo), (Il s.Peak.Hi), ca111], .c (.int .u16 w)] m Q := by
 have S0 := hS.st
 obtain ⟨τ0, _⟩ : ∃ τ : Nat → Nat, True := ⟨fun _ => 0, trivial⟩
 refine w51 ?_
 unfold plBox at hp
 intro m0 b
 obtain ⟨d, e, ia, g⟩ := S0.blk b τ0 1
 intro m1 h
 obtain ⟨ja, i, j, l⟩ := e.blk h d 2
 have a := g.k j
 refine ⟨trivial, _, a.bk.rc rfl, ?_⟩
 refine gdi hp fun n hp => ?_
 refine gdi hp fun o hp => ?_
 refine gdi hp fun p hp => ?_
 refine gdi hp fun q hp => ?_
 refine gdi hp fun r hp => ?_
 obtain ⟨t, hp⟩ := gd_some hp
 refine ⟨t, trivial, _, a.bk.rc rfl, ?_⟩
 refine gdi hp fun u hp => ?_
 refine gdi hp fun x hp => ?_
 obtain ⟨y, hp⟩ := gd_some hp
 refine ⟨y, trivial, _, a.bk.rc rfl, ?_⟩
 refine gdi hp fun z hp => ?_
 refine gdi hp fun D hp => ?_
 refine gdi hp fun F hp => ?_
 refine gdi hp fun G hp => ?_
 refine gdi hp fun I hp => ?_
 refine gdi hp fun J hp => ?_
 refine gdi hp fun N hp => ?_
 obtain ⟨O, hp⟩ := gd_some hp
 refine ⟨O, trivial, _, a.bk.rc rfl, ?_⟩
 refine gdi hp fun P hp => ?_
 refine gdi hp fun S hp => ?_
 refine gdi hp fun T hp => ?_
 refine gdi hp fun Z hp => ?_
 refine gdi hp fun aa hp => ?_
 refine gdi hp fun ba hp => ?_
 refine gdi hp fun ca hp => ?_
 refine gdi hp fun da hp => ?_
 obtain ⟨ea, fa, ga, ka, ha⟩ := l.sto i [(Il ((wrapZ .i64 w) % s.Wide)), (Il (min (s.Wide - (1 : Int)) (((wrapZ .i64 w) % s.Wide) + (((wrapZ .i64 w) / (256 : Int)) % (4 : Int))))), (Il (((wrapZ .i64 w) / (16 : Int)) % s.High)), (Il (min (s.High - (1 : Int)) ((((wrapZ .i64 w) / (16 : Int)) % s.High) + (((wrapZ .i64 w) / (1024 : Int)) % (4 : Int)))))]
 refine ⟨ea, fa, ?_⟩
 refine ⟨_, _, _, _, ha.bk.ra, ?_⟩
 obtain rfl := Option.some.inj hp
 exact hq _ ga.ext'
theorem s_has {r : Rg} {n : Int} {m f : M} {Q : V → M → Prop} {rz : Bool} (hS : Pre f m)  (hp : phas r n = some rz) (hq : ∀ m', Ext m m' → Q (.c (.bool rz)) m') : Wc prog tbl 120 [.agg 2 [(Il r.Lo), (Il r.Hi)], .c (Il n)] m Q := by
 have i := hS.st
 obtain ⟨j, _⟩ : ∃ τ : Nat → Nat, True := ⟨fun _ => 0, trivial⟩
 refine w120 ?_
 unfold phas at hp
 intro l d
 obtain ⟨g, a, h, b⟩ := i.blk d j 1
 refine ⟨trivial, _, b.bk.rc rfl, ?_⟩
 refine ifd hp (fun e hp => ?_) fun e hp => ?_; rotate_left
 ·obtain rfl := Option.some.inj hp
  exact hq _ a.ext'
 refine ⟨trivial, _, b.bk.rc rfl, ?_⟩
 obtain rfl := Option.some.inj hp
 exact hq _ a.ext'
theorem s_count {r : Rg} {m f : M} {Q : V → M → Prop} {rz : Int} (hS : Pre f m)  (hp : pcount r = some rz) (hq : ∀ m', Ext m m' → Q (.c (Il rz)) m') : Wc prog tbl 125 [.agg 2 [(Il r.Lo), (Il r.Hi)]] m Q := by
 have j := hS.st
 obtain ⟨l, _⟩ : ∃ τ : Nat → Nat, True := ⟨fun _ => 0, trivial⟩
 refine w125 ?_
 unfold pcount at hp
 intro n b
 obtain ⟨h, d, i, a⟩ := j.blk b l 1
 refine ⟨trivial, _, a.bk.rc rfl, trivial, _, a.bk.rc rfl, ?_⟩
 refine gdi hp fun e hp => ?_
 refine gdi hp fun g hp => ?_
 obtain rfl := Option.some.inj hp
 exact hq _ d.ext'
theorem s_within {r : Rg} {low : Int} {high : Int} {m f : M} {Q : V → M → Prop} {rz : Bool} (hS : Pre f m)  (hp : pwithin r low high = some rz) (hq : ∀ m', Ext m m' → Q (.c (.bool rz)) m') : Wc prog tbl 122 [.agg 2 [(Il r.Lo), (Il r.Hi)], .c (Il low), .c (Il high)] m Q := by
 have j := hS.st
 obtain ⟨l, _⟩ : ∃ τ : Nat → Nat, True := ⟨fun _ => 0, trivial⟩
 refine w122 ?_
 unfold pwithin at hp
 intro n d
 obtain ⟨h, b, i, a⟩ := j.blk d l 1
 refine ⟨trivial, _, a.bk.rc rfl, ?_⟩
 refine ifd hp (fun e hp => ?_) fun e hp => ?_; rotate_left
 ·obtain rfl := Option.some.inj hp
  exact hq _ b.ext'
 refine ⟨trivial, _, a.bk.rc rfl, trivial, _, a.bk.rc rfl, ?_⟩
 refine ifd hp (fun g hp => ?_) fun g hp => ?_; rotate_left
 ·obtain rfl := Option.some.inj hp
  exact hq _ b.ext'
 refine ⟨trivial, _, a.bk.rc rfl, ?_⟩
 obtain rfl := Option.some.inj hp
 exact hq _ b.ext'
theorem s_rect {c : Crd} {m f : M} {Q : V → M → Prop} {rz : Rct} (hS : Pre f m)  (hp : prect c = some rz) (hq : ∀ m', Ext m m' → Q (.agg 4 [(Il rz.X.Lo), (Il rz.X.Hi), (Il rz.Y.Lo), (Il rz.Y.Hi)]) m') : Wc prog tbl 133 [.agg 7 [(Il c.X.Lo), (Il c.X.Hi), (Il c.Y.Lo), (Il c.Y.Hi), (.bool c.Hail), (Il c.Size.Lo), (Il c.Size.Hi)]] m Q := by
 have x := hS.st
 obtain ⟨y, _⟩ : ∃ τ : Nat → Nat, True := ⟨fun _ => 0, trivial⟩
 refine w133 ?_
 unfold prect at hp
 intro z b
 obtain ⟨d, e, s, g⟩ := x.blk b y 1
 intro A h
 obtain ⟨t, i, l, n⟩ := e.blk h d 2
 have a := g.k l
 refine ⟨trivial, _, _, a.bk.rp (k := 0) (j := 2) rfl (by omega), trivial, _, _, a.bk.rp (k := 2) (j := 2) rfl (by omega), ?_⟩
 obtain ⟨o, p, q, u, r⟩ := n.sto i [(Il c.X.Lo), (Il c.X.Hi), (Il c.Y.Lo), (Il c.Y.Hi)]
 refine ⟨o, p, ?_⟩
 refine ⟨_, _, _, _, r.bk.ra, ?_⟩
 obtain rfl := Option.some.inj hp
 exact hq _ q.ext'
theorem s_tooMany {s : Stm} {ca111 : C} {m f : M} {Q : V → M → Prop} {rz : Bool} (hS : Pre f m) (ha111 : Sl f ca111 s.Cards) (hp : ptooMany s = some rz) (hq : ∀ m', Ext m m' → Q (.c (.bool rz)) m') : Wc prog tbl 98 [.agg 12 [(Il s.Wide), (Il s.High), (Il s.Fall), (Il s.A.Lo), (Il s.A.Hi), (Il s.B.Lo), (Il s.B.Hi), (Il s.Half.Lo), (Il s.Half.Hi), (Il s.Peak.Lo), (Il s.Peak.Hi), ca111]] m Q := by
 have j := hS.st
 obtain ⟨l, _⟩ : ∃ τ : Nat → Nat, True := ⟨fun _ => 0, trivial⟩
 refine w98 ?_
 unfold ptooMany at hp
 intro n d
 obtain ⟨h, a, i, b⟩ := j.blk d l 1
 refine ⟨trivial, _, b.bk.rc rfl, ?_⟩
 refine ifd hp (fun e hp => ?_) fun e hp => ?_
 ·obtain rfl := Option.some.inj hp
  exact hq _ a.ext'
 refine ⟨trivial, _, b.bk.rc rfl, ?_⟩
 refine ifd hp (fun g hp => ?_) fun g hp => ?_
 ·obtain rfl := Option.some.inj hp
  exact hq _ a.ext'
 refine ⟨trivial, _, b.bk.rc rfl, ha111.isSl, ?_⟩
 try rw [ha111.slLen]
 obtain rfl := Option.some.inj hp
 exact hq _ a.ext'
theorem s_hasRect {s : Stm} {r : Rct} {ca111 : C} {m f : M} {Q : V → M → Prop} {rz : Bool} (hS : Pre f m) (_ha111 : Sl f ca111 s.Cards) (hp : phasRect s r = some rz) (hq : ∀ m', Ext m m' → Q (.c (.bool rz)) m') : Wc prog tbl 107 [.agg 12 [(Il s.Wide), (Il s.High), (Il s.Fall), (Il s.A.Lo), (Il s.A.Hi), (Il s.B.Lo), (Il s.B.Hi), (Il s.Half.Lo), (Il s.Half.Hi), (Il s.Peak.Lo), (Il s.Peak.Hi), ca111], .agg 4 [(Il r.X.Lo), (Il r.X.Hi), (Il r.Y.Lo), (Il r.Y.Hi)]] m Q := by
 have T := hS.st
 obtain ⟨Z, _⟩ : ∃ τ : Nat → Nat, True := ⟨fun _ => 0, trivial⟩
 refine w107 ?_
 unfold phasRect at hp
 intro m0 i
 obtain ⟨l, n, N, o⟩ := T.blk i Z 1
 intro m1 p
 obtain ⟨b, d, q, e⟩ := n.blk p l 2
 have g := o.k q
 refine ⟨trivial, _, _, e.bk.rp (k := 0) (j := 2) rfl (by omega), trivial, _, g.bk.rc rfl, ?_⟩
 refine gdi hp fun t hp => ?_
 obtain ⟨O, u, hp⟩ := bsome hp
 refine s_within (r := r.X) (low := (0 : Int)) (high := (s.Wide - (1 : Int))) d.pre  u fun m6 x => ?_
 obtain ⟨a, h⟩ := d.call x b
 have y := g.k h
 have z := e.k h
 refine ⟨_, rfl, ?_⟩
 refine ifbb hp (fun D hp => ?_) fun D hp => ?_; rotate_left
 ·obtain rfl := Option.some.inj hp
  exact hq _ a.ext'
 refine ⟨trivial, _, _, z.bk.rp (k := 2) (j := 2) rfl (by omega), trivial, _, y.bk.rc rfl, ?_⟩
 refine gdi hp fun F hp => ?_
 obtain ⟨P, G, hp⟩ := bsome hp
 refine s_within (r := r.Y) (low := (0 : Int)) (high := (s.High - (1 : Int))) a.pre  G fun aa I => ?_
 obtain ⟨J, S⟩ := a.call I b
 refine ⟨_, rfl, ?_⟩
 obtain rfl := Option.some.inj hp
 exact hq _ J.ext'
theorem s_validCard {w : Wk} {c : Crd} {ca111 ca112 : C} {m f : M} {Q : V → M → Prop} {rz : Bool} (hS : Pre f m) (ha111 : Sl f ca111 w.s.Cards) (_ha112 : Mi f ca112 w.right) (hp : pvalidCard w c = some rz) (hq : ∀ m', Ext m m' → Q (.c (.bool rz)) m') : Wc prog tbl 124 [.agg 13 [(Il w.s.Wide), (Il w.s.High), (Il w.s.Fall), (Il w.s.A.Lo), (Il w.s.A.Hi), (Il w.s.B.Lo), (Il w.s.B.Hi), (Il w.s.Half.Lo), (Il w.s.Half.Hi), (Il w.s.Peak.Lo), (Il w.s.Peak.Hi), ca111, ca112], .agg 7 [(Il c.X.Lo), (Il c.X.Hi), (Il c.Y.Lo), (Il c.Y.Hi), (.bool c.Hail), (Il c.Size.Lo), (Il c.Size.Hi)]] m Q := by
 have S0 := hS.st
 obtain ⟨τ0, _⟩ : ∃ τ : Nat → Nat, True := ⟨fun _ => 0, trivial⟩
 refine w124 ?_
 unfold pvalidCard at hp
 intro m0 p
 obtain ⟨q, t, ga, u⟩ := S0.blk p τ0 1
 intro m1 x
 obtain ⟨a, e, y, g⟩ := t.blk x q 2
 have h := u.k y
 refine ⟨trivial, _, _, _, _, _, _, _, _, _, _, _, _, h.bk.rp (k := 0) (j := 12) rfl (by omega), _, _, _, _, _, _, _, g.bk.ra, ?_⟩
 obtain ⟨z, D, hp⟩ := bsome hp
 refine s_rect (c := c) e.pre  D fun la F => ?_
 obtain ⟨i, l⟩ := e.call F a
 have G := h.k l
 have I := g.k l
 refine ⟨_, _, _, _, rfl, (by rw [show allS cmC _ = true from cmL_of (nf_cons rfl (nf_cons rfl (nf_cons rfl (nf_cons rfl (nf_cons rfl (nf_cons rfl (nf_cons rfl (nf_cons rfl (nf_cons rfl (nf_cons rfl (nf_cons rfl (nf_cons ha111.noFn nf_nil))))))))))))]; exact (G.bk.rp (k := 0) (j := 12) rfl (by omega))), ?_⟩
 obtain ⟨ha, J, hp⟩ := bsome hp
 refine s_hasRect (s := w.s) (r := z) i.pre ha111 J fun ma N => ?_
 obtain ⟨b, O⟩ := i.call N a
 have n := I.k O
 refine ⟨_, rfl, ?_⟩
 refine ifnb hp (fun P hp => ?_) fun P hp => ?_
 ·obtain rfl := Option.some.inj hp
  exact hq _ b.ext'
 refine ⟨trivial, _, _, n.bk.rp (k := 5) (j := 2) rfl (by omega), ?_⟩
 obtain ⟨ia, S, hp⟩ := bsome hp
 refine s_within (r := c.Size) (low := (0 : Int)) (high := (9 : Int)) b.pre  S fun na T => ?_
 obtain ⟨d, Z⟩ := b.call T a
 have o := n.k Z
 refine ⟨_, rfl, ?_⟩
 refine ifnb hp (fun aa hp => ?_) fun aa hp => ?_
 ·obtain rfl := Option.some.inj hp
  exact hq _ d.ext'
 refine ⟨trivial, _, o.bk.rc rfl, ?_⟩
 refine ifbb hp (fun ba hp => ?_) fun ba hp => ?_
 ·obtain rfl := Option.some.inj hp
  exact hq _ d.ext'
 refine ⟨trivial, _, _, o.bk.rp (k := 5) (j := 2) rfl (by omega), ?_⟩
 refine gdi hp fun ca hp => ?_
 refine gdi hp fun da hp => ?_
 refine gdi hp fun ea hp => ?_
 refine gdi hp fun fa hp => ?_
 obtain rfl := Option.some.inj hp
 exact hq _ d.ext'
theorem s_eachC1 {x : Crd} {passes : Crd → Option (Bool)} {b0 : Nat} {cb000 : C} {m f : M} {Q : V → M → Prop} {rz : Bool} (hS : Pre f m) (hb0 : Bk f b0 1 [cb000]) (hb000 : Fv_Crd_Bool f cb000 passes) (hp : peachC1 x passes = some rz) (hq : ∀ m', Ext m m' → Q (.c (.bool rz)) m') : Wc prog tbl 135 [.agg 7 [(Il x.X.Lo), (Il x.X.Hi), (Il x.Y.Lo), (Il x.Y.Hi), (.bool x.Hail), (Il x.Size.Lo), (Il x.Size.Hi)], .c (.ptr b0 0)] m Q := by
 have o := hS.st
 obtain ⟨p, _⟩ : ∃ τ : Nat → Nat, True := ⟨fun _ => 0, trivial⟩
 refine c135 ?_
 unfold peachC1 at hp
 intro r b
 obtain ⟨d, a, j, e⟩ := o.blk b p 1
 refine ⟨_, (hb0.sub a.sub).rc rfl, _, _, _, _, _, _, _, e.bk.ra, ?_⟩
 obtain ⟨l, g, hp⟩ := bsome hp
 refine hb000 _ _ _ _ _ (Sub.refl _) a.pre  g fun q h => ?_
 obtain ⟨i, n⟩ := a.call h d
 refine ⟨_, rfl, ?_⟩
 obtain rfl := Option.some.inj hp
 exact hq _ i.ext'
theorem s_indexC {l : List Crd} {p : Crd → Option (Bool)} {ca100 ca200 : C} {m f : M} {Q : V → M → Prop} {rz : Int} (hS : Pre f m) (ha100 : Sl f ca100 l) (ha200 : Fv_Crd_Bool f ca200 p) (hp : pindexC l p = some rz) (hq : ∀ m', Ext m m' → Q (.c (Il rz)) m') : Wc prog tbl 139 [.c ca100, .c ca200] m Q := by
 have F := hS.st
 obtain ⟨G, _⟩ : ∃ τ : Nat → Nat, True := ⟨fun _ => 0, trivial⟩
 refine w139 ?_
 unfold pindexC at hp
 refine ⟨ha100.isSl, ?_⟩
 intro I z
 have hgo : ∀ (b : Nat) (x : Int) (j : Int) (n : M) (d : Nat → Nat), St (Fm.of m) f f n → pindexC_L0 l p b j = some rz → I [.c (Il x), .c (Il j)] n := by
  intro b
  induction b with
  | zero => intro x j n d a hp; cases hp
  | succ b y =>
   intro x j n d a hp
   refine z _ _ _ ?_
   rw [pindexC_L0] at hp
   try rw [ha100.slLen]
   refine ifd hp (fun o hp => ?_) fun o hp => ?_; rotate_left
   ·obtain rfl := Option.some.inj hp
    exact hq _ a.ext'
   obtain ⟨A, e, hp⟩ := bsome hp
   obtain ⟨J, i, g, e⟩ := idx_some e
   obtain ⟨_, q⟩ := rd_Crd ha100 e
   refine ⟨J, i, (by first | exact g | (rw [ha100.slLen]; exact g)), _, _, _, _, _, _, _, (q _ a.sub).1, ?_⟩
   obtain ⟨B, r, hp⟩ := bsome hp
   refine ha200 _ _ _ _ _ (Sub.refl _) a.pre  r fun N s => ?_
   obtain ⟨h, D⟩ := a.call s d
   refine ⟨_, rfl, ?_⟩
   refine ifbb hp (fun t hp => ?_) fun t hp => ?_
   ·obtain rfl := Option.some.inj hp
    exact hq _ h.ext'
   refine gdi hp fun u hp => ?_
   exact y _ _ _ d h hp
 exact hgo _ _ _ _ G F hp
theorem s_containsC {l : List Crd} {p : Crd → Option (Bool)} {ca100 ca200 : C} {m f : M} {Q : V → M → Prop} {rz : Bool} (hS : Pre f m) (ha100 : Sl f ca100 l) (ha200 : Fv_Crd_Bool f ca200 p) (hp : pcontainsC l p = some rz) (hq : ∀ m', Ext m m' → Q (.c (.bool rz)) m') : Wc prog tbl 134 [.c ca100, .c ca200] m Q := by
 have e := hS.st
 obtain ⟨i, _⟩ : ∃ τ : Nat → Nat, True := ⟨fun _ => 0, trivial⟩
 refine w134 ?_
 unfold pcontainsC at hp
 obtain ⟨g, a, hp⟩ := bsome hp
 refine s_indexC (l := l) (p := p) e.pre ha100 ha200 a fun j b => ?_
 obtain ⟨d, h⟩ := e.call b i
 refine ⟨_, rfl, ?_⟩
 obtain rfl := Option.some.inj hp
 exact hq _ d.ext'
theorem s_eachC {l : List Crd} {passes : Crd → Option (Bool)} {ca100 ca200 : C} {m f : M} {Q : V → M → Prop} {rz : Bool} (hS : Pre f m) (ha100 : Sl f ca100 l) (ha200 : Fv_Crd_Bool f ca200 passes) (hp : peachC l passes = some rz) (hq : ∀ m', Ext m m' → Q (.c (.bool rz)) m') : Wc prog tbl 123 [.c ca100, .c ca200] m Q := by
 have z := hS.st
 obtain ⟨A, _⟩ : ∃ τ : Nat → Nat, True := ⟨fun _ => 0, trivial⟩
 refine w123 ?_
 unfold peachC at hp
 intro B h
 obtain ⟨i, j, u, n⟩ := z.blk h A 1
 obtain ⟨o, b, d, e⟩ := n.freeze j
 have g : Fv_Crd_Bool o ((C.fn (Fn.func 135) [] [(W.c (C0.ptr m.nxt 0))])) (fun a => peachC1 a passes) := by
  intro f' m' a r Q hs hpre  hg hq
  exact s_eachC1 hpre (e.sub hs) ((ha200.sub d.fs).sub hs) hg hq
 obtain ⟨x, q, hp⟩ := bsome hp
 refine s_containsC (l := l) (p := (fun a => peachC1 a passes)) b.pre (ha100.sub d.fs) g q fun D s => ?_
 obtain ⟨t, y⟩ := b.call s i
 refine ⟨_, rfl, ?_⟩
 obtain rfl := Option.some.inj hp
 exact hq _ t.ext'
theorem s_eachR1 {x : Rct} {passes : Rct → Option (Bool)} {b0 : Nat} {cb000 : C} {m f : M} {Q : V → M → Prop} {rz : Bool} (hS : Pre f m) (hb0 : Bk f b0 1 [cb000]) (hb000 : Fv_Rct_Bool f cb000 passes) (hp : peachR1 x passes = some rz) (hq : ∀ m', Ext m m' → Q (.c (.bool rz)) m') : Wc prog tbl 127 [.agg 4 [(Il x.X.Lo), (Il x.X.Hi), (Il x.Y.Lo), (Il x.Y.Hi)], .c (.ptr b0 0)] m Q := by
 have o := hS.st
 obtain ⟨p, _⟩ : ∃ τ : Nat → Nat, True := ⟨fun _ => 0, trivial⟩
 refine c127 ?_
 unfold peachR1 at hp
 intro q b
 obtain ⟨d, a, j, e⟩ := o.blk b p 1
 refine ⟨_, (hb0.sub a.sub).rc rfl, _, _, _, _, e.bk.ra, ?_⟩
 obtain ⟨l, g, hp⟩ := bsome hp
 refine hb000 _ _ _ _ _ (Sub.refl _) a.pre  g fun r h => ?_
 obtain ⟨i, n⟩ := a.call h d
 refine ⟨_, rfl, ?_⟩
 obtain rfl := Option.some.inj hp
 exact hq _ i.ext'
theorem s_indexR {l : List Rct} {p : Rct → Option (Bool)} {ca100 ca200 : C} {m f : M} {Q : V → M → Prop} {rz : Int} (hS : Pre f m) (ha100 : Sl f ca100 l) (ha200 : Fv_Rct_Bool f ca200 p) (hp : pindexR l p = some rz) (hq : ∀ m', Ext m m' → Q (.c (Il rz)) m') : Wc prog tbl 136 [.c ca100, .c ca200] m Q := by
 have F := hS.st
 obtain ⟨G, _⟩ : ∃ τ : Nat → Nat, True := ⟨fun _ => 0, trivial⟩
 refine w136 ?_
 unfold pindexR at hp
 refine ⟨ha100.isSl, ?_⟩
 intro I z
 have hgo : ∀ (b : Nat) (x : Int) (j : Int) (n : M) (d : Nat → Nat), St (Fm.of m) f f n → pindexR_L0 l p b j = some rz → I [.c (Il x), .c (Il j)] n := by
  intro b
  induction b with
  | zero => intro x j n d a hp; cases hp
  | succ b y =>
   intro x j n d a hp
   refine z _ _ _ ?_
   rw [pindexR_L0] at hp
   try rw [ha100.slLen]
   refine ifd hp (fun o hp => ?_) fun o hp => ?_; rotate_left
   ·obtain rfl := Option.some.inj hp
    exact hq _ a.ext'
   obtain ⟨A, e, hp⟩ := bsome hp
   obtain ⟨J, i, g, e⟩ := idx_some e
   obtain ⟨_, q⟩ := rd_Rct ha100 e
   refine ⟨J, i, (by first | exact g | (rw [ha100.slLen]; exact g)), _, _, _, _, (q _ a.sub).1, ?_⟩
   obtain ⟨B, r, hp⟩ := bsome hp
   refine ha200 _ _ _ _ _ (Sub.refl _) a.pre  r fun N s => ?_
   obtain ⟨h, D⟩ := a.call s d
   refine ⟨_, rfl, ?_⟩
   refine ifbb hp (fun t hp => ?_) fun t hp => ?_
   ·obtain rfl := Option.some.inj hp
    exact hq _ h.ext'
   refine gdi hp fun u hp => ?_
   exact y _ _ _ d h hp
 exact hgo _ _ _ _ G F hp
theorem s_containsR {l : List Rct} {p : Rct → Option (Bool)} {ca100 ca200 : C} {m f : M} {Q : V → M → Prop} {rz : Bool} (hS : Pre f m) (ha100 : Sl f ca100 l) (ha200 : Fv_Rct_Bool f ca200 p) (hp : pcontainsR l p = some rz) (hq : ∀ m', Ext m m' → Q (.c (.bool rz)) m') : Wc prog tbl 126 [.c ca100, .c ca200] m Q := by
 have e := hS.st
 obtain ⟨i, _⟩ : ∃ τ : Nat → Nat, True := ⟨fun _ => 0, trivial⟩
 refine w126 ?_
 unfold pcontainsR at hp
 obtain ⟨g, a, hp⟩ := bsome hp
 refine s_indexR (l := l) (p := p) e.pre ha100 ha200 a fun j b => ?_
 obtain ⟨d, h⟩ := e.call b i
 refine ⟨_, rfl, ?_⟩
 obtain rfl := Option.some.inj hp
 exact hq _ d.ext'
theorem s_eachR {l : List Rct} {passes : Rct → Option (Bool)} {ca100 ca200 : C} {m f : M} {Q : V → M → Prop} {rz : Bool} (hS : Pre f m) (ha100 : Sl f ca100 l) (ha200 : Fv_Rct_Bool f ca200 passes) (hp : peachR l passes = some rz) (hq : ∀ m', Ext m m' → Q (.c (.bool rz)) m') : Wc prog tbl 106 [.c ca100, .c ca200] m Q := by
 have z := hS.st
 obtain ⟨A, _⟩ : ∃ τ : Nat → Nat, True := ⟨fun _ => 0, trivial⟩
 refine w106 ?_
 unfold peachR at hp
 intro B h
 obtain ⟨i, j, u, n⟩ := z.blk h A 1
 obtain ⟨o, b, d, e⟩ := n.freeze j
 have g : Fv_Rct_Bool o ((C.fn (Fn.func 127) [] [(W.c (C0.ptr m.nxt 0))])) (fun a => peachR1 a passes) := by
  intro f' m' a r Q hs hpre  hg hq
  exact s_eachR1 hpre (e.sub hs) ((ha200.sub d.fs).sub hs) hg hq
 obtain ⟨x, q, hp⟩ := bsome hp
 refine s_containsR (l := l) (p := (fun a => peachR1 a passes)) b.pre (ha100.sub d.fs) g q fun D s => ?_
 obtain ⟨t, y⟩ := b.call s i
 refine ⟨_, rfl, ?_⟩
 obtain rfl := Option.some.inj hp
 exact hq _ t.ext'
theorem s_valid {w : Wk} {ca111 ca112 : C} {m f : M} {Q : V → M → Prop} {rz : Bool} (hS : Pre f m) (ha111 : Sl f ca111 w.s.Cards) (ha112 : Mi f ca112 w.right) (hp : pvalid w = some rz) (hq : ∀ m', Ext m m' → Q (.c (.bool rz)) m') : Wc prog tbl 99 [.agg 13 [(Il w.s.Wide), (Il w.s.High), (Il w.s.Fall), (Il w.s.A.Lo), (Il w.s.A.Hi), (Il w.s.B.Lo), (Il w.s.B.Hi), (Il w.s.Half.Lo), (Il w.s.Half.Hi), (Il w.s.Peak.Lo), (Il w.s.Peak.Hi), ca111, ca112]] m Q := by
 have S0 := hS.st
 obtain ⟨τ0, _⟩ : ∃ τ : Nat → Nat, True := ⟨fun _ => 0, trivial⟩
 refine w99 ?_
 unfold pvalid at hp
 intro m0 x
 obtain ⟨d, b, oa, a⟩ := S0.blk x τ0 1
 refine ⟨trivial, trivial, _, a.bk.rc rfl, ?_⟩
 refine ifd hp (fun y hp => ?_) fun y hp => ?_; rotate_left
 ·obtain rfl := Option.some.inj hp
  exact hq _ b.ext'
 refine ⟨trivial, trivial, _, a.bk.rc rfl, ?_⟩
 refine ifd hp (fun z hp => ?_) fun z hp => ?_; rotate_left
 ·obtain rfl := Option.some.inj hp
  exact hq _ b.ext'
 refine ⟨trivial, trivial, _, a.bk.rc rfl, ?_⟩
 refine ifd hp (fun D hp => ?_) fun D hp => ?_; rotate_left
 ·obtain rfl := Option.some.inj hp
  exact hq _ b.ext'
 refine ⟨trivial, trivial, _, a.bk.rc rfl, ?_⟩
 refine ifd hp (fun F hp => ?_) fun F hp => ?_; rotate_left
 ·obtain rfl := Option.some.inj hp
  exact hq _ b.ext'
 refine ⟨trivial, trivial, _, _, a.bk.rp (k := 3) (j := 2) rfl (by omega), trivial, trivial, _, a.bk.rc rfl, ?_⟩
 refine gdi hp fun G hp => ?_
 obtain ⟨pa, I, hp⟩ := bsome hp
 refine s_within (r := w.s.A) (low := (0 : Int)) (high := (w.s.High - (1 : Int))) b.pre  I fun m9 J => ?_
 obtain ⟨g, N⟩ := b.call J d
 have h := a.k N
 refine ⟨_, rfl, ?_⟩
 refine ifbb hp (fun O hp => ?_) fun O hp => ?_; rotate_left
 ·obtain rfl := Option.some.inj hp
  exact hq _ g.ext'
 refine ⟨trivial, trivial, _, _, h.bk.rp (k := 5) (j := 2) rfl (by omega), trivial, trivial, _, h.bk.rc rfl, ?_⟩
 refine gdi hp fun P hp => ?_
 obtain ⟨qa, S, hp⟩ := bsome hp
 refine s_within (r := w.s.B) (low := (0 : Int)) (high := (w.s.High - (1 : Int))) g.pre  S fun ya T => ?_
 obtain ⟨i, Y⟩ := g.call T d
 have p := h.k Y
 refine ⟨_, rfl, ?_⟩
 refine ifbb hp (fun Z hp => ?_) fun Z hp => ?_; rotate_left
 ·obtain rfl := Option.some.inj hp
  exact hq _ i.ext'
 refine ⟨trivial, trivial, _, _, p.bk.rp (k := 7) (j := 2) rfl (by omega), ?_⟩
 obtain ⟨sa, aa, hp⟩ := bsome hp
 refine s_within (r := w.s.Half) (low := (0 : Int)) (high := (3 : Int)) i.pre  aa fun za ba => ?_
 obtain ⟨n, ca⟩ := i.call ba d
 have q := p.k ca
 refine ⟨_, rfl, ?_⟩
 refine ifbb hp (fun da hp => ?_) fun da hp => ?_; rotate_left
 ·obtain rfl := Option.some.inj hp
  exact hq _ n.ext'
 refine ⟨trivial, trivial, _, _, q.bk.rp (k := 9) (j := 2) rfl (by omega), ?_⟩
 obtain ⟨ta, ea, hp⟩ := bsome hp
 refine s_within (r := w.s.Peak) (low := (1 : Int)) (high := (9 : Int)) n.pre  ea fun Aa fa => ?_
 obtain ⟨o, ga⟩ := n.call fa d
 have t := q.k ga
 refine ⟨_, rfl, ?_⟩
 refine ifbb hp (fun ha hp => ?_) fun ha hp => ?_; rotate_left
 ·obtain rfl := Option.some.inj hp
  exact hq _ o.ext'
 refine ⟨trivial, trivial, _, t.bk.rc rfl, _, _, _, _, _, _, _, _, _, _, _, _, _, t.bk.ra, ?_⟩
 obtain ⟨la, ma, na⟩ : ∃ ws, mapO vW [.agg 13 [(Il w.s.Wide), (Il w.s.High), (Il w.s.Fall), (Il w.s.A.Lo), (Il w.s.A.Hi), (Il w.s.B.Lo), (Il w.s.B.Hi), (Il w.s.Half.Lo), (Il w.s.Half.Hi), (Il w.s.Peak.Lo), (Il w.s.Peak.Hi), ca111, ca112]] = some ws ∧ mapS wV ws = [.agg 13 [(Il w.s.Wide), (Il w.s.High), (Il w.s.Fall), (Il w.s.A.Lo), (Il w.s.A.Hi), (Il w.s.B.Lo), (Il w.s.B.Hi), (Il w.s.Half.Lo), (Il w.s.Half.Hi), (Il w.s.Peak.Lo), (Il w.s.Peak.Hi), ca111, ca112]] := (vWs_cons (vW_agg (nf_cons rfl (nf_cons rfl (nf_cons rfl (nf_cons rfl (nf_cons rfl (nf_cons rfl (nf_cons rfl (nf_cons rfl (nf_cons rfl (nf_cons rfl (nf_cons rfl (nf_cons ha111.noFn (nf_cons ha112.noFn nf_nil)))))))))))))) vWs_nil)
 rw [ma, optB_some]
 have u : Fv_Crd_Bool f ((C.fn (Fn.func 124) la [])) (fun e => pvalidCard w e) := by
  intro f' m' e r Q hs hpre  hg hq
  show Wc prog tbl 124 (appS (mapS wV la) _) m' Q
  rw [na]
  exact s_validCard hpre (ha111.sub hs) (ha112.sub hs) hg hq
 obtain ⟨ua, ia, hp⟩ := bsome hp
 refine s_eachC (l := w.s.Cards) (passes := (fun e => pvalidCard w e)) o.pre ha111 u ia fun Ba ja => ?_
 obtain ⟨ka, va⟩ := o.call ja d
 refine ⟨_, rfl, ?_⟩
 obtain rfl := Option.some.inj hp
 exact hq _ ka.ext'
theorem s_inAll {s : Stm} {ca111 : C} {m f : M} {Q : V → M → Prop} {rz : Int} (hS : Pre f m) (_ha111 : Sl f ca111 s.Cards) (hp : pinAll s = some rz) (hq : ∀ m', Ext m m' → Q (.c (Il rz)) m') : Wc prog tbl 100 [.agg 12 [(Il s.Wide), (Il s.High), (Il s.Fall), (Il s.A.Lo), (Il s.A.Hi), (Il s.B.Lo), (Il s.B.Hi), (Il s.Half.Lo), (Il s.Half.Hi), (Il s.Peak.Lo), (Il s.Peak.Hi), ca111]] m Q := by
 have S0 := hS.st
 obtain ⟨τ0, _⟩ : ∃ τ : Nat → Nat, True := ⟨fun _ => 0, trivial⟩
 refine w100 ?_
 unfold pinAll at hp
 intro m0 n
 obtain ⟨b, g, ca, a⟩ := S0.blk n τ0 1
 refine ⟨trivial, _, _, a.bk.rp (k := 3) (j := 2) rfl (by omega), ?_⟩
 obtain ⟨da, o, hp⟩ := bsome hp
 refine s_count (r := s.A) g.pre  o fun m4 p => ?_
 obtain ⟨h, q⟩ := g.call p b
 have d := a.k q
 refine ⟨_, rfl, trivial, _, _, d.bk.rp (k := 5) (j := 2) rfl (by omega), (a.bk.rp (k := 5) (j := 2) rfl (by omega)), ?_⟩
 obtain ⟨ea, t, hp⟩ := bsome hp
 refine s_count (r := s.B) h.pre  t fun m9 u => ?_
 obtain ⟨i, x⟩ := h.call u b
 have e := d.k x
 refine ⟨_, rfl, ?_⟩
 refine gdi hp fun y hp => ?_
 refine gdi hp fun z hp => ?_
 obtain ⟨D, hp⟩ := gd_some hp
 refine ⟨D, trivial, _, _, e.bk.rp (k := 7) (j := 2) rfl (by omega), (d.bk.rp (k := 7) (j := 2) rfl (by omega)), (a.bk.rp (k := 7) (j := 2) rfl (by omega)), ?_⟩
 obtain ⟨fa, F, hp⟩ := bsome hp
 refine s_count (r := s.Half) i.pre  F fun ka G => ?_
 obtain ⟨l, I⟩ := i.call G b
 have J := e.k I
 refine ⟨_, rfl, ?_⟩
 refine gdi hp fun N hp => ?_
 refine gdi hp fun O hp => ?_
 obtain ⟨P, hp⟩ := gd_some hp
 refine ⟨P, trivial, _, _, J.bk.rp (k := 9) (j := 2) rfl (by omega), (e.bk.rp (k := 9) (j := 2) rfl (by omega)), (d.bk.rp (k := 9) (j := 2) rfl (by omega)), (a.bk.rp (k := 9) (j := 2) rfl (by omega)), ?_⟩
 obtain ⟨ga, S, hp⟩ := bsome hp
 refine s_count (r := s.Peak) l.pre  S fun la T => ?_
 obtain ⟨Y, ha⟩ := l.call T b
 refine ⟨_, rfl, ?_⟩
 refine gdi hp fun Z hp => ?_
 refine gdi hp fun aa hp => ?_
 refine gdi hp fun ba hp => ?_
 obtain rfl := Option.some.inj hp
 exact hq _ Y.ext'
theorem s_check {s : Stm} {ca111 : C} {m f : M} {Q : V → M → Prop} {rz : Int} (hS : Pre f m) (ha111 : Sl f ca111 s.Cards) (hp : pcheck s = some rz) (hq : ∀ m', Ext m m' → Q (.c (Il rz)) m') : Wc prog tbl 48 [.agg 12 [(Il s.Wide), (Il s.High), (Il s.Fall), (Il s.A.Lo), (Il s.A.Hi), (Il s.B.Lo), (Il s.B.Hi), (Il s.Half.Lo), (Il s.Half.Hi), (Il s.Peak.Lo), (Il s.Peak.Hi), ca111]] m Q := by
 have O := hS.st
 obtain ⟨P, _⟩ : ∃ τ : Nat → Nat, True := ⟨fun _ => 0, trivial⟩
 refine w48 ?_
 unfold pcheck at hp
 intro Z j
 obtain ⟨a, e, F, g⟩ := O.blk j P 1
 refine ⟨_, _, _, _, _, _, _, _, _, _, _, _, g.bk.ra, ?_⟩
 obtain ⟨G, l, hp⟩ := bsome hp
 refine s_tooMany (s := s) e.pre ha111 l fun S n => ?_
 obtain ⟨b, o⟩ := e.call n a
 have h := g.k o
 refine ⟨_, rfl, ?_⟩
 refine ifbb hp (fun p hp => ?_) fun p hp => ?_
 ·obtain rfl := Option.some.inj hp
  exact hq _ b.ext'
 refine ⟨_, _, _, _, _, _, _, _, _, _, _, _, h.bk.ra, ?_⟩
 obtain ⟨I, q, hp⟩ := bsome hp
 refine s_valid (w := ({ s := s, right := none } : Wk)) b.pre ha111 (show Mi _ .map0 none from rfl) q fun T r => ?_
 obtain ⟨d, t⟩ := b.call r a
 have u := h.k t
 refine ⟨_, rfl, ?_⟩
 refine ifnb hp (fun x hp => ?_) fun x hp => ?_
 ·obtain rfl := Option.some.inj hp
  exact hq _ d.ext'
 refine ⟨_, _, _, _, _, _, _, _, _, _, _, _, u.bk.ra, ?_⟩
 obtain ⟨J, y, hp⟩ := bsome hp
 refine s_inAll (s := s) d.pre ha111 y fun Y z => ?_
 obtain ⟨i, N⟩ := d.call z a
 refine ⟨_, rfl, ?_⟩
 refine ifd hp (fun D hp => ?_) fun D hp => ?_
 ·obtain rfl := Option.some.inj hp
  exact hq _ i.ext'
 obtain rfl := Option.some.inj hp
 exact hq _ i.ext'
theorem s_distance {s : Stm} {t : Trh} {x : Int} {y : Int} {ca111 : C} {m f : M} {Q : V → M → Prop} {rz : Int} (hS : Pre f m) (_ha111 : Sl f ca111 s.Cards) (hp : pdistance s t x y = some rz) (hq : ∀ m', Ext m m' → Q (.c (Il rz)) m') : Wc prog tbl 113 [.agg 12 [(Il s.Wide), (Il s.High), (Il s.Fall), (Il s.A.Lo), (Il s.A.Hi), (Il s.B.Lo), (Il s.B.Hi), (Il s.Half.Lo), (Il s.Half.Hi), (Il s.Peak.Lo), (Il s.Peak.Hi), ca111], .agg 4 [(Il t.A), (Il t.B), (Il t.Half), (Il t.Peak)], .c (Il x), .c (Il y)] m Q := by
 have T := hS.st
 obtain ⟨Y, _⟩ : ∃ τ : Nat → Nat, True := ⟨fun _ => 0, trivial⟩
 refine w113 ?_
 unfold pdistance at hp
 intro Z b
 obtain ⟨d, e, P, g⟩ := T.blk b Y 1
 intro m1 h
 obtain ⟨S, i, j, a⟩ := e.blk h d 2
 have l := g.k j
 refine ⟨trivial, _, l.bk.rc rfl, ?_⟩
 refine gdi hp fun n hp => ?_
 refine gdi hp fun o hp => ?_
 refine gdi hp fun p hp => ?_
 obtain ⟨q, hp⟩ := gd_some hp
 refine ⟨q, trivial, _, a.bk.rc rfl, ?_⟩
 refine gdi hp fun r hp => ?_
 refine gdi hp fun u hp => ?_
 refine gdi hp fun z hp => ?_
 obtain ⟨D, hp⟩ := gd_some hp
 refine ⟨D, trivial, _, a.bk.rc rfl, ?_⟩
 refine gdi hp fun F hp => ?_
 refine gdi hp fun G hp => ?_
 refine gdi hp fun I hp => ?_
 refine gdi hp fun J hp => ?_
 refine gdi hp fun N hp => ?_
 refine gdi hp fun O hp => ?_
 obtain rfl := Option.some.inj hp
 exact hq _ i.ext'
theorem s_hits {s : Stm} {t : Trh} {x : Int} {y : Int} {ca111 : C} {m f : M} {Q : V → M → Prop} {rz : Bool} (hS : Pre f m) (ha111 : Sl f ca111 s.Cards) (hp : phits s t x y = some rz) (hq : ∀ m', Ext m m' → Q (.c (.bool rz)) m') : Wc prog tbl 112 [.agg 12 [(Il s.Wide), (Il s.High), (Il s.Fall), (Il s.A.Lo), (Il s.A.Hi), (Il s.B.Lo), (Il s.B.Hi), (Il s.Half.Lo), (Il s.Half.Hi), (Il s.Peak.Lo), (Il s.Peak.Hi), ca111], .agg 4 [(Il t.A), (Il t.B), (Il t.Half), (Il t.Peak)], .c (Il x), .c (Il y)] m Q := by
 have O := hS.st
 obtain ⟨P, _⟩ : ∃ τ : Nat → Nat, True := ⟨fun _ => 0, trivial⟩
 refine w112 ?_
 unfold phits at hp
 intro T g
 obtain ⟨h, i, J, j⟩ := O.blk g P 1
 intro Y l
 obtain ⟨n, d, o, a⟩ := i.blk l h 2
 have b := j.k o
 refine ⟨_, _, _, _, _, _, _, _, _, _, _, _, b.bk.ra, _, _, _, _, a.bk.ra, ?_⟩
 obtain ⟨N, p, hp⟩ := bsome hp
 refine s_distance (s := s) (t := t) (x := x) (y := y) d.pre ha111 p fun S q => ?_
 obtain ⟨r, e⟩ := d.call q n
 have u := b.k e
 have z := a.k e
 refine ⟨_, rfl, trivial, _, u.bk.rc rfl, (b.bk.rc rfl), ?_⟩
 obtain ⟨D, hp⟩ := gd_some hp
 refine ⟨D, trivial, _, z.bk.rc rfl, (a.bk.rc rfl), ?_⟩
 refine gdi hp fun F hp => ?_
 refine gdi hp fun G hp => ?_
 refine gdi hp fun I hp => ?_
 obtain rfl := Option.some.inj hp
 exact hq _ r.ext'
theorem s_size {s : Stm} {t : Trh} {x : Int} {y : Int} {ca111 : C} {m f : M} {Q : V → M → Prop} {rz : Int} (hS : Pre f m) (ha111 : Sl f ca111 s.Cards) (hp : psize s t x y = some rz) (hq : ∀ m', Ext m m' → Q (.c (Il rz)) m') : Wc prog tbl 75 [.agg 12 [(Il s.Wide), (Il s.High), (Il s.Fall), (Il s.A.Lo), (Il s.A.Hi), (Il s.B.Lo), (Il s.B.Hi), (Il s.Half.Lo), (Il s.Half.Hi), (Il s.Peak.Lo), (Il s.Peak.Hi), ca111], .agg 4 [(Il t.A), (Il t.B), (Il t.Half), (Il t.Peak)], .c (Il x), .c (Il y)] m Q := by
 have S0 := hS.st
 obtain ⟨τ0, _⟩ : ∃ τ : Nat → Nat, True := ⟨fun _ => 0, trivial⟩
 refine w75 ?_
 unfold psize at hp
 intro m0 o
 obtain ⟨p, q, da, r⟩ := S0.blk o τ0 1
 intro m1 u
 obtain ⟨e, g, z, h⟩ := q.blk u p 2
 have i := r.k z
 refine ⟨_, _, _, _, _, _, _, _, _, _, _, _, i.bk.ra, _, _, _, _, h.bk.ra, ?_⟩
 obtain ⟨ea, D, hp⟩ := bsome hp
 refine s_hits (s := s) (t := t) (x := x) (y := y) g.pre ha111 D fun ia F => ?_
 obtain ⟨b, j⟩ := g.call F e
 have a := i.k j
 have d := h.k j
 refine ⟨_, rfl, ?_⟩
 refine ifnb hp (fun G hp => ?_) fun G hp => ?_
 ·obtain rfl := Option.some.inj hp
  exact hq _ b.ext'
 refine ⟨trivial, _, d.bk.rc rfl, trivial, _, a.bk.rc rfl, _, _, _, _, _, _, _, _, _, _, _, _, a.bk.ra, _, _, _, _, d.bk.ra, ?_⟩
 obtain ⟨fa, I, hp⟩ := bsome hp
 refine s_distance (s := s) (t := t) (x := x) (y := y) b.pre ha111 I fun ja J => ?_
 obtain ⟨N, l⟩ := b.call J e
 have n := a.k l
 have O := d.k l
 refine ⟨_, rfl, (n.bk.rc rfl), (O.bk.rc rfl), trivial, _, n.bk.rc rfl, (a.bk.rc rfl), ?_⟩
 refine gdi hp fun P hp => ?_
 refine gdi hp fun S hp => ?_
 refine gdi hp fun T hp => ?_
 refine gdi hp fun Y hp => ?_
 refine gdi hp fun Z hp => ?_
 refine gdi hp fun aa hp => ?_
 refine gdi hp fun ba hp => ?_
 refine gdi hp fun ca hp => ?_
 obtain rfl := Option.some.inj hp
 exact hq _ N.ext'
theorem s_numbersI {r : Rg} {b0 : Nat} {m f : M} {F : Fm} {n0 ly : Nat} {xs : List (List V)} {I : Nat → (Nat → Prop) → M → Prop} {E : (Nat → Prop) → M → Prop} {S1 : Nat → Prop} {Q : V → M → Prop} {rz : List Int} {τ0 : Nat → Nat} (hc : Client prog tbl n0 ly xs I E) (S0 : St F f f m) (Y0 : Yg n0 (YJ xs I rz) S1 F f τ0 m) (hb0 : Bk f b0 2 [(.int .i64 r.Lo), (.int .i64 r.Hi)]) (hp : pnumbersI r = some rz) (hq : ∀ v m' f' τ' S', St F f f' m' → (Yg n0 (YJ xs I ([] : List Int)) S' F f' τ' m' ∨ Yg n0 E S' F f' τ' m') → Q v m') : Wc prog tbl 129 [.c (.fn (.yield ly) [] []), .c (.ptr b0 0)] m Q := by
 refine c129 ?_
 unfold pnumbersI at hp
 refine ⟨_, _, (hb0.sub S0.sub).ra, ?_⟩
 obtain ⟨r2718, g2719, hp⟩ := bsome hp
 refine s_count (r := r) S0.pre  g2719 fun m3 e2722 => ?_
 obtain ⟨S2720, k2721⟩ := S0.call e2722 τ0
 have Y2723 := Y0.k k2721 (by decide)
 refine ⟨_, rfl, ?_⟩
 intro R5 hR5
 have hgo : ∀ (d2729 : Nat) (x6 : Int) (r2726 : List Int) (s2727 : Nat → Prop) (m7 : M) (τ2725 : Nat → Nat), St F f f m7 → Yg n0 (YJ xs I r2726) s2727 F f τ2725 m7 → pnumbersI_L0 r r2718 d2729 x6 = some r2726 → R5 [.c (.int .i64 x6)] m7 := by
  intro d2729
  induction d2729 with
  | zero => intro x6 r2726 s2727 m7 τ2725 S2724 Y2728 hp; cases hp
  | succ d2729 ihR5 =>
   intro x6 r2726 s2727 m7 τ2725 S2724 Y2728 hp
   refine hR5 _ _ ?_
   rw [pnumbersI_L0] at hp
   refine ifd hp (fun q2730 hp => ?_) fun q2730 hp => ?_; rotate_left
   ·obtain rfl := Option.some.inj hp
    exact hq _ _ _ _ _ S2724 (.inl Y2728)
   refine ⟨trivial, _, (hb0.sub S2724.sub).rc rfl, ?_⟩
   obtain ⟨g2731, hp⟩ := gd_some hp
   refine ⟨g2731, ?_⟩
   obtain ⟨r2732, hp2734, hz2733⟩ := bsome hp
   clear hp
   obtain rfl := Option.some.inj hz2733
   have hp := hp2734
   show Wy prog tbl ly (IV.encs ((r.Lo + x6) : Int)) _ _
   refine Yg.yield hc S2724 Y2728 ?_ ?_
   ·intro m10 τ2735 s2739 S2736 k2737 Y2738
    refine ⟨_, rfl, ?_⟩
    refine ifB_f' ?_
    obtain ⟨g2740, hp⟩ := gd_some hp
    refine ⟨g2740, ?_⟩
    exact ihR5 _ _ _ _ τ2735 S2736 Y2738 hp
   ·intro m10 τ2741 s2745 S2742 k2743 Y2744
    refine ⟨_, rfl, ?_⟩
    refine ifB_t' ?_
    exact hq _ _ _ _ _ S2742 (.inr Y2744)
 exact hgo _ _ _ _ _ τ0 S2720 Y2723 hp
theorem s_numbers {r : Rg} {m f : M} {Q : V → M → Prop} {rz : List Int} (hS : Pre f m)  (hp : pnumbers r = some rz) (hq : ∀ m' f' c0, Grw m f m' f' → It prog tbl f' c0 rz → Q (.c c0) m') : Wc prog tbl 115 [.agg 2 [(Il r.Lo), (Il r.Hi)]] m Q := by
 have q := hS.st
 obtain ⟨s, _⟩ : ∃ τ : Nat → Nat, True := ⟨fun _ => 0, trivial⟩
 refine w115 ?_
 unfold pnumbers at hp
 intro t g
 obtain ⟨n, h, o, i⟩ := q.blk g s 1
 obtain ⟨b, a, p, d⟩ := i.freeze h
 obtain ⟨j, l, hp⟩ := bsome hp
 have e : It prog tbl b ((C.fn (Fn.func 129) [] [(W.c (C0.ptr m.nxt 0))])) j := it_of a.fz a.fv fun u ly I E hc x y z A hS hY Q hq => s_numbersI hc hS hY d l hq
 obtain rfl := Option.some.inj hp
 exact hq _ b (C.fn (Fn.func 129) [] [(W.c (C0.ptr m.nxt 0))]) a.grw e
theorem s_placesI {r : Rct} {b0 : Nat} {m f : M} {F : Fm} {n0 ly : Nat} {xs : List (List V)} {I : Nat → (Nat → Prop) → M → Prop} {E : (Nat → Prop) → M → Prop} {S1 : Nat → Prop} {Q : V → M → Prop} {rz : List (Int × Int)} {τ0 : Nat → Nat} (hc : Client prog tbl n0 ly xs I E) (S0 : St F f f m) (Y0 : Yg n0 (YJ xs I rz) S1 F f τ0 m) (hb0 : Bk f b0 4 [(.int .i64 r.X.Lo), (.int .i64 r.X.Hi), (.int .i64 r.Y.Lo), (.int .i64 r.Y.Hi)]) (hp : pplacesI r = some rz) (hq : ∀ v m' f' τ' S', St F f f' m' → (Yg n0 (YJ xs I ([] : List (Int × Int))) S' F f' τ' m' ∨ Yg n0 E S' F f' τ' m') → Q v m') : Wc prog tbl 114 [.c (.fn (.yield ly) [] []), .c (.ptr b0 0)] m Q := by
 refine c114 ?_
 unfold pplacesI at hp
 intro m0 e2758
 obtain ⟨τ2761, S2759, k2760, L2762⟩ := S0.blk e2758 τ0 1
 have Y2763 := Y0.k k2760 (by decide)
 refine ⟨trivial, _, _, (hb0.sub S2759.sub).rp (k := 0) (j := 2) rfl (by omega), ?_⟩
 obtain ⟨r2764, g2765, hp⟩ := bsome hp
 refine s_numbers (r := r.X) S2759.pre  g2765 fun m4 f2769 c2770 e2768 h2771 => ?_
 obtain ⟨S2766, k2767⟩ := S2759.callG e2768 τ2761
 have L2772 := L2762.k k2767 (by decide)
 have Y2773 := Y2763.k k2767 (by decide)
 refine ⟨_, rfl, ?_⟩
 refine range_st (α := Int) S2766 h2771 (σ := (List (Int × Int)) × (Nat → Prop) × Bool) 2 (fun st bb => (False ∨ (st.2.1 bb))) (fun st gG gF gT gM => (Lb gG gF gT gM 1 m.nxt 1 [(.fn (.yield ly) [] [])]) ∧ (Yg n0 (YD xs I E st.2.2 st.1) st.2.1 gG gF gT gM)) (fun rr_ st => st.2.2 = false ∧ pplacesI_L0 r rr_ = some st.1) (fun ex st => (match ex with | .ret => st.2.2 = true ∨ (st.2.2 = false ∧ (0 : Nat) = 0 ∧ pplacesI_L0_xret = some st.1) | _ => False)) (fun st => (Gud.and (Gud.lb L2772.bk.lt (by decide)) (Gud.yg Y2773.n (by decide)))) (st0 := (rz, S1, false)) (τ := τ2761) ⟨L2772, Y2773⟩ ⟨rfl, hp⟩ ?_ ?_ ?_ ?_
 ·intro a2783 q2784 st f2785 τ2786 m7 F2787 o2788 Ok2789 en2790 Kn2791 S2792 s2793 hA rk2794 hp he2795 hk2796
  obtain ⟨r2775, s2776, d2777⟩ := st
  obtain ⟨hdd, hp⟩ := hp
  replace hdd : d2777 = false := hdd
  subst hdd
  obtain ⟨L2774, Y2778⟩ := hA
  replace L2774 : Lb F2787 f2785 τ2786 m7 1 m.nxt 1 [(.fn (.yield ly) [] [])] := L2774
  replace Y2778 : Yg n0 (YJ xs I r2775) s2776 F2787 f2785 τ2786 m7 := Y2778
  replace hp : pplacesI_L0 r (a2783 :: q2784) = some r2775 := hp
  rw [pplacesI_L0] at hp
  refine ⟨_, rfl, ?_⟩
  intro m11 e2797
  obtain ⟨τ2800, S2798, k2799, L2801⟩ := S2792.blk e2797 τ2786 3
  have L2802 := L2774.k k2799 (by decide)
  have Y2803 := Y2778.k k2799 (by decide)
  have rk2804 := rk2794.k k2799 (by decide)
  obtain ⟨m2808, e2807, S2805, k2806, L2809⟩ := L2801.sto S2798 [(.int .i64 a2783)]
  have L2810 := L2802.k k2806 (by decide)
  have Y2811 := Y2803.k k2806 (by decide)
  have rk2812 := rk2804.k k2806 (by decide)
  refine ⟨m2808, e2807, ?_⟩
  refine he2795 _ _ _ _ S2805 rk2812 fun m13 o2816 S2813 k2814 rk2815 hO2817 => ?_
  have L2818 := L2810.k k2814 (by decide)
  have L2819 := L2809.k k2814 (by decide)
  have Y2820 := Y2811.k k2814 (by decide)
  refine ⟨trivial, _, _, (hb0.sub (Sub.trans (Sub.trans k2767.fs s2793) S2813.sub)).rp (k := 2) (j := 2) rfl (by omega), ?_⟩
  obtain ⟨r2821, g2822, hp⟩ := bsome hp
  refine s_numbers (r := r.Y) S2813.pre  g2822 fun m17 f2826 c2827 e2825 h2828 => ?_
  obtain ⟨S2823, k2824⟩ := S2813.callG e2825 τ2800
  have L2829 := L2818.k k2824 (by decide)
  have L2830 := L2819.k k2824 (by decide)
  have Y2831 := Y2820.k k2824 (by decide)
  have rk2832 := rk2815.k k2824 (by decide)
  refine ⟨_, rfl, ?_⟩
  refine range_st (α := Int) S2823 h2828 (σ := (List (Int × Int)) × (Nat → Prop) × Bool) 4 (fun st bb => (False ∨ (False ∨ ((st.2.1 bb) ∨ False)))) (fun st gG gF gT gM => (Lb gG gF gT gM 1 m.nxt 1 [(.fn (.yield ly) [] [])]) ∧ (Lb gG gF gT gM 3 m7.nxt 1 [(.int .i64 a2783)]) ∧ (Yg n0 (YD xs I E st.2.2 st.1) st.2.1 gG gF gT gM) ∧ (Rk gG gF gT gM 2 (m4).nxt o2816)) (fun rr_ st => st.2.2 = false ∧ pplacesI_L1 a2783 ((pplacesI_L0 r q2784)) rr_ = some st.1) (fun ex st => (match ex with | .ret => st.2.2 = true ∨ (st.2.2 = false ∧ (0 : Nat) = 0 ∧ pplacesI_L1_xret = some st.1) | _ => False)) (fun st => (Gud.and (Gud.lb L2829.bk.lt (by decide)) (Gud.and (Gud.lb L2830.bk.lt (by decide)) (Gud.and (Gud.yg Y2831.n (by decide)) (Gud.rk rk2832.lt (by decide)))))) (st0 := (r2775, s2776, false)) (τ := τ2800) ⟨L2829, L2830, Y2831, rk2832⟩ ⟨rfl, hp⟩ ?_ ?_ ?_ ?_
  ·intro a2844 q2845 st f2846 τ2847 m20 F2848 o2849 Ok2850 en2851 Kn2852 S2853 s2854 hA rk2855 hp he2856 hk2857
   obtain ⟨r2835, s2836, d2837⟩ := st
   obtain ⟨hdd, hp⟩ := hp
   replace hdd : d2837 = false := hdd
   subst hdd
   obtain ⟨L2833, L2834, Y2838, rk2839⟩ := hA
   replace L2833 : Lb F2848 f2846 τ2847 m20 1 m.nxt 1 [(.fn (.yield ly) [] [])] := L2833
   replace L2834 : Lb F2848 f2846 τ2847 m20 3 m7.nxt 1 [(.int .i64 a2783)] := L2834
   replace Y2838 : Yg n0 (YJ xs I r2835) s2836 F2848 f2846 τ2847 m20 := Y2838
   replace rk2839 : Rk F2848 f2846 τ2847 m20 2 (m4).nxt o2816 := rk2839
   replace hp : pplacesI_L1 a2783 ((pplacesI_L0 r q2784)) (a2844 :: q2845) = some r2835 := hp
   rw [pplacesI_L1] at hp
   refine ⟨_, rfl, ?_⟩
   refine he2856 _ _ _ _ S2853 rk2855 fun m24 o2861 S2858 k2859 rk2860 hO2862 => ?_
   have L2863 := L2833.k k2859 (by decide)
   have L2864 := L2834.k k2859 (by decide)
   have Y2865 := Y2838.k k2859 (by decide)
   have rk2866 := rk2839.k k2859 (by decide)
   refine ⟨_, L2863.bk.rc rfl, _, L2864.bk.rc rfl, ?_⟩
   obtain ⟨r2867, hp2869, hz2868⟩ := bsome hp
   clear hp
   obtain rfl := Option.some.inj hz2868
   have hp := hp2869
   show Wy prog tbl ly (IV.encs ((a2783, a2844) : Int × Int)) _ _
   refine Yg.yield hc S2858 Y2865 ?_ ?_
   ·intro m28 τ2870 s2874 S2871 k2872 Y2873
    have L2875 := L2863.k k2872 (by decide)
    have L2876 := L2864.k k2872 (by decide)
    have rk2877 := rk2860.k k2872 (by decide)
    have rk2878 := rk2866.k k2872 (by decide)
    refine ⟨_, rfl, ?_⟩
    refine ifB_f' ?_
    exact hk2857 .nrm (r2867, s2874, false) _ _ _ _ S2871 ⟨L2875, L2876, Y2873, rk2878⟩ rk2877 hO2862 ⟨rfl, hp⟩
   ·intro m28 τ2879 s2883 S2880 k2881 Y2882
    have L2884 := L2863.k k2881 (by decide)
    have L2885 := L2864.k k2881 (by decide)
    have rk2886 := rk2860.k k2881 (by decide)
    have rk2887 := rk2866.k k2881 (by decide)
    refine ⟨_, rfl, ?_⟩
    refine ifB_t' ?_
    exact hk2857 .ret ([], s2883, true) _ _ _ _ S2880 ⟨L2884, L2885, Y2882, rk2887⟩ rk2886 hO2862 (.inl rfl)
  ·intro st f2888 τ2890 m30 S2891 s2889 hA hp
   obtain ⟨r2835, s2836, d2837⟩ := st
   obtain ⟨hdd, hp⟩ := hp
   replace hdd : d2837 = false := hdd
   subst hdd
   replace hp : pplacesI_L1 a2783 ((pplacesI_L0 r q2784)) [] = some r2835 := hp
   obtain ⟨L2833, L2834, Y2838, rk2839⟩ := hA
   replace L2833 : Lb F2787 f2888 τ2890 m30 1 m.nxt 1 [(.fn (.yield ly) [] [])] := L2833
   replace L2834 : Lb F2787 f2888 τ2890 m30 3 m7.nxt 1 [(.int .i64 a2783)] := L2834
   replace Y2838 : Yg n0 (YJ xs I r2835) s2836 F2787 f2888 τ2890 m30 := Y2838
   replace rk2839 : Rk F2787 f2888 τ2890 m30 2 (m4).nxt o2816 := rk2839
   rw [pplacesI_L1] at hp
   exact hk2796 .nrm (r2835, s2836, false) _ _ _ _ S2891 ⟨L2833, Y2838⟩ rk2839 hO2817 ⟨rfl, hp⟩
  ·intro id st _ _ _ _ _ _ hn; first | exact hn.elim | (cases hn)
  ·intro st f2840 τ2842 m31 S2843 s2841 hA hn
   obtain ⟨r2835, s2836, d2837⟩ := st
   rcases hn with hd | ⟨hd, hid, hp⟩
   ·replace hd : d2837 = true := hd
    subst hd
    obtain ⟨L2833, L2834, Y2838, rk2839⟩ := hA
    replace L2833 : Lb F2787 f2840 τ2842 m31 1 m.nxt 1 [(.fn (.yield ly) [] [])] := L2833
    replace L2834 : Lb F2787 f2840 τ2842 m31 3 m7.nxt 1 [(.int .i64 a2783)] := L2834
    replace Y2838 : Yg n0 E s2836 F2787 f2840 τ2842 m31 := Y2838
    replace rk2839 : Rk F2787 f2840 τ2842 m31 2 (m4).nxt o2816 := rk2839
    exact hk2796 .ret ([], s2836, true) _ _ _ _ S2843 ⟨L2833, Y2838⟩ rk2839 hO2817 (.inl rfl)
   replace hd : d2837 = false := hd
   subst hd
   replace hp : pplacesI_L1_xret = some r2835 := hp
   unfold pplacesI_L1_xret at hp
   obtain ⟨L2833, L2834, Y2838, rk2839⟩ := hA
   replace L2833 : Lb F2787 f2840 τ2842 m31 1 m.nxt 1 [(.fn (.yield ly) [] [])] := L2833
   replace L2834 : Lb F2787 f2840 τ2842 m31 3 m7.nxt 1 [(.int .i64 a2783)] := L2834
   replace Y2838 : Yg n0 (YJ xs I r2835) s2836 F2787 f2840 τ2842 m31 := Y2838
   replace rk2839 : Rk F2787 f2840 τ2842 m31 2 (m4).nxt o2816 := rk2839
   exact hk2796 .ret (r2835, s2836, false) _ _ _ _ S2843 ⟨L2833, Y2838⟩ rk2839 hO2817 (.inr ⟨rfl, rfl, hp⟩)
 ·intro st f2892 τ2894 m32 S2895 s2893 hA hp
  obtain ⟨r2775, s2776, d2777⟩ := st
  obtain ⟨hdd, hp⟩ := hp
  replace hdd : d2777 = false := hdd
  subst hdd
  replace hp : pplacesI_L0 r [] = some r2775 := hp
  obtain ⟨L2774, Y2778⟩ := hA
  replace L2774 : Lb F f2892 τ2894 m32 1 m.nxt 1 [(.fn (.yield ly) [] [])] := L2774
  replace Y2778 : Yg n0 (YJ xs I r2775) s2776 F f2892 τ2894 m32 := Y2778
  rw [pplacesI_L0] at hp
  obtain rfl := Option.some.inj hp
  exact hq _ _ _ _ _ S2895 (.inl Y2778)
 ·intro id st _ _ _ _ _ _ hn; first | exact hn.elim | (cases hn)
 ·intro st f2779 τ2781 m33 S2782 s2780 hA hn
  obtain ⟨r2775, s2776, d2777⟩ := st
  rcases hn with hd | ⟨hd, hid, hp⟩
  ·replace hd : d2777 = true := hd
   subst hd
   obtain ⟨L2774, Y2778⟩ := hA
   replace L2774 : Lb F f2779 τ2781 m33 1 m.nxt 1 [(.fn (.yield ly) [] [])] := L2774
   replace Y2778 : Yg n0 E s2776 F f2779 τ2781 m33 := Y2778
   exact hq _ _ _ _ _ S2782 (.inr Y2778)
  replace hd : d2777 = false := hd
  subst hd
  replace hp : pplacesI_L0_xret = some r2775 := hp
  unfold pplacesI_L0_xret at hp
  obtain ⟨L2774, Y2778⟩ := hA
  replace L2774 : Lb F f2779 τ2781 m33 1 m.nxt 1 [(.fn (.yield ly) [] [])] := L2774
  replace Y2778 : Yg n0 (YJ xs I r2775) s2776 F f2779 τ2781 m33 := Y2778
  obtain rfl := Option.some.inj hp
  exact hq _ _ _ _ _ S2782 (.inl Y2778)
theorem s_places {r : Rct} {m f : M} {Q : V → M → Prop} {rz : List (Int × Int)} (hS : Pre f m)  (hp : pplaces r = some rz) (hq : ∀ m' f' c0, Grw m f m' f' → It prog tbl f' c0 rz → Q (.c c0) m') : Wc prog tbl 78 [.agg 4 [(Il r.X.Lo), (Il r.X.Hi), (Il r.Y.Lo), (Il r.Y.Hi)]] m Q := by
 have q := hS.st
 obtain ⟨s, _⟩ : ∃ τ : Nat → Nat, True := ⟨fun _ => 0, trivial⟩
 refine w78 ?_
 unfold pplaces at hp
 intro t g
 obtain ⟨n, h, o, i⟩ := q.blk g s 1
 obtain ⟨b, a, p, d⟩ := i.freeze h
 obtain ⟨j, l, hp⟩ := bsome hp
 have e : It prog tbl b ((C.fn (Fn.func 114) [] [(W.c (C0.ptr m.nxt 0))])) j := it_of a.fz a.fv fun u ly I E hc x y z A hS hY Q hq => s_placesI hc hS hY d l hq
 obtain rfl := Option.some.inj hp
 exact hq _ b (C.fn (Fn.func 114) [] [(W.c (C0.ptr m.nxt 0))]) a.grw e
theorem s_isRight {s : Stm} {c : Crd} {t : Trh} {ca111 : C} {m f : M} {Q : V → M → Prop} {rz : Bool} (hS : Pre f m) (ha111 : Sl f ca111 s.Cards) (hp : pisRight s c t = some rz) (hq : ∀ m', Ext m m' → Q (.c (.bool rz)) m') : Wc prog tbl 121 [.agg 12 [(Il s.Wide), (Il s.High), (Il s.Fall), (Il s.A.Lo), (Il s.A.Hi), (Il s.B.Lo), (Il s.B.Hi), (Il s.Half.Lo), (Il s.Half.Hi), (Il s.Peak.Lo), (Il s.Peak.Hi), ca111], .agg 7 [(Il c.X.Lo), (Il c.X.Hi), (Il c.Y.Lo), (Il c.Y.Hi), (.bool c.Hail), (Il c.Size.Lo), (Il c.Size.Hi)], .agg 4 [(Il t.A), (Il t.B), (Il t.Half), (Il t.Peak)]] m Q := by
 have S0 := hS.st
 obtain ⟨τ0, _⟩ : ∃ τ : Nat → Nat, True := ⟨fun _ => 0, trivial⟩
 refine w121 ?_
 unfold pisRight at hp
 intro m0 La
 obtain ⟨Ma, Na, ac, Oa⟩ := S0.blk La τ0 1
 intro m1 Qa
 obtain ⟨Ra, Sa, Ta, Ua⟩ := Na.blk Qa Ma 2
 have Va := Oa.k Ta
 intro m2 Xa
 obtain ⟨Ya, Za, ga, ab⟩ := Sa.blk Xa Ra 3
 have cb := Va.k ga
 have db := Ua.k ga
 intro m3 eb
 obtain ⟨Z, ha, aa, fb⟩ := Za.blk eb Ya 4
 have gb := cb.k aa
 have ia := db.k aa
 have hb := ab.k aa
 refine ⟨_, _, _, _, _, _, _, ia.bk.ra, ?_⟩
 obtain ⟨ib, jb, hp⟩ := bsome hp
 refine s_rect (c := c) ha.pre  jb fun pc kb => ?_
 obtain ⟨ja, u⟩ := ha.call kb Z
 have mb := gb.k u
 have nb := ia.k u
 have ob := hb.k u
 have pb := fb.k u
 refine ⟨_, _, _, _, rfl, ?_⟩
 obtain ⟨bc, qb, hp⟩ := bsome hp
 refine s_places (r := ib) ja.pre  qb fun qc cc dc rb sb => ?_
 obtain ⟨tb, i⟩ := ja.callG rb Z
 have ka := mb.k i
 have la := nb.k i
 have ma := ob.k i
 have na := pb.k i
 refine ⟨_, rfl, ?_⟩
 refine range_st (α := Int × Int) tb sb (σ := Bool) 5 (fun st bb => (False ∨ (False ∨ (False ∨ False)))) (fun st gG gF gT gM => (Lb gG gF gT gM 1 m.nxt 12 [(Il s.Wide), (Il s.High), (Il s.Fall), (Il s.A.Lo), (Il s.A.Hi), (Il s.B.Lo), (Il s.B.Hi), (Il s.Half.Lo), (Il s.Half.Hi), (Il s.Peak.Lo), (Il s.Peak.Hi), ca111]) ∧ (Lb gG gF gT gM 2 m0.nxt 7 [(Il c.X.Lo), (Il c.X.Hi), (Il c.Y.Lo), (Il c.Y.Hi), (.bool c.Hail), (Il c.Size.Lo), (Il c.Size.Hi)]) ∧ (Lb gG gF gT gM 3 m1.nxt 4 [(Il t.A), (Il t.B), (Il t.Half), (Il t.Peak)]) ∧ (Lb gG gF gT gM 4 m2.nxt 1 [(.bool st)])) (fun rr_ st => pisRight_L0 s c t rr_ st = some rz) (fun ex st => (match ex with | .ret => (0 : Nat) = 0 ∧ pisRight_L0_xret st = some rz | _ => False)) (fun st => (Gud.and (Gud.lb ka.bk.lt (by decide)) (Gud.and (Gud.lb la.bk.lt (by decide)) (Gud.and (Gud.lb ma.bk.lt (by decide)) (Gud.lb na.bk.lt (by decide)))))) (st0 := (false)) (τ := Z) ⟨ka, la, ma, na⟩ hp ?_ ?_ ?_ ?_
 ·intro l ub b z h oa D ec Xb Yb Zb vb pa hA Fa hp Ga S
  obtain ⟨d, e, g, a⟩ := hA
  replace d : Lb D z h oa 1 m.nxt 12 [(Il s.Wide), (Il s.High), (Il s.Fall), (Il s.A.Lo), (Il s.A.Hi), (Il s.B.Lo), (Il s.B.Hi), (Il s.Half.Lo), (Il s.Half.Hi), (Il s.Peak.Lo), (Il s.Peak.Hi), ca111] := d
  replace e : Lb D z h oa 2 m0.nxt 7 [(Il c.X.Lo), (Il c.X.Hi), (Il c.Y.Lo), (Il c.Y.Hi), (.bool c.Hail), (Il c.Size.Lo), (Il c.Size.Hi)] := e
  replace g : Lb D z h oa 3 m1.nxt 4 [(Il t.A), (Il t.B), (Il t.Half), (Il t.Peak)] := g
  replace a : Lb D z h oa 4 m2.nxt 1 [(.bool b)] := a
  replace hp : pisRight_L0 s c t (l :: ub) b = some rz := hp
  rw [pisRight_L0] at hp
  refine ⟨_, _, rfl, ?_⟩
  refine Ga _ _ _ _ vb Fa fun sc fc qa F Ha T => ?_
  have sa := d.k F
  have ta := e.k F
  have ua := g.k F
  have wb := a.k F
  refine ⟨_, _, _, _, _, _, _, _, _, _, _, _, sa.bk.ra, _, _, _, _, ua.bk.ra, ?_⟩
  obtain ⟨gc, xb, hp⟩ := bsome hp
  refine s_hits (s := s) (t := t) (x := l.1) (y := l.2) qa.pre (ha111.sub (Sub.trans i.fs pa)) xb fun tc yb => ?_
  obtain ⟨ba, o⟩ := qa.call yb h
  have ca := sa.k o
  have G := ta.k o
  have da := ua.k o
  have va := wb.k o
  have ea := Ha.k o
  refine ⟨_, rfl, trivial, _, G.bk.rc rfl, (ta.bk.rc rfl), ?_⟩
  refine ifbb hp (fun zb hp => ?_) fun zb hp => ?_; rotate_left
  ·exact S .nrm (b) _ _ _ _ ba ⟨ca, G, da, va⟩ ea T hp
  refine ⟨trivial, _, _, G.bk.rp (k := 5) (j := 2) rfl (by omega), _, _, _, _, _, _, _, _, _, _, _, _, ca.bk.ra, _, _, _, _, da.bk.ra, ?_⟩
  obtain ⟨Ab, Bb, hp⟩ := bsome hp
  refine s_size (s := s) (t := t) (x := l.1) (y := l.2) ba.pre (ha111.sub (Sub.trans i.fs pa)) Bb fun uc Cb => ?_
  obtain ⟨wa, p⟩ := ba.call Cb h
  have Db := ca.k p
  have xa := G.k p
  have Eb := da.k p
  have Fb := va.k p
  have Ia := ea.k p
  refine ⟨_, rfl, (xa.bk.rp (k := 5) (j := 2) rfl (by omega)), ?_⟩
  obtain ⟨ic, Gb, hp⟩ := bsome hp
  refine s_has (r := c.Size) (n := Ab) wa.pre  Gb fun vc Hb => ?_
  obtain ⟨ya, q⟩ := wa.call Hb h
  have za := Db.k q
  have Aa := xa.k q
  have Ba := Eb.k q
  have Ca := Fb.k q
  have fa := Ia.k q
  refine ⟨_, rfl, ?_⟩
  refine ifbb hp (fun Ib hp => ?_) fun Ib hp => ?_; rotate_left
  ·exact S .nrm (b) _ _ _ _ ya ⟨za, Aa, Ba, Ca⟩ fa T hp
  obtain ⟨Jb, Kb, Mb, I, Nb⟩ := Ca.sto ya [(.bool true)]
  have Ob := za.k I
  have Pb := Aa.k I
  have Qb := Ba.k I
  have Ja := fa.k I
  refine ⟨Jb, Kb, ?_⟩
  exact S .ret (true) _ _ _ _ Mb ⟨Ob, Pb, Qb, Nb⟩ Ja T ⟨rfl, hp⟩
 ·intro b J N Da Rb jc hA hp
  replace hp : pisRight_L0 s c t [] b = some rz := hp
  obtain ⟨d, e, g, a⟩ := hA
  replace d : Lb (Fm.of m) J N Da 1 m.nxt 12 [(Il s.Wide), (Il s.High), (Il s.Fall), (Il s.A.Lo), (Il s.A.Hi), (Il s.B.Lo), (Il s.B.Hi), (Il s.Half.Lo), (Il s.Half.Hi), (Il s.Peak.Lo), (Il s.Peak.Hi), ca111] := d
  replace e : Lb (Fm.of m) J N Da 2 m0.nxt 7 [(Il c.X.Lo), (Il c.X.Hi), (Il c.Y.Lo), (Il c.Y.Hi), (.bool c.Hail), (Il c.Size.Lo), (Il c.Size.Hi)] := e
  replace g : Lb (Fm.of m) J N Da 3 m1.nxt 4 [(Il t.A), (Il t.B), (Il t.Half), (Il t.Peak)] := g
  replace a : Lb (Fm.of m) J N Da 4 m2.nxt 1 [(.bool b)] := a
  rw [pisRight_L0] at hp
  obtain ⟨Sb, Tb, Ub, kc, Vb⟩ := a.sto Rb [(.bool false)]
  refine ⟨Sb, Tb, ?_⟩
  refine ⟨_, Vb.bk.rc rfl, ?_⟩
  obtain rfl := Option.some.inj hp
  exact hq _ Ub.ext'
 ·intro id st _ _ _ _ _ _ hn; first | exact hn.elim | (cases hn)
 ·intro b O P Ea Wb lc hA hn
  obtain ⟨hid, hp⟩ := hn
  replace hp : pisRight_L0_xret b = some rz := hp
  unfold pisRight_L0_xret at hp
  obtain ⟨d, e, g, a⟩ := hA
  replace d : Lb (Fm.of m) O P Ea 1 m.nxt 12 [(Il s.Wide), (Il s.High), (Il s.Fall), (Il s.A.Lo), (Il s.A.Hi), (Il s.B.Lo), (Il s.B.Hi), (Il s.Half.Lo), (Il s.Half.Hi), (Il s.Peak.Lo), (Il s.Peak.Hi), ca111] := d
  replace e : Lb (Fm.of m) O P Ea 2 m0.nxt 7 [(Il c.X.Lo), (Il c.X.Hi), (Il c.Y.Lo), (Il c.Y.Hi), (.bool c.Hail), (Il c.Size.Lo), (Il c.Size.Hi)] := e
  replace g : Lb (Fm.of m) O P Ea 3 m1.nxt 4 [(Il t.A), (Il t.B), (Il t.Half), (Il t.Peak)] := g
  replace a : Lb (Fm.of m) O P Ea 4 m2.nxt 1 [(.bool b)] := a
  refine ⟨_, a.bk.rc rfl, ?_⟩
  obtain rfl := Option.some.inj hp
  exact hq _ Wb.ext'
theorem s_grid {s : Stm} {ca111 : C} {m f : M} {Q : V → M → Prop} {rz : Rct} (hS : Pre f m) (_ha111 : Sl f ca111 s.Cards) (hp : pgrid s = some rz) (hq : ∀ m', Ext m m' → Q (.agg 4 [(Il rz.X.Lo), (Il rz.X.Hi), (Il rz.Y.Lo), (Il rz.Y.Hi)]) m') : Wc prog tbl 77 [.agg 12 [(Il s.Wide), (Il s.High), (Il s.Fall), (Il s.A.Lo), (Il s.A.Hi), (Il s.B.Lo), (Il s.B.Hi), (Il s.Half.Lo), (Il s.Half.Hi), (Il s.Peak.Lo), (Il s.Peak.Hi), ca111]] m Q := by
 have y := hS.st
 obtain ⟨z, _⟩ : ∃ τ : Nat → Nat, True := ⟨fun _ => 0, trivial⟩
 refine w77 ?_
 unfold pgrid at hp
 intro D b
 obtain ⟨c, d, t, e⟩ := y.blk b z 1
 intro F g
 obtain ⟨u, h, i, j⟩ := d.blk g c 2
 have a := e.k i
 refine ⟨trivial, _, a.bk.rc rfl, ?_⟩
 obtain ⟨l, hp⟩ := gd_some hp
 refine ⟨l, trivial, _, a.bk.rc rfl, ?_⟩
 refine gdi hp fun n hp => ?_
 obtain ⟨o, p, q, x, r⟩ := j.sto h [(Il 0), (Il (s.Wide - (1 : Int))), (Il 0), (Il (s.High - (1 : Int)))]
 refine ⟨o, p, ?_⟩
 refine ⟨_, _, _, _, r.bk.ra, ?_⟩
 obtain rfl := Option.some.inj hp
 exact hq _ q.ext'
theorem s_upTo {last : Int} {m f : M} {Q : V → M → Prop} {rz : Cds} (hS : Pre f m)  (hp : pupTo last = some rz) (hq : ∀ m', Ext m m' → Q (.agg 6 [(.bool rz.c0), (.bool rz.c1), (.bool rz.c2), (.bool rz.c3), (.bool rz.c4), (.bool rz.c5)]) m') : Wc prog tbl 83 [.c (Il last)] m Q := by
 have S0 := hS.st
 obtain ⟨τ0, _⟩ : ∃ τ : Nat → Nat, True := ⟨fun _ => 0, trivial⟩
 refine w83 ?_
 unfold pupTo at hp
 intro m0 x
 obtain ⟨y, z, ga, A⟩ := S0.blk x τ0 1
 intro m1 B
 obtain ⟨D, F, G, i⟩ := z.blk B y 2
 have j := A.k G
 refine gdi hp fun I hp => ?_
 intro R2 fa
 have hgo : ∀ (o : Nat) (p : Int) (a : Bool) (b : Bool) (d : Bool) (e : Bool) (g : Bool) (h : Bool) (u : M) (n : Nat → Nat), St (Fm.of m) f f u → Lb (Fm.of m) f n u 1 m.nxt 6 [(.bool false), (.bool false), (.bool false), (.bool false), (.bool false), (.bool false)] → Lb (Fm.of m) f n u 2 m0.nxt 6 [(.bool a), (.bool b), (.bool d), (.bool e), (.bool g), (.bool h)] → pupTo_L0 last o a b d e g h p = some rz → R2 [.c (Il p)] u := by
  intro o
  induction o with
  | zero => intro p a b d e g h u n q j i hp; cases hp
  | succ o ea =>
   intro p a b d e g h u n q j i hp
   refine fa _ _ ?_
   rw [pupTo_L0] at hp
   refine ifd hp (fun J hp => ?_) fun J hp => ?_; rotate_left
   ·refine ⟨_, _, _, _, _, _, i.bk.ra, ?_⟩
    obtain ⟨N, O, P, ha, S⟩ := j.sto q [(.bool a), (.bool b), (.bool d), (.bool e), (.bool g), (.bool h)]
    refine ⟨N, O, ?_⟩
    refine ⟨_, _, _, _, _, _, S.bk.ra, ?_⟩
    obtain rfl := Option.some.inj hp
    exact hq _ P.ext'
   refine ⟨trivial, ?_⟩
   obtain ⟨T, hp⟩ := gd_some hp
   obtain ⟨n5, s, t⟩ := arr_no T
   refine ⟨n5, s, t, ?_⟩
   obtain ⟨Y, Z, aa, ba, r⟩ := i.sta q (pre := []) (post := []) (l := ([a, b, d, e, g, h] : List Bool)) (enc := C.bool) rfl rfl s t true
   replace r : Lb _ _ _ _ _ _ _ [(.bool (sti p 0 true a)), (.bool (sti p 1 true b)), (.bool (sti p 2 true d)), (.bool (sti p 3 true e)), (.bool (sti p 4 true g)), (.bool (sti p 5 true h))] := r
   have ca := j.k ba
   refine ⟨Y, Z, ?_⟩
   refine gdi hp fun da hp => ?_
   exact ea _ _ _ _ _ _ _ _ n aa ca r hp
 exact hgo _ _ _ _ _ _ _ _ _ D F j i hp
theorem s_among {c : Cds} {these : Cds} {m f : M} {Q : V → M → Prop} {rz : Cds} (hS : Pre f m)  (hp : pamong c these = some rz) (hq : ∀ m', Ext m m' → Q (.agg 6 [(.bool rz.c0), (.bool rz.c1), (.bool rz.c2), (.bool rz.c3), (.bool rz.c4), (.bool rz.c5)]) m') : Wc prog tbl 117 [.agg 6 [(.bool c.c0), (.bool c.c1), (.bool c.c2), (.bool c.c3), (.bool c.c4), (.bool c.c5)], .agg 6 [(.bool these.c0), (.bool these.c1), (.bool these.c2), (.bool these.c3), (.bool these.c4), (.bool these.c5)]] m Q := by
 have S0 := hS.st
 obtain ⟨τ0, _⟩ : ∃ τ : Nat → Nat, True := ⟨fun _ => 0, trivial⟩
 refine w117 ?_
 unfold pamong at hp
 intro m0 Y
 obtain ⟨Z, aa, Ja, ba⟩ := S0.blk Y τ0 1
 intro m1 ca
 obtain ⟨da, ea, fa, ga⟩ := aa.blk ca Z 2
 have ha := ba.k fa
 intro m2 ia
 obtain ⟨ja, ka, G, o⟩ := ea.blk ia da 3
 have p := ha.k G
 have i := ga.k G
 intro R3 Ga
 have hgo : ∀ (r : Nat) (q : Int) (a : Bool) (b : Bool) (d : Bool) (e : Bool) (g : Bool) (h : Bool) (F : M) (j : Nat → Nat), St (Fm.of m) f f F → Lb (Fm.of m) f j F 1 m.nxt 6 [(.bool c.c0), (.bool c.c1), (.bool c.c2), (.bool c.c3), (.bool c.c4), (.bool c.c5)] → Lb (Fm.of m) f j F 2 m0.nxt 6 [(.bool a), (.bool b), (.bool d), (.bool e), (.bool g), (.bool h)] → Lb (Fm.of m) f j F 3 m1.nxt 6 [(.bool false), (.bool false), (.bool false), (.bool false), (.bool false), (.bool false)] → pamong_L0 c r a b d e g h q = some rz → R3 [.c (Il q)] F := by
  intro r
  induction r with
  | zero => intro q a b d e g h F j s p i o hp; cases hp
  | succ r N =>
   intro q a b d e g h F j s p i o hp
   refine Ga _ _ ?_
   rw [pamong_L0] at hp
   refine ifd hp (fun la hp => ?_) fun la hp => ?_; rotate_left
   ·refine ⟨_, _, _, _, _, _, i.bk.ra, ?_⟩
    obtain ⟨ma, na, oa, Ka, pa⟩ := o.sto s [(.bool a), (.bool b), (.bool d), (.bool e), (.bool g), (.bool h)]
    refine ⟨ma, na, ?_⟩
    refine ⟨_, _, _, _, _, _, pa.bk.ra, ?_⟩
    obtain rfl := Option.some.inj hp
    exact hq _ oa.ext'
   refine ⟨trivial, ?_⟩
   obtain ⟨La, t, hp⟩ := bsome hp
   obtain ⟨n6, O, P, t⟩ := idx_some t
   refine ⟨n6, O, P, _, (i.bk.rc (arr_at (l := ([a, b, d, e, g, h] : List Bool)) (enc := C.bool) 0 rfl t)), ?_⟩
   refine ifbb hp (fun qa hp => ?_) fun qa hp => ?_; rotate_left
   ·refine ⟨trivial, ?_⟩
    obtain ⟨sa, hp⟩ := gd_some hp
    obtain ⟨Ha, z, A⟩ := arr_no sa
    refine ⟨Ha, z, A, ?_⟩
    obtain ⟨ta, ua, va, I, u⟩ := i.sta s (pre := []) (post := []) (l := ([a, b, d, e, g, h] : List Bool)) (enc := C.bool) rfl rfl z A false
    replace u : Lb _ _ _ _ _ _ _ [(.bool (sti q 0 false a)), (.bool (sti q 1 false b)), (.bool (sti q 2 false d)), (.bool (sti q 3 false e)), (.bool (sti q 4 false g)), (.bool (sti q 5 false h))] := u
    have wa := p.k I
    have xa := o.k I
    refine ⟨ta, ua, ?_⟩
    refine gdi hp fun ya hp => ?_
    exact N _ _ _ _ _ _ _ _ j va wa u xa hp
   refine ⟨trivial, ?_⟩
   obtain ⟨n, x, hp⟩ := bsome hp
   obtain ⟨n8, S, T, x⟩ := idx_some x
   refine ⟨n8, S, T, _, (p.bk.rc (arr_at (l := ([c.c0, c.c1, c.c2, c.c3, c.c4, c.c5] : List Bool)) (enc := C.bool) 0 rfl x)), trivial, ?_⟩
   obtain ⟨za, hp⟩ := gd_some hp
   obtain ⟨Ia, B, D⟩ := arr_no za
   refine ⟨Ia, B, D, ?_⟩
   obtain ⟨Aa, Ba, Ca, J, y⟩ := i.sta s (pre := []) (post := []) (l := ([a, b, d, e, g, h] : List Bool)) (enc := C.bool) rfl rfl B D n
   replace y : Lb _ _ _ _ _ _ _ [(.bool (sti q 0 n a)), (.bool (sti q 1 n b)), (.bool (sti q 2 n d)), (.bool (sti q 3 n e)), (.bool (sti q 4 n g)), (.bool (sti q 5 n h))] := y
   have Da := p.k J
   have Ea := o.k J
   refine ⟨Aa, Ba, ?_⟩
   refine gdi hp fun Fa hp => ?_
   exact N _ _ _ _ _ _ _ _ j Ca Da y Ea hp
 exact hgo _ _ _ _ _ _ _ _ _ ja ka p i o hp
theorem s_rightCards {w : Wk} {t : Trh} {ca111 ca112 : C} {m f : M} {Q : V → M → Prop} {rz : Cds} (hS : Pre f m) (ha111 : Sl f ca111 w.s.Cards) (_ha112 : Mi f ca112 w.right) (hp : prightCards w t = some rz) (hq : ∀ m', Ext m m' → Q (.agg 6 [(.bool rz.c0), (.bool rz.c1), (.bool rz.c2), (.bool rz.c3), (.bool rz.c4), (.bool rz.c5)]) m') : Wc prog tbl 91 [.agg 13 [(Il w.s.Wide), (Il w.s.High), (Il w.s.Fall), (Il w.s.A.Lo), (Il w.s.A.Hi), (Il w.s.B.Lo), (Il w.s.B.Hi), (Il w.s.Half.Lo), (Il w.s.Half.Hi), (Il w.s.Peak.Lo), (Il w.s.Peak.Hi), ca111, ca112], .agg 4 [(Il t.A), (Il t.B), (Il t.Half), (Il t.Peak)]] m Q := by
 have S0 := hS.st
 obtain ⟨τ0, _⟩ : ∃ τ : Nat → Nat, True := ⟨fun _ => 0, trivial⟩
 refine w91 ?_
 unfold prightCards at hp
 intro m0 ga
 obtain ⟨ha, ia, kb, ja⟩ := S0.blk ga τ0 1
 intro m1 ka
 obtain ⟨la, ma, na, oa⟩ := ia.blk ka ha 2
 have pa := ja.k na
 intro m2 qa
 obtain ⟨sa, ta, aa, ua⟩ := ma.blk qa la 3
 have va := pa.k aa
 have wa := oa.k aa
 intro m3 xa
 obtain ⟨ya, za, I, p⟩ := ta.blk xa sa 4
 have q := va.k I
 have u := wa.k I
 have r := ua.k I
 refine ⟨trivial, trivial, _, q.bk.rc rfl, ha111.isSl, ?_⟩
 intro R5 ib
 have hgo : ∀ (x : Nat) (G : Int) (b : Bool) (d : Bool) (e : Bool) (g : Bool) (h : Bool) (i : Bool) (P : M) (n : Nat → Nat), St (Fm.of m) f f P → Lb (Fm.of m) f n P 1 m.nxt 13 [(Il w.s.Wide), (Il w.s.High), (Il w.s.Fall), (Il w.s.A.Lo), (Il w.s.A.Hi), (Il w.s.B.Lo), (Il w.s.B.Hi), (Il w.s.Half.Lo), (Il w.s.Half.Hi), (Il w.s.Peak.Lo), (Il w.s.Peak.Hi), ca111, ca112] → Lb (Fm.of m) f n P 2 m0.nxt 4 [(Il t.A), (Il t.B), (Il t.Half), (Il t.Peak)] → Lb (Fm.of m) f n P 3 m1.nxt 6 [(.bool false), (.bool false), (.bool false), (.bool false), (.bool false), (.bool false)] → Lb (Fm.of m) f n P 4 m2.nxt 6 [(.bool b), (.bool d), (.bool e), (.bool g), (.bool h), (.bool i)] → prightCards_L0 w t x b d e g h i G = some rz → R5 [.c (Il G)] P := by
  intro x
  induction x with
  | zero => intro G b d e g h i P n y q u r p hp; cases hp
  | succ x hb =>
   intro G b d e g h i P n y q u r p hp
   refine ib _ _ ?_
   rw [prightCards_L0] at hp
   try rw [ha111.slLen]
   refine ifd hp (fun Aa hp => ?_) fun Aa hp => ?_; rotate_left
   ·refine ⟨_, _, _, _, _, _, p.bk.ra, ?_⟩
    obtain ⟨Ba, Ca, Da, mb, Ea⟩ := r.sto y [(.bool b), (.bool d), (.bool e), (.bool g), (.bool h), (.bool i)]
    refine ⟨Ba, Ca, ?_⟩
    refine ⟨_, _, _, _, _, _, Ea.bk.ra, ?_⟩
    obtain rfl := Option.some.inj hp
    exact hq _ Da.ext'
   obtain ⟨a, J, hp⟩ := bsome hp
   obtain ⟨n8, fa, S, J⟩ := idx_some J
   obtain ⟨_, Fa⟩ := rd_Crd ha111 J
   refine ⟨n8, fa, (by first | exact S | (rw [ha111.slLen]; exact S)), _, _, _, _, _, _, _, (Fa _ y.sub).1, ?_⟩
   intro ub Ga
   obtain ⟨ba, Ha, z, Ia⟩ := y.blk Ga n 5
   have Ja := q.k z
   have Ka := u.k z
   have La := r.k z
   have Ma := p.k z
   obtain ⟨Na, Oa, ca, D, Pa⟩ := Ia.sto Ha [(Il a.X.Lo), (Il a.X.Hi), (Il a.Y.Lo), (Il a.Y.Hi), (.bool a.Hail), (Il a.Size.Lo), (Il a.Size.Hi)]
   have da := Ja.k D
   have ea := Ka.k D
   have Qa := La.k D
   have Ra := Ma.k D
   refine ⟨Na, Oa, ?_⟩
   refine ⟨trivial, _, _, _, _, _, _, _, _, _, _, _, _, da.bk.rp (k := 0) (j := 12) rfl (by omega), _, _, _, _, _, _, _, Pa.bk.ra, _, _, _, _, ea.bk.ra, ?_⟩
   obtain ⟨o, Sa, hp⟩ := bsome hp
   refine s_isRight (s := w.s) (c := a) (t := t) ca.pre ha111 Sa fun vb Ta => ?_
   obtain ⟨Ua, F⟩ := ca.call Ta ba
   have Va := da.k F
   have Wa := ea.k F
   have Xa := Qa.k F
   have Ya := Ra.k F
   refine ⟨_, rfl, trivial, ?_⟩
   obtain ⟨Za, hp⟩ := gd_some hp
   obtain ⟨jb, T, Z⟩ := arr_no Za
   refine ⟨jb, T, Z, ?_⟩
   obtain ⟨ab, bb, cb, N, O⟩ := Ya.sta Ua (pre := []) (post := []) (l := ([b, d, e, g, h, i] : List Bool)) (enc := C.bool) rfl rfl T Z o
   replace O : Lb _ _ _ _ _ _ _ [(.bool (sti G 0 o b)), (.bool (sti G 1 o d)), (.bool (sti G 2 o e)), (.bool (sti G 3 o g)), (.bool (sti G 4 o h)), (.bool (sti G 5 o i))] := O
   have db := Va.k N
   have eb := Wa.k N
   have fb := Xa.k N
   refine ⟨ab, bb, ?_⟩
   refine gdi hp fun gb hp => ?_
   exact hb _ _ _ _ _ _ _ _ ba cb db eb fb O hp
 exact hgo _ _ _ _ _ _ _ _ _ ya za q u r p hp
theorem s_allCards {w : Wk} {ca111 ca112 : C} {m f : M} {Q : V → M → Prop} {rz : Cds} (hS : Pre f m) (ha111 : Sl f ca111 w.s.Cards) (_ha112 : Mi f ca112 w.right) (hp : pallCards w = some rz) (hq : ∀ m', Ext m m' → Q (.agg 6 [(.bool rz.c0), (.bool rz.c1), (.bool rz.c2), (.bool rz.c3), (.bool rz.c4), (.bool rz.c5)]) m') : Wc prog tbl 92 [.agg 13 [(Il w.s.Wide), (Il w.s.High), (Il w.s.Fall), (Il w.s.A.Lo), (Il w.s.A.Hi), (Il w.s.B.Lo), (Il w.s.B.Hi), (Il w.s.Half.Lo), (Il w.s.Half.Hi), (Il w.s.Peak.Lo), (Il w.s.Peak.Hi), ca111, ca112]] m Q := by
 have I := hS.st
 obtain ⟨J, _⟩ : ∃ τ : Nat → Nat, True := ⟨fun _ => 0, trivial⟩
 refine w92 ?_
 unfold pallCards at hp
 intro N d
 obtain ⟨e, g, F, h⟩ := I.blk d J 1
 intro O i
 obtain ⟨j, b, l, n⟩ := g.blk i e 2
 have o := h.k l
 refine ⟨trivial, trivial, _, o.bk.rc rfl, ha111.isSl, ?_⟩
 obtain ⟨c, hp⟩ := gd_some hp
 refine ⟨(by first | exact c | (rw [ha111.slLen]; exact c)), ?_⟩
 try rw [ha111.slLen]
 obtain ⟨a, p, hp⟩ := bsome hp
 refine s_upTo (last := ((w.s.Cards.length : Int) - (1 : Int))) b.pre  p fun P q => ?_
 obtain ⟨r, t⟩ := b.call q j
 have u := n.k t
 refine ⟨_, _, _, _, _, _, rfl, ?_⟩
 obtain ⟨x, y, z, G, D⟩ := u.sto r [(.bool a.c0), (.bool a.c1), (.bool a.c2), (.bool a.c3), (.bool a.c4), (.bool a.c5)]
 refine ⟨x, y, ?_⟩
 refine ⟨_, _, _, _, _, _, D.bk.ra, ?_⟩
 obtain rfl := Option.some.inj hp
 exact hq _ z.ext'
set_option maxHeartbeats 4000000 in
theorem s_choicesI {s : Stm} {b0 : Nat} {cb011 : C} {m f : M} {F : Fm} {n0 ly : Nat} {xs : List (List V)} {I : Nat → (Nat → Prop) → M → Prop} {E : (Nat → Prop) → M → Prop} {S1 : Nat → Prop} {Q : V → M → Prop} {rz : List Trh} {τ0 : Nat → Nat} (hc : Client prog tbl n0 ly xs I E) (S0 : St F f f m) (Y0 : Yg n0 (YJ xs I rz) S1 F f τ0 m) (hb0 : Bk f b0 12 [(.int .i64 s.Wide), (.int .i64 s.High), (.int .i64 s.Fall), (.int .i64 s.A.Lo), (.int .i64 s.A.Hi), (.int .i64 s.B.Lo), (.int .i64 s.B.Hi), (.int .i64 s.Half.Lo), (.int .i64 s.Half.Hi), (.int .i64 s.Peak.Lo), (.int .i64 s.Peak.Hi), cb011]) (hb011 : Sl f cb011 s.Cards) (hp : pchoicesI s = some rz) (hq : ∀ v m' f' τ' S', St F f f' m' → (Yg n0 (YJ xs I ([] : List Trh)) S' F f' τ' m' ∨ Yg n0 E S' F f' τ' m') → Q v m') : Wc prog tbl 130 [.c (.fn (.yield ly) [] []), .c (.ptr b0 0)] m Q := by
 refine c130 ?_
 unfold pchoicesI at hp
 intro m0 e3381
 obtain ⟨τ3384, S3382, k3383, L3385⟩ := S0.blk e3381 τ0 1
 have Y3386 := Y0.k k3383 (by decide)
 refine ⟨trivial, _, _, (hb0.sub S3382.sub).rp (k := 3) (j := 2) rfl (by omega), ?_⟩
 obtain ⟨r3387, g3388, hp⟩ := bsome hp
 refine s_numbers (r := s.A) S3382.pre  g3388 fun m4 f3392 c3393 e3391 h3394 => ?_
 obtain ⟨S3389, k3390⟩ := S3382.callG e3391 τ3384
 have L3395 := L3385.k k3390 (by decide)
 have Y3396 := Y3386.k k3390 (by decide)
 refine ⟨_, rfl, ?_⟩
 refine range_st (α := Int) S3389 h3394 (σ := (List Trh) × (Nat → Prop) × Bool) 2 (fun st bb => (False ∨ (st.2.1 bb))) (fun st gG gF gT gM => (Lb gG gF gT gM 1 m.nxt 1 [(.fn (.yield ly) [] [])]) ∧ (Yg n0 (YD xs I E st.2.2 st.1) st.2.1 gG gF gT gM)) (fun rr_ st => st.2.2 = false ∧ pchoicesI_L0 s rr_ = some st.1) (fun ex st => (match ex with | .ret => st.2.2 = true ∨ (st.2.2 = false ∧ (0 : Nat) = 0 ∧ pchoicesI_L0_xret = some st.1) | _ => False)) (fun st => (Gud.and (Gud.lb L3395.bk.lt (by decide)) (Gud.yg Y3396.n (by decide)))) (st0 := (rz, S1, false)) (τ := τ3384) ⟨L3395, Y3396⟩ ⟨rfl, hp⟩ ?_ ?_ ?_ ?_
 ·intro a3406 q3407 st f3408 τ3409 m7 F3410 o3411 Ok3412 en3413 Kn3414 S3415 s3416 hA rk3417 hp he3418 hk3419
  obtain ⟨r3398, s3399, d3400⟩ := st
  obtain ⟨hdd, hp⟩ := hp
  replace hdd : d3400 = false := hdd
  subst hdd
  obtain ⟨L3397, Y3401⟩ := hA
  replace L3397 : Lb F3410 f3408 τ3409 m7 1 m.nxt 1 [(.fn (.yield ly) [] [])] := L3397
  replace Y3401 : Yg n0 (YJ xs I r3398) s3399 F3410 f3408 τ3409 m7 := Y3401
  replace hp : pchoicesI_L0 s (a3406 :: q3407) = some r3398 := hp
  rw [pchoicesI_L0] at hp
  refine ⟨_, rfl, ?_⟩
  intro m11 e3420
  obtain ⟨τ3423, S3421, k3422, L3424⟩ := S3415.blk e3420 τ3409 3
  have L3425 := L3397.k k3422 (by decide)
  have Y3426 := Y3401.k k3422 (by decide)
  have rk3427 := rk3417.k k3422 (by decide)
  obtain ⟨m3431, e3430, S3428, k3429, L3432⟩ := L3424.sto S3421 [(.int .i64 a3406)]
  have L3433 := L3425.k k3429 (by decide)
  have Y3434 := Y3426.k k3429 (by decide)
  have rk3435 := rk3427.k k3429 (by decide)
  refine ⟨m3431, e3430, ?_⟩
  refine he3418 _ _ _ _ S3428 rk3435 fun m13 o3439 S3436 k3437 rk3438 hO3440 => ?_
  have L3441 := L3433.k k3437 (by decide)
  have L3442 := L3432.k k3437 (by decide)
  have Y3443 := Y3434.k k3437 (by decide)
  refine ⟨trivial, _, _, (hb0.sub (Sub.trans (Sub.trans k3390.fs s3416) S3436.sub)).rp (k := 5) (j := 2) rfl (by omega), ?_⟩
  obtain ⟨r3444, g3445, hp⟩ := bsome hp
  refine s_numbers (r := s.B) S3436.pre  g3445 fun m17 f3449 c3450 e3448 h3451 => ?_
  obtain ⟨S3446, k3447⟩ := S3436.callG e3448 τ3423
  have L3452 := L3441.k k3447 (by decide)
  have L3453 := L3442.k k3447 (by decide)
  have Y3454 := Y3443.k k3447 (by decide)
  have rk3455 := rk3438.k k3447 (by decide)
  refine ⟨_, rfl, ?_⟩
  refine range_st (α := Int) S3446 h3451 (σ := (List Trh) × (Nat → Prop) × Bool) 4 (fun st bb => (False ∨ (False ∨ ((st.2.1 bb) ∨ False)))) (fun st gG gF gT gM => (Lb gG gF gT gM 1 m.nxt 1 [(.fn (.yield ly) [] [])]) ∧ (Lb gG gF gT gM 3 m7.nxt 1 [(.int .i64 a3406)]) ∧ (Yg n0 (YD xs I E st.2.2 st.1) st.2.1 gG gF gT gM) ∧ (Rk gG gF gT gM 2 (m4).nxt o3439)) (fun rr_ st => st.2.2 = false ∧ pchoicesI_L1 s a3406 ((pchoicesI_L0 s q3407)) rr_ = some st.1) (fun ex st => (match ex with | .ret => st.2.2 = true ∨ (st.2.2 = false ∧ (0 : Nat) = 0 ∧ pchoicesI_L1_xret = some st.1) | _ => False)) (fun st => (Gud.and (Gud.lb L3452.bk.lt (by decide)) (Gud.and (Gud.lb L3453.bk.lt (by decide)) (Gud.and (Gud.yg Y3454.n (by decide)) (Gud.rk rk3455.lt (by decide)))))) (st0 := (r3398, s3399, false)) (τ := τ3423) ⟨L3452, L3453, Y3454, rk3455⟩ ⟨rfl, hp⟩ ?_ ?_ ?_ ?_
  ·intro a3467 q3468 st f3469 τ3470 m20 F3471 o3472 Ok3473 en3474 Kn3475 S3476 s3477 hA rk3478 hp he3479 hk3480
   obtain ⟨r3458, s3459, d3460⟩ := st
   obtain ⟨hdd, hp⟩ := hp
   replace hdd : d3460 = false := hdd
   subst hdd
   obtain ⟨L3456, L3457, Y3461, rk3462⟩ := hA
   replace L3456 : Lb F3471 f3469 τ3470 m20 1 m.nxt 1 [(.fn (.yield ly) [] [])] := L3456
   replace L3457 : Lb F3471 f3469 τ3470 m20 3 m7.nxt 1 [(.int .i64 a3406)] := L3457
   replace Y3461 : Yg n0 (YJ xs I r3458) s3459 F3471 f3469 τ3470 m20 := Y3461
   replace rk3462 : Rk F3471 f3469 τ3470 m20 2 (m4).nxt o3439 := rk3462
   replace hp : pchoicesI_L1 s a3406 ((pchoicesI_L0 s q3407)) (a3467 :: q3468) = some r3458 := hp
   rw [pchoicesI_L1] at hp
   refine ⟨_, rfl, ?_⟩
   intro m24 e3481
   obtain ⟨τ3484, S3482, k3483, L3485⟩ := S3476.blk e3481 τ3470 5
   have L3486 := L3456.k k3483 (by decide)
   have L3487 := L3457.k k3483 (by decide)
   have Y3488 := Y3461.k k3483 (by decide)
   have rk3489 := rk3478.k k3483 (by decide)
   have rk3490 := rk3462.k k3483 (by decide)
   obtain ⟨m3494, e3493, S3491, k3492, L3495⟩ := L3485.sto S3482 [(.int .i64 a3467)]
   have L3496 := L3486.k k3492 (by decide)
   have L3497 := L3487.k k3492 (by decide)
   have Y3498 := Y3488.k k3492 (by decide)
   have rk3499 := rk3489.k k3492 (by decide)
   have rk3500 := rk3490.k k3492 (by decide)
   refine ⟨m3494, e3493, ?_⟩
   refine he3479 _ _ _ _ S3491 rk3499 fun m26 o3504 S3501 k3502 rk3503 hO3505 => ?_
   have L3506 := L3496.k k3502 (by decide)
   have L3507 := L3497.k k3502 (by decide)
   have L3508 := L3495.k k3502 (by decide)
   have Y3509 := Y3498.k k3502 (by decide)
   have rk3510 := rk3500.k k3502 (by decide)
   refine ⟨trivial, _, _, (hb0.sub (Sub.trans (Sub.trans (Sub.trans (Sub.trans k3390.fs s3416) k3447.fs) s3477) S3501.sub)).rp (k := 7) (j := 2) rfl (by omega), ?_⟩
   obtain ⟨r3511, g3512, hp⟩ := bsome hp
   refine s_numbers (r := s.Half) S3501.pre  g3512 fun m30 f3516 c3517 e3515 h3518 => ?_
   obtain ⟨S3513, k3514⟩ := S3501.callG e3515 τ3484
   have L3519 := L3506.k k3514 (by decide)
   have L3520 := L3507.k k3514 (by decide)
   have L3521 := L3508.k k3514 (by decide)
   have Y3522 := Y3509.k k3514 (by decide)
   have rk3523 := rk3503.k k3514 (by decide)
   have rk3524 := rk3510.k k3514 (by decide)
   refine ⟨_, rfl, ?_⟩
   refine range_st (α := Int) S3513 h3518 (σ := (List Trh) × (Nat → Prop) × Bool) 6 (fun st bb => (False ∨ (False ∨ (False ∨ ((st.2.1 bb) ∨ (False ∨ False)))))) (fun st gG gF gT gM => (Lb gG gF gT gM 1 m.nxt 1 [(.fn (.yield ly) [] [])]) ∧ (Lb gG gF gT gM 3 m7.nxt 1 [(.int .i64 a3406)]) ∧ (Lb gG gF gT gM 5 m20.nxt 1 [(.int .i64 a3467)]) ∧ (Yg n0 (YD xs I E st.2.2 st.1) st.2.1 gG gF gT gM) ∧ (Rk gG gF gT gM 2 (m4).nxt o3439) ∧ (Rk gG gF gT gM 4 (m17).nxt o3504)) (fun rr_ st => st.2.2 = false ∧ pchoicesI_L2 s a3406 a3467 ((pchoicesI_L1 s a3406 ((pchoicesI_L0 s q3407)) q3468)) rr_ = some st.1) (fun ex st => (match ex with | .ret => st.2.2 = true ∨ (st.2.2 = false ∧ (0 : Nat) = 0 ∧ pchoicesI_L2_xret = some st.1) | _ => False)) (fun st => (Gud.and (Gud.lb L3519.bk.lt (by decide)) (Gud.and (Gud.lb L3520.bk.lt (by decide)) (Gud.and (Gud.lb L3521.bk.lt (by decide)) (Gud.and (Gud.yg Y3522.n (by decide)) (Gud.and (Gud.rk rk3524.lt (by decide)) (Gud.rk rk3523.lt (by decide)))))))) (st0 := (r3458, s3459, false)) (τ := τ3484) ⟨L3519, L3520, L3521, Y3522, rk3524, rk3523⟩ ⟨rfl, hp⟩ ?_ ?_ ?_ ?_
   ·intro a3538 q3539 st f3540 τ3541 m33 F3542 o3543 Ok3544 en3545 Kn3546 S3547 s3548 hA rk3549 hp he3550 hk3551
    obtain ⟨r3528, s3529, d3530⟩ := st
    obtain ⟨hdd, hp⟩ := hp
    replace hdd : d3530 = false := hdd
    subst hdd
    obtain ⟨L3525, L3526, L3527, Y3531, rk3532, rk3533⟩ := hA
    replace L3525 : Lb F3542 f3540 τ3541 m33 1 m.nxt 1 [(.fn (.yield ly) [] [])] := L3525
    replace L3526 : Lb F3542 f3540 τ3541 m33 3 m7.nxt 1 [(.int .i64 a3406)] := L3526
    replace L3527 : Lb F3542 f3540 τ3541 m33 5 m20.nxt 1 [(.int .i64 a3467)] := L3527
    replace Y3531 : Yg n0 (YJ xs I r3528) s3529 F3542 f3540 τ3541 m33 := Y3531
    replace rk3532 : Rk F3542 f3540 τ3541 m33 2 (m4).nxt o3439 := rk3532
    replace rk3533 : Rk F3542 f3540 τ3541 m33 4 (m17).nxt o3504 := rk3533
    replace hp : pchoicesI_L2 s a3406 a3467 ((pchoicesI_L1 s a3406 ((pchoicesI_L0 s q3407)) q3468)) (a3538 :: q3539) = some r3528 := hp
    rw [pchoicesI_L2] at hp
    refine ⟨_, rfl, ?_⟩
    intro m37 e3552
    obtain ⟨τ3555, S3553, k3554, L3556⟩ := S3547.blk e3552 τ3541 7
    have L3557 := L3525.k k3554 (by decide)
    have L3558 := L3526.k k3554 (by decide)
    have L3559 := L3527.k k3554 (by decide)
    have Y3560 := Y3531.k k3554 (by decide)
    have rk3561 := rk3549.k k3554 (by decide)
    have rk3562 := rk3532.k k3554 (by decide)
    have rk3563 := rk3533.k k3554 (by decide)
    obtain ⟨m3567, e3566, S3564, k3565, L3568⟩ := L3556.sto S3553 [(.int .i64 a3538)]
    have L3569 := L3557.k k3565 (by decide)
    have L3570 := L3558.k k3565 (by decide)
    have L3571 := L3559.k k3565 (by decide)
    have Y3572 := Y3560.k k3565 (by decide)
    have rk3573 := rk3561.k k3565 (by decide)
    have rk3574 := rk3562.k k3565 (by decide)
    have rk3575 := rk3563.k k3565 (by decide)
    refine ⟨m3567, e3566, ?_⟩
    refine he3550 _ _ _ _ S3564 rk3573 fun m39 o3579 S3576 k3577 rk3578 hO3580 => ?_
    have L3581 := L3569.k k3577 (by decide)
    have L3582 := L3570.k k3577 (by decide)
    have L3583 := L3571.k k3577 (by decide)
    have L3584 := L3568.k k3577 (by decide)
    have Y3585 := Y3572.k k3577 (by decide)
    have rk3586 := rk3574.k k3577 (by decide)
    have rk3587 := rk3575.k k3577 (by decide)
    refine ⟨trivial, _, _, (hb0.sub (Sub.trans (Sub.trans (Sub.trans (Sub.trans (Sub.trans (Sub.trans k3390.fs s3416) k3447.fs) s3477) k3514.fs) s3548) S3576.sub)).rp (k := 9) (j := 2) rfl (by omega), ?_⟩
    obtain ⟨r3588, g3589, hp⟩ := bsome hp
    refine s_numbers (r := s.Peak) S3576.pre  g3589 fun m43 f3593 c3594 e3592 h3595 => ?_
    obtain ⟨S3590, k3591⟩ := S3576.callG e3592 τ3555
    have L3596 := L3581.k k3591 (by decide)
    have L3597 := L3582.k k3591 (by decide)
    have L3598 := L3583.k k3591 (by decide)
    have L3599 := L3584.k k3591 (by decide)
    have Y3600 := Y3585.k k3591 (by decide)
    have rk3601 := rk3578.k k3591 (by decide)
    have rk3602 := rk3586.k k3591 (by decide)
    have rk3603 := rk3587.k k3591 (by decide)
    refine ⟨_, rfl, ?_⟩
    refine range_st (α := Int) S3590 h3595 (σ := (List Trh) × (Nat → Prop) × Bool) 8 (fun st bb => (False ∨ (False ∨ (False ∨ (False ∨ ((st.2.1 bb) ∨ (False ∨ (False ∨ False)))))))) (fun st gG gF gT gM => (Lb gG gF gT gM 1 m.nxt 1 [(.fn (.yield ly) [] [])]) ∧ (Lb gG gF gT gM 3 m7.nxt 1 [(.int .i64 a3406)]) ∧ (Lb gG gF gT gM 5 m20.nxt 1 [(.int .i64 a3467)]) ∧ (Lb gG gF gT gM 7 m33.nxt 1 [(.int .i64 a3538)]) ∧ (Yg n0 (YD xs I E st.2.2 st.1) st.2.1 gG gF gT gM) ∧ (Rk gG gF gT gM 2 (m4).nxt o3439) ∧ (Rk gG gF gT gM 4 (m17).nxt o3504) ∧ (Rk gG gF gT gM 6 (m30).nxt o3579)) (fun rr_ st => st.2.2 = false ∧ pchoicesI_L3 a3406 a3467 a3538 ((pchoicesI_L2 s a3406 a3467 ((pchoicesI_L1 s a3406 ((pchoicesI_L0 s q3407)) q3468)) q3539)) rr_ = some st.1) (fun ex st => (match ex with | .ret => st.2.2 = true ∨ (st.2.2 = false ∧ (0 : Nat) = 0 ∧ pchoicesI_L3_xret = some st.1) | _ => False)) (fun st => (Gud.and (Gud.lb L3596.bk.lt (by decide)) (Gud.and (Gud.lb L3597.bk.lt (by decide)) (Gud.and (Gud.lb L3598.bk.lt (by decide)) (Gud.and (Gud.lb L3599.bk.lt (by decide)) (Gud.and (Gud.yg Y3600.n (by decide)) (Gud.and (Gud.rk rk3602.lt (by decide)) (Gud.and (Gud.rk rk3603.lt (by decide)) (Gud.rk rk3601.lt (by decide)))))))))) (st0 := (r3528, s3529, false)) (τ := τ3555) ⟨L3596, L3597, L3598, L3599, Y3600, rk3602, rk3603, rk3601⟩ ⟨rfl, hp⟩ ?_ ?_ ?_ ?_
    ·intro a3619 q3620 st f3621 τ3622 m46 F3623 o3624 Ok3625 en3626 Kn3627 S3628 s3629 hA rk3630 hp he3631 hk3632
     obtain ⟨r3608, s3609, d3610⟩ := st
     obtain ⟨hdd, hp⟩ := hp
     replace hdd : d3610 = false := hdd
     subst hdd
     obtain ⟨L3604, L3605, L3606, L3607, Y3611, rk3612, rk3613, rk3614⟩ := hA
     replace L3604 : Lb F3623 f3621 τ3622 m46 1 m.nxt 1 [(.fn (.yield ly) [] [])] := L3604
     replace L3605 : Lb F3623 f3621 τ3622 m46 3 m7.nxt 1 [(.int .i64 a3406)] := L3605
     replace L3606 : Lb F3623 f3621 τ3622 m46 5 m20.nxt 1 [(.int .i64 a3467)] := L3606
     replace L3607 : Lb F3623 f3621 τ3622 m46 7 m33.nxt 1 [(.int .i64 a3538)] := L3607
     replace Y3611 : Yg n0 (YJ xs I r3608) s3609 F3623 f3621 τ3622 m46 := Y3611
     replace rk3612 : Rk F3623 f3621 τ3622 m46 2 (m4).nxt o3439 := rk3612
     replace rk3613 : Rk F3623 f3621 τ3622 m46 4 (m17).nxt o3504 := rk3613
     replace rk3614 : Rk F3623 f3621 τ3622 m46 6 (m30).nxt o3579 := rk3614
     replace hp : pchoicesI_L3 a3406 a3467 a3538 ((pchoicesI_L2 s a3406 a3467 ((pchoicesI_L1 s a3406 ((pchoicesI_L0 s q3407)) q3468)) q3539)) (a3619 :: q3620) = some r3608 := hp
     rw [pchoicesI_L3] at hp
     refine ⟨_, rfl, ?_⟩
     refine he3631 _ _ _ _ S3628 rk3630 fun m50 o3636 S3633 k3634 rk3635 hO3637 => ?_
     have L3638 := L3604.k k3634 (by decide)
     have L3639 := L3605.k k3634 (by decide)
     have L3640 := L3606.k k3634 (by decide)
     have L3641 := L3607.k k3634 (by decide)
     have Y3642 := Y3611.k k3634 (by decide)
     have rk3643 := rk3612.k k3634 (by decide)
     have rk3644 := rk3613.k k3634 (by decide)
     have rk3645 := rk3614.k k3634 (by decide)
     refine ⟨_, L3638.bk.rc rfl, _, L3639.bk.rc rfl, _, L3640.bk.rc rfl, _, L3641.bk.rc rfl, ?_⟩
     obtain ⟨r3646, hp3648, hz3647⟩ := bsome hp
     clear hp
     obtain rfl := Option.some.inj hz3647
     have hp := hp3648
     show Wy prog tbl ly (IV.encs (({ A := a3406, B := a3467, Half := a3538, Peak := a3619 } : Trh) : Trh)) _ _
     refine Yg.yield hc S3633 Y3642 ?_ ?_
     ·intro m56 τ3649 s3653 S3650 k3651 Y3652
      have L3654 := L3638.k k3651 (by decide)
      have L3655 := L3639.k k3651 (by decide)
      have L3656 := L3640.k k3651 (by decide)
      have L3657 := L3641.k k3651 (by decide)
      have rk3658 := rk3635.k k3651 (by decide)
      have rk3659 := rk3643.k k3651 (by decide)
      have rk3660 := rk3644.k k3651 (by decide)
      have rk3661 := rk3645.k k3651 (by decide)
      refine ⟨_, rfl, ?_⟩
      refine ifB_f' ?_
      exact hk3632 .nrm (r3646, s3653, false) _ _ _ _ S3650 ⟨L3654, L3655, L3656, L3657, Y3652, rk3659, rk3660, rk3661⟩ rk3658 hO3637 ⟨rfl, hp⟩
     ·intro m56 τ3662 s3666 S3663 k3664 Y3665
      have L3667 := L3638.k k3664 (by decide)
      have L3668 := L3639.k k3664 (by decide)
      have L3669 := L3640.k k3664 (by decide)
      have L3670 := L3641.k k3664 (by decide)
      have rk3671 := rk3635.k k3664 (by decide)
      have rk3672 := rk3643.k k3664 (by decide)
      have rk3673 := rk3644.k k3664 (by decide)
      have rk3674 := rk3645.k k3664 (by decide)
      refine ⟨_, rfl, ?_⟩
      refine ifB_t' ?_
      exact hk3632 .ret ([], s3666, true) _ _ _ _ S3663 ⟨L3667, L3668, L3669, L3670, Y3665, rk3672, rk3673, rk3674⟩ rk3671 hO3637 (.inl rfl)
    ·intro st f3675 τ3677 m58 S3678 s3676 hA hp
     obtain ⟨r3608, s3609, d3610⟩ := st
     obtain ⟨hdd, hp⟩ := hp
     replace hdd : d3610 = false := hdd
     subst hdd
     replace hp : pchoicesI_L3 a3406 a3467 a3538 ((pchoicesI_L2 s a3406 a3467 ((pchoicesI_L1 s a3406 ((pchoicesI_L0 s q3407)) q3468)) q3539)) [] = some r3608 := hp
     obtain ⟨L3604, L3605, L3606, L3607, Y3611, rk3612, rk3613, rk3614⟩ := hA
     replace L3604 : Lb F3542 f3675 τ3677 m58 1 m.nxt 1 [(.fn (.yield ly) [] [])] := L3604
     replace L3605 : Lb F3542 f3675 τ3677 m58 3 m7.nxt 1 [(.int .i64 a3406)] := L3605
     replace L3606 : Lb F3542 f3675 τ3677 m58 5 m20.nxt 1 [(.int .i64 a3467)] := L3606
     replace L3607 : Lb F3542 f3675 τ3677 m58 7 m33.nxt 1 [(.int .i64 a3538)] := L3607
     replace Y3611 : Yg n0 (YJ xs I r3608) s3609 F3542 f3675 τ3677 m58 := Y3611
     replace rk3612 : Rk F3542 f3675 τ3677 m58 2 (m4).nxt o3439 := rk3612
     replace rk3613 : Rk F3542 f3675 τ3677 m58 4 (m17).nxt o3504 := rk3613
     replace rk3614 : Rk F3542 f3675 τ3677 m58 6 (m30).nxt o3579 := rk3614
     rw [pchoicesI_L3] at hp
     exact hk3551 .nrm (r3608, s3609, false) _ _ _ _ S3678 ⟨L3604, L3605, L3606, Y3611, rk3612, rk3613⟩ rk3614 hO3580 ⟨rfl, hp⟩
    ·intro id st _ _ _ _ _ _ hn; first | exact hn.elim | (cases hn)
    ·intro st f3615 τ3617 m59 S3618 s3616 hA hn
     obtain ⟨r3608, s3609, d3610⟩ := st
     rcases hn with hd | ⟨hd, hid, hp⟩
     ·replace hd : d3610 = true := hd
      subst hd
      obtain ⟨L3604, L3605, L3606, L3607, Y3611, rk3612, rk3613, rk3614⟩ := hA
      replace L3604 : Lb F3542 f3615 τ3617 m59 1 m.nxt 1 [(.fn (.yield ly) [] [])] := L3604
      replace L3605 : Lb F3542 f3615 τ3617 m59 3 m7.nxt 1 [(.int .i64 a3406)] := L3605
      replace L3606 : Lb F3542 f3615 τ3617 m59 5 m20.nxt 1 [(.int .i64 a3467)] := L3606
      replace L3607 : Lb F3542 f3615 τ3617 m59 7 m33.nxt 1 [(.int .i64 a3538)] := L3607
      replace Y3611 : Yg n0 E s3609 F3542 f3615 τ3617 m59 := Y3611
      replace rk3612 : Rk F3542 f3615 τ3617 m59 2 (m4).nxt o3439 := rk3612
      replace rk3613 : Rk F3542 f3615 τ3617 m59 4 (m17).nxt o3504 := rk3613
      replace rk3614 : Rk F3542 f3615 τ3617 m59 6 (m30).nxt o3579 := rk3614
      exact hk3551 .ret ([], s3609, true) _ _ _ _ S3618 ⟨L3604, L3605, L3606, Y3611, rk3612, rk3613⟩ rk3614 hO3580 (.inl rfl)
     replace hd : d3610 = false := hd
     subst hd
     replace hp : pchoicesI_L3_xret = some r3608 := hp
     unfold pchoicesI_L3_xret at hp
     obtain ⟨L3604, L3605, L3606, L3607, Y3611, rk3612, rk3613, rk3614⟩ := hA
     replace L3604 : Lb F3542 f3615 τ3617 m59 1 m.nxt 1 [(.fn (.yield ly) [] [])] := L3604
     replace L3605 : Lb F3542 f3615 τ3617 m59 3 m7.nxt 1 [(.int .i64 a3406)] := L3605
     replace L3606 : Lb F3542 f3615 τ3617 m59 5 m20.nxt 1 [(.int .i64 a3467)] := L3606
     replace L3607 : Lb F3542 f3615 τ3617 m59 7 m33.nxt 1 [(.int .i64 a3538)] := L3607
     replace Y3611 : Yg n0 (YJ xs I r3608) s3609 F3542 f3615 τ3617 m59 := Y3611
     replace rk3612 : Rk F3542 f3615 τ3617 m59 2 (m4).nxt o3439 := rk3612
     replace rk3613 : Rk F3542 f3615 τ3617 m59 4 (m17).nxt o3504 := rk3613
     replace rk3614 : Rk F3542 f3615 τ3617 m59 6 (m30).nxt o3579 := rk3614
     exact hk3551 .ret (r3608, s3609, false) _ _ _ _ S3618 ⟨L3604, L3605, L3606, Y3611, rk3612, rk3613⟩ rk3614 hO3580 (.inr ⟨rfl, rfl, hp⟩)
   ·intro st f3679 τ3681 m60 S3682 s3680 hA hp
    obtain ⟨r3528, s3529, d3530⟩ := st
    obtain ⟨hdd, hp⟩ := hp
    replace hdd : d3530 = false := hdd
    subst hdd
    replace hp : pchoicesI_L2 s a3406 a3467 ((pchoicesI_L1 s a3406 ((pchoicesI_L0 s q3407)) q3468)) [] = some r3528 := hp
    obtain ⟨L3525, L3526, L3527, Y3531, rk3532, rk3533⟩ := hA
    replace L3525 : Lb F3471 f3679 τ3681 m60 1 m.nxt 1 [(.fn (.yield ly) [] [])] := L3525
    replace L3526 : Lb F3471 f3679 τ3681 m60 3 m7.nxt 1 [(.int .i64 a3406)] := L3526
    replace L3527 : Lb F3471 f3679 τ3681 m60 5 m20.nxt 1 [(.int .i64 a3467)] := L3527
    replace Y3531 : Yg n0 (YJ xs I r3528) s3529 F3471 f3679 τ3681 m60 := Y3531
    replace rk3532 : Rk F3471 f3679 τ3681 m60 2 (m4).nxt o3439 := rk3532
    replace rk3533 : Rk F3471 f3679 τ3681 m60 4 (m17).nxt o3504 := rk3533
    rw [pchoicesI_L2] at hp
    exact hk3480 .nrm (r3528, s3529, false) _ _ _ _ S3682 ⟨L3525, L3526, Y3531, rk3532⟩ rk3533 hO3505 ⟨rfl, hp⟩
   ·intro id st _ _ _ _ _ _ hn; first | exact hn.elim | (cases hn)
   ·intro st f3534 τ3536 m61 S3537 s3535 hA hn
    obtain ⟨r3528, s3529, d3530⟩ := st
    rcases hn with hd | ⟨hd, hid, hp⟩
    ·replace hd : d3530 = true := hd
     subst hd
     obtain ⟨L3525, L3526, L3527, Y3531, rk3532, rk3533⟩ := hA
     replace L3525 : Lb F3471 f3534 τ3536 m61 1 m.nxt 1 [(.fn (.yield ly) [] [])] := L3525
     replace L3526 : Lb F3471 f3534 τ3536 m61 3 m7.nxt 1 [(.int .i64 a3406)] := L3526
     replace L3527 : Lb F3471 f3534 τ3536 m61 5 m20.nxt 1 [(.int .i64 a3467)] := L3527
     replace Y3531 : Yg n0 E s3529 F3471 f3534 τ3536 m61 := Y3531
     replace rk3532 : Rk F3471 f3534 τ3536 m61 2 (m4).nxt o3439 := rk3532
     replace rk3533 : Rk F3471 f3534 τ3536 m61 4 (m17).nxt o3504 := rk3533
     exact hk3480 .ret ([], s3529, true) _ _ _ _ S3537 ⟨L3525, L3526, Y3531, rk3532⟩ rk3533 hO3505 (.inl rfl)
    replace hd : d3530 = false := hd
    subst hd
    replace hp : pchoicesI_L2_xret = some r3528 := hp
    unfold pchoicesI_L2_xret at hp
    obtain ⟨L3525, L3526, L3527, Y3531, rk3532, rk3533⟩ := hA
    replace L3525 : Lb F3471 f3534 τ3536 m61 1 m.nxt 1 [(.fn (.yield ly) [] [])] := L3525
    replace L3526 : Lb F3471 f3534 τ3536 m61 3 m7.nxt 1 [(.int .i64 a3406)] := L3526
    replace L3527 : Lb F3471 f3534 τ3536 m61 5 m20.nxt 1 [(.int .i64 a3467)] := L3527
    replace Y3531 : Yg n0 (YJ xs I r3528) s3529 F3471 f3534 τ3536 m61 := Y3531
    replace rk3532 : Rk F3471 f3534 τ3536 m61 2 (m4).nxt o3439 := rk3532
    replace rk3533 : Rk F3471 f3534 τ3536 m61 4 (m17).nxt o3504 := rk3533
    exact hk3480 .ret (r3528, s3529, false) _ _ _ _ S3537 ⟨L3525, L3526, Y3531, rk3532⟩ rk3533 hO3505 (.inr ⟨rfl, rfl, hp⟩)
  ·intro st f3683 τ3685 m62 S3686 s3684 hA hp
   obtain ⟨r3458, s3459, d3460⟩ := st
   obtain ⟨hdd, hp⟩ := hp
   replace hdd : d3460 = false := hdd
   subst hdd
   replace hp : pchoicesI_L1 s a3406 ((pchoicesI_L0 s q3407)) [] = some r3458 := hp
   obtain ⟨L3456, L3457, Y3461, rk3462⟩ := hA
   replace L3456 : Lb F3410 f3683 τ3685 m62 1 m.nxt 1 [(.fn (.yield ly) [] [])] := L3456
   replace L3457 : Lb F3410 f3683 τ3685 m62 3 m7.nxt 1 [(.int .i64 a3406)] := L3457
   replace Y3461 : Yg n0 (YJ xs I r3458) s3459 F3410 f3683 τ3685 m62 := Y3461
   replace rk3462 : Rk F3410 f3683 τ3685 m62 2 (m4).nxt o3439 := rk3462
   rw [pchoicesI_L1] at hp
   exact hk3419 .nrm (r3458, s3459, false) _ _ _ _ S3686 ⟨L3456, Y3461⟩ rk3462 hO3440 ⟨rfl, hp⟩
  ·intro id st _ _ _ _ _ _ hn; first | exact hn.elim | (cases hn)
  ·intro st f3463 τ3465 m63 S3466 s3464 hA hn
   obtain ⟨r3458, s3459, d3460⟩ := st
   rcases hn with hd | ⟨hd, hid, hp⟩
   ·replace hd : d3460 = true := hd
    subst hd
    obtain ⟨L3456, L3457, Y3461, rk3462⟩ := hA
    replace L3456 : Lb F3410 f3463 τ3465 m63 1 m.nxt 1 [(.fn (.yield ly) [] [])] := L3456
    replace L3457 : Lb F3410 f3463 τ3465 m63 3 m7.nxt 1 [(.int .i64 a3406)] := L3457
    replace Y3461 : Yg n0 E s3459 F3410 f3463 τ3465 m63 := Y3461
    replace rk3462 : Rk F3410 f3463 τ3465 m63 2 (m4).nxt o3439 := rk3462
    exact hk3419 .ret ([], s3459, true) _ _ _ _ S3466 ⟨L3456, Y3461⟩ rk3462 hO3440 (.inl rfl)
   replace hd : d3460 = false := hd
   subst hd
   replace hp : pchoicesI_L1_xret = some r3458 := hp
   unfold pchoicesI_L1_xret at hp
   obtain ⟨L3456, L3457, Y3461, rk3462⟩ := hA
   replace L3456 : Lb F3410 f3463 τ3465 m63 1 m.nxt 1 [(.fn (.yield ly) [] [])] := L3456
   replace L3457 : Lb F3410 f3463 τ3465 m63 3 m7.nxt 1 [(.int .i64 a3406)] := L3457
   replace Y3461 : Yg n0 (YJ xs I r3458) s3459 F3410 f3463 τ3465 m63 := Y3461
   replace rk3462 : Rk F3410 f3463 τ3465 m63 2 (m4).nxt o3439 := rk3462
   exact hk3419 .ret (r3458, s3459, false) _ _ _ _ S3466 ⟨L3456, Y3461⟩ rk3462 hO3440 (.inr ⟨rfl, rfl, hp⟩)
 ·intro st f3687 τ3689 m64 S3690 s3688 hA hp
  obtain ⟨r3398, s3399, d3400⟩ := st
  obtain ⟨hdd, hp⟩ := hp
  replace hdd : d3400 = false := hdd
  subst hdd
  replace hp : pchoicesI_L0 s [] = some r3398 := hp
  obtain ⟨L3397, Y3401⟩ := hA
  replace L3397 : Lb F f3687 τ3689 m64 1 m.nxt 1 [(.fn (.yield ly) [] [])] := L3397
  replace Y3401 : Yg n0 (YJ xs I r3398) s3399 F f3687 τ3689 m64 := Y3401
  rw [pchoicesI_L0] at hp
  obtain rfl := Option.some.inj hp
  exact hq _ _ _ _ _ S3690 (.inl Y3401)
 ·intro id st _ _ _ _ _ _ hn; first | exact hn.elim | (cases hn)
 ·intro st f3402 τ3404 m65 S3405 s3403 hA hn
  obtain ⟨r3398, s3399, d3400⟩ := st
  rcases hn with hd | ⟨hd, hid, hp⟩
  ·replace hd : d3400 = true := hd
   subst hd
   obtain ⟨L3397, Y3401⟩ := hA
   replace L3397 : Lb F f3402 τ3404 m65 1 m.nxt 1 [(.fn (.yield ly) [] [])] := L3397
   replace Y3401 : Yg n0 E s3399 F f3402 τ3404 m65 := Y3401
   exact hq _ _ _ _ _ S3405 (.inr Y3401)
  replace hd : d3400 = false := hd
  subst hd
  replace hp : pchoicesI_L0_xret = some r3398 := hp
  unfold pchoicesI_L0_xret at hp
  obtain ⟨L3397, Y3401⟩ := hA
  replace L3397 : Lb F f3402 τ3404 m65 1 m.nxt 1 [(.fn (.yield ly) [] [])] := L3397
  replace Y3401 : Yg n0 (YJ xs I r3398) s3399 F f3402 τ3404 m65 := Y3401
  obtain rfl := Option.some.inj hp
  exact hq _ _ _ _ _ S3405 (.inl Y3401)
theorem s_choices {s : Stm} {ca111 : C} {m f : M} {Q : V → M → Prop} {rz : List Trh} (hS : Pre f m) (ha111 : Sl f ca111 s.Cards) (hp : pchoices s = some rz) (hq : ∀ m' f' c0, Grw m f m' f' → It prog tbl f' c0 rz → Q (.c c0) m') : Wc prog tbl 116 [.agg 12 [(Il s.Wide), (Il s.High), (Il s.Fall), (Il s.A.Lo), (Il s.A.Hi), (Il s.B.Lo), (Il s.B.Hi), (Il s.Half.Lo), (Il s.Half.Hi), (Il s.Peak.Lo), (Il s.Peak.Hi), ca111]] m Q := by
 have q := hS.st
 obtain ⟨r, _⟩ : ∃ τ : Nat → Nat, True := ⟨fun _ => 0, trivial⟩
 refine w116 ?_
 unfold pchoices at hp
 intro t g
 obtain ⟨o, h, p, i⟩ := q.blk g r 1
 obtain ⟨b, a, j, d⟩ := i.freeze h
 obtain ⟨l, n, hp⟩ := bsome hp
 have e : It prog tbl b ((C.fn (Fn.func 130) [] [(W.c (C0.ptr m.nxt 0))])) l := it_of a.fz a.fv fun u ly I E hc x y z D hS hY Q hq => s_choicesI hc hS hY d (ha111.sub j.fs) n hq
 obtain rfl := Option.some.inj hp
 exact hq _ b (C.fn (Fn.func 130) [] [(W.c (C0.ptr m.nxt 0))]) a.grw e
theorem s_open {s : Stm} {ca111 : C} {m f : M} {Q : V → M → Prop} {rz : Wk} (hS : Pre f m) (ha111 : Sl f ca111 s.Cards) (hp : popen s = some rz) (hq : ∀ m' f' c11 c12, Grw m f m' f' → Sl f' c11 rz.s.Cards → Mi f' c12 rz.right → Q (.agg 13 [(Il rz.s.Wide), (Il rz.s.High), (Il rz.s.Fall), (Il rz.s.A.Lo), (Il rz.s.A.Hi), (Il rz.s.B.Lo), (Il rz.s.B.Hi), (Il rz.s.Half.Lo), (Il rz.s.Half.Hi), (Il rz.s.Peak.Lo), (Il rz.s.Peak.Hi), c11, c12]) m') : Wc prog tbl 81 [.agg 12 [(Il s.Wide), (Il s.High), (Il s.Fall), (Il s.A.Lo), (Il s.A.Hi), (Il s.B.Lo), (Il s.B.Hi), (Il s.Half.Lo), (Il s.Half.Hi), (Il s.Peak.Lo), (Il s.Peak.Hi), ca111]] m Q := by
 have S0 := hS.st
 obtain ⟨τ0, _⟩ : ∃ τ : Nat → Nat, True := ⟨fun _ => 0, trivial⟩
 refine w81 ?_
 unfold popen at hp
 intro m0 va
 obtain ⟨wa, xa, ec, ya⟩ := S0.blk va τ0 1
 intro D za
 obtain ⟨Aa, Ba, Ca, Da⟩ := xa.blk za wa 2
 have N := ya.k Ca
 refine ⟨_, _, _, _, _, _, _, _, _, _, _, _, N.bk.ra, ?_⟩
 intro ia Ea
 obtain ⟨Fa, Ga, O, Ha⟩ := Mo.new (K := Trh) (V' := Cds) Ba Ea Aa 3
 have Ia := N.k O
 have Ja := Da.k O
 intro pc Ka
 obtain ⟨P, La, F, Ma⟩ := Ga.blk Ka Fa 4
 have Na := Ia.k F
 have Oa := Ja.k F
 have Pa := Ha.k F
 obtain ⟨Qa, Ra, S, G, T⟩ := Ma.sto La [(Il s.Wide), (Il s.High), (Il s.Fall), (Il s.A.Lo), (Il s.A.Hi), (Il s.B.Lo), (Il s.B.Hi), (Il s.Half.Lo), (Il s.Half.Hi), (Il s.Peak.Lo), (Il s.Peak.Hi), ca111, (.map D.nxt)]
 have Sa := Na.k G
 have Ta := Oa.k G
 have Ua := Pa.k G
 refine ⟨Qa, Ra, ?_⟩
 refine ⟨trivial, _, _, _, _, _, _, _, _, _, _, _, _, T.bk.rp (k := 0) (j := 12) rfl (by omega), ?_⟩
 obtain ⟨fc, Va, hp⟩ := bsome hp
 refine s_choices (s := s) S.pre ha111 Va fun qc gc ic Wa Xa => ?_
 obtain ⟨Ya, g⟩ := S.callG Wa P
 have Y := Sa.k g
 have Z := Ta.k g
 have aa := T.k g
 have ba := Ua.k g
 refine ⟨_, rfl, ?_⟩
 refine range_st (α := Trh) Ya Xa (σ := (Option (Trh → Option (Cds)))) 5 (fun st bb => (False ∨ (False ∨ (False ∨ False)))) (fun st gG gF gT gM => (Lb gG gF gT gM 1 m.nxt 12 [(Il s.Wide), (Il s.High), (Il s.Fall), (Il s.A.Lo), (Il s.A.Hi), (Il s.B.Lo), (Il s.B.Hi), (Il s.Half.Lo), (Il s.Half.Hi), (Il s.Peak.Lo), (Il s.Peak.Hi), ca111]) ∧ (Lb gG gF gT gM 2 m0.nxt 13 [(Il 0), (Il 0), (Il 0), (Il 0), (Il 0), (Il 0), (Il 0), (Il 0), (Il 0), (Il 0), (Il 0), .sl0, C.map0]) ∧ (Lb gG gF gT gM 4 ia.nxt 13 [(Il s.Wide), (Il s.High), (Il s.Fall), (Il s.A.Lo), (Il s.A.Hi), (Il s.B.Lo), (Il s.B.Hi), (Il s.Half.Lo), (Il s.Half.Hi), (Il s.Peak.Lo), (Il s.Peak.Hi), ca111, (.map D.nxt)]) ∧ (Mo gG gF gT gM 3 (.map D.nxt) st)) (fun rr_ st => popen_L0 s rr_ st = some rz) (fun ex st => False) (fun st => (Gud.and (Gud.lb Y.bk.lt (by decide)) (Gud.and (Gud.lb Z.bk.lt (by decide)) (Gud.and (Gud.lb aa.bk.lt (by decide)) (Gud.mo ba.lt (by decide)))))) (st0 := ((some fun _ => none : Option (Trh → Option (Cds))))) (τ := P) ⟨Y, Z, aa, ba⟩ hp ?_ ?_ ?_ ?_
 ·intro a Za h r n ca u jc bc cc dc ab cb hA ja hp ka la
  obtain ⟨i, b, c, d⟩ := hA
  replace i : Lb u r n ca 1 m.nxt 12 [(Il s.Wide), (Il s.High), (Il s.Fall), (Il s.A.Lo), (Il s.A.Hi), (Il s.B.Lo), (Il s.B.Hi), (Il s.Half.Lo), (Il s.Half.Hi), (Il s.Peak.Lo), (Il s.Peak.Hi), ca111] := i
  replace b : Lb u r n ca 2 m0.nxt 13 [(Il 0), (Il 0), (Il 0), (Il 0), (Il 0), (Il 0), (Il 0), (Il 0), (Il 0), (Il 0), (Il 0), .sl0, C.map0] := b
  replace c : Lb u r n ca 4 ia.nxt 13 [(Il s.Wide), (Il s.High), (Il s.Fall), (Il s.A.Lo), (Il s.A.Hi), (Il s.B.Lo), (Il s.B.Hi), (Il s.Half.Lo), (Il s.Half.Hi), (Il s.Peak.Lo), (Il s.Peak.Hi), ca111, (.map D.nxt)] := c
  replace d : Mo u r n ca 3 (.map D.nxt) h := d
  replace hp : popen_L0 s (a :: Za) h = some rz := hp
  rw [popen_L0] at hp
  refine ⟨_, _, _, _, rfl, ?_⟩
  intro sc db
  obtain ⟨eb, fb, o, gb⟩ := ab.blk db n 6
  have hb := i.k o
  have ib := b.k o
  have jb := c.k o
  have kb := d.k o
  have ma := ja.k o
  obtain ⟨mb, nb, ob, p, pb⟩ := gb.sto fb [(Il a.A), (Il a.B), (Il a.Half), (Il a.Peak)]
  have qb := hb.k p
  have rb := ib.k p
  have sb := jb.k p
  have tb := kb.k p
  have na := ma.k p
  refine ⟨mb, nb, ?_⟩
  refine ka _ _ _ _ ob na fun tc kc da q oa pa => ?_
  have ub := qb.k q
  have vb := rb.k q
  have I := sb.k q
  have J := pb.k q
  have ea := tb.k q
  refine ⟨trivial, _, I.bk.rc rfl, _, _, _, _, J.bk.ra, _, _, _, _, _, _, _, _, _, _, _, _, _, I.bk.ra, _, _, _, _, J.bk.ra, ?_⟩
  obtain ⟨lc, wb, xb, qa⟩ := ea.freeze da
  obtain ⟨e, yb, hp⟩ := bsome hp
  refine s_rightCards (w := ({ s := s, right := h } : Wk)) (t := a) wb.pre (ha111.sub (Sub.trans (Sub.trans g.fs cb) xb.fs)) qa yb fun uc zb => ?_
  obtain ⟨Ab, l⟩ := da.call zb eb
  have Bb := ub.k l
  have Cb := vb.k l
  have fa := I.k l
  have Db := J.k l
  have ga := ea.k l
  have sa := oa.k l
  refine ⟨_, _, _, _, _, _, rfl, (Db.bk.ra), (by rw [show cmC _ = true from cmC_of (ga.mi.noFn)]; exact (fa.bk.rc rfl)), ?_⟩
  obtain ⟨Eb, hp⟩ := gd_some hp
  obtain ⟨Fb, Gb, hp⟩ := bsome hp
  obtain ⟨Hb, Ib, Jb, x, Kb⟩ := Mo.up kl43 Ab ga (k := a) Eb (v := e) Gb (kv := .agg 4 [(Il a.A), (Il a.B), (Il a.Half), (Il a.Peak)]) (yv := .agg 6 [(.bool e.c0), (.bool e.c1), (.bool e.c2), (.bool e.c3), (.bool e.c4), (.bool e.c5)]) rfl rfl
  have Mb := Bb.k x
  have Nb := Cb.k x
  have Ob := fa.k x
  have ta := sa.k x
  refine ⟨Hb, Ib, ?_⟩
  exact la .nrm (Fb) _ _ _ _ Jb ⟨Mb, Nb, Ob, Kb⟩ ta pa hp
 ·intro h y z ha Pb Qb hA hp
  replace hp : popen_L0 s [] h = some rz := hp
  obtain ⟨i, b, c, d⟩ := hA
  replace i : Lb (Fm.of m) y z ha 1 m.nxt 12 [(Il s.Wide), (Il s.High), (Il s.Fall), (Il s.A.Lo), (Il s.A.Hi), (Il s.B.Lo), (Il s.B.Hi), (Il s.Half.Lo), (Il s.Half.Hi), (Il s.Peak.Lo), (Il s.Peak.Hi), ca111] := i
  replace b : Lb (Fm.of m) y z ha 2 m0.nxt 13 [(Il 0), (Il 0), (Il 0), (Il 0), (Il 0), (Il 0), (Il 0), (Il 0), (Il 0), (Il 0), (Il 0), .sl0, C.map0] := b
  replace c : Lb (Fm.of m) y z ha 4 ia.nxt 13 [(Il s.Wide), (Il s.High), (Il s.Fall), (Il s.A.Lo), (Il s.A.Hi), (Il s.B.Lo), (Il s.B.Hi), (Il s.Half.Lo), (Il s.Half.Hi), (Il s.Peak.Lo), (Il s.Peak.Hi), ca111, (.map D.nxt)] := c
  replace d : Mo (Fm.of m) y z ha 3 (.map D.nxt) h := d
  rw [popen_L0] at hp
  refine ⟨_, _, _, _, _, _, _, _, _, _, _, _, _, c.bk.ra, ?_⟩
  obtain ⟨Rb, Sb, Tb, Ub, Vb⟩ := b.sto Pb [(Il s.Wide), (Il s.High), (Il s.Fall), (Il s.A.Lo), (Il s.A.Hi), (Il s.B.Lo), (Il s.B.Hi), (Il s.Half.Lo), (Il s.Half.Hi), (Il s.Peak.Lo), (Il s.Peak.Hi), ca111, (.map D.nxt)]
  have Wb := d.k Ub
  refine ⟨Rb, Sb, ?_⟩
  refine ⟨_, _, _, _, _, _, _, _, _, _, _, _, _, Vb.bk.ra, ?_⟩
  obtain ⟨Xb, Yb, Zb, ua⟩ := Wb.freeze Tb
  obtain rfl := Option.some.inj hp
  exact hq _ Xb ca111 (.map D.nxt) Yb.grw (ha111.sub (Sub.trans (Sub.trans g.fs Qb) Zb.fs)) ua
 ·intro id st _ _ _ _ _ _ hn; first | exact hn.elim | (cases hn)
 ·intro st _ _ _ _ _ _ hn; first | exact hn.elim | (cases hn)
theorem s_truthsI {w : Wk} {b0 : Nat} {cb011 cb012 : C} {m f : M} {F : Fm} {n0 ly : Nat} {xs : List (List V)} {I : Nat → (Nat → Prop) → M → Prop} {E : (Nat → Prop) → M → Prop} {S1 : Nat → Prop} {Q : V → M → Prop} {rz : List Trh} {τ0 : Nat → Nat} (hc : Client prog tbl n0 ly xs I E) (S0 : St F f f m) (Y0 : Yg n0 (YJ xs I rz) S1 F f τ0 m) (hb0 : Bk f b0 13 [(.int .i64 w.s.Wide), (.int .i64 w.s.High), (.int .i64 w.s.Fall), (.int .i64 w.s.A.Lo), (.int .i64 w.s.A.Hi), (.int .i64 w.s.B.Lo), (.int .i64 w.s.B.Hi), (.int .i64 w.s.Half.Lo), (.int .i64 w.s.Half.Hi), (.int .i64 w.s.Peak.Lo), (.int .i64 w.s.Peak.Hi), cb011, cb012]) (hb011 : Sl f cb011 w.s.Cards) (hb012 : Mi f cb012 w.right) (hp : ptruthsI w = some rz) (hq : ∀ v m' f' τ' S', St F f f' m' → (Yg n0 (YJ xs I ([] : List Trh)) S' F f' τ' m' ∨ Yg n0 E S' F f' τ' m') → Q v m') : Wc prog tbl 128 [.c (.fn (.yield ly) [] []), .c (.ptr b0 0)] m Q := by
 refine c128 ?_
 unfold ptruthsI at hp
 intro m0 e3850
 obtain ⟨τ3853, S3851, k3852, L3854⟩ := S0.blk e3850 τ0 1
 have Y3855 := Y0.k k3852 (by decide)
 refine ⟨_, _, _, _, _, _, _, _, _, _, _, _, _, (hb0.sub S3851.sub).ra, ?_⟩
 obtain ⟨r3856, g3857, hp⟩ := bsome hp
 refine s_allCards (w := w) S3851.pre hb011 hb012 g3857 fun m15 e3860 => ?_
 obtain ⟨S3858, k3859⟩ := S3851.call e3860 τ3853
 have L3861 := L3854.k k3859 (by decide)
 have Y3862 := Y3855.k k3859 (by decide)
 refine ⟨_, _, _, _, _, _, rfl, ?_⟩
 intro m22 e3863
 obtain ⟨τ3866, S3864, k3865, L3867⟩ := S3858.blk e3863 τ3853 2
 have L3868 := L3861.k k3865 (by decide)
 have Y3869 := Y3862.k k3865 (by decide)
 obtain ⟨m3873, e3872, S3870, k3871, L3874⟩ := L3867.sto S3864 [(.bool r3856.c0), (.bool r3856.c1), (.bool r3856.c2), (.bool r3856.c3), (.bool r3856.c4), (.bool r3856.c5)]
 have L3875 := L3868.k k3871 (by decide)
 have Y3876 := Y3869.k k3871 (by decide)
 refine ⟨m3873, e3872, ?_⟩
 refine ⟨trivial, _, _, _, _, _, _, _, _, _, _, _, _, (hb0.sub S3870.sub).rp (k := 0) (j := 12) rfl (by omega), ?_⟩
 obtain ⟨r3877, g3878, hp⟩ := bsome hp
 refine s_choices (s := w.s) S3870.pre hb011 g3878 fun m37 f3882 c3883 e3881 h3884 => ?_
 obtain ⟨S3879, k3880⟩ := S3870.callG e3881 τ3866
 have L3885 := L3875.k k3880 (by decide)
 have L3886 := L3874.k k3880 (by decide)
 have Y3887 := Y3876.k k3880 (by decide)
 refine ⟨_, rfl, ?_⟩
 refine range_st (α := Trh) S3879 h3884 (σ := (List Trh) × (Nat → Prop) × Bool) 3 (fun st bb => (False ∨ (False ∨ (st.2.1 bb)))) (fun st gG gF gT gM => (Lb gG gF gT gM 1 m.nxt 1 [(.fn (.yield ly) [] [])]) ∧ (Lb gG gF gT gM 2 m15.nxt 6 [(.bool r3856.c0), (.bool r3856.c1), (.bool r3856.c2), (.bool r3856.c3), (.bool r3856.c4), (.bool r3856.c5)]) ∧ (Yg n0 (YD xs I E st.2.2 st.1) st.2.1 gG gF gT gM)) (fun rr_ st => st.2.2 = false ∧ ptruthsI_L0 w r3856 rr_ = some st.1) (fun ex st => (match ex with | .ret => st.2.2 = true ∨ (st.2.2 = false ∧ (0 : Nat) = 0 ∧ ptruthsI_L0_xret = some st.1) | _ => False)) (fun st => (Gud.and (Gud.lb L3885.bk.lt (by decide)) (Gud.and (Gud.lb L3886.bk.lt (by decide)) (Gud.yg Y3887.n (by decide))))) (st0 := (rz, S1, false)) (τ := τ3866) ⟨L3885, L3886, Y3887⟩ ⟨rfl, hp⟩ ?_ ?_ ?_ ?_
 ·intro a3898 q3899 st f3900 τ3901 m40 F3902 o3903 Ok3904 en3905 Kn3906 S3907 s3908 hA rk3909 hp he3910 hk3911
  obtain ⟨r3890, s3891, d3892⟩ := st
  obtain ⟨hdd, hp⟩ := hp
  replace hdd : d3892 = false := hdd
  subst hdd
  obtain ⟨L3888, L3889, Y3893⟩ := hA
  replace L3888 : Lb F3902 f3900 τ3901 m40 1 m.nxt 1 [(.fn (.yield ly) [] [])] := L3888
  replace L3889 : Lb F3902 f3900 τ3901 m40 2 m15.nxt 6 [(.bool r3856.c0), (.bool r3856.c1), (.bool r3856.c2), (.bool r3856.c3), (.bool r3856.c4), (.bool r3856.c5)] := L3889
  replace Y3893 : Yg n0 (YJ xs I r3890) s3891 F3902 f3900 τ3901 m40 := Y3893
  replace hp : ptruthsI_L0 w r3856 (a3898 :: q3899) = some r3890 := hp
  rw [ptruthsI_L0] at hp
  refine ⟨_, _, _, _, rfl, ?_⟩
  intro m47 e3912
  obtain ⟨τ3915, S3913, k3914, L3916⟩ := S3907.blk e3912 τ3901 4
  have L3917 := L3888.k k3914 (by decide)
  have L3918 := L3889.k k3914 (by decide)
  have Y3919 := Y3893.k k3914 (by decide)
  have rk3920 := rk3909.k k3914 (by decide)
  obtain ⟨m3924, e3923, S3921, k3922, L3925⟩ := L3916.sto S3913 [(.int .i64 a3898.A), (.int .i64 a3898.B), (.int .i64 a3898.Half), (.int .i64 a3898.Peak)]
  have L3926 := L3917.k k3922 (by decide)
  have L3927 := L3918.k k3922 (by decide)
  have Y3928 := Y3919.k k3922 (by decide)
  have rk3929 := rk3920.k k3922 (by decide)
  refine ⟨m3924, e3923, ?_⟩
  refine he3910 _ _ _ _ S3921 rk3929 fun m49 o3933 S3930 k3931 rk3932 hO3934 => ?_
  have L3935 := L3926.k k3931 (by decide)
  have L3936 := L3927.k k3931 (by decide)
  have L3937 := L3925.k k3931 (by decide)
  have Y3938 := Y3928.k k3931 (by decide)
  refine ⟨trivial, _, (hb0.sub (Sub.trans (Sub.trans k3880.fs s3908) S3930.sub)).rc rfl, _, _, _, _, L3937.bk.ra, ?_⟩
  obtain ⟨g3939, hp⟩ := gd_some hp
  refine ⟨_, (Mi.sub (hb012.sub (Sub.trans k3880.fs s3908)) S3930.sub).mi.lk kl43 (k := a3898) g3939 rfl, ?_⟩
  cases hv3940 : (mget w.right a3898) with
  | none =>
   rw [mcase_none hv3940] at hp
   refine ⟨fun _ => ?_, fun u hu => (by cases hu)⟩
   refine ⟨_, _, _, _, _, _, L3936.bk.ra, ?_⟩
   refine ifbb hp (fun q3942 hp => ?_) fun q3942 hp => ?_; rotate_left
   ·exact hk3911 .nrm (r3890, s3891, false) _ _ _ _ S3930 ⟨L3935, L3936, Y3938⟩ rk3932 hO3934 ⟨rfl, hp⟩
   refine ⟨_, L3935.bk.rc rfl, _, _, _, _, L3937.bk.ra, ?_⟩
   obtain ⟨r3943, hp3945, hz3944⟩ := bsome hp
   clear hp
   obtain rfl := Option.some.inj hz3944
   have hp := hp3945
   show Wy prog tbl ly (IV.encs (a3898 : Trh)) _ _
   refine Yg.yield hc S3930 Y3938 ?_ ?_
   ·intro m68 τ3946 s3950 S3947 k3948 Y3949
    have L3951 := L3935.k k3948 (by decide)
    have L3952 := L3936.k k3948 (by decide)
    have L3953 := L3937.k k3948 (by decide)
    have rk3954 := rk3932.k k3948 (by decide)
    refine ⟨_, rfl, ?_⟩
    refine ifB_f' ?_
    exact hk3911 .nrm (r3943, s3950, false) _ _ _ _ S3947 ⟨L3951, L3952, Y3949⟩ rk3954 hO3934 ⟨rfl, hp⟩
   ·intro m68 τ3955 s3959 S3956 k3957 Y3958
    have L3960 := L3935.k k3957 (by decide)
    have L3961 := L3936.k k3957 (by decide)
    have L3962 := L3937.k k3957 (by decide)
    have rk3963 := rk3932.k k3957 (by decide)
    refine ⟨_, rfl, ?_⟩
    refine ifB_t' ?_
    exact hk3911 .ret ([], s3959, true) _ _ _ _ S3956 ⟨L3960, L3961, Y3958⟩ rk3963 hO3934 (.inl rfl)
  | some w3941 =>
   rw [mcase_some hv3940] at hp
   refine ⟨fun h => (by cases h), fun u hu => ?_⟩
   obtain rfl := Option.some.inj hu
   refine ⟨_, _, _, _, _, _, rfl, _, _, _, _, _, _, L3936.bk.ra, ?_⟩
   refine ifbb hp (fun q3964 hp => ?_) fun q3964 hp => ?_; rotate_left
   ·exact hk3911 .nrm (r3890, s3891, false) _ _ _ _ S3930 ⟨L3935, L3936, Y3938⟩ rk3932 hO3934 ⟨rfl, hp⟩
   refine ⟨_, L3935.bk.rc rfl, _, _, _, _, L3937.bk.ra, ?_⟩
   obtain ⟨r3965, hp3967, hz3966⟩ := bsome hp
   clear hp
   obtain rfl := Option.some.inj hz3966
   have hp := hp3967
   show Wy prog tbl ly (IV.encs (a3898 : Trh)) _ _
   refine Yg.yield hc S3930 Y3938 ?_ ?_
   ·intro m89 τ3968 s3972 S3969 k3970 Y3971
    have L3973 := L3935.k k3970 (by decide)
    have L3974 := L3936.k k3970 (by decide)
    have L3975 := L3937.k k3970 (by decide)
    have rk3976 := rk3932.k k3970 (by decide)
    refine ⟨_, rfl, ?_⟩
    refine ifB_f' ?_
    exact hk3911 .nrm (r3965, s3972, false) _ _ _ _ S3969 ⟨L3973, L3974, Y3971⟩ rk3976 hO3934 ⟨rfl, hp⟩
   ·intro m89 τ3977 s3981 S3978 k3979 Y3980
    have L3982 := L3935.k k3979 (by decide)
    have L3983 := L3936.k k3979 (by decide)
    have L3984 := L3937.k k3979 (by decide)
    have rk3985 := rk3932.k k3979 (by decide)
    refine ⟨_, rfl, ?_⟩
    refine ifB_t' ?_
    exact hk3911 .ret ([], s3981, true) _ _ _ _ S3978 ⟨L3982, L3983, Y3980⟩ rk3985 hO3934 (.inl rfl)
 ·intro st f3986 τ3988 m91 S3989 s3987 hA hp
  obtain ⟨r3890, s3891, d3892⟩ := st
  obtain ⟨hdd, hp⟩ := hp
  replace hdd : d3892 = false := hdd
  subst hdd
  replace hp : ptruthsI_L0 w r3856 [] = some r3890 := hp
  obtain ⟨L3888, L3889, Y3893⟩ := hA
  replace L3888 : Lb F f3986 τ3988 m91 1 m.nxt 1 [(.fn (.yield ly) [] [])] := L3888
  replace L3889 : Lb F f3986 τ3988 m91 2 m15.nxt 6 [(.bool r3856.c0), (.bool r3856.c1), (.bool r3856.c2), (.bool r3856.c3), (.bool r3856.c4), (.bool r3856.c5)] := L3889
  replace Y3893 : Yg n0 (YJ xs I r3890) s3891 F f3986 τ3988 m91 := Y3893
  rw [ptruthsI_L0] at hp
  obtain rfl := Option.some.inj hp
  exact hq _ _ _ _ _ S3989 (.inl Y3893)
 ·intro id st _ _ _ _ _ _ hn; first | exact hn.elim | (cases hn)
 ·intro st f3894 τ3896 m92 S3897 s3895 hA hn
  obtain ⟨r3890, s3891, d3892⟩ := st
  rcases hn with hd | ⟨hd, hid, hp⟩
  ·replace hd : d3892 = true := hd
   subst hd
   obtain ⟨L3888, L3889, Y3893⟩ := hA
   replace L3888 : Lb F f3894 τ3896 m92 1 m.nxt 1 [(.fn (.yield ly) [] [])] := L3888
   replace L3889 : Lb F f3894 τ3896 m92 2 m15.nxt 6 [(.bool r3856.c0), (.bool r3856.c1), (.bool r3856.c2), (.bool r3856.c3), (.bool r3856.c4), (.bool r3856.c5)] := L3889
   replace Y3893 : Yg n0 E s3891 F f3894 τ3896 m92 := Y3893
   exact hq _ _ _ _ _ S3897 (.inr Y3893)
  replace hd : d3892 = false := hd
  subst hd
  replace hp : ptruthsI_L0_xret = some r3890 := hp
  unfold ptruthsI_L0_xret at hp
  obtain ⟨L3888, L3889, Y3893⟩ := hA
  replace L3888 : Lb F f3894 τ3896 m92 1 m.nxt 1 [(.fn (.yield ly) [] [])] := L3888
  replace L3889 : Lb F f3894 τ3896 m92 2 m15.nxt 6 [(.bool r3856.c0), (.bool r3856.c1), (.bool r3856.c2), (.bool r3856.c3), (.bool r3856.c4), (.bool r3856.c5)] := L3889
  replace Y3893 : Yg n0 (YJ xs I r3890) s3891 F f3894 τ3896 m92 := Y3893
  obtain rfl := Option.some.inj hp
  exact hq _ _ _ _ _ S3897 (.inl Y3893)
theorem s_truths {w : Wk} {ca111 ca112 : C} {m f : M} {Q : V → M → Prop} {rz : List Trh} (hS : Pre f m) (ha111 : Sl f ca111 w.s.Cards) (ha112 : Mi f ca112 w.right) (hp : ptruths w = some rz) (hq : ∀ m' f' c0, Grw m f m' f' → It prog tbl f' c0 rz → Q (.c c0) m') : Wc prog tbl 108 [.agg 13 [(Il w.s.Wide), (Il w.s.High), (Il w.s.Fall), (Il w.s.A.Lo), (Il w.s.A.Hi), (Il w.s.B.Lo), (Il w.s.B.Hi), (Il w.s.Half.Lo), (Il w.s.Half.Hi), (Il w.s.Peak.Lo), (Il w.s.Peak.Hi), ca111, ca112]] m Q := by
 have q := hS.st
 obtain ⟨r, _⟩ : ∃ τ : Nat → Nat, True := ⟨fun _ => 0, trivial⟩
 refine w108 ?_
 unfold ptruths at hp
 intro t h
 obtain ⟨o, i, p, j⟩ := q.blk h r 1
 obtain ⟨b, a, d, e⟩ := j.freeze i
 obtain ⟨l, n, hp⟩ := bsome hp
 have g : It prog tbl b ((C.fn (Fn.func 128) [] [(W.c (C0.ptr m.nxt 0))])) l := it_of a.fz a.fv fun u ly I E hc x y z D hS hY Q hq => s_truthsI hc hS hY e (ha111.sub d.fs) (ha112.sub d.fs) n hq
 obtain rfl := Option.some.inj hp
 exact hq _ b (C.fn (Fn.func 128) [] [(W.c (C0.ptr m.nxt 0))]) a.grw g
theorem s_canHold {w : Wk} {these : Cds} {ca111 ca112 : C} {m f : M} {Q : V → M → Prop} {rz : Bool} (hS : Pre f m) (ha111 : Sl f ca111 w.s.Cards) (ha112 : Mi f ca112 w.right) (hp : pcanHold w these = some rz) (hq : ∀ m', Ext m m' → Q (.c (.bool rz)) m') : Wc prog tbl 82 [.agg 13 [(Il w.s.Wide), (Il w.s.High), (Il w.s.Fall), (Il w.s.A.Lo), (Il w.s.A.Hi), (Il w.s.B.Lo), (Il w.s.B.Hi), (Il w.s.Half.Lo), (Il w.s.Half.Hi), (Il w.s.Peak.Lo), (Il w.s.Peak.Hi), ca111, ca112], .agg 6 [(.bool these.c0), (.bool these.c1), (.bool these.c2), (.bool these.c3), (.bool these.c4), (.bool these.c5)]] m Q := by
 have S0 := hS.st
 obtain ⟨τ0, _⟩ : ∃ τ : Nat → Nat, True := ⟨fun _ => 0, trivial⟩
 refine w82 ?_
 unfold pcanHold at hp
 intro m0 Da
 obtain ⟨Ea, Fa, Sb, Ga⟩ := S0.blk Da τ0 1
 intro m1 Ia
 obtain ⟨Ja, Ka, La, Ma⟩ := Fa.blk Ia Ea 2
 have Na := Ga.k La
 intro m2 Oa
 obtain ⟨da, ea, fa, Pa⟩ := Ka.blk Oa Ja 3
 have ga := Na.k fa
 have Qa := Ma.k fa
 refine ⟨trivial, _, _, _, _, _, _, _, _, _, _, _, _, ga.bk.rp (k := 0) (j := 12) rfl (by omega), ?_⟩
 obtain ⟨Tb, Ra, hp⟩ := bsome hp
 refine s_choices (s := w.s) ea.pre ha111 Ra fun fc Ub Vb Sa Ta => ?_
 obtain ⟨Ua, p⟩ := ea.callG Sa da
 have ha := ga.k p
 have ia := Qa.k p
 have ja := Pa.k p
 refine ⟨_, rfl, ?_⟩
 refine range_st (α := Trh) Ua Ta (σ := Bool) 4 (fun st bb => (False ∨ (False ∨ False))) (fun st gG gF gT gM => (Lb gG gF gT gM 1 m.nxt 13 [(Il w.s.Wide), (Il w.s.High), (Il w.s.Fall), (Il w.s.A.Lo), (Il w.s.A.Hi), (Il w.s.B.Lo), (Il w.s.B.Hi), (Il w.s.Half.Lo), (Il w.s.Half.Hi), (Il w.s.Peak.Lo), (Il w.s.Peak.Hi), ca111, ca112]) ∧ (Lb gG gF gT gM 2 m0.nxt 6 [(.bool these.c0), (.bool these.c1), (.bool these.c2), (.bool these.c3), (.bool these.c4), (.bool these.c5)]) ∧ (Lb gG gF gT gM 3 m1.nxt 1 [(.bool st)])) (fun rr_ st => pcanHold_L0 w these rr_ st = some rz) (fun ex st => (match ex with | .ret => (0 : Nat) = 0 ∧ pcanHold_L0_xret st = some rz | _ => False)) (fun st => (Gud.and (Gud.lb ha.bk.lt (by decide)) (Gud.and (Gud.lb ia.bk.lt (by decide)) (Gud.lb ja.bk.lt (by decide))))) (st0 := (false)) (τ := da) ⟨ha, ia, ja⟩ hp ?_ ?_ ?_ ?_
 ·intro g Va b D q ta F Wb Pb Qb Rb Wa Xa hA ua hp va l
  obtain ⟨d, e, a⟩ := hA
  replace d : Lb F D q ta 1 m.nxt 13 [(Il w.s.Wide), (Il w.s.High), (Il w.s.Fall), (Il w.s.A.Lo), (Il w.s.A.Hi), (Il w.s.B.Lo), (Il w.s.B.Hi), (Il w.s.Half.Lo), (Il w.s.Half.Hi), (Il w.s.Peak.Lo), (Il w.s.Peak.Hi), ca111, ca112] := d
  replace e : Lb F D q ta 2 m0.nxt 6 [(.bool these.c0), (.bool these.c1), (.bool these.c2), (.bool these.c3), (.bool these.c4), (.bool these.c5)] := e
  replace a : Lb F D q ta 3 m1.nxt 1 [(.bool b)] := a
  replace hp : pcanHold_L0 w these (g :: Va) b = some rz := hp
  rw [pcanHold_L0] at hp
  refine ⟨_, _, _, _, rfl, ?_⟩
  intro gc Ya
  obtain ⟨ka, Za, r, ab⟩ := Wa.blk Ya q 5
  have cb := d.k r
  have db := e.k r
  have eb := a.k r
  have wa := ua.k r
  obtain ⟨fb, gb, hb, t, ib⟩ := ab.sto Za [(Il g.A), (Il g.B), (Il g.Half), (Il g.Peak)]
  have jb := cb.k t
  have kb := db.k t
  have mb := eb.k t
  have xa := wa.k t
  refine ⟨fb, gb, ?_⟩
  refine va _ _ _ _ hb xa fun ic Xb n x Z o => ?_
  have G := jb.k x
  have i := kb.k x
  have la := mb.k x
  have nb := ib.k x
  refine ⟨trivial, _, G.bk.rc rfl, _, _, _, _, nb.bk.ra, ?_⟩
  obtain ⟨ob, hp⟩ := gd_some hp
  refine ⟨_, (Mi.sub (ha112.sub (Sub.trans p.fs Xa)) n.sub).mi.lk kl43 (k := g) ob rfl, ?_⟩
  cases aa : (mget w.right g) with
  | none =>
   rw [mcase_none aa] at hp
   refine ⟨fun _ => ?_, fun u hu => (by cases hu)⟩
   refine ⟨_, _, _, _, _, _, i.bk.ra, ?_⟩
   obtain ⟨Yb, pb, hp⟩ := bsome hp
   refine s_among (c := ({ c0 := false, c1 := false, c2 := false, c3 := false, c4 := false, c5 := false } : Cds)) (these := these) n.pre  pb fun jc qb => ?_
   obtain ⟨ma, y⟩ := n.call qb ka
   have na := G.k y
   have I := i.k y
   have oa := la.k y
   have ba := Z.k y
   refine ⟨_, _, _, _, _, _, rfl, _, _, _, _, _, _, I.bk.ra, (i.bk.ra), ?_⟩
   refine ifbb hp (fun rb hp => ?_) fun rb hp => ?_; rotate_left
   ·exact l .nrm (b) _ _ _ _ ma ⟨na, I, oa⟩ ba o hp
   obtain ⟨sb, tb, ub, J, vb⟩ := oa.sto ma [(.bool true)]
   have wb := na.k J
   have xb := I.k J
   have ya := ba.k J
   refine ⟨sb, tb, ?_⟩
   exact l .ret (true) _ _ _ _ ub ⟨wb, xb, vb⟩ ya o ⟨rfl, hp⟩
  | some yb =>
   rw [mcase_some aa] at hp
   refine ⟨fun h => (by cases h), fun u hu => ?_⟩
   obtain rfl := Option.some.inj hu
   refine ⟨_, _, _, _, _, _, rfl, _, _, _, _, _, _, i.bk.ra, ?_⟩
   obtain ⟨Zb, zb, hp⟩ := bsome hp
   refine s_among (c := yb) (these := these) n.pre  zb fun kc Ab => ?_
   obtain ⟨pa, z⟩ := n.call Ab ka
   have qa := G.k z
   have N := i.k z
   have sa := la.k z
   have ca := Z.k z
   refine ⟨_, _, _, _, _, _, rfl, _, _, _, _, _, _, N.bk.ra, (i.bk.ra), ?_⟩
   refine ifbb hp (fun Bb hp => ?_) fun Bb hp => ?_; rotate_left
   ·exact l .nrm (b) _ _ _ _ pa ⟨qa, N, sa⟩ ca o hp
   obtain ⟨Cb, Db, Eb, O, Fb⟩ := sa.sto pa [(.bool true)]
   have Gb := qa.k O
   have Hb := N.k O
   have za := ca.k O
   refine ⟨Cb, Db, ?_⟩
   exact l .ret (true) _ _ _ _ Eb ⟨Gb, Hb, Fb⟩ za o ⟨rfl, hp⟩
 ·intro b P S Aa Ib ac hA hp
  replace hp : pcanHold_L0 w these [] b = some rz := hp
  obtain ⟨d, e, a⟩ := hA
  replace d : Lb (Fm.of m) P S Aa 1 m.nxt 13 [(Il w.s.Wide), (Il w.s.High), (Il w.s.Fall), (Il w.s.A.Lo), (Il w.s.A.Hi), (Il w.s.B.Lo), (Il w.s.B.Hi), (Il w.s.Half.Lo), (Il w.s.Half.Hi), (Il w.s.Peak.Lo), (Il w.s.Peak.Hi), ca111, ca112] := d
  replace e : Lb (Fm.of m) P S Aa 2 m0.nxt 6 [(.bool these.c0), (.bool these.c1), (.bool these.c2), (.bool these.c3), (.bool these.c4), (.bool these.c5)] := e
  replace a : Lb (Fm.of m) P S Aa 3 m1.nxt 1 [(.bool b)] := a
  rw [pcanHold_L0] at hp
  obtain ⟨Jb, Kb, Mb, bc, Nb⟩ := a.sto Ib [(.bool false)]
  refine ⟨Jb, Kb, ?_⟩
  refine ⟨_, Nb.bk.rc rfl, ?_⟩
  obtain rfl := Option.some.inj hp
  exact hq _ Mb.ext'
 ·intro id st _ _ _ _ _ _ hn; first | exact hn.elim | (cases hn)
 ·intro b T Y Ba Ob cc hA hn
  obtain ⟨hid, hp⟩ := hn
  replace hp : pcanHold_L0_xret b = some rz := hp
  unfold pcanHold_L0_xret at hp
  obtain ⟨d, e, a⟩ := hA
  replace d : Lb (Fm.of m) T Y Ba 1 m.nxt 13 [(Il w.s.Wide), (Il w.s.High), (Il w.s.Fall), (Il w.s.A.Lo), (Il w.s.A.Hi), (Il w.s.B.Lo), (Il w.s.B.Hi), (Il w.s.Half.Lo), (Il w.s.Half.Hi), (Il w.s.Peak.Lo), (Il w.s.Peak.Hi), ca111, ca112] := d
  replace e : Lb (Fm.of m) T Y Ba 2 m0.nxt 6 [(.bool these.c0), (.bool these.c1), (.bool these.c2), (.bool these.c3), (.bool these.c4), (.bool these.c5)] := e
  replace a : Lb (Fm.of m) T Y Ba 3 m1.nxt 1 [(.bool b)] := a
  refine ⟨_, a.bk.rc rfl, ?_⟩
  obtain rfl := Option.some.inj hp
  exact hq _ Ob.ext'
theorem s_hasTruth {w : Wk} {ca111 ca112 : C} {m f : M} {Q : V → M → Prop} {rz : Bool} (hS : Pre f m) (ha111 : Sl f ca111 w.s.Cards) (ha112 : Mi f ca112 w.right) (hp : phasTruth w = some rz) (hq : ∀ m', Ext m m' → Q (.c (.bool rz)) m') : Wc prog tbl 86 [.agg 13 [(Il w.s.Wide), (Il w.s.High), (Il w.s.Fall), (Il w.s.A.Lo), (Il w.s.A.Hi), (Il w.s.B.Lo), (Il w.s.B.Hi), (Il w.s.Half.Lo), (Il w.s.Half.Hi), (Il w.s.Peak.Lo), (Il w.s.Peak.Hi), ca111, ca112]] m Q := by
 have x := hS.st
 obtain ⟨y, _⟩ : ∃ τ : Nat → Nat, True := ⟨fun _ => 0, trivial⟩
 refine w86 ?_
 unfold phasTruth at hp
 intro F g
 obtain ⟨b, d, r, a⟩ := x.blk g y 1
 refine ⟨_, _, _, _, _, _, _, _, _, _, _, _, _, a.bk.ra, _, _, _, _, _, _, _, _, _, _, _, _, _, a.bk.ra, ?_⟩
 obtain ⟨h, i, hp⟩ := bsome hp
 refine s_allCards (w := w) d.pre ha111 ha112 i fun z j => ?_
 obtain ⟨e, l⟩ := d.call j b
 have n := a.k l
 refine ⟨_, _, _, _, _, _, rfl, (by rw [show allS cmC _ = true from cmL_of (nf_cons rfl (nf_cons rfl (nf_cons rfl (nf_cons rfl (nf_cons rfl (nf_cons rfl (nf_cons rfl (nf_cons rfl (nf_cons rfl (nf_cons rfl (nf_cons rfl (nf_cons ha111.noFn (nf_cons ha112.noFn nf_nil)))))))))))))]; exact (n.bk.ra)), ?_⟩
 obtain ⟨t, o, hp⟩ := bsome hp
 refine s_canHold (w := w) (these := h) e.pre ha111 ha112 o fun D p => ?_
 obtain ⟨q, u⟩ := e.call p b
 refine ⟨_, rfl, ?_⟩
 obtain rfl := Option.some.inj hp
 exact hq _ q.ext'
theorem s_openTrue {s : Stm} {asked : List Rct} {ca111 ca200 : C} {m f : M} {Q : V → M → Prop} {rz : Wk × Int} (hS : Pre f m) (ha111 : Sl f ca111 s.Cards) (ha200 : Sl f ca200 asked) (hp : popenTrue s asked = some rz) (hq : ∀ m' f' c11 c12, Grw m f m' f' → Sl f' c11 rz.1.s.Cards → Mi f' c12 rz.1.right → Q (.tup [.agg 13 [(Il rz.1.s.Wide), (Il rz.1.s.High), (Il rz.1.s.Fall), (Il rz.1.s.A.Lo), (Il rz.1.s.A.Hi), (Il rz.1.s.B.Lo), (Il rz.1.s.B.Hi), (Il rz.1.s.Half.Lo), (Il rz.1.s.Half.Hi), (Il rz.1.s.Peak.Lo), (Il rz.1.s.Peak.Hi), c11, c12], .c (Il rz.2)]) m') : Wc prog tbl 68 [.agg 12 [(Il s.Wide), (Il s.High), (Il s.Fall), (Il s.A.Lo), (Il s.A.Hi), (Il s.B.Lo), (Il s.B.Hi), (Il s.Half.Lo), (Il s.Half.Hi), (Il s.Peak.Lo), (Il s.Peak.Hi), ca111], .c ca200] m Q := by
 have S0 := hS.st
 obtain ⟨τ0, _⟩ : ∃ τ : Nat → Nat, True := ⟨fun _ => 0, trivial⟩
 refine w68 ?_
 unfold popenTrue at hp
 intro m0 O
 obtain ⟨P, S, Va, T⟩ := S0.blk O τ0 1
 intro m1 Y
 obtain ⟨b, j, Z, aa⟩ := S.blk Y P 2
 have n := T.k Z
 refine ⟨_, _, _, _, _, _, _, _, _, _, _, _, n.bk.ra, ?_⟩
 obtain ⟨Wa, ba, hp⟩ := bsome hp
 refine s_check (s := s) j.pre ha111 ba fun gb ca => ?_
 obtain ⟨e, o⟩ := j.call ca b
 have p := n.k o
 have q := aa.k o
 refine ⟨_, rfl, ?_⟩
 refine ifnd hp (fun da hp => ?_) fun da hp => ?_
 ·obtain ⟨ea, fa, ga, Xa, ha⟩ := q.sto e [(Il 0), (Il 0), (Il 0), (Il 0), (Il 0), (Il 0), (Il 0), (Il 0), (Il 0), (Il 0), (Il 0), .sl0, C.map0]
  refine ⟨ea, fa, ?_⟩
  refine ⟨_, _, _, _, _, _, _, _, _, _, _, _, _, ha.bk.ra, ?_⟩
  obtain rfl := Option.some.inj hp
  exact hq _ f .sl0 C.map0 ga.grw (Sl.nil _) (show Mi _ .map0 none from rfl)
 refine ⟨_, _, _, _, _, _, _, _, _, _, _, _, p.bk.ra, ?_⟩
 obtain ⟨Sa, Ta, Ua⟩ : ∃ ws, mapO vW [.agg 12 [(Il s.Wide), (Il s.High), (Il s.Fall), (Il s.A.Lo), (Il s.A.Hi), (Il s.B.Lo), (Il s.B.Hi), (Il s.Half.Lo), (Il s.Half.Hi), (Il s.Peak.Lo), (Il s.Peak.Hi), ca111]] = some ws ∧ mapS wV ws = [.agg 12 [(Il s.Wide), (Il s.High), (Il s.Fall), (Il s.A.Lo), (Il s.A.Hi), (Il s.B.Lo), (Il s.B.Hi), (Il s.Half.Lo), (Il s.Half.Hi), (Il s.Peak.Lo), (Il s.Peak.Hi), ca111]] := (vWs_cons (vW_agg (nf_cons rfl (nf_cons rfl (nf_cons rfl (nf_cons rfl (nf_cons rfl (nf_cons rfl (nf_cons rfl (nf_cons rfl (nf_cons rfl (nf_cons rfl (nf_cons rfl (nf_cons ha111.noFn nf_nil))))))))))))) vWs_nil)
 rw [Ta, optB_some]
 have N : Fv_Rct_Bool f ((C.fn (Fn.func 107) Sa [])) (fun d => phasRect s d) := by
  intro f' m' d r Q hs hpre  hg hq
  show Wc prog tbl 107 (appS (mapS wV Sa) _) m' Q
  rw [Ua]
  exact s_hasRect hpre (ha111.sub hs) hg hq
 obtain ⟨Ya, ia, hp⟩ := bsome hp
 refine s_eachR (l := asked) (passes := (fun d => phasRect s d)) e.pre ha200 N ia fun hb ja => ?_
 obtain ⟨g, t⟩ := e.call ja b
 have ka := p.k t
 have u := q.k t
 refine ⟨_, rfl, ?_⟩
 refine ifnb hp (fun la hp => ?_) fun la hp => ?_
 ·obtain ⟨ma, na, oa, Za, pa⟩ := u.sto g [(Il 0), (Il 0), (Il 0), (Il 0), (Il 0), (Il 0), (Il 0), (Il 0), (Il 0), (Il 0), (Il 0), .sl0, C.map0]
  refine ⟨ma, na, ?_⟩
  refine ⟨_, _, _, _, _, _, _, _, _, _, _, _, _, pa.bk.ra, ?_⟩
  obtain rfl := Option.some.inj hp
  exact hq _ f .sl0 C.map0 oa.grw (Sl.nil _) (show Mi _ .map0 none from rfl)
 refine ⟨_, _, _, _, _, _, _, _, _, _, _, _, ka.bk.ra, ?_⟩
 obtain ⟨a, qa, hp⟩ := bsome hp
 refine s_open (s := s) g.pre ha111 qa fun ib x h i sa y z => ?_
 obtain ⟨ta, ua⟩ := g.callG sa b
 have va := u.k ua
 refine ⟨_, _, _, _, _, _, _, _, _, _, _, _, _, rfl, ?_⟩
 intro jb wa
 obtain ⟨xa, ya, za, Aa⟩ := ta.blk wa b 3
 have Ba := va.k za
 obtain ⟨Ca, Da, D, Ea, F⟩ := Aa.sto ya [(Il a.s.Wide), (Il a.s.High), (Il a.s.Fall), (Il a.s.A.Lo), (Il a.s.A.Hi), (Il a.s.B.Lo), (Il a.s.B.Hi), (Il a.s.Half.Lo), (Il a.s.Half.Hi), (Il a.s.Peak.Lo), (Il a.s.Peak.Hi), h, i]
 have Fa := Ba.k Ea
 refine ⟨Ca, Da, ?_⟩
 refine ⟨_, _, _, _, _, _, _, _, _, _, _, _, _, F.bk.ra, ?_⟩
 obtain ⟨ab, Ga, hp⟩ := bsome hp
 refine s_hasTruth (w := a) D.pre y z Ga fun fb Ha => ?_
 obtain ⟨G, I⟩ := D.call Ha xa
 have J := Fa.k I
 have Ia := F.k I
 refine ⟨_, rfl, ?_⟩
 refine ifnb hp (fun Ja hp => ?_) fun Ja hp => ?_
 ·obtain ⟨Ka, La, Ma, bb, Na⟩ := J.sto G [(Il 0), (Il 0), (Il 0), (Il 0), (Il 0), (Il 0), (Il 0), (Il 0), (Il 0), (Il 0), (Il 0), .sl0, C.map0]
  refine ⟨Ka, La, ?_⟩
  refine ⟨_, _, _, _, _, _, _, _, _, _, _, _, _, Na.bk.ra, ?_⟩
  obtain rfl := Option.some.inj hp
  exact hq _ x .sl0 C.map0 Ma.grw (Sl.nil _) (show Mi _ .map0 none from rfl)
 refine ⟨_, _, _, _, _, _, _, _, _, _, _, _, _, Ia.bk.ra, ?_⟩
 obtain ⟨Oa, Pa, Qa, cb, Ra⟩ := J.sto G [(Il a.s.Wide), (Il a.s.High), (Il a.s.Fall), (Il a.s.A.Lo), (Il a.s.A.Hi), (Il a.s.B.Lo), (Il a.s.B.Hi), (Il a.s.Half.Lo), (Il a.s.Half.Hi), (Il a.s.Peak.Lo), (Il a.s.Peak.Hi), h, i]
 refine ⟨Oa, Pa, ?_⟩
 refine ⟨_, _, _, _, _, _, _, _, _, _, _, _, _, Ra.bk.ra, ?_⟩
 obtain rfl := Option.some.inj hp
 exact hq _ x h i Qa.grw y z
end
end Go.Proofs.Ytbnfnhfanooplaa

namespace Go.Proofs.Ytbnfnhfanooplaa
open _root_.Go.Proofs.Try
open Go.Abs
set_option maxRecDepth 100000
noncomputable section
theorem s_tally {w : Wk} {ca111 ca112 : C} {m f : M} {Q : V → M → Prop} {rz : List Int × Int} (hS : Pre f m) (ha111 : Sl f ca111 w.s.Cards) (ha112 : Mi f ca112 w.right) (hp : ptally w = some rz) (hq : ∀ m', Ext m m' → Q (.tup [.agg 144 (rz.1.map (C.int .i64)), .c (Il rz.2)]) m') : Wc prog tbl 76 [.agg 13 [(Il w.s.Wide), (Il w.s.High), (Il w.s.Fall), (Il w.s.A.Lo), (Il w.s.A.Hi), (Il w.s.B.Lo), (Il w.s.B.Hi), (Il w.s.Half.Lo), (Il w.s.Half.Hi), (Il w.s.Peak.Lo), (Il w.s.Peak.Hi), ca111, ca112]] m Q := by
 have S0 := hS.st
 obtain ⟨τ0, _⟩ : ∃ τ : Nat → Nat, True := ⟨fun _ => 0, trivial⟩
 refine w76 ?_
 unfold ptally at hp
 intro m0 Jb
 obtain ⟨Kb, Mb, Ld, Nb⟩ := S0.blk Jb τ0 1
 intro m1 Ob
 obtain ⟨Pb, Qb, Rb, la⟩ := Mb.blk Ob Kb 2
 replace la : Lb _ _ _ _ _ _ _ ((List.replicate 144 (0 : Int)).map (C.int .i64)) := la
 have Sb := Nb.k Rb
 intro m2 Tb
 obtain ⟨Ba, Ca, Da, Ub⟩ := Qb.blk Tb Pb 3
 have Ea := Sb.k Da
 have Vb := la.k Da
 refine ⟨_, _, _, _, _, _, _, _, _, _, _, _, _, Ea.bk.ra, ?_⟩
 obtain ⟨Md, Wb, hp⟩ := bsome hp
 refine s_truths (w := w) Ca.pre ha111 ha112 Wb fun Fa Nd Od Xb Yb => ?_
 obtain ⟨Zb, J⟩ := Ca.callG Xb Ba
 have Ga := Ea.k J
 have Ha := Vb.k J
 have Ia := Ub.k J
 refine ⟨_, rfl, ?_⟩
 refine range_st (α := Trh) Zb Yb (σ := (List Int) × Int) 4 (fun st bb => (False ∨ (False ∨ False))) (fun st gG gF gT gM => (Lb gG gF gT gM 1 m.nxt 13 [(Il w.s.Wide), (Il w.s.High), (Il w.s.Fall), (Il w.s.A.Lo), (Il w.s.A.Hi), (Il w.s.B.Lo), (Il w.s.B.Hi), (Il w.s.Half.Lo), (Il w.s.Half.Hi), (Il w.s.Peak.Lo), (Il w.s.Peak.Hi), ca111, ca112]) ∧ (Lb gG gF gT gM 2 m0.nxt 144 (st.1.map (C.int .i64))) ∧ (Lb gG gF gT gM 3 m1.nxt 1 [(Il st.2)])) (fun rr_ st => ptally_L0 w rr_ st.1 st.2 = some rz) (fun ex st => (match ex with | .ret => (0 : Nat) = 0 ∧ ptally_L0_xret st.1 st.2 = some rz | _ => False)) (fun st => (Gud.and (Gud.lb Ga.bk.lt (by decide)) (Gud.and (Gud.lb Ha.bk.lt (by decide)) (Gud.lb Ia.bk.lt (by decide))))) (st0 := ((List.replicate 144 (0 : Int)), (0 : Int))) (τ := Ba) ⟨Ga, Ha, Ia⟩ hp ?_ ?_ ?_ ?_
 ·intro a ba st ma ca aa n Pd Ad Bd Cd ac Ja hA jb hp kb mb
  obtain ⟨g, b⟩ := st
  obtain ⟨h, d, e⟩ := hA
  replace h : Lb n ma ca aa 1 m.nxt 13 [(Il w.s.Wide), (Il w.s.High), (Il w.s.Fall), (Il w.s.A.Lo), (Il w.s.A.Hi), (Il w.s.B.Lo), (Il w.s.B.Hi), (Il w.s.Half.Lo), (Il w.s.Half.Hi), (Il w.s.Peak.Lo), (Il w.s.Peak.Hi), ca111, ca112] := h
  replace d : Lb n ma ca aa 2 m0.nxt 144 (g.map (C.int .i64)) := d
  replace e : Lb n ma ca aa 3 m1.nxt 1 [(Il b)] := e
  replace hp : ptally_L0 w (a :: ba) g b = some rz := hp
  rw [ptally_L0] at hp
  refine ⟨_, _, _, _, rfl, ?_⟩
  intro Zd bc
  obtain ⟨na, cc, da, dc⟩ := ac.blk bc ca 5
  have ec := h.k da
  have fc := d.k da
  have gc := e.k da
  have nb := jb.k da
  obtain ⟨ic, jc, kc, ea, lc⟩ := dc.sto cc [(Il a.A), (Il a.B), (Il a.Half), (Il a.Peak)]
  have nc := ec.k ea
  have oc := fc.k ea
  have pc := gc.k ea
  have ob := nb.k ea
  refine ⟨ic, jc, ?_⟩
  refine kb _ _ _ _ kc ob fun ae oa qc fa pb qb => ?_
  have sc := nc.k fa
  have tc := oc.k fa
  have Ka := pc.k fa
  have uc := lc.k fa
  refine ⟨_, Ka.bk.rc rfl, ?_⟩
  refine gdi hp fun vc hp => ?_
  obtain ⟨wc, xc, La, ga, yc⟩ := Ka.sto qc [(Il (b + 1))]
  have Ma := sc.k ga
  have zc := tc.k ga
  have Ac := uc.k ga
  have rb := pb.k ga
  refine ⟨wc, xc, ?_⟩
  refine ⟨trivial, _, _, _, _, _, _, _, _, _, _, _, _, Ma.bk.rp (k := 0) (j := 12) rfl (by omega), ?_⟩
  obtain ⟨Bc, Cc, hp⟩ := bsome hp
  refine s_grid (s := w.s) La.pre (ha111.sub (Sub.trans J.fs Ja)) Cc fun be Dc => ?_
  obtain ⟨Na, N⟩ := La.call Dc na
  have Ec := Ma.k N
  have Fc := zc.k N
  have Gc := yc.k N
  have Hc := Ac.k N
  have sb := rb.k N
  refine ⟨_, _, _, _, rfl, ?_⟩
  obtain ⟨Qd, Ic, hp⟩ := bsome hp
  refine s_places (r := Bc) Na.pre  Ic fun ce Rd Sd Jc Kc => ?_
  obtain ⟨Lc, D⟩ := Na.callG Jc na
  have Oa := Ec.k D
  have Pa := Fc.k D
  have Qa := Gc.k D
  have Ra := Hc.k D
  have wa := sb.k D
  refine ⟨_, rfl, ?_⟩
  refine range_st (α := Int × Int) Lc Kc (σ := (List Int)) 6 (fun st bb => (False ∨ (False ∨ (False ∨ (False ∨ False))))) (fun st gG gF gT gM => (Lb gG gF gT gM 1 m.nxt 13 [(Il w.s.Wide), (Il w.s.High), (Il w.s.Fall), (Il w.s.A.Lo), (Il w.s.A.Hi), (Il w.s.B.Lo), (Il w.s.B.Hi), (Il w.s.Half.Lo), (Il w.s.Half.Hi), (Il w.s.Peak.Lo), (Il w.s.Peak.Hi), ca111, ca112]) ∧ (Lb gG gF gT gM 2 m0.nxt 144 (st.map (C.int .i64))) ∧ (Lb gG gF gT gM 3 m1.nxt 1 [(Il (b + 1))]) ∧ (Lb gG gF gT gM 5 aa.nxt 4 [(Il a.A), (Il a.B), (Il a.Half), (Il a.Peak)]) ∧ (Rk gG gF gT gM 4 (Fa).nxt oa)) (fun rr_ st => ptally_L1 w b a ((ptally_L0 w ba)) rr_ st = some rz) (fun ex st => False) (fun st => (Gud.and (Gud.lb Oa.bk.lt (by decide)) (Gud.and (Gud.lb Pa.bk.lt (by decide)) (Gud.and (Gud.lb Qa.bk.lt (by decide)) (Gud.and (Gud.lb Ra.bk.lt (by decide)) (Gud.rk wa.lt (by decide))))))) (st0 := (g)) (τ := na) ⟨Oa, Pa, Qa, Ra, wa⟩ hp ?_ ?_ ?_ ?_
  ·intro p Nc o O F ha P Td Dd Ed Fd Oc Pc hA tb hp ub xa
   obtain ⟨q, u, z, G, l⟩ := hA
   replace q : Lb P O F ha 1 m.nxt 13 [(Il w.s.Wide), (Il w.s.High), (Il w.s.Fall), (Il w.s.A.Lo), (Il w.s.A.Hi), (Il w.s.B.Lo), (Il w.s.B.Hi), (Il w.s.Half.Lo), (Il w.s.Half.Hi), (Il w.s.Peak.Lo), (Il w.s.Peak.Hi), ca111, ca112] := q
   replace u : Lb P O F ha 2 m0.nxt 144 (o.map (C.int .i64)) := u
   replace z : Lb P O F ha 3 m1.nxt 1 [(Il (b + 1))] := z
   replace G : Lb P O F ha 5 aa.nxt 4 [(Il a.A), (Il a.B), (Il a.Half), (Il a.Peak)] := G
   replace l : Rk P O F ha 4 (Fa).nxt oa := l
   replace hp : ptally_L1 w b a ((ptally_L0 w ba)) (p :: Nc) o = some rz := hp
   rw [ptally_L1] at hp
   refine ⟨_, _, rfl, ?_⟩
   refine ub _ _ _ _ Oc tb fun de Ud Sa S vb ya => ?_
   have Ta := q.k S
   have Qc := u.k S
   have Rc := z.k S
   have Ua := G.k S
   have wb := l.k S
   refine ⟨trivial, _, _, _, _, _, _, _, _, _, _, _, _, Ta.bk.rp (k := 0) (j := 12) rfl (by omega), _, _, _, _, Ua.bk.ra, ?_⟩
   obtain ⟨Vd, Tc, hp⟩ := bsome hp
   refine s_hits (s := w.s) (t := a) (x := p.1) (y := p.2) Sa.pre (ha111.sub (Sub.trans (Sub.trans (Sub.trans J.fs Ja) D.fs) Pc)) Tc fun ee Uc => ?_
   obtain ⟨Va, I⟩ := Sa.call Uc F
   have Wa := Ta.k I
   have pa := Qc.k I
   have Xa := Rc.k I
   have Ya := Ua.k I
   have za := vb.k I
   have Aa := wb.k I
   refine ⟨_, rfl, ?_⟩
   refine ifbb hp (fun Vc hp => ?_) fun Vc hp => ?_; rotate_left
   ·exact xa .nrm (o) _ _ _ _ Va ⟨Wa, pa, Xa, Ya, Aa⟩ za ya hp
   refine ⟨trivial, ?_⟩
   obtain ⟨Xc, hp⟩ := gd_some hp
   obtain ⟨Za, xb, yb⟩ := arr_no Xc
   refine ⟨Za, xb, yb, trivial, ?_⟩
   obtain ⟨Yc, hp⟩ := gd_some hp
   obtain ⟨ab, zb, Ab⟩ := arr_no Yc
   obtain ⟨cb, qa, hp⟩ := bsome hp
   obtain ⟨Bb, Gd, Hd, qa⟩ := idx_some qa
   obtain rfl : Bb = ((0 + (Za * 12)) + (ab * 1)) := by omega
   refine ⟨ab, zb, Ab, _, (pa.bk.rc (k := ((0 + (Za * 12)) + (ab * 1))) (by rw [List.getElem?_map, qa]; rfl)), ?_⟩
   obtain ⟨Zc, hp⟩ := gd_some hp
   refine ⟨Zc, trivial, ?_⟩
   obtain ⟨ad, hp⟩ := gd_some hp
   obtain ⟨db, Cb, Db⟩ := arr_no ad
   refine ⟨db, Cb, Db, trivial, ?_⟩
   obtain ⟨bd, hp⟩ := gd_some hp
   obtain ⟨eb, Eb, Fb⟩ := arr_no bd
   refine ⟨eb, Eb, Fb, ?_⟩
   obtain ⟨cd, hp⟩ := gd_some hp
   have Gb : Int.toNat ((p.1 * 12) + p.2) = ((0 + (db * 12)) + (eb * 1)) := by omega
   obtain ⟨dd, ed, fd, T, fb⟩ := pa.stL Va cd (i := ((0 + (db * 12)) + (eb * 1))) (by omega) ((cb + 1))
   rw [← Gb] at fb
   have hd := Wa.k T
   have jd := Xa.k T
   have kd := Ya.k T
   have Hb := za.k T
   have Ib := Aa.k T
   refine ⟨dd, ed, ?_⟩
   exact xa .nrm ((o.set (Int.toNat ((p.1 * 12) + p.2)) (cb + 1))) _ _ _ _ fd ⟨hd, fb, jd, kd, Ib⟩ Hb ya hp
  ·intro o Y Z ia ld Wd hA hp
   replace hp : ptally_L1 w b a ((ptally_L0 w ba)) [] o = some rz := hp
   obtain ⟨q, u, z, G, l⟩ := hA
   replace q : Lb n Y Z ia 1 m.nxt 13 [(Il w.s.Wide), (Il w.s.High), (Il w.s.Fall), (Il w.s.A.Lo), (Il w.s.A.Hi), (Il w.s.B.Lo), (Il w.s.B.Hi), (Il w.s.Half.Lo), (Il w.s.Half.Hi), (Il w.s.Peak.Lo), (Il w.s.Peak.Hi), ca111, ca112] := q
   replace u : Lb n Y Z ia 2 m0.nxt 144 (o.map (C.int .i64)) := u
   replace z : Lb n Y Z ia 3 m1.nxt 1 [(Il (b + 1))] := z
   replace G : Lb n Y Z ia 5 aa.nxt 4 [(Il a.A), (Il a.B), (Il a.Half), (Il a.Peak)] := G
   replace l : Rk n Y Z ia 4 (Fa).nxt oa := l
   rw [ptally_L1] at hp
   exact mb .nrm (o, (b + 1)) _ _ _ _ ld ⟨q, u, z⟩ l qb hp
  ·intro id st _ _ _ _ _ _ hn; first | exact hn.elim | (cases hn)
  ·intro st _ _ _ _ _ _ hn; first | exact hn.elim | (cases hn)
 ·intro st sa ta gb md Xd hA hp
  obtain ⟨g, b⟩ := st
  replace hp : ptally_L0 w [] g b = some rz := hp
  obtain ⟨h, d, e⟩ := hA
  replace h : Lb (Fm.of m) sa ta gb 1 m.nxt 13 [(Il w.s.Wide), (Il w.s.High), (Il w.s.Fall), (Il w.s.A.Lo), (Il w.s.A.Hi), (Il w.s.B.Lo), (Il w.s.B.Hi), (Il w.s.Half.Lo), (Il w.s.Half.Hi), (Il w.s.Peak.Lo), (Il w.s.Peak.Hi), ca111, ca112] := h
  replace d : Lb (Fm.of m) sa ta gb 2 m0.nxt 144 (g.map (C.int .i64)) := d
  replace e : Lb (Fm.of m) sa ta gb 3 m1.nxt 1 [(Il b)] := e
  rw [ptally_L0] at hp
  refine ⟨_, d.bk.ra, _, e.bk.rc rfl, ?_⟩
  obtain ⟨nd, od, pd, qd, sd⟩ := d.sto md (g.map (C.int .i64))
  have hb := e.k qd
  refine ⟨nd, od, ?_⟩
  refine ⟨(hb.bk.rc rfl), ?_⟩
  obtain ⟨td, ud, vd, wd, xd⟩ := hb.sto pd [(Il b)]
  have yd := sd.k wd
  refine ⟨td, ud, ?_⟩
  refine ⟨_, yd.bk.ra, _, xd.bk.rc rfl, ?_⟩
  obtain rfl := Option.some.inj hp
  exact hq _ vd.ext'
 ·intro id st _ _ _ _ _ _ hn; first | exact hn.elim | (cases hn)
 ·intro st ua va ib zd Yd hA hn
  obtain ⟨g, b⟩ := st
  obtain ⟨hid, hp⟩ := hn
  replace hp : ptally_L0_xret g b = some rz := hp
  unfold ptally_L0_xret at hp
  obtain ⟨h, d, e⟩ := hA
  replace h : Lb (Fm.of m) ua va ib 1 m.nxt 13 [(Il w.s.Wide), (Il w.s.High), (Il w.s.Fall), (Il w.s.A.Lo), (Il w.s.A.Hi), (Il w.s.B.Lo), (Il w.s.B.Hi), (Il w.s.Half.Lo), (Il w.s.Half.Hi), (Il w.s.Peak.Lo), (Il w.s.Peak.Hi), ca111, ca112] := h
  replace d : Lb (Fm.of m) ua va ib 2 m0.nxt 144 (g.map (C.int .i64)) := d
  replace e : Lb (Fm.of m) ua va ib 3 m1.nxt 1 [(Il b)] := e
  refine ⟨_, d.bk.ra, _, e.bk.rc rfl, ?_⟩
  obtain rfl := Option.some.inj hp
  exact hq _ zd.ext'
theorem s_Best {s : Stm} {ca111 : C} {m f : M} {Q : V → M → Prop} {rz : Int × Int × Int × Int} (hS : Pre f m) (ha111 : Sl f ca111 s.Cards) (hp : pBest s = some rz) (hq : ∀ m', Ext m m' → Q (.tup [.c (Il rz.1), .c (Il rz.2.1), .c (Il rz.2.2.1), .c (Il rz.2.2.2)]) m') : Wc prog tbl 30 [.agg 12 [(Il s.Wide), (Il s.High), (Il s.Fall), (Il s.A.Lo), (Il s.A.Hi), (Il s.B.Lo), (Il s.B.Hi), (Il s.Half.Lo), (Il s.Half.Hi), (Il s.Peak.Lo), (Il s.Peak.Hi), ca111]] m Q := by
 have S0 := hS.st
 obtain ⟨τ0, _⟩ : ∃ τ : Nat → Nat, True := ⟨fun _ => 0, trivial⟩
 refine w30 ?_
 unfold pBest at hp
 intro m0 wb
 obtain ⟨xb, yb, pf, zb⟩ := S0.blk wb τ0 1
 intro m1 Bb
 obtain ⟨Cb, Db, Eb, Fb⟩ := yb.blk Bb xb 2
 have Gb := zb.k Eb
 intro m2 Ib
 obtain ⟨Jb, Kb, va, Mb⟩ := Db.blk Ib Cb 3
 have Nb := Gb.k va
 have Ob := Fb.k va
 intro m3 Pb
 obtain ⟨wa, xa, ja, Qb⟩ := Kb.blk Pb Jb 4
 have ya := Nb.k ja
 have Rb := Ob.k ja
 have Sb := Mb.k ja
 refine ⟨_, _, _, _, _, _, _, _, _, _, _, _, ya.bk.ra, ?_⟩
 obtain ⟨a, Tb, hp⟩ := bsome hp
 refine s_openTrue (s := s) (asked := []) xa.pre ha111 (Sl.nil _) Tb fun za qf da ea Ub Aa Vb => ?_
 obtain ⟨Wb, fa⟩ := xa.callG Ub wa
 have Xb := ya.k fa
 have Yb := Rb.k fa
 have Zb := Sb.k fa
 have ac := Qb.k fa
 refine ⟨_, _, _, _, _, _, _, _, _, _, _, _, _, _, rfl, ?_⟩
 intro yf bc
 obtain ⟨Ba, cc, ga, dc⟩ := Wb.blk bc wa 5
 have ec := Xb.k ga
 have fc := Yb.k ga
 have gc := Zb.k ga
 have ic := ac.k ga
 obtain ⟨jc, kc, ka, ha, Ca⟩ := dc.sto cc [(Il a.1.s.Wide), (Il a.1.s.High), (Il a.1.s.Fall), (Il a.1.s.A.Lo), (Il a.1.s.A.Hi), (Il a.1.s.B.Lo), (Il a.1.s.B.Hi), (Il a.1.s.Half.Lo), (Il a.1.s.Half.Hi), (Il a.1.s.Peak.Lo), (Il a.1.s.Peak.Hi), da, ea]
 have lc := ec.k ha
 have Da := fc.k ha
 have Ea := gc.k ha
 have Fa := ic.k ha
 refine ⟨jc, kc, ?_⟩
 refine ifnd hp (fun nc hp => ?_) fun nc hp => ?_
 ·obtain ⟨oc, pc, qc, Ga, sc⟩ := Da.sto ka [(Il 0)]
  have tc := Ea.k Ga
  have uc := Fa.k Ga
  refine ⟨oc, pc, ?_⟩
  obtain ⟨vc, wc, xc, Ha, yc⟩ := tc.sto qc [(Il 0)]
  have zc := sc.k Ha
  have Ac := uc.k Ha
  refine ⟨vc, wc, ?_⟩
  obtain ⟨Bc, Cc, Dc, Ia, Ec⟩ := Ac.sto xc [(Il 0)]
  have Fc := zc.k Ia
  have Gc := yc.k Ia
  refine ⟨Bc, Cc, ?_⟩
  refine ⟨_, Fc.bk.rc rfl, _, Gc.bk.rc rfl, _, Ec.bk.rc rfl, ?_⟩
  obtain rfl := Option.some.inj hp
  exact hq _ Dc.ext'
 refine ⟨_, _, _, _, _, _, _, _, _, _, _, _, _, Ca.bk.ra, ?_⟩
 obtain ⟨b, Hc, hp⟩ := bsome hp
 refine s_tally (w := a.1) ka.pre Aa Vb Hc fun Ja Ic => ?_
 obtain ⟨Jc, Y⟩ := ka.call Ic Ba
 have Kc := lc.k Y
 have Lc := Da.k Y
 have Nc := Ea.k Y
 have Oc := Fa.k Y
 have Pc := Ca.k Y
 refine ⟨_, _, rfl, ?_⟩
 intro Ka Qc
 obtain ⟨Rc, Tc, Z, la⟩ := Jc.blk Qc Ba 6
 replace la : Lb _ _ _ _ _ _ _ ((List.replicate 144 (0 : Int)).map (C.int .i64)) := la
 have Uc := Kc.k Z
 have Vc := Lc.k Z
 have Xc := Nc.k Z
 have Yc := Oc.k Z
 have Zc := Pc.k Z
 intro zf ad
 obtain ⟨ma, bd, G, cd⟩ := Tc.blk ad Rc 7
 have dd := Uc.k G
 have ed := Vc.k G
 have fd := Xc.k G
 have hd := Yc.k G
 have jd := Zc.k G
 have kd := la.k G
 obtain ⟨ld, md, nd, I, od⟩ := kd.sto bd (b.1.map (C.int .i64))
 have pd := dd.k I
 have qd := ed.k I
 have sd := fd.k I
 have td := hd.k I
 have ud := jd.k I
 have vd := cd.k I
 refine ⟨ld, md, ?_⟩
 obtain ⟨wd, xd, yd, J, La⟩ := vd.sto nd [(Il b.2)]
 have zd := pd.k J
 have Ad := qd.k J
 have Bd := sd.k J
 have Cd := td.k J
 have Dd := ud.k J
 have Ed := od.k J
 refine ⟨wd, xd, ?_⟩
 refine ⟨_, La.bk.rc rfl, ?_⟩
 obtain ⟨Fd, Gd, Ma, N, Hd⟩ := Cd.sto yd [(Il b.2)]
 have Id := zd.k N
 have Jd := Ad.k N
 have Ld := Bd.k N
 have Na := Dd.k N
 have Md := Ed.k N
 have Nd := La.k N
 refine ⟨Fd, Gd, ?_⟩
 refine ⟨trivial, _, _, _, _, _, _, _, _, _, _, _, _, Na.bk.rp (k := 0) (j := 12) rfl (by omega), ?_⟩
 obtain ⟨Od, Pd, hp⟩ := bsome hp
 refine s_grid (s := a.1.s) Ma.pre Aa Pd fun Af Qd => ?_
 obtain ⟨Oa, h⟩ := Ma.call Qd ma
 have Rd := Id.k h
 have Sd := Jd.k h
 have Td := Ld.k h
 have Ud := Hd.k h
 have Vd := Na.k h
 have Wd := Md.k h
 have Xd := Nd.k h
 refine ⟨_, _, _, _, rfl, ?_⟩
 obtain ⟨rf, Yd, hp⟩ := bsome hp
 refine s_places (r := Od) Oa.pre  Yd fun Bf sf tf Zd ae => ?_
 obtain ⟨be, i⟩ := Oa.callG Zd ma
 have Pa := Rd.k i
 have Qa := Sd.k i
 have Ra := Td.k i
 have Sa := Ud.k i
 have Ta := Vd.k i
 have Ua := Wd.k i
 have Va := Xd.k i
 refine ⟨_, rfl, ?_⟩
 refine range_st (α := Int × Int) be ae (σ := Int × Int × Int) 8 (fun st bb => (False ∨ (False ∨ (False ∨ (False ∨ (False ∨ (False ∨ False))))))) (fun st gG gF gT gM => (Lb gG gF gT gM 1 m.nxt 12 [(Il s.Wide), (Il s.High), (Il s.Fall), (Il s.A.Lo), (Il s.A.Hi), (Il s.B.Lo), (Il s.B.Hi), (Il s.Half.Lo), (Il s.Half.Hi), (Il s.Peak.Lo), (Il s.Peak.Hi), ca111]) ∧ (Lb gG gF gT gM 2 m0.nxt 1 [(Il st.1)]) ∧ (Lb gG gF gT gM 3 m1.nxt 1 [(Il st.2.1)]) ∧ (Lb gG gF gT gM 4 m2.nxt 1 [(Il st.2.2)]) ∧ (Lb gG gF gT gM 5 za.nxt 13 [(Il a.1.s.Wide), (Il a.1.s.High), (Il a.1.s.Fall), (Il a.1.s.A.Lo), (Il a.1.s.A.Hi), (Il a.1.s.B.Lo), (Il a.1.s.B.Hi), (Il a.1.s.Half.Lo), (Il a.1.s.Half.Hi), (Il a.1.s.Peak.Lo), (Il a.1.s.Peak.Hi), da, ea]) ∧ (Lb gG gF gT gM 6 Ja.nxt 144 (b.1.map (C.int .i64))) ∧ (Lb gG gF gT gM 7 Ka.nxt 1 [(Il b.2)])) (fun rr_ st => pBest_L0 b rr_ st.1 st.2.1 st.2.2 = some rz) (fun ex st => False) (fun st => (Gud.and (Gud.lb Pa.bk.lt (by decide)) (Gud.and (Gud.lb Qa.bk.lt (by decide)) (Gud.and (Gud.lb Ra.bk.lt (by decide)) (Gud.and (Gud.lb Sa.bk.lt (by decide)) (Gud.and (Gud.lb Ta.bk.lt (by decide)) (Gud.and (Gud.lb Ua.bk.lt (by decide)) (Gud.lb Va.bk.lt (by decide))))))))) (st0 := ((0 : Int), (0 : Int), b.2)) (τ := ma) ⟨Pa, Qa, Ra, Sa, Ta, Ua, Va⟩ hp ?_ ?_ ?_ ?_
 ·intro aa ce st l n ba o uf gf hf jf de vf hA kb hp mb sa
  obtain ⟨p, q, t⟩ := st
  obtain ⟨O, d, e, g, P, S, T⟩ := hA
  replace O : Lb o l n ba 1 m.nxt 12 [(Il s.Wide), (Il s.High), (Il s.Fall), (Il s.A.Lo), (Il s.A.Hi), (Il s.B.Lo), (Il s.B.Hi), (Il s.Half.Lo), (Il s.Half.Hi), (Il s.Peak.Lo), (Il s.Peak.Hi), ca111] := O
  replace d : Lb o l n ba 2 m0.nxt 1 [(Il p)] := d
  replace e : Lb o l n ba 3 m1.nxt 1 [(Il q)] := e
  replace g : Lb o l n ba 4 m2.nxt 1 [(Il t)] := g
  replace P : Lb o l n ba 5 za.nxt 13 [(Il a.1.s.Wide), (Il a.1.s.High), (Il a.1.s.Fall), (Il a.1.s.A.Lo), (Il a.1.s.A.Hi), (Il a.1.s.B.Lo), (Il a.1.s.B.Hi), (Il a.1.s.Half.Lo), (Il a.1.s.Half.Hi), (Il a.1.s.Peak.Lo), (Il a.1.s.Peak.Hi), da, ea] := P
  replace S : Lb o l n ba 6 Ja.nxt 144 (b.1.map (C.int .i64)) := S
  replace T : Lb o l n ba 7 Ka.nxt 1 [(Il b.2)] := T
  replace hp : pBest_L0 b (aa :: ce) p q t = some rz := hp
  rw [pBest_L0] at hp
  refine ⟨_, _, rfl, ?_⟩
  refine mb _ _ _ _ de kb fun Cf wf Wa u ta ua => ?_
  have Xa := O.k u
  have Ya := d.k u
  have Za := e.k u
  have na := g.k u
  have ab := P.k u
  have oa := S.k u
  have pa := T.k u
  refine ⟨trivial, ?_⟩
  obtain ⟨ee, hp⟩ := gd_some hp
  obtain ⟨cb, nb, ob⟩ := arr_no ee
  refine ⟨cb, nb, ob, trivial, ?_⟩
  obtain ⟨fe, hp⟩ := gd_some hp
  obtain ⟨db, pb, qb⟩ := arr_no fe
  obtain ⟨ia, qa, hp⟩ := bsome hp
  obtain ⟨rb, kf, lf, qa⟩ := idx_some qa
  obtain rfl : rb = ((0 + (cb * 12)) + (db * 1)) := by omega
  refine ⟨db, pb, qb, _, (oa.bk.rc (k := ((0 + (cb * 12)) + (db * 1))) (by rw [List.getElem?_map, qa]; rfl)), _, pa.bk.rc rfl, ?_⟩
  obtain ⟨ge, hp⟩ := gd_some hp
  refine ⟨ge, _, na.bk.rc rfl, ?_⟩
  refine ifd hp (fun he hp => ?_) fun he hp => ?_; rotate_left
  ·exact sa .nrm (p, q, t) _ _ _ _ Wa ⟨Xa, Ya, Za, na, ab, oa, pa⟩ ta ua hp
  obtain ⟨ie, je, ke, x, me⟩ := Ya.sto Wa [(Il aa.1)]
  have oe := Xa.k x
  have pe := Za.k x
  have qe := na.k x
  have re := ab.k x
  have se := oa.k x
  have te := pa.k x
  have sb := ta.k x
  refine ⟨ie, je, ?_⟩
  obtain ⟨ue, ve, we, y, xe⟩ := pe.sto ke [(Il aa.2)]
  have ye := oe.k y
  have ze := me.k y
  have Ae := qe.k y
  have Be := re.k y
  have Ce := se.k y
  have De := te.k y
  have tb := sb.k y
  refine ⟨ue, ve, ?_⟩
  obtain ⟨Ee, Fe, Ge, z, He⟩ := Ae.sto we [(Il (max ia (b.2 - ia)))]
  have Ie := ye.k z
  have Je := ze.k z
  have Ke := xe.k z
  have Me := Be.k z
  have Ne := Ce.k z
  have Oe := De.k z
  have ub := tb.k z
  refine ⟨Ee, Fe, ?_⟩
  exact sa .nrm (aa.1, aa.2, (max ia (b.2 - ia))) _ _ _ _ Ge ⟨Ie, Je, Ke, He, Me, Ne, Oe⟩ ub ua hp
 ·intro st D F ca Pe xf hA hp
  obtain ⟨p, q, t⟩ := st
  replace hp : pBest_L0 b [] p q t = some rz := hp
  obtain ⟨O, d, e, g, P, S, T⟩ := hA
  replace O : Lb (Fm.of m) D F ca 1 m.nxt 12 [(Il s.Wide), (Il s.High), (Il s.Fall), (Il s.A.Lo), (Il s.A.Hi), (Il s.B.Lo), (Il s.B.Hi), (Il s.Half.Lo), (Il s.Half.Hi), (Il s.Peak.Lo), (Il s.Peak.Hi), ca111] := O
  replace d : Lb (Fm.of m) D F ca 2 m0.nxt 1 [(Il p)] := d
  replace e : Lb (Fm.of m) D F ca 3 m1.nxt 1 [(Il q)] := e
  replace g : Lb (Fm.of m) D F ca 4 m2.nxt 1 [(Il t)] := g
  replace P : Lb (Fm.of m) D F ca 5 za.nxt 13 [(Il a.1.s.Wide), (Il a.1.s.High), (Il a.1.s.Fall), (Il a.1.s.A.Lo), (Il a.1.s.A.Hi), (Il a.1.s.B.Lo), (Il a.1.s.B.Hi), (Il a.1.s.Half.Lo), (Il a.1.s.Half.Hi), (Il a.1.s.Peak.Lo), (Il a.1.s.Peak.Hi), da, ea] := P
  replace S : Lb (Fm.of m) D F ca 6 Ja.nxt 144 (b.1.map (C.int .i64)) := S
  replace T : Lb (Fm.of m) D F ca 7 Ka.nxt 1 [(Il b.2)] := T
  rw [pBest_L0] at hp
  refine ⟨_, d.bk.rc rfl, _, e.bk.rc rfl, _, g.bk.rc rfl, ?_⟩
  obtain ⟨Qe, Re, Se, eb, Te⟩ := d.sto Pe [(Il p)]
  have fb := e.k eb
  have gb := g.k eb
  refine ⟨Qe, Re, ?_⟩
  refine ⟨(gb.bk.rc rfl), (fb.bk.rc rfl), ?_⟩
  obtain ⟨Ue, Ve, We, hb, Xe⟩ := fb.sto Se [(Il q)]
  have Ye := Te.k hb
  have ib := gb.k hb
  refine ⟨Ue, Ve, ?_⟩
  refine ⟨(ib.bk.rc rfl), ?_⟩
  obtain ⟨Ze, af, bf, jb, cf⟩ := ib.sto We [(Il t)]
  have df := Ye.k jb
  have ef := Xe.k jb
  refine ⟨Ze, af, ?_⟩
  refine ⟨_, df.bk.rc rfl, _, ef.bk.rc rfl, _, cf.bk.rc rfl, ?_⟩
  obtain rfl := Option.some.inj hp
  exact hq _ bf.ext'
 ·intro id st _ _ _ _ _ _ hn; first | exact hn.elim | (cases hn)
 ·intro st _ _ _ _ _ _ hn; first | exact hn.elim | (cases hn)
theorem s_StormBest {s : Stm} {whr : Int} {ca111 : C} {m f : M} {Q : V → M → Prop} {rz : Bool} (hS : Pre f m) (ha111 : Sl f ca111 s.Cards) (hp : pStormBest s whr = some rz) (hq : ∀ m', Ext m m' → Q (.c (.bool rz)) m') : Wc prog tbl 14 [.agg 12 [(Il s.Wide), (Il s.High), (Il s.Fall), (Il s.A.Lo), (Il s.A.Hi), (Il s.B.Lo), (Il s.B.Hi), (Il s.Half.Lo), (Il s.Half.Hi), (Il s.Peak.Lo), (Il s.Peak.Hi), ca111], .c (.int .u16 whr)] m Q := by
 have S0 := hS.st
 obtain ⟨τ0, _⟩ : ∃ τ : Nat → Nat, True := ⟨fun _ => 0, trivial⟩
 refine w14 ?_
 unfold pStormBest at hp
 intro m0 Md
 obtain ⟨h, Sa, Pf, Ta⟩ := S0.blk Md τ0 1
 refine ⟨_, _, _, _, _, _, _, _, _, _, _, _, Ta.bk.ra, ?_⟩
 obtain ⟨Qf, Nd, hp⟩ := bsome hp
 refine s_lReady (s := s) Sa.pre ha111 Nd fun lg Od => ?_
 obtain ⟨ea, Pd⟩ := Sa.call Od h
 have Ua := Ta.k Pd
 refine ⟨_, rfl, ?_⟩
 refine ifnb hp (fun Qd hp => ?_) fun Qd hp => ?_
 ·obtain ⟨Rf, Rd, hp⟩ := bsome hp
  refine s_awake ea.pre  Rd fun mg Sd => ?_
  obtain ⟨Td, Sf⟩ := ea.call Sd h
  refine ⟨_, rfl, ?_⟩
  obtain rfl := Option.some.inj hp
  exact hq _ Td.ext'
 refine ⟨_, _, _, _, _, _, _, _, _, _, _, _, Ua.bk.ra, ?_⟩
 obtain ⟨Ud, Vd, hp⟩ := bsome hp
 refine s_lStorm (s := s) ea.pre ha111 Vd fun ng Tf Uf Wd Xd => ?_
 obtain ⟨Va, J⟩ := ea.callG Wd h
 have Yd := Ua.k J
 refine ⟨_, _, _, _, _, _, _, _, _, _, _, _, rfl, ?_⟩
 obtain ⟨a, Zd, hp⟩ := bsome hp
 refine s_Best (s := Ud) Va.pre Xd Zd fun og ae => ?_
 obtain ⟨ca, be⟩ := Va.call ae h
 have Wa := Yd.k be
 refine ⟨_, _, _, _, rfl, ?_⟩
 refine ifnd hp (fun ce hp => ?_) fun ce hp => ?_
 ·refine ifd hp (fun de hp => ?_) fun de hp => ?_; rotate_left
  ·obtain rfl := Option.some.inj hp
   exact hq _ ca.ext'
  obtain ⟨Vf, ee, hp⟩ := bsome hp
  refine s_awake ca.pre  ee fun pg fe => ?_
  obtain ⟨ge, Wf⟩ := ca.call fe h
  refine ⟨_, rfl, ?_⟩
  obtain rfl := Option.some.inj hp
  exact hq _ ge.ext'
 refine ⟨trivial, _, Wa.bk.rc rfl, ?_⟩
 refine gdi hp fun he hp => ?_
 obtain ⟨Xf, ie, hp⟩ := bsome hp
 refine s_rIn (n := a.1) (low := (0 : Int)) (high := (s.Wide - (1 : Int))) ca.pre  ie fun qg je => ?_
 obtain ⟨ua, ke⟩ := ca.call je h
 have Xa := Wa.k ke
 refine ⟨_, rfl, ?_⟩
 refine ifnb hp (fun me hp => ?_) fun me hp => ?_
 ·obtain rfl := Option.some.inj hp
  exact hq _ ua.ext'
 refine ⟨trivial, _, Xa.bk.rc rfl, ?_⟩
 refine gdi hp fun oe hp => ?_
 obtain ⟨Yf, pe, hp⟩ := bsome hp
 refine s_rIn (n := a.2.1) (low := (0 : Int)) (high := (s.High - (1 : Int))) ua.pre  pe fun rg qe => ?_
 obtain ⟨Ya, re⟩ := ua.call qe h
 have se := Xa.k re
 refine ⟨_, rfl, ?_⟩
 refine ifnb hp (fun te hp => ?_) fun te hp => ?_
 ·obtain rfl := Option.some.inj hp
  exact hq _ Ya.ext'
 intro sg ue
 obtain ⟨ve, we, xe, ye⟩ := Ya.blk ue h 2
 have ze := se.k xe
 obtain ⟨Ae, Be, Ce, De, Ee⟩ := ye.sto we [(Il a.1), (Il a.1), (Il a.2.1), (Il a.2.1)]
 have Fe := ze.k De
 refine ⟨Ae, Be, ?_⟩
 intro tg Ge
 obtain ⟨He, Ie, Za, gb⟩ := Ce.growK Ge ve 3
 have va := Fe.k Za
 have Je := Ee.k Za
 have Ke := gb 0 (by decide)
 refine ⟨_, _, _, _, _, _, _, _, _, _, _, _, va.bk.ra, _, _, _, _, _, _, _, _, _, _, _, _, va.bk.ra, ?_⟩
 intro ug Me
 obtain ⟨Ne, Oe, wa, Pe⟩ := Ie.blk Me He 4
 have xa := va.k wa
 have Qe := Je.k wa
 have Re := Ke.k wa
 refine ⟨(by rw [show allS cmC _ = true from cmL_of (nf_cons rfl (nf_cons rfl (nf_cons rfl (nf_cons rfl (nf_cons rfl (nf_cons rfl (nf_cons rfl (nf_cons rfl (nf_cons rfl (nf_cons rfl (nf_cons rfl (nf_cons ha111.noFn nf_nil))))))))))))]; exact (xa.bk.ra)), (by rw [show allS cmC _ = true from cmL_of (nf_cons rfl (nf_cons rfl (nf_cons rfl (nf_cons rfl (nf_cons rfl (nf_cons rfl (nf_cons rfl (nf_cons rfl (nf_cons rfl (nf_cons rfl (nf_cons rfl (nf_cons ha111.noFn nf_nil))))))))))))]; exact (xa.bk.ra)), ?_⟩
 intro vg Se
 obtain ⟨Te, ya, Ue⟩ := Re.set Oe Se
 have za := xa.k ya
 have Ve := Qe.k ya
 have We := Pe.k ya
 refine ⟨(by rw [show allS cmC _ = true from cmL_of (nf_cons rfl (nf_cons rfl (nf_cons rfl (nf_cons rfl (nf_cons rfl (nf_cons rfl (nf_cons rfl (nf_cons rfl (nf_cons rfl (nf_cons rfl (nf_cons rfl (nf_cons ha111.noFn nf_nil))))))))))))]; exact (za.bk.ra)), (by rw [show allS cmC _ = true from cmL_of (nf_cons rfl (nf_cons rfl (nf_cons rfl (nf_cons rfl (nf_cons rfl (nf_cons rfl (nf_cons rfl (nf_cons rfl (nf_cons rfl (nf_cons rfl (nf_cons rfl (nf_cons ha111.noFn nf_nil))))))))))))]; exact (za.bk.ra)), ?_⟩
 obtain ⟨Xe, Ye, Ze, Aa, af⟩ := We.sto Te [(Il s.Wide), (Il s.High), (Il s.Fall), (Il s.A.Lo), (Il s.A.Hi), (Il s.B.Lo), (Il s.B.Hi), (Il s.Half.Lo), (Il s.Half.Hi), (Il s.Peak.Lo), (Il s.Peak.Hi), ca111]
 have ab := za.k Aa
 have bf := Ve.k Aa
 have cf := Ue.k Aa
 refine ⟨Xe, Ye, ?_⟩
 refine ⟨(by rw [show allS cmC _ = true from cmL_of (nf_cons rfl (nf_cons rfl (nf_cons rfl (nf_cons rfl (nf_cons rfl (nf_cons rfl (nf_cons rfl (nf_cons rfl (nf_cons rfl (nf_cons rfl (nf_cons rfl (nf_cons ha111.noFn nf_nil))))))))))))]; exact (ab.bk.ra)), ?_⟩
 obtain ⟨bb, df, ef, Ba, gf⟩ := cf.sto Ze [(Il s.Wide), (Il s.High), (Il s.Fall), (Il s.A.Lo), (Il s.A.Hi), (Il s.B.Lo), (Il s.B.Hi), (Il s.Half.Lo), (Il s.Half.Hi), (Il s.Peak.Lo), (Il s.Peak.Hi), ca111]
 have hf := ab.k Ba
 have jf := bf.k Ba
 have kf := af.k Ba
 refine ⟨bb, df, ?_⟩
 intro wg lf
 obtain ⟨mf, nf, fa, hb⟩ := ef.growK lf Ne 5
 have cb := hf.k fa
 have Ca := jf.k fa
 have pf := kf.k fa
 have qf := gf.k fa
 have rf := hb 0 (by decide)
 intro xg sf
 obtain ⟨Zf, tf, da, uf⟩ := nf.blk sf mf 6
 have Da := cb.k da
 have ga := Ca.k da
 have ib := pf.k da
 have jb := qf.k da
 have kb := rf.k da
 refine ⟨trivial, _, Da.bk.rc rfl, (by rw [show cmC _ = true from cmC_of (ha111.noFn)]; exact (cb.bk.rc rfl)), ?_⟩
 have mb := Lb.ow0 (α := Crd) uf
 obtain ⟨nb, hp⟩ := gd_some hp
 obtain ⟨ob, pb, vf, qb, rb, u, z⟩ := mb.appL ta24 tf (ha111.sub J.fs) nb
 have sb := Da.k u
 have ha := ga.k u
 have tb := ib.k u
 have ub := jb.k u
 have vb := kb.k u
 refine ⟨ob, pb, qb, ?_⟩
 refine ⟨trivial, _, _, ha.bk.rp (k := 0) (j := 2) rfl (by omega), (ga.bk.rp (k := 0) (j := 2) rfl (by omega)), (Ca.bk.rp (k := 0) (j := 2) rfl (by omega)), trivial, _, _, ha.bk.rp (k := 2) (j := 2) rfl (by omega), (ga.bk.rp (k := 2) (j := 2) rfl (by omega)), (Ca.bk.rp (k := 2) (j := 2) rfl (by omega)), ?_⟩
 intro ag wb
 obtain ⟨xb, D, yb⟩ := vb.set rb wb
 have Ea := sb.k D
 have zb := ha.k D
 have Ab := tb.k D
 have Bb := ub.k D
 have z := z.k D
 refine ⟨(by rw [show cmC _ = true from cmC_of (ha111.noFn)]; exact (Ea.bk.rc rfl)), ?_⟩
 obtain ⟨Cb, Db, d, db⟩ := yb.freeze xb
 have Eb := Ea.k d
 have Fb := zb.k d
 have Gb := Ab.k d
 have Hb := Bb.k d
 have z := z.k d
 have Ib : Sl Cb (C.sl (bb.nxt + 0) 0 1 0 (Option.some 1)) ([({ X := ({ Lo := a.1, Hi := a.1 } : Rg), Y := ({ Lo := a.2.1, Hi := a.2.1 } : Rg), Hail := true, Size := ({ Lo := (0 : Int), Hi := (9 : Int) } : Rg) } : Crd)] : List Crd) := Bk.sl (l := ([({ X := ({ Lo := a.1, Hi := a.1 } : Rg), Y := ({ Lo := a.2.1, Hi := a.2.1 } : Rg), Hail := true, Size := ({ Lo := (0 : Int), Hi := (9 : Int) } : Rg) } : Crd)] : List Crd)) db (⟨[(Il a.1), (Il a.1), (Il a.2.1), (Il a.2.1), (.bool true), (Il 0), (Il (9 : Int))], _, rfl, rfl, rfl⟩) rfl rfl _
 obtain ⟨Jb, hp⟩ := gd_some hp
 obtain ⟨ia, Kb, Mb, Nb, Ob, N, b⟩ := z.appL ta24 Db Ib Jb
 have Pb := Eb.k N
 have Qb := Fb.k N
 have Rb := Gb.k N
 have Sb := Hb.k N
 refine ⟨ia, Kb, Nb, ?_⟩
 refine ⟨trivial, ?_⟩
 obtain ⟨Fa, Tb, Ub, O, ja⟩ := Rb.sto1 Ob 11 ia (by simp) rfl
 replace ja : Lb _ _ _ _ _ _ _ [(Il s.Wide), (Il s.High), (Il s.Fall), (Il s.A.Lo), (Il s.A.Hi), (Il s.B.Lo), (Il s.B.Hi), (Il s.Half.Lo), (Il s.Half.Hi), (Il s.Peak.Lo), (Il s.Peak.Hi), ia] := ja
 have Vb := Pb.k O
 have Wb := Qb.k O
 have Xb := Sb.k O
 have b := b.k O
 refine ⟨Fa, Tb, ?_⟩
 intro bg Yb
 obtain ⟨Zb, ac, F, eb⟩ := Ub.growK Yb Mb 7
 have Ga := Vb.k F
 have ka := Wb.k F
 have bc := ja.k F
 have cc := Xb.k F
 have b := b.k F
 have dc := eb 0 (by decide)
 intro cg ec
 obtain ⟨wf, fc, i, gc⟩ := ac.blk ec Zb 8
 have Ha := Ga.k i
 have la := ka.k i
 have ic := bc.k i
 have jc := cc.k i
 have kc := dc.k i
 have b := b.k i
 refine ⟨trivial, _, Ha.bk.rc rfl, (by rw [show cmC _ = true from cmC_of (ha111.noFn)]; exact (Ga.bk.rc rfl)), ?_⟩
 have lc := Lb.ow0 (α := Crd) gc
 obtain ⟨nc, hp⟩ := gd_some hp
 obtain ⟨oc, pc, xf, qc, sc, o, G⟩ := lc.appL ta24 fc (ha111.sub (Sub.trans J.fs d.fs)) nc
 have tc := Ha.k o
 have Ia := la.k o
 have uc := ic.k o
 have vc := jc.k o
 have wc := kc.k o
 have b := b.k o
 refine ⟨oc, pc, qc, ?_⟩
 refine ⟨trivial, _, _, Ia.bk.rp (k := 0) (j := 2) rfl (by omega), (la.bk.rp (k := 0) (j := 2) rfl (by omega)), (ka.bk.rp (k := 0) (j := 2) rfl (by omega)), trivial, _, _, Ia.bk.rp (k := 2) (j := 2) rfl (by omega), (la.bk.rp (k := 2) (j := 2) rfl (by omega)), (ka.bk.rp (k := 2) (j := 2) rfl (by omega)), ?_⟩
 intro dg xc
 obtain ⟨yc, I, zc⟩ := wc.set sc xc
 have Ja := tc.k I
 have Ac := uc.k I
 have Bc := vc.k I
 have b := b.k I
 have G := G.k I
 refine ⟨(by rw [show cmC _ = true from cmC_of (ha111.noFn)]; exact (Ja.bk.rc rfl)), ?_⟩
 obtain ⟨Cc, Dc, e, fb⟩ := zc.freeze yc
 have Ec := Ja.k e
 have Fc := Ac.k e
 have Gc := Bc.k e
 have b := b.k e
 have G := G.k e
 have Hc : Sl Cc (C.sl (Fa.nxt + 0) 0 1 0 (Option.some 1)) ([({ X := ({ Lo := a.1, Hi := a.1 } : Rg), Y := ({ Lo := a.2.1, Hi := a.2.1 } : Rg), Hail := false, Size := ({ Lo := (0 : Int), Hi := (0 : Int) } : Rg) } : Crd)] : List Crd) := Bk.sl (l := ([({ X := ({ Lo := a.1, Hi := a.1 } : Rg), Y := ({ Lo := a.2.1, Hi := a.2.1 } : Rg), Hail := false, Size := ({ Lo := (0 : Int), Hi := (0 : Int) } : Rg) } : Crd)] : List Crd)) fb (⟨[(Il a.1), (Il a.1), (Il a.2.1), (Il a.2.1), (.bool false), (Il 0), (Il 0)], _, rfl, rfl, rfl⟩) rfl rfl _
 obtain ⟨Ic, hp⟩ := gd_some hp
 obtain ⟨ma, Jc, P, Kc, Lc, S, g⟩ := G.appL ta24 Dc Hc Ic
 have Nc := Ec.k S
 have Oc := Fc.k S
 have Pc := Gc.k S
 have b := b.k S
 refine ⟨ma, Jc, Kc, ?_⟩
 refine ⟨trivial, ?_⟩
 obtain ⟨Qc, Rc, Tc, T, na⟩ := Pc.sto1 Lc 11 ma (by simp) rfl
 replace na : Lb _ _ _ _ _ _ _ [(Il s.Wide), (Il s.High), (Il s.Fall), (Il s.A.Lo), (Il s.A.Hi), (Il s.B.Lo), (Il s.B.Hi), (Il s.Half.Lo), (Il s.Half.Hi), (Il s.Peak.Lo), (Il s.Peak.Hi), ma] := na
 have Uc := Nc.k T
 have Vc := Oc.k T
 have b := b.k T
 have g := g.k T
 refine ⟨Qc, Rc, ?_⟩
 refine ⟨_, _, _, _, _, _, _, _, _, _, _, _, Vc.bk.ra, ?_⟩
 obtain ⟨yf, Ka, p, Xc⟩ := b.freeze Tc
 have Yc := Uc.k p
 have La := na.k p
 have g := g.k p
 obtain ⟨zf, Zc, hp⟩ := bsome hp
 refine s_rTruths (s := ({ Wide := s.Wide, High := s.High, Fall := s.Fall, A := s.A, B := s.B, Half := s.Half, Peak := s.Peak, Cards := (([] ++ s.Cards) ++ ([({ X := ({ Lo := a.1, Hi := a.1 } : Rg), Y := ({ Lo := a.2.1, Hi := a.2.1 } : Rg), Hail := true, Size := ({ Lo := (0 : Int), Hi := (9 : Int) } : Rg) } : Crd)] : List Crd)) } : Stm)) Ka.pre Xc Zc fun eg Af Bf ad Z => ?_
 obtain ⟨bd, q⟩ := Ka.callG ad P
 have cd := Yc.k q
 have dd := La.k q
 have g := g.k q
 refine ⟨_, rfl, Z.isSl, _, _, _, _, _, _, _, _, _, _, _, _, dd.bk.ra, (by rw [show allS cmC _ = true from cmL_of (nf_cons rfl (nf_cons rfl (nf_cons rfl (nf_cons rfl (nf_cons rfl (nf_cons rfl (nf_cons rfl (nf_cons rfl (nf_cons rfl (nf_cons rfl (nf_cons rfl (nf_cons g.noFn nf_nil))))))))))))]; exact (La.bk.ra)), ?_⟩
 obtain ⟨Cf, Ma, aa, ed⟩ := g.freeze bd
 have fd := cd.k aa
 obtain ⟨Df, hd, hp⟩ := bsome hp
 refine s_rTruths (s := ({ Wide := s.Wide, High := s.High, Fall := s.Fall, A := s.A, B := s.B, Half := s.Half, Peak := s.Peak, Cards := (([] ++ s.Cards) ++ ([({ X := ({ Lo := a.1, Hi := a.1 } : Rg), Y := ({ Lo := a.2.1, Hi := a.2.1 } : Rg), Hail := false, Size := ({ Lo := (0 : Int), Hi := (0 : Int) } : Rg) } : Crd)] : List Crd)) } : Stm)) Ma.pre ed hd fun fg Ef Ff id oa => ?_
 obtain ⟨Na, ba⟩ := Ma.callG id P
 have Oa := fd.k ba
 refine ⟨_, rfl, ⟨Z.isSl, rfl⟩, oa.isSl, _, _, _, _, _, _, _, _, _, _, _, _, Oa.bk.ra, ?_⟩
 obtain ⟨r, jd, hp⟩ := bsome hp
 refine s_lBox (s := s) (w := whr) Na.pre (ha111.sub (Sub.trans (Sub.trans (Sub.trans (Sub.trans (Sub.trans (Sub.trans J.fs d.fs) e.fs) p.fs) q.fs) aa.fs) ba.fs)) jd fun gg kd => ?_
 obtain ⟨ld, md⟩ := Na.call kd P
 have nd := Oa.k md
 refine ⟨_, _, _, _, rfl, ?_⟩
 intro hg od
 obtain ⟨pa, pd, qd, sd⟩ := ld.blk od P 9
 have td := nd.k qd
 obtain ⟨ud, vd, Pa, wd, qa⟩ := sd.sto pd [(Il r.X.Lo), (Il r.X.Hi), (Il r.Y.Lo), (Il r.Y.Hi)]
 have sa := td.k wd
 refine ⟨ud, vd, ?_⟩
 refine ⟨_, _, _, _, _, _, _, _, _, _, _, _, sa.bk.ra, _, _, _, _, _, _, _, _, _, _, _, _, sa.bk.ra, ?_⟩
 obtain ⟨xd, yd, hp⟩ := bsome hp
 refine s_rTruths (s := s) Pa.pre (ha111.sub (Sub.trans (Sub.trans (Sub.trans (Sub.trans (Sub.trans (Sub.trans J.fs d.fs) e.fs) p.fs) q.fs) aa.fs) ba.fs)) yd fun ig Gf Hf zd Ad => ?_
 obtain ⟨Qa, ta⟩ := Pa.callG zd pa
 have Bd := sa.k ta
 have Ra := qa.k ta
 refine ⟨_, rfl, (by rw [show allS cmC _ = true from cmL_of (nf_cons rfl (nf_cons rfl (nf_cons rfl (nf_cons rfl (nf_cons rfl (nf_cons rfl (nf_cons rfl (nf_cons rfl (nf_cons rfl (nf_cons rfl (nf_cons rfl (nf_cons ha111.noFn nf_nil))))))))))))]; exact (Bd.bk.ra)), trivial, trivial, _, Ra.bk.rc rfl, (qa.bk.rc rfl), trivial, trivial, _, Ra.bk.rc rfl, (qa.bk.rc rfl), ?_⟩
 obtain ⟨If, Cd, hp⟩ := bsome hp
 refine s_rWorst (s := s) (l := xd) (x := r.X.Lo) (y := r.Y.Lo) Qa.pre (ha111.sub (Sub.trans (Sub.trans (Sub.trans (Sub.trans (Sub.trans (Sub.trans (Sub.trans J.fs d.fs) e.fs) p.fs) q.fs) aa.fs) ba.fs) ta.fs)) Ad Cd fun jg Dd => ?_
 obtain ⟨t, Jf⟩ := Qa.call Dd pa
 refine ⟨_, rfl, ?_⟩
 try rw [Z.slLen]
 refine ifd hp (fun Ed hp => ?_) fun Ed hp => ?_; rotate_left
 ·obtain rfl := Option.some.inj hp
  exact hq _ t.ext'
 try rw [oa.slLen]
 refine ifd hp (fun Fd hp => ?_) fun Fd hp => ?_; rotate_left
 ·obtain rfl := Option.some.inj hp
  exact hq _ t.ext'
 try rw [Z.slLen]
 try rw [oa.slLen]
 refine ifd hp (fun Gd hp => ?_) fun Gd hp => ?_; rotate_left
 ·obtain rfl := Option.some.inj hp
  exact hq _ t.ext'
 refine ifd hp (fun Hd hp => ?_) fun Hd hp => ?_; rotate_left
 ·obtain rfl := Option.some.inj hp
  exact hq _ t.ext'
 obtain ⟨Kf, Id, hp⟩ := bsome hp
 refine s_awake t.pre  Id fun kg Jd => ?_
 obtain ⟨Ld, Lf⟩ := t.call Jd pa
 refine ⟨_, rfl, ?_⟩
 obtain rfl := Option.some.inj hp
 exact hq _ Ld.ext'
end
end Go.Proofs.Ytbnfnhfanooplaa

namespace Go.Proofs.Ytbnfnhfanooplaa
open _root_.Go.Proofs.Try
open Go.Abs Go.Abs.Grow
set_option maxRecDepth 100000
noncomputable section
def Wi (r : Rg) (lo hi : Int) : Prop := lo ≤ r.Lo ∧ r.Lo ≤ r.Hi ∧ r.Hi ≤ hi
def inR (r : Rg) (n : Int) : Prop := r.Lo ≤ n ∧ n ≤ r.Hi
def cnt (r : Rg) : Int := r.Hi - r.Lo + 1
def rcOk (s : Stm) (r : Rct) : Prop := Wi r.X 0 (s.Wide - 1) ∧ Wi r.Y 0 (s.High - 1)
def CV (s : Stm) (c : Crd) : Prop := rcOk s ⟨c.X, c.Y⟩ ∧ Wi c.Size 0 9 ∧ (c.Hail = true ∨ c.Size = ⟨0, 0⟩)
def manyN (s : Stm) : Int := cnt s.A * cnt s.B * cnt s.Half * cnt s.Peak
def ManyS (s : Stm) : Prop := 12 < s.Wide ∨ 12 < s.High ∨ 6 < s.Cards.length
structure VS0 (s : Stm) : Prop where
 wide : 2 ≤ s.Wide
 high : 1 ≤ s.High
 fall : 0 ≤ s.Fall ∧ s.Fall ≤ 4
 a : Wi s.A 0 (s.High - 1)
 b : Wi s.B 0 (s.High - 1)
 half : Wi s.Half 0 3
 peak : Wi s.Peak 1 9
 cards : ∀ c ∈ s.Cards, CV s c
open Classical in
def faultN (s : Stm) : Int := if ManyS s then 3 else if VS0 s then (if manyN s ≤ 2000 then 0 else 3) else 1
structure VS (s : Stm) : Prop extends VS0 s where
 many : ¬ ManyS s
 few : manyN s ≤ 2000
theorem fault_zero {s : Stm} : faultN s = 0 ↔ VS s := by
 unfold faultN
 split
 ·rename_i h; exact ⟨fun h => by omega, fun h' => absurd h h'.many⟩
 ·rename_i h
  split
  ·rename_i h2
   split
   ·rename_i h3; exact ⟨fun _ => ⟨h2, h, h3⟩, fun _ => rfl⟩
   ·rename_i h3; exact ⟨fun h => by omega, fun h' => absurd h'.few h3⟩
  ·rename_i h2; exact ⟨fun h => by omega, fun h' => absurd h'.toVS0 h2⟩
theorem not_many {s : Stm} (h : ¬ ManyS s) : s.Wide ≤ 12 ∧ s.High ≤ 12 ∧ s.Cards.length ≤ 6 := by
 unfold ManyS at h; omega
theorem cnt_rng {r : Rg} {lo hi : Int} (h : Wi r lo hi) : 1 ≤ cnt r ∧ cnt r ≤ hi - lo + 1 := by unfold Wi at h; unfold cnt; omega
theorem Wi.w {r : Rg} {lo hi : Int} (h : Wi r lo hi) (h1 : -1000 ≤ lo) (h2 : hi ≤ 1000) : Wi r (-1000) 1000 := by unfold Wi at h ⊢; omega
theorem mul_rng {a b A B : Int} (ha : 1 ≤ a ∧ a ≤ A) (hb : 1 ≤ b ∧ b ≤ B) : 1 ≤ a * b ∧ a * b ≤ A * B := by
 have h1 : 1 * 1 ≤ a * b := Int.mul_le_mul ha.1 hb.1 (by omega) (by omega)
 have h2 : a * b ≤ A * B := Int.mul_le_mul ha.2 hb.2 (by omega) (by omega)
 omega
theorem mul_rng0 {a b A B : Int} (ha : 0 ≤ a ∧ a ≤ A) (hb : 0 ≤ b ∧ b ≤ B) : 0 ≤ a * b ∧ a * b ≤ A * B :=
 ⟨Int.mul_nonneg ha.1 hb.1, Int.mul_le_mul ha.2 hb.2 hb.1 (by omega)⟩
theorem many_rng {s : Stm} (h : VS0 s) (hm : ¬ ManyS s) : (1 ≤ cnt s.A ∧ cnt s.A ≤ 12) ∧ (1 ≤ cnt s.B ∧ cnt s.B ≤ 12) ∧ (1 ≤ cnt s.Half ∧ cnt s.Half ≤ 4) ∧ (1 ≤ cnt s.Peak ∧ cnt s.Peak ≤ 9) ∧ (1 ≤ cnt s.A * cnt s.B ∧ cnt s.A * cnt s.B ≤ 144) ∧ (1 ≤ cnt s.A * cnt s.B * cnt s.Half ∧ cnt s.A * cnt s.B * cnt s.Half ≤ 576) ∧ 1 ≤ manyN s ∧ manyN s ≤ 5184 := by
 obtain ⟨_, hh, _⟩ := not_many hm
 have h1 := cnt_rng h.a
 have h2 := cnt_rng h.b
 have h3 := cnt_rng h.half
 have h4 := cnt_rng h.peak
 have h5 := mul_rng (A := 12) (B := 12) (a := cnt s.A) (b := cnt s.B) (by omega) (by omega)
 have h6 := mul_rng (A := 144) (B := 4) (a := cnt s.A * cnt s.B) (b := cnt s.Half) (by omega) (by omega)
 have h7 := mul_rng (A := 576) (B := 9) (a := cnt s.A * cnt s.B * cnt s.Half) (b := cnt s.Peak) (by omega) (by omega)
 exact ⟨by omega, by omega, by omega, by omega, by omega, by omega, by unfold manyN; omega⟩
def dN (s : Stm) (t : Trh) (x y : Int) : Int := max ((s.Wide - 1) * y - (t.A * (s.Wide - 1 - x) + t.B * x)) (-((s.Wide - 1) * y - (t.A * (s.Wide - 1 - x) + t.B * x)))
def hitP (s : Stm) (t : Trh) (x y : Int) : Prop := dN s t x y ≤ (s.Wide - 1) * t.Half
instance {s : Stm} {t : Trh} {x y : Int} : Decidable (hitP s t x y) := inferInstanceAs (Decidable (_ ≤ _))
def szN (s : Stm) (t : Trh) (x y : Int) : Int := if hitP s t x y then max 1 (t.Peak - s.Fall * (dN s t x y / (s.Wide - 1))) else 0
def inP (r : Rct) (x y : Int) : Prop := inR r.X x ∧ inR r.Y y
def RT (s : Stm) (t : Trh) (c : Crd) : Prop := ∃ x y, inP ⟨c.X, c.Y⟩ x y ∧ (hitP s t x y ↔ c.Hail = true) ∧ inR c.Size (szN s t x y)
def isT (s : Stm) (t : Trh) : Prop := inR s.A t.A ∧ inR s.B t.B ∧ inR s.Half t.Half ∧ inR s.Peak t.Peak
def gr (s : Stm) (x y : Int) : Prop := (0 ≤ x ∧ x ≤ s.Wide - 1) ∧ (0 ≤ y ∧ y ≤ s.High - 1)
theorem gr_of {s : Stm} {r : Rct} (h : rcOk s r) {x y : Int} (hp : inP r x y) : gr s x y := by
 obtain ⟨h1, h2⟩ := h
 obtain ⟨p1, p2⟩ := hp
 unfold Wi at h1 h2
 unfold inR at p1 p2
 unfold gr; omega
theorem isT.rng {s : Stm} {t : Trh} (ht : isT s t) (h : VS0 s) : (0 ≤ t.A ∧ t.A ≤ s.High - 1) ∧ (0 ≤ t.B ∧ t.B ≤ s.High - 1) ∧ (0 ≤ t.Half ∧ t.Half ≤ 3) ∧ (1 ≤ t.Peak ∧ t.Peak ≤ 9) := by
 have a := h.a; have b := h.b; have c := h.half; have d := h.peak
 obtain ⟨q1, q2, q3, q4⟩ := ht
 unfold Wi at a b c d
 unfold inR at q1 q2 q3 q4
 omega
theorem sml {s : Stm} {t : Trh} (h : VS0 s) (hm : ¬ ManyS s) (ht : isT s t) {x y : Int} (hg : gr s x y) : (0 ≤ (s.Wide - 1) * y ∧ (s.Wide - 1) * y ≤ 121) ∧ (0 ≤ t.A * (s.Wide - 1 - x) ∧ t.A * (s.Wide - 1 - x) ≤ 121) ∧ (0 ≤ t.B * x ∧ t.B * x ≤ 121) ∧ (0 ≤ (s.Wide - 1) * t.Half ∧ (s.Wide - 1) * t.Half ≤ 33) := by
 obtain ⟨h1, h2, _⟩ := not_many hm
 obtain ⟨q1, q2, q3, _⟩ := ht.rng h
 have hw := h.wide
 unfold gr at hg
 exact ⟨mul_rng0 (A := 11) (B := 11) (by omega) (by omega), mul_rng0 (A := 11) (B := 11) (by omega) (by omega), mul_rng0 (A := 11) (B := 11) (by omega) (by omega), mul_rng0 (A := 11) (B := 3) (by omega) (by omega)⟩
theorem dN_rng {s : Stm} {t : Trh} (h : VS0 s) (hm : ¬ ManyS s) (ht : isT s t) {x y : Int} (hg : gr s x y) : 0 ≤ dN s t x y ∧ dN s t x y ≤ 242 := by
 obtain ⟨a, b, c, _⟩ := sml h hm ht hg
 unfold dN; omega
theorem fall_rng {s : Stm} {t : Trh} (h : VS0 s) (hm : ¬ ManyS s) (ht : isT s t) {x y : Int} (hg : gr s x y) : (0 ≤ dN s t x y / (s.Wide - 1) ∧ dN s t x y / (s.Wide - 1) ≤ 242) ∧ (0 ≤ s.Fall * (dN s t x y / (s.Wide - 1)) ∧ s.Fall * (dN s t x y / (s.Wide - 1)) ≤ 968) := by
 obtain ⟨a, b⟩ := dN_rng h hm ht hg
 have hw := h.wide
 have c := Int.ediv_nonneg a (show 0 ≤ s.Wide - 1 by omega)
 have d := Int.ediv_le_self (s.Wide - 1) a
 exact ⟨by omega, mul_rng0 (A := 4) (B := 242) h.fall (by omega)⟩
theorem szN_rng {s : Stm} {t : Trh} (h : VS0 s) (hm : ¬ ManyS s) (ht : isT s t) {x y : Int} (hg : gr s x y) : 0 ≤ szN s t x y ∧ szN s t x y ≤ 9 := by
 obtain ⟨_, a⟩ := fall_rng h hm ht hg
 obtain ⟨_, _, _, b⟩ := ht.rng h
 unfold szN
 split <;> omega
def CanS (s : Stm) (S : Nat → Bool) : Prop := ∃ t, isT s t ∧ ∀ j, S j = true → ∀ c, s.Cards[j]? = some c → RT s t c
def TS (s : Stm) (t : Trh) : Prop := isT s t ∧ ∀ c ∈ s.Cards, RT s t c
def HT (s : Stm) : Prop := ∃ t, TS s t
theorem HT_can {s : Stm} : HT s ↔ CanS s fun _ => true := by
 refine exists_congr fun t => and_congr Iff.rfl ⟨fun h j _ c hc => h c (List.mem_of_getElem? hc), fun h c hc => ?_⟩
 obtain ⟨j, hj⟩ := List.mem_iff_getElem?.1 hc
 exact h j rfl c hj
theorem CanS.congr {s : Stm} {S S' : Nat → Bool} (h : ∀ j, j < s.Cards.length → S j = S' j) : CanS s S ↔ CanS s S' := by
 refine exists_congr fun t => and_congr Iff.rfl ⟨fun f j hj c hc => f j ?_ c hc, fun f j hj c hc => f j ?_ c hc⟩
 ·rw [h j (List.getElem?_eq_some_iff.1 hc).1]; exact hj
 ·rw [← h j (List.getElem?_eq_some_iff.1 hc).1]; exact hj
def nums (r : Rg) : List Int := segI r.Lo (cnt r).toNat
theorem mem_nums {r : Rg} (h : r.Lo ≤ r.Hi) {x : Int} : x ∈ nums r ↔ inR r x := by
 unfold nums inR cnt
 rw [mem_segI]; omega
theorem nums_len {r : Rg} {lo hi : Int} (h : Wi r lo hi) {n : Nat} (hn : hi - lo + 1 ≤ n) : (nums r).length ≤ n := by
 have := cnt_rng h
 unfold nums; rw [segI_len]; omega
def chL (s : Stm) : List Trh := (nums s.A).flatMap fun a => (nums s.B).flatMap fun b => (nums s.Half).flatMap fun c => (nums s.Peak).map fun d => ⟨a, b, c, d⟩
theorem mem_chL {s : Stm} (h : VS0 s) {t : Trh} : t ∈ chL s ↔ isT s t := by
 have h1 := h.a; have h2 := h.b; have h3 := h.half; have h4 := h.peak
 unfold Wi at h1 h2 h3 h4
 unfold chL isT
 rw [List.mem_flatMap]
 constructor
 ·rintro ⟨a, ha, ht⟩
  obtain ⟨b, hb, ht⟩ := List.mem_flatMap.1 ht
  obtain ⟨c, hc, ht⟩ := List.mem_flatMap.1 ht
  obtain ⟨d, hd, rfl⟩ := List.mem_map.1 ht
  exact ⟨(mem_nums (by omega)).1 ha, (mem_nums (by omega)).1 hb, (mem_nums (by omega)).1 hc, (mem_nums (by omega)).1 hd⟩
 ·rintro ⟨a, b, c, d⟩
  exact ⟨t.A, (mem_nums (by omega)).2 a, List.mem_flatMap.2 ⟨t.B, (mem_nums (by omega)).2 b, List.mem_flatMap.2 ⟨t.Half, (mem_nums (by omega)).2 c, List.mem_map.2 ⟨t.Peak, (mem_nums (by omega)).2 d, rfl⟩⟩⟩⟩
theorem flatMap_len {α β : Type} {f : α → List β} {B : Nat} : ∀ {l : List α}, (∀ x ∈ l, (f x).length ≤ B) → (l.flatMap f).length ≤ l.length * B
 | [], _ => by simp
 | a :: l, h => by
  rw [List.flatMap_cons, List.length_append, List.length_cons, Nat.add_mul, Nat.one_mul, Nat.add_comm]
  exact Nat.add_le_add (flatMap_len fun x hx => h x (List.mem_cons_of_mem _ hx)) (h a (List.mem_cons_self ..))
theorem chL_len {s : Stm} (h : VS0 s) (hm : ¬ ManyS s) : (chL s).length ≤ 5184 := by
 obtain ⟨_, hh, _⟩ := not_many hm
 have h1 := nums_len h.a (n := 12) (by omega)
 have h2 := nums_len h.b (n := 12) (by omega)
 have h3 := nums_len h.half (n := 4) (by omega)
 have h4 := nums_len h.peak (n := 9) (by omega)
 have q1 : ∀ a b : Int, ((nums s.Half).flatMap fun c => (nums s.Peak).map fun d => (⟨a, b, c, d⟩ : Trh)).length ≤ 36 := fun a b => by
  have := flatMap_len (l := nums s.Half) (f := fun c => (nums s.Peak).map fun d => (⟨a, b, c, d⟩ : Trh)) (B := 9) fun d _ => by rw [List.length_map]; exact h4
  omega
 have q2 : ∀ a : Int, ((nums s.B).flatMap fun b => (nums s.Half).flatMap fun c => (nums s.Peak).map fun d => (⟨a, b, c, d⟩ : Trh)).length ≤ 432 := fun a => by
  have := flatMap_len (l := nums s.B) (f := fun b => (nums s.Half).flatMap fun c => (nums s.Peak).map fun d => (⟨a, b, c, d⟩ : Trh)) (B := 36) fun b _ => q1 a b
  omega
 have q3 := flatMap_len (l := nums s.A) (f := fun a => (nums s.B).flatMap fun b => (nums s.Half).flatMap fun c => (nums s.Peak).map fun d => (⟨a, b, c, d⟩ : Trh)) (B := 432) fun a _ => q2 a
 unfold chL; omega
open Classical in
def TL (s : Stm) : List Trh := (chL s).filter fun t => decide (∀ c ∈ s.Cards, RT s t c)
open Classical in
theorem mem_TL {s : Stm} (h : VS0 s) {t : Trh} : t ∈ TL s ↔ TS s t := by
 unfold TL TS
 rw [List.mem_filter, mem_chL h, decide_eq_true_eq]
theorem TL_len {s : Stm} (h : VS0 s) (hm : ¬ ManyS s) : (TL s).length ≤ 5184 := Nat.le_trans (List.length_filter_le _ _) (chL_len h hm)
def nthT (s : Stm) (n : Int) : Trh := ⟨s.A.Lo + n % cnt s.A, s.B.Lo + n / cnt s.A % cnt s.B, s.Half.Lo + n / cnt s.A / cnt s.B % cnt s.Half, s.Peak.Lo + n / cnt s.A / cnt s.B / cnt s.Half⟩
theorem divlt {n a b : Int} (ha : 0 < a) (h : n < a * b) : n / a < b := by
 rw [Int.mul_comm] at h
 exact (Int.ediv_lt_iff_lt_mul ha).2 h
theorem nth_rng {s : Stm} (h : VS0 s) (hm : ¬ ManyS s) {n : Int} (h0 : 0 ≤ n) (hn : n < manyN s) :
  (0 ≤ n % cnt s.A ∧ n % cnt s.A < cnt s.A) ∧ (0 ≤ n / cnt s.A) ∧ (0 ≤ n / cnt s.A % cnt s.B ∧ n / cnt s.A % cnt s.B < cnt s.B) ∧ (0 ≤ n / cnt s.A / cnt s.B) ∧ (0 ≤ n / cnt s.A / cnt s.B % cnt s.Half ∧ n / cnt s.A / cnt s.B % cnt s.Half < cnt s.Half) ∧ (0 ≤ n / cnt s.A / cnt s.B / cnt s.Half ∧ n / cnt s.A / cnt s.B / cnt s.Half < cnt s.Peak) := by
 obtain ⟨h1, h2, h3, h4, _⟩ := many_rng h hm
 unfold manyN at hn
 have e1 : n / cnt s.A < cnt s.B * cnt s.Half * cnt s.Peak := divlt (by omega) (by rw [← Int.mul_assoc, ← Int.mul_assoc]; exact hn)
 have e2 : n / cnt s.A / cnt s.B < cnt s.Half * cnt s.Peak := divlt (by omega) (by rw [← Int.mul_assoc]; exact e1)
 have e3 := divlt (by omega) e2
 have p1 := Int.ediv_nonneg h0 (show 0 ≤ cnt s.A by omega)
 have p2 := Int.ediv_nonneg p1 (show 0 ≤ cnt s.B by omega)
 have p3 := Int.ediv_nonneg p2 (show 0 ≤ cnt s.Half by omega)
 exact ⟨⟨Int.emod_nonneg _ (by omega), Int.emod_lt_of_pos _ (by omega)⟩, p1, ⟨Int.emod_nonneg _ (by omega), Int.emod_lt_of_pos _ (by omega)⟩, p2, ⟨Int.emod_nonneg _ (by omega), Int.emod_lt_of_pos _ (by omega)⟩, p3, e3⟩
theorem nth_isT {s : Stm} (h : VS0 s) (hm : ¬ ManyS s) {n : Int} (h0 : 0 ≤ n) (hn : n < manyN s) : isT s (nthT s n) := by
 obtain ⟨e1, _, e3, _, e5, e6⟩ := nth_rng h hm h0 hn
 unfold isT inR nthT
 dsimp only
 generalize n / cnt s.A / cnt s.B / cnt s.Half = x4 at *
 generalize n / cnt s.A / cnt s.B % cnt s.Half = x3 at *
 generalize n / cnt s.A % cnt s.B = x2 at *
 generalize n % cnt s.A = x1 at *
 unfold cnt at e1 e3 e5 e6
 omega
theorem mix {x A r : Int} (h : 0 ≤ x ∧ x < A) : (x + r * A) % A = x ∧ (x + r * A) / A = r := by
 refine ⟨by rw [Int.add_mul_emod_self_right]; exact Int.emod_eq_of_lt h.1 h.2, by rw [Int.add_mul_ediv_right _ _ (by omega), Int.ediv_eq_zero_of_lt h.1 h.2, Int.zero_add]⟩
theorem mix_lt {x A r R : Int} (h : 0 ≤ x ∧ x < A) (hr : 0 ≤ r ∧ r < R) : 0 ≤ x + r * A ∧ x + r * A < R * A := by
 have m1 : 0 ≤ r * A := Int.mul_nonneg hr.1 (by omega)
 have m2 : r * A ≤ (R - 1) * A := Int.mul_le_mul_of_nonneg_right (by omega) (by omega)
 have m3 : (R - 1) * A = R * A - A := by rw [Int.sub_mul, Int.one_mul]
 omega
theorem isT_nth {s : Stm} (_h : VS0 s) (_hm : ¬ ManyS s) {t : Trh} (ht : isT s t) : ∃ n, 0 ≤ n ∧ n < manyN s ∧ nthT s n = t := by
 obtain ⟨a, b, c, d⟩ := ht
 unfold inR at a b c d
 have w1 : 0 ≤ t.A - s.A.Lo ∧ t.A - s.A.Lo < cnt s.A := by unfold cnt; omega
 have w2 : 0 ≤ t.B - s.B.Lo ∧ t.B - s.B.Lo < cnt s.B := by unfold cnt; omega
 have w3 : 0 ≤ t.Half - s.Half.Lo ∧ t.Half - s.Half.Lo < cnt s.Half := by unfold cnt; omega
 have w4 : 0 ≤ t.Peak - s.Peak.Lo ∧ t.Peak - s.Peak.Lo < cnt s.Peak := by unfold cnt; omega
 have k3 := mix_lt w3 w4
 have k2 := mix_lt w2 k3
 have k1 := mix_lt w1 k2
 refine ⟨_, k1.1, ?_, ?_⟩
 ·refine Int.lt_of_lt_of_le k1.2 (Int.le_of_eq ?_)
  unfold manyN
  rw [Int.mul_comm (cnt s.A * cnt s.B * cnt s.Half), Int.mul_comm (cnt s.A * cnt s.B), Int.mul_comm (cnt s.A), ← Int.mul_assoc, ← Int.mul_assoc]
 ·unfold nthT
  rw [(mix w1).1, (mix w1).2, (mix w2).1, (mix w2).2, (mix w3).1, (mix w3).2]
  cases t
  dsimp only
  congr 1 <;> omega
end
end Go.Proofs.Ytbnfnhfanooplaa

