/- GrowthRises, for all that it can be called with, returns true. Condition: none. -/
import Derived.Test.YtkkkpgljkfakkaaGreatGaG
import GoSem.Step
import GoSem.ClaimKeys
import Derived.DeepKeys2
import Derived.RangeFuncLeaves
import Derived.OrdersIn
import Derived.Laws.World
import Derived.Laws.Sem
import Derived.RangeFuncRecord
import Derived.Laws.CopyRow
import Derived.Laws.Append
import Derived.Laws.Rows
import Derived.Laws.Slices
import Derived.Laws.Entries
import Derived.ChangeKeysEq
import Derived.IntWalk
import Derived.DeepKeys
import Derived.DeepKeys3
import Derived.Laws.StructEq
import Derived.MapKept
import Derived.Laws.AppendOwn
import Derived.ChangeArms
import Derived.ChangeOld
import Derived.Carry
import Derived.ChangeShapes
import Derived.KernelRfl
import Derived.ProofKit
import Derived.Test.YtkkkpgljkfakkaaGreatRows

namespace Go.Proofs.YtkkkpgljkfakkaaGreat
open _root_.Go.Proofs.Tryz
open Go.Abs
set_option maxRecDepth 100000
noncomputable section
def Fv_Int_Bool (f : M) (x : C) (g : Int → Option (Bool)) : Prop := ∀ (f' m : M) (a0 : Int) (r : Bool) (Q : V → M → Prop), Sub f f' → Pre f' m → g a0 = some r → (∀ m', Ext m m' → Q (.c (.bool r)) m') → callP prog tbl [.c (.int .i64 a0)] x m Q
theorem Fv_Int_Bool.sub {f m : M} {x : C} {g : Int → Option (Bool)} (h : Fv_Int_Bool f x g) (s : Sub f m) : Fv_Int_Bool m x g := fun f' m' a0 r Q hs => h f' m' a0 r Q (s.trans hs)
def Fv_LInt_Bool (f : M) (x : C) (g : List Int → Option (Bool)) : Prop := ∀ (f' m : M) (a0 : List Int) (c0 : C) (r : Bool) (Q : V → M → Prop), Sub f f' → Pre f' m → Sl f' c0 a0 → g a0 = some r → (∀ m', Ext m m' → Q (.c (.bool r)) m') → callP prog tbl [.c c0] x m Q
theorem Fv_LInt_Bool.sub {f m : M} {x : C} {g : List Int → Option (Bool)} (h : Fv_LInt_Bool f x g) (s : Sub f m) : Fv_LInt_Bool m x g := fun f' m' a0 c0 r Q hs => h f' m' a0 c0 r Q (s.trans hs)
def Fv_Fld_Bool (f : M) (x : C) (g : Fld → Option (Bool)) : Prop := ∀ (f' m : M) (a0 : Fld) (r : Bool) (Q : V → M → Prop), Sub f f' → Pre f' m → g a0 = some r → (∀ m', Ext m m' → Q (.c (.bool r)) m') → callP prog tbl [.agg 7 [(.int .i64 a0.Crop), (.int .i64 a0.Week.Lo), (.int .i64 a0.Week.Hi), (.int .i64 a0.Damage.Lo), (.int .i64 a0.Damage.Hi), (.int .i64 a0.Old.Lo), (.int .i64 a0.Old.Hi)]] x m Q
theorem Fv_Fld_Bool.sub {f m : M} {x : C} {g : Fld → Option (Bool)} (h : Fv_Fld_Bool f x g) (s : Sub f m) : Fv_Fld_Bool m x g := fun f' m' a0 r Q hs => h f' m' a0 r Q (s.trans hs)
def Fv_Vis_Bool (f : M) (x : C) (g : Vis → Option (Bool)) : Prop := ∀ (f' m : M) (a0 : Vis) (r : Bool) (Q : V → M → Prop), Sub f f' → Pre f' m → g a0 = some r → (∀ m', Ext m m' → Q (.c (.bool r)) m') → callP prog tbl [.agg 4 [(.int .i64 a0.Field), (.int .i64 a0.Week), (.int .i64 a0.Seen.Lo), (.int .i64 a0.Seen.Hi)]] x m Q
theorem Fv_Vis_Bool.sub {f m : M} {x : C} {g : Vis → Option (Bool)} (h : Fv_Vis_Bool f x g) (s : Sub f m) : Fv_Vis_Bool m x g := fun f' m' a0 r Q hs => h f' m' a0 r Q (s.trans hs)
def Fv_Dm_Bool (f : M) (x : C) (g : Dm → Option (Bool)) : Prop := ∀ (f' m : M) (a0 : Dm) (r : Bool) (Q : V → M → Prop), Sub f f' → Pre f' m → g a0 = some r → (∀ m', Ext m m' → Q (.c (.bool r)) m') → callP prog tbl [.agg 13 [(.int .i64 a0.d0), (.int .i64 a0.d1), (.int .i64 a0.d2), (.int .i64 a0.d3), (.int .i64 a0.d4), (.int .i64 a0.d5), (.int .i64 a0.d6), (.int .i64 a0.d7), (.int .i64 a0.d8), (.int .i64 a0.d9), (.int .i64 a0.d10), (.int .i64 a0.d11), (.int .i64 a0.d12)]] x m Q
theorem Fv_Dm_Bool.sub {f m : M} {x : C} {g : Dm → Option (Bool)} (h : Fv_Dm_Bool f x g) (s : Sub f m) : Fv_Dm_Bool m x g := fun f' m' a0 r Q hs => h f' m' a0 r Q (s.trans hs)
theorem ta22 : TA prog 22 1 := ⟨38, by kernel_rfl, by kernel_rfl, by kernel_rfl⟩
theorem ta38 : TA prog 38 1 := ⟨3, by kernel_rfl, by kernel_rfl, by kernel_rfl⟩
theorem ta41 : TA prog 41 7 := ⟨81, by kernel_rfl, by kernel_rfl, by kernel_rfl⟩
theorem ta42 : TA prog 42 4 := ⟨66, by kernel_rfl, by kernel_rfl, by kernel_rfl⟩
theorem s_awake {m f : M} {Q : V → M → Prop} {rz : Bool} (_hS : Pre f m) (hp : pawake = some rz) (hq : ∀ m', Ext m m' → Q (.c (.bool rz)) m') : Wc prog tbl 5 [] m Q := by
 obtain rfl := Option.some.inj hp
 exact call_known (show findT tbl 5 = some true from rfl) (hq _ (.refl m))
theorem s_rIn {n : Int} {low : Int} {high : Int} {m f : M} {Q : V → M → Prop} {rz : Bool} (hS : Pre f m)  (hp : prIn n low high = some rz) (hq : ∀ m', Ext m m' → Q (.c (.bool rz)) m') : Wc prog tbl 30 [.c (Il n), .c (Il low), .c (Il high)] m Q := by
 have b := hS.st
 obtain ⟨d, _⟩ : ∃ τ : Nat → Nat, True := ⟨fun _ => 0, trivial⟩
 refine w30 ?_
 unfold prIn at hp
 refine ifd hp (fun a hp => ?_) fun a hp => ?_
 ·obtain rfl := Option.some.inj hp
  exact hq _ b.ext'
 obtain rfl := Option.some.inj hp
 exact hq _ b.ext'
theorem s_rWithin {r : Rg} {low : Int} {high : Int} {m f : M} {Q : V → M → Prop} {rz : Bool} (hS : Pre f m)  (hp : prWithin r low high = some rz) (hq : ∀ m', Ext m m' → Q (.c (.bool rz)) m') : Wc prog tbl 31 [.agg 2 [(Il r.Lo), (Il r.Hi)], .c (Il low), .c (Il high)] m Q := by
 have h := hS.st
 obtain ⟨i, _⟩ : ∃ τ : Nat → Nat, True := ⟨fun _ => 0, trivial⟩
 refine w31 ?_
 unfold prWithin at hp
 intro n d
 obtain ⟨j, b, l, a⟩ := h.blk d i 1
 refine ⟨trivial, _, a.bk.rc rfl, ?_⟩
 refine ifd hp (fun e hp => ?_) fun e hp => ?_; rotate_left
 ·obtain rfl := Option.some.inj hp
  exact hq _ b.ext'
 refine ⟨trivial, _, a.bk.rc rfl, trivial, _, a.bk.rc rfl, ?_⟩
 refine ifd hp (fun g hp => ?_) fun g hp => ?_; rotate_left
 ·obtain rfl := Option.some.inj hp
  exact hq _ b.ext'
 refine ⟨trivial, _, a.bk.rc rfl, ?_⟩
 obtain rfl := Option.some.inj hp
 exact hq _ b.ext'
theorem s_rCount {r : Rg} {m f : M} {Q : V → M → Prop} {rz : Int} (hS : Pre f m)  (hp : prCount r = some rz) (hq : ∀ m', Ext m m' → Q (.c (Il rz)) m') : Wc prog tbl 24 [.agg 2 [(Il r.Lo), (Il r.Hi)]] m Q := by
 have h := hS.st
 obtain ⟨i, _⟩ : ∃ τ : Nat → Nat, True := ⟨fun _ => 0, trivial⟩
 refine w24 ?_
 unfold prCount at hp
 intro n b
 obtain ⟨j, d, l, a⟩ := h.blk b i 1
 refine ⟨trivial, _, a.bk.rc rfl, trivial, _, a.bk.rc rfl, ?_⟩
 refine gdi hp fun e hp => ?_
 refine gdi hp fun g hp => ?_
 obtain rfl := Option.some.inj hp
 exact hq _ d.ext'
theorem s_rIsRule {s : Ssn} {l : List Int} {ca101 ca102 ca103 ca200 : C} {m f : M} {Q : V → M → Prop} {rz : Bool} (hS : Pre f m) (_ha101 : Sl f ca101 s.Rules) (_ha102 : Sl f ca102 s.Fields) (_ha103 : Sl f ca103 s.Visits) (ha200 : Sl f ca200 l) (hp : prIsRule s l = some rz) (hq : ∀ m', Ext m m' → Q (.c (.bool rz)) m') : Wc prog tbl 29 [.agg 4 [(Il s.Last), ca101, ca102, ca103], .c ca200] m Q := by
 have O := hS.st
 obtain ⟨P, _⟩ : ∃ τ : Nat → Nat, True := ⟨fun _ => 0, trivial⟩
 refine w29 ?_
 unfold prIsRule at hp
 intro m0 q
 obtain ⟨r, t, S, a⟩ := O.blk q P 1
 intro T N
 have hgo : ∀ (e : Nat) (u : Bool) (o : Int) (i : M) (b : Nat → Nat), St (Fm.of m) f f i → Lb (Fm.of m) f b i 1 m.nxt 4 [(Il s.Last), ca101, ca102, ca103] → prIsRule_L0 s l e o = some rz → T [.c (.bool u), .c (Il o)] i := by
  intro e
  induction e with
  | zero => intro u o i b d a hp; cases hp
  | succ e x =>
   intro u o i b d a hp
   refine N _ _ _ ?_
   rw [prIsRule_L0] at hp
   refine ⟨ha200.isSl, ?_⟩
   try rw [ha200.slLen]
   refine ifd hp (fun y hp => ?_) fun y hp => ?_; rotate_left
   ·refine ⟨ha200.isSl, trivial, _, a.bk.rc rfl, ?_⟩
    refine gdi hp fun z hp => ?_
    try rw [ha200.slLen]
    obtain rfl := Option.some.inj hp
    exact hq _ d.ext'
   obtain ⟨A, g, hp⟩ := bsome hp
   obtain ⟨Y, p, h, g⟩ := idx_some g
   refine ⟨Y, p, (by first | exact h | (rw [ha200.slLen]; exact h)), _, (ha200.rdI g d.sub), ?_⟩
   obtain ⟨Z, B, hp⟩ := bsome hp
   refine s_rIn (n := A) (low := (0 : Int)) (high := (100 : Int)) d.pre  B fun m8 D => ?_
   obtain ⟨j, F⟩ := d.call D b
   have G := a.k F
   refine ⟨_, rfl, ?_⟩
   refine ifnb hp (fun I hp => ?_) fun I hp => ?_
   ·obtain rfl := Option.some.inj hp
    exact hq _ j.ext'
   refine gdi hp fun J hp => ?_
   exact x _ _ _ b j G hp
 exact hgo _ _ _ _ r t a hp
theorem s_rMany {fl : Fld} {m f : M} {Q : V → M → Prop} {rz : Int} (hS : Pre f m)  (hp : prMany fl = some rz) (hq : ∀ m', Ext m m' → Q (.c (Il rz)) m') : Wc prog tbl 7 [.agg 7 [(Il fl.Crop), (Il fl.Week.Lo), (Il fl.Week.Hi), (Il fl.Damage.Lo), (Il fl.Damage.Hi), (Il fl.Old.Lo), (Il fl.Old.Hi)]] m Q := by
 have I := hS.st
 obtain ⟨J, _⟩ : ∃ τ : Nat → Nat, True := ⟨fun _ => 0, trivial⟩
 refine w7 ?_
 unfold prMany at hp
 intro Z i
 obtain ⟨b, e, N, a⟩ := I.blk i J 1
 refine ⟨trivial, _, _, a.bk.rp (k := 1) (j := 2) rfl (by omega), ?_⟩
 obtain ⟨O, l, hp⟩ := bsome hp
 refine s_rCount (r := fl.Week) e.pre  l fun m4 n => ?_
 obtain ⟨g, o⟩ := e.call n b
 have d := a.k o
 refine ⟨_, rfl, trivial, _, _, d.bk.rp (k := 3) (j := 2) rfl (by omega), (a.bk.rp (k := 3) (j := 2) rfl (by omega)), ?_⟩
 obtain ⟨P, p, hp⟩ := bsome hp
 refine s_rCount (r := fl.Damage) g.pre  p fun m9 q => ?_
 obtain ⟨h, s⟩ := g.call q b
 have t := d.k s
 refine ⟨_, rfl, ?_⟩
 refine gdi hp fun u hp => ?_
 refine gdi hp fun x hp => ?_
 obtain ⟨y, hp⟩ := gd_some hp
 refine ⟨y, trivial, _, _, t.bk.rp (k := 5) (j := 2) rfl (by omega), (d.bk.rp (k := 5) (j := 2) rfl (by omega)), (a.bk.rp (k := 5) (j := 2) rfl (by omega)), ?_⟩
 obtain ⟨S, z, hp⟩ := bsome hp
 refine s_rCount (r := fl.Old) h.pre  z fun Y A => ?_
 obtain ⟨B, T⟩ := h.call A b
 refine ⟨_, rfl, ?_⟩
 refine gdi hp fun D hp => ?_
 refine gdi hp fun F hp => ?_
 refine gdi hp fun G hp => ?_
 obtain rfl := Option.some.inj hp
 exact hq _ B.ext'
theorem s_rFault {s : Ssn} {ca101 ca102 ca103 : C} {m f : M} {Q : V → M → Prop} {rz : Int} (hS : Pre f m) (ha101 : Sl f ca101 s.Rules) (ha102 : Sl f ca102 s.Fields) (ha103 : Sl f ca103 s.Visits) (hp : prFault s = some rz) (hq : ∀ m', Ext m m' → Q (.c (Il rz)) m') : Wc prog tbl 14 [.agg 4 [(Il s.Last), ca101, ca102, ca103]] m Q := by
 have S0 := hS.st
 obtain ⟨τ0, _⟩ : ∃ τ : Nat → Nat, True := ⟨fun _ => 0, trivial⟩
 refine w14 ?_
 unfold prFault at hp
 intro m0 Sa
 obtain ⟨Ta, d, Oc, a⟩ := S0.blk Sa τ0 1
 refine ⟨trivial, _, a.bk.rc rfl, ?_⟩
 refine ifd hp (fun Ua hp => ?_) fun Ua hp => ?_
 ·obtain rfl := Option.some.inj hp
  exact hq _ d.ext'
 refine ⟨trivial, _, a.bk.rc rfl, ha101.isSl, ?_⟩
 try rw [ha101.slLen]
 refine ifd hp (fun Va hp => ?_) fun Va hp => ?_
 ·obtain rfl := Option.some.inj hp
  exact hq _ d.ext'
 refine ⟨trivial, _, a.bk.rc rfl, ha102.isSl, ?_⟩
 try rw [ha102.slLen]
 refine ifd hp (fun Wa hp => ?_) fun Wa hp => ?_
 ·obtain rfl := Option.some.inj hp
  exact hq _ d.ext'
 refine ⟨trivial, _, a.bk.rc rfl, ha103.isSl, ?_⟩
 try rw [ha103.slLen]
 refine ifd hp (fun Xa hp => ?_) fun Xa hp => ?_
 ·obtain rfl := Option.some.inj hp
  exact hq _ d.ext'
 refine ⟨trivial, _, a.bk.rc rfl, ?_⟩
 refine ifd hp (fun Ya hp => ?_) fun Ya hp => ?_
 ·obtain rfl := Option.some.inj hp
  exact hq _ d.ext'
 refine ⟨trivial, _, a.bk.rc rfl, ha101.isSl, ?_⟩
 try rw [ha101.slLen]
 refine ifd hp (fun Za hp => ?_) fun Za hp => ?_
 ·obtain rfl := Option.some.inj hp
  exact hq _ d.ext'
 refine ⟨trivial, _, a.bk.rc rfl, ha102.isSl, ?_⟩
 try rw [ha102.slLen]
 refine ifd hp (fun ab hp => ?_) fun ab hp => ?_
 ·obtain rfl := Option.some.inj hp
  exact hq _ d.ext'
 intro R8 Dc
 have hgo : ∀ (u : Nat) (x9 : Int) (ca : Int) (F : M) (g : Nat → Nat), St (Fm.of m) f f F → Lb (Fm.of m) f g F 1 m.nxt 4 [(Il s.Last), ca101, ca102, ca103] → prFault_L0 s u x9 ca = some rz → R8 [.c (Il x9), .c (Il ca)] F := by
  intro u
  induction u with
  | zero => intro x9 ca F g h a hp; cases hp
  | succ u bb =>
   intro x9 ca F g h a hp
   refine Dc _ _ _ ?_
   rw [prFault_L0] at hp
   refine ⟨trivial, _, a.bk.rc rfl, ha101.isSl, ?_⟩
   try rw [ha101.slLen]
   refine ifd hp (fun cb hp => ?_) fun cb hp => ?_
   ·refine ⟨_, _, _, _, a.bk.ra, trivial, _, a.bk.rc rfl, ?_⟩
    obtain ⟨db, N, hp⟩ := bsome hp
    obtain ⟨Ec, La, da, N⟩ := idx_some N
    obtain ⟨Qc, eb, fb⟩ := ha101.rdS N
    refine ⟨Ec, La, (by first | exact da | (rw [ha101.slLen]; exact da)), _, (eb _ h.sub), ?_⟩
    obtain ⟨Rc, gb, hp⟩ := bsome hp
    refine s_rIsRule (s := s) (l := db) h.pre ha101 ha102 ha103 fb gb fun dd hb => ?_
    obtain ⟨ma, ib⟩ := h.call hb g
    have jb := a.k ib
    refine ⟨_, rfl, ?_⟩
    refine ifnb hp (fun kb hp => ?_) fun kb hp => ?_
    ·obtain rfl := Option.some.inj hp
     exact hq _ ma.ext'
    refine gdi hp fun mb hp => ?_
    exact bb _ _ _ g ma jb hp
   intro Fc ob
   have hgo : ∀ (x : Nat) (ea : Int) (fa : Int) (G : M) (i : Nat → Nat), St (Fm.of m) f f G → Lb (Fm.of m) f i G 1 m.nxt 4 [(Il s.Last), ca101, ca102, ca103] → prFault_L1 s x ea fa = some rz → Fc [.c (Il ea), .c (Il fa)] G := by
    intro x
    induction x with
    | zero => intro ea fa G i y a hp; cases hp
    | succ x Ma =>
     intro ea fa G i y a hp
     refine ob _ _ _ ?_
     rw [prFault_L1] at hp
     refine ⟨trivial, _, a.bk.rc rfl, ha102.isSl, ?_⟩
     try rw [ha102.slLen]
     refine ifd hp (fun pb hp => ?_) fun pb hp => ?_
     ·refine ⟨trivial, _, a.bk.rc rfl, ?_⟩
      obtain ⟨b, O, hp⟩ := bsome hp
      obtain ⟨Gc, Na, ga, O⟩ := idx_some O
      obtain ⟨_, qb⟩ := rd_Fld ha102 O
      refine ⟨Gc, Na, (by first | exact ga | (rw [ha102.slLen]; exact ga)), _, _, _, _, _, _, _, (qb _ y.sub).1, ?_⟩
      intro ed rb
      obtain ⟨o, sb, tb, ub⟩ := y.blk rb i 2
      have vb := a.k tb
      obtain ⟨wb, xb, na, yb, oa⟩ := ub.sto sb [(Il b.Crop), (Il b.Week.Lo), (Il b.Week.Hi), (Il b.Damage.Lo), (Il b.Damage.Hi), (Il b.Old.Lo), (Il b.Old.Hi)]
      have pa := vb.k yb
      refine ⟨wb, xb, ?_⟩
      refine ⟨trivial, _, oa.bk.rc rfl, trivial, _, pa.bk.rc rfl, ha101.isSl, ?_⟩
      obtain ⟨qa, hp⟩ := gd_some hp
      refine ⟨(by first | exact qa | (rw [ha101.slLen]; exact qa)), ?_⟩
      try rw [ha101.slLen]
      obtain ⟨Tc, zb, hp⟩ := bsome hp
      refine s_rIn (n := b.Crop) (low := (0 : Int)) (high := ((s.Rules.length : Int) - (1 : Int))) na.pre  zb fun fd Ab => ?_
      obtain ⟨P, sa⟩ := na.call Ab o
      have ta := pa.k sa
      have ua := oa.k sa
      refine ⟨_, rfl, ?_⟩
      refine ifnb hp (fun Bb hp => ?_) fun Bb hp => ?_
      ·obtain rfl := Option.some.inj hp
       exact hq _ P.ext'
      refine ⟨trivial, _, _, ua.bk.rp (k := 1) (j := 2) rfl (by omega), trivial, _, ta.bk.rc rfl, ?_⟩
      obtain ⟨Uc, Cb, hp⟩ := bsome hp
      refine s_rWithin (r := b.Week) (low := (0 : Int)) (high := s.Last) P.pre  Cb fun hd Db => ?_
      obtain ⟨S, va⟩ := P.call Db o
      have Eb := ta.k va
      have wa := ua.k va
      refine ⟨_, rfl, ?_⟩
      refine ifnb hp (fun Fb hp => ?_) fun Fb hp => ?_
      ·obtain rfl := Option.some.inj hp
       exact hq _ S.ext'
      refine ⟨trivial, _, _, wa.bk.rp (k := 3) (j := 2) rfl (by omega), ?_⟩
      obtain ⟨Vc, Gb, hp⟩ := bsome hp
      refine s_rWithin (r := b.Damage) (low := (0 : Int)) (high := (100 : Int)) S.pre  Gb fun id Hb => ?_
      obtain ⟨T, xa⟩ := S.call Hb o
      have Ib := Eb.k xa
      have Jb := wa.k xa
      refine ⟨_, rfl, ?_⟩
      refine ifnb hp (fun Kb hp => ?_) fun Kb hp => ?_
      ·obtain rfl := Option.some.inj hp
       exact hq _ T.ext'
      refine ⟨trivial, _, _, Jb.bk.rp (k := 5) (j := 2) rfl (by omega), ?_⟩
      obtain ⟨Xc, Mb, hp⟩ := bsome hp
      refine s_rWithin (r := b.Old) (low := (0 : Int)) (high := (100 : Int)) T.pre  Mb fun jd Nb => ?_
      obtain ⟨ya, Ob⟩ := T.call Nb o
      have Pb := Ib.k Ob
      refine ⟨_, rfl, ?_⟩
      refine ifnb hp (fun Qb hp => ?_) fun Qb hp => ?_
      ·obtain rfl := Option.some.inj hp
       exact hq _ ya.ext'
      refine gdi hp fun Rb hp => ?_
      exact Ma _ _ _ o ya Pb hp
     intro Hc Sb
     have hgo : ∀ (z : Nat) (ha : Int) (ia : Int) (I : M) (p : Nat → Nat), St (Fm.of m) f f I → Lb (Fm.of m) f p I 1 m.nxt 4 [(Il s.Last), ca101, ca102, ca103] → prFault_L2 s z ha ia = some rz → Hc [.c (Il ha), .c (Il ia)] I := by
      intro z
      induction z with
      | zero => intro ha ia I p A a hp; cases hp
      | succ z Oa =>
       intro ha ia I p A a hp
       refine Sb _ _ _ ?_
       rw [prFault_L2] at hp
       refine ⟨trivial, _, a.bk.rc rfl, ha103.isSl, ?_⟩
       try rw [ha103.slLen]
       refine ifd hp (fun Tb hp => ?_) fun Tb hp => ?_; rotate_left
       ·intro Ic Ub
        have hgo : ∀ (B : Nat) (za : Int) (ja : Int) (J : M) (q : Nat → Nat), St (Fm.of m) f f J → Lb (Fm.of m) f q J 1 m.nxt 4 [(Il s.Last), ca101, ca102, ca103] → prFault_L3 s B ja = some rz → Ic [.c (Il za), .c (Il ja)] J := by
         intro B
         induction B with
         | zero => intro za ja J q t a hp; cases hp
         | succ B Pa =>
          intro za ja J q t a hp
          refine Ub _ _ _ ?_
          rw [prFault_L3] at hp
          refine ⟨trivial, _, a.bk.rc rfl, ha102.isSl, ?_⟩
          try rw [ha102.slLen]
          refine ifd hp (fun Vb hp => ?_) fun Vb hp => ?_; rotate_left
          ·obtain rfl := Option.some.inj hp
           exact hq _ t.ext'
          refine ⟨trivial, _, a.bk.rc rfl, ?_⟩
          obtain ⟨Wb, Y, hp⟩ := bsome hp
          obtain ⟨Jc, Qa, ka, Y⟩ := idx_some Y
          obtain ⟨_, Xb⟩ := rd_Fld ha102 Y
          refine ⟨Jc, Qa, (by first | exact ka | (rw [ha102.slLen]; exact ka)), _, _, _, _, _, _, _, (Xb _ t.sub).1, ?_⟩
          obtain ⟨Yc, Yb, hp⟩ := bsome hp
          refine s_rMany (fl := Wb) t.pre  Yb fun Zc Zb => ?_
          obtain ⟨Aa, ac⟩ := t.call Zb q
          have bc := a.k ac
          refine ⟨_, rfl, ?_⟩
          refine ifd hp (fun cc hp => ?_) fun cc hp => ?_
          ·obtain rfl := Option.some.inj hp
           exact hq _ Aa.ext'
          refine gdi hp fun dc hp => ?_
          exact Pa _ _ _ q Aa bc hp
        exact hgo _ _ _ _ p A a hp
       refine ⟨trivial, _, a.bk.rc rfl, ?_⟩
       obtain ⟨e, Z, hp⟩ := bsome hp
       obtain ⟨Kc, Ra, la, Z⟩ := idx_some Z
       obtain ⟨_, ec⟩ := rd_Vis ha103 Z
       refine ⟨Kc, Ra, (by first | exact la | (rw [ha103.slLen]; exact la)), _, _, _, _, (ec _ A.sub).1, ?_⟩
       intro kd fc
       obtain ⟨D, gc, hc, ic⟩ := A.blk fc p 3
       have jc := a.k hc
       obtain ⟨kc, lc, Ba, nc, Ca⟩ := ic.sto gc [(Il e.Field), (Il e.Week), (Il e.Seen.Lo), (Il e.Seen.Hi)]
       have Da := jc.k nc
       refine ⟨kc, lc, ?_⟩
       refine ⟨trivial, _, Ca.bk.rc rfl, trivial, _, Da.bk.rc rfl, ha102.isSl, ?_⟩
       obtain ⟨Ea, hp⟩ := gd_some hp
       refine ⟨(by first | exact Ea | (rw [ha102.slLen]; exact Ea)), ?_⟩
       try rw [ha102.slLen]
       obtain ⟨ad, oc, hp⟩ := bsome hp
       refine s_rIn (n := e.Field) (low := (0 : Int)) (high := ((s.Fields.length : Int) - (1 : Int))) Ba.pre  oc fun ld pc => ?_
       obtain ⟨aa, Fa⟩ := Ba.call pc D
       have Ga := Da.k Fa
       have Ha := Ca.k Fa
       refine ⟨_, rfl, ?_⟩
       refine ifnb hp (fun qc hp => ?_) fun qc hp => ?_
       ·obtain rfl := Option.some.inj hp
        exact hq _ aa.ext'
       refine ⟨trivial, _, Ha.bk.rc rfl, trivial, _, Ga.bk.rc rfl, ?_⟩
       obtain ⟨bd, sc, hp⟩ := bsome hp
       refine s_rIn (n := e.Week) (low := (0 : Int)) (high := s.Last) aa.pre  sc fun md tc => ?_
       obtain ⟨ba, Ia⟩ := aa.call tc D
       have uc := Ga.k Ia
       have vc := Ha.k Ia
       refine ⟨_, rfl, ?_⟩
       refine ifnb hp (fun wc hp => ?_) fun wc hp => ?_
       ·obtain rfl := Option.some.inj hp
        exact hq _ ba.ext'
       refine ⟨trivial, _, _, vc.bk.rp (k := 2) (j := 2) rfl (by omega), ?_⟩
       obtain ⟨cd, xc, hp⟩ := bsome hp
       refine s_rWithin (r := e.Seen) (low := (0 : Int)) (high := (100 : Int)) ba.pre  xc fun nd yc => ?_
       obtain ⟨Ja, zc⟩ := ba.call yc D
       have Ac := uc.k zc
       refine ⟨_, rfl, ?_⟩
       refine ifnb hp (fun Bc hp => ?_) fun Bc hp => ?_
       ·obtain rfl := Option.some.inj hp
        exact hq _ Ja.ext'
       refine gdi hp fun Cc hp => ?_
       exact Oa _ _ _ D Ja Ac hp
     exact hgo _ _ _ _ i y a hp
   exact hgo _ _ _ _ g h a hp
 exact hgo _ _ _ _ Ta d a hp
theorem s_rNth {fl : Fld} {n : Int} {m f : M} {Q : V → M → Prop} {rz : Trh} (hS : Pre f m)  (hp : prNth fl n = some rz) (hq : ∀ m', Ext m m' → Q (.agg 3 [(Il rz.Week), (Il rz.Damage), (Il rz.Old)]) m') : Wc prog tbl 6 [.agg 7 [(Il fl.Crop), (Il fl.Week.Lo), (Il fl.Week.Hi), (Il fl.Damage.Lo), (Il fl.Damage.Hi), (Il fl.Old.Lo), (Il fl.Old.Hi)], .c (Il n)] m Q := by
 have S0 := hS.st
 obtain ⟨τ0, _⟩ : ∃ τ : Nat → Nat, True := ⟨fun _ => 0, trivial⟩
 refine w6 ?_
 unfold prNth at hp
 intro m0 O
 obtain ⟨P, S, ib, T⟩ := S0.blk O τ0 1
 intro m1 Y
 obtain ⟨Z, aa, ba, ca⟩ := S.blk Y P 2
 have da := T.k ba
 intro m2 ea
 obtain ⟨d, z, A, fa⟩ := aa.blk ea Z 3
 have e := da.k A
 have ga := ca.k A
 refine ⟨trivial, trivial, _, e.bk.rc rfl, trivial, _, _, e.bk.rp (k := 1) (j := 2) rfl (by omega), ?_⟩
 obtain ⟨b, ha, hp⟩ := bsome hp
 refine s_rCount (r := fl.Week) z.pre  ha fun m7 ia => ?_
 obtain ⟨B, i⟩ := z.call ia d
 have l := e.k i
 have ja := ga.k i
 have ka := fa.k i
 refine ⟨_, rfl, (l.bk.rc rfl), ?_⟩
 refine gdi hp fun la hp => ?_
 refine gdi hp fun ma hp => ?_
 refine gdi hp fun na hp => ?_
 obtain ⟨oa, hp⟩ := gd_some hp
 refine ⟨oa, trivial, _, _, l.bk.rp (k := 1) (j := 2) rfl (by omega), (e.bk.rp (k := 1) (j := 2) rfl (by omega)), ?_⟩
 obtain ⟨a, pa, hp⟩ := bsome hp
 refine s_rCount (r := fl.Week) B.pre  pa fun kb qa => ?_
 obtain ⟨sa, o⟩ := B.call qa d
 have D := l.k o
 have ta := ja.k o
 have ua := ka.k o
 refine ⟨_, rfl, (D.bk.rc rfl), ?_⟩
 refine gdi hp fun va hp => ?_
 refine gdi hp fun wa hp => ?_
 obtain ⟨xa, hp⟩ := gd_some hp
 refine ⟨xa, trivial, ?_⟩
 obtain ⟨ya, za, F, G, p⟩ := ua.sto1 sa 0 (Il (fl.Week.Lo + (n % b))) (by simp) rfl
 replace p : Lb _ _ _ _ _ _ _ [(Il (fl.Week.Lo + (n % b))), (Il 0), (Il 0)] := p
 have g := D.k G
 have Aa := ta.k G
 refine ⟨ya, za, ?_⟩
 refine ⟨trivial, trivial, _, g.bk.rc rfl, trivial, _, _, g.bk.rp (k := 3) (j := 2) rfl (by omega), ?_⟩
 obtain ⟨h, Ba, hp⟩ := bsome hp
 refine s_rCount (r := fl.Damage) F.pre  Ba fun mb Ca => ?_
 obtain ⟨I, q⟩ := F.call Ca d
 have s := g.k q
 have Da := Aa.k q
 have Ea := p.k q
 refine ⟨_, rfl, (s.bk.rc rfl), ?_⟩
 refine gdi hp fun Fa hp => ?_
 refine gdi hp fun Ga hp => ?_
 refine gdi hp fun Ha hp => ?_
 obtain ⟨Ia, hp⟩ := gd_some hp
 refine ⟨Ia, trivial, _, _, s.bk.rp (k := 3) (j := 2) rfl (by omega), (g.bk.rp (k := 3) (j := 2) rfl (by omega)), ?_⟩
 obtain ⟨t, Ja, hp⟩ := bsome hp
 refine s_rCount (r := fl.Damage) I.pre  Ja fun ob Ka => ?_
 obtain ⟨La, u⟩ := I.call Ka d
 have J := s.k u
 have Ma := Da.k u
 have Na := Ea.k u
 refine ⟨_, rfl, (J.bk.rc rfl), ?_⟩
 refine gdi hp fun Oa hp => ?_
 refine gdi hp fun Pa hp => ?_
 obtain ⟨Qa, hp⟩ := gd_some hp
 refine ⟨Qa, trivial, ?_⟩
 obtain ⟨Ra, Sa, Ta, N, x⟩ := Na.sto1 La 1 (Il (fl.Damage.Lo + ((n / a) % h))) (by simp) rfl
 replace x : Lb _ _ _ _ _ _ _ [(Il (fl.Week.Lo + (n % b))), (Il (fl.Damage.Lo + ((n / a) % h))), (Il 0)] := x
 have Ua := J.k N
 have Va := Ma.k N
 refine ⟨Ra, Sa, ?_⟩
 refine ⟨trivial, trivial, _, Ua.bk.rc rfl, ?_⟩
 obtain ⟨Wa, hp⟩ := gd_some hp
 refine ⟨Wa, trivial, ?_⟩
 obtain ⟨Xa, Ya, Za, ab, y⟩ := x.sto1 Ta 2 (Il (fl.Old.Lo + ((n / a) / t))) (by simp) rfl
 replace y : Lb _ _ _ _ _ _ _ [(Il (fl.Week.Lo + (n % b))), (Il (fl.Damage.Lo + ((n / a) % h))), (Il (fl.Old.Lo + ((n / a) / t)))] := y
 have bb := Va.k ab
 refine ⟨Xa, Ya, ?_⟩
 refine ⟨_, _, _, y.bk.ra, ?_⟩
 obtain ⟨cb, db, eb, jb, fb⟩ := bb.sto Za [(Il (fl.Week.Lo + (n % b))), (Il (fl.Damage.Lo + ((n / a) % h))), (Il (fl.Old.Lo + ((n / a) / t)))]
 refine ⟨cb, db, ?_⟩
 refine ⟨_, _, _, fb.bk.ra, ?_⟩
 obtain rfl := Option.some.inj hp
 exact hq _ eb.ext'
theorem s_rDamage_F : ∀ (d_ : Nat) (s : Ssn) (crop : Int) (t : Trh) (week : Int) (ca101 ca102 ca103 : C) (m f : M) (Q : V → M → Prop) (rz : Int), Pre f m → Sl f ca101 s.Rules → Sl f ca102 s.Fields → Sl f ca103 s.Visits → prDamage_F d_ s crop t week = some rz → (∀ m', Ext m m' → Q (.c (Il rz)) m') → Wc prog tbl 28 [.agg 4 [(Il s.Last), ca101, ca102, ca103], .c (Il crop), .agg 3 [(Il t.Week), (Il t.Damage), (Il t.Old)], .c (Il week)] m Q := by
 intro d_
 induction d_ with
 | zero => intro s crop t week ca101 ca102 ca103 m f Q rz hS a i j hp; cases hp
 | succ d_ ih =>
 intro s crop t week ca101 ca102 ca103 m f Q rz hS a i j hp hq
 have S0 := hS.st
 obtain ⟨τ0, _⟩ : ∃ τ : Nat → Nat, True := ⟨fun _ => 0, trivial⟩
 refine w28 ?_
 rw [prDamage_F] at hp
 intro m0 u
 obtain ⟨x, y, ia, z⟩ := S0.blk u τ0 1
 intro m1 A
 obtain ⟨B, b, D, d⟩ := y.blk A x 2
 have o := z.k D
 refine ⟨trivial, _, d.bk.rc rfl, ?_⟩
 refine ifd hp (fun F hp => ?_) fun F hp => ?_
 ·obtain rfl := Option.some.inj hp
  exact hq _ b.ext'
 refine ⟨trivial, _, d.bk.rc rfl, ?_⟩
 refine ifd hp (fun G hp => ?_) fun G hp => ?_
 ·refine ⟨trivial, _, d.bk.rc rfl, ?_⟩
  obtain rfl := Option.some.inj hp
  exact hq _ b.ext'
 refine ⟨_, _, _, _, o.bk.ra, _, _, _, d.bk.ra, ?_⟩
 refine gdi hp fun I hp => ?_
 obtain ⟨ja, J, hp⟩ := bsome hp
 refine ih s crop t (week - 1) _ _ _ _ _ _ _ b.pre a i j J fun na N => ?_
 obtain ⟨e, O⟩ := b.call N B
 have P := o.k O
 refine ⟨_, rfl, trivial, _, P.bk.rc rfl, ?_⟩
 obtain ⟨ka, g, hp⟩ := bsome hp
 obtain ⟨ea, q, l, g⟩ := idx_some g
 obtain ⟨la, S, p⟩ := a.rdS g
 refine ⟨ea, q, (by first | exact l | (rw [a.slLen]; exact l)), _, (S _ e.sub), ?_⟩
 obtain ⟨ma, h, hp⟩ := bsome hp
 obtain ⟨fa, r, n, h⟩ := idx_some h
 refine ⟨fa, r, (by first | exact n | (rw [p.slLen]; exact n)), _, (p.rdI h e.sub), ?_⟩
 refine gdi hp fun T hp => ?_
 refine gdi hp fun Y hp => ?_
 refine gdi hp fun Z hp => ?_
 refine gdi hp fun aa hp => ?_
 refine gdi hp fun ba hp => ?_
 refine gdi hp fun ca hp => ?_
 refine gdi hp fun da hp => ?_
 obtain rfl := Option.some.inj hp
 exact hq _ e.ext'
theorem s_rDamage {s : Ssn} {crop : Int} {t : Trh} {week : Int} {ca101 ca102 ca103 : C} {m f : M} {Q : V → M → Prop} {rz : Int} (hS : Pre f m) (ha101 : Sl f ca101 s.Rules) (ha102 : Sl f ca102 s.Fields) (ha103 : Sl f ca103 s.Visits) (hp : prDamage s crop t week = some rz) (hq : ∀ m', Ext m m' → Q (.c (Il rz)) m') : Wc prog tbl 28 [.agg 4 [(Il s.Last), ca101, ca102, ca103], .c (Il crop), .agg 3 [(Il t.Week), (Il t.Damage), (Il t.Old)], .c (Il week)] m Q := s_rDamage_F _ s crop t week ca101 ca102 ca103 m f Q rz hS ha101 ha102 ha103 hp hq
theorem s_rSeen {s : Ssn} {field : Int} {t : Trh} {week : Int} {ca101 ca102 ca103 : C} {m f : M} {Q : V → M → Prop} {rz : Int} (hS : Pre f m) (ha101 : Sl f ca101 s.Rules) (ha102 : Sl f ca102 s.Fields) (ha103 : Sl f ca103 s.Visits) (hp : prSeen s field t week = some rz) (hq : ∀ m', Ext m m' → Q (.c (Il rz)) m') : Wc prog tbl 12 [.agg 4 [(Il s.Last), ca101, ca102, ca103], .c (Il field), .agg 3 [(Il t.Week), (Il t.Damage), (Il t.Old)], .c (Il week)] m Q := by
 have F := hS.st
 obtain ⟨G, _⟩ : ∃ τ : Nat → Nat, True := ⟨fun _ => 0, trivial⟩
 refine w12 ?_
 unfold prSeen at hp
 intro P i
 obtain ⟨j, l, I, n⟩ := F.blk i G 1
 intro S o
 obtain ⟨p, b, q, d⟩ := l.blk o j 2
 have g := n.k q
 refine ⟨trivial, _, d.bk.rc rfl, _, _, _, _, g.bk.ra, trivial, _, g.bk.rc rfl, ?_⟩
 obtain ⟨r, a, hp⟩ := bsome hp
 obtain ⟨J, h, e, a⟩ := idx_some a
 obtain ⟨_, u⟩ := rd_Fld ha102 a
 refine ⟨J, h, (by first | exact e | (rw [ha102.slLen]; exact e)), (ha102.isPt a _), _, ((u _ b.sub).2.1 0 _ rfl), _, _, _, d.bk.ra, ?_⟩
 obtain ⟨N, x, hp⟩ := bsome hp
 refine s_rDamage (s := s) (crop := r.Crop) (t := t) (week := week) b.pre ha101 ha102 ha103 x fun O y => ?_
 obtain ⟨z, A⟩ := b.call y p
 have B := d.k A
 refine ⟨_, rfl, (B.bk.rc rfl), ?_⟩
 refine gdi hp fun D hp => ?_
 obtain rfl := Option.some.inj hp
 exact hq _ z.ext'
theorem s_lList {l : List Int} {ca100 : C} {m f : M} {Q : V → M → Prop} {rz : List Int} (hS : Pre f m) (ha100 : Sl f ca100 l) (hp : plList l = some rz) (hq : ∀ m' f' c0, Grw m f m' f' → On m f' m' c0 rz → Q (.c c0) m') : Wc prog tbl 8 [.c ca100] m Q := by
 have i := hS.st
 obtain ⟨j, _⟩ : ∃ τ : Nat → Nat, True := ⟨fun _ => 0, trivial⟩
 refine w8 ?_
 unfold plList at hp
 obtain ⟨b, hp⟩ := gd_some hp
 obtain ⟨a, d, n, e, g, o, h⟩ := (Ow.nil (α := Int) (Fm.of m) f j m 1).appL ta38 i ha100 b
 refine ⟨a, d, e, ?_⟩
 obtain rfl := Option.some.inj hp
 exact hq _ f a g.grw h.on
theorem s_lTo {r : Rg} {m f : M} {Q : V → M → Prop} {rz : Rg} (hS : Pre f m)  (hp : plTo r = some rz) (hq : ∀ m', Ext m m' → Q (.agg 2 [(Il rz.Lo), (Il rz.Hi)]) m') : Wc prog tbl 27 [.agg 2 [(Il r.Lo), (Il r.Hi)]] m Q := by
 have q := hS.st
 obtain ⟨s, _⟩ : ∃ τ : Nat → Nat, True := ⟨fun _ => 0, trivial⟩
 refine w27 ?_
 unfold plTo at hp
 intro y b
 obtain ⟨c, d, t, e⟩ := q.blk b s 1
 intro z g
 obtain ⟨u, h, i, j⟩ := d.blk g c 2
 have a := e.k i
 refine ⟨trivial, _, a.bk.rc rfl, trivial, _, a.bk.rc rfl, ?_⟩
 obtain ⟨l, n, o, x, p⟩ := j.sto h [(Il r.Lo), (Il r.Hi)]
 refine ⟨l, n, ?_⟩
 refine ⟨_, _, p.bk.ra, ?_⟩
 obtain rfl := Option.some.inj hp
 exact hq _ o.ext'
theorem s_lSeason {s : Ssn} {ca101 ca102 ca103 : C} {m f : M} {Q : V → M → Prop} {rz : Ssn} (hS : Pre f m) (ha101 : Sl f ca101 s.Rules) (ha102 : Sl f ca102 s.Fields) (ha103 : Sl f ca103 s.Visits) (hp : plSeason s = some rz) (hq : ∀ m' f' c1 c2 c3, Grw m f m' f' → Sl f' c1 rz.Rules → Sl f' c2 rz.Fields → Sl f' c3 rz.Visits → Q (.agg 4 [(Il rz.Last), c1, c2, c3]) m') : Wc prog tbl 10 [.agg 4 [(Il s.Last), ca101, ca102, ca103]] m Q := by
 have S0 := hS.st
 obtain ⟨τ0, _⟩ : ∃ τ : Nat → Nat, True := ⟨fun _ => 0, trivial⟩
 refine w10 ?_
 unfold plSeason at hp
 intro m0 Kb
 obtain ⟨Mb, Nb, He, Ob⟩ := S0.blk Kb τ0 1
 intro m1 Qb
 obtain ⟨Rb, Sb, Tb, Ub⟩ := Nb.blk Qb Mb 2
 have bb := Ob.k Tb
 refine ⟨trivial, _, bb.bk.rc rfl, ?_⟩
 intro m3 Vb
 obtain ⟨Wb, Xb, cb, Yb⟩ := Sb.blk Vb Rb 3
 have Zb := bb.k cb
 have ac := Ub.k cb
 obtain ⟨bc, cc, dc, db, n⟩ := Yb.sto Xb [(Il s.Last), .sl0, .sl0, .sl0]
 have g := Zb.k db
 have o := ac.k db
 refine ⟨bc, cc, ?_⟩
 intro R5 ze
 have hgo : ∀ (ua : Nat) (x6 : Int) (p : C) (fa : C) (ga : C) (ha : Int) (D : List (List Int)) (va : List Fld) (wa : List Vis) (m7 : M) (e : M) (x : Nat → Nat), St (Fm.of m) f e m7 → Sub f e → Lb (Fm.of m) e x m7 1 m.nxt 4 [(Il s.Last), ca101, ca102, ca103] → Lb (Fm.of m) e x m7 2 m0.nxt 4 [(Il 0), .sl0, .sl0, .sl0] → Lb (Fm.of m) e x m7 3 m1.nxt 4 [(Il ha), p, fa, ga] → Ow (Fm.of m) e x m7 4 p D → Ow (Fm.of m) e x m7 5 fa va → Ow (Fm.of m) e x m7 6 ga wa → plSeason_L0 s ua ha D va wa x6 = some rz → R5 [.c (Il x6)] m7 := by
  intro ua
  induction ua with
  | zero => intro x6 p fa ga ha D va wa m7 e x ia F g o n b t u hp; cases hp
  | succ ua ec =>
   intro x6 p fa ga ha D va wa m7 e x ia F g o n b t u hp
   refine ze _ _ ?_
   rw [plSeason_L0] at hp
   refine ⟨trivial, _, g.bk.rc rfl, ha101.isSl, ?_⟩
   try rw [ha101.slLen]
   refine ifd hp (fun fc hp => ?_) fun fc hp => ?_
   ·refine ⟨trivial, _, n.bk.rc rfl, trivial, _, g.bk.rc rfl, ?_⟩
    obtain ⟨gc, Fa, hp⟩ := bsome hp
    obtain ⟨Ae, Eb, Wa, Fa⟩ := idx_some Fa
    obtain ⟨Je, hc, ic⟩ := ha101.rdS Fa
    refine ⟨Ae, Eb, (by first | exact Wa | (rw [ha101.slLen]; exact Wa)), _, (hc _ (Sub.trans F ia.sub)), ?_⟩
    obtain ⟨eb, jc, hp⟩ := bsome hp
    refine s_lList (l := gc) ia.pre (ic.sub F) jc fun Qe Ke Me kc lc => ?_
    obtain ⟨Ne, nc, J, oc⟩ := ia.callO kc lc x 7
    have pc := g.k J
    have qc := o.k J
    have fb := n.k J
    have b := b.k J
    have t := t.k J
    have u := u.k J
    refine ⟨_, rfl, (by rw [show cmC _ = true from cmC_of (b.noFn)]; exact (fb.bk.rc rfl)), ?_⟩
    obtain ⟨gb, sc, N, tc⟩ := oc.freeze nc
    have uc := pc.k N
    have vc := qc.k N
    have hb := fb.k N
    have b := b.k N
    have t := t.k N
    have u := u.k N
    obtain ⟨wc, hp⟩ := gd_some hp
    intro Re ib
    refine ⟨(by rw [show cmC _ = true from cmC_of (b.noFn)]; exact (hb.bk.ext (Bk.new ib).2).rc rfl), ?_⟩
    obtain ⟨Ga, xc, yc, zc, Ac, ja, Ha⟩ := b.app' ta22 sc (a := eb) (show Rp.rep (α := List Int) gb _ eb from ⟨_, rfl, tc⟩) wc ib
    have Bc := uc.k ja
    have Cc := vc.k ja
    have Dc := hb.k ja
    have t := t.k ja
    have u := u.k ja
    refine ⟨Ga, xc, zc, ?_⟩
    refine ⟨trivial, ?_⟩
    obtain ⟨Ec, Fc, Gc, ka, Ia⟩ := Dc.sto1 Ac 1 Ga (by simp) rfl
    replace Ia : Lb _ _ _ _ _ _ _ [(Il ha), Ga, fa, ga] := Ia
    have Hc := Bc.k ka
    have Ic := Cc.k ka
    have t := t.k ka
    have u := u.k ka
    have Ha := Ha.k ka
    refine ⟨Ec, Fc, ?_⟩
    refine gdi hp fun Jc hp => ?_
    exact ec _ _ _ _ _ _ _ _ _ gb yc Gc (Sub.trans (Sub.trans F J.fs) N.fs) Hc Ic Ia Ha t u hp
   intro Be Kc
   have hgo : ∀ (xa : Nat) (Xa : Int) (z : C) (la : C) (ma : Int) (Y : List Fld) (ya : List Vis) (G : M) (y : Nat → Nat), St (Fm.of m) f e G → Lb (Fm.of m) e y G 1 m.nxt 4 [(Il s.Last), ca101, ca102, ca103] → Lb (Fm.of m) e y G 2 m0.nxt 4 [(Il 0), .sl0, .sl0, .sl0] → Lb (Fm.of m) e y G 3 m1.nxt 4 [(Il ma), p, z, la] → Ow (Fm.of m) e y G 5 z Y → Ow (Fm.of m) e y G 6 la ya → Ow (Fm.of m) e y G 4 p D → plSeason_L1 s D xa ma Y ya Xa = some rz → Be [.c (Il Xa)] G := by
    intro xa
    induction xa with
    | zero => intro Xa z la ma Y ya G y za g o n d h b hp; cases hp
    | succ xa Fb =>
     intro Xa z la ma Y ya G y za g o n d h b hp
     refine Kc _ _ ?_
     rw [plSeason_L1] at hp
     refine ⟨trivial, _, g.bk.rc rfl, ha102.isSl, ?_⟩
     try rw [ha102.slLen]
     refine ifd hp (fun Lc hp => ?_) fun Lc hp => ?_
     ·refine ⟨trivial, _, g.bk.rc rfl, ?_⟩
      obtain ⟨q, Ja, hp⟩ := bsome hp
      obtain ⟨Ce, Gb, Ya, Ja⟩ := idx_some Ja
      obtain ⟨_, Nc⟩ := rd_Fld ha102 Ja
      refine ⟨Ce, Gb, (by first | exact Ya | (rw [ha102.slLen]; exact Ya)), _, _, _, _, _, _, _, (Nc _ (Sub.trans F za.sub)).1, ?_⟩
      intro Se Oc
      obtain ⟨Ka, Pc, Z, Qc⟩ := za.blk Oc y 8
      have Rc := g.k Z
      have Tc := o.k Z
      have Uc := n.k Z
      have b := b.k Z
      have d := d.k Z
      have h := h.k Z
      obtain ⟨Vc, Xc, jb, aa, na⟩ := Qc.sto Pc [(Il q.Crop), (Il q.Week.Lo), (Il q.Week.Hi), (Il q.Damage.Lo), (Il q.Damage.Hi), (Il q.Old.Lo), (Il q.Old.Hi)]
      have Yc := Rc.k aa
      have Zc := Tc.k aa
      have kb := Uc.k aa
      have b := b.k aa
      have d := d.k aa
      have h := h.k aa
      refine ⟨Vc, Xc, ?_⟩
      refine ⟨trivial, _, kb.bk.rc rfl, trivial, _, na.bk.rc rfl, trivial, _, _, na.bk.rp (k := 1) (j := 2) rfl (by omega), ?_⟩
      obtain ⟨mb, ad, hp⟩ := bsome hp
      refine s_lTo (r := q.Week) jb.pre  ad fun Te bd => ?_
      obtain ⟨ob, O⟩ := jb.call bd Ka
      have cd := Yc.k O
      have dd := Zc.k O
      have pb := kb.k O
      have Aa := na.k O
      have b := b.k O
      have d := d.k O
      have h := h.k O
      refine ⟨_, _, rfl, (Aa.bk.rc rfl), (by rw [show cmC _ = true from cmC_of (d.noFn)]; exact (pb.bk.rc rfl)), trivial, _, _, Aa.bk.rp (k := 3) (j := 2) rfl (by omega), (na.bk.rp (k := 3) (j := 2) rfl (by omega)), ?_⟩
      obtain ⟨qb, ed, hp⟩ := bsome hp
      refine s_lTo (r := q.Damage) ob.pre  ed fun Ue fd => ?_
      obtain ⟨rb, P⟩ := ob.call fd Ka
      have hd := cd.k P
      have id := dd.k P
      have sb := pb.k P
      have La := Aa.k P
      have b := b.k P
      have d := d.k P
      have h := h.k P
      refine ⟨_, _, rfl, (La.bk.rc rfl), (by rw [show cmC _ = true from cmC_of (d.noFn)]; exact (sb.bk.rc rfl)), trivial, _, _, La.bk.rp (k := 5) (j := 2) rfl (by omega), (Aa.bk.rp (k := 5) (j := 2) rfl (by omega)), (na.bk.rp (k := 5) (j := 2) rfl (by omega)), ?_⟩
      obtain ⟨tb, jd, hp⟩ := bsome hp
      refine s_lTo (r := q.Old) rb.pre  jd fun Ve kd => ?_
      obtain ⟨ld, S⟩ := rb.call kd Ka
      have md := hd.k S
      have nd := id.k S
      have Ma := sb.k S
      have od := La.k S
      have b := b.k S
      have d := d.k S
      have h := h.k S
      refine ⟨_, _, rfl, (od.bk.rc rfl), (by rw [show cmC _ = true from cmC_of (d.noFn)]; exact (Ma.bk.rc rfl)), ?_⟩
      obtain ⟨pd, hp⟩ := gd_some hp
      intro We ub
      refine ⟨(by rw [show cmC _ = true from cmC_of (d.noFn)]; exact (Ma.bk.ext (Bk.new ub).2).rc rfl), ?_⟩
      obtain ⟨Na, qd, sd, td, ud, oa, Oa⟩ := d.app' ta41 ld (a := ({ Crop := q.Crop, Week := mb, Damage := qb, Old := tb } : Fld)) (show Rp.rep (α := Fld) e _ ({ Crop := q.Crop, Week := mb, Damage := qb, Old := tb } : Fld) from rfl) pd ub
      have vd := md.k oa
      have wd := nd.k oa
      have xd := Ma.k oa
      have b := b.k oa
      have h := h.k oa
      refine ⟨Na, qd, td, ?_⟩
      refine ⟨trivial, ?_⟩
      obtain ⟨yd, zd, Ad, pa, Pa⟩ := xd.sto1 ud 2 Na (by simp) rfl
      replace Pa : Lb _ _ _ _ _ _ _ [(Il ma), p, Na, la] := Pa
      have Bd := vd.k pa
      have Cd := wd.k pa
      have b := b.k pa
      have h := h.k pa
      have Oa := Oa.k pa
      refine ⟨yd, zd, ?_⟩
      refine gdi hp fun Dd hp => ?_
      exact Fb _ _ _ _ _ _ _ sd Ad Bd Cd Pa Oa h b hp
     intro De Ed
     have hgo : ∀ (Ba : Nat) (Za : Int) (ba : C) (ca : Int) (Ca : List Vis) (I : M) (A : Nat → Nat), St (Fm.of m) f e I → Lb (Fm.of m) e A I 1 m.nxt 4 [(Il s.Last), ca101, ca102, ca103] → Lb (Fm.of m) e A I 2 m0.nxt 4 [(Il 0), .sl0, .sl0, .sl0] → Lb (Fm.of m) e A I 3 m1.nxt 4 [(Il ca), p, z, ba] → Ow (Fm.of m) e A I 6 ba Ca → Ow (Fm.of m) e A I 4 p D → Ow (Fm.of m) e A I 5 z Y → plSeason_L2 s D Y Ba ca Ca Za = some rz → De [.c (Il Za)] I := by
      intro Ba
      induction Ba with
      | zero => intro Za ba ca Ca I A Da g o n i b d hp; cases hp
      | succ Ba Hb =>
       intro Za ba ca Ca I A Da g o n i b d hp
       refine Ed _ _ ?_
       rw [plSeason_L2] at hp
       refine ⟨trivial, _, g.bk.rc rfl, ha103.isSl, ?_⟩
       try rw [ha103.slLen]
       refine ifd hp (fun Fd hp => ?_) fun Fd hp => ?_; rotate_left
       ·refine ⟨_, _, _, _, n.bk.ra, ?_⟩
        obtain ⟨Gd, Hd, Id, Qa, Jd⟩ := o.sto Da [(Il ca), p, z, ba]
        have b := b.k Qa
        have d := d.k Qa
        have i := i.k Qa
        refine ⟨Gd, Hd, ?_⟩
        refine ⟨_, _, _, _, Jd.bk.ra, ?_⟩
        obtain ⟨Oe, Ld, vb, Md⟩ := b.freeze Id
        have d := d.k vb
        have i := i.k vb
        obtain ⟨Pe, Nd, wb, Od⟩ := d.freeze Ld
        have i := i.k wb
        obtain ⟨Pd, Qd, xb, Rd⟩ := i.freeze Nd
        obtain rfl := Option.some.inj hp
        exact hq _ Pd p z ba Qd.grw (Md.sub (Sub.trans wb.fs xb.fs)) (Od.sub xb.fs) Rd
       refine ⟨trivial, _, g.bk.rc rfl, ?_⟩
       obtain ⟨B, Ra, hp⟩ := bsome hp
       obtain ⟨Ee, Ib, ab, Ra⟩ := idx_some Ra
       obtain ⟨_, Sd⟩ := rd_Vis ha103 Ra
       refine ⟨Ee, Ib, (by first | exact ab | (rw [ha103.slLen]; exact ab)), _, _, _, _, (Sd _ (Sub.trans F Da.sub)).1, ?_⟩
       intro Xe Td
       obtain ⟨Ud, Vd, da, Wd⟩ := Da.blk Td A 9
       have Xd := g.k da
       have Yd := o.k da
       have Zd := n.k da
       have b := b.k da
       have d := d.k da
       have i := i.k da
       obtain ⟨ae, be, yb, ea, Ea⟩ := Wd.sto Vd [(Il B.Field), (Il B.Week), (Il B.Seen.Lo), (Il B.Seen.Hi)]
       have ce := Xd.k ea
       have de := Yd.k ea
       have zb := Zd.k ea
       have b := b.k ea
       have d := d.k ea
       have i := i.k ea
       refine ⟨ae, be, ?_⟩
       refine ⟨trivial, _, zb.bk.rc rfl, trivial, _, Ea.bk.rc rfl, trivial, _, Ea.bk.rc rfl, trivial, _, _, Ea.bk.rp (k := 2) (j := 2) rfl (by omega), ?_⟩
       obtain ⟨Ab, ee, hp⟩ := bsome hp
       refine s_lTo (r := B.Seen) yb.pre  ee fun Ye fe => ?_
       obtain ⟨ge, T⟩ := yb.call fe Ud
       have he := ce.k T
       have ie := de.k T
       have Sa := zb.k T
       have Bb := Ea.k T
       have b := b.k T
       have d := d.k T
       have i := i.k T
       refine ⟨_, _, rfl, (Bb.bk.rc rfl), (Bb.bk.rc rfl), (by rw [show cmC _ = true from cmC_of (i.noFn)]; exact (Sa.bk.rc rfl)), ?_⟩
       obtain ⟨je, hp⟩ := gd_some hp
       intro Ze Cb
       refine ⟨(by rw [show cmC _ = true from cmC_of (i.noFn)]; exact (Sa.bk.ext (Bk.new Cb).2).rc rfl), ?_⟩
       obtain ⟨Ta, ke, me, oe, pe, qa, Ua⟩ := i.app' ta42 ge (a := ({ Field := B.Field, Week := B.Week, Seen := Ab } : Vis)) (show Rp.rep (α := Vis) e _ ({ Field := B.Field, Week := B.Week, Seen := Ab } : Vis) from rfl) je Cb
       have qe := he.k qa
       have re := ie.k qa
       have se := Sa.k qa
       have b := b.k qa
       have d := d.k qa
       refine ⟨Ta, ke, oe, ?_⟩
       refine ⟨trivial, ?_⟩
       obtain ⟨te, ue, ve, sa, Va⟩ := se.sto1 pe 3 Ta (by simp) rfl
       replace Va : Lb _ _ _ _ _ _ _ [(Il ca), p, z, Ta] := Va
       have we := qe.k sa
       have xe := re.k sa
       have b := b.k sa
       have d := d.k sa
       have Ua := Ua.k sa
       refine ⟨te, ue, ?_⟩
       refine gdi hp fun ye hp => ?_
       exact Hb _ _ _ _ _ me ve we xe Va Ua b d hp
     exact hgo _ _ _ _ _ _ y za g o n h b d hp
   exact hgo _ _ _ _ _ _ _ _ x ia g o n t u b hp
 exact hgo _ _ _ _ _ _ _ _ _ _ f Wb dc (Sub.refl _) g o n (Ow.nil _ _ _ _ _) (Ow.nil _ _ _ _ _) (Ow.nil _ _ _ _ _) hp
theorem s_lTruth {t : Trh} {m f : M} {Q : V → M → Prop} {rz : Trh} (hS : Pre f m)  (hp : plTruth t = some rz) (hq : ∀ m', Ext m m' → Q (.agg 3 [(Il rz.Week), (Il rz.Damage), (Il rz.Old)]) m') : Wc prog tbl 11 [.agg 3 [(Il t.Week), (Il t.Damage), (Il t.Old)]] m Q := by
 have q := hS.st
 obtain ⟨r, _⟩ : ∃ τ : Nat → Nat, True := ⟨fun _ => 0, trivial⟩
 refine w11 ?_
 unfold plTruth at hp
 intro y b
 obtain ⟨c, d, s, e⟩ := q.blk b r 1
 intro z g
 obtain ⟨u, h, i, j⟩ := d.blk g c 2
 have a := e.k i
 refine ⟨trivial, _, a.bk.rc rfl, trivial, _, a.bk.rc rfl, trivial, _, a.bk.rc rfl, ?_⟩
 obtain ⟨l, n, o, x, p⟩ := j.sto h [(Il t.Week), (Il t.Damage), (Il t.Old)]
 refine ⟨l, n, ?_⟩
 refine ⟨_, _, _, p.bk.ra, ?_⟩
 obtain rfl := Option.some.inj hp
 exact hq _ o.ext'
theorem s_lThin {s : Ssn} {ca101 ca102 ca103 : C} {m f : M} {Q : V → M → Prop} {rz : Bool} (hS : Pre f m) (ha101 : Sl f ca101 s.Rules) (ha102 : Sl f ca102 s.Fields) (ha103 : Sl f ca103 s.Visits) (hp : plThin s = some rz) (hq : ∀ m', Ext m m' → Q (.c (.bool rz)) m') : Wc prog tbl 13 [.agg 4 [(Il s.Last), ca101, ca102, ca103]] m Q := by
 have S0 := hS.st
 obtain ⟨τ0, _⟩ : ∃ τ : Nat → Nat, True := ⟨fun _ => 0, trivial⟩
 refine w13 ?_
 unfold plThin at hp
 intro m0 I
 obtain ⟨J, i, za, a⟩ := S0.blk I τ0 1
 refine ⟨trivial, _, a.bk.rc rfl, ha101.isSl, ?_⟩
 try rw [ha101.slLen]
 refine ifd hp (fun N hp => ?_) fun N hp => ?_
 ·obtain rfl := Option.some.inj hp
  exact hq _ i.ext'
 refine ⟨trivial, _, a.bk.rc rfl, ha102.isSl, ?_⟩
 try rw [ha102.slLen]
 refine ifd hp (fun O hp => ?_) fun O hp => ?_
 ·obtain rfl := Option.some.inj hp
  exact hq _ i.ext'
 refine ⟨trivial, _, a.bk.rc rfl, ha103.isSl, ?_⟩
 try rw [ha103.slLen]
 refine ifd hp (fun P hp => ?_) fun P hp => ?_
 ·obtain rfl := Option.some.inj hp
  exact hq _ i.ext'
 intro R4 ta
 have hgo : ∀ (j : Nat) (B : Bool) (D : Int) (x : M) (d : Nat → Nat), St (Fm.of m) f f x → Lb (Fm.of m) f d x 1 m.nxt 4 [(Il s.Last), ca101, ca102, ca103] → plThin_L0 s j B D = some rz → R4 [.c (.bool B), .c (Il D)] x := by
  intro j
  induction j with
  | zero => intro B D x d e a hp; cases hp
  | succ j S =>
   intro B D x d e a hp
   refine ta _ _ _ ?_
   rw [plThin_L0] at hp
   refine ⟨trivial, _, a.bk.rc rfl, ha101.isSl, ?_⟩
   try rw [ha101.slLen]
   refine ifd hp (fun T hp => ?_) fun T hp => ?_
   ·refine ⟨trivial, _, a.bk.rc rfl, ?_⟩
    obtain ⟨Ba, o, hp⟩ := bsome hp
    obtain ⟨ua, F, q, o⟩ := idx_some o
    obtain ⟨Ca, Y, y⟩ := ha101.rdS o
    refine ⟨ua, F, (by first | exact q | (rw [ha101.slLen]; exact q)), _, (Y _ e.sub), y.isSl, ?_⟩
    try rw [y.slLen]
    refine ifd hp (fun Z hp => ?_) fun Z hp => ?_
    ·obtain rfl := Option.some.inj hp
     exact hq _ e.ext'
    refine gdi hp fun aa hp => ?_
    exact S _ _ _ d e a hp
   refine ⟨_, _, _, _, a.bk.ra, ?_⟩
   obtain ⟨ba, ca, hp⟩ := bsome hp
   refine s_rFault (s := s) e.pre ha101 ha102 ha103 ca fun Ea da => ?_
   obtain ⟨ea, fa⟩ := e.call da d
   have b := a.k fa
   refine ⟨_, rfl, ?_⟩
   intro va ga
   have hgo : ∀ (l : Nat) (z : Bool) (r : Int) (n : M) (g : Nat → Nat), St (Fm.of m) f f n → Lb (Fm.of m) f g n 1 m.nxt 4 [(Il s.Last), ca101, ca102, ca103] → plThin_L1 s ba l r = some rz → va [.c (.bool z), .c (Il r)] n := by
    intro l
    induction l with
    | zero => intro z r n g h b hp; cases hp
    | succ l t =>
     intro z r n g h b hp
     refine ga _ _ _ ?_
     rw [plThin_L1] at hp
     refine ⟨trivial, _, b.bk.rc rfl, ha102.isSl, ?_⟩
     try rw [ha102.slLen]
     refine ifd hp (fun ha hp => ?_) fun ha hp => ?_; rotate_left
     ·obtain rfl := Option.some.inj hp
      exact hq _ h.ext'
     refine ifnb hp (fun ia hp => ?_) fun ia hp => ?_; rotate_left
     ·refine gdi hp fun ja hp => ?_
      exact t _ _ _ g h b hp
     refine ⟨trivial, _, b.bk.rc rfl, ?_⟩
     obtain ⟨ka, p, hp⟩ := bsome hp
     obtain ⟨wa, G, u, p⟩ := idx_some p
     obtain ⟨_, la⟩ := rd_Fld ha102 p
     refine ⟨wa, G, (by first | exact u | (rw [ha102.slLen]; exact u)), _, _, _, _, _, _, _, (la _ h.sub).1, ?_⟩
     obtain ⟨Da, ma, hp⟩ := bsome hp
     refine s_rMany (fl := ka) h.pre  ma fun Fa na => ?_
     obtain ⟨A, oa⟩ := h.call na g
     have pa := b.k oa
     refine ⟨_, rfl, ?_⟩
     refine ifd hp (fun qa hp => ?_) fun qa hp => ?_
     ·obtain rfl := Option.some.inj hp
      exact hq _ A.ext'
     refine gdi hp fun sa hp => ?_
     exact t _ _ _ g A pa hp
   exact hgo _ _ _ _ d ea b hp
 exact hgo _ _ _ _ J i a hp
theorem s_lReady {s : Ssn} {ca101 ca102 ca103 : C} {m f : M} {Q : V → M → Prop} {rz : Bool} (hS : Pre f m) (ha101 : Sl f ca101 s.Rules) (ha102 : Sl f ca102 s.Fields) (ha103 : Sl f ca103 s.Visits) (hp : plReady s = some rz) (hq : ∀ m', Ext m m' → Q (.c (.bool rz)) m') : Wc prog tbl 4 [.agg 4 [(Il s.Last), ca101, ca102, ca103]] m Q := by
 have u := hS.st
 obtain ⟨x, _⟩ : ∃ τ : Nat → Nat, True := ⟨fun _ => 0, trivial⟩
 refine w4 ?_
 unfold plReady at hp
 intro B q
 obtain ⟨b, d, y, e⟩ := u.blk q x 1
 refine ⟨_, _, _, _, e.bk.ra, ?_⟩
 obtain ⟨z, g, hp⟩ := bsome hp
 refine s_lThin (s := s) d.pre ha101 ha102 ha103 g fun D h => ?_
 obtain ⟨a, i⟩ := d.call h b
 have j := e.k i
 refine ⟨_, rfl, ?_⟩
 refine ifbb hp (fun l hp => ?_) fun l hp => ?_; rotate_left
 ·obtain rfl := Option.some.inj hp
  exact hq _ a.ext'
 refine ⟨_, _, _, _, j.bk.ra, ?_⟩
 obtain ⟨r, n, hp⟩ := bsome hp
 refine s_rFault (s := s) a.pre ha101 ha102 ha103 n fun A o => ?_
 obtain ⟨p, t⟩ := a.call o b
 refine ⟨_, rfl, ?_⟩
 obtain rfl := Option.some.inj hp
 exact hq _ p.ext'
theorem s_has {r : Rg} {n : Int} {m f : M} {Q : V → M → Prop} {rz : Bool} (hS : Pre f m)  (hp : phas r n = some rz) (hq : ∀ m', Ext m m' → Q (.c (.bool rz)) m') : Wc prog tbl 59 [.agg 2 [(Il r.Lo), (Il r.Hi)], .c (Il n)] m Q := by
 have i := hS.st
 obtain ⟨j, _⟩ : ∃ τ : Nat → Nat, True := ⟨fun _ => 0, trivial⟩
 refine w59 ?_
 unfold phas at hp
 intro l d
 obtain ⟨g, a, h, b⟩ := i.blk d j 1
 refine ⟨trivial, _, b.bk.rc rfl, ?_⟩
 refine ifd hp (fun e hp => ?_) fun e hp => ?_; rotate_left
 ·obtain rfl := Option.some.inj hp
  exact hq _ a.ext'
 refine ⟨trivial, _, b.bk.rc rfl, ?_⟩
 obtain rfl := Option.some.inj hp
 exact hq _ a.ext'
theorem s_count {r : Rg} {m f : M} {Q : V → M → Prop} {rz : Int} (hS : Pre f m)  (hp : pcount r = some rz) (hq : ∀ m', Ext m m' → Q (.c (Il rz)) m') : Wc prog tbl 87 [.agg 2 [(Il r.Lo), (Il r.Hi)]] m Q := by
 have j := hS.st
 obtain ⟨l, _⟩ : ∃ τ : Nat → Nat, True := ⟨fun _ => 0, trivial⟩
 refine w87 ?_
 unfold pcount at hp
 intro n b
 obtain ⟨h, d, i, a⟩ := j.blk b l 1
 refine ⟨trivial, _, a.bk.rc rfl, trivial, _, a.bk.rc rfl, ?_⟩
 refine gdi hp fun e hp => ?_
 refine gdi hp fun g hp => ?_
 obtain rfl := Option.some.inj hp
 exact hq _ d.ext'
theorem s_within {r : Rg} {low : Int} {high : Int} {m f : M} {Q : V → M → Prop} {rz : Bool} (hS : Pre f m)  (hp : pwithin r low high = some rz) (hq : ∀ m', Ext m m' → Q (.c (.bool rz)) m') : Wc prog tbl 97 [.agg 2 [(Il r.Lo), (Il r.Hi)], .c (Il low), .c (Il high)] m Q := by
 have j := hS.st
 obtain ⟨l, _⟩ : ∃ τ : Nat → Nat, True := ⟨fun _ => 0, trivial⟩
 refine w97 ?_
 unfold pwithin at hp
 intro n d
 obtain ⟨h, b, i, a⟩ := j.blk d l 1
 refine ⟨trivial, _, a.bk.rc rfl, ?_⟩
 refine ifd hp (fun e hp => ?_) fun e hp => ?_; rotate_left
 ·obtain rfl := Option.some.inj hp
  exact hq _ b.ext'
 refine ⟨trivial, _, a.bk.rc rfl, trivial, _, a.bk.rc rfl, ?_⟩
 refine ifd hp (fun g hp => ?_) fun g hp => ?_; rotate_left
 ·obtain rfl := Option.some.inj hp
  exact hq _ b.ext'
 refine ⟨trivial, _, a.bk.rc rfl, ?_⟩
 obtain rfl := Option.some.inj hp
 exact hq _ b.ext'
theorem s_isHundredths {n : Int} {m f : M} {Q : V → M → Prop} {rz : Bool} (hS : Pre f m)  (hp : pisHundredths n = some rz) (hq : ∀ m', Ext m m' → Q (.c (.bool rz)) m') : Wc prog tbl 39 [.c (Il n)] m Q := by
 have e := hS.st
 obtain ⟨i, _⟩ : ∃ τ : Nat → Nat, True := ⟨fun _ => 0, trivial⟩
 refine w39 ?_
 unfold pisHundredths at hp
 obtain ⟨g, a, hp⟩ := bsome hp
 refine s_has (r := ({ Lo := (0 : Int), Hi := (100 : Int) } : Rg)) (n := n) e.pre  a fun j b => ?_
 obtain ⟨d, h⟩ := e.call b i
 refine ⟨_, rfl, ?_⟩
 obtain rfl := Option.some.inj hp
 exact hq _ d.ext'
theorem s_hasField {s : Ssn} {n : Int} {ca101 ca102 ca103 : C} {m f : M} {Q : V → M → Prop} {rz : Bool} (hS : Pre f m) (_ha101 : Sl f ca101 s.Rules) (ha102 : Sl f ca102 s.Fields) (_ha103 : Sl f ca103 s.Visits) (hp : phasField s n = some rz) (hq : ∀ m', Ext m m' → Q (.c (.bool rz)) m') : Wc prog tbl 53 [.agg 4 [(Il s.Last), ca101, ca102, ca103], .c (Il n)] m Q := by
 have q := hS.st
 obtain ⟨t, _⟩ : ∃ τ : Nat → Nat, True := ⟨fun _ => 0, trivial⟩
 refine w53 ?_
 unfold phasField at hp
 intro u d
 obtain ⟨e, a, l, g⟩ := q.blk d t 1
 refine ⟨trivial, _, g.bk.rc rfl, ha102.isSl, ?_⟩
 obtain ⟨b, hp⟩ := gd_some hp
 refine ⟨(by first | exact b | (rw [ha102.slLen]; exact b)), ?_⟩
 try rw [ha102.slLen]
 obtain ⟨o, h, hp⟩ := bsome hp
 refine s_has (r := ({ Lo := (0 : Int), Hi := ((s.Fields.length : Int) - (1 : Int)) } : Rg)) (n := n) a.pre  h fun x i => ?_
 obtain ⟨j, p⟩ := a.call i e
 refine ⟨_, rfl, ?_⟩
 obtain rfl := Option.some.inj hp
 exact hq _ j.ext'
theorem s_hasWeek {s : Ssn} {n : Int} {ca101 ca102 ca103 : C} {m f : M} {Q : V → M → Prop} {rz : Bool} (hS : Pre f m) (_ha101 : Sl f ca101 s.Rules) (_ha102 : Sl f ca102 s.Fields) (_ha103 : Sl f ca103 s.Visits) (hp : phasWeek s n = some rz) (hq : ∀ m', Ext m m' → Q (.c (.bool rz)) m') : Wc prog tbl 35 [.agg 4 [(Il s.Last), ca101, ca102, ca103], .c (Il n)] m Q := by
 have p := hS.st
 obtain ⟨q, _⟩ : ∃ τ : Nat → Nat, True := ⟨fun _ => 0, trivial⟩
 refine w35 ?_
 unfold phasWeek at hp
 intro t b
 obtain ⟨d, a, j, e⟩ := p.blk b q 1
 refine ⟨trivial, _, e.bk.rc rfl, ?_⟩
 obtain ⟨l, g, hp⟩ := bsome hp
 refine s_has (r := ({ Lo := (0 : Int), Hi := s.Last } : Rg)) (n := n) a.pre  g fun u h => ?_
 obtain ⟨i, o⟩ := a.call h d
 refine ⟨_, rfl, ?_⟩
 obtain rfl := Option.some.inj hp
 exact hq _ i.ext'
theorem s_tooMany {s : Ssn} {ca101 ca102 ca103 : C} {m f : M} {Q : V → M → Prop} {rz : Bool} (hS : Pre f m) (ha101 : Sl f ca101 s.Rules) (ha102 : Sl f ca102 s.Fields) (ha103 : Sl f ca103 s.Visits) (hp : ptooMany s = some rz) (hq : ∀ m', Ext m m' → Q (.c (.bool rz)) m') : Wc prog tbl 68 [.agg 4 [(Il s.Last), ca101, ca102, ca103]] m Q := by
 have l := hS.st
 obtain ⟨n, _⟩ : ∃ τ : Nat → Nat, True := ⟨fun _ => 0, trivial⟩
 refine w68 ?_
 unfold ptooMany at hp
 intro o d
 obtain ⟨i, a, j, b⟩ := l.blk d n 1
 refine ⟨trivial, _, b.bk.rc rfl, ?_⟩
 refine ifd hp (fun e hp => ?_) fun e hp => ?_
 ·obtain rfl := Option.some.inj hp
  exact hq _ a.ext'
 refine ⟨trivial, _, b.bk.rc rfl, ha101.isSl, ?_⟩
 try rw [ha101.slLen]
 refine ifd hp (fun g hp => ?_) fun g hp => ?_
 ·obtain rfl := Option.some.inj hp
  exact hq _ a.ext'
 refine ⟨trivial, _, b.bk.rc rfl, ha102.isSl, ?_⟩
 try rw [ha102.slLen]
 refine ifd hp (fun h hp => ?_) fun h hp => ?_
 ·obtain rfl := Option.some.inj hp
  exact hq _ a.ext'
 refine ⟨trivial, _, b.bk.rc rfl, ha103.isSl, ?_⟩
 try rw [ha103.slLen]
 obtain rfl := Option.some.inj hp
 exact hq _ a.ext'
theorem s_eachI1 {x : Int} {passes : Int → Option (Bool)} {b0 : Nat} {cb000 : C} {m f : M} {Q : V → M → Prop} {rz : Bool} (hS : Pre f m) (hb0 : Bk f b0 1 [cb000]) (hb000 : Fv_Int_Bool f cb000 passes) (hp : peachI1 x passes = some rz) (hq : ∀ m', Ext m m' → Q (.c (.bool rz)) m') : Wc prog tbl 102 [.c (Il x), .c (.ptr b0 0)] m Q := by
 have e := hS.st
 obtain ⟨i, _⟩ : ∃ τ : Nat → Nat, True := ⟨fun _ => 0, trivial⟩
 refine c102 ?_
 unfold peachI1 at hp
 refine ⟨_, (hb0.sub e.sub).rc rfl, ?_⟩
 obtain ⟨g, a, hp⟩ := bsome hp
 refine hb000 _ _ _ _ _ (Sub.refl _) e.pre  a fun j b => ?_
 obtain ⟨d, h⟩ := e.call b i
 refine ⟨_, rfl, ?_⟩
 obtain rfl := Option.some.inj hp
 exact hq _ d.ext'
theorem s_indexI {l : List Int} {p : Int → Option (Bool)} {ca100 ca200 : C} {m f : M} {Q : V → M → Prop} {rz : Int} (hS : Pre f m) (ha100 : Sl f ca100 l) (ha200 : Fv_Int_Bool f ca200 p) (hp : pindexI l p = some rz) (hq : ∀ m', Ext m m' → Q (.c (Il rz)) m') : Wc prog tbl 103 [.c ca100, .c ca200] m Q := by
 have D := hS.st
 obtain ⟨F, _⟩ : ∃ τ : Nat → Nat, True := ⟨fun _ => 0, trivial⟩
 refine w103 ?_
 unfold pindexI at hp
 refine ⟨ha100.isSl, ?_⟩
 intro G y
 have hgo : ∀ (b : Nat) (u : Int) (j : Int) (n : M) (d : Nat → Nat), St (Fm.of m) f f n → pindexI_L0 l p b j = some rz → G [.c (Il u), .c (Il j)] n := by
  intro b
  induction b with
  | zero => intro u j n d a hp; cases hp
  | succ b x =>
   intro u j n d a hp
   refine y _ _ _ ?_
   rw [pindexI_L0] at hp
   try rw [ha100.slLen]
   refine ifd hp (fun o hp => ?_) fun o hp => ?_; rotate_left
   ·obtain rfl := Option.some.inj hp
    exact hq _ a.ext'
   obtain ⟨z, e, hp⟩ := bsome hp
   obtain ⟨I, i, g, e⟩ := idx_some e
   refine ⟨I, i, (by first | exact g | (rw [ha100.slLen]; exact g)), _, (ha100.rdI e a.sub), ?_⟩
   obtain ⟨A, q, hp⟩ := bsome hp
   refine ha200 _ _ _ _ _ (Sub.refl _) a.pre  q fun J r => ?_
   obtain ⟨h, B⟩ := a.call r d
   refine ⟨_, rfl, ?_⟩
   refine ifbb hp (fun s hp => ?_) fun s hp => ?_
   ·obtain rfl := Option.some.inj hp
    exact hq _ h.ext'
   refine gdi hp fun t hp => ?_
   exact x _ _ _ d h hp
 exact hgo _ _ _ _ F D hp
theorem s_containsI {l : List Int} {p : Int → Option (Bool)} {ca100 ca200 : C} {m f : M} {Q : V → M → Prop} {rz : Bool} (hS : Pre f m) (ha100 : Sl f ca100 l) (ha200 : Fv_Int_Bool f ca200 p) (hp : pcontainsI l p = some rz) (hq : ∀ m', Ext m m' → Q (.c (.bool rz)) m') : Wc prog tbl 101 [.c ca100, .c ca200] m Q := by
 have e := hS.st
 obtain ⟨i, _⟩ : ∃ τ : Nat → Nat, True := ⟨fun _ => 0, trivial⟩
 refine w101 ?_
 unfold pcontainsI at hp
 obtain ⟨g, a, hp⟩ := bsome hp
 refine s_indexI (l := l) (p := p) e.pre ha100 ha200 a fun j b => ?_
 obtain ⟨d, h⟩ := e.call b i
 refine ⟨_, rfl, ?_⟩
 obtain rfl := Option.some.inj hp
 exact hq _ d.ext'
theorem s_eachI {l : List Int} {passes : Int → Option (Bool)} {ca100 ca200 : C} {m f : M} {Q : V → M → Prop} {rz : Bool} (hS : Pre f m) (ha100 : Sl f ca100 l) (ha200 : Fv_Int_Bool f ca200 passes) (hp : peachI l passes = some rz) (hq : ∀ m', Ext m m' → Q (.c (.bool rz)) m') : Wc prog tbl 96 [.c ca100, .c ca200] m Q := by
 have z := hS.st
 obtain ⟨A, _⟩ : ∃ τ : Nat → Nat, True := ⟨fun _ => 0, trivial⟩
 refine w96 ?_
 unfold peachI at hp
 intro B h
 obtain ⟨i, j, u, n⟩ := z.blk h A 1
 obtain ⟨o, b, d, e⟩ := n.freeze j
 have g : Fv_Int_Bool o ((C.fn (Fn.func 102) [] [(W.c (C0.ptr m.nxt 0))])) (fun a => peachI1 a passes) := by
  intro f' m' a r Q hs hpre  hg hq
  exact s_eachI1 hpre (e.sub hs) ((ha200.sub d.fs).sub hs) hg hq
 obtain ⟨x, q, hp⟩ := bsome hp
 refine s_containsI (l := l) (p := (fun a => peachI1 a passes)) b.pre (ha100.sub d.fs) g q fun D s => ?_
 obtain ⟨t, y⟩ := b.call s i
 refine ⟨_, rfl, ?_⟩
 obtain rfl := Option.some.inj hp
 exact hq _ t.ext'
theorem s_eachL1 {x : List Int} {passes : List Int → Option (Bool)} {b0 : Nat} {ca100 cb000 : C} {m f : M} {Q : V → M → Prop} {rz : Bool} (hS : Pre f m) (ha100 : Sl f ca100 x) (hb0 : Bk f b0 1 [cb000]) (hb000 : Fv_LInt_Bool f cb000 passes) (hp : peachL1 x passes = some rz) (hq : ∀ m', Ext m m' → Q (.c (.bool rz)) m') : Wc prog tbl 95 [.c ca100, .c (.ptr b0 0)] m Q := by
 have e := hS.st
 obtain ⟨i, _⟩ : ∃ τ : Nat → Nat, True := ⟨fun _ => 0, trivial⟩
 refine c95 ?_
 unfold peachL1 at hp
 refine ⟨_, (hb0.sub e.sub).rc rfl, ?_⟩
 obtain ⟨g, a, hp⟩ := bsome hp
 refine hb000 _ _ _ _ _ _ (Sub.refl _) e.pre ha100 a fun j b => ?_
 obtain ⟨d, h⟩ := e.call b i
 refine ⟨_, rfl, ?_⟩
 obtain rfl := Option.some.inj hp
 exact hq _ d.ext'
theorem s_indexL {l : List (List Int)} {p : List Int → Option (Bool)} {ca100 ca200 : C} {m f : M} {Q : V → M → Prop} {rz : Int} (hS : Pre f m) (ha100 : Sl f ca100 l) (ha200 : Fv_LInt_Bool f ca200 p) (hp : pindexL l p = some rz) (hq : ∀ m', Ext m m' → Q (.c (Il rz)) m') : Wc prog tbl 100 [.c ca100, .c ca200] m Q := by
 have I := hS.st
 obtain ⟨J, _⟩ : ∃ τ : Nat → Nat, True := ⟨fun _ => 0, trivial⟩
 refine w100 ?_
 unfold pindexL at hp
 refine ⟨ha100.isSl, ?_⟩
 intro N A
 have hgo : ∀ (b : Nat) (y : Int) (j : Int) (n : M) (d : Nat → Nat), St (Fm.of m) f f n → pindexL_L0 l p b j = some rz → N [.c (Il y), .c (Il j)] n := by
  intro b
  induction b with
  | zero => intro y j n d a hp; cases hp
  | succ b z =>
   intro y j n d a hp
   refine A _ _ _ ?_
   rw [pindexL_L0] at hp
   try rw [ha100.slLen]
   refine ifd hp (fun o hp => ?_) fun o hp => ?_; rotate_left
   ·obtain rfl := Option.some.inj hp
    exact hq _ a.ext'
   obtain ⟨B, e, hp⟩ := bsome hp
   obtain ⟨O, i, g, e⟩ := idx_some e
   obtain ⟨D, q, r⟩ := ha100.rdS e
   refine ⟨O, i, (by first | exact g | (rw [ha100.slLen]; exact g)), _, (q _ a.sub), ?_⟩
   obtain ⟨F, s, hp⟩ := bsome hp
   refine ha200 _ _ _ _ _ _ (Sub.refl _) a.pre r s fun P t => ?_
   obtain ⟨h, G⟩ := a.call t d
   refine ⟨_, rfl, ?_⟩
   refine ifbb hp (fun u hp => ?_) fun u hp => ?_
   ·obtain rfl := Option.some.inj hp
    exact hq _ h.ext'
   refine gdi hp fun x hp => ?_
   exact z _ _ _ d h hp
 exact hgo _ _ _ _ J I hp
theorem s_containsL {l : List (List Int)} {p : List Int → Option (Bool)} {ca100 ca200 : C} {m f : M} {Q : V → M → Prop} {rz : Bool} (hS : Pre f m) (ha100 : Sl f ca100 l) (ha200 : Fv_LInt_Bool f ca200 p) (hp : pcontainsL l p = some rz) (hq : ∀ m', Ext m m' → Q (.c (.bool rz)) m') : Wc prog tbl 94 [.c ca100, .c ca200] m Q := by
 have e := hS.st
 obtain ⟨i, _⟩ : ∃ τ : Nat → Nat, True := ⟨fun _ => 0, trivial⟩
 refine w94 ?_
 unfold pcontainsL at hp
 obtain ⟨g, a, hp⟩ := bsome hp
 refine s_indexL (l := l) (p := p) e.pre ha100 ha200 a fun j b => ?_
 obtain ⟨d, h⟩ := e.call b i
 refine ⟨_, rfl, ?_⟩
 obtain rfl := Option.some.inj hp
 exact hq _ d.ext'
theorem s_eachL {l : List (List Int)} {passes : List Int → Option (Bool)} {ca100 ca200 : C} {m f : M} {Q : V → M → Prop} {rz : Bool} (hS : Pre f m) (ha100 : Sl f ca100 l) (ha200 : Fv_LInt_Bool f ca200 passes) (hp : peachL l passes = some rz) (hq : ∀ m', Ext m m' → Q (.c (.bool rz)) m') : Wc prog tbl 81 [.c ca100, .c ca200] m Q := by
 have B := hS.st
 obtain ⟨D, _⟩ : ∃ τ : Nat → Nat, True := ⟨fun _ => 0, trivial⟩
 refine w81 ?_
 unfold peachL at hp
 intro F h
 obtain ⟨i, j, x, n⟩ := B.blk h D 1
 obtain ⟨o, b, d, e⟩ := n.freeze j
 have g : Fv_LInt_Bool o ((C.fn (Fn.func 95) [] [(W.c (C0.ptr m.nxt 0))])) (fun a => peachL1 a passes) := by
  intro f' m' a y r Q hs hpre q hg hq
  exact s_eachL1 hpre q (e.sub hs) ((ha200.sub d.fs).sub hs) hg hq
 obtain ⟨z, s, hp⟩ := bsome hp
 refine s_containsL (l := l) (p := (fun a => peachL1 a passes)) b.pre (ha100.sub d.fs) g s fun G t => ?_
 obtain ⟨u, A⟩ := b.call t i
 refine ⟨_, rfl, ?_⟩
 obtain rfl := Option.some.inj hp
 exact hq _ u.ext'
theorem s_eachF1 {x : Fld} {passes : Fld → Option (Bool)} {b0 : Nat} {cb000 : C} {m f : M} {Q : V → M → Prop} {rz : Bool} (hS : Pre f m) (hb0 : Bk f b0 1 [cb000]) (hb000 : Fv_Fld_Bool f cb000 passes) (hp : peachF1 x passes = some rz) (hq : ∀ m', Ext m m' → Q (.c (.bool rz)) m') : Wc prog tbl 86 [.agg 7 [(Il x.Crop), (Il x.Week.Lo), (Il x.Week.Hi), (Il x.Damage.Lo), (Il x.Damage.Hi), (Il x.Old.Lo), (Il x.Old.Hi)], .c (.ptr b0 0)] m Q := by
 have o := hS.st
 obtain ⟨p, _⟩ : ∃ τ : Nat → Nat, True := ⟨fun _ => 0, trivial⟩
 refine c86 ?_
 unfold peachF1 at hp
 intro r b
 obtain ⟨d, a, j, e⟩ := o.blk b p 1
 refine ⟨_, (hb0.sub a.sub).rc rfl, _, _, _, _, _, _, _, e.bk.ra, ?_⟩
 obtain ⟨l, g, hp⟩ := bsome hp
 refine hb000 _ _ _ _ _ (Sub.refl _) a.pre  g fun q h => ?_
 obtain ⟨i, n⟩ := a.call h d
 refine ⟨_, rfl, ?_⟩
 obtain rfl := Option.some.inj hp
 exact hq _ i.ext'
theorem s_indexF {l : List Fld} {p : Fld → Option (Bool)} {ca100 ca200 : C} {m f : M} {Q : V → M → Prop} {rz : Int} (hS : Pre f m) (ha100 : Sl f ca100 l) (ha200 : Fv_Fld_Bool f ca200 p) (hp : pindexF l p = some rz) (hq : ∀ m', Ext m m' → Q (.c (Il rz)) m') : Wc prog tbl 98 [.c ca100, .c ca200] m Q := by
 have F := hS.st
 obtain ⟨G, _⟩ : ∃ τ : Nat → Nat, True := ⟨fun _ => 0, trivial⟩
 refine w98 ?_
 unfold pindexF at hp
 refine ⟨ha100.isSl, ?_⟩
 intro I z
 have hgo : ∀ (b : Nat) (x : Int) (j : Int) (n : M) (d : Nat → Nat), St (Fm.of m) f f n → pindexF_L0 l p b j = some rz → I [.c (Il x), .c (Il j)] n := by
  intro b
  induction b with
  | zero => intro x j n d a hp; cases hp
  | succ b y =>
   intro x j n d a hp
   refine z _ _ _ ?_
   rw [pindexF_L0] at hp
   try rw [ha100.slLen]
   refine ifd hp (fun o hp => ?_) fun o hp => ?_; rotate_left
   ·obtain rfl := Option.some.inj hp
    exact hq _ a.ext'
   obtain ⟨A, e, hp⟩ := bsome hp
   obtain ⟨J, i, g, e⟩ := idx_some e
   obtain ⟨_, q⟩ := rd_Fld ha100 e
   refine ⟨J, i, (by first | exact g | (rw [ha100.slLen]; exact g)), _, _, _, _, _, _, _, (q _ a.sub).1, ?_⟩
   obtain ⟨B, r, hp⟩ := bsome hp
   refine ha200 _ _ _ _ _ (Sub.refl _) a.pre  r fun N s => ?_
   obtain ⟨h, D⟩ := a.call s d
   refine ⟨_, rfl, ?_⟩
   refine ifbb hp (fun t hp => ?_) fun t hp => ?_
   ·obtain rfl := Option.some.inj hp
    exact hq _ h.ext'
   refine gdi hp fun u hp => ?_
   exact y _ _ _ d h hp
 exact hgo _ _ _ _ G F hp
theorem s_containsF {l : List Fld} {p : Fld → Option (Bool)} {ca100 ca200 : C} {m f : M} {Q : V → M → Prop} {rz : Bool} (hS : Pre f m) (ha100 : Sl f ca100 l) (ha200 : Fv_Fld_Bool f ca200 p) (hp : pcontainsF l p = some rz) (hq : ∀ m', Ext m m' → Q (.c (.bool rz)) m') : Wc prog tbl 85 [.c ca100, .c ca200] m Q := by
 have e := hS.st
 obtain ⟨i, _⟩ : ∃ τ : Nat → Nat, True := ⟨fun _ => 0, trivial⟩
 refine w85 ?_
 unfold pcontainsF at hp
 obtain ⟨g, a, hp⟩ := bsome hp
 refine s_indexF (l := l) (p := p) e.pre ha100 ha200 a fun j b => ?_
 obtain ⟨d, h⟩ := e.call b i
 refine ⟨_, rfl, ?_⟩
 obtain rfl := Option.some.inj hp
 exact hq _ d.ext'
theorem s_eachF {l : List Fld} {passes : Fld → Option (Bool)} {ca100 ca200 : C} {m f : M} {Q : V → M → Prop} {rz : Bool} (hS : Pre f m) (ha100 : Sl f ca100 l) (ha200 : Fv_Fld_Bool f ca200 passes) (hp : peachF l passes = some rz) (hq : ∀ m', Ext m m' → Q (.c (.bool rz)) m') : Wc prog tbl 70 [.c ca100, .c ca200] m Q := by
 have z := hS.st
 obtain ⟨A, _⟩ : ∃ τ : Nat → Nat, True := ⟨fun _ => 0, trivial⟩
 refine w70 ?_
 unfold peachF at hp
 intro B h
 obtain ⟨i, j, u, n⟩ := z.blk h A 1
 obtain ⟨o, b, d, e⟩ := n.freeze j
 have g : Fv_Fld_Bool o ((C.fn (Fn.func 86) [] [(W.c (C0.ptr m.nxt 0))])) (fun a => peachF1 a passes) := by
  intro f' m' a r Q hs hpre  hg hq
  exact s_eachF1 hpre (e.sub hs) ((ha200.sub d.fs).sub hs) hg hq
 obtain ⟨x, q, hp⟩ := bsome hp
 refine s_containsF (l := l) (p := (fun a => peachF1 a passes)) b.pre (ha100.sub d.fs) g q fun D s => ?_
 obtain ⟨t, y⟩ := b.call s i
 refine ⟨_, rfl, ?_⟩
 obtain rfl := Option.some.inj hp
 exact hq _ t.ext'
theorem s_eachV1 {x : Vis} {passes : Vis → Option (Bool)} {b0 : Nat} {cb000 : C} {m f : M} {Q : V → M → Prop} {rz : Bool} (hS : Pre f m) (hb0 : Bk f b0 1 [cb000]) (hb000 : Fv_Vis_Bool f cb000 passes) (hp : peachV1 x passes = some rz) (hq : ∀ m', Ext m m' → Q (.c (.bool rz)) m') : Wc prog tbl 93 [.agg 4 [(Il x.Field), (Il x.Week), (Il x.Seen.Lo), (Il x.Seen.Hi)], .c (.ptr b0 0)] m Q := by
 have o := hS.st
 obtain ⟨p, _⟩ : ∃ τ : Nat → Nat, True := ⟨fun _ => 0, trivial⟩
 refine c93 ?_
 unfold peachV1 at hp
 intro q b
 obtain ⟨d, a, j, e⟩ := o.blk b p 1
 refine ⟨_, (hb0.sub a.sub).rc rfl, _, _, _, _, e.bk.ra, ?_⟩
 obtain ⟨l, g, hp⟩ := bsome hp
 refine hb000 _ _ _ _ _ (Sub.refl _) a.pre  g fun r h => ?_
 obtain ⟨i, n⟩ := a.call h d
 refine ⟨_, rfl, ?_⟩
 obtain rfl := Option.some.inj hp
 exact hq _ i.ext'
theorem s_indexV {l : List Vis} {p : Vis → Option (Bool)} {ca100 ca200 : C} {m f : M} {Q : V → M → Prop} {rz : Int} (hS : Pre f m) (ha100 : Sl f ca100 l) (ha200 : Fv_Vis_Bool f ca200 p) (hp : pindexV l p = some rz) (hq : ∀ m', Ext m m' → Q (.c (Il rz)) m') : Wc prog tbl 99 [.c ca100, .c ca200] m Q := by
 have F := hS.st
 obtain ⟨G, _⟩ : ∃ τ : Nat → Nat, True := ⟨fun _ => 0, trivial⟩
 refine w99 ?_
 unfold pindexV at hp
 refine ⟨ha100.isSl, ?_⟩
 intro I z
 have hgo : ∀ (b : Nat) (x : Int) (j : Int) (n : M) (d : Nat → Nat), St (Fm.of m) f f n → pindexV_L0 l p b j = some rz → I [.c (Il x), .c (Il j)] n := by
  intro b
  induction b with
  | zero => intro x j n d a hp; cases hp
  | succ b y =>
   intro x j n d a hp
   refine z _ _ _ ?_
   rw [pindexV_L0] at hp
   try rw [ha100.slLen]
   refine ifd hp (fun o hp => ?_) fun o hp => ?_; rotate_left
   ·obtain rfl := Option.some.inj hp
    exact hq _ a.ext'
   obtain ⟨A, e, hp⟩ := bsome hp
   obtain ⟨J, i, g, e⟩ := idx_some e
   obtain ⟨_, q⟩ := rd_Vis ha100 e
   refine ⟨J, i, (by first | exact g | (rw [ha100.slLen]; exact g)), _, _, _, _, (q _ a.sub).1, ?_⟩
   obtain ⟨B, r, hp⟩ := bsome hp
   refine ha200 _ _ _ _ _ (Sub.refl _) a.pre  r fun N s => ?_
   obtain ⟨h, D⟩ := a.call s d
   refine ⟨_, rfl, ?_⟩
   refine ifbb hp (fun t hp => ?_) fun t hp => ?_
   ·obtain rfl := Option.some.inj hp
    exact hq _ h.ext'
   refine gdi hp fun u hp => ?_
   exact y _ _ _ d h hp
 exact hgo _ _ _ _ G F hp
theorem s_containsV {l : List Vis} {p : Vis → Option (Bool)} {ca100 ca200 : C} {m f : M} {Q : V → M → Prop} {rz : Bool} (hS : Pre f m) (ha100 : Sl f ca100 l) (ha200 : Fv_Vis_Bool f ca200 p) (hp : pcontainsV l p = some rz) (hq : ∀ m', Ext m m' → Q (.c (.bool rz)) m') : Wc prog tbl 92 [.c ca100, .c ca200] m Q := by
 have e := hS.st
 obtain ⟨i, _⟩ : ∃ τ : Nat → Nat, True := ⟨fun _ => 0, trivial⟩
 refine w92 ?_
 unfold pcontainsV at hp
 obtain ⟨g, a, hp⟩ := bsome hp
 refine s_indexV (l := l) (p := p) e.pre ha100 ha200 a fun j b => ?_
 obtain ⟨d, h⟩ := e.call b i
 refine ⟨_, rfl, ?_⟩
 obtain rfl := Option.some.inj hp
 exact hq _ d.ext'
theorem s_eachV {l : List Vis} {passes : Vis → Option (Bool)} {ca100 ca200 : C} {m f : M} {Q : V → M → Prop} {rz : Bool} (hS : Pre f m) (ha100 : Sl f ca100 l) (ha200 : Fv_Vis_Bool f ca200 passes) (hp : peachV l passes = some rz) (hq : ∀ m', Ext m m' → Q (.c (.bool rz)) m') : Wc prog tbl 79 [.c ca100, .c ca200] m Q := by
 have z := hS.st
 obtain ⟨A, _⟩ : ∃ τ : Nat → Nat, True := ⟨fun _ => 0, trivial⟩
 refine w79 ?_
 unfold peachV at hp
 intro B h
 obtain ⟨i, j, u, n⟩ := z.blk h A 1
 obtain ⟨o, b, d, e⟩ := n.freeze j
 have g : Fv_Vis_Bool o ((C.fn (Fn.func 93) [] [(W.c (C0.ptr m.nxt 0))])) (fun a => peachV1 a passes) := by
  intro f' m' a r Q hs hpre  hg hq
  exact s_eachV1 hpre (e.sub hs) ((ha200.sub d.fs).sub hs) hg hq
 obtain ⟨x, q, hp⟩ := bsome hp
 refine s_containsV (l := l) (p := (fun a => peachV1 a passes)) b.pre (ha100.sub d.fs) g q fun D s => ?_
 obtain ⟨t, y⟩ := b.call s i
 refine ⟨_, rfl, ?_⟩
 obtain rfl := Option.some.inj hp
 exact hq _ t.ext'
theorem s_validRule {s : Ssn} {rule : List Int} {ca101 ca102 ca103 ca200 : C} {m f : M} {Q : V → M → Prop} {rz : Bool} (hS : Pre f m) (_ha101 : Sl f ca101 s.Rules) (_ha102 : Sl f ca102 s.Fields) (_ha103 : Sl f ca103 s.Visits) (ha200 : Sl f ca200 rule) (hp : pvalidRule s rule = some rz) (hq : ∀ m', Ext m m' → Q (.c (.bool rz)) m') : Wc prog tbl 82 [.agg 4 [(Il s.Last), ca101, ca102, ca103], .c ca200] m Q := by
 have x := hS.st
 obtain ⟨y, _⟩ : ∃ τ : Nat → Nat, True := ⟨fun _ => 0, trivial⟩
 refine w82 ?_
 unfold pvalidRule at hp
 intro z e
 obtain ⟨g, b, q, h⟩ := x.blk e y 1
 refine ⟨ha200.isSl, trivial, _, h.bk.rc rfl, ?_⟩
 refine gdi hp fun i hp => ?_
 try rw [ha200.slLen]
 refine ifd hp (fun j hp => ?_) fun j hp => ?_; rotate_left
 ·obtain rfl := Option.some.inj hp
  exact hq _ b.ext'
 have d : Fv_Int_Bool f ((C.fn (Fn.func 39) [] [])) (fun a => pisHundredths a) := by
  intro f' m' a r Q hs hpre  hg hq
  exact s_isHundredths hpre  hg hq
 obtain ⟨t, n, hp⟩ := bsome hp
 refine s_eachI (l := rule) (passes := (fun a => pisHundredths a)) b.pre ha200 d n fun A o => ?_
 obtain ⟨p, u⟩ := b.call o g
 refine ⟨_, rfl, ?_⟩
 obtain rfl := Option.some.inj hp
 exact hq _ p.ext'
theorem s_validField {s : Ssn} {fl : Fld} {ca101 ca102 ca103 : C} {m f : M} {Q : V → M → Prop} {rz : Bool} (hS : Pre f m) (ha101 : Sl f ca101 s.Rules) (_ha102 : Sl f ca102 s.Fields) (_ha103 : Sl f ca103 s.Visits) (hp : pvalidField s fl = some rz) (hq : ∀ m', Ext m m' → Q (.c (.bool rz)) m') : Wc prog tbl 83 [.agg 4 [(Il s.Last), ca101, ca102, ca103], .agg 7 [(Il fl.Crop), (Il fl.Week.Lo), (Il fl.Week.Hi), (Il fl.Damage.Lo), (Il fl.Damage.Hi), (Il fl.Old.Lo), (Il fl.Old.Hi)]] m Q := by
 have S0 := hS.st
 obtain ⟨τ0, _⟩ : ∃ τ : Nat → Nat, True := ⟨fun _ => 0, trivial⟩
 refine w83 ?_
 unfold pvalidField at hp
 intro m0 t
 obtain ⟨u, x, da, y⟩ := S0.blk t τ0 1
 intro m1 z
 obtain ⟨a, g, A, h⟩ := x.blk z u 2
 have i := y.k A
 refine ⟨trivial, _, i.bk.rc rfl, ha101.isSl, ?_⟩
 obtain ⟨l, hp⟩ := gd_some hp
 refine ⟨(by first | exact l | (rw [ha101.slLen]; exact l)), trivial, _, h.bk.rc rfl, ?_⟩
 try rw [ha101.slLen]
 obtain ⟨ea, B, hp⟩ := bsome hp
 refine s_has (r := ({ Lo := (0 : Int), Hi := ((s.Rules.length : Int) - (1 : Int)) } : Rg)) (n := fl.Crop) g.pre  B fun m5 D => ?_
 obtain ⟨b, o⟩ := g.call D a
 have F := i.k o
 have p := h.k o
 refine ⟨_, rfl, ?_⟩
 refine ifbb hp (fun G hp => ?_) fun G hp => ?_; rotate_left
 ·obtain rfl := Option.some.inj hp
  exact hq _ b.ext'
 refine ⟨trivial, _, _, p.bk.rp (k := 1) (j := 2) rfl (by omega), trivial, _, F.bk.rc rfl, ?_⟩
 obtain ⟨fa, I, hp⟩ := bsome hp
 refine s_within (r := fl.Week) (low := (0 : Int)) (high := s.Last) b.pre  I fun la J => ?_
 obtain ⟨d, N⟩ := b.call J a
 have q := p.k N
 refine ⟨_, rfl, ?_⟩
 refine ifbb hp (fun O hp => ?_) fun O hp => ?_; rotate_left
 ·obtain rfl := Option.some.inj hp
  exact hq _ d.ext'
 refine ⟨trivial, _, _, q.bk.rp (k := 3) (j := 2) rfl (by omega), ?_⟩
 obtain ⟨ga, P, hp⟩ := bsome hp
 refine s_within (r := fl.Damage) (low := (0 : Int)) (high := (100 : Int)) d.pre  P fun ma S => ?_
 obtain ⟨e, T⟩ := d.call S a
 have Y := q.k T
 refine ⟨_, rfl, ?_⟩
 refine ifbb hp (fun Z hp => ?_) fun Z hp => ?_; rotate_left
 ·obtain rfl := Option.some.inj hp
  exact hq _ e.ext'
 refine ⟨trivial, _, _, Y.bk.rp (k := 5) (j := 2) rfl (by omega), ?_⟩
 obtain ⟨ha, aa, hp⟩ := bsome hp
 refine s_within (r := fl.Old) (low := (0 : Int)) (high := (100 : Int)) e.pre  aa fun na ba => ?_
 obtain ⟨ca, ia⟩ := e.call ba a
 refine ⟨_, rfl, ?_⟩
 obtain rfl := Option.some.inj hp
 exact hq _ ca.ext'
theorem s_validVisit {s : Ssn} {v : Vis} {ca101 ca102 ca103 : C} {m f : M} {Q : V → M → Prop} {rz : Bool} (hS : Pre f m) (ha101 : Sl f ca101 s.Rules) (ha102 : Sl f ca102 s.Fields) (ha103 : Sl f ca103 s.Visits) (hp : pvalidVisit s v = some rz) (hq : ∀ m', Ext m m' → Q (.c (.bool rz)) m') : Wc prog tbl 84 [.agg 4 [(Il s.Last), ca101, ca102, ca103], .agg 4 [(Il v.Field), (Il v.Week), (Il v.Seen.Lo), (Il v.Seen.Hi)]] m Q := by
 have S0 := hS.st
 obtain ⟨τ0, _⟩ : ∃ τ : Nat → Nat, True := ⟨fun _ => 0, trivial⟩
 refine w84 ?_
 unfold pvalidVisit at hp
 intro m0 o
 obtain ⟨p, q, S, t⟩ := S0.blk o τ0 1
 intro m1 u
 obtain ⟨a, e, x, g⟩ := q.blk u p 2
 have h := t.k x
 refine ⟨_, _, _, _, h.bk.ra, trivial, _, g.bk.rc rfl, ?_⟩
 obtain ⟨T, y, hp⟩ := bsome hp
 refine s_hasField (s := s) (n := v.Field) e.pre ha101 ha102 ha103 y fun m8 z => ?_
 obtain ⟨b, i⟩ := e.call z a
 have A := h.k i
 have l := g.k i
 refine ⟨_, rfl, ?_⟩
 refine ifbb hp (fun B hp => ?_) fun B hp => ?_; rotate_left
 ·obtain rfl := Option.some.inj hp
  exact hq _ b.ext'
 refine ⟨_, _, _, _, A.bk.ra, trivial, _, l.bk.rc rfl, ?_⟩
 obtain ⟨Y, D, hp⟩ := bsome hp
 refine s_hasWeek (s := s) (n := v.Week) b.pre ha101 ha102 ha103 D fun da F => ?_
 obtain ⟨d, G⟩ := b.call F a
 have I := l.k G
 refine ⟨_, rfl, ?_⟩
 refine ifbb hp (fun J hp => ?_) fun J hp => ?_; rotate_left
 ·obtain rfl := Option.some.inj hp
  exact hq _ d.ext'
 refine ⟨trivial, _, _, I.bk.rp (k := 2) (j := 2) rfl (by omega), ?_⟩
 obtain ⟨Z, N, hp⟩ := bsome hp
 refine s_within (r := v.Seen) (low := (0 : Int)) (high := (100 : Int)) d.pre  N fun ea O => ?_
 obtain ⟨P, aa⟩ := d.call O a
 refine ⟨_, rfl, ?_⟩
 obtain rfl := Option.some.inj hp
 exact hq _ P.ext'
theorem s_hasFew {fl : Fld} {m f : M} {Q : V → M → Prop} {rz : Bool} (hS : Pre f m)  (hp : phasFew fl = some rz) (hq : ∀ m', Ext m m' → Q (.c (.bool rz)) m') : Wc prog tbl 71 [.agg 7 [(Il fl.Crop), (Il fl.Week.Lo), (Il fl.Week.Hi), (Il fl.Damage.Lo), (Il fl.Damage.Hi), (Il fl.Old.Lo), (Il fl.Old.Hi)]] m Q := by
 have S := hS.st
 obtain ⟨T, _⟩ : ∃ τ : Nat → Nat, True := ⟨fun _ => 0, trivial⟩
 refine w71 ?_
 unfold phasFew at hp
 intro Z i
 obtain ⟨b, e, I, a⟩ := S.blk i T 1
 refine ⟨trivial, _, _, a.bk.rp (k := 1) (j := 2) rfl (by omega), ?_⟩
 obtain ⟨J, l, hp⟩ := bsome hp
 refine s_count (r := fl.Week) e.pre  l fun m4 n => ?_
 obtain ⟨g, o⟩ := e.call n b
 have d := a.k o
 refine ⟨_, rfl, trivial, _, _, d.bk.rp (k := 3) (j := 2) rfl (by omega), (a.bk.rp (k := 3) (j := 2) rfl (by omega)), ?_⟩
 obtain ⟨N, p, hp⟩ := bsome hp
 refine s_count (r := fl.Damage) g.pre  p fun m9 q => ?_
 obtain ⟨h, s⟩ := g.call q b
 have t := d.k s
 refine ⟨_, rfl, ?_⟩
 refine gdi hp fun u hp => ?_
 refine gdi hp fun x hp => ?_
 obtain ⟨y, hp⟩ := gd_some hp
 refine ⟨y, trivial, _, _, t.bk.rp (k := 5) (j := 2) rfl (by omega), (d.bk.rp (k := 5) (j := 2) rfl (by omega)), (a.bk.rp (k := 5) (j := 2) rfl (by omega)), ?_⟩
 obtain ⟨O, z, hp⟩ := bsome hp
 refine s_count (r := fl.Old) h.pre  z fun Y A => ?_
 obtain ⟨B, P⟩ := h.call A b
 refine ⟨_, rfl, ?_⟩
 refine gdi hp fun D hp => ?_
 refine gdi hp fun F hp => ?_
 refine gdi hp fun G hp => ?_
 obtain rfl := Option.some.inj hp
 exact hq _ B.ext'
theorem s_isChoice {fl : Fld} {t : Trh} {m f : M} {Q : V → M → Prop} {rz : Bool} (hS : Pre f m)  (hp : pisChoice fl t = some rz) (hq : ∀ m', Ext m m' → Q (.c (.bool rz)) m') : Wc prog tbl 54 [.agg 7 [(Il fl.Crop), (Il fl.Week.Lo), (Il fl.Week.Hi), (Il fl.Damage.Lo), (Il fl.Damage.Hi), (Il fl.Old.Lo), (Il fl.Old.Hi)], .agg 3 [(Il t.Week), (Il t.Damage), (Il t.Old)]] m Q := by
 have S0 := hS.st
 obtain ⟨τ0, _⟩ : ∃ τ : Nat → Nat, True := ⟨fun _ => 0, trivial⟩
 refine w54 ?_
 unfold pisChoice at hp
 intro m0 q
 obtain ⟨s, u, T, x⟩ := S0.blk q τ0 1
 intro m1 y
 obtain ⟨a, e, z, g⟩ := u.blk y s 2
 have h := x.k z
 refine ⟨trivial, _, _, h.bk.rp (k := 1) (j := 2) rfl (by omega), trivial, _, g.bk.rc rfl, ?_⟩
 obtain ⟨Y, A, hp⟩ := bsome hp
 refine s_has (r := fl.Week) (n := t.Week) e.pre  A fun m6 B => ?_
 obtain ⟨b, i⟩ := e.call B a
 have l := h.k i
 have o := g.k i
 refine ⟨_, rfl, ?_⟩
 refine ifbb hp (fun D hp => ?_) fun D hp => ?_; rotate_left
 ·obtain rfl := Option.some.inj hp
  exact hq _ b.ext'
 refine ⟨trivial, _, _, l.bk.rp (k := 3) (j := 2) rfl (by omega), trivial, _, o.bk.rc rfl, ?_⟩
 obtain ⟨Z, F, hp⟩ := bsome hp
 refine s_has (r := fl.Damage) (n := t.Damage) b.pre  F fun ea G => ?_
 obtain ⟨d, p⟩ := b.call G a
 have I := l.k p
 have J := o.k p
 refine ⟨_, rfl, ?_⟩
 refine ifbb hp (fun N hp => ?_) fun N hp => ?_; rotate_left
 ·obtain rfl := Option.some.inj hp
  exact hq _ d.ext'
 refine ⟨trivial, _, _, I.bk.rp (k := 5) (j := 2) rfl (by omega), trivial, _, J.bk.rc rfl, ?_⟩
 obtain ⟨aa, O, hp⟩ := bsome hp
 refine s_has (r := fl.Old) (n := t.Old) d.pre  O fun fa P => ?_
 obtain ⟨S, ba⟩ := d.call P a
 refine ⟨_, rfl, ?_⟩
 obtain rfl := Option.some.inj hp
 exact hq _ S.ext'
theorem s_valid {s : Ssn} {ca101 ca102 ca103 : C} {m f : M} {Q : V → M → Prop} {rz : Bool} (hS : Pre f m) (ha101 : Sl f ca101 s.Rules) (ha102 : Sl f ca102 s.Fields) (ha103 : Sl f ca103 s.Visits) (hp : pvalid s = some rz) (hq : ∀ m', Ext m m' → Q (.c (.bool rz)) m') : Wc prog tbl 69 [.agg 4 [(Il s.Last), ca101, ca102, ca103]] m Q := by
 have S0 := hS.st
 obtain ⟨τ0, _⟩ : ∃ τ : Nat → Nat, True := ⟨fun _ => 0, trivial⟩
 refine w69 ?_
 unfold pvalid at hp
 intro m0 u
 obtain ⟨h, b, ha, a⟩ := S0.blk u τ0 1
 refine ⟨trivial, _, a.bk.rc rfl, ?_⟩
 refine ifd hp (fun x hp => ?_) fun x hp => ?_; rotate_left
 ·obtain rfl := Option.some.inj hp
  exact hq _ b.ext'
 refine ⟨trivial, _, a.bk.rc rfl, ha101.isSl, ?_⟩
 try rw [ha101.slLen]
 refine ifd hp (fun y hp => ?_) fun y hp => ?_; rotate_left
 ·obtain rfl := Option.some.inj hp
  exact hq _ b.ext'
 refine ⟨trivial, _, a.bk.rc rfl, ha102.isSl, ?_⟩
 try rw [ha102.slLen]
 refine ifd hp (fun z hp => ?_) fun z hp => ?_; rotate_left
 ·obtain rfl := Option.some.inj hp
  exact hq _ b.ext'
 refine ⟨trivial, _, a.bk.rc rfl, _, _, _, _, a.bk.ra, ?_⟩
 obtain ⟨l9, fa, ga⟩ : ∃ ws, mapO vW [.agg 4 [(Il s.Last), ca101, ca102, ca103]] = some ws ∧ mapS wV ws = [.agg 4 [(Il s.Last), ca101, ca102, ca103]] := (vWs_cons (vW_agg (nf_cons rfl (nf_cons ha101.noFn (nf_cons ha102.noFn (nf_cons ha103.noFn nf_nil))))) vWs_nil)
 rw [fa, optB_some]
 have p : Fv_LInt_Bool f ((C.fn (Fn.func 82) l9 [])) (fun d => pvalidRule s d) := by
  intro f' m' d ia r Q hs hpre A hg hq
  show Wc prog tbl 82 (appS (mapS wV l9) _) m' Q
  rw [ga]
  exact s_validRule hpre (ha101.sub hs) (ha102.sub hs) (ha103.sub hs) A hg hq
 obtain ⟨ja, B, hp⟩ := bsome hp
 refine s_eachL (l := s.Rules) (passes := (fun d => pvalidRule s d)) b.pre ha101 p B fun pa D => ?_
 obtain ⟨i, F⟩ := b.call D h
 have j := a.k F
 refine ⟨_, rfl, ?_⟩
 refine ifbb hp (fun G hp => ?_) fun G hp => ?_; rotate_left
 ·obtain rfl := Option.some.inj hp
  exact hq _ i.ext'
 refine ⟨trivial, _, j.bk.rc rfl, _, _, _, _, j.bk.ra, ?_⟩
 obtain ⟨Y, aa, ba⟩ : ∃ ws, mapO vW [.agg 4 [(Il s.Last), ca101, ca102, ca103]] = some ws ∧ mapS wV ws = [.agg 4 [(Il s.Last), ca101, ca102, ca103]] := (vWs_cons (vW_agg (nf_cons rfl (nf_cons ha101.noFn (nf_cons ha102.noFn (nf_cons ha103.noFn nf_nil))))) vWs_nil)
 rw [aa, optB_some]
 have q : Fv_Fld_Bool f ((C.fn (Fn.func 83) Y [])) (fun e => pvalidField s e) := by
  intro f' m' e r Q hs hpre  hg hq
  show Wc prog tbl 83 (appS (mapS wV Y) _) m' Q
  rw [ba]
  exact s_validField hpre (ha101.sub hs) (ha102.sub hs) (ha103.sub hs) hg hq
 obtain ⟨ka, I, hp⟩ := bsome hp
 refine s_eachF (l := s.Fields) (passes := (fun e => pvalidField s e)) i.pre ha102 q I fun qa J => ?_
 obtain ⟨n, N⟩ := i.call J h
 have o := j.k N
 refine ⟨_, rfl, ?_⟩
 refine ifbb hp (fun O hp => ?_) fun O hp => ?_; rotate_left
 ·obtain rfl := Option.some.inj hp
  exact hq _ n.ext'
 refine ⟨trivial, _, o.bk.rc rfl, _, _, _, _, o.bk.ra, ?_⟩
 obtain ⟨Z, ca, da⟩ : ∃ ws, mapO vW [.agg 4 [(Il s.Last), ca101, ca102, ca103]] = some ws ∧ mapS wV ws = [.agg 4 [(Il s.Last), ca101, ca102, ca103]] := (vWs_cons (vW_agg (nf_cons rfl (nf_cons ha101.noFn (nf_cons ha102.noFn (nf_cons ha103.noFn nf_nil))))) vWs_nil)
 rw [ca, optB_some]
 have t : Fv_Vis_Bool f ((C.fn (Fn.func 84) Z [])) (fun g => pvalidVisit s g) := by
  intro f' m' g r Q hs hpre  hg hq
  show Wc prog tbl 84 (appS (mapS wV Z) _) m' Q
  rw [da]
  exact s_validVisit hpre (ha101.sub hs) (ha102.sub hs) (ha103.sub hs) hg hq
 obtain ⟨la, P, hp⟩ := bsome hp
 refine s_eachV (l := s.Visits) (passes := (fun g => pvalidVisit s g)) n.pre ha103 t P fun sa S => ?_
 obtain ⟨T, ma⟩ := n.call S h
 refine ⟨_, rfl, ?_⟩
 obtain rfl := Option.some.inj hp
 exact hq _ T.ext'
theorem s_check {s : Ssn} {ca101 ca102 ca103 : C} {m f : M} {Q : V → M → Prop} {rz : Int} (hS : Pre f m) (ha101 : Sl f ca101 s.Rules) (ha102 : Sl f ca102 s.Fields) (ha103 : Sl f ca103 s.Visits) (hp : pcheck s = some rz) (hq : ∀ m', Ext m m' → Q (.c (Il rz)) m') : Wc prog tbl 47 [.agg 4 [(Il s.Last), ca101, ca102, ca103]] m Q := by
 have S := hS.st
 obtain ⟨T, _⟩ : ∃ τ : Nat → Nat, True := ⟨fun _ => 0, trivial⟩
 refine w47 ?_
 unfold pcheck at hp
 intro m0 o
 obtain ⟨b, g, I, h⟩ := S.blk o T 1
 refine ⟨_, _, _, _, h.bk.ra, ?_⟩
 obtain ⟨J, p, hp⟩ := bsome hp
 refine s_tooMany (s := s) g.pre ha101 ha102 ha103 p fun m6 q => ?_
 obtain ⟨d, t⟩ := g.call q b
 have i := h.k t
 refine ⟨_, rfl, ?_⟩
 refine ifbb hp (fun u hp => ?_) fun u hp => ?_
 ·obtain rfl := Option.some.inj hp
  exact hq _ d.ext'
 refine ⟨_, _, _, _, i.bk.ra, ?_⟩
 obtain ⟨N, x, hp⟩ := bsome hp
 refine s_valid (s := s) d.pre ha101 ha102 ha103 x fun Y y => ?_
 obtain ⟨e, z⟩ := d.call y b
 have A := i.k z
 refine ⟨_, rfl, ?_⟩
 refine ifnb hp (fun B hp => ?_) fun B hp => ?_
 ·obtain rfl := Option.some.inj hp
  exact hq _ e.ext'
 refine ⟨trivial, _, A.bk.rc rfl, ?_⟩
 have n : Fv_Fld_Bool f ((C.fn (Fn.func 71) [] [])) (fun a => phasFew a) := by
  intro f' m' a r Q hs hpre  hg hq
  exact s_hasFew hpre  hg hq
 obtain ⟨O, D, hp⟩ := bsome hp
 refine s_eachF (l := s.Fields) (passes := (fun a => phasFew a)) e.pre ha102 n D fun Z F => ?_
 obtain ⟨j, P⟩ := e.call F b
 refine ⟨_, rfl, ?_⟩
 refine ifnb hp (fun G hp => ?_) fun G hp => ?_
 ·obtain rfl := Option.some.inj hp
  exact hq _ j.ext'
 obtain rfl := Option.some.inj hp
 exact hq _ j.ext'
theorem s_grow {s : Ssn} {p : Plt} {ca101 ca102 ca103 : C} {m f : M} {Q : V → M → Prop} {rz : Dm} (hS : Pre f m) (ha101 : Sl f ca101 s.Rules) (_ha102 : Sl f ca102 s.Fields) (_ha103 : Sl f ca103 s.Visits) (hp : pgrow s p = some rz) (hq : ∀ m', Ext m m' → Q (.agg 13 [(Il rz.d0), (Il rz.d1), (Il rz.d2), (Il rz.d3), (Il rz.d4), (Il rz.d5), (Il rz.d6), (Il rz.d7), (Il rz.d8), (Il rz.d9), (Il rz.d10), (Il rz.d11), (Il rz.d12)]) m') : Wc prog tbl 55 [.agg 4 [(Il s.Last), ca101, ca102, ca103], .agg 4 [(Il p.t.Week), (Il p.t.Damage), (Il p.t.Old), (Il p.crop)]] m Q := by
 have S0 := hS.st
 obtain ⟨τ0, _⟩ : ∃ τ : Nat → Nat, True := ⟨fun _ => 0, trivial⟩
 refine w55 ?_
 unfold pgrow at hp
 intro m0 qa
 obtain ⟨sa, ta, Gb, ua⟩ := S0.blk qa τ0 1
 intro m1 va
 obtain ⟨wa, xa, ya, za⟩ := ta.blk va sa 2
 have Aa := ua.k ya
 intro m2 Ba
 obtain ⟨Ca, Da, ma, Ea⟩ := xa.blk Ba wa 3
 have Fa := Aa.k ma
 have Ga := za.k ma
 intro m3 Ha
 obtain ⟨Ia, Ja, N, F⟩ := Da.blk Ha Ca 4
 have D := Fa.k N
 have A := Ga.k N
 have G := Ea.k N
 intro R4 Ab
 have hgo : ∀ (J : Nat) (a : Int) (x6 : Int) (b : Int) (e : Int) (g : Int) (h : Int) (i : Int) (j : Int) (n : Int) (o : Int) (q : Int) (r : Int) (u : Int) (x : Int) (y : Int) (z : Int) (m8 : M) (B : Nat → Nat), St (Fm.of m) f f m8 → Lb (Fm.of m) f B m8 1 m.nxt 4 [(Il s.Last), ca101, ca102, ca103] → Lb (Fm.of m) f B m8 2 m0.nxt 4 [(Il p.t.Week), (Il p.t.Damage), (Il p.t.Old), (Il p.crop)] → Lb (Fm.of m) f B m8 3 m1.nxt 13 [(Il 0), (Il 0), (Il 0), (Il 0), (Il 0), (Il 0), (Il 0), (Il 0), (Il 0), (Il 0), (Il 0), (Il 0), (Il 0)] → Lb (Fm.of m) f B m8 4 m2.nxt 13 [(Il e), (Il g), (Il h), (Il i), (Il j), (Il n), (Il o), (Il q), (Il r), (Il u), (Il x), (Il y), (Il z)] → pgrow_L0 s p J e g h i j n o q r u x y z a b = some rz → R4 [.c (Il a), .c (Il x6), .c (Il b)] m8 := by
  intro J
  induction J with
  | zero => intro a x6 b e g h i j n o q r u x y z m8 B I D A G F hp; cases hp
  | succ J la =>
   intro a x6 b e g h i j n o q r u x y z m8 B I D A G F hp
   refine Ab _ _ _ _ ?_
   rw [pgrow_L0] at hp
   refine ifd hp (fun Ka hp => ?_) fun Ka hp => ?_; rotate_left
   ·refine ⟨_, _, _, _, _, _, _, _, _, _, _, _, _, F.bk.ra, ?_⟩
    obtain ⟨La, Ma, Na, Hb, Oa⟩ := G.sto I [(Il e), (Il g), (Il h), (Il i), (Il j), (Il n), (Il o), (Il q), (Il r), (Il u), (Il x), (Il y), (Il z)]
    refine ⟨La, Ma, ?_⟩
    refine ⟨_, _, _, _, _, _, _, _, _, _, _, _, _, Oa.bk.ra, ?_⟩
    obtain rfl := Option.some.inj hp
    exact hq _ Na.ext'
   refine ⟨trivial, trivial, _, A.bk.rc rfl, ?_⟩
   refine ifd hp (fun Pa hp => ?_) fun Pa hp => ?_
   ·refine ⟨trivial, trivial, _, A.bk.rc rfl, trivial, ?_⟩
    obtain ⟨Qa, hp⟩ := gd_some hp
    obtain ⟨Bb, da, ea⟩ := arr_no Qa
    refine ⟨Bb, da, ea, ?_⟩
    obtain ⟨Ra, Sa, Ta, O, P⟩ := F.sta I (pre := []) (post := []) (l := ([e, g, h, i, j, n, o, q, r, u, x, y, z] : List Int)) (enc := (C.int .i64)) rfl rfl da ea p.t.Damage
    replace P : Lb _ _ _ _ _ _ _ [(Il (sti b 0 p.t.Damage e)), (Il (sti b 1 p.t.Damage g)), (Il (sti b 2 p.t.Damage h)), (Il (sti b 3 p.t.Damage i)), (Il (sti b 4 p.t.Damage j)), (Il (sti b 5 p.t.Damage n)), (Il (sti b 6 p.t.Damage o)), (Il (sti b 7 p.t.Damage q)), (Il (sti b 8 p.t.Damage r)), (Il (sti b 9 p.t.Damage u)), (Il (sti b 10 p.t.Damage x)), (Il (sti b 11 p.t.Damage y)), (Il (sti b 12 p.t.Damage z))] := P
    have Ua := D.k O
    have Va := A.k O
    have Wa := G.k O
    refine ⟨Ra, Sa, ?_⟩
    refine gdi hp fun Xa hp => ?_
    exact la _ _ _ _ _ _ _ _ _ _ _ _ _ _ _ _ _ B Ta Ua Va Wa P hp
   refine ⟨trivial, _, D.bk.rc rfl, ?_⟩
   refine ifd hp (fun Ya hp => ?_) fun Ya hp => ?_; rotate_left
   ·refine ⟨trivial, ?_⟩
    obtain ⟨Za, hp⟩ := gd_some hp
    obtain ⟨Cb, fa, ga⟩ := arr_no Za
    refine ⟨Cb, fa, ga, ?_⟩
    obtain ⟨ab, bb, cb, S, T⟩ := F.sta I (pre := []) (post := []) (l := ([e, g, h, i, j, n, o, q, r, u, x, y, z] : List Int)) (enc := (C.int .i64)) rfl rfl fa ga a
    replace T : Lb _ _ _ _ _ _ _ [(Il (sti b 0 a e)), (Il (sti b 1 a g)), (Il (sti b 2 a h)), (Il (sti b 3 a i)), (Il (sti b 4 a j)), (Il (sti b 5 a n)), (Il (sti b 6 a o)), (Il (sti b 7 a q)), (Il (sti b 8 a r)), (Il (sti b 9 a u)), (Il (sti b 10 a x)), (Il (sti b 11 a y)), (Il (sti b 12 a z))] := T
    have db := D.k S
    have eb := A.k S
    have fb := G.k S
    refine ⟨ab, bb, ?_⟩
    refine gdi hp fun gb hp => ?_
    exact la _ _ _ _ _ _ _ _ _ _ _ _ _ _ _ _ _ B cb db eb fb T hp
   refine ⟨trivial, _, D.bk.rc rfl, trivial, _, A.bk.rc rfl, ?_⟩
   obtain ⟨Ib, Y, hp⟩ := bsome hp
   obtain ⟨Db, oa, ha, Y⟩ := idx_some Y
   obtain ⟨Jb, hb, na⟩ := ha101.rdS Y
   refine ⟨Db, oa, (by first | exact ha | (rw [ha101.slLen]; exact ha)), _, (hb _ I.sub), ?_⟩
   obtain ⟨d, Z, hp⟩ := bsome hp
   obtain ⟨Eb, pa, ia, Z⟩ := idx_some Z
   refine ⟨Eb, pa, (by first | exact ia | (rw [na.slLen]; exact ia)), _, (na.rdI Z I.sub), ?_⟩
   refine gdi hp fun ib hp => ?_
   refine gdi hp fun jb hp => ?_
   refine gdi hp fun kb hp => ?_
   refine gdi hp fun mb hp => ?_
   refine gdi hp fun ob hp => ?_
   refine gdi hp fun pb hp => ?_
   obtain ⟨qb, hp⟩ := gd_some hp
   refine ⟨qb, trivial, ?_⟩
   obtain ⟨rb, hp⟩ := gd_some hp
   obtain ⟨Fb, ja, ka⟩ := arr_no rb
   refine ⟨Fb, ja, ka, ?_⟩
   obtain ⟨sb, tb, ub, aa, ba⟩ := F.sta I (pre := []) (post := []) (l := ([e, g, h, i, j, n, o, q, r, u, x, y, z] : List Int)) (enc := (C.int .i64)) rfl rfl ja ka ((a - ((a * d) / (100 : Int))))
   replace ba : Lb _ _ _ _ _ _ _ [(Il (sti b 0 (a - ((a * d) / (100 : Int))) e)), (Il (sti b 1 (a - ((a * d) / (100 : Int))) g)), (Il (sti b 2 (a - ((a * d) / (100 : Int))) h)), (Il (sti b 3 (a - ((a * d) / (100 : Int))) i)), (Il (sti b 4 (a - ((a * d) / (100 : Int))) j)), (Il (sti b 5 (a - ((a * d) / (100 : Int))) n)), (Il (sti b 6 (a - ((a * d) / (100 : Int))) o)), (Il (sti b 7 (a - ((a * d) / (100 : Int))) q)), (Il (sti b 8 (a - ((a * d) / (100 : Int))) r)), (Il (sti b 9 (a - ((a * d) / (100 : Int))) u)), (Il (sti b 10 (a - ((a * d) / (100 : Int))) x)), (Il (sti b 11 (a - ((a * d) / (100 : Int))) y)), (Il (sti b 12 (a - ((a * d) / (100 : Int))) z))] := ba
   have vb := D.k aa
   have wb := A.k aa
   have xb := G.k aa
   refine ⟨sb, tb, ?_⟩
   refine gdi hp fun yb hp => ?_
   exact la _ _ _ _ _ _ _ _ _ _ _ _ _ _ _ _ _ B ub vb wb xb ba hp
 exact hgo _ _ _ _ _ _ _ _ _ _ _ _ _ _ _ _ _ _ Ia Ja D A G F hp
theorem s_follow {s : Ssn} {field : Int} {t : Trh} {ca101 ca102 ca103 : C} {m f : M} {Q : V → M → Prop} {rz : Crs × Bool} (hS : Pre f m) (ha101 : Sl f ca101 s.Rules) (ha102 : Sl f ca102 s.Fields) (ha103 : Sl f ca103 s.Visits) (hp : pfollow s field t = some rz) (hq : ∀ m', Ext m m' → Q (.tup [.agg 16 [(Il rz.1.t.Week), (Il rz.1.t.Damage), (Il rz.1.t.Old), (Il rz.1.d.d0), (Il rz.1.d.d1), (Il rz.1.d.d2), (Il rz.1.d.d3), (Il rz.1.d.d4), (Il rz.1.d.d5), (Il rz.1.d.d6), (Il rz.1.d.d7), (Il rz.1.d.d8), (Il rz.1.d.d9), (Il rz.1.d.d10), (Il rz.1.d.d11), (Il rz.1.d.d12)], .c (.bool rz.2)]) m') : Wc prog tbl 25 [.agg 4 [(Il s.Last), ca101, ca102, ca103], .c (Il field), .agg 3 [(Il t.Week), (Il t.Damage), (Il t.Old)]] m Q := by
 have S0 := hS.st
 obtain ⟨τ0, _⟩ : ∃ τ : Nat → Nat, True := ⟨fun _ => 0, trivial⟩
 refine w25 ?_
 unfold pfollow at hp
 intro m0 T
 obtain ⟨Y, Z, Wa, aa⟩ := S0.blk T τ0 1
 intro m1 ba
 obtain ⟨ca, da, ea, fa⟩ := Z.blk ba Y 2
 have ga := aa.k ea
 intro m2 ha
 obtain ⟨b, y, z, ia⟩ := da.blk ha ca 3
 have A := ga.k z
 have ja := fa.k z
 refine ⟨_, _, _, _, A.bk.ra, ?_⟩
 obtain ⟨Xa, ka, hp⟩ := bsome hp
 refine s_check (s := s) y.pre ha101 ha102 ha103 ka fun m8 la => ?_
 obtain ⟨i, j⟩ := y.call la b
 have B := A.k j
 have ma := ja.k j
 have D := ia.k j
 refine ⟨_, rfl, ?_⟩
 refine ifnd hp (fun na hp => ?_) fun na hp => ?_
 ·obtain ⟨oa, pa, qa, Ya, sa⟩ := D.sto i [(Il 0), (Il 0), (Il 0), (Il 0), (Il 0), (Il 0), (Il 0), (Il 0), (Il 0), (Il 0), (Il 0), (Il 0), (Il 0), (Il 0), (Il 0), (Il 0)]
  refine ⟨oa, pa, ?_⟩
  refine ⟨_, _, _, _, _, _, _, _, _, _, _, _, _, _, _, _, sa.bk.ra, ?_⟩
  obtain rfl := Option.some.inj hp
  exact hq _ qa.ext'
 refine ⟨_, _, _, _, B.bk.ra, ?_⟩
 obtain ⟨Za, ta, hp⟩ := bsome hp
 refine s_hasField (s := s) (n := field) i.pre ha101 ha102 ha103 ta fun gb ua => ?_
 obtain ⟨e, l⟩ := i.call ua b
 have F := B.k l
 have G := ma.k l
 have I := D.k l
 refine ⟨_, rfl, ?_⟩
 refine ifnb hp (fun va hp => ?_) fun va hp => ?_
 ·obtain ⟨wa, xa, ya, ab, za⟩ := I.sto e [(Il 0), (Il 0), (Il 0), (Il 0), (Il 0), (Il 0), (Il 0), (Il 0), (Il 0), (Il 0), (Il 0), (Il 0), (Il 0), (Il 0), (Il 0), (Il 0)]
  refine ⟨wa, xa, ?_⟩
  refine ⟨_, _, _, _, _, _, _, _, _, _, _, _, _, _, _, _, za.bk.ra, ?_⟩
  obtain rfl := Option.some.inj hp
  exact hq _ ya.ext'
 refine ⟨trivial, _, F.bk.rc rfl, ?_⟩
 obtain ⟨Aa, o, hp⟩ := bsome hp
 obtain ⟨Ua, P, u, o⟩ := idx_some o
 obtain ⟨_, Ba⟩ := rd_Fld ha102 o
 refine ⟨Ua, P, (by first | exact u | (rw [ha102.slLen]; exact u)), _, _, _, _, _, _, _, (Ba _ e.sub).1, _, _, _, G.bk.ra, ?_⟩
 obtain ⟨bb, Ca, hp⟩ := bsome hp
 refine s_isChoice (fl := Aa) (t := t) e.pre  Ca fun hb Da => ?_
 obtain ⟨g, q⟩ := e.call Da b
 have J := F.k q
 have r := G.k q
 have N := I.k q
 refine ⟨_, rfl, ?_⟩
 refine ifnb hp (fun Ea hp => ?_) fun Ea hp => ?_
 ·obtain ⟨Fa, Ga, Ha, cb, Ia⟩ := N.sto g [(Il 0), (Il 0), (Il 0), (Il 0), (Il 0), (Il 0), (Il 0), (Il 0), (Il 0), (Il 0), (Il 0), (Il 0), (Il 0), (Il 0), (Il 0), (Il 0)]
  refine ⟨Fa, Ga, ?_⟩
  refine ⟨_, _, _, _, _, _, _, _, _, _, _, _, _, _, _, _, Ia.bk.ra, ?_⟩
  obtain rfl := Option.some.inj hp
  exact hq _ Ha.ext'
 refine ⟨_, _, _, r.bk.ra, _, _, _, _, J.bk.ra, _, _, _, r.bk.ra, trivial, _, J.bk.rc rfl, ?_⟩
 obtain ⟨Ja, h, hp⟩ := bsome hp
 obtain ⟨Va, S, x, h⟩ := idx_some h
 obtain ⟨_, Ka⟩ := rd_Fld ha102 h
 refine ⟨Va, S, (by first | exact x | (rw [ha102.slLen]; exact x)), (ha102.isPt h _), _, ((Ka _ g.sub).2.1 0 _ rfl), ?_⟩
 obtain ⟨a, La, hp⟩ := bsome hp
 refine s_grow (s := s) (p := ({ t := t, crop := Ja.Crop } : Plt)) g.pre ha101 ha102 ha103 La fun ib Ma => ?_
 obtain ⟨Na, O⟩ := g.call Ma b
 have Oa := r.k O
 have Pa := N.k O
 refine ⟨_, _, _, _, _, _, _, _, _, _, _, _, _, rfl, (Oa.bk.ra), ?_⟩
 obtain ⟨Qa, Ra, Sa, db, Ta⟩ := Pa.sto Na [(Il t.Week), (Il t.Damage), (Il t.Old), (Il a.d0), (Il a.d1), (Il a.d2), (Il a.d3), (Il a.d4), (Il a.d5), (Il a.d6), (Il a.d7), (Il a.d8), (Il a.d9), (Il a.d10), (Il a.d11), (Il a.d12)]
 refine ⟨Qa, Ra, ?_⟩
 refine ⟨_, _, _, _, _, _, _, _, _, _, _, _, _, _, _, _, Ta.bk.ra, ?_⟩
 obtain rfl := Option.some.inj hp
 exact hq _ Sa.ext'
theorem s_harvestD {d : Dm} {m f : M} {Q : V → M → Prop} {rz : Int} (hS : Pre f m)  (hp : pharvestD d = some rz) (hq : ∀ m', Ext m m' → Q (.c (Il rz)) m') : Wc prog tbl 26 [.agg 13 [(Il d.d0), (Il d.d1), (Il d.d2), (Il d.d3), (Il d.d4), (Il d.d5), (Il d.d6), (Il d.d7), (Il d.d8), (Il d.d9), (Il d.d10), (Il d.d11), (Il d.d12)]] m Q := by
 have p := hS.st
 obtain ⟨q, _⟩ : ∃ τ : Nat → Nat, True := ⟨fun _ => 0, trivial⟩
 refine w26 ?_
 unfold pharvestD at hp
 intro s g
 obtain ⟨j, h, n, i⟩ := p.blk g q 1
 refine ⟨trivial, ?_⟩
 obtain ⟨o, a, hp⟩ := bsome hp
 obtain ⟨r, b, e, a⟩ := idx_some a
 refine ⟨r, b, e, _, (i.bk.rc (arr_at (l := ([d.d0, d.d1, d.d2, d.d3, d.d4, d.d5, d.d6, d.d7, d.d8, d.d9, d.d10, d.d11, d.d12] : List Int)) (enc := (C.int .i64)) 0 rfl a)), ?_⟩
 obtain rfl := Option.some.inj hp
 exact hq _ h.ext'
theorem s_Harvest {s : Ssn} {field : Int} {t : Trh} {ca101 ca102 ca103 : C} {m f : M} {Q : V → M → Prop} {rz : Int} (hS : Pre f m) (ha101 : Sl f ca101 s.Rules) (ha102 : Sl f ca102 s.Fields) (ha103 : Sl f ca103 s.Visits) (hp : pHarvest s field t = some rz) (hq : ∀ m', Ext m m' → Q (.c (Il rz)) m') : Wc prog tbl 9 [.agg 4 [(Il s.Last), ca101, ca102, ca103], .c (Il field), .agg 3 [(Il t.Week), (Il t.Damage), (Il t.Old)]] m Q := by
 have S0 := hS.st
 obtain ⟨τ0, _⟩ : ∃ τ : Nat → Nat, True := ⟨fun _ => 0, trivial⟩
 refine w9 ?_
 unfold pHarvest at hp
 intro m0 h
 obtain ⟨i, l, S, n⟩ := S0.blk h τ0 1
 intro m1 o
 obtain ⟨e, g, p, q⟩ := l.blk o i 2
 have r := n.k p
 refine ⟨_, _, _, _, r.bk.ra, _, _, _, q.bk.ra, ?_⟩
 obtain ⟨a, u, hp⟩ := bsome hp
 refine s_follow (s := s) (field := field) (t := t) g.pre ha101 ha102 ha103 u fun ea x => ?_
 obtain ⟨y, T⟩ := g.call x e
 refine ⟨_, _, _, _, _, _, _, _, _, _, _, _, _, _, _, _, _, rfl, ?_⟩
 intro fa z
 obtain ⟨A, B, Y, D⟩ := y.blk z e 3
 obtain ⟨F, G, b, Z, I⟩ := D.sto B [(Il a.1.t.Week), (Il a.1.t.Damage), (Il a.1.t.Old), (Il a.1.d.d0), (Il a.1.d.d1), (Il a.1.d.d2), (Il a.1.d.d3), (Il a.1.d.d4), (Il a.1.d.d5), (Il a.1.d.d6), (Il a.1.d.d7), (Il a.1.d.d8), (Il a.1.d.d9), (Il a.1.d.d10), (Il a.1.d.d11), (Il a.1.d.d12)]
 refine ⟨F, G, ?_⟩
 refine ifnb hp (fun J hp => ?_) fun J hp => ?_
 ·obtain rfl := Option.some.inj hp
  exact hq _ b.ext'
 refine ⟨trivial, _, _, _, _, _, _, _, _, _, _, _, _, _, I.bk.rp (k := 3) (j := 13) rfl (by omega), ?_⟩
 obtain ⟨aa, N, hp⟩ := bsome hp
 refine s_harvestD (d := a.1.d) b.pre  N fun ga O => ?_
 obtain ⟨P, ba⟩ := b.call O A
 refine ⟨_, rfl, ?_⟩
 obtain rfl := Option.some.inj hp
 exact hq _ P.ext'
set_option maxHeartbeats 4000000 in
theorem s_GrowthRises {s : Ssn} {which : Int} {number : Int} {more : Int} {ca101 ca102 ca103 : C} {m f : M} {Q : V → M → Prop} {rz : Bool} (hS : Pre f m) (ha101 : Sl f ca101 s.Rules) (ha102 : Sl f ca102 s.Fields) (ha103 : Sl f ca103 s.Visits) (hp : pGrowthRises s which number more = some rz) (hq : ∀ m', Ext m m' → Q (.c (.bool rz)) m') : Wc prog tbl 3 [.agg 4 [(Il s.Last), ca101, ca102, ca103], .c (.int .u8 which), .c (.int .u16 number), .c (.int .u8 more)] m Q := by
 have S0 := hS.st
 obtain ⟨τ0, _⟩ : ∃ τ : Nat → Nat, True := ⟨fun _ => 0, trivial⟩
 refine w3 ?_
 unfold pGrowthRises at hp
 intro m0 Hc
 obtain ⟨Oa, Ab, Oj, Bb⟩ := S0.blk Hc τ0 1
 refine ⟨_, _, _, _, Bb.bk.ra, ?_⟩
 obtain ⟨Pj, Ic, hp⟩ := bsome hp
 refine s_lReady (s := s) Ab.pre ha101 ha102 ha103 Ic fun m6 Jc => ?_
 obtain ⟨Da, Kc⟩ := Ab.call Jc Oa
 have Pa := Bb.k Kc
 refine ⟨_, rfl, ?_⟩
 refine ifnb hp (fun Lc hp => ?_) fun Lc hp => ?_
 ·obtain ⟨Qj, Nc, hp⟩ := bsome hp
  refine s_awake Da.pre  Nc fun m9 Oc => ?_
  obtain ⟨Pc, Rj⟩ := Da.call Oc Oa
  refine ⟨_, rfl, ?_⟩
  obtain rfl := Option.some.inj hp
  exact hq _ Pc.ext'
 refine ⟨trivial, _, Pa.bk.rc rfl, ha102.isSl, ?_⟩
 refine gdi hp fun Qc hp => ?_
 obtain ⟨Cb, hp⟩ := gd_some hp
 refine ⟨(by first | exact Cb | (rw [ha102.slLen]; exact Cb)), ?_⟩
 obtain ⟨Db, hp⟩ := gd_some hp
 refine ⟨(by first | exact Db | (rw [ha102.slLen]; exact Db)), trivial, _, Pa.bk.rc rfl, ?_⟩
 obtain ⟨i, Qa, hp⟩ := bsome hp
 obtain ⟨Hj, rb, sb, Qa⟩ := idx_some Qa
 obtain ⟨_, Rc⟩ := rd_Fld ha102 Qa
 refine ⟨Hj, (by first | exact rb | (rw [ha102.slLen]; exact rb)), (by first | exact sb | (rw [ha102.slLen]; exact sb)), _, _, _, _, _, _, _, (Rc _ Da.sub).1, ?_⟩
 intro al Tc
 obtain ⟨Uc, Vc, Xc, Yc⟩ := Da.blk Tc Oa 2
 have Zc := Pa.k Xc
 obtain ⟨Eb, ad, bd, cd, dd⟩ := Yc.sto Vc [(Il i.Crop), (Il i.Week.Lo), (Il i.Week.Hi), (Il i.Damage.Lo), (Il i.Damage.Hi), (Il i.Old.Lo), (Il i.Old.Hi)]
 have ed := Zc.k cd
 refine ⟨Eb, ad, ?_⟩
 intro bl fd
 obtain ⟨Ra, Fb, Gb, Cc⟩ := bd.growK fd Uc 3
 have hd := ed.k Gb
 have Sa := dd.k Gb
 have id := Cc 0 (by decide)
 refine ⟨_, _, _, _, _, _, _, Sa.bk.ra, _, _, _, _, _, _, _, Sa.bk.ra, ?_⟩
 obtain ⟨jd, kd, hp⟩ := bsome hp
 refine s_rMany (fl := i) Fb.pre  kd fun cl ld => ?_
 obtain ⟨Hb, Ta⟩ := Fb.call ld Ra
 have md := hd.k Ta
 have Ib := Sa.k Ta
 have nd := id.k Ta
 refine ⟨_, rfl, (Ib.bk.ra), ?_⟩
 refine gdi hp fun od hp => ?_
 refine gdi hp fun pd hp => ?_
 refine gdi hp fun qd hp => ?_
 obtain ⟨g, sd, hp⟩ := bsome hp
 refine s_rNth (fl := i) (n := ((wrapZ .i64 number) % jd)) Hb.pre  sd fun dl td => ?_
 obtain ⟨ud, Ua⟩ := Hb.call td Ra
 have vd := md.k Ua
 have wd := Ib.k Ua
 have xd := nd.k Ua
 refine ⟨_, _, _, rfl, ?_⟩
 intro el yd
 obtain ⟨zd, Jb, Ad⟩ := xd.set ud yd
 have Bd := vd.k Jb
 have Va := wd.k Jb
 refine ⟨(Va.bk.ra), (Va.bk.ra), ?_⟩
 obtain ⟨Kb, Cd, Dd, Mb, Nb⟩ := Ad.sto zd [(Il g.Week), (Il g.Damage), (Il g.Old)]
 have Ed := Bd.k Mb
 have Fd := Va.k Mb
 refine ⟨Kb, Cd, ?_⟩
 refine ⟨_, _, _, Nb.bk.ra, ?_⟩
 intro gl Gd
 obtain ⟨Hd, Id, Wa, Jd⟩ := Dd.blk Gd Ra 4
 have Ld := Ed.k Wa
 have Md := Fd.k Wa
 have Nd := Nb.k Wa
 obtain ⟨Od, Pd, Qd, Xa, Rd⟩ := Jd.sto Id [(Il g.Week), (Il g.Damage), (Il g.Old)]
 have Sd := Ld.k Xa
 have Ob := Md.k Xa
 have Pb := Nd.k Xa
 refine ⟨Od, Pd, ?_⟩
 refine ⟨trivial, trivial, _, Ob.bk.rc rfl, trivial, _, Pb.bk.rc rfl, ?_⟩
 refine gdi hp fun Td hp => ?_
 refine gdi hp fun Ud hp => ?_
 refine gdi hp fun Vd hp => ?_
 obtain ⟨Wd, hp⟩ := gd_some hp
 refine ⟨Wd, trivial, ?_⟩
 obtain ⟨Qb, Xd, Yd, Ya, Za⟩ := Rd.sto1 Qd 1 (Il (min i.Damage.Hi (g.Damage + ((wrapZ .i64 more) % (9 : Int))))) (by simp) rfl
 replace Za : Lb _ _ _ _ _ _ _ [(Il g.Week), (Il (min i.Damage.Hi (g.Damage + ((wrapZ .i64 more) % (9 : Int))))), (Il g.Old)] := Za
 have Zd := Sd.k Ya
 have ae := Ob.k Ya
 have be := Pb.k Ya
 refine ⟨Qb, Xd, ?_⟩
 intro Ij ce
 obtain ⟨de, ee, Ea, Dc⟩ := Yd.growK ce Hd 5
 have ab := Zd.k Ea
 have fe := ae.k Ea
 have ge := be.k Ea
 have he := Za.k Ea
 have ie := Dc 0 (by decide)
 refine ⟨_, _, _, _, ab.bk.ra, _, _, _, _, ab.bk.ra, ?_⟩
 intro hl je
 obtain ⟨ke, me, oa, oe⟩ := ee.blk je de 6
 have bb := ab.k oa
 have pe := fe.k oa
 have qe := ge.k oa
 have re := he.k oa
 have se := ie.k oa
 refine ⟨(by rw [show allS cmC _ = true from cmL_of (nf_cons rfl (nf_cons ha101.noFn (nf_cons ha102.noFn (nf_cons ha103.noFn nf_nil))))]; exact (bb.bk.ra)), (by rw [show allS cmC _ = true from cmL_of (nf_cons rfl (nf_cons ha101.noFn (nf_cons ha102.noFn (nf_cons ha103.noFn nf_nil))))]; exact (bb.bk.ra)), ?_⟩
 intro il te
 obtain ⟨ue, pa, ve⟩ := se.set me te
 have cb := bb.k pa
 have we := pe.k pa
 have xe := qe.k pa
 have ye := re.k pa
 have ze := oe.k pa
 refine ⟨(by rw [show allS cmC _ = true from cmL_of (nf_cons rfl (nf_cons ha101.noFn (nf_cons ha102.noFn (nf_cons ha103.noFn nf_nil))))]; exact (cb.bk.ra)), (by rw [show allS cmC _ = true from cmL_of (nf_cons rfl (nf_cons ha101.noFn (nf_cons ha102.noFn (nf_cons ha103.noFn nf_nil))))]; exact (cb.bk.ra)), ?_⟩
 obtain ⟨Ae, Be, Ce, qa, De⟩ := ze.sto ue [(Il s.Last), ca101, ca102, ca103]
 have Rb := cb.k qa
 have Ee := we.k qa
 have Fe := xe.k qa
 have Ge := ye.k qa
 have He := ve.k qa
 refine ⟨Ae, Be, ?_⟩
 refine ⟨(by rw [show allS cmC _ = true from cmL_of (nf_cons rfl (nf_cons ha101.noFn (nf_cons ha102.noFn (nf_cons ha103.noFn nf_nil))))]; exact (Rb.bk.ra)), ?_⟩
 obtain ⟨Ie, Je, Ke, sa, Me⟩ := He.sto Ce [(Il s.Last), ca101, ca102, ca103]
 have Ne := Rb.k sa
 have Oe := Ee.k sa
 have Pe := Fe.k sa
 have Qe := Ge.k sa
 have Re := De.k sa
 refine ⟨Ie, Je, ?_⟩
 refine ⟨trivial, ?_⟩
 obtain ⟨Se, Te, Ue, ta, db⟩ := Re.sto1 Ke 1 .sl0 (by simp) rfl
 replace db : Lb _ _ _ _ _ _ _ [(Il s.Last), .sl0, ca102, ca103] := db
 have Ve := Ne.k ta
 have We := Oe.k ta
 have Xe := Pe.k ta
 have Ye := Qe.k ta
 have Ze := Me.k ta
 refine ⟨Se, Te, ?_⟩
 refine ⟨trivial, ?_⟩
 obtain ⟨af, bf, cf, ua, Z⟩ := Ze.sto1 Ue 1 .sl0 (by simp) rfl
 replace Z : Lb _ _ _ _ _ _ _ [(Il s.Last), .sl0, ca102, ca103] := Z
 have T := Ve.k ua
 have Fa := We.k ua
 have ha := Xe.k ua
 have va := Ye.k ua
 have wa := db.k ua
 refine ⟨af, bf, ?_⟩
 intro Jj Gj
 have hgo : ∀ (Ga : Nat) (Sb : Int) (Ha : C) (Ia : C) (ia : Int) (xa : List (List Int)) (ja : Int) (ya : List (List Int)) (ga : M) (x : M) (d : Nat → Nat), St (Fm.of m) f x ga → Sub f x → Lb (Fm.of m) x d ga 1 m.nxt 4 [(Il s.Last), ca101, ca102, ca103] → Lb (Fm.of m) x d ga 2 m6.nxt 7 [(Il i.Crop), (Il i.Week.Lo), (Il i.Week.Hi), (Il i.Damage.Lo), (Il i.Damage.Hi), (Il i.Old.Lo), (Il i.Old.Hi)] → Lb (Fm.of m) x d ga 3 (Eb.nxt + 0) 3 [(Il g.Week), (Il g.Damage), (Il g.Old)] → Lb (Fm.of m) x d ga 4 Kb.nxt 3 [(Il g.Week), (Il (min i.Damage.Hi (g.Damage + ((wrapZ .i64 more) % (9 : Int))))), (Il g.Old)] → Lb (Fm.of m) x d ga 6 Ij.nxt 4 [(Il ia), Ha, ca102, ca103] → Lb (Fm.of m) x d ga 5 (Qb.nxt + 0) 4 [(Il ja), Ia, ca102, ca103] → Ow (Fm.of m) x d ga 7 Ha xa → Ow (Fm.of m) x d ga 8 Ia ya → pGrowthRises_L0 s which more i g Ga ia xa ja ya Sb = some rz → Jj [.c (Il Sb)] ga := by
  intro Ga
  induction Ga with
  | zero => intro Sb Ha Ia ia xa ja ya ga x d ka j T Fa ha va wa Z e b hp; cases hp
  | succ Ga df =>
   intro Sb Ha Ia ia xa ja ya ga x d ka j T Fa ha va wa Z e b hp
   refine Gj _ _ ?_
   rw [pGrowthRises_L0] at hp
   refine ⟨trivial, _, T.bk.rc rfl, ha101.isSl, ?_⟩
   try rw [ha101.slLen]
   refine ifd hp (fun ef hp => ?_) fun ef hp => ?_
   ·refine ⟨trivial, _, T.bk.rc rfl, ?_⟩
    obtain ⟨gf, eb, hp⟩ := bsome hp
    obtain ⟨Kj, Ec, tb, eb⟩ := idx_some eb
    obtain ⟨Sj, hf, jf⟩ := ha101.rdS eb
    refine ⟨Kj, Ec, (by first | exact tb | (rw [ha101.slLen]; exact tb)), _, (hf _ (Sub.trans j ka.sub)), ?_⟩
    obtain ⟨o, kf, hp⟩ := bsome hp
    refine s_lList (l := gf) ka.pre (jf.sub j) kf fun jl Tj Uj lf mf => ?_
    obtain ⟨nf, pf, I, B⟩ := ka.callO lf mf d 9
    have qf := T.k I
    have rf := Fa.k I
    have sf := ha.k I
    have tf := va.k I
    have uf := wa.k I
    have wf := Z.k I
    have e := e.k I
    have b := b.k I
    refine ⟨_, rfl, B.isSl, ?_⟩
    refine gdi hp fun xf hp => ?_
    obtain ⟨Tb, hp⟩ := gd_some hp
    refine ⟨(by first | exact Tb | (rw [B.slLen]; exact Tb)), ?_⟩
    obtain ⟨Ub, hp⟩ := gd_some hp
    refine ⟨(by first | exact Ub | (rw [B.slLen]; exact Ub)), ?_⟩
    obtain ⟨u, fb, hp⟩ := bsome hp
    obtain ⟨Lj, ub, vb, fb⟩ := idx_some fb
    refine ⟨Lj, (by first | exact ub | (rw [B.slLen]; exact ub)), (by first | exact vb | (rw [B.slLen]; exact vb)), _, (B.rdI fb), ?_⟩
    refine gdi hp fun yf hp => ?_
    refine gdi hp fun zf hp => ?_
    refine gdi hp fun Af hp => ?_
    refine gdi hp fun Bf hp => ?_
    obtain ⟨Cf, za, hp⟩ := bsome hp
    obtain ⟨Vb, Aa, wb, za⟩ := idx_some za
    refine ⟨Vb, (by first | exact Aa | (rw [B.slLen]; exact Aa)), (by first | exact wb | (rw [B.slLen]; exact wb)), ?_⟩
    obtain ⟨Ja, Df, Ef, Y, Ka⟩ := B.setP pf (a' := (min (100 : Int) (u + ((wrapZ .i64 more) / (8 : Int))))) za [(Il Cf)] (fun _ h => h) 0 [(Il (min (100 : Int) (u + ((wrapZ .i64 more) / (8 : Int)))))] (Nat.le_of_ble_eq_true rfl) rfl
    have xb : Int.toNat ((wrapZ .i64 more) % (o.length : Int)) = Vb := by rw [Aa]; rfl
    rw [← xb] at Ka
    have Mj := Aa
    have Ff : (o.set (Int.toNat ((wrapZ .i64 more) % (o.length : Int))) (min (100 : Int) (u + ((wrapZ .i64 more) / (8 : Int)))))[Vb]? = some (min (100 : Int) (u + ((wrapZ .i64 more) / (8 : Int)))) := (congrArg (fun z => (o.set z (min (100 : Int) (u + ((wrapZ .i64 more) / (8 : Int)))))[Vb]?) xb).trans (List.getElem?_set_self (List.getElem?_eq_some_iff.1 za).1)
    have Nj := (List.getElem?_eq_some_iff.1 Ff).1
    have Gf := qf.k Y
    have Hf := rf.k Y
    have If := sf.k Y
    have Jf := tf.k Y
    have Kf := uf.k Y
    have Lf := wf.k Y
    have e := e.k Y
    have b := b.k Y
    refine ⟨Ja, (by rw [← B.add0 za]; exact Df), ?_⟩
    intro kl Mf
    obtain ⟨Vj, Nf, J, yb⟩ := Ef.growK Mf nf 10
    have Pf := Gf.k J
    have Qf := Hf.k J
    have Rf := If.k J
    have Sf := Jf.k J
    have Wb := Kf.k J
    have Tf := Lf.k J
    have e := e.k J
    have b := b.k J
    have Ka := Ka.k J
    have Uf := yb 0 (by decide)
    have Vf := yb 1 (by decide)
    refine ⟨trivial, _, Wb.bk.rc rfl, ?_⟩
    obtain ⟨Wf, Xf, y, la⟩ := Ka.freeze Nf
    have Yf := Pf.k y
    have Zf := Qf.k y
    have ag := Rf.k y
    have bg := Sf.k y
    have Xb := Wb.k y
    have gb := Tf.k y
    have cg := Uf.k y
    have dg := Vf.k y
    have e := e.k y
    have b := b.k y
    obtain ⟨eg, hp⟩ := gd_some hp
    intro ll hb
    refine ⟨(by rw [show cmC _ = true from cmC_of (e.noFn)]; exact (Xb.bk.ext (Bk.new hb).2).rc rfl), ?_⟩
    obtain ⟨ib, fg, Wj, gg, hg, N, q⟩ := e.app' ta22 Xf (a := (o.set (Int.toNat ((wrapZ .i64 more) % (o.length : Int))) (min (100 : Int) (u + ((wrapZ .i64 more) / (8 : Int)))))) (show Rp.rep (α := List Int) Wf _ (o.set (Int.toNat ((wrapZ .i64 more) % (o.length : Int))) (min (100 : Int) (u + ((wrapZ .i64 more) / (8 : Int))))) from ⟨_, rfl, la⟩) eg hb
    have ig := Yf.k N
    have jg := Zf.k N
    have kg := ag.k N
    have lg := bg.k N
    have mg := Xb.k N
    have Yb := gb.k N
    have ng := cg.k N
    have og := dg.k N
    have b := b.k N
    refine ⟨ib, fg, gg, ?_⟩
    refine ⟨trivial, _, Yb.bk.rc rfl, (by rw [show cmC _ = true from cmC_of (b.noFn)]; exact ((gb.nb hb).bk.rc rfl)), (by rw [show cmC _ = true from cmC_of (b.noFn)]; exact (gb.bk.rc rfl)), la.isSl, ⟨la.isSl, rfl⟩, ⟨la.isSl, rfl⟩, ?_⟩
    try rw [la.slLen]
    try rw [la.slLen]
    obtain ⟨Xj, hp⟩ := gd_some hp
    obtain ⟨Na, zb⟩ : ∃ n : Nat, ((o.set (Int.toNat ((wrapZ .i64 more) % (o.length : Int))) (min (100 : Int) (u + ((wrapZ .i64 more) / (8 : Int))))).length : Int) = (n : Int) := ⟨Int.toNat ((o.set (Int.toNat ((wrapZ .i64 more) % (o.length : Int))) (min (100 : Int) (u + ((wrapZ .i64 more) / (8 : Int))))).length : Int), by omega⟩
    have Fc : Int.toNat ((o.set (Int.toNat ((wrapZ .i64 more) % (o.length : Int))) (min (100 : Int) (u + ((wrapZ .i64 more) / (8 : Int))))).length : Int) = Na := by omega
    refine ⟨Na, Na, zb, zb, Nat.le_refl _, (by omega), ?_⟩
    intro ml pg
    obtain ⟨qg, O, rg⟩ := ng.set hg pg
    have jb := rg.mkI' Fc
    have sg := ig.k O
    have tg := jg.k O
    have ug := kg.k O
    have vg := lg.k O
    have Zb := mg.k O
    have ac := Yb.k O
    have wg := og.k O
    have b := b.k O
    have q := q.k O
    refine ⟨(by rw [show cmC _ = true from cmC_of (b.noFn)]; exact (ac.bk.rc rfl)), (by rw [show cmC _ = true from cmC_of (e.noFn)]; exact (Zb.bk.rc rfl)), ?_⟩
    intro nl xg
    obtain ⟨zg, P, Ag⟩ := wg.set qg xg
    have Bg := sg.k P
    have Cg := tg.k P
    have Dg := ug.k P
    have Eg := vg.k P
    have bc := Zb.k P
    have cc := ac.k P
    have b := b.k P
    have q := q.k P
    have jb := jb.k P
    refine ⟨(by rw [show cmC _ = true from cmC_of (b.noFn)]; exact (cc.bk.rc rfl)), (by rw [show cmC _ = true from cmC_of (e.noFn)]; exact (bc.bk.rc rfl)), ?_⟩
    obtain ⟨Yj, Fg, D, Gg⟩ := jb.freeze zg
    have Hg := Bg.k D
    have Ig := Cg.k D
    have Jg := Dg.k D
    have Kg := Eg.k D
    have Lg := bc.k D
    have Mg := cc.k D
    have Ng := Ag.k D
    have b := b.k D
    have q := q.k D
    obtain ⟨kb, Og, F, Gc⟩ := Ng.freeze Fg
    have Pg := Hg.k F
    have Qg := Ig.k F
    have Sg := Jg.k F
    have Tg := Kg.k F
    have Ug := Lg.k F
    have Vg := Mg.k F
    have b := b.k F
    have q := q.k F
    have Wg : Sl kb (C.sl (Ja.nxt + 1) 0 1 0 (Option.some 1)) ([(List.replicate (Int.toNat ((o.set (Int.toNat ((wrapZ .i64 more) % (o.length : Int))) (min (100 : Int) (u + ((wrapZ .i64 more) / (8 : Int))))).length : Int)) (0 : Int))] : List (List Int)) := Bk.sl (α := List Int) (l := ([(List.replicate (Int.toNat ((o.set (Int.toNat ((wrapZ .i64 more) % (o.length : Int))) (min (100 : Int) (u + ((wrapZ .i64 more) / (8 : Int))))).length : Int)) (0 : Int))] : List (List Int))) Gc (show Cat (α := List Int) kb [(.sl (Ja.nxt + 0) 0 Na 0 (some Na))] ([(List.replicate (Int.toNat ((o.set (Int.toNat ((wrapZ .i64 more) % (o.length : Int))) (min (100 : Int) (u + ((wrapZ .i64 more) / (8 : Int))))).length : Int)) (0 : Int))] : List (List Int)) from ⟨[(.sl (Ja.nxt + 0) 0 Na 0 (some Na))], _, rfl, ⟨_, rfl, (Gg.sub F.fs)⟩, rfl⟩) rfl rfl _
    obtain ⟨Xg, hp⟩ := gd_some hp
    obtain ⟨mb, Zg, ah, bh, ch, aa, Ba⟩ := b.appL ta22 Og Wg Xg
    have dh := Pg.k aa
    have eh := Qg.k aa
    have fh := Sg.k aa
    have gh := Tg.k aa
    have hh := Ug.k aa
    have ih := Vg.k aa
    have q := q.k aa
    refine ⟨mb, Zg, bh, ?_⟩
    refine ⟨trivial, ?_⟩
    obtain ⟨jh, kh, lh, ba, ob⟩ := hh.sto1 ch 1 ib (by simp) rfl
    replace ob : Lb _ _ _ _ _ _ _ [(Il ia), ib, ca102, ca103] := ob
    have mh := dh.k ba
    have nh := eh.k ba
    have oh := fh.k ba
    have ph := gh.k ba
    have qh := ih.k ba
    have q := q.k ba
    have Ba := Ba.k ba
    refine ⟨jh, kh, ?_⟩
    refine ⟨trivial, ?_⟩
    obtain ⟨rh, th, uh, ca, pb⟩ := qh.sto1 lh 1 mb (by simp) rfl
    replace pb : Lb _ _ _ _ _ _ _ [(Il ja), mb, ca102, ca103] := pb
    have vh := mh.k ca
    have wh := nh.k ca
    have xh := oh.k ca
    have yh := ph.k ca
    have zh := ob.k ca
    have q := q.k ca
    have Ba := Ba.k ca
    refine ⟨rh, th, ?_⟩
    refine gdi hp fun Ah hp => ?_
    exact df _ _ _ _ _ _ _ _ kb ah uh (Sub.trans (Sub.trans (Sub.trans (Sub.trans j I.fs) y.fs) D.fs) F.fs) vh wh xh yh zh pb q Ba hp
   refine ⟨_, _, _, _, T.bk.ra, ?_⟩
   obtain ⟨Bh, Ch, hp⟩ := bsome hp
   refine s_lSeason (s := s) ka.pre (ha101.sub j) (ha102.sub j) (ha103.sub j) Ch fun Ik Zj ak ck dk Dh Eh Fh Gh => ?_
   obtain ⟨dc, p⟩ := ka.callG Dh d
   have Hh := T.k p
   have ec := ha.k p
   have Ih := va.k p
   have Jh := wa.k p
   have Kh := Z.k p
   have e := e.k p
   have b := b.k p
   refine ⟨_, _, _, _, rfl, _, _, _, ec.bk.ra, (ha.bk.ra), ?_⟩
   obtain ⟨Lh, Mh, hp⟩ := bsome hp
   refine s_lTruth (t := g) dc.pre  Mh fun Jk Nh => ?_
   obtain ⟨fc, da⟩ := dc.call Nh d
   have Oh := Hh.k da
   have Ph := ec.k da
   have Qh := Ih.k da
   have Rh := Jh.k da
   have Sh := Kh.k da
   have e := e.k da
   have b := b.k da
   refine ⟨_, _, _, rfl, ?_⟩
   try rw [ha102.slLen]
   obtain ⟨ek, Th, hp⟩ := bsome hp
   refine s_Harvest (s := Bh) (field := ((wrapZ .i64 which) % (s.Fields.length : Int))) (t := Lh) fc.pre Eh Fh Gh Th fun Kk Uh => ?_
   obtain ⟨gc, ea⟩ := fc.call Uh d
   have hc := Oh.k ea
   have Vh := Ph.k ea
   have ic := Qh.k ea
   have Wh := Rh.k ea
   have Xh := Sh.k ea
   have e := e.k ea
   have b := b.k ea
   refine ⟨_, rfl, _, _, _, _, hc.bk.ra, ?_⟩
   obtain ⟨Yh, Zh, hp⟩ := bsome hp
   refine s_lSeason (s := s) gc.pre (ha101.sub (Sub.trans j p.fs)) (ha102.sub (Sub.trans j p.fs)) (ha103.sub (Sub.trans j p.fs)) Zh fun Lk fk gk hk ik ai bi ci di => ?_
   obtain ⟨jc, r⟩ := gc.callG ai d
   have ei := hc.k r
   have fi := Vh.k r
   have gi := ic.k r
   have hi := Wh.k r
   have ii := Xh.k r
   have e := e.k r
   have b := b.k r
   refine ⟨_, _, _, _, rfl, _, _, _, gi.bk.ra, (ic.bk.ra), ?_⟩
   obtain ⟨ji, ki, hp⟩ := bsome hp
   refine s_lTruth (t := ({ Week := g.Week, Damage := (min i.Damage.Hi (g.Damage + ((wrapZ .i64 more) % (9 : Int)))), Old := g.Old } : Trh)) jc.pre  ki fun Mk li => ?_
   obtain ⟨kc, ma⟩ := jc.call li d
   have ni := ei.k ma
   have oi := fi.k ma
   have pi := hi.k ma
   have qi := ii.k ma
   have e := e.k ma
   have b := b.k ma
   refine ⟨_, _, _, rfl, ?_⟩
   try rw [ha102.slLen]
   obtain ⟨jk, ri, hp⟩ := bsome hp
   refine s_Harvest (s := Yh) (field := ((wrapZ .i64 which) % (s.Fields.length : Int))) (t := ji) kc.pre bi ci di ri fun Nk si => ?_
   obtain ⟨ti, na⟩ := kc.call si d
   have ui := ni.k na
   have vi := oi.k na
   have wi := pi.k na
   have xi := qi.k na
   have e := e.k na
   have b := b.k na
   refine ⟨_, rfl, _, _, _, _, wi.bk.ra, ?_⟩
   obtain ⟨kk, lc, A, yi⟩ := e.freeze ti
   have zi := ui.k A
   have nc := vi.k A
   have Ai := xi.k A
   have b := b.k A
   obtain ⟨Bi, Ci, hp⟩ := bsome hp
   refine s_lSeason (s := ({ Last := ia, Rules := xa, Fields := s.Fields, Visits := s.Visits } : Ssn)) lc.pre yi (ha102.sub (Sub.trans (Sub.trans (Sub.trans j p.fs) r.fs) A.fs)) (ha103.sub (Sub.trans (Sub.trans (Sub.trans j p.fs) r.fs) A.fs)) Ci fun Ok mk nk ok pk Di Ei Fi Gi => ?_
   obtain ⟨oc, S⟩ := lc.callG Di d
   have Ii := zi.k S
   have pc := nc.k S
   have Ji := Ai.k S
   have b := b.k S
   refine ⟨_, _, _, _, rfl, _, _, _, pc.bk.ra, (nc.bk.ra), ?_⟩
   obtain ⟨Ki, Ni, hp⟩ := bsome hp
   refine s_lTruth (t := g) oc.pre  Ni fun Qk Oi => ?_
   obtain ⟨qc, La⟩ := oc.call Oi d
   have Pi := Ii.k La
   have Qi := pc.k La
   have Ri := Ji.k La
   have b := b.k La
   refine ⟨_, _, _, rfl, ?_⟩
   try rw [ha102.slLen]
   obtain ⟨qk, Si, hp⟩ := bsome hp
   refine s_Harvest (s := Bi) (field := ((wrapZ .i64 which) % (s.Fields.length : Int))) (t := Ki) qc.pre Ei Fi Gi Si fun Sk Ti => ?_
   obtain ⟨Ui, Ma⟩ := qc.call Ti d
   have Vi := Pi.k Ma
   have Xi := Qi.k Ma
   have Yi := Ri.k Ma
   have b := b.k Ma
   refine ⟨_, rfl, _, _, _, _, Yi.bk.ra, ?_⟩
   obtain ⟨sk, sc, fa, Zi⟩ := b.freeze Ui
   have aj := Vi.k fa
   have tc := Xi.k fa
   obtain ⟨bj, cj, hp⟩ := bsome hp
   refine s_lSeason (s := ({ Last := ja, Rules := ya, Fields := s.Fields, Visits := s.Visits } : Ssn)) sc.pre Zi (ha102.sub (Sub.trans (Sub.trans (Sub.trans (Sub.trans (Sub.trans j p.fs) r.fs) A.fs) S.fs) fa.fs)) (ha103.sub (Sub.trans (Sub.trans (Sub.trans (Sub.trans (Sub.trans j p.fs) r.fs) A.fs) S.fs) fa.fs)) cj fun Tk uk vk wk xk dj ej fj gj => ?_
   obtain ⟨uc, Ca⟩ := sc.callG dj d
   have hj := aj.k Ca
   have vc := tc.k Ca
   refine ⟨_, _, _, _, rfl, _, _, _, vc.bk.ra, (tc.bk.ra), ?_⟩
   obtain ⟨ij, jj, hp⟩ := bsome hp
   refine s_lTruth (t := g) uc.pre  jj fun Uk kj => ?_
   obtain ⟨wc, xc⟩ := uc.call kj d
   have lj := hj.k xc
   have mj := vc.k xc
   refine ⟨_, _, _, rfl, ?_⟩
   try rw [ha102.slLen]
   obtain ⟨yk, nj, hp⟩ := bsome hp
   refine s_Harvest (s := bj) (field := ((wrapZ .i64 which) % (s.Fields.length : Int))) (t := ij) wc.pre ej fj gj nj fun Vk oj => ?_
   obtain ⟨yc, zc⟩ := wc.call oj d
   have Ac := lj.k zc
   have Bc := mj.k zc
   refine ⟨_, rfl, _, _, _, _, Ac.bk.ra, _, _, _, Bc.bk.ra, trivial, _, Ac.bk.rc rfl, ?_⟩
   try rw [ha102.slLen]
   obtain ⟨zk, pj, hp⟩ := bsome hp
   refine s_rSeen (s := s) (field := ((wrapZ .i64 which) % (s.Fields.length : Int))) (t := g) (week := s.Last) yc.pre (ha101.sub (Sub.trans (Sub.trans (Sub.trans (Sub.trans (Sub.trans (Sub.trans j p.fs) r.fs) A.fs) S.fs) fa.fs) Ca.fs)) (ha102.sub (Sub.trans (Sub.trans (Sub.trans (Sub.trans (Sub.trans (Sub.trans j p.fs) r.fs) A.fs) S.fs) fa.fs) Ca.fs)) (ha103.sub (Sub.trans (Sub.trans (Sub.trans (Sub.trans (Sub.trans (Sub.trans j p.fs) r.fs) A.fs) S.fs) fa.fs) Ca.fs)) pj fun Xk qj => ?_
   obtain ⟨G, rj⟩ := yc.call qj d
   have qb := Bc.k rj
   refine ⟨_, rfl, ?_⟩
   refine ifd hp (fun sj hp => ?_) fun sj hp => ?_; rotate_left
   ·obtain rfl := Option.some.inj hp
    exact hq _ G.ext'
   refine ifd hp (fun tj hp => ?_) fun tj hp => ?_; rotate_left
   ·obtain rfl := Option.some.inj hp
    exact hq _ G.ext'
   refine ⟨trivial, _, qb.bk.rc rfl, ?_⟩
   refine ifd hp (fun uj hp => ?_) fun uj hp => ?_; rotate_left
   ·obtain rfl := Option.some.inj hp
    exact hq _ G.ext'
   refine ifd hp (fun vj hp => ?_) fun vj hp => ?_; rotate_left
   ·obtain rfl := Option.some.inj hp
    exact hq _ G.ext'
   refine ⟨trivial, _, qb.bk.rc rfl, ?_⟩
   refine ifd hp (fun wj hp => ?_) fun wj hp => ?_; rotate_left
   ·obtain rfl := Option.some.inj hp
    exact hq _ G.ext'
   refine ifd hp (fun xj hp => ?_) fun xj hp => ?_
   ·obtain ⟨Ak, yj, hp⟩ := bsome hp
    refine s_awake G.pre  yj fun Yk zj => ?_
    obtain ⟨Aj, Ck⟩ := G.call zj d
    refine ⟨_, rfl, ?_⟩
    obtain rfl := Option.some.inj hp
    exact hq _ Aj.ext'
   refine ⟨trivial, _, qb.bk.rc rfl, ?_⟩
   refine gdi hp fun Bj hp => ?_
   refine ifd hp (fun Cj hp => ?_) fun Cj hp => ?_; rotate_left
   ·obtain rfl := Option.some.inj hp
    exact hq _ G.ext'
   obtain ⟨Dk, Dj, hp⟩ := bsome hp
   refine s_awake G.pre  Dj fun Zk Ej => ?_
   obtain ⟨Fj, Ek⟩ := G.call Ej d
   refine ⟨_, rfl, ?_⟩
   obtain rfl := Option.some.inj hp
   exact hq _ Fj.ext'
 exact hgo _ _ _ _ _ _ _ _ _ f ke cf (Sub.refl _) T Fa ha va wa Z (Ow.nil _ _ _ _ _) (Ow.nil _ _ _ _ _) hp
end
end Go.Proofs.YtkkkpgljkfakkaaGreat

namespace Go.Proofs.YtkkkpgljkfakkaaGreat
open _root_.Go.Proofs.Tryz
open Go.Abs Go.Abs.Grow
set_option maxRecDepth 100000
noncomputable section
def Wi (r : Rg) (lo hi : Int) : Prop := lo ≤ r.Lo ∧ r.Lo ≤ r.Hi ∧ r.Hi ≤ hi
def inR (r : Rg) (n : Int) : Prop := r.Lo ≤ n ∧ n ≤ r.Hi
def cnt (r : Rg) : Int := r.Hi - r.Lo + 1
def manyN (f : Fld) : Int := cnt f.Week * cnt f.Damage * cnt f.Old
structure VF (s : Ssn) (f : Fld) : Prop where
 crp : 0 ≤ f.Crop ∧ f.Crop < s.Rules.length
 wk : Wi f.Week 0 s.Last
 dm : Wi f.Damage 0 100
 old : Wi f.Old 0 100
def VV (s : Ssn) (v : Vis) : Prop := (0 ≤ v.Field ∧ v.Field < s.Fields.length) ∧ (0 ≤ v.Week ∧ v.Week ≤ s.Last) ∧ Wi v.Seen 0 100
def VRu (s : Ssn) (l : List Int) : Prop := (l.length : Int) = s.Last + 1 ∧ ∀ x ∈ l, 0 ≤ x ∧ x ≤ 100
def ManyS (s : Ssn) : Prop := 12 < s.Last ∨ 3 < s.Rules.length ∨ 3 < s.Fields.length ∨ 6 < s.Visits.length
structure VS0 (s : Ssn) : Prop where
 last : 0 ≤ s.Last
 rne : 0 < s.Rules.length
 fne : 0 < s.Fields.length
 rules : ∀ l ∈ s.Rules, VRu s l
 flds : ∀ f ∈ s.Fields, VF s f
 vis : ∀ v ∈ s.Visits, VV s v
def FewS (s : Ssn) : Prop := ∀ f ∈ s.Fields, manyN f ≤ 3000
open Classical in
def faultN (s : Ssn) : Int := if ManyS s then 3 else if VS0 s then (if FewS s then 0 else 3) else 1
structure VS (s : Ssn) : Prop extends VS0 s where
 many : ¬ ManyS s
 few : FewS s
theorem fault_zero {s : Ssn} : faultN s = 0 ↔ VS s := by
 unfold faultN
 split
 ·rename_i h; exact ⟨fun h => by omega, fun h' => absurd h h'.many⟩
 ·rename_i h
  split
  ·rename_i h2
   split
   ·rename_i h3; exact ⟨fun _ => ⟨h2, h, h3⟩, fun _ => rfl⟩
   ·rename_i h3; exact ⟨fun h => by omega, fun h' => absurd h'.few h3⟩
  ·rename_i h2; exact ⟨fun h => by omega, fun h' => absurd h'.toVS0 h2⟩
theorem not_many {s : Ssn} (h : ¬ ManyS s) : s.Last ≤ 12 ∧ s.Rules.length ≤ 3 ∧ s.Fields.length ≤ 3 ∧ s.Visits.length ≤ 6 := by
 unfold ManyS at h; omega
theorem In_ev {n lo hi : Int} : Ev (prIn n lo hi) (lo ≤ n ∧ n ≤ hi) := Ev.ite fun _ => Ev.dec Iff.rfl
theorem has_ev {r : Rg} {n : Int} : Ev (phas r n) (inR r n) := Ev.ite fun _ => Ev.dec Iff.rfl
theorem rWithin_ev {r : Rg} {lo hi : Int} : Ev (prWithin r lo hi) (Wi r lo hi) := Ev.ite fun _ => Ev.ite fun _ => Ev.dec Iff.rfl
theorem within_ev {r : Rg} {lo hi : Int} : Ev (pwithin r lo hi) (Wi r lo hi) := Ev.ite fun _ => Ev.ite fun _ => Ev.dec Iff.rfl
theorem isH_ev {n : Int} : Ev (pisHundredths n) (0 ≤ n ∧ n ≤ 100) := has_ev.ret
theorem hasField_ev {s : Ssn} (h : s.Fields.length ≤ 1000000) {n : Int} : Ev (phasField s n) (0 ≤ n ∧ n < s.Fields.length) := Ev.gd (fI (by omega)) (has_ev.ret.imp (by show 0 ≤ n ∧ n ≤ _ - 1 ↔ _; omega))
theorem hasWeek_ev {s : Ssn} {n : Int} : Ev (phasWeek s n) (0 ≤ n ∧ n ≤ s.Last) := has_ev.ret
theorem tooMany_ev {s : Ssn} : Ev (ptooMany s) (ManyS s) := by
 unfold ptooMany ManyS
 by_cases h1 : (12 : Int) < s.Last
 ·rw [if_pos h1]; exact Ev.tt (.inl h1)
 rw [if_neg h1]
 by_cases h2 : (3 : Int) < (s.Rules.length : Int)
 ·rw [if_pos h2]; exact Ev.tt (.inr (.inl (by omega)))
 rw [if_neg h2]
 by_cases h3 : (3 : Int) < (s.Fields.length : Int)
 ·rw [if_pos h3]; exact Ev.tt (.inr (.inr (.inl (by omega))))
 rw [if_neg h3]; exact Ev.dec (by omega)
theorem gI {l : List Int} {p : Int → Option Bool} : ∀ {d : Nat} {x : Int}, pindexI_L0 l p d x = gIdx l p d x
 | 0, _ => rfl
 | d + 1, x => by unfold pindexI_L0 gIdx; simp only [gI (d := d)]
theorem gL {l : List (List Int)} {p : List Int → Option Bool} : ∀ {d : Nat} {x : Int}, pindexL_L0 l p d x = gIdx l p d x
 | 0, _ => rfl
 | d + 1, x => by unfold pindexL_L0 gIdx; simp only [gL (d := d)]
theorem gF {l : List Fld} {p : Fld → Option Bool} : ∀ {d : Nat} {x : Int}, pindexF_L0 l p d x = gIdx l p d x
 | 0, _ => rfl
 | d + 1, x => by unfold pindexF_L0 gIdx; simp only [gF (d := d)]
theorem gV {l : List Vis} {p : Vis → Option Bool} : ∀ {d : Nat} {x : Int}, pindexV_L0 l p d x = gIdx l p d x
 | 0, _ => rfl
 | d + 1, x => by unfold pindexV_L0 gIdx; simp only [gV (d := d)]
theorem eachI_ev {l : List Int} {p : Int → Option Bool} {q : Int → Prop} (hp : ∀ a ∈ l, Ev (p a) (q a)) (hl : shrt l) : Ev (peachI l p) (∀ a ∈ l, q a) := Ev.each hp hl.lt gI
theorem eachL_ev {l : List (List Int)} {p : List Int → Option Bool} {q : List Int → Prop} (hp : ∀ a ∈ l, Ev (p a) (q a)) (hl : shrt l) : Ev (peachL l p) (∀ a ∈ l, q a) := Ev.each hp hl.lt gL
theorem eachF_ev {l : List Fld} {p : Fld → Option Bool} {q : Fld → Prop} (hp : ∀ a ∈ l, Ev (p a) (q a)) (hl : shrt l) : Ev (peachF l p) (∀ a ∈ l, q a) := Ev.each hp hl.lt gF
theorem eachV_ev {l : List Vis} {p : Vis → Option Bool} {q : Vis → Prop} (hp : ∀ a ∈ l, Ev (p a) (q a)) (hl : shrt l) : Ev (peachV l p) (∀ a ∈ l, q a) := Ev.each hp hl.lt gV
theorem cnt_rng {r : Rg} {lo hi : Int} (h : Wi r lo hi) : 1 ≤ cnt r ∧ cnt r ≤ hi - lo + 1 := by unfold Wi at h; unfold cnt; omega
theorem count_eq {r : Rg} (h : Wi r (-1000) 1000) : pcount r = some (cnt r) := by
 unfold Wi at h
 unfold pcount
 rw [gd_pos (fI (by omega)), gd_pos (fI (by omega))]; rfl
theorem rCount_eq {r : Rg} (h : Wi r (-1000) 1000) : prCount r = some (cnt r) := by
 unfold Wi at h
 unfold prCount
 rw [gd_pos (fI (by omega)), gd_pos (fI (by omega))]; rfl
theorem Wi.w {r : Rg} {lo hi : Int} (h : Wi r lo hi) (h1 : -1000 ≤ lo) (h2 : hi ≤ 1000) : Wi r (-1000) 1000 := by unfold Wi at h ⊢; omega
theorem mul_rng {a b A B : Int} (ha : 1 ≤ a ∧ a ≤ A) (hb : 1 ≤ b ∧ b ≤ B) : 1 ≤ a * b ∧ a * b ≤ A * B := by
 have h1 : 1 * 1 ≤ a * b := Int.mul_le_mul ha.1 hb.1 (by omega) (by omega)
 have h2 : a * b ≤ A * B := Int.mul_le_mul ha.2 hb.2 (by omega) (by omega)
 omega
theorem many_rng {s : Ssn} {f : Fld} (h : VF s f) (hl : s.Last ≤ 12) : (1 ≤ cnt f.Week ∧ cnt f.Week ≤ 13) ∧ (1 ≤ cnt f.Damage ∧ cnt f.Damage ≤ 101) ∧ (1 ≤ cnt f.Old ∧ cnt f.Old ≤ 101) ∧ (1 ≤ cnt f.Week * cnt f.Damage ∧ cnt f.Week * cnt f.Damage ≤ 1313) ∧ 1 ≤ manyN f ∧ manyN f ≤ 132613 := by
 have h1 := cnt_rng h.wk
 have h2 := cnt_rng h.dm
 have h3 := cnt_rng h.old
 have h4 := mul_rng (A := 13) (B := 101) (a := cnt f.Week) (b := cnt f.Damage) (by omega) (by omega)
 have h5 := mul_rng (A := 1313) (B := 101) (a := cnt f.Week * cnt f.Damage) (b := cnt f.Old) (by omega) (by omega)
 exact ⟨by omega, by omega, by omega, by omega, by unfold manyN; omega⟩
theorem rMany_eq {s : Ssn} {f : Fld} (h : VF s f) (hl : s.Last ≤ 12) : prMany f = some (manyN f) := by
 obtain ⟨h1, h2, h3, h4, h5⟩ := many_rng h hl
 unfold prMany
 unfold manyN at h5 ⊢
 rw [rCount_eq (h.wk.w (by omega) (by omega)), obs, rCount_eq (h.dm.w (by omega) (by omega)), obs, gd_pos (by omega), gd_pos (by omega), gd_pos (fI (by omega)), rCount_eq (h.old.w (by omega) (by omega)), obs, gd_pos (by omega), gd_pos (by omega), gd_pos (fI (by omega))]
theorem hasFew_ev {s : Ssn} {f : Fld} (h : VF s f) (hl : s.Last ≤ 12) : Ev (phasFew f) (manyN f ≤ 3000) := by
 obtain ⟨h1, h2, h3, h4, h5⟩ := many_rng h hl
 unfold phasFew
 unfold manyN at h5 ⊢
 rw [count_eq (h.wk.w (by omega) (by omega)), obs, count_eq (h.dm.w (by omega) (by omega)), obs, gd_pos (by omega), gd_pos (by omega), gd_pos (fI (by omega)), count_eq (h.old.w (by omega) (by omega)), obs, gd_pos (by omega), gd_pos (by omega), gd_pos (fI (by omega))]
 exact Ev.dec Iff.rfl
theorem validRule_ev {s : Ssn} (h : ¬ ManyS s) (h0 : 0 ≤ s.Last) {l : List Int} : Ev (pvalidRule s l) (VRu s l) := by
 obtain ⟨h1, _⟩ := not_many h
 exact Ev.gd (fI (by omega)) (Ev.ite fun hl => (eachI_ev (q := fun r => 0 ≤ r ∧ r ≤ 100) (fun _ _ => isH_ev) (fewS (n := 13) (by omega) (by omega))).ret)
theorem validField_ev {s : Ssn} (h : ¬ ManyS s) {f : Fld} : Ev (pvalidField s f) (VF s f) := by
 obtain ⟨_, h1, _⟩ := not_many h
 refine Ev.gd (fI (by omega)) ((Ev.and has_ev fun _ => Ev.and within_ev fun _ => Ev.and within_ev fun _ => within_ev.ret).imp ?_)
 exact ⟨fun ⟨a, b, c, d⟩ => ⟨by unfold inR at a; dsimp only at a; omega, b, c, d⟩, fun q => ⟨by have := q.crp; show 0 ≤ _ ∧ _ ≤ _ - 1; omega, q.wk, q.dm, q.old⟩⟩
theorem validVisit_ev {s : Ssn} (h : ¬ ManyS s) {v : Vis} : Ev (pvalidVisit s v) (VV s v) := by
 obtain ⟨_, _, h1, _⟩ := not_many h
 exact Ev.and (hasField_ev (by omega)) fun _ => Ev.and hasWeek_ev fun _ => within_ev.ret
theorem valid_ev {s : Ssn} (h : ¬ ManyS s) : Ev (pvalid s) (VS0 s) := by
 obtain ⟨h1, h2, h3, h4⟩ := not_many h
 refine (Ev.ite fun q1 => Ev.ite fun q2 => Ev.ite fun q3 => Ev.and (eachL_ev (fun _ _ => validRule_ev h q1) (fewS h2 (by omega))) fun _ => Ev.and (eachF_ev (fun _ _ => validField_ev h) (fewS h3 (by omega))) fun _ => (eachV_ev (fun _ _ => validVisit_ev h) (fewS h4 (by omega))).ret).imp ?_
 exact ⟨fun ⟨a, b, c, d, e, g⟩ => ⟨a, by omega, by omega, d, e, g⟩, fun q => ⟨q.last, by have := q.rne; omega, by have := q.fne; omega, q.rules, q.flds, q.vis⟩⟩
theorem check_eq {s : Ssn} : pcheck s = some (faultN s) := by
 unfold pcheck faultN
 refine tooMany_ev.pick (fun h => ?_) fun h => ?_
 ·rw [if_pos rfl, if_pos h]
 ·rw [if_neg (by simp), if_neg h]
  obtain ⟨h1, h2, h3, h4⟩ := not_many h
  refine (valid_ev h).pick (fun hv => ?_) fun hv => ?_
  ·rw [if_pos rfl, if_pos hv]
   refine (eachF_ev (q := fun f => manyN f ≤ 3000) (fun f hf => hasFew_ev (hv.flds f hf) h1) (fewS h3 (by omega))).pick (fun hf => ?_) fun hf => ?_
   ·rw [if_pos rfl, if_pos (show FewS s from hf)]
   ·rw [if_neg (by simp), if_neg (show ¬ FewS s from hf)]
  ·rw [if_neg (by simp), if_neg hv]
theorem rIsRule_ev {s : Ssn} (h : ¬ ManyS s) (h0 : 0 ≤ s.Last) {l : List Int} (hl : l.length ≤ 9223372036854775807) : Ev (prIsRule s l) (VRu s l) := by
 obtain ⟨h1, _⟩ := not_many h
 refine (Ev.loopE (l := l) (F := prIsRule_L0 s l) (ok := fun x => 0 ≤ x ∧ x ≤ 100) (fin := some (decide ((l.length : Int) = s.Last + 1))) (P := (l.length : Int) = s.Last + 1) (fun d k a ha => ?_) (fun d => ?_) (Nat.lt_succ_self _) fun _ => Ev.dec Iff.rfl).imp ⟨fun h => ⟨h.2, h.1⟩, fun h => ⟨h.2, h.1⟩⟩
 ·have hk := (List.getElem?_eq_some_iff.1 ha).1
  rw [prIsRule_L0, if_pos (by omega), idx_at ha, obs]
  exact In_ev.step (by rw [if_pos rfl, gd_pos (fI (by omega))]) (by rw [if_neg (by simp)])
 ·rw [prIsRule_L0, if_neg (Int.lt_irrefl _), gd_pos (fI (by omega))]
open Classical in
theorem fault_L3 {s : Ssn} (h : ¬ ManyS s) (hv : VS0 s) : prFault_L3 s 1000000 0 = some (if FewS s then 0 else 3) := by
 obtain ⟨h1, h2, h3, h4⟩ := not_many h
 have key := loop_each (l := s.Fields) (F := prFault_L3 s) (ok := fun f => manyN f ≤ 3000) (bad := some 3) (fin := some 0) (fun d k f hf => by
  have hk := (List.getElem?_eq_some_iff.1 hf).1
  have hvf := hv.flds f (List.mem_of_getElem? hf)
  rw [prFault_L3, if_pos (by omega), idx_at hf, obs, rMany_eq hvf h1, obs]
  constructor
  ·intro hm; rw [if_neg (by omega), gd_pos (fI (by omega))]
  ·intro hm; rw [if_pos (by omega)]) (fun d => by rw [prFault_L3, if_neg (Int.lt_irrefl _)]) (d := 1000000) (by omega)
 by_cases hf : FewS s
 ·rw [if_pos hf]; exact key.1 hf
 ·rw [if_neg hf]; exact key.2 hf
theorem fault_L2 {s : Ssn} (h : ¬ ManyS s) {x : Int} : ((∀ v ∈ s.Visits, VV s v) → prFault_L2 s 1000000 x 0 = prFault_L3 s 1000000 0) ∧ (¬ (∀ v ∈ s.Visits, VV s v) → prFault_L2 s 1000000 x 0 = some 1) := by
 obtain ⟨h1, h2, h3, h4⟩ := not_many h
 refine loop_each (l := s.Visits) (F := fun d y => prFault_L2 s d x y) (fun d k v hg => ?_) (fun d => by rw [prFault_L2, if_neg (Int.lt_irrefl _)]) (by omega)
 have hk := (List.getElem?_eq_some_iff.1 hg).1
 rw [prFault_L2, if_pos (by omega), idx_at hg, obs, gd_pos (fI (by omega))]
 have e : VV s v ↔ ((0 ≤ v.Field ∧ v.Field ≤ (s.Fields.length : Int) - 1) ∧ (0 ≤ v.Week ∧ v.Week ≤ s.Last) ∧ Wi v.Seen 0 100) := by unfold VV; rw [show (v.Field < (s.Fields.length : Int) ↔ v.Field ≤ (s.Fields.length : Int) - 1) by omega]
 rw [e]
 obtain ⟨b1, g1, g2⟩ := In_ev (n := v.Field) (lo := 0) (hi := (s.Fields.length : Int) - 1)
 obtain ⟨b2, g3, g4⟩ := In_ev (n := v.Week) (lo := 0) (hi := s.Last)
 obtain ⟨b3, g5, g6⟩ := rWithin_ev (r := v.Seen) (lo := 0) (hi := 100)
 rw [g1, g3, g5, ← g2, ← g4, ← g6]
 simp only [obs]
 cases b1 <;> cases b2 <;> cases b3 <;> simp only [if_true, Bool.false_eq_true, if_false, and_false, and_true, not_true_eq_false, not_false_eq_true, false_implies, true_implies, and_self] <;> first | exact trivial | (rw [gd_pos (fI (by omega))])
theorem fault_L1 {s : Ssn} (h : ¬ ManyS s) {x : Int} : ((∀ f ∈ s.Fields, VF s f) → prFault_L1 s 1000000 x 0 = prFault_L2 s 1000000 x 0) ∧ (¬ (∀ f ∈ s.Fields, VF s f) → prFault_L1 s 1000000 x 0 = some 1) := by
 obtain ⟨h1, h2, h3, h4⟩ := not_many h
 refine loop_each (l := s.Fields) (F := fun d y => prFault_L1 s d x y) (fun d k f hg => ?_) (fun d => by rw [prFault_L1, if_neg (Int.lt_irrefl _)]) (by omega)
 have hk := (List.getElem?_eq_some_iff.1 hg).1
 rw [prFault_L1, if_pos (by omega), idx_at hg, obs, gd_pos (fI (by omega))]
 have e : VF s f ↔ ((0 ≤ f.Crop ∧ f.Crop ≤ (s.Rules.length : Int) - 1) ∧ Wi f.Week 0 s.Last ∧ Wi f.Damage 0 100 ∧ Wi f.Old 0 100) := ⟨fun q => ⟨by have := q.crp; omega, q.wk, q.dm, q.old⟩, fun q => ⟨by have := q.1; omega, q.2.1, q.2.2.1, q.2.2.2⟩⟩
 rw [e]
 obtain ⟨b1, g1, g2⟩ := In_ev (n := f.Crop) (lo := 0) (hi := (s.Rules.length : Int) - 1)
 obtain ⟨b2, g3, g4⟩ := rWithin_ev (r := f.Week) (lo := 0) (hi := s.Last)
 obtain ⟨b3, g5, g6⟩ := rWithin_ev (r := f.Damage) (lo := 0) (hi := 100)
 obtain ⟨b4, g7, g8⟩ := rWithin_ev (r := f.Old) (lo := 0) (hi := 100)
 rw [g1, g3, g5, g7, ← g2, ← g4, ← g6, ← g8]
 simp only [obs]
 cases b1 <;> cases b2 <;> cases b3 <;> cases b4 <;> simp only [if_true, Bool.false_eq_true, if_false, and_false, and_true, not_true_eq_false, not_false_eq_true, false_implies, true_implies, and_self] <;> first | exact trivial | (rw [gd_pos (fI (by omega))])
theorem rFault_eq {s : Ssn} (hR : ∀ l ∈ s.Rules, l.length ≤ maxLen) : prFault s = some (faultN s) := by
 unfold prFault faultN
 by_cases hm : ManyS s
 ·rw [if_pos hm]
  unfold ManyS at hm
  by_cases h1 : (12 : Int) < s.Last
  ·rw [if_pos h1]
  rw [if_neg h1]
  by_cases h2 : (3 : Int) < (s.Rules.length : Int)
  ·rw [if_pos h2]
  rw [if_neg h2]
  by_cases h3 : (3 : Int) < (s.Fields.length : Int)
  ·rw [if_pos h3]
  rw [if_neg h3, if_pos (by omega)]
 obtain ⟨h1, h2, h3, h4⟩ := not_many hm
 rw [if_neg hm, if_neg (by omega), if_neg (by omega), if_neg (by omega), if_neg (by omega)]
 by_cases q1 : s.Last < 0
 ·rw [if_pos q1, if_neg fun hv => by have := hv.last; omega]
 rw [if_neg q1]
 by_cases q2 : (s.Rules.length : Int) = 0
 ·rw [if_pos q2, if_neg fun hv => by have := hv.rne; omega]
 rw [if_neg q2]
 by_cases q3 : (s.Fields.length : Int) = 0
 ·rw [if_pos q3, if_neg fun hv => by have := hv.fne; omega]
 rw [if_neg q3]
 have key := loop_each (l := s.Rules) (F := fun d y => prFault_L0 s d 0 y) (ok := VRu s) (bad := some 1) (fin := prFault_L1 s 1000000 0 0) (fun d k l hg => by
  have hk := (List.getElem?_eq_some_iff.1 hg).1
  rw [prFault_L0, if_pos (by omega), idx_at hg, obs]
  exact (rIsRule_ev hm (by omega) (l := l) (by have := hR l (List.mem_of_getElem? hg); unfold maxLen at this; omega)).step (by rw [if_pos rfl, gd_pos (fI (by omega))]) (by rw [if_neg (by simp)])) (fun d => by rw [prFault_L0, if_neg (Int.lt_irrefl _)]) (d := 1000000) (by omega)
 by_cases r1 : ∀ l ∈ s.Rules, VRu s l
 ·rw [key.1 r1]
  by_cases r2 : ∀ f ∈ s.Fields, VF s f
  ·rw [(fault_L1 hm).1 r2]
   by_cases r3 : ∀ v ∈ s.Visits, VV s v
   ·have hv : VS0 s := ⟨by omega, by omega, by omega, r1, r2, r3⟩
    rw [(fault_L2 hm).1 r3, fault_L3 hm hv, if_pos hv]
   ·rw [(fault_L2 hm).2 r3, if_neg fun hv => r3 hv.vis]
  ·rw [(fault_L1 hm).2 r2, if_neg fun hv => r2 hv.flds]
 ·rw [key.2 r1, if_neg fun hv => r1 hv.rules]
end
end Go.Proofs.YtkkkpgljkfakkaaGreat

namespace Go.Proofs.YtkkkpgljkfakkaaGreat
open _root_.Go.Proofs.Tryz
open Go.Abs Go.Abs.Grow
set_option maxRecDepth 100000
noncomputable section
def fldAt (s : Ssn) (k : Int) : Fld := (s.Fields[k.toNat]?).getD ⟨0, ⟨0, 0⟩, ⟨0, 0⟩, ⟨0, 0⟩⟩
def ruleOf (s : Ssn) (crop : Int) : List Int := (s.Rules[crop.toNat]?).getD []
def FieldOk (s : Ssn) (k : Int) : Prop := 0 ≤ k ∧ k < s.Fields.length
theorem fld_at {s : Ssn} {k : Int} (h : FieldOk s k) : idx s.Fields k = some (fldAt s k) ∧ fldAt s k ∈ s.Fields := by
 unfold FieldOk at h
 have hk : k.toNat < s.Fields.length := by omega
 have e := List.getElem?_eq_getElem hk
 have e2 : fldAt s k = s.Fields[k.toNat] := by unfold fldAt; rw [e]; rfl
 refine ⟨?_, by rw [e2]; exact List.getElem_mem hk⟩
 rw [show k = ((k.toNat : Nat) : Int) by omega, idx_nat]
 rw [show ((k.toNat : Nat) : Int) = k by omega, e2, e]
theorem VS0.vf {s : Ssn} (h : VS0 s) {k : Int} (hk : FieldOk s k) : VF s (fldAt s k) := h.flds _ (fld_at hk).2
theorem rule_at {s : Ssn} (h : VS0 s) {c : Int} (h0 : 0 ≤ c) (h1 : c < s.Rules.length) : idx s.Rules c = some (ruleOf s c) ∧ VRu s (ruleOf s c) := by
 have hk : c.toNat < s.Rules.length := by omega
 have e := List.getElem?_eq_getElem hk
 have e2 : ruleOf s c = s.Rules[c.toNat] := by unfold ruleOf; rw [e]; rfl
 refine ⟨?_, by rw [e2]; exact h.rules _ (List.getElem_mem hk)⟩
 rw [show c = ((c.toNat : Nat) : Int) by omega, idx_nat]
 rw [show ((c.toNat : Nat) : Int) = c by omega, e2, e]
theorem VRu.okR {s : Ssn} {l : List Int} (h : VRu s l) : okR l := h.2
theorem rule_idx {l : List Int} {n : Nat} (h : n < l.length) : idx l (n : Int) = some (l.getD n 0) := by
 rw [idx_nat, List.getD_eq_getElem?_getD, List.getElem?_eq_getElem h]; rfl
def dmg (s : Ssn) (crop : Int) (t : Trh) (w : Int) : Int := dmgN (ruleOf s crop) t.Week t.Damage w.toNat
def IsT (f : Fld) (t : Trh) : Prop := inR f.Week t.Week ∧ inR f.Damage t.Damage ∧ inR f.Old t.Old
theorem IsT.rng {s : Ssn} {f : Fld} {t : Trh} (h : IsT f t) (hf : VF s f) : (0 ≤ t.Week ∧ t.Week ≤ s.Last) ∧ (0 ≤ t.Damage ∧ t.Damage ≤ 100) ∧ (0 ≤ t.Old ∧ t.Old ≤ 100) := by
 obtain ⟨h1, h2, h3⟩ := h
 have a := hf.wk; have b := hf.dm; have c := hf.old
 unfold Wi at a b c; unfold inR at h1 h2 h3
 omega
theorem rDamage_go {s : Ssn} (h : VS0 s) (hl : s.Last ≤ 12) {c : Int} (h0 : 0 ≤ c) (h1 : c < s.Rules.length) {t : Trh} (ht : 0 ≤ t.Week) (hd : 0 ≤ t.Damage ∧ t.Damage ≤ 100) : ∀ (d n : Nat), (n : Int) ≤ s.Last → ((n : Int) - t.Week).toNat + 2 ≤ d → prDamage_F d s c t n = some (dmgN (ruleOf s c) t.Week t.Damage n)
 | 0, n, _, hn => by omega
 | d + 1, n, hn, hd' => by
  obtain ⟨e1, e2⟩ := rule_at h h0 h1
  unfold prDamage_F
  by_cases hw : (n : Int) < t.Week
  ·rw [if_pos hw, dmg_before n hw]
  rw [if_neg hw]
  by_cases he : (n : Int) = t.Week
  ·rw [if_pos he, dmg_at he.symm]
  rw [if_neg he]
  cases n with
  | zero => omega
  | succ n =>
   have hlen := e2.1
   have ih := rDamage_go h hl h0 h1 ht hd d n (by omega) (by omega)
   have hr := e2.okR.at (n + 1)
   have hg := dmg_rng (r := ruleOf s c) (w := t.Week) e2.okR hd.1 n
   have hs := step_rng hg.1 hr.1 hr.2
   have hm := Int.mul_nonneg hg.1 hr.1
   have hm2 := Int.mul_le_mul hg.2 hr.2 hr.1 hd.1
   rw [gd_pos (fI (by omega)), show (((n + 1 : Nat) : Int) - 1) = (n : Int) by omega, ih, obs, e1, obs, rule_idx (by omega), obs]
   show _ = some (if _ then _ else _)
   rw [if_neg (fun hh => he hh.symm)]
   generalize hx : dmgN (ruleOf s c) t.Week t.Damage n = x at *
   generalize hy : (ruleOf s c).getD (n + 1) 0 = r at *
   rw [gd_pos hg.1, gd_pos hr.1]
   generalize hz : x * r = z at *
   rw [gd_pos (fI (by omega)), gd_pos hm, gd_pos (by omega), gd_pos (fI (by omega)), gd_pos (fI (by omega))]
theorem rDamage_eq {s : Ssn} (h : VS0 s) (hl : s.Last ≤ 12) {c : Int} (h0 : 0 ≤ c) (h1 : c < s.Rules.length) {t : Trh} (ht : 0 ≤ t.Week) (hd : 0 ≤ t.Damage ∧ t.Damage ≤ 100) {w : Int} (hw : 0 ≤ w ∧ w ≤ s.Last) : prDamage s c t w = some (dmg s c t w) := by
 have := rDamage_go h hl h0 h1 ht hd ((w - t.Week).toNat + 2) w.toNat (by omega) (by omega)
 rw [show ((w.toNat : Nat) : Int) = w by omega] at this
 exact this
theorem dmg_rng' {s : Ssn} (h : VS0 s) {c : Int} (h0 : 0 ≤ c) (h1 : c < s.Rules.length) {t : Trh} (hd : 0 ≤ t.Damage) (w : Int) : 0 ≤ dmg s c t w ∧ dmg s c t w ≤ t.Damage := dmg_rng (rule_at h h0 h1).2.okR hd _
def mkDm (g : Nat → Int) : Dm := ⟨g 0, g 1, g 2, g 3, g 4, g 5, g 6, g 7, g 8, g 9, g 10, g 11, g 12⟩
def dmL (d : Dm) : List Int := [d.d0, d.d1, d.d2, d.d3, d.d4, d.d5, d.d6, d.d7, d.d8, d.d9, d.d10, d.d11, d.d12]
theorem dmL_get (g : Nat → Int) {k : Nat} (h : k < 13) : (dmL (mkDm g))[k]? = some (g k) := by
 unfold dmL mkDm
 match k, h with
 | 0, _ => rfl
 | 1, _ => rfl
 | 2, _ => rfl
 | 3, _ => rfl
 | 4, _ => rfl
 | 5, _ => rfl
 | 6, _ => rfl
 | 7, _ => rfl
 | 8, _ => rfl
 | 9, _ => rfl
 | 10, _ => rfl
 | 11, _ => rfl
 | 12, _ => rfl
theorem sti_at {g : Nat → Int} {n j : Nat} {v : Int} (hv : v = g n) : sti (n : Int) j v (if j < n then g j else 0) = if j < n + 1 then g j else 0 := by
 unfold sti
 by_cases h : n = j
 ·subst h; rw [if_pos rfl, if_pos (by omega), hv]
 ·rw [if_neg (by omega)]
  by_cases h2 : j < n
  ·rw [if_pos h2, if_pos (by omega)]
  ·rw [if_neg h2, if_neg (by omega)]
theorem grow_go {s : Ssn} (h : VS0 s) (hl : s.Last ≤ 12) {p : Plt} (h0 : 0 ≤ p.crop) (h1 : p.crop < s.Rules.length) (ht : 0 ≤ p.t.Week) (hd : 0 ≤ p.t.Damage ∧ p.t.Damage ≤ 100) (g : Nat → Int) (hg : ∀ n, g n = dmgN (ruleOf s p.crop) p.t.Week p.t.Damage n) :
  ∀ (d n : Nat) (x : Int), n ≤ 13 → 13 - n < d → (x = if n = 0 then 0 else g (n - 1)) → pgrow_L0 s p d (if 0 < n then g 0 else 0) (if 1 < n then g 1 else 0) (if 2 < n then g 2 else 0) (if 3 < n then g 3 else 0) (if 4 < n then g 4 else 0) (if 5 < n then g 5 else 0) (if 6 < n then g 6 else 0) (if 7 < n then g 7 else 0) (if 8 < n then g 8 else 0) (if 9 < n then g 9 else 0) (if 10 < n then g 10 else 0) (if 11 < n then g 11 else 0) (if 12 < n then g 12 else 0) x (n : Int) = some (mkDm g)
 | 0, n, _, _, hn, _ => by omega
 | d + 1, n, x, hn, hd', hx => by
  obtain ⟨e1, e2⟩ := rule_at h h0 h1
  unfold pgrow_L0
  by_cases h13 : n = 13
  ·subst h13
   rw [if_neg (by omega)]
   rfl
  have hlt : n < 13 := by omega
  rw [if_pos (by omega)]
  have ih := fun y hy => grow_go h hl h0 h1 ht hd g hg d (n + 1) y (by omega) (by omega) hy
  have hgo : ∀ v, v = g n → pgrow_L0 s p d (sti (n : Int) 0 v (if 0 < n then g 0 else 0)) (sti (n : Int) 1 v (if 1 < n then g 1 else 0)) (sti (n : Int) 2 v (if 2 < n then g 2 else 0)) (sti (n : Int) 3 v (if 3 < n then g 3 else 0)) (sti (n : Int) 4 v (if 4 < n then g 4 else 0)) (sti (n : Int) 5 v (if 5 < n then g 5 else 0)) (sti (n : Int) 6 v (if 6 < n then g 6 else 0)) (sti (n : Int) 7 v (if 7 < n then g 7 else 0)) (sti (n : Int) 8 v (if 8 < n then g 8 else 0)) (sti (n : Int) 9 v (if 9 < n then g 9 else 0)) (sti (n : Int) 10 v (if 10 < n then g 10 else 0)) (sti (n : Int) 11 v (if 11 < n then g 11 else 0)) (sti (n : Int) 12 v (if 12 < n then g 12 else 0)) v ((n : Int) + 1) = some (mkDm g) := fun v hv => by
   simp only [sti_at hv]
   exact ih v (by rw [if_neg (by omega)]; exact hv)
  by_cases hw : (n : Int) = p.t.Week
  ·rw [if_pos hw, gd_pos (by omega), gd_pos (fI (by omega))]
   exact hgo _ (by rw [hg, dmg_at hw.symm])
  rw [if_neg hw]
  have hgn : g n = x - x * (ruleOf s p.crop).getD n 0 / 100 := by
   cases n with
   | zero =>
    rw [hg, hx, if_pos rfl]
    unfold dmgN
    rw [if_neg (fun hh => hw hh.symm)]; simp
   | succ n =>
    rw [hg, hx, if_neg (by omega), show n + 1 - 1 = n by omega, hg]
    show (if _ then _ else _) = _
    rw [if_neg (fun hh => hw hh.symm)]
  have hxr : 0 ≤ x ∧ x ≤ p.t.Damage := by
   rw [hx]
   split
   ·omega
   ·rw [hg]; exact dmg_rng e2.okR hd.1 _
  by_cases hlast : (n : Int) ≤ s.Last
  ·have hr := e2.okR.at n
   have hlen := e2.1
   have hm := Int.mul_nonneg hxr.1 hr.1
   have hm2 := Int.mul_le_mul hxr.2 hr.2 hr.1 hd.1
   have hs := step_rng hxr.1 hr.1 hr.2
   rw [if_pos hlast, e1, obs, rule_idx (by omega), obs, gd_pos hxr.1, gd_pos hr.1]
   generalize hy : (ruleOf s p.crop).getD n 0 = r at *
   generalize hz : x * r = z at *
   rw [gd_pos (fI (by omega)), gd_pos hm, gd_pos (by omega), gd_pos (fI (by omega)), gd_pos (fI (by omega)), gd_pos (by omega), gd_pos (fI (by omega))]
   exact hgo _ hgn.symm
  ·have hlen := e2.1
   rw [if_neg hlast, gd_pos (by omega), gd_pos (fI (by omega))]
   refine hgo _ ?_
   rw [hgn, List.getD_eq_getElem?_getD, List.getElem?_eq_none (by omega)]
   simp
def dmOf (s : Ssn) (crop : Int) (t : Trh) : Dm := mkDm (dmgN (ruleOf s crop) t.Week t.Damage)
theorem grow_eq {s : Ssn} (h : VS0 s) (hl : s.Last ≤ 12) {p : Plt} (h0 : 0 ≤ p.crop) (h1 : p.crop < s.Rules.length) (ht : 0 ≤ p.t.Week) (hd : 0 ≤ p.t.Damage ∧ p.t.Damage ≤ 100) : pgrow s p = some (dmOf s p.crop p.t) :=
 grow_go h hl h0 h1 ht hd _ (fun _ => rfl) 14 0 0 (by omega) (by omega) rfl
theorem dm_at {s : Ssn} {c : Int} {t : Trh} {w : Int} (hw : 0 ≤ w ∧ w ≤ 12) : idx (dmL (dmOf s c t)) w = some (dmg s c t w) := by
 rw [show w = ((w.toNat : Nat) : Int) by omega, idx_nat]
 exact dmL_get _ (by omega)
def harv (s : Ssn) (crop : Int) (t : Trh) : Int := dmg s crop t s.Last
theorem dm_12 {s : Ssn} (h : VS0 s) (hl : s.Last ≤ 12) {c : Int} (h0 : 0 ≤ c) (h1 : c < s.Rules.length) {t : Trh} (ht : t.Week ≤ s.Last) : dmg s c t 12 = harv s c t := by
 have hv := (rule_at h h0 h1).2.1
 have hla := h.last
 have := dmg_after (r := ruleOf s c) (w := t.Week) (d := t.Damage) (n := s.Last.toNat) (by omega) (by omega) (12 - s.Last.toNat)
 unfold harv dmg
 rw [← this]
 congr 1
 show (12 : Int).toNat = _
 have : (12 : Int).toNat = 12 := rfl
 omega
theorem harvestD_eq {s : Ssn} (h : VS0 s) (hl : s.Last ≤ 12) {c : Int} (h0 : 0 ≤ c) (h1 : c < s.Rules.length) {t : Trh} (ht : t.Week ≤ s.Last) : pharvestD (dmOf s c t) = some (harv s c t) := by
 unfold pharvestD
 have e : idx (dmL (dmOf s c t)) 12 = some (harv s c t) := by rw [dm_at (by omega), dm_12 h hl h0 h1 ht]
 have e' : idx [(dmOf s c t).d0, (dmOf s c t).d1, (dmOf s c t).d2, (dmOf s c t).d3, (dmOf s c t).d4, (dmOf s c t).d5, (dmOf s c t).d6, (dmOf s c t).d7, (dmOf s c t).d8, (dmOf s c t).d9, (dmOf s c t).d10, (dmOf s c t).d11, (dmOf s c t).d12] (12 : Int) = some (harv s c t) := e
 rw [e', obs]
def seenN (s : Ssn) (crop : Int) (t : Trh) (w : Int) : Int := min (t.Old + dmg s crop t w) 100
theorem rSeen_eq {s : Ssn} (h : VS0 s) (hl : s.Last ≤ 12) {k : Int} (hk : FieldOk s k) {t : Trh} (ht : 0 ≤ t.Week) (hd : 0 ≤ t.Damage ∧ t.Damage ≤ 100) (ho : 0 ≤ t.Old ∧ t.Old ≤ 100) {w : Int} (hw : 0 ≤ w ∧ w ≤ s.Last) : prSeen s k t w = some (seenN s (fldAt s k).Crop t w) := by
 have hf := h.vf hk
 have hr := dmg_rng' h hf.crp.1 hf.crp.2 (t := t) hd.1 w
 unfold prSeen
 rw [(fld_at hk).1, obs, rDamage_eq h hl hf.crp.1 hf.crp.2 ht hd hw, obs, gd_pos (fI (by omega))]
 unfold seenN
 rw [Int.min_comm]
theorem isChoice_ev {f : Fld} {t : Trh} : Ev (pisChoice f t) (IsT f t) := Ev.and has_ev fun _ => Ev.and has_ev fun _ => has_ev.ret
end
end Go.Proofs.YtkkkpgljkfakkaaGreat

namespace Go.Proofs.YtkkkpgljkfakkaaGreat
open _root_.Go.Proofs.Tryz
open Go.Abs Go.Abs.Grow
set_option maxRecDepth 100000
noncomputable section
def crs (s : Ssn) (c : Int) (t : Trh) : Crs := ⟨t, dmOf s c t⟩
end
end Go.Proofs.YtkkkpgljkfakkaaGreat

namespace Go.Proofs.YtkkkpgljkfakkaaGreat
open _root_.Go.Proofs.Tryz
open Go.Abs Go.Abs.Grow
set_option maxRecDepth 100000
noncomputable section
open Classical in
theorem follow_eq {s : Ssn} {k : Int} {t : Trh} (h : VS s) : ∃ c, pfollow s k t = some c ∧ (c.2 = true ↔ FieldOk s k ∧ IsT (fldAt s k) t) ∧ (c.2 = true → c.1 = crs s (fldAt s k).Crop t) := by
 obtain ⟨h1, _, h3, _⟩ := not_many h.many
 unfold pfollow
 rw [check_eq, fault_zero.2 h, obs, if_pos rfl]
 obtain ⟨b, hb1, hb2⟩ := hasField_ev (s := s) (n := k) (by omega)
 rw [hb1, obs]
 cases b with
 | false =>
  rw [if_neg (by simp)]
  exact ⟨_, rfl, ⟨fun h => (by cases h), fun hh => (by have := hb2.2 hh.1; cases this)⟩, fun h => by cases h⟩
 | true =>
  have hk := hb2.1 rfl
  have hf := h.vf hk
  rw [if_pos rfl, (fld_at hk).1, obs]
  obtain ⟨b, hc1, hc2⟩ := isChoice_ev (f := fldAt s k) (t := t)
  rw [hc1, obs]
  cases b with
  | false =>
   rw [if_neg (by simp)]
   exact ⟨_, rfl, ⟨fun h => (by cases h), fun hh => (by have := hc2.2 hh.2; cases this)⟩, fun h => by cases h⟩
  | true =>
   have ht := hc2.1 rfl
   obtain ⟨q1, q2, q3⟩ := ht.rng hf
   rw [if_pos rfl, obs, grow_eq h.toVS0 h1 hf.crp.1 hf.crp.2 q1.1 q2, obs]
   exact ⟨_, rfl, ⟨fun _ => ⟨hk, ht⟩, fun _ => rfl⟩, fun _ => rfl⟩
open Classical in
theorem Harvest_eq {s : Ssn} {k : Int} {t : Trh} (h : VS s) : pHarvest s k t = some (if FieldOk s k ∧ IsT (fldAt s k) t then harv s (fldAt s k).Crop t else 0) := by
 obtain ⟨c, h1, h2, h3⟩ := follow_eq (k := k) (t := t) h
 unfold pHarvest
 rw [h1, obs]
 by_cases hc : c.2 = true
 ·have hh := h2.1 hc
  have hf := h.vf hh.1
  rw [if_pos hc, if_pos hh, h3 hc, show pharvestD (crs s (fldAt s k).Crop t).d = _ from harvestD_eq h.toVS0 (not_many h.many).1 hf.crp.1 hf.crp.2 (hh.2.rng hf).1.2, obs]
 ·rw [if_neg hc, if_neg fun hh => hc (h2.2 hh)]
end
end Go.Proofs.YtkkkpgljkfakkaaGreat

namespace Go.Proofs.YtkkkpgljkfakkaaGreat
open _root_.Go.Proofs.Tryz
open Go.Abs Go.Abs.Grow
set_option maxRecDepth 100000
noncomputable section
def nthT (f : Fld) (n : Int) : Trh := ⟨f.Week.Lo + n % cnt f.Week, f.Damage.Lo + n / cnt f.Week % cnt f.Damage, f.Old.Lo + n / cnt f.Week / cnt f.Damage⟩
theorem divlt {n a b : Int} (ha : 0 < a) (h : n < a * b) : n / a < b := by
 rw [Int.mul_comm] at h
 exact (Int.ediv_lt_iff_lt_mul ha).2 h
theorem nth_rng {s : Ssn} {f : Fld} (h : VF s f) (hl : s.Last ≤ 12) {n : Int} (h0 : 0 ≤ n) (hn : n < manyN f) :
  (0 ≤ n % cnt f.Week ∧ n % cnt f.Week < cnt f.Week) ∧ (0 ≤ n / cnt f.Week) ∧ (0 ≤ n / cnt f.Week % cnt f.Damage ∧ n / cnt f.Week % cnt f.Damage < cnt f.Damage) ∧ (0 ≤ n / cnt f.Week / cnt f.Damage ∧ n / cnt f.Week / cnt f.Damage < cnt f.Old) := by
 obtain ⟨h1, h2, h3, _⟩ := many_rng h hl
 unfold manyN at hn
 have e1 : n / cnt f.Week < cnt f.Damage * cnt f.Old := divlt (by omega) (by rw [← Int.mul_assoc]; exact hn)
 have e2 := divlt (by omega) e1
 have p1 := Int.ediv_nonneg h0 (show 0 ≤ cnt f.Week by omega)
 exact ⟨⟨Int.emod_nonneg _ (by omega), Int.emod_lt_of_pos _ (by omega)⟩, p1, ⟨Int.emod_nonneg _ (by omega), Int.emod_lt_of_pos _ (by omega)⟩, Int.ediv_nonneg p1 (by omega), e2⟩
theorem rNth_eq {s : Ssn} {f : Fld} (h : VF s f) (hl : s.Last ≤ 12) {n : Int} (h0 : 0 ≤ n) (hn : n < manyN f) : prNth f n = some (nthT f n) := by
 obtain ⟨h1, h2, h3, _, h5⟩ := many_rng h hl
 obtain ⟨e1, e2, e3, e4⟩ := nth_rng h hl h0 hn
 have a := h.wk; have b := h.dm; have c := h.old
 have p1 : n / cnt f.Week ≤ n := Int.ediv_le_self _ h0
 unfold Wi at a b c
 unfold prNth
 rw [rCount_eq (h.wk.w (by omega) (by omega)), obs, gd_pos h0, gd_pos (by omega), gd_pos (fI (by omega)), gd_pos (fI (by omega)), obs, gd_pos h0, gd_pos (by omega), gd_pos (fI (by omega)), rCount_eq (h.dm.w (by omega) (by omega)), obs, gd_pos e2, gd_pos (by omega), gd_pos (fI (by omega)), gd_pos (fI (by omega)), obs, gd_pos e2, gd_pos (by omega), gd_pos (fI (by omega)), gd_pos (fI (by omega))]
 rfl
theorem nth_isT {s : Ssn} {f : Fld} (h : VF s f) (hl : s.Last ≤ 12) {n : Int} (h0 : 0 ≤ n) (hn : n < manyN f) : IsT f (nthT f n) := by
 obtain ⟨e1, e2, e3, e4⟩ := nth_rng h hl h0 hn
 unfold IsT inR nthT
 dsimp only
 generalize n % cnt f.Week = x1 at *
 generalize n / cnt f.Week % cnt f.Damage = x2 at *
 generalize n / cnt f.Week / cnt f.Damage = x3 at *
 unfold cnt at e1 e3 e4
 omega
end
end Go.Proofs.YtkkkpgljkfakkaaGreat

namespace Go.Proofs.YtkkkpgljkfakkaaGreat
open _root_.Go.Proofs.Tryz
open Go.Abs Go.Abs.Grow
set_option maxRecDepth 100000
noncomputable section
def ThinN (s : Ssn) : Prop := s.Rules.length ≤ 5 ∧ s.Fields.length ≤ 5 ∧ s.Visits.length ≤ 9 ∧ (∀ l ∈ s.Rules, l.length ≤ 20) ∧ (faultN s = 0 → ∀ f ∈ s.Fields, manyN f ≤ 200)
def OkS (s : Ssn) : Prop := ∀ l ∈ s.Rules, l.length ≤ maxLen
theorem okS {s : Ssn} (h : ok_Ssn s) : OkS s := fun l hl => (h.2.1.2 l hl).1
theorem thin_ev {s : Ssn} (hR : OkS s) : Ev (plThin s) (ThinN s) := by
 unfold plThin ThinN
 refine Ev.imp (P := ¬ (5 : Int) < (s.Rules.length : Int) ∧ ¬ (5 : Int) < (s.Fields.length : Int) ∧ ¬ (9 : Int) < (s.Visits.length : Int) ∧ (∀ l ∈ s.Rules, l.length ≤ 20) ∧ (faultN s = 0 → ∀ f ∈ s.Fields, manyN f ≤ 200)) (Ev.itn fun h1 => Ev.itn fun h2 => Ev.itn fun h3 => ?_) ⟨fun ⟨a, b, c, d⟩ => ⟨by omega, by omega, by omega, d⟩, fun ⟨a, b, c, d⟩ => ⟨by omega, by omega, by omega, d⟩⟩
 refine Ev.loopE (l := s.Rules) (F := fun d x => plThin_L0 s d false x) (ok := fun l => l.length ≤ 20) (fin := plThin_L1 s (faultN s) 1000000 0) (fun d k l hl => ?_) (fun d => by rw [plThin_L0, if_neg (Int.lt_irrefl _), rFault_eq hR, obs]) (by omega) fun _ => ?_
 ·have hk := (List.getElem?_eq_some_iff.1 hl).1
  rw [plThin_L0, if_pos (by omega), idx_at hl, obs]
  constructor
  ·intro h; rw [if_neg (by omega), gd_pos (fI (by omega))]
  ·intro h; rw [if_pos (by omega)]
 ·by_cases hf : faultN s = 0
  ·have hv := fault_zero.1 hf
   refine (Ev.loopE (l := s.Fields) (F := plThin_L1 s (faultN s)) (ok := fun f => manyN f ≤ 200) (fin := some true) (P := True) (fun d k f hg => ?_) (fun d => by rw [plThin_L1, if_neg (Int.lt_irrefl _)]) (by omega) fun _ => Ev.tt trivial).imp ⟨fun h _ => h.1, fun h => ⟨h hf, trivial⟩⟩
   have hk := (List.getElem?_eq_some_iff.1 hg).1
   rw [plThin_L1, if_pos (by omega), if_neg (by rw [hf]; simp), idx_at hg, obs, rMany_eq (hv.flds f (List.mem_of_getElem? hg)) (not_many hv.many).1, obs]
   constructor
   ·intro h; rw [if_neg (by omega), gd_pos (fI (by omega))]
   ·intro h; rw [if_pos (by omega)]
  ·refine (Ev.loopE (l := s.Fields) (F := plThin_L1 s (faultN s)) (ok := fun _ => True) (fin := some true) (P := True) (fun d k f hg => ?_) (fun d => by rw [plThin_L1, if_neg (Int.lt_irrefl _)]) (by omega) fun _ => Ev.tt trivial).imp ⟨fun _ h => absurd h hf, fun _ => ⟨fun _ _ => trivial, trivial⟩⟩
   have hk := (List.getElem?_eq_some_iff.1 hg).1
   rw [plThin_L1, if_pos (by omega), if_pos (by rw [decide_eq_false hf]; rfl), gd_pos (fI (by omega))]
   exact ⟨fun _ => rfl, fun h => absurd trivial h⟩
theorem lSeason_eq {s : Ssn} (h : ThinN s) : plSeason s = some s := by
 obtain ⟨h1, h2, h3, h4, _⟩ := h
 have k1 := loopApp0 (l := s.Rules) (F := fun d acc x => plSeason_L0 s d s.Last acc [] [] x) (fun l : List Int => l) (fun acc => plSeason_L1 s acc 1000000 s.Last [] [] 0) (fun d k acc a ha hac => by
  have hk := (List.getElem?_eq_some_iff.1 ha).1
  have := h4 a (List.mem_of_getElem? ha)
  show plSeason_L0 s (d + 1) _ _ _ _ _ = _
  rw [plSeason_L0, if_pos (by omega), idx_at ha, obs]
  unfold plList
  rw [gd_pos (by simp only [List.length_nil]; omega), obs, gd_pos (by omega), gd_pos (fI (by omega))]
  rfl) (fun d acc => by show plSeason_L0 s (d + 1) _ _ _ _ _ = _; rw [plSeason_L0, if_neg (Int.lt_irrefl _)]) (d := 1000000) (by omega)
 have k2 := loopApp0 (l := s.Fields) (F := fun d acc x => plSeason_L1 s s.Rules d s.Last acc [] x) (fun f : Fld => f) (fun acc => plSeason_L2 s s.Rules acc 1000000 s.Last [] 0) (fun d k acc a ha hac => by
  have hk := (List.getElem?_eq_some_iff.1 ha).1
  show plSeason_L1 s _ (d + 1) _ _ _ _ = _
  rw [plSeason_L1, if_pos (by omega), idx_at ha, obs]
  unfold plTo
  rw [obs, obs, obs, gd_pos (by omega), gd_pos (fI (by omega))]) (fun d acc => by show plSeason_L1 s _ (d + 1) _ _ _ _ = _; rw [plSeason_L1, if_neg (Int.lt_irrefl _)]) (d := 1000000) (by omega)
 have k3 := loopApp0 (l := s.Visits) (F := fun d acc x => plSeason_L2 s s.Rules s.Fields d s.Last acc x) (fun f : Vis => f) (fun acc => some ({ s with Visits := acc } : Ssn)) (fun d k acc a ha hac => by
  have hk := (List.getElem?_eq_some_iff.1 ha).1
  show plSeason_L2 s _ _ (d + 1) _ _ _ = _
  rw [plSeason_L2, if_pos (by omega), idx_at ha, obs]
  unfold plTo
  rw [obs, gd_pos (by omega), gd_pos (fI (by omega))]) (fun d acc => by show plSeason_L2 s _ _ (d + 1) _ _ _ = _; rw [plSeason_L2, if_neg (Int.lt_irrefl _)]) (d := 1000000) (by omega)
 unfold plSeason
 refine k1.trans ?_
 rw [List.map_id']
 refine k2.trans ?_
 rw [List.map_id']
 refine k3.trans ?_
 rw [List.map_id']
end
end Go.Proofs.YtkkkpgljkfakkaaGreat

namespace Go.Proofs.YtkkkpgljkfakkaaGreat
open _root_.Go.Proofs.Tryz
open Go.Abs Go.Abs.Grow
set_option maxRecDepth 100000
noncomputable section
theorem ready_ev {s : Ssn} (hR : OkS s) : Ev (plReady s) (ThinN s ∧ VS s) := by
 unfold plReady
 refine Ev.and (thin_ev hR) fun _ => ?_
 rw [rFault_eq hR, obs]
 exact Ev.dec fault_zero
theorem lList_eq {l : List Int} (h : l.length ≤ 1000) : plList l = some l := by
 unfold plList
 rw [gd_pos (by simp only [List.length_nil]; omega), List.nil_append]
def updR (k : Nat) (l : List Int) : List Int := l.set (k % l.length) (min 100 (l.getD (k % l.length) 0 + (k / 8 : Nat)))
def zerR (l : List Int) : List Int := List.replicate l.length 0
theorem updR_len {k : Nat} {l : List Int} : (updR k l).length = l.length := List.length_set
theorem updR_ok {k : Nat} {l : List Int} (h : okR l) : okR (updR k l) := fun x hx => by
 have h1 := h.at (k % l.length)
 rcases List.mem_or_eq_of_mem_set hx with q | q
 ·exact h x q
 ·rw [q]; omega
theorem updR_le {k : Nat} {l : List Int} (h : okR l) (n : Nat) : l.getD n 0 ≤ (updR k l).getD n 0 := by
 unfold updR
 rw [List.getD_eq_getElem?_getD, List.getD_eq_getElem?_getD]
 by_cases hn : k % l.length = n
 ·subst hn
  by_cases hlt : k % l.length < l.length
  ·rw [List.getElem?_set_self hlt, List.getD_eq_getElem?_getD]
   have h1 := h.at (k % l.length)
   rw [List.getD_eq_getElem?_getD] at h1
   show _ ≤ min 100 _
   omega
  ·rw [List.getElem?_eq_none (by omega), List.getElem?_eq_none (by rw [List.length_set]; omega)]; exact Int.le_refl _
 ·rw [List.getElem?_set_ne hn]; exact Int.le_refl _
theorem zerR_ok (l : List Int) : okR (zerR l) := fun x hx => by
 have := List.eq_of_mem_replicate hx
 omega
theorem zerR_at (l : List Int) (n : Nat) : (zerR l).getD n 0 = 0 := by
 unfold zerR
 rw [List.getD_eq_getElem?_getD, List.getElem?_replicate]
 split <;> rfl
def wR (s : Ssn) (f : List Int → List Int) : Ssn := { s with Rules := s.Rules.map f }
theorem wR_vs {s : Ssn} {f : List Int → List Int} (h : VS s) (hl : ∀ l, (f l).length = l.length) (ho : ∀ l, okR l → okR (f l)) : VS (wR s f) := by
 have hn : (wR s f).Rules.length = s.Rules.length := List.length_map ..
 have hr : ∀ l ∈ (wR s f).Rules, VRu (wR s f) l := fun l q => by
  obtain ⟨l', q1, rfl⟩ := List.mem_map.1 q
  obtain ⟨q2, q3⟩ := h.rules l' q1
  exact ⟨by rw [hl]; exact q2, ho l' q3⟩
 refine ⟨⟨h.last, by rw [hn]; exact h.rne, h.fne, hr, fun g hg => ?_, h.vis⟩, ?_, h.few⟩
 ·have := h.flds g hg
  exact ⟨by rw [hn]; exact this.crp, this.wk, this.dm, this.old⟩
 ·have := h.many
  unfold ManyS at this ⊢
  rw [hn]; exact this
theorem wR_thin {s : Ssn} {f : List Int → List Int} (h : VS s) (ht : ThinN s) (hl : ∀ l, (f l).length = l.length) : ThinN (wR s f) := by
 obtain ⟨a, b, c, d, e⟩ := ht
 refine ⟨by show (s.Rules.map f).length ≤ 5; rw [List.length_map]; exact a, b, c, fun l q => ?_, fun _ => e (fault_zero.2 h)⟩
 obtain ⟨l', q1, rfl⟩ := List.mem_map.1 q
 rw [hl]; exact d l' q1
theorem wR_rule {s : Ssn} {f : List Int → List Int} {c : Int} (h0 : 0 ≤ c) (h1 : c < s.Rules.length) : ruleOf (wR s f) c = f (ruleOf s c) := by
 have hk : c.toNat < s.Rules.length := by omega
 unfold ruleOf wR
 dsimp only
 rw [List.getElem?_map, List.getElem?_eq_getElem hk]; rfl
theorem rises_fin {s : Ssn} (h : VS s) (ht : ThinN s) {k : Int} (hk : FieldOk s k) {t u : Trh} (hit : IsT (fldAt s k) t) (hiu : IsT (fldAt s k) u) (hu : u.Week = t.Week ∧ t.Damage ≤ u.Damage) {m : Nat} :
  ((plSeason s).bind fun r1 => ((plTruth t).bind fun r2 => ((pHarvest r1 k r2).bind fun r3 => ((plSeason s).bind fun r4 => ((plTruth u).bind fun r5 => ((pHarvest r4 k r5).bind fun r6 => ((plSeason (wR s (updR m))).bind fun r7 => ((plTruth t).bind fun r8 => ((pHarvest r7 k r8).bind fun r9 => ((plSeason (wR s zerR)).bind fun r10 => ((plTruth t).bind fun r11 => ((pHarvest r10 k r11).bind fun r12 => ((prSeen s k t s.Last).bind fun r13 => (if r3 ≤ r6 then (if r9 ≤ r3 then (if r3 ≤ t.Damage then (if (0 : Int) ≤ r3 then (if r12 = t.Damage then (if r13 = (100 : Int) then ((pawake).bind fun r14 => (some r14)) else (gd (fitsP .i64 (r3 + t.Old)) (if r13 = (r3 + t.Old) then ((pawake).bind fun r15 => (some r15)) else (some false)))) else (some false)) else (some false)) else (some false)) else (some false)) else (some false))))))))))))))) = some true := by
 obtain ⟨hla, _⟩ := not_many h.many
 have hf := h.vf hk
 obtain ⟨r1, r2, r3⟩ := hit.rng hf
 obtain ⟨r4, r5, _⟩ := hiu.rng hf
 have hx := wR_vs (f := updR m) h (fun _ => updR_len) fun _ => updR_ok
 have hy := wR_vs (f := zerR) h (fun _ => List.length_replicate ..) fun l _ => zerR_ok l
 have hru := (rule_at h.toVS0 hf.crp.1 hf.crp.2).2.okR
 have e1 := lSeason_eq ht
 have e2 := lSeason_eq (wR_thin (f := updR m) h ht fun _ => updR_len)
 have e3 := lSeason_eq (wR_thin (f := zerR) h ht fun _ => List.length_replicate ..)
 have g1 : pHarvest s k t = some (harv s (fldAt s k).Crop t) := by rw [Harvest_eq h, if_pos ⟨hk, hit⟩]
 have g2 : pHarvest s k u = some (harv s (fldAt s k).Crop u) := by rw [Harvest_eq h, if_pos ⟨hk, hiu⟩]
 have g3 : pHarvest (wR s (updR m)) k t = some (harv (wR s (updR m)) (fldAt s k).Crop t) := by rw [Harvest_eq hx, if_pos ⟨hk, hit⟩]; rfl
 have g4 : pHarvest (wR s zerR) k t = some (harv (wR s zerR) (fldAt s k).Crop t) := by rw [Harvest_eq hy, if_pos ⟨hk, hit⟩]; rfl
 have g5 := rSeen_eq h.toVS0 hla hk (t := t) r1.1 r2 r3 (w := s.Last) ⟨h.last, Int.le_refl _⟩
 have a1 : harv s (fldAt s k).Crop t ≤ harv s (fldAt s k).Crop u := by
  unfold harv dmg
  rw [hu.1]
  exact dmg_mono hru hru (fun _ => Int.le_refl _) r2.1 hu.2 _
 have a2 : harv (wR s (updR m)) (fldAt s k).Crop t ≤ harv s (fldAt s k).Crop t := by
  unfold harv dmg
  rw [wR_rule hf.crp.1 hf.crp.2]
  exact dmg_mono hru (updR_ok hru) (updR_le hru) r2.1 (Int.le_refl _) _
 have a3 : harv (wR s zerR) (fldAt s k).Crop t = t.Damage := by
  unfold harv dmg
  rw [wR_rule hf.crp.1 hf.crp.2]
  have hl : (wR s zerR).Last = s.Last := rfl
  rw [hl]
  exact dmg_zero (zerR_at _) _ (by omega) r1.1
 have a4 := dmg_rng' h.toVS0 hf.crp.1 hf.crp.2 (t := t) r2.1 s.Last
 have a5 : seenN s (fldAt s k).Crop t s.Last = min (t.Old + harv s (fldAt s k).Crop t) 100 := rfl
 have a4' : 0 ≤ harv s (fldAt s k).Crop t ∧ harv s (fldAt s k).Crop t ≤ t.Damage := a4
 have lt : ∀ v : Trh, plTruth v = some v := fun _ => rfl
 simp only [e1, e2, e3, lt, g1, g2, g3, g4, g5, obs, a3]
 rw [if_pos a1, if_pos a2, if_pos a4'.2, if_pos a4'.1, if_pos trivial]
 by_cases hs : seenN s (fldAt s k).Crop t s.Last = 100
 ·rw [if_pos hs]; rfl
 ·rw [if_neg hs, gd_pos (fI (by omega)), if_pos (by rw [a5] at hs ⊢; omega)]; rfl
theorem m_GrowthRises {s : Ssn} {which number more : Int} (hs : ok_Ssn s) (hwh : fitsP .u8 which) (hnu : fitsP .u16 number) (hmo : fitsP .u8 more) : pGrowthRises s which number more = some true := by
 have hR := okS hs
 unfold pGrowthRises
 refine (ready_ev hR).pick (fun ⟨ht, h⟩ => ?_) fun _ => by rw [if_neg (by simp)]; rfl
 obtain ⟨hla, hr3, h3, h4⟩ := not_many h.many
 have hfn := h.fne
 have u1 := fU8 hwh; have u2 := fU16 hnu; have u3 := fU8 hmo
 have w1 : wrapZ .i64 which = which := wz (fI (by omega))
 have w2 : wrapZ .i64 number = number := wz (fI (by omega))
 have w3 : wrapZ .i64 more = more := wz (fI (by omega))
 have m1 := Int.emod_nonneg which (show (s.Fields.length : Int) ≠ 0 by omega)
 have m1' := Int.emod_lt_of_pos which (show (0 : Int) < s.Fields.length by omega)
 obtain ⟨k, hk⟩ : ∃ k, which % (s.Fields.length : Int) = k := ⟨_, rfl⟩
 simp only [w1, w2, w3, hk]
 rw [hk] at m1 m1'
 have hk' : FieldOk s k := ⟨m1, m1'⟩
 have hf := h.vf hk'
 obtain ⟨_, _, _, _, h5⟩ := many_rng hf hla
 have m2 := Int.emod_nonneg number (show manyN (fldAt s k) ≠ 0 by omega)
 have m2' := Int.emod_lt_of_pos number (show 0 < manyN (fldAt s k) by omega)
 have hit := nth_isT hf hla m2 m2'
 obtain ⟨t, hte⟩ : ∃ t, nthT (fldAt s k) (number % manyN (fldAt s k)) = t := ⟨_, rfl⟩
 rw [hte] at hit
 obtain ⟨r1, r2, r3⟩ := hit.rng hf
 rw [if_pos trivial, gd_pos (by omega), gd_pos (by omega), gd_pos (fI (by omega)), (fld_at hk').1, obs, rMany_eq hf hla, obs, gd_pos (by omega), gd_pos (by omega), gd_pos (fI (by omega)), rNth_eq hf hla m2 m2', obs, hte, gd_pos (by omega), gd_pos (by omega), gd_pos (fI (by omega)), gd_pos (fI (by omega))]
 have hdm := hf.dm
 unfold Wi at hdm
 have hid := hit.2.1
 unfold inR at hid
 have hiu : IsT (fldAt s k) ⟨t.Week, min (fldAt s k).Damage.Hi (t.Damage + more % 9), t.Old⟩ := ⟨hit.1, by unfold inR; dsimp only; omega, hit.2.2⟩
 obtain ⟨n, rfl⟩ : ∃ n : Nat, more = (n : Int) := ⟨more.toNat, by omega⟩
 have key : ∀ (d i : Nat) (X Y : List (List Int)), i ≤ s.Rules.length → s.Rules.length - i < d → X.length = i → Y.length = i → X ++ (s.Rules.drop i).map (updR n) = s.Rules.map (updR n) → Y ++ (s.Rules.drop i).map zerR = s.Rules.map zerR →
   pGrowthRises_L0 s which (n : Int) (fldAt s k) t d s.Last X s.Last Y (i : Int) = some true := by
  intro d
  induction d with
  | zero => intro i _ _ _ h; omega
  | succ d ih =>
   intro i X Y hi hd lX lY eX eY
   unfold pGrowthRises_L0
   by_cases hin : i = s.Rules.length
   ·rw [hin, List.drop_length, List.map_nil, List.append_nil] at eX eY
    rw [if_neg (by omega), eX, eY]
    simp only [w1, w3, hk]
    exact rises_fin h ht hk' hit hiu ⟨rfl, by dsimp only; omega⟩ (m := n)
   ·have hlt : i < s.Rules.length := by omega
    have hg := List.getElem?_eq_getElem hlt
    obtain ⟨v1, v2⟩ := h.rules _ (List.getElem_mem hlt)
    rw [List.drop_eq_getElem_cons hlt] at eX eY
    generalize s.Rules[i] = l at hg v1 v2 eX eY
    have hlast := h.last
    have hpos : 0 < l.length := by omega
    have hq : n % l.length < l.length := Nat.mod_lt _ hpos
    have hqe : (n : Int) % (l.length : Int) = ((n % l.length : Nat) : Int) := (Int.natCast_emod ..).symm
    have hde : (n : Int) / 8 = ((n / 8 : Nat) : Int) := by omega
    have hix : idx l ((n % l.length : Nat) : Int) = some (l.getD (n % l.length) 0) := rule_idx hq
    have hat := okR.at v2 (n % l.length)
    have hset : l.set (n % l.length) (min 100 (l.getD (n % l.length) 0 + ((n / 8 : Nat) : Int))) = updR n l := rfl
    simp only [w3, idx_at hg, obs, lList_eq (show l.length ≤ 1000 by omega), hqe, hde, hix, Int.toNat_natCast, hset, updR_len]
    rw [if_pos (by omega), gd_pos (by omega), gd_pos (by omega), gd_pos (fI (by omega)), gd_pos (by omega), gd_pos (by omega), gd_pos (fI (by omega)), gd_pos (fI (by omega)), gd_pos (by omega), gd_pos (by omega), gd_pos (by simp only [List.length_cons, List.length_nil]; omega), gd_pos (fI (by omega)), show (i : Int) + 1 = ((i + 1 : Nat) : Int) by omega]
    refine ih (i + 1) _ _ (by omega) (by omega) (by rw [List.length_append]; simp only [List.length_cons, List.length_nil]; omega) (by rw [List.length_append]; simp only [List.length_cons, List.length_nil]; omega) ?_ ?_
    ·rw [List.append_assoc]; exact eX
    ·rw [List.append_assoc]; exact eY
 exact key _ 0 [] [] (Nat.zero_le _) (by omega) rfl rfl rfl rfl
end
end Go.Proofs.YtkkkpgljkfakkaaGreat

namespace Go.Proofs.YtkkkpgljkfakkaaGreat
open _root_.Go.Proofs.Tryz
open Go.ChangeShapes Go.WideShapes Go.ChangeAt Go.RowKit Go.Abs
set_option maxRecDepth 100000
theorem op3 : Opens prog 3 Int (fitsP .i64) := opens_int (by kernel_rfl)
theorem op38 : Opens prog 38 (List Int) (fun l => l.length ≤ maxLen ∧ ∀ a0 ∈ l, fitsP .i64 a0) := opens_slice (by kernel_rfl) (by kernel_rfl) op3
theorem op22 : Opens prog 22 (List (List Int)) (fun l => l.length ≤ maxLen ∧ ∀ a0 ∈ l, a0.length ≤ maxLen ∧ ∀ a1 ∈ a0, fitsP .i64 a1) := opens_slice (by kernel_rfl) (by kernel_rfl) op38
theorem op31 : Opens prog 31 Rg ok_Rg := opens_struct (fs := [(3, 0), (3, 1)]) (by kernel_rfl) (by kernel_rfl) (opensFs_cons (α := Int) (ok := fitsP .i64) (k := 1) op3 (by kernel_rfl) rfl (opensFs_cons (α := Int) (ok := fitsP .i64) (k := 1) op3 (by kernel_rfl) rfl opensFs_nil)) (by kernel_rfl) fun m vs h => by
 obtain ⟨a0, c0, r0, m0, h0, p0, k0, s0, ⟨a1, c1, r1, m1, h1, p1, k1, s1, rfl⟩⟩ := h
 have p0 : c0 = [.int .i64 a0] := p0; subst p0
 have p1 : c1 = [.int .i64 a1] := p1; subst p1
 subst h1 h0
 exact ⟨⟨a0, a1⟩, rfl, ⟨k0, k1⟩⟩
theorem op33 : Opens prog 33 Fld ok_Fld := opens_struct (fs := [(3, 0), (31, 1), (31, 3), (31, 5)]) (by kernel_rfl) (by kernel_rfl) (opensFs_cons (α := Int) (ok := fitsP .i64) (k := 1) op3 (by kernel_rfl) rfl (opensFs_cons (α := Rg) (ok := ok_Rg) (k := 2) op31 (by kernel_rfl) rfl (opensFs_cons (α := Rg) (ok := ok_Rg) (k := 2) op31 (by kernel_rfl) rfl (opensFs_cons (α := Rg) (ok := ok_Rg) (k := 2) op31 (by kernel_rfl) rfl opensFs_nil)))) (by kernel_rfl) fun m vs h => by
 obtain ⟨a0, c0, r0, m0, h0, p0, k0, s0, ⟨a1, c1, r1, m1, h1, p1, k1, s1, ⟨a2, c2, r2, m2, h2, p2, k2, s2, ⟨a3, c3, r3, m3, h3, p3, k3, s3, rfl⟩⟩⟩⟩ := h
 have p0 : c0 = [.int .i64 a0] := p0; subst p0
 have p1 : c1 = [.int .i64 a1.Lo, .int .i64 a1.Hi] := p1; subst p1
 have p2 : c2 = [.int .i64 a2.Lo, .int .i64 a2.Hi] := p2; subst p2
 have p3 : c3 = [.int .i64 a3.Lo, .int .i64 a3.Hi] := p3; subst p3
 subst h3 h2 h1 h0
 exact ⟨⟨a0, a1, a2, a3⟩, rfl, ⟨k0, k1, k2, k3⟩⟩
theorem op23 : Opens prog 23 (List Fld) (fun l => l.length ≤ maxLen ∧ ∀ a0 ∈ l, ok_Fld a0) := opens_slice (by kernel_rfl) (by kernel_rfl) op33
theorem op83 : Opens prog 83 Vis ok_Vis := opens_struct (fs := [(3, 0), (3, 1), (31, 2)]) (by kernel_rfl) (by kernel_rfl) (opensFs_cons (α := Int) (ok := fitsP .i64) (k := 1) op3 (by kernel_rfl) rfl (opensFs_cons (α := Int) (ok := fitsP .i64) (k := 1) op3 (by kernel_rfl) rfl (opensFs_cons (α := Rg) (ok := ok_Rg) (k := 2) op31 (by kernel_rfl) rfl opensFs_nil))) (by kernel_rfl) fun m vs h => by
 obtain ⟨a0, c0, r0, m0, h0, p0, k0, s0, ⟨a1, c1, r1, m1, h1, p1, k1, s1, ⟨a2, c2, r2, m2, h2, p2, k2, s2, rfl⟩⟩⟩ := h
 have p0 : c0 = [.int .i64 a0] := p0; subst p0
 have p1 : c1 = [.int .i64 a1] := p1; subst p1
 have p2 : c2 = [.int .i64 a2.Lo, .int .i64 a2.Hi] := p2; subst p2
 subst h2 h1 h0
 exact ⟨⟨a0, a1, a2⟩, rfl, ⟨k0, k1, k2⟩⟩
theorem op24 : Opens prog 24 (List Vis) (fun l => l.length ≤ maxLen ∧ ∀ a0 ∈ l, ok_Vis a0) := opens_slice (by kernel_rfl) (by kernel_rfl) op83
theorem op26 : Opens prog 26 Ssn ok_Ssn := opens_struct (fs := [(3, 0), (22, 1), (23, 2), (24, 3)]) (by kernel_rfl) (by kernel_rfl) (opensFs_cons (α := Int) (ok := fitsP .i64) (k := 1) op3 (by kernel_rfl) rfl (opensFs_cons (α := List (List Int)) (ok := (fun l => l.length ≤ maxLen ∧ ∀ a0 ∈ l, a0.length ≤ maxLen ∧ ∀ a1 ∈ a0, fitsP .i64 a1)) (k := 1) op22 (by kernel_rfl) rfl (opensFs_cons (α := List Fld) (ok := (fun l => l.length ≤ maxLen ∧ ∀ a0 ∈ l, ok_Fld a0)) (k := 1) op23 (by kernel_rfl) rfl (opensFs_cons (α := List Vis) (ok := (fun l => l.length ≤ maxLen ∧ ∀ a0 ∈ l, ok_Vis a0)) (k := 1) op24 (by kernel_rfl) rfl opensFs_nil)))) (by kernel_rfl) fun m vs h => by
 obtain ⟨a0, c0, r0, m0, h0, p0, k0, s0, ⟨a1, c1, r1, m1, h1, p1, k1, s1, ⟨a2, c2, r2, m2, h2, p2, k2, s2, ⟨a3, c3, r3, m3, h3, p3, k3, s3, rfl⟩⟩⟩⟩ := h
 have p0 : c0 = [.int .i64 a0] := p0; subst p0
 obtain ⟨d1, rfl, p1⟩ := p1
 obtain ⟨d2, rfl, p2⟩ := p2
 obtain ⟨d3, rfl, p3⟩ := p3
 subst h3 h2 h1 h0
 exact ⟨⟨a0, a1, a2, a3⟩, ⟨_, _, _, rfl, p1, p2, p3⟩, ⟨k0, k1, k2, k3⟩⟩
theorem laid : laidOutB prog = true := by kernel_rfl
theorem ownNone : ownKnob prog.godebug = none := by kernel_rfl
theorem GrowthRises_lifted (os : Os) (started : os.Started) (H : Type) (enc : TypeId × Value → H) :
    ReturnsInHanded {} Tryz.checked os 3 .any (Rows.growthRisesSpec.pre6 enc Tryz.prog Tryz.f3 Rows.growthRisesRow.domain false) (Rows.growthRisesSpec.post enc Tryz.prog Tryz.f3 false true false false) := by
  refine returnsInHanded_of_change (C := Tryz.checked) ownNone started (by kernel_rfl) Tryz.func3
    (ChangeSpec.witness6 (enc := enc) (C := Tryz.checked) false ⟨#[], #[.agg #[.int .i64 0, .slice none 0 0, .slice none 0 0, .slice none 0 0], .int .u8 0, .int .u16 0, .int .u8 0], []⟩ 8 (by kernel_rfl) (by kernel_rfl) (by kernel_rfl) (by kernel_rfl)) ?_
  intro W base args ds gs before hval0 hW hcnd _
  have hval : ∀ (j : Nat) t v, Tryz.f3.params[j]? = some t → args[j]? = some v → Value.okWide Tryz.prog W .any base t v := hval0
  have hW' := hW
  obtain ⟨p, q, hA0, hV, rfl, hfz, hnd⟩ := hW
  have hA : DataW.TrodAll enc Tryz.prog W 0 (fun _ => true) true Tryz.f3.params.toList args.toList ds p := hA0
  rw [Tryz.params3] at hA hval
  obtain ⟨v0, v1, v2, v3, d0, d1, d2, d3, p0, p1, p2, p3, rfl, rfl, rfl, h0, h1, h2, h3⟩ := trodAll_four hA
  obtain ⟨rfl, rfl⟩ := trodVars_none hV
  obtain ⟨n1, hv1⟩ := okWide_int Tryz.underlying5 (hval 1 5 v1 rfl rfl)
  obtain ⟨n2, hv2⟩ := okWide_int Tryz.underlying27 (hval 2 27 v2 rfl rfl)
  obtain ⟨n3, hv3⟩ := okWide_int Tryz.underlying5 (hval 3 5 v3 rfl rfl)
  have hlt : ∀ x ∈ p0 ++ p1 ++ p2 ++ p3, x.block < W.heap.size := fun x hx => by simpa using hW'.lt x (by simpa using hx)
  obtain ⟨fu0, hf0⟩ := id h0
  obtain ⟨fu1, hf1⟩ := id h1
  obtain ⟨fu2, hf2⟩ := id h2
  obtain ⟨fu3, hf3⟩ := id h3
  clear hA0 hval0
  obtain ⟨e0, m0, w0, a_0, le0, sv0, lay0, cr0, rep0, ok0⟩ := op26 H enc W true _ _ _ hf0 _ _ (Lay.nil W)
  obtain ⟨i1, hc1, _, hw1⟩ := DataW.trod_int Tryz.underlying5 hf1
  obtain ⟨i2, hc2, _, hw2⟩ := DataW.trod_int Tryz.underlying27 hf2
  obtain ⟨i3, hc3, _, hw3⟩ := DataW.trod_int Tryz.underlying5 hf3
  obtain ⟨c0_1, c0_2, c0_3, rfl, g0_1, g0_2, g0_3⟩ := rep0
  obtain ⟨cs0, hv0, cl0⟩ : ∃ cs, v0 = .agg cs ∧ v0.cells.toList = cs.toList := by
    have hl := cr0.length
    cases v0 with
    | agg cs => exact ⟨cs, rfl, rfl⟩
    | _ => exact absurd hl (by simp [Value.cells])
  subst hv0
  subst hv1
  have hi1 : i1 = n1 := by
    have h : [Value.int .u8 n1] = [.int .u8 i1] := hc1
    cases h; rfl
  subst hi1
  subst hv2
  have hi2 : i2 = n2 := by
    have h : [Value.int .u16 n2] = [.int .u16 i2] := hc2
    cases h; rfl
  subst hi2
  subst hv3
  have hi3 : i3 = n3 := by
    have h : [Value.int .u8 n3] = [.int .u8 i3] := hc3
    cases h; rfl
  subst hi3
  have hargs : All2 (VR e0) [.agg 4 [.int .i64 a_0.Last, c0_1, c0_2, c0_3], .c (.int .u8 i1), .c (.int .u16 i2), .c (.int .u8 i3)] [.agg cs0, .int .u8 i1, .int .u16 i2, .int .u8 i3] := .cons ⟨cs0, rfl, cr0, rfl⟩ (.cons rfl (.cons rfl (.cons rfl .nil)))
  refine (callsIn_wide.1 (call_of fits htab (s_GrowthRises (s := a_0) (which := i1) (number := i2) (more := i3) lay0.pre g0_1 g0_2 g0_3 (m_GrowthRises ok0 (wf_fits hw1) (wf_fits hw2) (wf_fits hw3)) (Q := fun v _ => v = .c (.bool true)) fun _ _ => rfl) lay0.hr (args' := #[.agg cs0, .int .u8 i1, .int .u16 i2, .int .u8 i3]) hargs 0)).mono fun en W' hp => ?_
  obtain ⟨v, v', e', m', rfl, hst, hvr, rfl⟩ := hp
  have hv' : v' = .bool true := hvr
  subst hv'
  have hbelow := lay0.below hst
  refine ⟨_, rfl, [d0, d1, d2, d3], [], p0 ++ p1 ++ p2 ++ p3, [], p0 ++ (p1 ++ (p2 ++ p3)), [], by simpa using hW', trodAll_mk1 (shut_bool Tryz.underlying4 _),
    trodAll_mk4 (Below.trod laid (by kernel_rfl) (of_decide_eq_true (by kernel_rfl)) h0 hbelow fun x hx => hlt x (by simp [hx])) (Below.trod laid (by kernel_rfl) (of_decide_eq_true (by kernel_rfl)) h1 hbelow fun x hx => hlt x (by simp [hx])) (Below.trod laid (by kernel_rfl) (of_decide_eq_true (by kernel_rfl)) h2 hbelow fun x hx => hlt x (by simp [hx])) (Below.trod laid (by kernel_rfl) (of_decide_eq_true (by kernel_rfl)) h3 hbelow fun x hx => hlt x (by simp [hx])), rfl, lay0.kept hst _, fun hc => by cases hc⟩
theorem GrowthRises_holds : Rows.GrowthRisesSaid :=
 OpenClaim.holds_of_wide 3 Tryz.f3 rfl rfl rfl rfl rfl rfl rfl ⟨rfl, rfl, rfl, rfl, rfl⟩ rfl rfl rfl rfl rfl (by kernel_rfl) Tryz.func3 (by kernel_rfl)
  (of_decide_eq_true (by kernel_rfl)) (by unfold Func.isWrapper; first | (rw [if_pos (by decide +kernel)]; kernel_rfl) | (rw [if_neg (by decide +kernel)]; exact ⟨rfl, rfl⟩))
  (fun os started H enc _ => GrowthRises_lifted os started H enc)
end Go.Proofs.YtkkkpgljkfakkaaGreat

