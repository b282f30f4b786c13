/- An evaluator of the code of a program, its soundness, what calls ask, memory, and what functions of the program do. Condition: none; a lemma text of this claim. -/
import Derived.Test.YtmlaphekbnanjaaGreatGeG

namespace Go.Proofs.YtmlaphekbnanjaaGreat
open _root_.Go.Proofs.Tryz
open Go.Abs
set_option maxRecDepth 100000
noncomputable section
def Fv_Int_Bool (f : M) (x : C) (g : Int → Option (Bool)) : Prop := ∀ (f' m : M) (a0 : Int) (r : Bool) (Q : V → M → Prop), Sub f f' → Pre f' m → g a0 = some r → (∀ m', Ext m m' → Q (.c (.bool r)) m') → callP prog tbl [.c (.int .i64 a0)] x m Q
theorem Fv_Int_Bool.sub {f m : M} {x : C} {g : Int → Option (Bool)} (h : Fv_Int_Bool f x g) (s : Sub f m) : Fv_Int_Bool m x g := fun f' m' a0 r Q hs => h f' m' a0 r Q (s.trans hs)
def Fv_Fld_Bool (f : M) (x : C) (g : Fld → Option (Bool)) : Prop := ∀ (f' m : M) (a0 : Fld) (r : Bool) (Q : V → M → Prop), Sub f f' → Pre f' m → g a0 = some r → (∀ m', Ext m m' → Q (.c (.bool r)) m') → callP prog tbl [.agg 7 [(.int .i64 a0.Crop), (.int .i64 a0.Week.Lo), (.int .i64 a0.Week.Hi), (.int .i64 a0.Damage.Lo), (.int .i64 a0.Damage.Hi), (.int .i64 a0.Old.Lo), (.int .i64 a0.Old.Hi)]] x m Q
theorem Fv_Fld_Bool.sub {f m : M} {x : C} {g : Fld → Option (Bool)} (h : Fv_Fld_Bool f x g) (s : Sub f m) : Fv_Fld_Bool m x g := fun f' m' a0 r Q hs => h f' m' a0 r Q (s.trans hs)
def Fv_Vis_Bool (f : M) (x : C) (g : Vis → Option (Bool)) : Prop := ∀ (f' m : M) (a0 : Vis) (r : Bool) (Q : V → M → Prop), Sub f f' → Pre f' m → g a0 = some r → (∀ m', Ext m m' → Q (.c (.bool r)) m') → callP prog tbl [.agg 4 [(.int .i64 a0.Field), (.int .i64 a0.Week), (.int .i64 a0.Seen.Lo), (.int .i64 a0.Seen.Hi)]] x m Q
theorem Fv_Vis_Bool.sub {f m : M} {x : C} {g : Vis → Option (Bool)} (h : Fv_Vis_Bool f x g) (s : Sub f m) : Fv_Vis_Bool m x g := fun f' m' a0 r Q hs => h f' m' a0 r Q (s.trans hs)
def Fv_Dm_Bool (f : M) (x : C) (g : Dm → Option (Bool)) : Prop := ∀ (f' m : M) (a0 : Dm) (r : Bool) (Q : V → M → Prop), Sub f f' → Pre f' m → g a0 = some r → (∀ m', Ext m m' → Q (.c (.bool r)) m') → callP prog tbl [.agg 13 [(.int .i64 a0.d0), (.int .i64 a0.d1), (.int .i64 a0.d2), (.int .i64 a0.d3), (.int .i64 a0.d4), (.int .i64 a0.d5), (.int .i64 a0.d6), (.int .i64 a0.d7), (.int .i64 a0.d8), (.int .i64 a0.d9), (.int .i64 a0.d10), (.int .i64 a0.d11), (.int .i64 a0.d12)]] x m Q
theorem Fv_Dm_Bool.sub {f m : M} {x : C} {g : Dm → Option (Bool)} (h : Fv_Dm_Bool f x g) (s : Sub f m) : Fv_Dm_Bool m x g := fun f' m' a0 r Q hs => h f' m' a0 r Q (s.trans hs)
theorem kl3 : KL prog 3 Int := kl_int (k := .i64) (v := id) (by kernel_rfl) (by kernel_rfl) (fun _ => rfl) (fun _ h => h) fun _ _ => Iff.rfl
theorem kl128 : KL prog 128 Dm := kl_agg (n := 13) (ks := [.int .i64, .int .i64, .int .i64, .int .i64, .int .i64, .int .i64, .int .i64, .int .i64, .int .i64, .int .i64, .int .i64, .int .i64, .int .i64]) (by kernel_rfl) (by kernel_rfl) (cs := fun k => [.int .i64 k.d0, .int .i64 k.d1, .int .i64 k.d2, .int .i64 k.d3, .int .i64 k.d4, .int .i64 k.d5, .int .i64 k.d6, .int .i64 k.d7, .int .i64 k.d8, .int .i64 k.d9, .int .i64 k.d10, .int .i64 k.d11, .int .i64 k.d12]) (fun _ => rfl) fun a b fa fb => ⟨_, _, (eqKs_cons (eqK_i fa.1 fb.1) (eqKs_cons (eqK_i fa.2.1 fb.2.1) (eqKs_cons (eqK_i fa.2.2.1 fb.2.2.1) (eqKs_cons (eqK_i fa.2.2.2.1 fb.2.2.2.1) (eqKs_cons (eqK_i fa.2.2.2.2.1 fb.2.2.2.2.1) (eqKs_cons (eqK_i fa.2.2.2.2.2.1 fb.2.2.2.2.2.1) (eqKs_cons (eqK_i fa.2.2.2.2.2.2.1 fb.2.2.2.2.2.2.1) (eqKs_cons (eqK_i fa.2.2.2.2.2.2.2.1 fb.2.2.2.2.2.2.2.1) (eqKs_cons (eqK_i fa.2.2.2.2.2.2.2.2.1 fb.2.2.2.2.2.2.2.2.1) (eqKs_cons (eqK_i fa.2.2.2.2.2.2.2.2.2.1 fb.2.2.2.2.2.2.2.2.2.1) (eqKs_cons (eqK_i fa.2.2.2.2.2.2.2.2.2.2.1 fb.2.2.2.2.2.2.2.2.2.2.1) (eqKs_cons (eqK_i fa.2.2.2.2.2.2.2.2.2.2.2.1 fb.2.2.2.2.2.2.2.2.2.2.2.1) (eqKs_cons (eqK_i fa.2.2.2.2.2.2.2.2.2.2.2.2.1 fb.2.2.2.2.2.2.2.2.2.2.2.2.1) eqKs_nil))))))))))))), ⟨fun h => by obtain ⟨ad0, ad1, ad2, ad3, ad4, ad5, ad6, ad7, ad8, ad9, ad10, ad11, ad12⟩ := a; obtain ⟨bd0, bd1, bd2, bd3, bd4, bd5, bd6, bd7, bd8, bd9, bd10, bd11, bd12⟩ := b; simp_all, fun h => by subst h; exact ⟨rfl, rfl, rfl, rfl, rfl, rfl, rfl, rfl, rfl, rfl, rfl, rfl, rfl, trivial⟩⟩⟩
theorem kl170 : KL prog 170 Plt := kl_agg (n := 4) (ks := [.int .i64, .int .i64, .int .i64, .int .i64]) (by kernel_rfl) (by kernel_rfl) (cs := fun k => [.int .i64 k.t.Week, .int .i64 k.t.Damage, .int .i64 k.t.Old, .int .i64 k.crop]) (fun _ => rfl) fun a b fa fb => ⟨_, _, (eqKs_cons (eqK_i fa.1 fb.1) (eqKs_cons (eqK_i fa.2.1 fb.2.1) (eqKs_cons (eqK_i fa.2.2.1 fb.2.2.1) (eqKs_cons (eqK_i fa.2.2.2.1 fb.2.2.2.1) eqKs_nil)))), ⟨fun h => by obtain ⟨⟨atWeek, atDamage, atOld⟩, acrop⟩ := a; obtain ⟨⟨btWeek, btDamage, btOld⟩, bcrop⟩ := b; simp_all, fun h => by subst h; exact ⟨rfl, rfl, rfl, rfl, trivial⟩⟩⟩
theorem ta22 : TA prog 22 1 := ⟨75, by kernel_rfl, by kernel_rfl, by kernel_rfl⟩
theorem ta33 : TA prog 33 7 := ⟨114, by kernel_rfl, by kernel_rfl, by kernel_rfl⟩
theorem ta34 : TA prog 34 4 := ⟨106, by kernel_rfl, by kernel_rfl, by kernel_rfl⟩
theorem ta49 : TA prog 49 3 := ⟨52, by kernel_rfl, by kernel_rfl, by kernel_rfl⟩
theorem ta75 : TA prog 75 1 := ⟨3, by kernel_rfl, by kernel_rfl, by kernel_rfl⟩
theorem ta140 : TA prog 140 16 := ⟨130, by kernel_rfl, by kernel_rfl, by kernel_rfl⟩
theorem ta148 : TA prog 148 13 := ⟨128, by kernel_rfl, by kernel_rfl, by kernel_rfl⟩
theorem s_awake {m f : M} {Q : V → M → Prop} {rz : Bool} (hS : Pre f m) (hp : pawake = some rz) (hq : ∀ m', Ext m m' → Q (.c (.bool rz)) m') : Wc prog tbl 12 [] m Q := by
 obtain rfl := Option.some.inj hp
 exact call_known (show findT tbl 12 = some true from rfl) (hq _ (.refl m))
theorem s_rIn {n : Int} {low : Int} {high : Int} {m f : M} {Q : V → M → Prop} {rz : Bool} (hS : Pre f m)  (hp : prIn n low high = some rz) (hq : ∀ m', Ext m m' → Q (.c (.bool rz)) m') : Wc prog tbl 29 [.c (Il n), .c (Il low), .c (Il high)] m Q := by
 have a := hS.st
 obtain ⟨d, _⟩ : ∃ τ : Nat → Nat, True := ⟨fun _ => 0, trivial⟩
 refine w29 ?_
 unfold prIn at hp
 refine ifd hp (fun b hp => ?_) fun b hp => ?_
 ·obtain rfl := Option.some.inj hp
  exact hq _ a.ext'
 obtain rfl := Option.some.inj hp
 exact hq _ a.ext'
theorem s_rWithin {r : Rg} {low : Int} {high : Int} {m f : M} {Q : V → M → Prop} {rz : Bool} (hS : Pre f m)  (hp : prWithin r low high = some rz) (hq : ∀ m', Ext m m' → Q (.c (.bool rz)) m') : Wc prog tbl 99 [.agg 2 [(Il r.Lo), (Il r.Hi)], .c (Il low), .c (Il high)] m Q := by
 have b := hS.st
 obtain ⟨d, _⟩ : ∃ τ : Nat → Nat, True := ⟨fun _ => 0, trivial⟩
 refine w99 ?_
 unfold prWithin at hp
 intro i e
 obtain ⟨j, S3, l, a⟩ := b.blk e d 1
 refine ⟨trivial, _, a.bk.rc rfl, ?_⟩
 refine ifd hp (fun g hp => ?_) fun g hp => ?_; rotate_left
 ·obtain rfl := Option.some.inj hp
  exact hq _ S3.ext'
 refine ⟨trivial, _, a.bk.rc rfl, trivial, _, a.bk.rc rfl, ?_⟩
 refine ifd hp (fun h hp => ?_) fun h hp => ?_; rotate_left
 ·obtain rfl := Option.some.inj hp
  exact hq _ S3.ext'
 refine ⟨trivial, _, a.bk.rc rfl, ?_⟩
 obtain rfl := Option.some.inj hp
 exact hq _ S3.ext'
theorem s_rCount {r : Rg} {m f : M} {Q : V → M → Prop} {rz : Int} (hS : Pre f m)  (hp : prCount r = some rz) (hq : ∀ m', Ext m m' → Q (.c (Il rz)) m') : Wc prog tbl 96 [.agg 2 [(Il r.Lo), (Il r.Hi)]] m Q := by
 have g := hS.st
 obtain ⟨h, _⟩ : ∃ τ : Nat → Nat, True := ⟨fun _ => 0, trivial⟩
 refine w96 ?_
 unfold prCount at hp
 intro n i
 obtain ⟨j, b, l, a⟩ := g.blk i h 1
 refine ⟨trivial, _, a.bk.rc rfl, trivial, _, a.bk.rc rfl, ?_⟩
 refine gdi hp fun d hp => ?_
 refine gdi hp fun e hp => ?_
 obtain rfl := Option.some.inj hp
 exact hq _ b.ext'
theorem s_rIsRule {s : Ssn} {l : List Int} {ca101 ca102 ca103 ca200 : C} {m f : M} {Q : V → M → Prop} {rz : Bool} (hS : Pre f m) (ha101 : Sl f ca101 s.Rules) (ha102 : Sl f ca102 s.Fields) (ha103 : Sl f ca103 s.Visits) (ha200 : Sl f ca200 l) (hp : prIsRule s l = some rz) (hq : ∀ m', Ext m m' → Q (.c (.bool rz)) m') : Wc prog tbl 98 [.agg 4 [(Il s.Last), ca101, ca102, ca103], .c ca200] m Q := by
 have O := hS.st
 obtain ⟨P, _⟩ : ∃ τ : Nat → Nat, True := ⟨fun _ => 0, trivial⟩
 refine w98 ?_
 unfold prIsRule at hp
 intro m0 t
 obtain ⟨u, x, Y, a⟩ := O.blk t P 1
 intro S y
 have hgo : ∀ (e : Nat) (p : Bool) (j : Int) (g : M) (b : Nat → Nat), St (Fm.of m) f f g → Lb (Fm.of m) f b g 1 m.nxt 4 [(Il s.Last), ca101, ca102, ca103] → prIsRule_L0 s l e j = some rz → S [.c (.bool p), .c (Il j)] g := by
  intro e
  induction e with
  | zero => intro p j g b d a hp; cases hp
  | succ e q =>
   intro p j g b d a hp
   refine y _ _ _ ?_
   rw [prIsRule_L0] at hp
   refine ⟨ha200.isSl, ?_⟩
   try rw [ha200.slLen]
   refine ifd hp (fun z hp => ?_) fun z hp => ?_; rotate_left
   ·refine ⟨ha200.isSl, trivial, _, a.bk.rc rfl, ?_⟩
    refine gdi hp fun A hp => ?_
    try rw [ha200.slLen]
    obtain rfl := Option.some.inj hp
    exact hq _ d.ext'
   obtain ⟨B, h, hp⟩ := bsome hp
   obtain ⟨T, r, i, h⟩ := idx_some h
   refine ⟨T, r, (by first | exact i | (rw [ha200.slLen]; exact i)), _, (ha200.rdI h d.sub), ?_⟩
   obtain ⟨Z, D, hp⟩ := bsome hp
   refine s_rIn (n := B) (low := (0 : Int)) (high := (100 : Int)) d.pre  D fun m8 F => ?_
   obtain ⟨o, G⟩ := d.call F b
   have I := a.k G
   refine ⟨_, rfl, ?_⟩
   refine ifnb hp (fun J hp => ?_) fun J hp => ?_
   ·obtain rfl := Option.some.inj hp
    exact hq _ o.ext'
   refine gdi hp fun N hp => ?_
   exact q _ _ _ b o I hp
 exact hgo _ _ _ _ u x a hp
theorem s_rMany {fl : Fld} {m f : M} {Q : V → M → Prop} {rz : Int} (hS : Pre f m)  (hp : prMany fl = some rz) (hq : ∀ m', Ext m m' → Q (.c (Il rz)) m') : Wc prog tbl 49 [.agg 7 [(Il fl.Crop), (Il fl.Week.Lo), (Il fl.Week.Hi), (Il fl.Damage.Lo), (Il fl.Damage.Hi), (Il fl.Old.Lo), (Il fl.Old.Hi)]] m Q := by
 have I := hS.st
 obtain ⟨J, _⟩ : ∃ τ : Nat → Nat, True := ⟨fun _ => 0, trivial⟩
 refine w49 ?_
 unfold prMany at hp
 intro Z i
 obtain ⟨b, e, N, a⟩ := I.blk i J 1
 refine ⟨trivial, _, _, a.bk.rp (k := 1) (j := 2) rfl (by omega), ?_⟩
 obtain ⟨O, l, hp⟩ := bsome hp
 refine s_rCount (r := fl.Week) e.pre  l fun m4 n => ?_
 obtain ⟨g, o⟩ := e.call n b
 have d := a.k o
 refine ⟨_, rfl, trivial, _, _, d.bk.rp (k := 3) (j := 2) rfl (by omega), (a.bk.rp (k := 3) (j := 2) rfl (by omega)), ?_⟩
 obtain ⟨P, p, hp⟩ := bsome hp
 refine s_rCount (r := fl.Damage) g.pre  p fun m9 q => ?_
 obtain ⟨h, s⟩ := g.call q b
 have t := d.k s
 refine ⟨_, rfl, ?_⟩
 refine gdi hp fun u hp => ?_
 refine gdi hp fun x hp => ?_
 obtain ⟨y, hp⟩ := gd_some hp
 refine ⟨y, trivial, _, _, t.bk.rp (k := 5) (j := 2) rfl (by omega), (d.bk.rp (k := 5) (j := 2) rfl (by omega)), (a.bk.rp (k := 5) (j := 2) rfl (by omega)), ?_⟩
 obtain ⟨S, z, hp⟩ := bsome hp
 refine s_rCount (r := fl.Old) h.pre  z fun T A => ?_
 obtain ⟨B, Y⟩ := h.call A b
 refine ⟨_, rfl, ?_⟩
 refine gdi hp fun D hp => ?_
 refine gdi hp fun F hp => ?_
 refine gdi hp fun G hp => ?_
 obtain rfl := Option.some.inj hp
 exact hq _ B.ext'
theorem s_rFault {s : Ssn} {ca101 ca102 ca103 : C} {m f : M} {Q : V → M → Prop} {rz : Int} (hS : Pre f m) (ha101 : Sl f ca101 s.Rules) (ha102 : Sl f ca102 s.Fields) (ha103 : Sl f ca103 s.Visits) (hp : prFault s = some rz) (hq : ∀ m', Ext m m' → Q (.c (Il rz)) m') : Wc prog tbl 55 [.agg 4 [(Il s.Last), ca101, ca102, ca103]] m Q := by
 have S0 := hS.st
 obtain ⟨τ0, _⟩ : ∃ τ : Nat → Nat, True := ⟨fun _ => 0, trivial⟩
 refine w55 ?_
 unfold prFault at hp
 intro m0 gc
 obtain ⟨hc, e, Zc, a⟩ := S0.blk gc τ0 1
 refine ⟨trivial, _, a.bk.rc rfl, ?_⟩
 refine ifd hp (fun ic hp => ?_) fun ic hp => ?_
 ·obtain rfl := Option.some.inj hp
  exact hq _ e.ext'
 refine ⟨trivial, _, a.bk.rc rfl, ha101.isSl, ?_⟩
 try rw [ha101.slLen]
 refine ifd hp (fun jc hp => ?_) fun jc hp => ?_
 ·obtain rfl := Option.some.inj hp
  exact hq _ e.ext'
 refine ⟨trivial, _, a.bk.rc rfl, ha102.isSl, ?_⟩
 try rw [ha102.slLen]
 refine ifd hp (fun kc hp => ?_) fun kc hp => ?_
 ·obtain rfl := Option.some.inj hp
  exact hq _ e.ext'
 refine ⟨trivial, _, a.bk.rc rfl, ha103.isSl, ?_⟩
 try rw [ha103.slLen]
 refine ifd hp (fun lc hp => ?_) fun lc hp => ?_
 ·obtain rfl := Option.some.inj hp
  exact hq _ e.ext'
 refine ⟨trivial, _, a.bk.rc rfl, ?_⟩
 refine ifd hp (fun nc hp => ?_) fun nc hp => ?_
 ·obtain rfl := Option.some.inj hp
  exact hq _ e.ext'
 refine ⟨trivial, _, a.bk.rc rfl, ha101.isSl, ?_⟩
 try rw [ha101.slLen]
 refine ifd hp (fun oc hp => ?_) fun oc hp => ?_
 ·obtain rfl := Option.some.inj hp
  exact hq _ e.ext'
 refine ⟨trivial, _, a.bk.rc rfl, ha102.isSl, ?_⟩
 try rw [ha102.slLen]
 refine ifd hp (fun pc hp => ?_) fun pc hp => ?_
 ·obtain rfl := Option.some.inj hp
  exact hq _ e.ext'
 intro R8 qc
 have hgo : ∀ (T : Nat) (x9 : Int) (Y : Int) (y : M) (p : Nat → Nat), St (Fm.of m) f f y → Lb (Fm.of m) f p y 1 m.nxt 4 [(Il s.Last), ca101, ca102, ca103] → prFault_L0 s T x9 Y = some rz → R8 [.c (Il x9), .c (Il Y)] y := by
  intro T
  induction T with
  | zero => intro x9 Y y p z a hp; cases hp
  | succ T Qa =>
   intro x9 Y y p z a hp
   refine qc _ _ _ ?_
   rw [prFault_L0] at hp
   refine ⟨trivial, _, a.bk.rc rfl, ha101.isSl, ?_⟩
   try rw [ha101.slLen]
   refine ifd hp (fun sc hp => ?_) fun sc hp => ?_
   ·refine ⟨_, _, _, _, a.bk.ra, trivial, _, a.bk.rc rfl, ?_⟩
    obtain ⟨tc, ia, hp⟩ := bsome hp
    obtain ⟨uc, Ra, ja, ia⟩ := idx_some ia
    obtain ⟨ad, vc, wc⟩ := ha101.rdS ia
    refine ⟨uc, Ra, (by first | exact ja | (rw [ha101.slLen]; exact ja)), _, (vc _ z.sub), ?_⟩
    obtain ⟨bd, xc, hp⟩ := bsome hp
    refine s_rIsRule (s := s) (l := tc) z.pre ha101 ha102 ha103 wc xc fun cd yc => ?_
    obtain ⟨Pa, zc⟩ := z.call yc p
    have Ac := a.k zc
    refine ⟨_, rfl, ?_⟩
    refine ifnb hp (fun Bc hp => ?_) fun Bc hp => ?_
    ·obtain rfl := Option.some.inj hp
     exact hq _ Pa.ext'
    refine gdi hp fun Cc hp => ?_
    exact Qa _ _ _ p Pa Ac hp
   intro Dc Sa
   have hgo : ∀ (Z : Nat) (aa : Int) (ba : Int) (A : M) (B : Nat → Nat), St (Fm.of m) f f A → Lb (Fm.of m) f B A 1 m.nxt 4 [(Il s.Last), ca101, ca102, ca103] → prFault_L1 s Z aa ba = some rz → Dc [.c (Il aa), .c (Il ba)] A := by
    intro Z
    induction Z with
    | zero => intro aa ba A B ca a hp; cases hp
    | succ Z Ka =>
     intro aa ba A B ca a hp
     refine Sa _ _ _ ?_
     rw [prFault_L1] at hp
     refine ⟨trivial, _, a.bk.rc rfl, ha102.isSl, ?_⟩
     try rw [ha102.slLen]
     refine ifd hp (fun Ec hp => ?_) fun Ec hp => ?_
     ·refine ⟨trivial, _, a.bk.rc rfl, ?_⟩
      obtain ⟨b, ka, hp⟩ := bsome hp
      obtain ⟨Fc, Ta, la, ka⟩ := idx_some ka
      obtain ⟨_, Ua⟩ := rd_Fld ha102 ka
      refine ⟨Fc, Ta, (by first | exact la | (rw [ha102.slLen]; exact la)), _, _, _, _, _, _, _, (Ua _ ca.sub).1, ?_⟩
      intro dd Va
      obtain ⟨g, Wa, Xa, Ya⟩ := ca.blk Va B 2
      have Za := a.k Xa
      obtain ⟨ab, bb, ma, cb, na⟩ := Ya.sto Wa [(Il b.Crop), (Il b.Week.Lo), (Il b.Week.Hi), (Il b.Damage.Lo), (Il b.Damage.Hi), (Il b.Old.Lo), (Il b.Old.Hi)]
      have oa := Za.k cb
      refine ⟨ab, bb, ?_⟩
      refine ⟨trivial, _, na.bk.rc rfl, trivial, _, oa.bk.rc rfl, ha101.isSl, ?_⟩
      obtain ⟨pa, hp⟩ := gd_some hp
      refine ⟨(by first | exact pa | (rw [ha101.slLen]; exact pa)), ?_⟩
      try rw [ha101.slLen]
      obtain ⟨Oc, db, hp⟩ := bsome hp
      refine s_rIn (n := b.Crop) (low := (0 : Int)) (high := ((s.Rules.length : Int) - (1 : Int))) ma.pre  db fun ed eb => ?_
      obtain ⟨G, qa⟩ := ma.call eb g
      have sa := oa.k qa
      have ta := na.k qa
      refine ⟨_, rfl, ?_⟩
      refine ifnb hp (fun fb hp => ?_) fun fb hp => ?_
      ·obtain rfl := Option.some.inj hp
       exact hq _ G.ext'
      refine ⟨trivial, _, _, ta.bk.rp (k := 1) (j := 2) rfl (by omega), trivial, _, sa.bk.rc rfl, ?_⟩
      obtain ⟨Pc, gb, hp⟩ := bsome hp
      refine s_rWithin (r := b.Week) (low := (0 : Int)) (high := s.Last) G.pre  gb fun fd hb => ?_
      obtain ⟨I, ua⟩ := G.call hb g
      have ib := sa.k ua
      have va := ta.k ua
      refine ⟨_, rfl, ?_⟩
      refine ifnb hp (fun jb hp => ?_) fun jb hp => ?_
      ·obtain rfl := Option.some.inj hp
       exact hq _ I.ext'
      refine ⟨trivial, _, _, va.bk.rp (k := 3) (j := 2) rfl (by omega), ?_⟩
      obtain ⟨Qc, kb, hp⟩ := bsome hp
      refine s_rWithin (r := b.Damage) (low := (0 : Int)) (high := (100 : Int)) I.pre  kb fun hd mb => ?_
      obtain ⟨J, wa⟩ := I.call mb g
      have nb := ib.k wa
      have ob := va.k wa
      refine ⟨_, rfl, ?_⟩
      refine ifnb hp (fun pb hp => ?_) fun pb hp => ?_
      ·obtain rfl := Option.some.inj hp
       exact hq _ J.ext'
      refine ⟨trivial, _, _, ob.bk.rp (k := 5) (j := 2) rfl (by omega), ?_⟩
      obtain ⟨Rc, qb, hp⟩ := bsome hp
      refine s_rWithin (r := b.Old) (low := (0 : Int)) (high := (100 : Int)) J.pre  qb fun id rb => ?_
      obtain ⟨xa, sb⟩ := J.call rb g
      have tb := nb.k sb
      refine ⟨_, rfl, ?_⟩
      refine ifnb hp (fun ub hp => ?_) fun ub hp => ?_
      ·obtain rfl := Option.some.inj hp
       exact hq _ xa.ext'
      refine gdi hp fun vb hp => ?_
      exact Ka _ _ _ g xa tb hp
     intro Gc wb
     have hgo : ∀ (q : Nat) (da : Int) (ea : Int) (D : M) (h : Nat → Nat), St (Fm.of m) f f D → Lb (Fm.of m) f h D 1 m.nxt 4 [(Il s.Last), ca101, ca102, ca103] → prFault_L2 s q da ea = some rz → Gc [.c (Il da), .c (Il ea)] D := by
      intro q
      induction q with
      | zero => intro da ea D h t a hp; cases hp
      | succ q La =>
       intro da ea D h t a hp
       refine wb _ _ _ ?_
       rw [prFault_L2] at hp
       refine ⟨trivial, _, a.bk.rc rfl, ha103.isSl, ?_⟩
       try rw [ha103.slLen]
       refine ifd hp (fun xb hp => ?_) fun xb hp => ?_; rotate_left
       ·intro Hc yb
        have hgo : ∀ (u : Nat) (ya : Int) (fa : Int) (F : M) (i : Nat → Nat), St (Fm.of m) f f F → Lb (Fm.of m) f i F 1 m.nxt 4 [(Il s.Last), ca101, ca102, ca103] → prFault_L3 s u fa = some rz → Hc [.c (Il ya), .c (Il fa)] F := by
         intro u
         induction u with
         | zero => intro ya fa F i o a hp; cases hp
         | succ u Ma =>
          intro ya fa F i o a hp
          refine yb _ _ _ ?_
          rw [prFault_L3] at hp
          refine ⟨trivial, _, a.bk.rc rfl, ha102.isSl, ?_⟩
          try rw [ha102.slLen]
          refine ifd hp (fun zb hp => ?_) fun zb hp => ?_; rotate_left
          ·obtain rfl := Option.some.inj hp
           exact hq _ o.ext'
          refine ⟨trivial, _, a.bk.rc rfl, ?_⟩
          obtain ⟨Ab, N, hp⟩ := bsome hp
          obtain ⟨Ic, Na, ga, N⟩ := idx_some N
          obtain ⟨_, Bb⟩ := rd_Fld ha102 N
          refine ⟨Ic, Na, (by first | exact ga | (rw [ha102.slLen]; exact ga)), _, _, _, _, _, _, _, (Bb _ o.sub).1, ?_⟩
          obtain ⟨Tc, Cb, hp⟩ := bsome hp
          refine s_rMany (fl := Ab) o.pre  Cb fun Uc Db => ?_
          obtain ⟨za, Eb⟩ := o.call Db i
          have Fb := a.k Eb
          refine ⟨_, rfl, ?_⟩
          refine ifd hp (fun Gb hp => ?_) fun Gb hp => ?_
          ·obtain rfl := Option.some.inj hp
           exact hq _ za.ext'
          refine gdi hp fun Hb hp => ?_
          exact Ma _ _ _ i za Fb hp
        exact hgo _ _ _ _ h t a hp
       refine ⟨trivial, _, a.bk.rc rfl, ?_⟩
       obtain ⟨d, O, hp⟩ := bsome hp
       obtain ⟨Jc, Oa, ha, O⟩ := idx_some O
       obtain ⟨_, Ib⟩ := rd_Vis ha103 O
       refine ⟨Jc, Oa, (by first | exact ha | (rw [ha103.slLen]; exact ha)), _, _, _, _, (Ib _ t.sub).1, ?_⟩
       intro jd Jb
       obtain ⟨x, Kb, Mb, Nb⟩ := t.blk Jb h 3
       have Ob := a.k Mb
       obtain ⟨Pb, Qb, Aa, Rb, Ba⟩ := Nb.sto Kb [(Il d.Field), (Il d.Week), (Il d.Seen.Lo), (Il d.Seen.Hi)]
       have Ca := Ob.k Rb
       refine ⟨Pb, Qb, ?_⟩
       refine ⟨trivial, _, Ba.bk.rc rfl, trivial, _, Ca.bk.rc rfl, ha102.isSl, ?_⟩
       obtain ⟨Da, hp⟩ := gd_some hp
       refine ⟨(by first | exact Da | (rw [ha102.slLen]; exact Da)), ?_⟩
       try rw [ha102.slLen]
       obtain ⟨Vc, Sb, hp⟩ := bsome hp
       refine s_rIn (n := d.Field) (low := (0 : Int)) (high := ((s.Fields.length : Int) - (1 : Int))) Aa.pre  Sb fun kd Tb => ?_
       obtain ⟨P, Ea⟩ := Aa.call Tb x
       have Fa := Ca.k Ea
       have Ga := Ba.k Ea
       refine ⟨_, rfl, ?_⟩
       refine ifnb hp (fun Ub hp => ?_) fun Ub hp => ?_
       ·obtain rfl := Option.some.inj hp
        exact hq _ P.ext'
       refine ⟨trivial, _, Ga.bk.rc rfl, trivial, _, Fa.bk.rc rfl, ?_⟩
       obtain ⟨Xc, Vb, hp⟩ := bsome hp
       refine s_rIn (n := d.Week) (low := (0 : Int)) (high := s.Last) P.pre  Vb fun ld Wb => ?_
       obtain ⟨S, Ha⟩ := P.call Wb x
       have Xb := Fa.k Ha
       have Yb := Ga.k Ha
       refine ⟨_, rfl, ?_⟩
       refine ifnb hp (fun Zb hp => ?_) fun Zb hp => ?_
       ·obtain rfl := Option.some.inj hp
        exact hq _ S.ext'
       refine ⟨trivial, _, _, Yb.bk.rp (k := 2) (j := 2) rfl (by omega), ?_⟩
       obtain ⟨Yc, ac, hp⟩ := bsome hp
       refine s_rWithin (r := d.Seen) (low := (0 : Int)) (high := (100 : Int)) S.pre  ac fun md bc => ?_
       obtain ⟨Ia, cc⟩ := S.call bc x
       have dc := Xb.k cc
       refine ⟨_, rfl, ?_⟩
       refine ifnb hp (fun ec hp => ?_) fun ec hp => ?_
       ·obtain rfl := Option.some.inj hp
        exact hq _ Ia.ext'
       refine gdi hp fun fc hp => ?_
       exact La _ _ _ x Ia dc hp
     exact hgo _ _ _ _ B ca a hp
   exact hgo _ _ _ _ p z a hp
 exact hgo _ _ _ _ hc e a hp
theorem s_rNth {fl : Fld} {n : Int} {m f : M} {Q : V → M → Prop} {rz : Trh} (hS : Pre f m)  (hp : prNth fl n = some rz) (hq : ∀ m', Ext m m' → Q (.agg 3 [(Il rz.Week), (Il rz.Damage), (Il rz.Old)]) m') : Wc prog tbl 48 [.agg 7 [(Il fl.Crop), (Il fl.Week.Lo), (Il fl.Week.Hi), (Il fl.Damage.Lo), (Il fl.Damage.Hi), (Il fl.Old.Lo), (Il fl.Old.Hi)], .c (Il n)] m Q := by
 have S0 := hS.st
 obtain ⟨τ0, _⟩ : ∃ τ : Nat → Nat, True := ⟨fun _ => 0, trivial⟩
 refine w48 ?_
 unfold prNth at hp
 intro m0 O
 obtain ⟨P, S, ib, T⟩ := S0.blk O τ0 1
 intro m1 Y
 obtain ⟨Z, aa, ba, ca⟩ := S.blk Y P 2
 have da := T.k ba
 intro m2 ea
 obtain ⟨d, z, A, fa⟩ := aa.blk ea Z 3
 have e := da.k A
 have ga := ca.k A
 refine ⟨trivial, trivial, _, e.bk.rc rfl, trivial, _, _, e.bk.rp (k := 1) (j := 2) rfl (by omega), ?_⟩
 obtain ⟨b, ha, hp⟩ := bsome hp
 refine s_rCount (r := fl.Week) z.pre  ha fun m7 ia => ?_
 obtain ⟨B, i⟩ := z.call ia d
 have l := e.k i
 have ja := ga.k i
 have ka := fa.k i
 refine ⟨_, rfl, (l.bk.rc rfl), ?_⟩
 refine gdi hp fun la hp => ?_
 refine gdi hp fun ma hp => ?_
 refine gdi hp fun na hp => ?_
 obtain ⟨oa, hp⟩ := gd_some hp
 refine ⟨oa, trivial, _, _, l.bk.rp (k := 1) (j := 2) rfl (by omega), (e.bk.rp (k := 1) (j := 2) rfl (by omega)), ?_⟩
 obtain ⟨a, pa, hp⟩ := bsome hp
 refine s_rCount (r := fl.Week) B.pre  pa fun kb qa => ?_
 obtain ⟨sa, o⟩ := B.call qa d
 have D := l.k o
 have ta := ja.k o
 have ua := ka.k o
 refine ⟨_, rfl, (D.bk.rc rfl), ?_⟩
 refine gdi hp fun va hp => ?_
 refine gdi hp fun wa hp => ?_
 obtain ⟨xa, hp⟩ := gd_some hp
 refine ⟨xa, trivial, ?_⟩
 obtain ⟨ya, za, F, G, p⟩ := ua.sto1 sa 0 (Il (fl.Week.Lo + (n % b))) (by simp) rfl
 replace p : Lb _ _ _ _ _ _ _ [(Il (fl.Week.Lo + (n % b))), (Il 0), (Il 0)] := p
 have g := D.k G
 have Aa := ta.k G
 refine ⟨ya, za, ?_⟩
 refine ⟨trivial, trivial, _, g.bk.rc rfl, trivial, _, _, g.bk.rp (k := 3) (j := 2) rfl (by omega), ?_⟩
 obtain ⟨h, Ba, hp⟩ := bsome hp
 refine s_rCount (r := fl.Damage) F.pre  Ba fun mb Ca => ?_
 obtain ⟨I, q⟩ := F.call Ca d
 have s := g.k q
 have Da := Aa.k q
 have Ea := p.k q
 refine ⟨_, rfl, (s.bk.rc rfl), ?_⟩
 refine gdi hp fun Fa hp => ?_
 refine gdi hp fun Ga hp => ?_
 refine gdi hp fun Ha hp => ?_
 obtain ⟨Ia, hp⟩ := gd_some hp
 refine ⟨Ia, trivial, _, _, s.bk.rp (k := 3) (j := 2) rfl (by omega), (g.bk.rp (k := 3) (j := 2) rfl (by omega)), ?_⟩
 obtain ⟨t, Ja, hp⟩ := bsome hp
 refine s_rCount (r := fl.Damage) I.pre  Ja fun nb Ka => ?_
 obtain ⟨La, u⟩ := I.call Ka d
 have J := s.k u
 have Ma := Da.k u
 have Na := Ea.k u
 refine ⟨_, rfl, (J.bk.rc rfl), ?_⟩
 refine gdi hp fun Oa hp => ?_
 refine gdi hp fun Pa hp => ?_
 obtain ⟨Qa, hp⟩ := gd_some hp
 refine ⟨Qa, trivial, ?_⟩
 obtain ⟨Ra, Sa, Ta, N, x⟩ := Na.sto1 La 1 (Il (fl.Damage.Lo + ((n / a) % h))) (by simp) rfl
 replace x : Lb _ _ _ _ _ _ _ [(Il (fl.Week.Lo + (n % b))), (Il (fl.Damage.Lo + ((n / a) % h))), (Il 0)] := x
 have Ua := J.k N
 have Va := Ma.k N
 refine ⟨Ra, Sa, ?_⟩
 refine ⟨trivial, trivial, _, Ua.bk.rc rfl, ?_⟩
 obtain ⟨Wa, hp⟩ := gd_some hp
 refine ⟨Wa, trivial, ?_⟩
 obtain ⟨Xa, Ya, Za, ab, y⟩ := x.sto1 Ta 2 (Il (fl.Old.Lo + ((n / a) / t))) (by simp) rfl
 replace y : Lb _ _ _ _ _ _ _ [(Il (fl.Week.Lo + (n % b))), (Il (fl.Damage.Lo + ((n / a) % h))), (Il (fl.Old.Lo + ((n / a) / t)))] := y
 have bb := Va.k ab
 refine ⟨Xa, Ya, ?_⟩
 refine ⟨_, _, _, y.bk.ra, ?_⟩
 obtain ⟨cb, db, eb, jb, fb⟩ := bb.sto Za [(Il (fl.Week.Lo + (n % b))), (Il (fl.Damage.Lo + ((n / a) % h))), (Il (fl.Old.Lo + ((n / a) / t)))]
 refine ⟨cb, db, ?_⟩
 refine ⟨_, _, _, fb.bk.ra, ?_⟩
 obtain rfl := Option.some.inj hp
 exact hq _ eb.ext'
theorem s_rDamage_F : ∀ (d_ : Nat) (s : Ssn) (crop : Int) (t : Trh) (week : Int) (ca101 ca102 ca103 : C) (m f : M) (Q : V → M → Prop) (rz : Int), Pre f m → Sl f ca101 s.Rules → Sl f ca102 s.Fields → Sl f ca103 s.Visits → prDamage_F d_ s crop t week = some rz → (∀ m', Ext m m' → Q (.c (Il rz)) m') → Wc prog tbl 76 [.agg 4 [(Il s.Last), ca101, ca102, ca103], .c (Il crop), .agg 3 [(Il t.Week), (Il t.Damage), (Il t.Old)], .c (Il week)] m Q := by
 intro d_
 induction d_ with
 | zero => intro s crop t week ca101 ca102 ca103 m f Q rz hS a i j hp; cases hp
 | succ d_ ih =>
 intro s crop t week ca101 ca102 ca103 m f Q rz hS a i j hp hq
 have S0 := hS.st
 obtain ⟨τ0, _⟩ : ∃ τ : Nat → Nat, True := ⟨fun _ => 0, trivial⟩
 refine w76 ?_
 rw [prDamage_F] at hp
 intro m0 u
 obtain ⟨x, y, ia, z⟩ := S0.blk u τ0 1
 intro m1 A
 obtain ⟨B, b, D, d⟩ := y.blk A x 2
 have o := z.k D
 refine ⟨trivial, _, d.bk.rc rfl, ?_⟩
 refine ifd hp (fun F hp => ?_) fun F hp => ?_
 ·obtain rfl := Option.some.inj hp
  exact hq _ b.ext'
 refine ⟨trivial, _, d.bk.rc rfl, ?_⟩
 refine ifd hp (fun G hp => ?_) fun G hp => ?_
 ·refine ⟨trivial, _, d.bk.rc rfl, ?_⟩
  obtain rfl := Option.some.inj hp
  exact hq _ b.ext'
 refine ⟨_, _, _, _, o.bk.ra, _, _, _, d.bk.ra, ?_⟩
 refine gdi hp fun I hp => ?_
 obtain ⟨ja, J, hp⟩ := bsome hp
 refine ih s crop t (week - 1) _ _ _ _ _ _ _ b.pre a i j J fun na N => ?_
 obtain ⟨e, O⟩ := b.call N B
 have P := o.k O
 refine ⟨_, rfl, trivial, _, P.bk.rc rfl, ?_⟩
 obtain ⟨ka, g, hp⟩ := bsome hp
 obtain ⟨ea, q, l, g⟩ := idx_some g
 obtain ⟨la, S, p⟩ := a.rdS g
 refine ⟨ea, q, (by first | exact l | (rw [a.slLen]; exact l)), _, (S _ e.sub), ?_⟩
 obtain ⟨ma, h, hp⟩ := bsome hp
 obtain ⟨fa, r, n, h⟩ := idx_some h
 refine ⟨fa, r, (by first | exact n | (rw [p.slLen]; exact n)), _, (p.rdI h e.sub), ?_⟩
 refine gdi hp fun T hp => ?_
 refine gdi hp fun Y hp => ?_
 refine gdi hp fun Z hp => ?_
 refine gdi hp fun aa hp => ?_
 refine gdi hp fun ba hp => ?_
 refine gdi hp fun ca hp => ?_
 refine gdi hp fun da hp => ?_
 obtain rfl := Option.some.inj hp
 exact hq _ e.ext'
theorem s_rDamage {s : Ssn} {crop : Int} {t : Trh} {week : Int} {ca101 ca102 ca103 : C} {m f : M} {Q : V → M → Prop} {rz : Int} (hS : Pre f m) (ha101 : Sl f ca101 s.Rules) (ha102 : Sl f ca102 s.Fields) (ha103 : Sl f ca103 s.Visits) (hp : prDamage s crop t week = some rz) (hq : ∀ m', Ext m m' → Q (.c (Il rz)) m') : Wc prog tbl 76 [.agg 4 [(Il s.Last), ca101, ca102, ca103], .c (Il crop), .agg 3 [(Il t.Week), (Il t.Damage), (Il t.Old)], .c (Il week)] m Q := s_rDamage_F _ s crop t week ca101 ca102 ca103 m f Q rz hS ha101 ha102 ha103 hp hq
theorem s_rHarvest {s : Ssn} {field : Int} {t : Trh} {ca101 ca102 ca103 : C} {m f : M} {Q : V → M → Prop} {rz : Int} (hS : Pre f m) (ha101 : Sl f ca101 s.Rules) (ha102 : Sl f ca102 s.Fields) (ha103 : Sl f ca103 s.Visits) (hp : prHarvest s field t = some rz) (hq : ∀ m', Ext m m' → Q (.c (Il rz)) m') : Wc prog tbl 27 [.agg 4 [(Il s.Last), ca101, ca102, ca103], .c (Il field), .agg 3 [(Il t.Week), (Il t.Damage), (Il t.Old)]] m Q := by
 have A := hS.st
 obtain ⟨B, _⟩ : ∃ τ : Nat → Nat, True := ⟨fun _ => 0, trivial⟩
 refine w27 ?_
 unfold prHarvest at hp
 intro N h
 obtain ⟨i, j, D, l⟩ := A.blk h B 1
 intro O n
 obtain ⟨o, b, p, q⟩ := j.blk n i 2
 have d := l.k p
 refine ⟨_, _, _, _, d.bk.ra, trivial, _, d.bk.rc rfl, ?_⟩
 obtain ⟨r, a, hp⟩ := bsome hp
 obtain ⟨F, g, e, a⟩ := idx_some a
 obtain ⟨_, u⟩ := rd_Fld ha102 a
 refine ⟨F, g, (by first | exact e | (rw [ha102.slLen]; exact e)), (ha102.isPt a _), _, ((u _ b.sub).2.1 0 _ rfl), _, _, _, q.bk.ra, trivial, _, d.bk.rc rfl, ?_⟩
 obtain ⟨G, x, hp⟩ := bsome hp
 refine s_rDamage (s := s) (crop := r.Crop) (t := t) (week := s.Last) b.pre ha101 ha102 ha103 x fun J y => ?_
 obtain ⟨z, I⟩ := b.call y o
 refine ⟨_, rfl, ?_⟩
 obtain rfl := Option.some.inj hp
 exact hq _ z.ext'
theorem s_rSeen {s : Ssn} {field : Int} {t : Trh} {week : Int} {ca101 ca102 ca103 : C} {m f : M} {Q : V → M → Prop} {rz : Int} (hS : Pre f m) (ha101 : Sl f ca101 s.Rules) (ha102 : Sl f ca102 s.Fields) (ha103 : Sl f ca103 s.Visits) (hp : prSeen s field t week = some rz) (hq : ∀ m', Ext m m' → Q (.c (Il rz)) m') : Wc prog tbl 47 [.agg 4 [(Il s.Last), ca101, ca102, ca103], .c (Il field), .agg 3 [(Il t.Week), (Il t.Damage), (Il t.Old)], .c (Il week)] m Q := by
 have F := hS.st
 obtain ⟨G, _⟩ : ∃ τ : Nat → Nat, True := ⟨fun _ => 0, trivial⟩
 refine w47 ?_
 unfold prSeen at hp
 intro P i
 obtain ⟨j, l, I, n⟩ := F.blk i G 1
 intro S o
 obtain ⟨p, b, q, d⟩ := l.blk o j 2
 have g := n.k q
 refine ⟨trivial, _, d.bk.rc rfl, _, _, _, _, g.bk.ra, trivial, _, g.bk.rc rfl, ?_⟩
 obtain ⟨r, a, hp⟩ := bsome hp
 obtain ⟨J, h, e, a⟩ := idx_some a
 obtain ⟨_, u⟩ := rd_Fld ha102 a
 refine ⟨J, h, (by first | exact e | (rw [ha102.slLen]; exact e)), (ha102.isPt a _), _, ((u _ b.sub).2.1 0 _ rfl), _, _, _, d.bk.ra, ?_⟩
 obtain ⟨N, x, hp⟩ := bsome hp
 refine s_rDamage (s := s) (crop := r.Crop) (t := t) (week := week) b.pre ha101 ha102 ha103 x fun O y => ?_
 obtain ⟨z, A⟩ := b.call y p
 have B := d.k A
 refine ⟨_, rfl, (B.bk.rc rfl), ?_⟩
 refine gdi hp fun D hp => ?_
 obtain rfl := Option.some.inj hp
 exact hq _ z.ext'
theorem s_rRight {s : Ssn} {v : Vis} {t : Trh} {ca101 ca102 ca103 : C} {m f : M} {Q : V → M → Prop} {rz : Bool} (hS : Pre f m) (ha101 : Sl f ca101 s.Rules) (ha102 : Sl f ca102 s.Fields) (ha103 : Sl f ca103 s.Visits) (hp : prRight s v t = some rz) (hq : ∀ m', Ext m m' → Q (.c (.bool rz)) m') : Wc prog tbl 77 [.agg 4 [(Il s.Last), ca101, ca102, ca103], .agg 4 [(Il v.Field), (Il v.Week), (Il v.Seen.Lo), (Il v.Seen.Hi)], .agg 3 [(Il t.Week), (Il t.Damage), (Il t.Old)]] m Q := by
 have P := hS.st
 obtain ⟨S, _⟩ : ∃ τ : Nat → Nat, True := ⟨fun _ => 0, trivial⟩
 refine w77 ?_
 unfold prRight at hp
 intro m0 i
 obtain ⟨j, l, T, o⟩ := P.blk i S 1
 intro m1 p
 obtain ⟨q, r, u, x⟩ := l.blk p j 2
 have y := o.k u
 intro m2 z
 obtain ⟨b, d, e, A⟩ := r.blk z q 3
 have B := y.k e
 have a := x.k e
 refine ⟨_, _, _, _, B.bk.ra, trivial, _, a.bk.rc rfl, _, _, _, A.bk.ra, trivial, _, a.bk.rc rfl, ?_⟩
 obtain ⟨D, F, hp⟩ := bsome hp
 refine s_rSeen (s := s) (field := v.Field) (t := t) (week := v.Week) d.pre ha101 ha102 ha103 F fun aa G => ?_
 obtain ⟨g, I⟩ := d.call G b
 have h := a.k I
 refine ⟨_, rfl, trivial, trivial, _, h.bk.rc rfl, (a.bk.rc rfl), trivial, trivial, _, h.bk.rc rfl, (a.bk.rc rfl), ?_⟩
 obtain ⟨Y, J, hp⟩ := bsome hp
 refine s_rIn (n := D) (low := v.Seen.Lo) (high := v.Seen.Hi) g.pre  J fun ba N => ?_
 obtain ⟨O, Z⟩ := g.call N b
 refine ⟨_, rfl, ?_⟩
 obtain rfl := Option.some.inj hp
 exact hq _ O.ext'
theorem s_rAll {s : Ssn} {field : Int} {ca101 ca102 ca103 : C} {m f : M} {Q : V → M → Prop} {rz : List Int} (hS : Pre f m) (ha101 : Sl f ca101 s.Rules) (ha102 : Sl f ca102 s.Fields) (ha103 : Sl f ca103 s.Visits) (hp : prAll s field = some rz) (hq : ∀ m' f' c0, Grw m f m' f' → Sl f' c0 rz → Q (.c c0) m') : Wc prog tbl 67 [.agg 4 [(Il s.Last), ca101, ca102, ca103], .c (Il field)] m Q := by
 have S0 := hS.st
 obtain ⟨τ0, _⟩ : ∃ τ : Nat → Nat, True := ⟨fun _ => 0, trivial⟩
 refine w67 ?_
 unfold prAll at hp
 intro m0 ia
 obtain ⟨ja, ka, wb, j⟩ := S0.blk ia τ0 1
 intro R1 pb
 have hgo : ∀ (l : Nat) (O : C) (P : Int) (h : List Int) (S : M) (i : Nat → Nat), St (Fm.of m) f f S → Lb (Fm.of m) f i S 1 m.nxt 4 [(Il s.Last), ca101, ca102, ca103] → Ow (Fm.of m) f i S 2 O h → prAll_L0 s field l h P = some rz → R1 [.c O, .c (Il P)] S := by
  intro l
  induction l with
  | zero => intro O P h S i q j b hp; cases hp
  | succ l la =>
   intro O P h S i q j b hp
   refine pb _ _ _ ?_
   rw [prAll_L0] at hp
   refine ⟨trivial, _, j.bk.rc rfl, ?_⟩
   obtain ⟨ma, y, hp⟩ := bsome hp
   obtain ⟨n6, ea, F, y⟩ := idx_some y
   obtain ⟨_, na⟩ := rd_Fld ha102 y
   refine ⟨n6, ea, (by first | exact F | (rw [ha102.slLen]; exact F)), _, _, _, _, _, _, _, (na _ q.sub).1, ?_⟩
   obtain ⟨zb, oa, hp⟩ := bsome hp
   refine s_rMany (fl := ma) q.pre  oa fun Db pa => ?_
   obtain ⟨T, Y⟩ := q.call pa i
   have d := j.k Y
   have b := b.k Y
   refine ⟨_, rfl, ?_⟩
   refine ifd hp (fun qa hp => ?_) fun qa hp => ?_; rotate_left
   ·obtain ⟨sa, ta, Ab, ua⟩ := b.freeze T
    obtain rfl := Option.some.inj hp
    exact hq _ sa O ta.grw ua
   intro qb va
   have hgo : ∀ (r : Nat) (o : Int) (G : Int) (p : M) (e : Nat → Nat), St (Fm.of m) f f p → Lb (Fm.of m) f e p 1 m.nxt 4 [(Il s.Last), ca101, ca102, ca103] → Ow (Fm.of m) f e p 2 O h → prAll_L1 s field h P (prAll_L0 s field l) r o G = some rz → qb [.c (Il o), .c (Il G)] p := by
    intro r
    induction r with
    | zero => intro o G p e g d b hp; cases hp
    | succ r u =>
     intro o G p e g d b hp
     refine va _ _ _ ?_
     rw [prAll_L1] at hp
     refine ⟨trivial, _, d.bk.rc rfl, ha103.isSl, ?_⟩
     try rw [ha103.slLen]
     refine ifd hp (fun wa hp => ?_) fun wa hp => ?_; rotate_left
     ·obtain ⟨xa, hp⟩ := gd_some hp
      intro Eb ya
      obtain ⟨za, Aa, Ba, Ca, Da, Ea, Fa⟩ := b.app' ta75 g (a := o) (show Rp.rep (α := Int) f _ o from rfl) xa ya
      have Ga := d.k Ea
      refine ⟨za, Aa, Ca, ?_⟩
      refine gdi hp fun Ha hp => ?_
      exact la _ _ _ _ Ba Da Ga Fa hp
     refine ⟨trivial, _, d.bk.rc rfl, ?_⟩
     obtain ⟨Bb, x, hp⟩ := bsome hp
     obtain ⟨rb, fa, I, x⟩ := idx_some x
     obtain ⟨_, Ia⟩ := rd_Vis ha103 x
     refine ⟨rb, fa, (by first | exact I | (rw [ha103.slLen]; exact I)), (ha103.isPt x _), _, ((Ia _ g.sub).2.1 0 _ rfl), ?_⟩
     refine ifnd hp (fun Ja hp => ?_) fun Ja hp => ?_
     ·refine gdi hp fun Ka hp => ?_
      refine gdi hp fun La hp => ?_
      refine gdi hp fun Ma hp => ?_
      refine gdi hp fun Na hp => ?_
      refine gdi hp fun Oa hp => ?_
      refine gdi hp fun Pa hp => ?_
      refine gdi hp fun Qa hp => ?_
      refine gdi hp fun Ra hp => ?_
      refine gdi hp fun Sa hp => ?_
      refine gdi hp fun Ta hp => ?_
      exact u _ _ _ e g d b hp
     refine ⟨_, _, _, _, d.bk.ra, trivial, _, d.bk.rc rfl, ?_⟩
     obtain ⟨Ua, z, hp⟩ := bsome hp
     obtain ⟨sb, ga, J, z⟩ := idx_some z
     obtain ⟨_, Z⟩ := rd_Vis ha103 z
     refine ⟨sb, ga, (by first | exact J | (rw [ha103.slLen]; exact J)), _, _, _, _, (Z _ g.sub).1, trivial, _, d.bk.rc rfl, ?_⟩
     obtain ⟨Va, A, hp⟩ := bsome hp
     obtain ⟨tb, ha, N, A⟩ := idx_some A
     obtain ⟨_, Wa⟩ := rd_Fld ha102 A
     refine ⟨tb, ha, (by first | exact N | (rw [ha102.slLen]; exact N)), _, _, _, _, _, _, _, (Wa _ g.sub).1, ?_⟩
     obtain ⟨Xa, Ya, hp⟩ := bsome hp
     refine s_rNth (fl := Va) (n := P) g.pre  Ya fun Fb Za => ?_
     obtain ⟨B, aa⟩ := g.call Za e
     have D := d.k aa
     have b := b.k aa
     refine ⟨_, _, _, rfl, (Z _ B.sub).1, (by rw [show noFnC _ = true from ha103.noFn]; exact (D.bk.rc rfl)), (by rw [show allS noFnC _ = true from (nf_cons rfl (nf_cons ha101.noFn (nf_cons ha102.noFn (nf_cons ha103.noFn nf_nil))))]; exact (D.bk.ra)), ?_⟩
     obtain ⟨Cb, ab, hp⟩ := bsome hp
     refine s_rRight (s := s) (v := Ua) (t := Xa) B.pre ha101 ha102 ha103 ab fun Gb bb => ?_
     obtain ⟨ba, ca⟩ := B.call bb e
     have da := D.k ca
     have b := b.k ca
     refine ⟨_, rfl, ?_⟩
     refine ifbb hp (fun cb hp => ?_) fun cb hp => ?_; rotate_left
     ·refine gdi hp fun db hp => ?_
      exact u _ _ _ e ba da b hp
     refine gdi hp fun eb hp => ?_
     refine gdi hp fun fb hp => ?_
     refine gdi hp fun gb hp => ?_
     refine gdi hp fun hb hp => ?_
     refine gdi hp fun ib hp => ?_
     refine gdi hp fun jb hp => ?_
     refine gdi hp fun kb hp => ?_
     refine gdi hp fun mb hp => ?_
     refine gdi hp fun nb hp => ?_
     refine gdi hp fun ob hp => ?_
     exact u _ _ _ e ba da b hp
   exact hgo _ _ _ _ i T d b hp
 exact hgo _ _ _ _ _ ja ka j (Ow.nil _ _ _ _ _) hp
theorem s_rEvery {s : Ssn} {ca101 ca102 ca103 : C} {m f : M} {Q : V → M → Prop} {rz : List (List Int)} (hS : Pre f m) (ha101 : Sl f ca101 s.Rules) (ha102 : Sl f ca102 s.Fields) (ha103 : Sl f ca103 s.Visits) (hp : prEvery s = some rz) (hq : ∀ m' f' c0, Grw m f m' f' → Sl f' c0 rz → Q (.c c0) m') : Wc prog tbl 41 [.agg 4 [(Il s.Last), ca101, ca102, ca103]] m Q := by
 have S0 := hS.st
 obtain ⟨τ0, _⟩ : ∃ τ : Nat → Nat, True := ⟨fun _ => 0, trivial⟩
 refine w41 ?_
 unfold prEvery at hp
 intro m0 u
 obtain ⟨x, y, ja, d⟩ := S0.blk u τ0 1
 intro R1 ga
 have hgo : ∀ (i : Nat) (p : C) (q : Int) (j : List (List Int)) (o : M) (e : M) (g : Nat → Nat), St (Fm.of m) f e o → Sub f e → Lb (Fm.of m) e g o 1 m.nxt 4 [(Il s.Last), ca101, ca102, ca103] → Ow (Fm.of m) e g o 2 p j → prEvery_L0 s i j q = some rz → R1 [.c p, .c (Il q)] o := by
  intro i
  induction i with
  | zero => intro p q j o e g l b d h hp; cases hp
  | succ i z =>
   intro p q j o e g l b d h hp
   refine ga _ _ _ ?_
   rw [prEvery_L0] at hp
   refine ⟨trivial, _, d.bk.rc rfl, ha102.isSl, ?_⟩
   try rw [ha102.slLen]
   refine ifd hp (fun A hp => ?_) fun A hp => ?_; rotate_left
   ·obtain ⟨B, D, la, F⟩ := h.freeze l
    obtain rfl := Option.some.inj hp
    exact hq _ B p D.grw F
   refine ⟨_, _, _, _, d.bk.ra, ?_⟩
   obtain ⟨r, G, hp⟩ := bsome hp
   refine s_rAll (s := s) (field := q) l.pre (ha101.sub b) (ha102.sub b) (ha103.sub b) G fun na t ma I J => ?_
   obtain ⟨N, n⟩ := l.callG I g
   have O := d.k n
   have h := h.k n
   refine ⟨_, rfl, ?_⟩
   obtain ⟨P, hp⟩ := gd_some hp
   intro oa S
   obtain ⟨T, Y, Z, aa, ba, ca, da⟩ := h.app' ta22 N (a := r) (show Rp.rep (α := List Int) t _ r from ⟨_, rfl, J⟩) P S
   have ea := O.k ca
   refine ⟨T, Y, aa, ?_⟩
   refine gdi hp fun fa hp => ?_
   exact z _ _ _ _ t Z ba (Sub.trans b n.fs) ea da hp
 exact hgo _ _ _ _ _ f x y (Sub.refl _) d (Ow.nil _ _ _ _ _) hp
theorem s_rCan {every : List (List Int)} {visits : Int} {ca100 : C} {m f : M} {Q : V → M → Prop} {rz : Bool} (hS : Pre f m) (ha100 : Sl f ca100 every) (hp : prCan every visits = some rz) (hq : ∀ m', Ext m m' → Q (.c (.bool rz)) m') : Wc prog tbl 64 [.c ca100, .c (Il visits)] m Q := by
 have S0 := hS.st
 obtain ⟨τ0, _⟩ : ∃ τ : Nat → Nat, True := ⟨fun _ => 0, trivial⟩
 refine w64 ?_
 unfold prCan at hp
 intro R0 fa
 have hgo : ∀ (b : Nat) (F : Bool) (q : Int) (u : M) (g : Nat → Nat), St (Fm.of m) f f u → prCan_L0 every visits b q = some rz → R0 [.c (.bool F), .c (Il q)] u := by
  intro b
  induction b with
  | zero => intro F q u g h hp; cases hp
  | succ b G =>
   intro F q u g h hp
   refine fa _ _ _ ?_
   rw [prCan_L0] at hp
   refine ⟨ha100.isSl, ?_⟩
   try rw [ha100.slLen]
   refine ifd hp (fun I hp => ?_) fun I hp => ?_; rotate_left
   ·obtain rfl := Option.some.inj hp
    exact hq _ h.ext'
   intro R4 ga
   have hgo : ∀ (e : Nat) (x : Bool) (y : Int) (z : M) (d : Nat → Nat), St (Fm.of m) f f z → prCan_L1 every visits q (prCan_L0 every visits b) e x y = some rz → R4 [.c (.bool x), .c (Il y)] z := by
    intro e
    induction e with
    | zero => intro x y z d a hp; cases hp
    | succ e r =>
     intro x y z d a hp
     refine ga _ _ _ ?_
     rw [prCan_L1] at hp
     obtain ⟨na, i, hp⟩ := bsome hp
     obtain ⟨n8, A, n, i⟩ := idx_some i
     obtain ⟨pa, J, s⟩ := ha100.rdS i
     refine ⟨n8, A, (by first | exact n | (rw [ha100.slLen]; exact n)), _, (J _ a.sub), s.isSl, ?_⟩
     try rw [s.slLen]
     refine ifd hp (fun N hp => ?_) fun N hp => ?_; rotate_left
     ·refine ifnb hp (fun O hp => ?_) fun O hp => ?_
      ·obtain rfl := Option.some.inj hp
       exact hq _ a.ext'
      refine gdi hp fun P hp => ?_
      exact G _ _ _ d a hp
     refine ifbb hp (fun S hp => ?_) fun S hp => ?_
     ·refine gdi hp fun T hp => ?_
      exact r _ _ _ d a hp
     obtain ⟨qa, j, hp⟩ := bsome hp
     obtain ⟨ha, B, o, j⟩ := idx_some j
     obtain ⟨sa, Y, t⟩ := ha100.rdS j
     refine ⟨ha, B, (by first | exact o | (rw [ha100.slLen]; exact o)), _, (Y _ a.sub), ?_⟩
     obtain ⟨ta, l, hp⟩ := bsome hp
     obtain ⟨ia, D, p, l⟩ := idx_some l
     refine ⟨ia, D, (by first | exact p | (rw [t.slLen]; exact p)), _, (t.rdI l a.sub), ?_⟩
     refine gdi hp fun Z hp => ?_
     refine gdi hp fun aa hp => ?_
     refine gdi hp fun ba hp => ?_
     refine gdi hp fun ca hp => ?_
     refine gdi hp fun da hp => ?_
     refine gdi hp fun ea hp => ?_
     exact r _ _ _ d a hp
   exact hgo _ _ _ _ g h hp
 exact hgo _ _ _ _ τ0 S0 hp
theorem s_rFull {s : Ssn} {ca101 ca102 ca103 : C} {m f : M} {Q : V → M → Prop} {rz : Int} (hS : Pre f m) (ha101 : Sl f ca101 s.Rules) (ha102 : Sl f ca102 s.Fields) (ha103 : Sl f ca103 s.Visits) (hp : prFull s = some rz) (hq : ∀ m', Ext m m' → Q (.c (Il rz)) m') : Wc prog tbl 51 [.agg 4 [(Il s.Last), ca101, ca102, ca103]] m Q := by
 have l := hS.st
 obtain ⟨n, _⟩ : ∃ τ : Nat → Nat, True := ⟨fun _ => 0, trivial⟩
 refine w51 ?_
 unfold prFull at hp
 intro q g
 obtain ⟨o, h, p, i⟩ := l.blk g n 1
 refine ⟨trivial, _, i.bk.rc rfl, ha103.isSl, ?_⟩
 refine gdi hp fun j hp => ?_
 obtain ⟨a, hp⟩ := gd_some hp
 refine ⟨(by first | exact a | (rw [ha103.slLen]; exact a)), ?_⟩
 obtain ⟨b, hp⟩ := gd_some hp
 refine ⟨(by first | exact b | (rw [ha103.slLen]; exact b)), ?_⟩
 obtain ⟨d, hp⟩ := gd_some hp
 refine ⟨(by first | exact d | (rw [ha103.slLen]; exact d)), ?_⟩
 obtain ⟨e, hp⟩ := gd_some hp
 refine ⟨(by first | exact e | (rw [ha103.slLen]; exact e)), ?_⟩
 try rw [ha103.slLen]
 obtain rfl := Option.some.inj hp
 exact hq _ h.ext'
theorem s_rTruths {s : Ssn} {field : Int} {ca101 ca102 ca103 : C} {m f : M} {Q : V → M → Prop} {rz : List Trh} (hS : Pre f m) (ha101 : Sl f ca101 s.Rules) (ha102 : Sl f ca102 s.Fields) (ha103 : Sl f ca103 s.Visits) (hp : prTruths s field = some rz) (hq : ∀ m' f' c0, Grw m f m' f' → Sl f' c0 rz → Q (.c c0) m') : Wc prog tbl 20 [.agg 4 [(Il s.Last), ca101, ca102, ca103], .c (Il field)] m Q := by
 have S0 := hS.st
 obtain ⟨τ0, _⟩ : ∃ τ : Nat → Nat, True := ⟨fun _ => 0, trivial⟩
 refine w20 ?_
 unfold prTruths at hp
 intro m0 S
 obtain ⟨A, B, Ga, D⟩ := S0.blk S τ0 1
 refine ⟨_, _, _, _, D.bk.ra, ?_⟩
 obtain ⟨T, Y, hp⟩ := bsome hp
 refine s_rAll (s := s) (field := field) B.pre ha101 ha102 ha103 Y fun m6 o Ha Z e => ?_
 obtain ⟨aa, g⟩ := B.callG Z A
 have h := D.k g
 refine ⟨_, rfl, ?_⟩
 intro R8 Ba
 have hgo : ∀ (p : Nat) (F : C) (t : Int) (q : List Trh) (l : M) (d : Nat → Nat), St (Fm.of m) f o l → Lb (Fm.of m) o d l 1 m.nxt 4 [(Il s.Last), ca101, ca102, ca103] → Ow (Fm.of m) o d l 2 F q → prTruths_L0 s field T p q t = some rz → R8 [.c F, .c (Il t)] l := by
  intro p
  induction p with
  | zero => intro F t q l d i h b hp; cases hp
  | succ p G =>
   intro F t q l d i h b hp
   refine Ba _ _ _ ?_
   rw [prTruths_L0] at hp
   refine ⟨e.isSl, ?_⟩
   try rw [e.slLen]
   refine ifd hp (fun ba hp => ?_) fun ba hp => ?_; rotate_left
   ·obtain ⟨ca, da, Ja, ea⟩ := b.freeze i
    obtain rfl := Option.some.inj hp
    exact hq _ ca F da.grw ea
   obtain ⟨Ka, r, hp⟩ := bsome hp
   obtain ⟨Ca, O, y, r⟩ := idx_some r
   refine ⟨Ca, O, (by first | exact y | (rw [e.slLen]; exact y)), _, (e.rdI r i.sub), _, _, _, _, h.bk.ra, ?_⟩
   obtain ⟨La, fa, hp⟩ := bsome hp
   refine s_rFull (s := s) i.pre (ha101.sub g.fs) (ha102.sub g.fs) (ha103.sub g.fs) fa fun Ma ga => ?_
   obtain ⟨j, I⟩ := i.call ga d
   have u := h.k I
   have b := b.k I
   refine ⟨_, rfl, (e.rdI r j.sub), ?_⟩
   refine ifd hp (fun ha hp => ?_) fun ha hp => ?_; rotate_left
   ·refine gdi hp fun ia hp => ?_
    exact G _ _ _ _ d j u b hp
   refine ⟨trivial, _, u.bk.rc rfl, ?_⟩
   obtain ⟨ja, x, hp⟩ := bsome hp
   obtain ⟨Da, P, z, x⟩ := idx_some x
   obtain ⟨_, ka⟩ := rd_Fld ha102 x
   refine ⟨Da, P, (by first | exact z | (rw [ha102.slLen]; exact z)), _, _, _, _, _, _, _, (ka _ (Sub.trans g.fs j.sub)).1, ?_⟩
   obtain ⟨J, la, hp⟩ := bsome hp
   refine s_rNth (fl := ja) (n := t) j.pre  la fun Na ma => ?_
   obtain ⟨na, N⟩ := j.call ma d
   have oa := u.k N
   have b := b.k N
   refine ⟨_, _, _, rfl, ?_⟩
   obtain ⟨pa, hp⟩ := gd_some hp
   intro Oa qa
   obtain ⟨sa, ta, ua, va, wa, xa, ya⟩ := b.app' ta49 na (a := J) (show Rp.rep (α := Trh) o _ J from rfl) pa qa
   have za := oa.k xa
   refine ⟨sa, ta, va, ?_⟩
   refine gdi hp fun Aa hp => ?_
   exact G _ _ _ _ ua wa za ya hp
 exact hgo _ _ _ _ _ A aa h (Ow.nil _ _ _ _ _) hp
theorem s_rWider {r : Rg} {n : Int} {m f : M} {Q : V → M → Prop} {rz : Rg} (hS : Pre f m)  (hp : prWider r n = some rz) (hq : ∀ m', Ext m m' → Q (.agg 2 [(Il rz.Lo), (Il rz.Hi)]) m') : Wc prog tbl 66 [.agg 2 [(Il r.Lo), (Il r.Hi)], .c (Il n)] m Q := by
 have t := hS.st
 obtain ⟨u, _⟩ : ∃ τ : Nat → Nat, True := ⟨fun _ => 0, trivial⟩
 refine w66 ?_
 unfold prWider at hp
 intro A b
 obtain ⟨d, e, x, g⟩ := t.blk b u 1
 intro B h
 obtain ⟨y, i, j, l⟩ := e.blk h d 2
 have a := g.k j
 refine ⟨trivial, _, a.bk.rc rfl, trivial, _, a.bk.rc rfl, ?_⟩
 obtain ⟨o, p, q, z, s⟩ := l.sto i [(Il (min r.Lo n)), (Il (max r.Hi n))]
 refine ⟨o, p, ?_⟩
 refine ⟨_, _, s.bk.ra, ?_⟩
 obtain rfl := Option.some.inj hp
 exact hq _ q.ext'
theorem s_rEmpty  {m f : M} {Q : V → M → Prop} {rz : Rg} (hS : Pre f m)  (hp : prEmpty = some rz) (hq : ∀ m', Ext m m' → Q (.agg 2 [(Il rz.Lo), (Il rz.Hi)]) m') : Wc prog tbl 65 [] m Q := by
 have i := hS.st
 obtain ⟨j, _⟩ : ∃ τ : Nat → Nat, True := ⟨fun _ => 0, trivial⟩
 refine w65 ?_
 unfold prEmpty at hp
 intro p a
 obtain ⟨l, b, n, c⟩ := i.blk a j 1
 obtain ⟨d, e, g, o, h⟩ := c.sto b [(Il (1099511627776 : Int)), (Il (-1099511627776 : Int))]
 refine ⟨d, e, ?_⟩
 refine ⟨_, _, h.bk.ra, ?_⟩
 obtain rfl := Option.some.inj hp
 exact hq _ g.ext'
theorem s_rBounds {s : Ssn} {field : Int} {l : List Trh} {ca101 ca102 ca103 ca300 : C} {m f : M} {Q : V → M → Prop} {rz : Bnd} (hS : Pre f m) (ha101 : Sl f ca101 s.Rules) (ha102 : Sl f ca102 s.Fields) (ha103 : Sl f ca103 s.Visits) (ha300 : Sl f ca300 l) (hp : prBounds s field l = some rz) (hq : ∀ m', Ext m m' → Q (.agg 8 [(Il rz.Week.Lo), (Il rz.Week.Hi), (Il rz.Damage.Lo), (Il rz.Damage.Hi), (Il rz.Old.Lo), (Il rz.Old.Hi), (Il rz.Harvest.Lo), (Il rz.Harvest.Hi)]) m') : Wc prog tbl 19 [.agg 4 [(Il s.Last), ca101, ca102, ca103], .c (Il field), .c ca300] m Q := by
 have S0 := hS.st
 obtain ⟨τ0, _⟩ : ∃ τ : Nat → Nat, True := ⟨fun _ => 0, trivial⟩
 refine w19 ?_
 unfold prBounds at hp
 intro m0 Pa
 obtain ⟨Qa, Ra, wc, Sa⟩ := S0.blk Pa τ0 1
 intro m1 Ta
 obtain ⟨x, ja, Ua, Va⟩ := Ra.blk Ta Qa 2
 have Wa := Sa.k Ua
 obtain ⟨ka, Xa, hp⟩ := bsome hp
 refine s_rEmpty ja.pre  Xa fun m3 Ya => ?_
 obtain ⟨la, ma⟩ := ja.call Ya x
 have Za := Wa.k ma
 have ab := Va.k ma
 refine ⟨_, _, rfl, ?_⟩
 obtain ⟨na, bb, hp⟩ := bsome hp
 refine s_rEmpty la.pre  bb fun m7 cb => ?_
 obtain ⟨oa, pa⟩ := la.call cb x
 have db := Za.k pa
 have eb := ab.k pa
 refine ⟨_, _, rfl, ?_⟩
 obtain ⟨qa, fb, hp⟩ := bsome hp
 refine s_rEmpty oa.pre  fb fun yc gb => ?_
 obtain ⟨sa, ta⟩ := oa.call gb x
 have hb := db.k ta
 have ib := eb.k ta
 refine ⟨_, _, rfl, ?_⟩
 obtain ⟨ua, jb, hp⟩ := bsome hp
 refine s_rEmpty sa.pre  jb fun lc kb => ?_
 obtain ⟨mb, va⟩ := sa.call kb x
 have nb := hb.k va
 have ob := ib.k va
 refine ⟨_, _, rfl, ?_⟩
 intro zc pb
 obtain ⟨qb, rb, wa, sb⟩ := mb.blk pb x 3
 have tb := nb.k wa
 have ub := ob.k wa
 obtain ⟨vb, wb, xb, xa, b⟩ := sb.sto rb [(Il ka.Lo), (Il ka.Hi), (Il na.Lo), (Il na.Hi), (Il qa.Lo), (Il qa.Hi), (Il ua.Lo), (Il ua.Hi)]
 have y := tb.k xa
 have z := ub.k xa
 refine ⟨vb, wb, ?_⟩
 intro nc yb
 have hgo : ∀ (D : Nat) (ea : Int) (e : Int) (g : Int) (h : Int) (i : Int) (o : Int) (p : Int) (q : Int) (u : Int) (A : M) (a : Nat → Nat), St (Fm.of m) f f A → Lb (Fm.of m) f a A 1 m.nxt 4 [(Il s.Last), ca101, ca102, ca103] → Lb (Fm.of m) f a A 2 m0.nxt 8 [(Il 0), (Il 0), (Il 0), (Il 0), (Il 0), (Il 0), (Il 0), (Il 0)] → Lb (Fm.of m) f a A 3 lc.nxt 8 [(Il e), (Il g), (Il h), (Il i), (Il o), (Il p), (Il q), (Il u)] → prBounds_L0 s field l D e g h i o p q u ea = some rz → nc [.c (Il ea)] A := by
  intro D
  induction D with
  | zero => intro ea e g h i o p q u A a d y z b hp; cases hp
  | succ D Ka =>
   intro ea e g h i o p q u A a d y z b hp
   refine yb _ _ ?_
   rw [prBounds_L0] at hp
   refine ⟨ha300.isSl, ?_⟩
   try rw [ha300.slLen]
   refine ifd hp (fun zb hp => ?_) fun zb hp => ?_; rotate_left
   ·refine ⟨_, _, _, _, _, _, _, _, b.bk.ra, ?_⟩
    obtain ⟨Ab, Bb, Cb, xc, Db⟩ := z.sto d [(Il e), (Il g), (Il h), (Il i), (Il o), (Il p), (Il q), (Il u)]
    refine ⟨Ab, Bb, ?_⟩
    refine ⟨_, _, _, _, _, _, _, _, Db.bk.ra, ?_⟩
    obtain rfl := Option.some.inj hp
    exact hq _ Cb.ext'
   refine ⟨trivial, _, _, b.bk.rp (k := 0) (j := 2) rfl (by omega), ?_⟩
   obtain ⟨Eb, F, hp⟩ := bsome hp
   obtain ⟨oc, La, fa, F⟩ := idx_some F
   obtain ⟨_, Fb⟩ := rd_Trh ha300 F
   refine ⟨oc, La, (by first | exact fa | (rw [ha300.slLen]; exact fa)), (ha300.isPt F _), _, ((Fb _ d.sub).2.1 0 _ rfl), ?_⟩
   obtain ⟨ya, Gb, hp⟩ := bsome hp
   refine s_rWider (r := ({ Lo := e, Hi := g } : Rg)) (n := Eb.Week) d.pre  Gb fun Ac Hb => ?_
   obtain ⟨B, P⟩ := d.call Hb a
   have za := y.k P
   have Ib := z.k P
   have G := b.k P
   refine ⟨_, _, rfl, trivial, _, _, G.bk.rp (k := 2) (j := 2) rfl (by omega), (b.bk.rp (k := 2) (j := 2) rfl (by omega)), ?_⟩
   obtain ⟨Jb, I, hp⟩ := bsome hp
   obtain ⟨pc, Ma, ga, I⟩ := idx_some I
   obtain ⟨_, Aa⟩ := rd_Trh ha300 I
   refine ⟨pc, Ma, (by first | exact ga | (rw [ha300.slLen]; exact ga)), (ha300.isPt I _), _, ((Aa _ B.sub).2.1 1 _ rfl), ((Aa _ d.sub).2.1 1 _ rfl), ?_⟩
   obtain ⟨Ba, Kb, hp⟩ := bsome hp
   refine s_rWider (r := ({ Lo := h, Hi := i } : Rg)) (n := Jb.Damage) B.pre  Kb fun Bc Mb => ?_
   obtain ⟨J, S⟩ := B.call Mb a
   have Ca := za.k S
   have Nb := Ib.k S
   have T := G.k S
   refine ⟨_, _, rfl, trivial, _, _, T.bk.rp (k := 4) (j := 2) rfl (by omega), (G.bk.rp (k := 4) (j := 2) rfl (by omega)), (b.bk.rp (k := 4) (j := 2) rfl (by omega)), ?_⟩
   obtain ⟨Ob, N, hp⟩ := bsome hp
   obtain ⟨qc, Na, ha, N⟩ := idx_some N
   obtain ⟨_, Y⟩ := rd_Trh ha300 N
   refine ⟨qc, Na, (by first | exact ha | (rw [ha300.slLen]; exact ha)), (ha300.isPt N _), _, ((Y _ J.sub).2.1 2 _ rfl), ((Y _ B.sub).2.1 2 _ rfl), ((Y _ d.sub).2.1 2 _ rfl), ?_⟩
   obtain ⟨Da, Pb, hp⟩ := bsome hp
   refine s_rWider (r := ({ Lo := o, Hi := p } : Rg)) (n := Ob.Old) J.pre  Pb fun Cc Qb => ?_
   obtain ⟨Z, aa⟩ := J.call Qb a
   have Ea := Ca.k aa
   have Rb := Nb.k aa
   have Fa := T.k aa
   refine ⟨_, _, rfl, trivial, _, _, Fa.bk.rp (k := 6) (j := 2) rfl (by omega), (T.bk.rp (k := 6) (j := 2) rfl (by omega)), (G.bk.rp (k := 6) (j := 2) rfl (by omega)), (b.bk.rp (k := 6) (j := 2) rfl (by omega)), _, _, _, _, Ea.bk.ra, (by rw [show allS noFnC _ = true from (nf_cons rfl (nf_cons ha101.noFn (nf_cons ha102.noFn (nf_cons ha103.noFn nf_nil))))]; exact (Ca.bk.ra)), (by rw [show allS noFnC _ = true from (nf_cons rfl (nf_cons ha101.noFn (nf_cons ha102.noFn (nf_cons ha103.noFn nf_nil))))]; exact (za.bk.ra)), (by rw [show allS noFnC _ = true from (nf_cons rfl (nf_cons ha101.noFn (nf_cons ha102.noFn (nf_cons ha103.noFn nf_nil))))]; exact (y.bk.ra)), ?_⟩
   obtain ⟨Sb, ba, hp⟩ := bsome hp
   obtain ⟨sc, Oa, ia, ba⟩ := idx_some ba
   obtain ⟨_, O⟩ := rd_Trh ha300 ba
   refine ⟨sc, Oa, (by first | exact ia | (rw [ha300.slLen]; exact ia)), _, _, _, (O _ Z.sub).1, (O _ J.sub).1, (O _ B.sub).1, (O _ d.sub).1, ?_⟩
   obtain ⟨Tb, Ub, hp⟩ := bsome hp
   refine s_rHarvest (s := s) (field := field) (t := Sb) Z.pre ha101 ha102 ha103 Ub fun Dc Vb => ?_
   obtain ⟨Ga, ca⟩ := Z.call Vb a
   have Wb := Ea.k ca
   have Xb := Rb.k ca
   have Ha := Fa.k ca
   refine ⟨_, rfl, (Ha.bk.rp (k := 6) (j := 2) rfl (by omega)), ?_⟩
   obtain ⟨Ia, Yb, hp⟩ := bsome hp
   refine s_rWider (r := ({ Lo := q, Hi := u } : Rg)) (n := Tb) Ga.pre  Yb fun Ec Zb => ?_
   obtain ⟨ac, da⟩ := Ga.call Zb a
   have bc := Wb.k da
   have cc := Xb.k da
   have dc := Ha.k da
   refine ⟨_, _, rfl, ?_⟩
   obtain ⟨ec, fc, gc, Ja, hc⟩ := dc.sto ac [(Il ya.Lo), (Il ya.Hi), (Il Ba.Lo), (Il Ba.Hi), (Il Da.Lo), (Il Da.Hi), (Il Ia.Lo), (Il Ia.Hi)]
   have ic := bc.k Ja
   have jc := cc.k Ja
   refine ⟨ec, fc, ?_⟩
   refine gdi hp fun kc hp => ?_
   exact Ka _ _ _ _ _ _ _ _ _ _ a gc ic jc hc hp
 exact hgo _ _ _ _ _ _ _ _ _ _ _ qb xb y z b hp
theorem s_rVerdict {r : Rg} {limit : Int} {m f : M} {Q : V → M → Prop} {rz : Int} (hS : Pre f m)  (hp : prVerdict r limit = some rz) (hq : ∀ m', Ext m m' → Q (.c (Il rz)) m') : Wc prog tbl 37 [.agg 2 [(Il r.Lo), (Il r.Hi)], .c (Il limit)] m Q := by
 have h := hS.st
 obtain ⟨i, _⟩ : ∃ τ : Nat → Nat, True := ⟨fun _ => 0, trivial⟩
 refine w37 ?_
 unfold prVerdict at hp
 intro n d
 obtain ⟨j, a, l, b⟩ := h.blk d i 1
 refine ⟨trivial, _, b.bk.rc rfl, ?_⟩
 refine ifd hp (fun e hp => ?_) fun e hp => ?_
 ·obtain rfl := Option.some.inj hp
  exact hq _ a.ext'
 refine ⟨trivial, _, b.bk.rc rfl, ?_⟩
 refine ifd hp (fun g hp => ?_) fun g hp => ?_
 ·obtain rfl := Option.some.inj hp
  exact hq _ a.ext'
 obtain rfl := Option.some.inj hp
 exact hq _ a.ext'
theorem s_lList {l : List Int} {ca100 : C} {m f : M} {Q : V → M → Prop} {rz : List Int} (hS : Pre f m) (ha100 : Sl f ca100 l) (hp : plList l = some rz) (hq : ∀ m' f' c0, Grw m f m' f' → Sl f' c0 rz → Q (.c c0) m') : Wc prog tbl 50 [.c ca100] m Q := by
 have r := hS.st
 obtain ⟨s, _⟩ : ∃ τ : Nat → Nat, True := ⟨fun _ => 0, trivial⟩
 refine w50 ?_
 unfold plList at hp
 obtain ⟨b, hp⟩ := gd_some hp
 obtain ⟨a, d, o, e, g, p, h⟩ := (Ow.nil (α := Int) (Fm.of m) f s m 1).appL ta75 r ha100 b
 refine ⟨a, d, e, ?_⟩
 obtain ⟨i, j, q, n⟩ := h.freeze g
 obtain rfl := Option.some.inj hp
 exact hq _ i a j.grw n
theorem s_lTo {r : Rg} {m f : M} {Q : V → M → Prop} {rz : Rg} (hS : Pre f m)  (hp : plTo r = some rz) (hq : ∀ m', Ext m m' → Q (.agg 2 [(Il rz.Lo), (Il rz.Hi)]) m') : Wc prog tbl 30 [.agg 2 [(Il r.Lo), (Il r.Hi)]] m Q := by
 have u := hS.st
 obtain ⟨x, _⟩ : ∃ τ : Nat → Nat, True := ⟨fun _ => 0, trivial⟩
 refine w30 ?_
 unfold plTo at hp
 intro y b
 obtain ⟨c, d, q, e⟩ := u.blk b x 1
 intro z g
 obtain ⟨s, h, i, j⟩ := d.blk g c 2
 have a := e.k i
 refine ⟨trivial, _, a.bk.rc rfl, trivial, _, a.bk.rc rfl, ?_⟩
 obtain ⟨l, n, o, t, p⟩ := j.sto h [(Il r.Lo), (Il r.Hi)]
 refine ⟨l, n, ?_⟩
 refine ⟨_, _, p.bk.ra, ?_⟩
 obtain rfl := Option.some.inj hp
 exact hq _ o.ext'
theorem s_lSeason {s : Ssn} {ca101 ca102 ca103 : C} {m f : M} {Q : V → M → Prop} {rz : Ssn} (hS : Pre f m) (ha101 : Sl f ca101 s.Rules) (ha102 : Sl f ca102 s.Fields) (ha103 : Sl f ca103 s.Visits) (hp : plSeason s = some rz) (hq : ∀ m' f' c1 c2 c3, Grw m f m' f' → Sl f' c1 rz.Rules → Sl f' c2 rz.Fields → Sl f' c3 rz.Visits → Q (.agg 4 [(Il rz.Last), c1, c2, c3]) m') : Wc prog tbl 14 [.agg 4 [(Il s.Last), ca101, ca102, ca103]] m Q := by
 have S0 := hS.st
 obtain ⟨τ0, _⟩ : ∃ τ : Nat → Nat, True := ⟨fun _ => 0, trivial⟩
 refine w14 ?_
 unfold plSeason at hp
 intro m0 Db
 obtain ⟨Eb, Fb, xe, Gb⟩ := S0.blk Db τ0 1
 intro m1 Hb
 obtain ⟨Ib, Jb, Kb, Mb⟩ := Fb.blk Hb Eb 2
 have Za := Gb.k Kb
 refine ⟨trivial, _, Za.bk.rc rfl, ?_⟩
 intro m3 Nb
 obtain ⟨Ob, Pb, ab, Qb⟩ := Jb.blk Nb Ib 3
 have Rb := Za.k ab
 have Sb := Mb.k ab
 obtain ⟨Tb, Ub, Vb, bb, n⟩ := Qb.sto Pb [(Il s.Last), .sl0, .sl0, .sl0]
 have g := Rb.k bb
 have o := Sb.k bb
 refine ⟨Tb, Ub, ?_⟩
 intro R5 re
 have hgo : ∀ (sa : Nat) (x6 : Int) (p : C) (ea : C) (fa : C) (ga : Int) (D : List (List Int)) (ta : List Fld) (ua : List Vis) (m7 : M) (e : M) (t : Nat → Nat), St (Fm.of m) f e m7 → Sub f e → Lb (Fm.of m) e t m7 1 m.nxt 4 [(Il s.Last), ca101, ca102, ca103] → Lb (Fm.of m) e t m7 2 m0.nxt 4 [(Il 0), .sl0, .sl0, .sl0] → Lb (Fm.of m) e t m7 3 m1.nxt 4 [(Il ga), p, ea, fa] → Ow (Fm.of m) e t m7 4 p D → Ow (Fm.of m) e t m7 5 ea ta → Ow (Fm.of m) e t m7 6 fa ua → plSeason_L0 s sa ga D ta ua x6 = some rz → R5 [.c (Il x6)] m7 := by
  intro sa
  induction sa with
  | zero => intro x6 p ea fa ga D ta ua m7 e t ha F g o n b x y hp; cases hp
  | succ sa oe =>
   intro x6 p ea fa ga D ta ua m7 e t ha F g o n b x y hp
   refine re _ _ ?_
   rw [plSeason_L0] at hp
   refine ⟨trivial, _, g.bk.rc rfl, ha101.isSl, ?_⟩
   try rw [ha101.slLen]
   refine ifd hp (fun Xb hp => ?_) fun Xb hp => ?_
   ·refine ⟨trivial, _, n.bk.rc rfl, trivial, _, g.bk.rc rfl, ?_⟩
    obtain ⟨Yb, Ea, hp⟩ := bsome hp
    obtain ⟨se, Ab, Wa, Ea⟩ := idx_some Ea
    obtain ⟨ye, Zb, ac⟩ := ha101.rdS Ea
    refine ⟨se, Ab, (by first | exact Wa | (rw [ha101.slLen]; exact Wa)), _, (Zb _ (Sub.trans F ha.sub)), ?_⟩
    obtain ⟨cb, bc, hp⟩ := bsome hp
    refine s_lList (l := Yb) ha.pre (ac.sub F) bc fun Fe db ze cc dc => ?_
    obtain ⟨ec, G⟩ := ha.callG cc t
    have fc := g.k G
    have gc := o.k G
    have Fa := n.k G
    have b := b.k G
    have x := x.k G
    have y := y.k G
    refine ⟨_, rfl, (by rw [show noFnC _ = true from b.noFn]; exact (Fa.bk.rc rfl)), ?_⟩
    obtain ⟨hc, hp⟩ := gd_some hp
    intro Ge eb
    refine ⟨(by rw [show noFnC _ = true from b.noFn]; exact (Fa.bk.ext (Bk.new eb).2).rc rfl), ?_⟩
    obtain ⟨Ga, ic, jc, kc, lc, ia, Ha⟩ := b.app' ta22 ec (a := cb) (show Rp.rep (α := List Int) db _ cb from ⟨_, rfl, dc⟩) hc eb
    have nc := fc.k ia
    have oc := gc.k ia
    have pc := Fa.k ia
    have x := x.k ia
    have y := y.k ia
    refine ⟨Ga, ic, kc, ?_⟩
    refine ⟨trivial, ?_⟩
    obtain ⟨qc, sc, tc, ja, Ia⟩ := pc.sto1 lc 1 Ga (by simp) rfl
    replace Ia : Lb _ _ _ _ _ _ _ [(Il ga), Ga, ea, fa] := Ia
    have uc := nc.k ja
    have vc := oc.k ja
    have x := x.k ja
    have y := y.k ja
    have Ha := Ha.k ja
    refine ⟨qc, sc, ?_⟩
    refine gdi hp fun wc hp => ?_
    exact oe _ _ _ _ _ _ _ _ _ db jc tc (Sub.trans F G.fs) uc vc Ia Ha x y hp
   intro te pe
   have hgo : ∀ (va : Nat) (fb : Int) (z : C) (ka : C) (la : Int) (P : List Fld) (wa : List Vis) (ca : M) (u : Nat → Nat), St (Fm.of m) f e ca → Lb (Fm.of m) e u ca 1 m.nxt 4 [(Il s.Last), ca101, ca102, ca103] → Lb (Fm.of m) e u ca 2 m0.nxt 4 [(Il 0), .sl0, .sl0, .sl0] → Lb (Fm.of m) e u ca 3 m1.nxt 4 [(Il la), p, z, ka] → Ow (Fm.of m) e u ca 5 z P → Ow (Fm.of m) e u ca 6 ka wa → Ow (Fm.of m) e u ca 4 p D → plSeason_L1 s D va la P wa fb = some rz → te [.c (Il fb)] ca := by
    intro va
    induction va with
    | zero => intro fb z ka la P wa ca u xa g o n d h b hp; cases hp
    | succ va xc =>
     intro fb z ka la P wa ca u xa g o n d h b hp
     refine pe _ _ ?_
     rw [plSeason_L1] at hp
     refine ⟨trivial, _, g.bk.rc rfl, ha102.isSl, ?_⟩
     try rw [ha102.slLen]
     refine ifd hp (fun yc hp => ?_) fun yc hp => ?_
     ·refine ⟨trivial, _, g.bk.rc rfl, ?_⟩
      obtain ⟨q, Ja, hp⟩ := bsome hp
      obtain ⟨ue, Bb, Xa, Ja⟩ := idx_some Ja
      obtain ⟨_, zc⟩ := rd_Fld ha102 Ja
      refine ⟨ue, Bb, (by first | exact Xa | (rw [ha102.slLen]; exact Xa)), _, _, _, _, _, _, _, (zc _ (Sub.trans F xa.sub)).1, ?_⟩
      intro He Ac
      obtain ⟨Ka, Bc, S, Cc⟩ := xa.blk Ac u 7
      have Dc := g.k S
      have Ec := o.k S
      have Fc := n.k S
      have b := b.k S
      have d := d.k S
      have h := h.k S
      obtain ⟨Gc, Hc, gb, T, ma⟩ := Cc.sto Bc [(Il q.Crop), (Il q.Week.Lo), (Il q.Week.Hi), (Il q.Damage.Lo), (Il q.Damage.Hi), (Il q.Old.Lo), (Il q.Old.Hi)]
      have Ic := Dc.k T
      have Jc := Ec.k T
      have hb := Fc.k T
      have b := b.k T
      have d := d.k T
      have h := h.k T
      refine ⟨Gc, Hc, ?_⟩
      refine ⟨trivial, _, hb.bk.rc rfl, trivial, _, ma.bk.rc rfl, trivial, _, _, ma.bk.rp (k := 1) (j := 2) rfl (by omega), ?_⟩
      obtain ⟨ib, Kc, hp⟩ := bsome hp
      refine s_lTo (r := q.Week) gb.pre  Kc fun Ie Lc => ?_
      obtain ⟨jb, I⟩ := gb.call Lc Ka
      have Nc := Ic.k I
      have Oc := Jc.k I
      have kb := hb.k I
      have ya := ma.k I
      have b := b.k I
      have d := d.k I
      have h := h.k I
      refine ⟨_, _, rfl, (ya.bk.rc rfl), (by rw [show noFnC _ = true from d.noFn]; exact (kb.bk.rc rfl)), trivial, _, _, ya.bk.rp (k := 3) (j := 2) rfl (by omega), (ma.bk.rp (k := 3) (j := 2) rfl (by omega)), ?_⟩
      obtain ⟨mb, Pc, hp⟩ := bsome hp
      refine s_lTo (r := q.Damage) jb.pre  Pc fun Je Qc => ?_
      obtain ⟨nb, J⟩ := jb.call Qc Ka
      have Rc := Nc.k J
      have Tc := Oc.k J
      have ob := kb.k J
      have La := ya.k J
      have b := b.k J
      have d := d.k J
      have h := h.k J
      refine ⟨_, _, rfl, (La.bk.rc rfl), (by rw [show noFnC _ = true from d.noFn]; exact (ob.bk.rc rfl)), trivial, _, _, La.bk.rp (k := 5) (j := 2) rfl (by omega), (ya.bk.rp (k := 5) (j := 2) rfl (by omega)), (ma.bk.rp (k := 5) (j := 2) rfl (by omega)), ?_⟩
      obtain ⟨pb, Uc, hp⟩ := bsome hp
      refine s_lTo (r := q.Old) nb.pre  Uc fun Ke Vc => ?_
      obtain ⟨Xc, N⟩ := nb.call Vc Ka
      have Yc := Rc.k N
      have Zc := Tc.k N
      have Ma := ob.k N
      have ad := La.k N
      have b := b.k N
      have d := d.k N
      have h := h.k N
      refine ⟨_, _, rfl, (ad.bk.rc rfl), (by rw [show noFnC _ = true from d.noFn]; exact (Ma.bk.rc rfl)), ?_⟩
      obtain ⟨bd, hp⟩ := gd_some hp
      intro Me qb
      refine ⟨(by rw [show noFnC _ = true from d.noFn]; exact (Ma.bk.ext (Bk.new qb).2).rc rfl), ?_⟩
      obtain ⟨Na, cd, dd, ed, fd, na, Oa⟩ := d.app' ta33 Xc (a := ({ Crop := q.Crop, Week := ib, Damage := mb, Old := pb } : Fld)) (show Rp.rep (α := Fld) e _ ({ Crop := q.Crop, Week := ib, Damage := mb, Old := pb } : Fld) from rfl) bd qb
      have hd := Yc.k na
      have id := Zc.k na
      have jd := Ma.k na
      have b := b.k na
      have h := h.k na
      refine ⟨Na, cd, ed, ?_⟩
      refine ⟨trivial, ?_⟩
      obtain ⟨kd, ld, md, oa, Pa⟩ := jd.sto1 fd 2 Na (by simp) rfl
      replace Pa : Lb _ _ _ _ _ _ _ [(Il la), p, Na, ka] := Pa
      have nd := hd.k oa
      have od := id.k oa
      have b := b.k oa
      have h := h.k oa
      have Oa := Oa.k oa
      refine ⟨kd, ld, ?_⟩
      refine gdi hp fun pd hp => ?_
      exact xc _ _ _ _ _ _ _ dd md nd od Pa Oa h b hp
     intro ve qe
     have hgo : ∀ (za : Nat) (rb : Int) (Y : C) (Z : Int) (Aa : List Vis) (da : M) (A : Nat → Nat), St (Fm.of m) f e da → Lb (Fm.of m) e A da 1 m.nxt 4 [(Il s.Last), ca101, ca102, ca103] → Lb (Fm.of m) e A da 2 m0.nxt 4 [(Il 0), .sl0, .sl0, .sl0] → Lb (Fm.of m) e A da 3 m1.nxt 4 [(Il Z), p, z, Y] → Ow (Fm.of m) e A da 6 Y Aa → Ow (Fm.of m) e A da 4 p D → Ow (Fm.of m) e A da 5 z P → plSeason_L2 s D P za Z Aa rb = some rz → ve [.c (Il rb)] da := by
      intro za
      induction za with
      | zero => intro rb Y Z Aa da A Ba g o n i b d hp; cases hp
      | succ za qd =>
       intro rb Y Z Aa da A Ba g o n i b d hp
       refine qe _ _ ?_
       rw [plSeason_L2] at hp
       refine ⟨trivial, _, g.bk.rc rfl, ha103.isSl, ?_⟩
       try rw [ha103.slLen]
       refine ifd hp (fun sd hp => ?_) fun sd hp => ?_; rotate_left
       ·refine ⟨_, _, _, _, n.bk.ra, ?_⟩
        obtain ⟨td, ud, vd, Qa, wd⟩ := o.sto Ba [(Il Z), p, z, Y]
        have b := b.k Qa
        have d := d.k Qa
        have i := i.k Qa
        refine ⟨td, ud, ?_⟩
        refine ⟨_, _, _, _, wd.bk.ra, ?_⟩
        obtain ⟨Ae, xd, sb, yd⟩ := b.freeze vd
        have d := d.k sb
        have i := i.k sb
        obtain ⟨Be, zd, tb, Ad⟩ := d.freeze xd
        have i := i.k tb
        obtain ⟨Bd, Cd, ub, Dd⟩ := i.freeze zd
        obtain rfl := Option.some.inj hp
        exact hq _ Bd p z Y Cd.grw (yd.sub (Sub.trans tb.fs ub.fs)) (Ad.sub ub.fs) Dd
       refine ⟨trivial, _, g.bk.rc rfl, ?_⟩
       obtain ⟨B, Ra, hp⟩ := bsome hp
       obtain ⟨we, Cb, Ya, Ra⟩ := idx_some Ra
       obtain ⟨_, Ed⟩ := rd_Vis ha103 Ra
       refine ⟨we, Cb, (by first | exact Ya | (rw [ha103.slLen]; exact Ya)), _, _, _, _, (Ed _ (Sub.trans F Ba.sub)).1, ?_⟩
       intro Ne Fd
       obtain ⟨Gd, Hd, aa, Id⟩ := Ba.blk Fd A 8
       have Jd := g.k aa
       have Ld := o.k aa
       have Md := n.k aa
       have b := b.k aa
       have d := d.k aa
       have i := i.k aa
       obtain ⟨Nd, Od, vb, ba, Ca⟩ := Id.sto Hd [(Il B.Field), (Il B.Week), (Il B.Seen.Lo), (Il B.Seen.Hi)]
       have Pd := Jd.k ba
       have Qd := Ld.k ba
       have wb := Md.k ba
       have b := b.k ba
       have d := d.k ba
       have i := i.k ba
       refine ⟨Nd, Od, ?_⟩
       refine ⟨trivial, _, wb.bk.rc rfl, trivial, _, Ca.bk.rc rfl, trivial, _, Ca.bk.rc rfl, trivial, _, _, Ca.bk.rp (k := 2) (j := 2) rfl (by omega), ?_⟩
       obtain ⟨xb, Rd, hp⟩ := bsome hp
       refine s_lTo (r := B.Seen) vb.pre  Rd fun Oe Sd => ?_
       obtain ⟨Td, O⟩ := vb.call Sd Gd
       have Ud := Pd.k O
       have Vd := Qd.k O
       have Sa := wb.k O
       have yb := Ca.k O
       have b := b.k O
       have d := d.k O
       have i := i.k O
       refine ⟨_, _, rfl, (yb.bk.rc rfl), (yb.bk.rc rfl), (by rw [show noFnC _ = true from i.noFn]; exact (Sa.bk.rc rfl)), ?_⟩
       obtain ⟨Wd, hp⟩ := gd_some hp
       intro Pe zb
       refine ⟨(by rw [show noFnC _ = true from i.noFn]; exact (Sa.bk.ext (Bk.new zb).2).rc rfl), ?_⟩
       obtain ⟨Ta, Xd, Yd, Zd, ae, pa, Ua⟩ := i.app' ta34 Td (a := ({ Field := B.Field, Week := B.Week, Seen := xb } : Vis)) (show Rp.rep (α := Vis) e _ ({ Field := B.Field, Week := B.Week, Seen := xb } : Vis) from rfl) Wd zb
       have be := Ud.k pa
       have ce := Vd.k pa
       have de := Sa.k pa
       have b := b.k pa
       have d := d.k pa
       refine ⟨Ta, Xd, Zd, ?_⟩
       refine ⟨trivial, ?_⟩
       obtain ⟨ee, fe, ge, qa, Va⟩ := de.sto1 ae 3 Ta (by simp) rfl
       replace Va : Lb _ _ _ _ _ _ _ [(Il Z), p, z, Ta] := Va
       have he := be.k qa
       have ie := ce.k qa
       have b := b.k qa
       have d := d.k qa
       have Ua := Ua.k qa
       refine ⟨ee, fe, ?_⟩
       refine gdi hp fun je hp => ?_
       exact qd _ _ _ _ _ Yd ge he ie Va Ua b d hp
     exact hgo _ _ _ _ _ _ u xa g o n h b d hp
   exact hgo _ _ _ _ _ _ _ _ t ha g o n x y b hp
 exact hgo _ _ _ _ _ _ _ _ _ _ f Ob Vb (Sub.refl _) g o n (Ow.nil _ _ _ _ _) (Ow.nil _ _ _ _ _) (Ow.nil _ _ _ _ _) hp
theorem s_lInts {a : List Int} {b : List Int} {ca100 ca200 : C} {m f : M} {Q : V → M → Prop} {rz : Bool} (hS : Pre f m) (ha100 : Sl f ca100 a) (ha200 : Sl f ca200 b) (hp : plInts a b = some rz) (hq : ∀ m', Ext m m' → Q (.c (.bool rz)) m') : Wc prog tbl 38 [.c ca100, .c ca200] m Q := by
 have z := hS.st
 obtain ⟨F, _⟩ : ∃ τ : Nat → Nat, True := ⟨fun _ => 0, trivial⟩
 refine w38 ?_
 unfold plInts at hp
 refine ⟨ha100.isSl, ha200.isSl, ?_⟩
 try rw [ha100.slLen]
 try rw [ha200.slLen]
 refine ifnd hp (fun p hp => ?_) fun p hp => ?_
 ·obtain rfl := Option.some.inj hp
  exact hq _ z.ext'
 intro G A
 have hgo : ∀ (e : Nat) (x : Bool) (q : Int) (r : M) (g : Nat → Nat), St (Fm.of m) f f r → plInts_L0 a b e q = some rz → G [.c (.bool x), .c (Il q)] r := by
  intro e
  induction e with
  | zero => intro x q r g d hp; cases hp
  | succ e y =>
   intro x q r g d hp
   refine A _ _ _ ?_
   rw [plInts_L0] at hp
   refine ⟨ha100.isSl, ?_⟩
   try rw [ha100.slLen]
   refine ifd hp (fun s hp => ?_) fun s hp => ?_; rotate_left
   ·obtain rfl := Option.some.inj hp
    exact hq _ d.ext'
   obtain ⟨B, h, hp⟩ := bsome hp
   obtain ⟨I, n, j, h⟩ := idx_some h
   refine ⟨I, n, (by first | exact j | (rw [ha100.slLen]; exact j)), _, (ha100.rdI h d.sub), ?_⟩
   obtain ⟨D, i, hp⟩ := bsome hp
   obtain ⟨J, o, l, i⟩ := idx_some i
   refine ⟨J, o, (by first | exact l | (rw [ha200.slLen]; exact l)), _, (ha200.rdI i d.sub), ?_⟩
   refine ifnd hp (fun t hp => ?_) fun t hp => ?_
   ·obtain rfl := Option.some.inj hp
    exact hq _ d.ext'
   refine gdi hp fun u hp => ?_
   exact y _ _ _ g d hp
 exact hgo _ _ _ _ F z hp
theorem s_lThin {s : Ssn} {ca101 ca102 ca103 : C} {m f : M} {Q : V → M → Prop} {rz : Bool} (hS : Pre f m) (ha101 : Sl f ca101 s.Rules) (ha102 : Sl f ca102 s.Fields) (ha103 : Sl f ca103 s.Visits) (hp : plThin s = some rz) (hq : ∀ m', Ext m m' → Q (.c (.bool rz)) m') : Wc prog tbl 11 [.agg 4 [(Il s.Last), ca101, ca102, ca103]] m Q := by
 have S0 := hS.st
 obtain ⟨τ0, _⟩ : ∃ τ : Nat → Nat, True := ⟨fun _ => 0, trivial⟩
 refine w11 ?_
 unfold plThin at hp
 intro m0 F
 obtain ⟨G, i, xa, a⟩ := S0.blk F τ0 1
 refine ⟨trivial, _, a.bk.rc rfl, ha101.isSl, ?_⟩
 try rw [ha101.slLen]
 refine ifd hp (fun I hp => ?_) fun I hp => ?_
 ·obtain rfl := Option.some.inj hp
  exact hq _ i.ext'
 refine ⟨trivial, _, a.bk.rc rfl, ha102.isSl, ?_⟩
 try rw [ha102.slLen]
 refine ifd hp (fun J hp => ?_) fun J hp => ?_
 ·obtain rfl := Option.some.inj hp
  exact hq _ i.ext'
 refine ⟨trivial, _, a.bk.rc rfl, ha103.isSl, ?_⟩
 try rw [ha103.slLen]
 refine ifd hp (fun N hp => ?_) fun N hp => ?_
 ·obtain rfl := Option.some.inj hp
  exact hq _ i.ext'
 intro R4 ta
 have hgo : ∀ (j : Nat) (O : Bool) (P : Int) (z : M) (d : Nat → Nat), St (Fm.of m) f f z → Lb (Fm.of m) f d z 1 m.nxt 4 [(Il s.Last), ca101, ca102, ca103] → plThin_L0 s j O P = some rz → R4 [.c (.bool O), .c (Il P)] z := by
  intro j
  induction j with
  | zero => intro O P z d e a hp; cases hp
  | succ j qa =>
   intro O P z d e a hp
   refine ta _ _ _ ?_
   rw [plThin_L0] at hp
   refine ⟨trivial, _, a.bk.rc rfl, ha101.isSl, ?_⟩
   try rw [ha101.slLen]
   refine ifd hp (fun S hp => ?_) fun S hp => ?_
   ·refine ⟨trivial, _, a.bk.rc rfl, ?_⟩
    obtain ⟨ya, n, hp⟩ := bsome hp
    obtain ⟨ua, A, p, n⟩ := idx_some n
    obtain ⟨za, T, t⟩ := ha101.rdS n
    refine ⟨ua, A, (by first | exact p | (rw [ha101.slLen]; exact p)), _, (T _ e.sub), t.isSl, ?_⟩
    try rw [t.slLen]
    refine ifd hp (fun Y hp => ?_) fun Y hp => ?_
    ·obtain rfl := Option.some.inj hp
     exact hq _ e.ext'
    refine gdi hp fun Z hp => ?_
    exact qa _ _ _ d e a hp
   refine ⟨_, _, _, _, a.bk.ra, ?_⟩
   obtain ⟨aa, ba, hp⟩ := bsome hp
   refine s_rFault (s := s) e.pre ha101 ha102 ha103 ba fun Ea ca => ?_
   obtain ⟨da, ea⟩ := e.call ca d
   have b := a.k ea
   refine ⟨_, rfl, ?_⟩
   intro va sa
   have hgo : ∀ (l : Nat) (B : Bool) (u : Int) (q : M) (g : Nat → Nat), St (Fm.of m) f f q → Lb (Fm.of m) f g q 1 m.nxt 4 [(Il s.Last), ca101, ca102, ca103] → plThin_L1 s aa l u = some rz → va [.c (.bool B), .c (Il u)] q := by
    intro l
    induction l with
    | zero => intro B u q g h b hp; cases hp
    | succ l x =>
     intro B u q g h b hp
     refine sa _ _ _ ?_
     rw [plThin_L1] at hp
     refine ⟨trivial, _, b.bk.rc rfl, ha102.isSl, ?_⟩
     try rw [ha102.slLen]
     refine ifd hp (fun fa hp => ?_) fun fa hp => ?_; rotate_left
     ·obtain rfl := Option.some.inj hp
      exact hq _ h.ext'
     refine ifnb hp (fun ga hp => ?_) fun ga hp => ?_; rotate_left
     ·refine gdi hp fun ha hp => ?_
      exact x _ _ _ g h b hp
     refine ⟨trivial, _, b.bk.rc rfl, ?_⟩
     obtain ⟨ia, o, hp⟩ := bsome hp
     obtain ⟨wa, D, r, o⟩ := idx_some o
     obtain ⟨_, ja⟩ := rd_Fld ha102 o
     refine ⟨wa, D, (by first | exact r | (rw [ha102.slLen]; exact r)), _, _, _, _, _, _, _, (ja _ h.sub).1, ?_⟩
     obtain ⟨Aa, ka, hp⟩ := bsome hp
     refine s_rMany (fl := ia) h.pre  ka fun Fa la => ?_
     obtain ⟨y, ma⟩ := h.call la g
     have na := b.k ma
     refine ⟨_, rfl, ?_⟩
     refine ifd hp (fun oa hp => ?_) fun oa hp => ?_
     ·obtain rfl := Option.some.inj hp
      exact hq _ y.ext'
     refine gdi hp fun pa hp => ?_
     exact x _ _ _ g y na hp
   exact hgo _ _ _ _ d da b hp
 exact hgo _ _ _ _ G i a hp
theorem s_lFault {s : Ssn} {ca101 ca102 ca103 : C} {m f : M} {Q : V → M → Prop} {rz : Int} (hS : Pre f m) (ha101 : Sl f ca101 s.Rules) (ha102 : Sl f ca102 s.Fields) (ha103 : Sl f ca103 s.Visits) (hp : plFault s = some rz) (hq : ∀ m', Ext m m' → Q (.c (Il rz)) m') : Wc prog tbl 16 [.agg 4 [(Il s.Last), ca101, ca102, ca103]] m Q := by
 have o := hS.st
 obtain ⟨p, _⟩ : ∃ τ : Nat → Nat, True := ⟨fun _ => 0, trivial⟩
 refine w16 ?_
 unfold plFault at hp
 intro q b
 obtain ⟨d, a, j, e⟩ := o.blk b p 1
 refine ⟨_, _, _, _, e.bk.ra, ?_⟩
 obtain ⟨l, g, hp⟩ := bsome hp
 refine s_rFault (s := s) a.pre ha101 ha102 ha103 g fun r h => ?_
 obtain ⟨i, n⟩ := a.call h d
 refine ⟨_, rfl, ?_⟩
 obtain rfl := Option.some.inj hp
 exact hq _ i.ext'
theorem s_lSure {s : Ssn} {ca101 ca102 ca103 : C} {m f : M} {Q : V → M → Prop} {rz : Int} (hS : Pre f m) (ha101 : Sl f ca101 s.Rules) (ha102 : Sl f ca102 s.Fields) (ha103 : Sl f ca103 s.Visits) (hp : plSure s = some rz) (hq : ∀ m', Ext m m' → Q (.c (Il rz)) m') : Wc prog tbl 17 [.agg 4 [(Il s.Last), ca101, ca102, ca103]] m Q := by
 have Z := hS.st
 obtain ⟨τ0, _⟩ : ∃ τ : Nat → Nat, True := ⟨fun _ => 0, trivial⟩
 refine w17 ?_
 unfold plSure at hp
 intro m0 n
 obtain ⟨a, g, J, h⟩ := Z.blk n τ0 1
 refine ⟨_, _, _, _, h.bk.ra, ?_⟩
 obtain ⟨N, o, hp⟩ := bsome hp
 refine s_lFault (s := s) g.pre ha101 ha102 ha103 o fun m6 p => ?_
 obtain ⟨d, q⟩ := g.call p a
 have e := h.k q
 refine ⟨_, rfl, ?_⟩
 refine ifnd hp (fun r hp => ?_) fun r hp => ?_
 ·obtain rfl := Option.some.inj hp
  exact hq _ d.ext'
 refine ⟨_, _, _, _, e.bk.ra, ?_⟩
 obtain ⟨t, u, hp⟩ := bsome hp
 refine s_rEvery (s := s) d.pre ha101 ha102 ha103 u fun ba O P x y => ?_
 obtain ⟨i, b⟩ := d.callG x a
 have z := e.k b
 refine ⟨_, rfl, _, _, _, _, z.bk.ra, (by rw [show allS noFnC _ = true from (nf_cons rfl (nf_cons ha101.noFn (nf_cons ha102.noFn (nf_cons ha103.noFn nf_nil))))]; exact (e.bk.ra)), ?_⟩
 obtain ⟨A, B, hp⟩ := bsome hp
 refine s_rFull (s := s) i.pre (ha101.sub b.fs) (ha102.sub b.fs) (ha103.sub b.fs) B fun ca D => ?_
 obtain ⟨j, S⟩ := i.call D a
 refine ⟨_, rfl, ?_⟩
 obtain ⟨T, F, hp⟩ := bsome hp
 refine s_rCan (every := t) (visits := A) j.pre y F fun da G => ?_
 obtain ⟨l, Y⟩ := j.call G a
 refine ⟨_, rfl, ?_⟩
 refine ifnb hp (fun I hp => ?_) fun I hp => ?_
 ·obtain rfl := Option.some.inj hp
  exact hq _ l.ext'
 obtain rfl := Option.some.inj hp
 exact hq _ l.ext'
theorem s_lIsField {s : Ssn} {n : Int} {ca101 ca102 ca103 : C} {m f : M} {Q : V → M → Prop} {rz : Bool} (hS : Pre f m) (ha101 : Sl f ca101 s.Rules) (ha102 : Sl f ca102 s.Fields) (ha103 : Sl f ca103 s.Visits) (hp : plIsField s n = some rz) (hq : ∀ m', Ext m m' → Q (.c (.bool rz)) m') : Wc prog tbl 25 [.agg 4 [(Il s.Last), ca101, ca102, ca103], .c (Il n)] m Q := by
 have q := hS.st
 obtain ⟨r, _⟩ : ∃ τ : Nat → Nat, True := ⟨fun _ => 0, trivial⟩
 refine w25 ?_
 unfold plIsField at hp
 intro t d
 obtain ⟨e, a, l, g⟩ := q.blk d r 1
 refine ⟨trivial, _, g.bk.rc rfl, ha102.isSl, ?_⟩
 obtain ⟨b, hp⟩ := gd_some hp
 refine ⟨(by first | exact b | (rw [ha102.slLen]; exact b)), ?_⟩
 try rw [ha102.slLen]
 obtain ⟨o, h, hp⟩ := bsome hp
 refine s_rIn (n := n) (low := (0 : Int)) (high := ((s.Fields.length : Int) - (1 : Int))) a.pre  h fun u i => ?_
 obtain ⟨j, p⟩ := a.call i e
 refine ⟨_, rfl, ?_⟩
 obtain rfl := Option.some.inj hp
 exact hq _ j.ext'
theorem s_has {r : Rg} {n : Int} {m f : M} {Q : V → M → Prop} {rz : Bool} (hS : Pre f m)  (hp : phas r n = some rz) (hq : ∀ m', Ext m m' → Q (.c (.bool rz)) m') : Wc prog tbl 112 [.agg 2 [(Il r.Lo), (Il r.Hi)], .c (Il n)] m Q := by
 have i := hS.st
 obtain ⟨j, _⟩ : ∃ τ : Nat → Nat, True := ⟨fun _ => 0, trivial⟩
 refine w112 ?_
 unfold phas at hp
 intro l d
 obtain ⟨g, a, h, b⟩ := i.blk d j 1
 refine ⟨trivial, _, b.bk.rc rfl, ?_⟩
 refine ifd hp (fun e hp => ?_) fun e hp => ?_; rotate_left
 ·obtain rfl := Option.some.inj hp
  exact hq _ a.ext'
 refine ⟨trivial, _, b.bk.rc rfl, ?_⟩
 obtain rfl := Option.some.inj hp
 exact hq _ a.ext'
theorem s_count {r : Rg} {m f : M} {Q : V → M → Prop} {rz : Int} (hS : Pre f m)  (hp : pcount r = some rz) (hq : ∀ m', Ext m m' → Q (.c (Il rz)) m') : Wc prog tbl 110 [.agg 2 [(Il r.Lo), (Il r.Hi)]] m Q := by
 have j := hS.st
 obtain ⟨l, _⟩ : ∃ τ : Nat → Nat, True := ⟨fun _ => 0, trivial⟩
 refine w110 ?_
 unfold pcount at hp
 intro n b
 obtain ⟨h, d, i, a⟩ := j.blk b l 1
 refine ⟨trivial, _, a.bk.rc rfl, trivial, _, a.bk.rc rfl, ?_⟩
 refine gdi hp fun e hp => ?_
 refine gdi hp fun g hp => ?_
 obtain rfl := Option.some.inj hp
 exact hq _ d.ext'
theorem s_within {r : Rg} {low : Int} {high : Int} {m f : M} {Q : V → M → Prop} {rz : Bool} (hS : Pre f m)  (hp : pwithin r low high = some rz) (hq : ∀ m', Ext m m' → Q (.c (.bool rz)) m') : Wc prog tbl 133 [.agg 2 [(Il r.Lo), (Il r.Hi)], .c (Il low), .c (Il high)] m Q := by
 have j := hS.st
 obtain ⟨l, _⟩ : ∃ τ : Nat → Nat, True := ⟨fun _ => 0, trivial⟩
 refine w133 ?_
 unfold pwithin at hp
 intro n d
 obtain ⟨h, b, i, a⟩ := j.blk d l 1
 refine ⟨trivial, _, a.bk.rc rfl, ?_⟩
 refine ifd hp (fun e hp => ?_) fun e hp => ?_; rotate_left
 ·obtain rfl := Option.some.inj hp
  exact hq _ b.ext'
 refine ⟨trivial, _, a.bk.rc rfl, trivial, _, a.bk.rc rfl, ?_⟩
 refine ifd hp (fun g hp => ?_) fun g hp => ?_; rotate_left
 ·obtain rfl := Option.some.inj hp
  exact hq _ b.ext'
 refine ⟨trivial, _, a.bk.rc rfl, ?_⟩
 obtain rfl := Option.some.inj hp
 exact hq _ b.ext'
theorem s_isHundredths {n : Int} {m f : M} {Q : V → M → Prop} {rz : Bool} (hS : Pre f m)  (hp : pisHundredths n = some rz) (hq : ∀ m', Ext m m' → Q (.c (.bool rz)) m') : Wc prog tbl 84 [.c (Il n)] m Q := by
 have e := hS.st
 obtain ⟨i, _⟩ : ∃ τ : Nat → Nat, True := ⟨fun _ => 0, trivial⟩
 refine w84 ?_
 unfold pisHundredths at hp
 obtain ⟨g, a, hp⟩ := bsome hp
 refine s_has (r := ({ Lo := (0 : Int), Hi := (100 : Int) } : Rg)) (n := n) e.pre  a fun j b => ?_
 obtain ⟨d, h⟩ := e.call b i
 refine ⟨_, rfl, ?_⟩
 obtain rfl := Option.some.inj hp
 exact hq _ d.ext'
theorem s_hasField {s : Ssn} {n : Int} {ca101 ca102 ca103 : C} {m f : M} {Q : V → M → Prop} {rz : Bool} (hS : Pre f m) (ha101 : Sl f ca101 s.Rules) (ha102 : Sl f ca102 s.Fields) (ha103 : Sl f ca103 s.Visits) (hp : phasField s n = some rz) (hq : ∀ m', Ext m m' → Q (.c (.bool rz)) m') : Wc prog tbl 111 [.agg 4 [(Il s.Last), ca101, ca102, ca103], .c (Il n)] m Q := by
 have q := hS.st
 obtain ⟨t, _⟩ : ∃ τ : Nat → Nat, True := ⟨fun _ => 0, trivial⟩
 refine w111 ?_
 unfold phasField at hp
 intro u d
 obtain ⟨e, a, l, g⟩ := q.blk d t 1
 refine ⟨trivial, _, g.bk.rc rfl, ha102.isSl, ?_⟩
 obtain ⟨b, hp⟩ := gd_some hp
 refine ⟨(by first | exact b | (rw [ha102.slLen]; exact b)), ?_⟩
 try rw [ha102.slLen]
 obtain ⟨o, h, hp⟩ := bsome hp
 refine s_has (r := ({ Lo := (0 : Int), Hi := ((s.Fields.length : Int) - (1 : Int)) } : Rg)) (n := n) a.pre  h fun x i => ?_
 obtain ⟨j, p⟩ := a.call i e
 refine ⟨_, rfl, ?_⟩
 obtain rfl := Option.some.inj hp
 exact hq _ j.ext'
theorem s_hasWeek {s : Ssn} {n : Int} {ca101 ca102 ca103 : C} {m f : M} {Q : V → M → Prop} {rz : Bool} (hS : Pre f m) (ha101 : Sl f ca101 s.Rules) (ha102 : Sl f ca102 s.Fields) (ha103 : Sl f ca103 s.Visits) (hp : phasWeek s n = some rz) (hq : ∀ m', Ext m m' → Q (.c (.bool rz)) m') : Wc prog tbl 69 [.agg 4 [(Il s.Last), ca101, ca102, ca103], .c (Il n)] m Q := by
 have p := hS.st
 obtain ⟨q, _⟩ : ∃ τ : Nat → Nat, True := ⟨fun _ => 0, trivial⟩
 refine w69 ?_
 unfold phasWeek at hp
 intro t b
 obtain ⟨d, a, j, e⟩ := p.blk b q 1
 refine ⟨trivial, _, e.bk.rc rfl, ?_⟩
 obtain ⟨l, g, hp⟩ := bsome hp
 refine s_has (r := ({ Lo := (0 : Int), Hi := s.Last } : Rg)) (n := n) a.pre  g fun u h => ?_
 obtain ⟨i, o⟩ := a.call h d
 refine ⟨_, rfl, ?_⟩
 obtain rfl := Option.some.inj hp
 exact hq _ i.ext'
theorem s_tooMany {s : Ssn} {ca101 ca102 ca103 : C} {m f : M} {Q : V → M → Prop} {rz : Bool} (hS : Pre f m) (ha101 : Sl f ca101 s.Rules) (ha102 : Sl f ca102 s.Fields) (ha103 : Sl f ca103 s.Visits) (hp : ptooMany s = some rz) (hq : ∀ m', Ext m m' → Q (.c (.bool rz)) m') : Wc prog tbl 60 [.agg 4 [(Il s.Last), ca101, ca102, ca103]] m Q := by
 have l := hS.st
 obtain ⟨n, _⟩ : ∃ τ : Nat → Nat, True := ⟨fun _ => 0, trivial⟩
 refine w60 ?_
 unfold ptooMany at hp
 intro o d
 obtain ⟨i, a, j, b⟩ := l.blk d n 1
 refine ⟨trivial, _, b.bk.rc rfl, ?_⟩
 refine ifd hp (fun e hp => ?_) fun e hp => ?_
 ·obtain rfl := Option.some.inj hp
  exact hq _ a.ext'
 refine ⟨trivial, _, b.bk.rc rfl, ha101.isSl, ?_⟩
 try rw [ha101.slLen]
 refine ifd hp (fun g hp => ?_) fun g hp => ?_
 ·obtain rfl := Option.some.inj hp
  exact hq _ a.ext'
 refine ⟨trivial, _, b.bk.rc rfl, ha102.isSl, ?_⟩
 try rw [ha102.slLen]
 refine ifd hp (fun h hp => ?_) fun h hp => ?_
 ·obtain rfl := Option.some.inj hp
  exact hq _ a.ext'
 refine ⟨trivial, _, b.bk.rc rfl, ha103.isSl, ?_⟩
 try rw [ha103.slLen]
 obtain rfl := Option.some.inj hp
 exact hq _ a.ext'
theorem s_eachI1 {x : Int} {passes : Int → Option (Bool)} {b0 : Nat} {cb000 : C} {m f : M} {Q : V → M → Prop} {rz : Bool} (hS : Pre f m) (hb0 : Bk f b0 1 [cb000]) (hb000 : Fv_Int_Bool f cb000 passes) (hp : peachI1 x passes = some rz) (hq : ∀ m', Ext m m' → Q (.c (.bool rz)) m') : Wc prog tbl 144 [.c (Il x), .c (.ptr b0 0)] m Q := by
 have e := hS.st
 obtain ⟨i, _⟩ : ∃ τ : Nat → Nat, True := ⟨fun _ => 0, trivial⟩
 refine c144 ?_
 unfold peachI1 at hp
 refine ⟨_, (hb0.sub e.sub).rc rfl, ?_⟩
 obtain ⟨g, a, hp⟩ := bsome hp
 refine hb000 _ _ _ _ _ (Sub.refl _) e.pre  a fun j b => ?_
 obtain ⟨d, h⟩ := e.call b i
 refine ⟨_, rfl, ?_⟩
 obtain rfl := Option.some.inj hp
 exact hq _ d.ext'
theorem s_indexI {l : List Int} {p : Int → Option (Bool)} {ca100 ca200 : C} {m f : M} {Q : V → M → Prop} {rz : Int} (hS : Pre f m) (ha100 : Sl f ca100 l) (ha200 : Fv_Int_Bool f ca200 p) (hp : pindexI l p = some rz) (hq : ∀ m', Ext m m' → Q (.c (Il rz)) m') : Wc prog tbl 146 [.c ca100, .c ca200] m Q := by
 have D := hS.st
 obtain ⟨F, _⟩ : ∃ τ : Nat → Nat, True := ⟨fun _ => 0, trivial⟩
 refine w146 ?_
 unfold pindexI at hp
 refine ⟨ha100.isSl, ?_⟩
 intro G y
 have hgo : ∀ (b : Nat) (u : Int) (j : Int) (n : M) (d : Nat → Nat), St (Fm.of m) f f n → pindexI_L0 l p b j = some rz → G [.c (Il u), .c (Il j)] n := by
  intro b
  induction b with
  | zero => intro u j n d a hp; cases hp
  | succ b x =>
   intro u j n d a hp
   refine y _ _ _ ?_
   rw [pindexI_L0] at hp
   try rw [ha100.slLen]
   refine ifd hp (fun o hp => ?_) fun o hp => ?_; rotate_left
   ·obtain rfl := Option.some.inj hp
    exact hq _ a.ext'
   obtain ⟨z, e, hp⟩ := bsome hp
   obtain ⟨I, i, g, e⟩ := idx_some e
   refine ⟨I, i, (by first | exact g | (rw [ha100.slLen]; exact g)), _, (ha100.rdI e a.sub), ?_⟩
   obtain ⟨A, q, hp⟩ := bsome hp
   refine ha200 _ _ _ _ _ (Sub.refl _) a.pre  q fun J r => ?_
   obtain ⟨h, B⟩ := a.call r d
   refine ⟨_, rfl, ?_⟩
   refine ifbb hp (fun s hp => ?_) fun s hp => ?_
   ·obtain rfl := Option.some.inj hp
    exact hq _ h.ext'
   refine gdi hp fun t hp => ?_
   exact x _ _ _ d h hp
 exact hgo _ _ _ _ F D hp
theorem s_containsI {l : List Int} {p : Int → Option (Bool)} {ca100 ca200 : C} {m f : M} {Q : V → M → Prop} {rz : Bool} (hS : Pre f m) (ha100 : Sl f ca100 l) (ha200 : Fv_Int_Bool f ca200 p) (hp : pcontainsI l p = some rz) (hq : ∀ m', Ext m m' → Q (.c (.bool rz)) m') : Wc prog tbl 143 [.c ca100, .c ca200] m Q := by
 have e := hS.st
 obtain ⟨i, _⟩ : ∃ τ : Nat → Nat, True := ⟨fun _ => 0, trivial⟩
 refine w143 ?_
 unfold pcontainsI at hp
 obtain ⟨g, a, hp⟩ := bsome hp
 refine s_indexI (l := l) (p := p) e.pre ha100 ha200 a fun j b => ?_
 obtain ⟨d, h⟩ := e.call b i
 refine ⟨_, rfl, ?_⟩
 obtain rfl := Option.some.inj hp
 exact hq _ d.ext'
theorem s_eachI {l : List Int} {passes : Int → Option (Bool)} {ca100 ca200 : C} {m f : M} {Q : V → M → Prop} {rz : Bool} (hS : Pre f m) (ha100 : Sl f ca100 l) (ha200 : Fv_Int_Bool f ca200 passes) (hp : peachI l passes = some rz) (hq : ∀ m', Ext m m' → Q (.c (.bool rz)) m') : Wc prog tbl 132 [.c ca100, .c ca200] m Q := by
 have z := hS.st
 obtain ⟨A, _⟩ : ∃ τ : Nat → Nat, True := ⟨fun _ => 0, trivial⟩
 refine w132 ?_
 unfold peachI at hp
 intro B h
 obtain ⟨i, j, u, n⟩ := z.blk h A 1
 obtain ⟨o, b, d, e⟩ := n.freeze j
 have g : Fv_Int_Bool o ((C.fn (Fn.func 144) [] [(W.c (C0.ptr m.nxt 0))])) (fun a => peachI1 a passes) := by
  intro f' m' a r Q hs hpre  hg hq
  exact s_eachI1 hpre (e.sub hs) ((ha200.sub d.fs).sub hs) hg hq
 obtain ⟨x, q, hp⟩ := bsome hp
 refine s_containsI (l := l) (p := (fun a => peachI1 a passes)) b.pre (ha100.sub d.fs) g q fun D s => ?_
 obtain ⟨t, y⟩ := b.call s i
 refine ⟨_, rfl, ?_⟩
 obtain rfl := Option.some.inj hp
 exact hq _ t.ext'
theorem s_eachL1 {x : List Int} {passes : List Int → Option (Bool)} {b0 : Nat} {ca100 cb000 : C} {m f : M} {Q : V → M → Prop} {rz : Bool} (hS : Pre f m) (ha100 : Sl f ca100 x) (hb0 : Bk f b0 1 [cb000]) (hb000 : Fv_LInt_Bool f cb000 passes) (hp : peachL1 x passes = some rz) (hq : ∀ m', Ext m m' → Q (.c (.bool rz)) m') : Wc prog tbl 131 [.c ca100, .c (.ptr b0 0)] m Q := by
 have e := hS.st
 obtain ⟨i, _⟩ : ∃ τ : Nat → Nat, True := ⟨fun _ => 0, trivial⟩
 refine c131 ?_
 unfold peachL1 at hp
 refine ⟨_, (hb0.sub e.sub).rc rfl, ?_⟩
 obtain ⟨g, a, hp⟩ := bsome hp
 refine hb000 _ _ _ _ _ _ (Sub.refl _) e.pre ha100 a fun j b => ?_
 obtain ⟨d, h⟩ := e.call b i
 refine ⟨_, rfl, ?_⟩
 obtain rfl := Option.some.inj hp
 exact hq _ d.ext'
theorem s_indexL {l : List (List Int)} {p : List Int → Option (Bool)} {ca100 ca200 : C} {m f : M} {Q : V → M → Prop} {rz : Int} (hS : Pre f m) (ha100 : Sl f ca100 l) (ha200 : Fv_LInt_Bool f ca200 p) (hp : pindexL l p = some rz) (hq : ∀ m', Ext m m' → Q (.c (Il rz)) m') : Wc prog tbl 142 [.c ca100, .c ca200] m Q := by
 have I := hS.st
 obtain ⟨J, _⟩ : ∃ τ : Nat → Nat, True := ⟨fun _ => 0, trivial⟩
 refine w142 ?_
 unfold pindexL at hp
 refine ⟨ha100.isSl, ?_⟩
 intro N A
 have hgo : ∀ (b : Nat) (y : Int) (j : Int) (n : M) (d : Nat → Nat), St (Fm.of m) f f n → pindexL_L0 l p b j = some rz → N [.c (Il y), .c (Il j)] n := by
  intro b
  induction b with
  | zero => intro y j n d a hp; cases hp
  | succ b z =>
   intro y j n d a hp
   refine A _ _ _ ?_
   rw [pindexL_L0] at hp
   try rw [ha100.slLen]
   refine ifd hp (fun o hp => ?_) fun o hp => ?_; rotate_left
   ·obtain rfl := Option.some.inj hp
    exact hq _ a.ext'
   obtain ⟨B, e, hp⟩ := bsome hp
   obtain ⟨O, i, g, e⟩ := idx_some e
   obtain ⟨D, q, r⟩ := ha100.rdS e
   refine ⟨O, i, (by first | exact g | (rw [ha100.slLen]; exact g)), _, (q _ a.sub), ?_⟩
   obtain ⟨F, s, hp⟩ := bsome hp
   refine ha200 _ _ _ _ _ _ (Sub.refl _) a.pre r s fun P t => ?_
   obtain ⟨h, G⟩ := a.call t d
   refine ⟨_, rfl, ?_⟩
   refine ifbb hp (fun u hp => ?_) fun u hp => ?_
   ·obtain rfl := Option.some.inj hp
    exact hq _ h.ext'
   refine gdi hp fun x hp => ?_
   exact z _ _ _ d h hp
 exact hgo _ _ _ _ J I hp
theorem s_containsL {l : List (List Int)} {p : List Int → Option (Bool)} {ca100 ca200 : C} {m f : M} {Q : V → M → Prop} {rz : Bool} (hS : Pre f m) (ha100 : Sl f ca100 l) (ha200 : Fv_LInt_Bool f ca200 p) (hp : pcontainsL l p = some rz) (hq : ∀ m', Ext m m' → Q (.c (.bool rz)) m') : Wc prog tbl 130 [.c ca100, .c ca200] m Q := by
 have e := hS.st
 obtain ⟨i, _⟩ : ∃ τ : Nat → Nat, True := ⟨fun _ => 0, trivial⟩
 refine w130 ?_
 unfold pcontainsL at hp
 obtain ⟨g, a, hp⟩ := bsome hp
 refine s_indexL (l := l) (p := p) e.pre ha100 ha200 a fun j b => ?_
 obtain ⟨d, h⟩ := e.call b i
 refine ⟨_, rfl, ?_⟩
 obtain rfl := Option.some.inj hp
 exact hq _ d.ext'
theorem s_eachL {l : List (List Int)} {passes : List Int → Option (Bool)} {ca100 ca200 : C} {m f : M} {Q : V → M → Prop} {rz : Bool} (hS : Pre f m) (ha100 : Sl f ca100 l) (ha200 : Fv_LInt_Bool f ca200 passes) (hp : peachL l passes = some rz) (hq : ∀ m', Ext m m' → Q (.c (.bool rz)) m') : Wc prog tbl 103 [.c ca100, .c ca200] m Q := by
 have B := hS.st
 obtain ⟨D, _⟩ : ∃ τ : Nat → Nat, True := ⟨fun _ => 0, trivial⟩
 refine w103 ?_
 unfold peachL at hp
 intro F h
 obtain ⟨i, j, x, n⟩ := B.blk h D 1
 obtain ⟨o, b, d, e⟩ := n.freeze j
 have g : Fv_LInt_Bool o ((C.fn (Fn.func 131) [] [(W.c (C0.ptr m.nxt 0))])) (fun a => peachL1 a passes) := by
  intro f' m' a y r Q hs hpre q hg hq
  exact s_eachL1 hpre q (e.sub hs) ((ha200.sub d.fs).sub hs) hg hq
 obtain ⟨z, s, hp⟩ := bsome hp
 refine s_containsL (l := l) (p := (fun a => peachL1 a passes)) b.pre (ha100.sub d.fs) g s fun G t => ?_
 obtain ⟨u, A⟩ := b.call t i
 refine ⟨_, rfl, ?_⟩
 obtain rfl := Option.some.inj hp
 exact hq _ u.ext'
theorem s_eachF1 {x : Fld} {passes : Fld → Option (Bool)} {b0 : Nat} {cb000 : C} {m f : M} {Q : V → M → Prop} {rz : Bool} (hS : Pre f m) (hb0 : Bk f b0 1 [cb000]) (hb000 : Fv_Fld_Bool f cb000 passes) (hp : peachF1 x passes = some rz) (hq : ∀ m', Ext m m' → Q (.c (.bool rz)) m') : Wc prog tbl 109 [.agg 7 [(Il x.Crop), (Il x.Week.Lo), (Il x.Week.Hi), (Il x.Damage.Lo), (Il x.Damage.Hi), (Il x.Old.Lo), (Il x.Old.Hi)], .c (.ptr b0 0)] m Q := by
 have o := hS.st
 obtain ⟨p, _⟩ : ∃ τ : Nat → Nat, True := ⟨fun _ => 0, trivial⟩
 refine c109 ?_
 unfold peachF1 at hp
 intro r b
 obtain ⟨d, a, j, e⟩ := o.blk b p 1
 refine ⟨_, (hb0.sub a.sub).rc rfl, _, _, _, _, _, _, _, e.bk.ra, ?_⟩
 obtain ⟨l, g, hp⟩ := bsome hp
 refine hb000 _ _ _ _ _ (Sub.refl _) a.pre  g fun q h => ?_
 obtain ⟨i, n⟩ := a.call h d
 refine ⟨_, rfl, ?_⟩
 obtain rfl := Option.some.inj hp
 exact hq _ i.ext'
theorem s_indexF {l : List Fld} {p : Fld → Option (Bool)} {ca100 ca200 : C} {m f : M} {Q : V → M → Prop} {rz : Int} (hS : Pre f m) (ha100 : Sl f ca100 l) (ha200 : Fv_Fld_Bool f ca200 p) (hp : pindexF l p = some rz) (hq : ∀ m', Ext m m' → Q (.c (Il rz)) m') : Wc prog tbl 136 [.c ca100, .c ca200] m Q := by
 have F := hS.st
 obtain ⟨G, _⟩ : ∃ τ : Nat → Nat, True := ⟨fun _ => 0, trivial⟩
 refine w136 ?_
 unfold pindexF at hp
 refine ⟨ha100.isSl, ?_⟩
 intro I z
 have hgo : ∀ (b : Nat) (x : Int) (j : Int) (n : M) (d : Nat → Nat), St (Fm.of m) f f n → pindexF_L0 l p b j = some rz → I [.c (Il x), .c (Il j)] n := by
  intro b
  induction b with
  | zero => intro x j n d a hp; cases hp
  | succ b y =>
   intro x j n d a hp
   refine z _ _ _ ?_
   rw [pindexF_L0] at hp
   try rw [ha100.slLen]
   refine ifd hp (fun o hp => ?_) fun o hp => ?_; rotate_left
   ·obtain rfl := Option.some.inj hp
    exact hq _ a.ext'
   obtain ⟨A, e, hp⟩ := bsome hp
   obtain ⟨J, i, g, e⟩ := idx_some e
   obtain ⟨_, q⟩ := rd_Fld ha100 e
   refine ⟨J, i, (by first | exact g | (rw [ha100.slLen]; exact g)), _, _, _, _, _, _, _, (q _ a.sub).1, ?_⟩
   obtain ⟨B, r, hp⟩ := bsome hp
   refine ha200 _ _ _ _ _ (Sub.refl _) a.pre  r fun N s => ?_
   obtain ⟨h, D⟩ := a.call s d
   refine ⟨_, rfl, ?_⟩
   refine ifbb hp (fun t hp => ?_) fun t hp => ?_
   ·obtain rfl := Option.some.inj hp
    exact hq _ h.ext'
   refine gdi hp fun u hp => ?_
   exact y _ _ _ d h hp
 exact hgo _ _ _ _ G F hp
theorem s_containsF {l : List Fld} {p : Fld → Option (Bool)} {ca100 ca200 : C} {m f : M} {Q : V → M → Prop} {rz : Bool} (hS : Pre f m) (ha100 : Sl f ca100 l) (ha200 : Fv_Fld_Bool f ca200 p) (hp : pcontainsF l p = some rz) (hq : ∀ m', Ext m m' → Q (.c (.bool rz)) m') : Wc prog tbl 108 [.c ca100, .c ca200] m Q := by
 have e := hS.st
 obtain ⟨i, _⟩ : ∃ τ : Nat → Nat, True := ⟨fun _ => 0, trivial⟩
 refine w108 ?_
 unfold pcontainsF at hp
 obtain ⟨g, a, hp⟩ := bsome hp
 refine s_indexF (l := l) (p := p) e.pre ha100 ha200 a fun j b => ?_
 obtain ⟨d, h⟩ := e.call b i
 refine ⟨_, rfl, ?_⟩
 obtain rfl := Option.some.inj hp
 exact hq _ d.ext'
theorem s_eachF {l : List Fld} {passes : Fld → Option (Bool)} {ca100 ca200 : C} {m f : M} {Q : V → M → Prop} {rz : Bool} (hS : Pre f m) (ha100 : Sl f ca100 l) (ha200 : Fv_Fld_Bool f ca200 passes) (hp : peachF l passes = some rz) (hq : ∀ m', Ext m m' → Q (.c (.bool rz)) m') : Wc prog tbl 62 [.c ca100, .c ca200] m Q := by
 have z := hS.st
 obtain ⟨A, _⟩ : ∃ τ : Nat → Nat, True := ⟨fun _ => 0, trivial⟩
 refine w62 ?_
 unfold peachF at hp
 intro B h
 obtain ⟨i, j, u, n⟩ := z.blk h A 1
 obtain ⟨o, b, d, e⟩ := n.freeze j
 have g : Fv_Fld_Bool o ((C.fn (Fn.func 109) [] [(W.c (C0.ptr m.nxt 0))])) (fun a => peachF1 a passes) := by
  intro f' m' a r Q hs hpre  hg hq
  exact s_eachF1 hpre (e.sub hs) ((ha200.sub d.fs).sub hs) hg hq
 obtain ⟨x, q, hp⟩ := bsome hp
 refine s_containsF (l := l) (p := (fun a => peachF1 a passes)) b.pre (ha100.sub d.fs) g q fun D s => ?_
 obtain ⟨t, y⟩ := b.call s i
 refine ⟨_, rfl, ?_⟩
 obtain rfl := Option.some.inj hp
 exact hq _ t.ext'
theorem s_eachV1 {x : Vis} {passes : Vis → Option (Bool)} {b0 : Nat} {cb000 : C} {m f : M} {Q : V → M → Prop} {rz : Bool} (hS : Pre f m) (hb0 : Bk f b0 1 [cb000]) (hb000 : Fv_Vis_Bool f cb000 passes) (hp : peachV1 x passes = some rz) (hq : ∀ m', Ext m m' → Q (.c (.bool rz)) m') : Wc prog tbl 135 [.agg 4 [(Il x.Field), (Il x.Week), (Il x.Seen.Lo), (Il x.Seen.Hi)], .c (.ptr b0 0)] m Q := by
 have o := hS.st
 obtain ⟨p, _⟩ : ∃ τ : Nat → Nat, True := ⟨fun _ => 0, trivial⟩
 refine c135 ?_
 unfold peachV1 at hp
 intro q b
 obtain ⟨d, a, j, e⟩ := o.blk b p 1
 refine ⟨_, (hb0.sub a.sub).rc rfl, _, _, _, _, e.bk.ra, ?_⟩
 obtain ⟨l, g, hp⟩ := bsome hp
 refine hb000 _ _ _ _ _ (Sub.refl _) a.pre  g fun r h => ?_
 obtain ⟨i, n⟩ := a.call h d
 refine ⟨_, rfl, ?_⟩
 obtain rfl := Option.some.inj hp
 exact hq _ i.ext'
theorem s_indexV {l : List Vis} {p : Vis → Option (Bool)} {ca100 ca200 : C} {m f : M} {Q : V → M → Prop} {rz : Int} (hS : Pre f m) (ha100 : Sl f ca100 l) (ha200 : Fv_Vis_Bool f ca200 p) (hp : pindexV l p = some rz) (hq : ∀ m', Ext m m' → Q (.c (Il rz)) m') : Wc prog tbl 145 [.c ca100, .c ca200] m Q := by
 have F := hS.st
 obtain ⟨G, _⟩ : ∃ τ : Nat → Nat, True := ⟨fun _ => 0, trivial⟩
 refine w145 ?_
 unfold pindexV at hp
 refine ⟨ha100.isSl, ?_⟩
 intro I z
 have hgo : ∀ (b : Nat) (x : Int) (j : Int) (n : M) (d : Nat → Nat), St (Fm.of m) f f n → pindexV_L0 l p b j = some rz → I [.c (Il x), .c (Il j)] n := by
  intro b
  induction b with
  | zero => intro x j n d a hp; cases hp
  | succ b y =>
   intro x j n d a hp
   refine z _ _ _ ?_
   rw [pindexV_L0] at hp
   try rw [ha100.slLen]
   refine ifd hp (fun o hp => ?_) fun o hp => ?_; rotate_left
   ·obtain rfl := Option.some.inj hp
    exact hq _ a.ext'
   obtain ⟨A, e, hp⟩ := bsome hp
   obtain ⟨J, i, g, e⟩ := idx_some e
   obtain ⟨_, q⟩ := rd_Vis ha100 e
   refine ⟨J, i, (by first | exact g | (rw [ha100.slLen]; exact g)), _, _, _, _, (q _ a.sub).1, ?_⟩
   obtain ⟨B, r, hp⟩ := bsome hp
   refine ha200 _ _ _ _ _ (Sub.refl _) a.pre  r fun N s => ?_
   obtain ⟨h, D⟩ := a.call s d
   refine ⟨_, rfl, ?_⟩
   refine ifbb hp (fun t hp => ?_) fun t hp => ?_
   ·obtain rfl := Option.some.inj hp
    exact hq _ h.ext'
   refine gdi hp fun u hp => ?_
   exact y _ _ _ d h hp
 exact hgo _ _ _ _ G F hp
theorem s_containsV {l : List Vis} {p : Vis → Option (Bool)} {ca100 ca200 : C} {m f : M} {Q : V → M → Prop} {rz : Bool} (hS : Pre f m) (ha100 : Sl f ca100 l) (ha200 : Fv_Vis_Bool f ca200 p) (hp : pcontainsV l p = some rz) (hq : ∀ m', Ext m m' → Q (.c (.bool rz)) m') : Wc prog tbl 134 [.c ca100, .c ca200] m Q := by
 have e := hS.st
 obtain ⟨i, _⟩ : ∃ τ : Nat → Nat, True := ⟨fun _ => 0, trivial⟩
 refine w134 ?_
 unfold pcontainsV at hp
 obtain ⟨g, a, hp⟩ := bsome hp
 refine s_indexV (l := l) (p := p) e.pre ha100 ha200 a fun j b => ?_
 obtain ⟨d, h⟩ := e.call b i
 refine ⟨_, rfl, ?_⟩
 obtain rfl := Option.some.inj hp
 exact hq _ d.ext'
theorem s_eachV {l : List Vis} {passes : Vis → Option (Bool)} {ca100 ca200 : C} {m f : M} {Q : V → M → Prop} {rz : Bool} (hS : Pre f m) (ha100 : Sl f ca100 l) (ha200 : Fv_Vis_Bool f ca200 passes) (hp : peachV l passes = some rz) (hq : ∀ m', Ext m m' → Q (.c (.bool rz)) m') : Wc prog tbl 106 [.c ca100, .c ca200] m Q := by
 have z := hS.st
 obtain ⟨A, _⟩ : ∃ τ : Nat → Nat, True := ⟨fun _ => 0, trivial⟩
 refine w106 ?_
 unfold peachV at hp
 intro B h
 obtain ⟨i, j, u, n⟩ := z.blk h A 1
 obtain ⟨o, b, d, e⟩ := n.freeze j
 have g : Fv_Vis_Bool o ((C.fn (Fn.func 135) [] [(W.c (C0.ptr m.nxt 0))])) (fun a => peachV1 a passes) := by
  intro f' m' a r Q hs hpre  hg hq
  exact s_eachV1 hpre (e.sub hs) ((ha200.sub d.fs).sub hs) hg hq
 obtain ⟨x, q, hp⟩ := bsome hp
 refine s_containsV (l := l) (p := (fun a => peachV1 a passes)) b.pre (ha100.sub d.fs) g q fun D s => ?_
 obtain ⟨t, y⟩ := b.call s i
 refine ⟨_, rfl, ?_⟩
 obtain rfl := Option.some.inj hp
 exact hq _ t.ext'
theorem s_eachD1 {x : Dm} {passes : Dm → Option (Bool)} {b0 : Nat} {cb000 : C} {m f : M} {Q : V → M → Prop} {rz : Bool} (hS : Pre f m) (hb0 : Bk f b0 1 [cb000]) (hb000 : Fv_Dm_Bool f cb000 passes) (hp : peachD1 x passes = some rz) (hq : ∀ m', Ext m m' → Q (.c (.bool rz)) m') : Wc prog tbl 122 [.agg 13 [(Il x.d0), (Il x.d1), (Il x.d2), (Il x.d3), (Il x.d4), (Il x.d5), (Il x.d6), (Il x.d7), (Il x.d8), (Il x.d9), (Il x.d10), (Il x.d11), (Il x.d12)], .c (.ptr b0 0)] m Q := by
 have o := hS.st
 obtain ⟨p, _⟩ : ∃ τ : Nat → Nat, True := ⟨fun _ => 0, trivial⟩
 refine c122 ?_
 unfold peachD1 at hp
 intro r b
 obtain ⟨d, a, j, e⟩ := o.blk b p 1
 refine ⟨_, (hb0.sub a.sub).rc rfl, _, _, _, _, _, _, _, _, _, _, _, _, _, e.bk.ra, ?_⟩
 obtain ⟨l, g, hp⟩ := bsome hp
 refine hb000 _ _ _ _ _ (Sub.refl _) a.pre  g fun q h => ?_
 obtain ⟨i, n⟩ := a.call h d
 refine ⟨_, rfl, ?_⟩
 obtain rfl := Option.some.inj hp
 exact hq _ i.ext'
theorem s_indexD {l : List Dm} {p : Dm → Option (Bool)} {ca100 ca200 : C} {m f : M} {Q : V → M → Prop} {rz : Int} (hS : Pre f m) (ha100 : Sl f ca100 l) (ha200 : Fv_Dm_Bool f ca200 p) (hp : pindexD l p = some rz) (hq : ∀ m', Ext m m' → Q (.c (Il rz)) m') : Wc prog tbl 123 [.c ca100, .c ca200] m Q := by
 have F := hS.st
 obtain ⟨G, _⟩ : ∃ τ : Nat → Nat, True := ⟨fun _ => 0, trivial⟩
 refine w123 ?_
 unfold pindexD at hp
 refine ⟨ha100.isSl, ?_⟩
 intro I z
 have hgo : ∀ (b : Nat) (x : Int) (j : Int) (n : M) (d : Nat → Nat), St (Fm.of m) f f n → pindexD_L0 l p b j = some rz → I [.c (Il x), .c (Il j)] n := by
  intro b
  induction b with
  | zero => intro x j n d a hp; cases hp
  | succ b y =>
   intro x j n d a hp
   refine z _ _ _ ?_
   rw [pindexD_L0] at hp
   try rw [ha100.slLen]
   refine ifd hp (fun o hp => ?_) fun o hp => ?_; rotate_left
   ·obtain rfl := Option.some.inj hp
    exact hq _ a.ext'
   obtain ⟨A, e, hp⟩ := bsome hp
   obtain ⟨J, i, g, e⟩ := idx_some e
   obtain ⟨_, q⟩ := rd_Dm ha100 e
   refine ⟨J, i, (by first | exact g | (rw [ha100.slLen]; exact g)), _, _, _, _, _, _, _, _, _, _, _, _, _, (q _ a.sub).1, ?_⟩
   obtain ⟨B, r, hp⟩ := bsome hp
   refine ha200 _ _ _ _ _ (Sub.refl _) a.pre  r fun N s => ?_
   obtain ⟨h, D⟩ := a.call s d
   refine ⟨_, rfl, ?_⟩
   refine ifbb hp (fun t hp => ?_) fun t hp => ?_
   ·obtain rfl := Option.some.inj hp
    exact hq _ h.ext'
   refine gdi hp fun u hp => ?_
   exact y _ _ _ d h hp
 exact hgo _ _ _ _ G F hp
theorem s_containsD {l : List Dm} {p : Dm → Option (Bool)} {ca100 ca200 : C} {m f : M} {Q : V → M → Prop} {rz : Bool} (hS : Pre f m) (ha100 : Sl f ca100 l) (ha200 : Fv_Dm_Bool f ca200 p) (hp : pcontainsD l p = some rz) (hq : ∀ m', Ext m m' → Q (.c (.bool rz)) m') : Wc prog tbl 88 [.c ca100, .c ca200] m Q := by
 have e := hS.st
 obtain ⟨i, _⟩ : ∃ τ : Nat → Nat, True := ⟨fun _ => 0, trivial⟩
 refine w88 ?_
 unfold pcontainsD at hp
 obtain ⟨g, a, hp⟩ := bsome hp
 refine s_indexD (l := l) (p := p) e.pre ha100 ha200 a fun j b => ?_
 obtain ⟨d, h⟩ := e.call b i
 refine ⟨_, rfl, ?_⟩
 obtain rfl := Option.some.inj hp
 exact hq _ d.ext'
theorem s_eachD {l : List Dm} {passes : Dm → Option (Bool)} {ca100 ca200 : C} {m f : M} {Q : V → M → Prop} {rz : Bool} (hS : Pre f m) (ha100 : Sl f ca100 l) (ha200 : Fv_Dm_Bool f ca200 passes) (hp : peachD l passes = some rz) (hq : ∀ m', Ext m m' → Q (.c (.bool rz)) m') : Wc prog tbl 87 [.c ca100, .c ca200] m Q := by
 have z := hS.st
 obtain ⟨A, _⟩ : ∃ τ : Nat → Nat, True := ⟨fun _ => 0, trivial⟩
 refine w87 ?_
 unfold peachD at hp
 intro B h
 obtain ⟨i, j, u, n⟩ := z.blk h A 1
 obtain ⟨o, b, d, e⟩ := n.freeze j
 have g : Fv_Dm_Bool o ((C.fn (Fn.func 122) [] [(W.c (C0.ptr m.nxt 0))])) (fun a => peachD1 a passes) := by
  intro f' m' a r Q hs hpre  hg hq
  exact s_eachD1 hpre (e.sub hs) ((ha200.sub d.fs).sub hs) hg hq
 obtain ⟨x, q, hp⟩ := bsome hp
 refine s_containsD (l := l) (p := (fun a => peachD1 a passes)) b.pre (ha100.sub d.fs) g q fun D s => ?_
 obtain ⟨t, y⟩ := b.call s i
 refine ⟨_, rfl, ?_⟩
 obtain rfl := Option.some.inj hp
 exact hq _ t.ext'
theorem s_validRule {s : Ssn} {rule : List Int} {ca101 ca102 ca103 ca200 : C} {m f : M} {Q : V → M → Prop} {rz : Bool} (hS : Pre f m) (ha101 : Sl f ca101 s.Rules) (ha102 : Sl f ca102 s.Fields) (ha103 : Sl f ca103 s.Visits) (ha200 : Sl f ca200 rule) (hp : pvalidRule s rule = some rz) (hq : ∀ m', Ext m m' → Q (.c (.bool rz)) m') : Wc prog tbl 104 [.agg 4 [(Il s.Last), ca101, ca102, ca103], .c ca200] m Q := by
 have x := hS.st
 obtain ⟨y, _⟩ : ∃ τ : Nat → Nat, True := ⟨fun _ => 0, trivial⟩
 refine w104 ?_
 unfold pvalidRule at hp
 intro z e
 obtain ⟨g, b, q, h⟩ := x.blk e y 1
 refine ⟨ha200.isSl, trivial, _, h.bk.rc rfl, ?_⟩
 refine gdi hp fun i hp => ?_
 try rw [ha200.slLen]
 refine ifd hp (fun j hp => ?_) fun j hp => ?_; rotate_left
 ·obtain rfl := Option.some.inj hp
  exact hq _ b.ext'
 have d : Fv_Int_Bool f ((C.fn (Fn.func 84) [] [])) (fun a => pisHundredths a) := by
  intro f' m' a r Q hs hpre  hg hq
  exact s_isHundredths hpre  hg hq
 obtain ⟨t, n, hp⟩ := bsome hp
 refine s_eachI (l := rule) (passes := (fun a => pisHundredths a)) b.pre ha200 d n fun A o => ?_
 obtain ⟨p, u⟩ := b.call o g
 refine ⟨_, rfl, ?_⟩
 obtain rfl := Option.some.inj hp
 exact hq _ p.ext'
theorem s_validField {s : Ssn} {fl : Fld} {ca101 ca102 ca103 : C} {m f : M} {Q : V → M → Prop} {rz : Bool} (hS : Pre f m) (ha101 : Sl f ca101 s.Rules) (ha102 : Sl f ca102 s.Fields) (ha103 : Sl f ca103 s.Visits) (hp : pvalidField s fl = some rz) (hq : ∀ m', Ext m m' → Q (.c (.bool rz)) m') : Wc prog tbl 105 [.agg 4 [(Il s.Last), ca101, ca102, ca103], .agg 7 [(Il fl.Crop), (Il fl.Week.Lo), (Il fl.Week.Hi), (Il fl.Damage.Lo), (Il fl.Damage.Hi), (Il fl.Old.Lo), (Il fl.Old.Hi)]] m Q := by
 have S0 := hS.st
 obtain ⟨τ0, _⟩ : ∃ τ : Nat → Nat, True := ⟨fun _ => 0, trivial⟩
 refine w105 ?_
 unfold pvalidField at hp
 intro m0 t
 obtain ⟨u, x, da, y⟩ := S0.blk t τ0 1
 intro m1 z
 obtain ⟨a, g, A, h⟩ := x.blk z u 2
 have i := y.k A
 refine ⟨trivial, _, i.bk.rc rfl, ha101.isSl, ?_⟩
 obtain ⟨l, hp⟩ := gd_some hp
 refine ⟨(by first | exact l | (rw [ha101.slLen]; exact l)), trivial, _, h.bk.rc rfl, ?_⟩
 try rw [ha101.slLen]
 obtain ⟨ea, B, hp⟩ := bsome hp
 refine s_has (r := ({ Lo := (0 : Int), Hi := ((s.Rules.length : Int) - (1 : Int)) } : Rg)) (n := fl.Crop) g.pre  B fun m5 D => ?_
 obtain ⟨b, o⟩ := g.call D a
 have F := i.k o
 have p := h.k o
 refine ⟨_, rfl, ?_⟩
 refine ifbb hp (fun G hp => ?_) fun G hp => ?_; rotate_left
 ·obtain rfl := Option.some.inj hp
  exact hq _ b.ext'
 refine ⟨trivial, _, _, p.bk.rp (k := 1) (j := 2) rfl (by omega), trivial, _, F.bk.rc rfl, ?_⟩
 obtain ⟨fa, I, hp⟩ := bsome hp
 refine s_within (r := fl.Week) (low := (0 : Int)) (high := s.Last) b.pre  I fun la J => ?_
 obtain ⟨d, N⟩ := b.call J a
 have q := p.k N
 refine ⟨_, rfl, ?_⟩
 refine ifbb hp (fun O hp => ?_) fun O hp => ?_; rotate_left
 ·obtain rfl := Option.some.inj hp
  exact hq _ d.ext'
 refine ⟨trivial, _, _, q.bk.rp (k := 3) (j := 2) rfl (by omega), ?_⟩
 obtain ⟨ga, P, hp⟩ := bsome hp
 refine s_within (r := fl.Damage) (low := (0 : Int)) (high := (100 : Int)) d.pre  P fun ma S => ?_
 obtain ⟨e, T⟩ := d.call S a
 have Y := q.k T
 refine ⟨_, rfl, ?_⟩
 refine ifbb hp (fun Z hp => ?_) fun Z hp => ?_; rotate_left
 ·obtain rfl := Option.some.inj hp
  exact hq _ e.ext'
 refine ⟨trivial, _, _, Y.bk.rp (k := 5) (j := 2) rfl (by omega), ?_⟩
 obtain ⟨ha, aa, hp⟩ := bsome hp
 refine s_within (r := fl.Old) (low := (0 : Int)) (high := (100 : Int)) e.pre  aa fun na ba => ?_
 obtain ⟨ca, ia⟩ := e.call ba a
 refine ⟨_, rfl, ?_⟩
 obtain rfl := Option.some.inj hp
 exact hq _ ca.ext'
theorem s_validVisit {s : Ssn} {v : Vis} {ca101 ca102 ca103 : C} {m f : M} {Q : V → M → Prop} {rz : Bool} (hS : Pre f m) (ha101 : Sl f ca101 s.Rules) (ha102 : Sl f ca102 s.Fields) (ha103 : Sl f ca103 s.Visits) (hp : pvalidVisit s v = some rz) (hq : ∀ m', Ext m m' → Q (.c (.bool rz)) m') : Wc prog tbl 107 [.agg 4 [(Il s.Last), ca101, ca102, ca103], .agg 4 [(Il v.Field), (Il v.Week), (Il v.Seen.Lo), (Il v.Seen.Hi)]] m Q := by
 have S0 := hS.st
 obtain ⟨τ0, _⟩ : ∃ τ : Nat → Nat, True := ⟨fun _ => 0, trivial⟩
 refine w107 ?_
 unfold pvalidVisit at hp
 intro m0 o
 obtain ⟨p, q, S, t⟩ := S0.blk o τ0 1
 intro m1 u
 obtain ⟨a, e, x, g⟩ := q.blk u p 2
 have h := t.k x
 refine ⟨_, _, _, _, h.bk.ra, trivial, _, g.bk.rc rfl, ?_⟩
 obtain ⟨T, y, hp⟩ := bsome hp
 refine s_hasField (s := s) (n := v.Field) e.pre ha101 ha102 ha103 y fun m8 z => ?_
 obtain ⟨b, i⟩ := e.call z a
 have A := h.k i
 have l := g.k i
 refine ⟨_, rfl, ?_⟩
 refine ifbb hp (fun B hp => ?_) fun B hp => ?_; rotate_left
 ·obtain rfl := Option.some.inj hp
  exact hq _ b.ext'
 refine ⟨_, _, _, _, A.bk.ra, trivial, _, l.bk.rc rfl, ?_⟩
 obtain ⟨Y, D, hp⟩ := bsome hp
 refine s_hasWeek (s := s) (n := v.Week) b.pre ha101 ha102 ha103 D fun da F => ?_
 obtain ⟨d, G⟩ := b.call F a
 have I := l.k G
 refine ⟨_, rfl, ?_⟩
 refine ifbb hp (fun J hp => ?_) fun J hp => ?_; rotate_left
 ·obtain rfl := Option.some.inj hp
  exact hq _ d.ext'
 refine ⟨trivial, _, _, I.bk.rp (k := 2) (j := 2) rfl (by omega), ?_⟩
 obtain ⟨Z, N, hp⟩ := bsome hp
 refine s_within (r := v.Seen) (low := (0 : Int)) (high := (100 : Int)) d.pre  N fun ea O => ?_
 obtain ⟨P, aa⟩ := d.call O a
 refine ⟨_, rfl, ?_⟩
 obtain rfl := Option.some.inj hp
 exact hq _ P.ext'
theorem s_hasFew {fl : Fld} {m f : M} {Q : V → M → Prop} {rz : Bool} (hS : Pre f m)  (hp : phasFew fl = some rz) (hq : ∀ m', Ext m m' → Q (.c (.bool rz)) m') : Wc prog tbl 63 [.agg 7 [(Il fl.Crop), (Il fl.Week.Lo), (Il fl.Week.Hi), (Il fl.Damage.Lo), (Il fl.Damage.Hi), (Il fl.Old.Lo), (Il fl.Old.Hi)]] m Q := by
 have S := hS.st
 obtain ⟨T, _⟩ : ∃ τ : Nat → Nat, True := ⟨fun _ => 0, trivial⟩
 refine w63 ?_
 unfold phasFew at hp
 intro Z i
 obtain ⟨b, e, I, a⟩ := S.blk i T 1
 refine ⟨trivial, _, _, a.bk.rp (k := 1) (j := 2) rfl (by omega), ?_⟩
 obtain ⟨J, l, hp⟩ := bsome hp
 refine s_count (r := fl.Week) e.pre  l fun m4 n => ?_
 obtain ⟨g, o⟩ := e.call n b
 have d := a.k o
 refine ⟨_, rfl, trivial, _, _, d.bk.rp (k := 3) (j := 2) rfl (by omega), (a.bk.rp (k := 3) (j := 2) rfl (by omega)), ?_⟩
 obtain ⟨N, p, hp⟩ := bsome hp
 refine s_count (r := fl.Damage) g.pre  p fun m9 q => ?_
 obtain ⟨h, s⟩ := g.call q b
 have t := d.k s
 refine ⟨_, rfl, ?_⟩
 refine gdi hp fun u hp => ?_
 refine gdi hp fun x hp => ?_
 obtain ⟨y, hp⟩ := gd_some hp
 refine ⟨y, trivial, _, _, t.bk.rp (k := 5) (j := 2) rfl (by omega), (d.bk.rp (k := 5) (j := 2) rfl (by omega)), (a.bk.rp (k := 5) (j := 2) rfl (by omega)), ?_⟩
 obtain ⟨O, z, hp⟩ := bsome hp
 refine s_count (r := fl.Old) h.pre  z fun Y A => ?_
 obtain ⟨B, P⟩ := h.call A b
 refine ⟨_, rfl, ?_⟩
 refine gdi hp fun D hp => ?_
 refine gdi hp fun F hp => ?_
 refine gdi hp fun G hp => ?_
 obtain rfl := Option.some.inj hp
 exact hq _ B.ext'
theorem s_isChoice {fl : Fld} {t : Trh} {m f : M} {Q : V → M → Prop} {rz : Bool} (hS : Pre f m)  (hp : pisChoice fl t = some rz) (hq : ∀ m', Ext m m' → Q (.c (.bool rz)) m') : Wc prog tbl 115 [.agg 7 [(Il fl.Crop), (Il fl.Week.Lo), (Il fl.Week.Hi), (Il fl.Damage.Lo), (Il fl.Damage.Hi), (Il fl.Old.Lo), (Il fl.Old.Hi)], .agg 3 [(Il t.Week), (Il t.Damage), (Il t.Old)]] m Q := by
 have S0 := hS.st
 obtain ⟨τ0, _⟩ : ∃ τ : Nat → Nat, True := ⟨fun _ => 0, trivial⟩
 refine w115 ?_
 unfold pisChoice at hp
 intro m0 q
 obtain ⟨s, u, T, x⟩ := S0.blk q τ0 1
 intro m1 y
 obtain ⟨a, e, z, g⟩ := u.blk y s 2
 have h := x.k z
 refine ⟨trivial, _, _, h.bk.rp (k := 1) (j := 2) rfl (by omega), trivial, _, g.bk.rc rfl, ?_⟩
 obtain ⟨Y, A, hp⟩ := bsome hp
 refine s_has (r := fl.Week) (n := t.Week) e.pre  A fun m6 B => ?_
 obtain ⟨b, i⟩ := e.call B a
 have l := h.k i
 have o := g.k i
 refine ⟨_, rfl, ?_⟩
 refine ifbb hp (fun D hp => ?_) fun D hp => ?_; rotate_left
 ·obtain rfl := Option.some.inj hp
  exact hq _ b.ext'
 refine ⟨trivial, _, _, l.bk.rp (k := 3) (j := 2) rfl (by omega), trivial, _, o.bk.rc rfl, ?_⟩
 obtain ⟨Z, F, hp⟩ := bsome hp
 refine s_has (r := fl.Damage) (n := t.Damage) b.pre  F fun ea G => ?_
 obtain ⟨d, p⟩ := b.call G a
 have I := l.k p
 have J := o.k p
 refine ⟨_, rfl, ?_⟩
 refine ifbb hp (fun N hp => ?_) fun N hp => ?_; rotate_left
 ·obtain rfl := Option.some.inj hp
  exact hq _ d.ext'
 refine ⟨trivial, _, _, I.bk.rp (k := 5) (j := 2) rfl (by omega), trivial, _, J.bk.rc rfl, ?_⟩
 obtain ⟨aa, O, hp⟩ := bsome hp
 refine s_has (r := fl.Old) (n := t.Old) d.pre  O fun fa P => ?_
 obtain ⟨S, ba⟩ := d.call P a
 refine ⟨_, rfl, ?_⟩
 obtain rfl := Option.some.inj hp
 exact hq _ S.ext'
theorem s_valid {s : Ssn} {ca101 ca102 ca103 : C} {m f : M} {Q : V → M → Prop} {rz : Bool} (hS : Pre f m) (ha101 : Sl f ca101 s.Rules) (ha102 : Sl f ca102 s.Fields) (ha103 : Sl f ca103 s.Visits) (hp : pvalid s = some rz) (hq : ∀ m', Ext m m' → Q (.c (.bool rz)) m') : Wc prog tbl 61 [.agg 4 [(Il s.Last), ca101, ca102, ca103]] m Q := by
 have S0 := hS.st
 obtain ⟨τ0, _⟩ : ∃ τ : Nat → Nat, True := ⟨fun _ => 0, trivial⟩
 refine w61 ?_
 unfold pvalid at hp
 intro m0 u
 obtain ⟨h, b, ha, a⟩ := S0.blk u τ0 1
 refine ⟨trivial, _, a.bk.rc rfl, ?_⟩
 refine ifd hp (fun x hp => ?_) fun x hp => ?_; rotate_left
 ·obtain rfl := Option.some.inj hp
  exact hq _ b.ext'
 refine ⟨trivial, _, a.bk.rc rfl, ha101.isSl, ?_⟩
 try rw [ha101.slLen]
 refine ifd hp (fun y hp => ?_) fun y hp => ?_; rotate_left
 ·obtain rfl := Option.some.inj hp
  exact hq _ b.ext'
 refine ⟨trivial, _, a.bk.rc rfl, ha102.isSl, ?_⟩
 try rw [ha102.slLen]
 refine ifd hp (fun z hp => ?_) fun z hp => ?_; rotate_left
 ·obtain rfl := Option.some.inj hp
  exact hq _ b.ext'
 refine ⟨trivial, _, a.bk.rc rfl, _, _, _, _, a.bk.ra, ?_⟩
 obtain ⟨l9, fa, ga⟩ : ∃ ws, mapO vW [.agg 4 [(Il s.Last), ca101, ca102, ca103]] = some ws ∧ mapS wV ws = [.agg 4 [(Il s.Last), ca101, ca102, ca103]] := (vWs_cons (vW_agg (nf_cons rfl (nf_cons ha101.noFn (nf_cons ha102.noFn (nf_cons ha103.noFn nf_nil))))) vWs_nil)
 rw [fa, optB_some]
 have p : Fv_LInt_Bool f ((C.fn (Fn.func 104) l9 [])) (fun d => pvalidRule s d) := by
  intro f' m' d ia r Q hs hpre A hg hq
  show Wc prog tbl 104 (appS (mapS wV l9) _) m' Q
  rw [ga]
  exact s_validRule hpre (ha101.sub hs) (ha102.sub hs) (ha103.sub hs) A hg hq
 obtain ⟨ja, B, hp⟩ := bsome hp
 refine s_eachL (l := s.Rules) (passes := (fun d => pvalidRule s d)) b.pre ha101 p B fun pa D => ?_
 obtain ⟨i, F⟩ := b.call D h
 have j := a.k F
 refine ⟨_, rfl, ?_⟩
 refine ifbb hp (fun G hp => ?_) fun G hp => ?_; rotate_left
 ·obtain rfl := Option.some.inj hp
  exact hq _ i.ext'
 refine ⟨trivial, _, j.bk.rc rfl, _, _, _, _, j.bk.ra, ?_⟩
 obtain ⟨Y, aa, ba⟩ : ∃ ws, mapO vW [.agg 4 [(Il s.Last), ca101, ca102, ca103]] = some ws ∧ mapS wV ws = [.agg 4 [(Il s.Last), ca101, ca102, ca103]] := (vWs_cons (vW_agg (nf_cons rfl (nf_cons ha101.noFn (nf_cons ha102.noFn (nf_cons ha103.noFn nf_nil))))) vWs_nil)
 rw [aa, optB_some]
 have q : Fv_Fld_Bool f ((C.fn (Fn.func 105) Y [])) (fun e => pvalidField s e) := by
  intro f' m' e r Q hs hpre  hg hq
  show Wc prog tbl 105 (appS (mapS wV Y) _) m' Q
  rw [ba]
  exact s_validField hpre (ha101.sub hs) (ha102.sub hs) (ha103.sub hs) hg hq
 obtain ⟨ka, I, hp⟩ := bsome hp
 refine s_eachF (l := s.Fields) (passes := (fun e => pvalidField s e)) i.pre ha102 q I fun qa J => ?_
 obtain ⟨n, N⟩ := i.call J h
 have o := j.k N
 refine ⟨_, rfl, ?_⟩
 refine ifbb hp (fun O hp => ?_) fun O hp => ?_; rotate_left
 ·obtain rfl := Option.some.inj hp
  exact hq _ n.ext'
 refine ⟨trivial, _, o.bk.rc rfl, _, _, _, _, o.bk.ra, ?_⟩
 obtain ⟨Z, ca, da⟩ : ∃ ws, mapO vW [.agg 4 [(Il s.Last), ca101, ca102, ca103]] = some ws ∧ mapS wV ws = [.agg 4 [(Il s.Last), ca101, ca102, ca103]] := (vWs_cons (vW_agg (nf_cons rfl (nf_cons ha101.noFn (nf_cons ha102.noFn (nf_cons ha103.noFn nf_nil))))) vWs_nil)
 rw [ca, optB_some]
 have t : Fv_Vis_Bool f ((C.fn (Fn.func 107) Z [])) (fun g => pvalidVisit s g) := by
  intro f' m' g r Q hs hpre  hg hq
  show Wc prog tbl 107 (appS (mapS wV Z) _) m' Q
  rw [da]
  exact s_validVisit hpre (ha101.sub hs) (ha102.sub hs) (ha103.sub hs) hg hq
 obtain ⟨la, P, hp⟩ := bsome hp
 refine s_eachV (l := s.Visits) (passes := (fun g => pvalidVisit s g)) n.pre ha103 t P fun sa S => ?_
 obtain ⟨T, ma⟩ := n.call S h
 refine ⟨_, rfl, ?_⟩
 obtain rfl := Option.some.inj hp
 exact hq _ T.ext'
theorem s_check {s : Ssn} {ca101 ca102 ca103 : C} {m f : M} {Q : V → M → Prop} {rz : Int} (hS : Pre f m) (ha101 : Sl f ca101 s.Rules) (ha102 : Sl f ca102 s.Fields) (ha103 : Sl f ca103 s.Visits) (hp : pcheck s = some rz) (hq : ∀ m', Ext m m' → Q (.c (Il rz)) m') : Wc prog tbl 15 [.agg 4 [(Il s.Last), ca101, ca102, ca103]] m Q := by
 have S := hS.st
 obtain ⟨T, _⟩ : ∃ τ : Nat → Nat, True := ⟨fun _ => 0, trivial⟩
 refine w15 ?_
 unfold pcheck at hp
 intro m0 o
 obtain ⟨b, g, I, h⟩ := S.blk o T 1
 refine ⟨_, _, _, _, h.bk.ra, ?_⟩
 obtain ⟨J, p, hp⟩ := bsome hp
 refine s_tooMany (s := s) g.pre ha101 ha102 ha103 p fun m6 q => ?_
 obtain ⟨d, t⟩ := g.call q b
 have i := h.k t
 refine ⟨_, rfl, ?_⟩
 refine ifbb hp (fun u hp => ?_) fun u hp => ?_
 ·obtain rfl := Option.some.inj hp
  exact hq _ d.ext'
 refine ⟨_, _, _, _, i.bk.ra, ?_⟩
 obtain ⟨N, x, hp⟩ := bsome hp
 refine s_valid (s := s) d.pre ha101 ha102 ha103 x fun Y y => ?_
 obtain ⟨e, z⟩ := d.call y b
 have A := i.k z
 refine ⟨_, rfl, ?_⟩
 refine ifnb hp (fun B hp => ?_) fun B hp => ?_
 ·obtain rfl := Option.some.inj hp
  exact hq _ e.ext'
 refine ⟨trivial, _, A.bk.rc rfl, ?_⟩
 have n : Fv_Fld_Bool f ((C.fn (Fn.func 63) [] [])) (fun a => phasFew a) := by
  intro f' m' a r Q hs hpre  hg hq
  exact s_hasFew hpre  hg hq
 obtain ⟨O, D, hp⟩ := bsome hp
 refine s_eachF (l := s.Fields) (passes := (fun a => phasFew a)) e.pre ha102 n D fun Z F => ?_
 obtain ⟨j, P⟩ := e.call F b
 refine ⟨_, rfl, ?_⟩
 refine ifnb hp (fun G hp => ?_) fun G hp => ?_
 ·obtain rfl := Option.some.inj hp
  exact hq _ j.ext'
 obtain rfl := Option.some.inj hp
 exact hq _ j.ext'
theorem s_grow {s : Ssn} {p : Plt} {ca101 ca102 ca103 : C} {m f : M} {Q : V → M → Prop} {rz : Dm} (hS : Pre f m) (ha101 : Sl f ca101 s.Rules) (ha102 : Sl f ca102 s.Fields) (ha103 : Sl f ca103 s.Visits) (hp : pgrow s p = some rz) (hq : ∀ m', Ext m m' → Q (.agg 13 [(Il rz.d0), (Il rz.d1), (Il rz.d2), (Il rz.d3), (Il rz.d4), (Il rz.d5), (Il rz.d6), (Il rz.d7), (Il rz.d8), (Il rz.d9), (Il rz.d10), (Il rz.d11), (Il rz.d12)]) m') : Wc prog tbl 116 [.agg 4 [(Il s.Last), ca101, ca102, ca103], .agg 4 [(Il p.t.Week), (Il p.t.Damage), (Il p.t.Old), (Il p.crop)]] m Q := by
 have S0 := hS.st
 obtain ⟨τ0, _⟩ : ∃ τ : Nat → Nat, True := ⟨fun _ => 0, trivial⟩
 refine w116 ?_
 unfold pgrow at hp
 intro m0 qa
 obtain ⟨sa, ta, Fb, ua⟩ := S0.blk qa τ0 1
 intro m1 va
 obtain ⟨wa, xa, ya, za⟩ := ta.blk va sa 2
 have Aa := ua.k ya
 intro m2 Ba
 obtain ⟨Ca, Da, ma, Ea⟩ := xa.blk Ba wa 3
 have Fa := Aa.k ma
 have Ga := za.k ma
 intro m3 Ha
 obtain ⟨Ia, Ja, N, F⟩ := Da.blk Ha Ca 4
 have D := Fa.k N
 have A := Ga.k N
 have G := Ea.k N
 intro R4 zb
 have hgo : ∀ (J : Nat) (a : Int) (x6 : Int) (b : Int) (e : Int) (g : Int) (h : Int) (i : Int) (j : Int) (n : Int) (o : Int) (q : Int) (r : Int) (u : Int) (x : Int) (y : Int) (z : Int) (m8 : M) (B : Nat → Nat), St (Fm.of m) f f m8 → Lb (Fm.of m) f B m8 1 m.nxt 4 [(Il s.Last), ca101, ca102, ca103] → Lb (Fm.of m) f B m8 2 m0.nxt 4 [(Il p.t.Week), (Il p.t.Damage), (Il p.t.Old), (Il p.crop)] → Lb (Fm.of m) f B m8 3 m1.nxt 13 [(Il 0), (Il 0), (Il 0), (Il 0), (Il 0), (Il 0), (Il 0), (Il 0), (Il 0), (Il 0), (Il 0), (Il 0), (Il 0)] → Lb (Fm.of m) f B m8 4 m2.nxt 13 [(Il e), (Il g), (Il h), (Il i), (Il j), (Il n), (Il o), (Il q), (Il r), (Il u), (Il x), (Il y), (Il z)] → pgrow_L0 s p J e g h i j n o q r u x y z a b = some rz → R4 [.c (Il a), .c (Il x6), .c (Il b)] m8 := by
  intro J
  induction J with
  | zero => intro a x6 b e g h i j n o q r u x y z m8 B I D A G F hp; cases hp
  | succ J la =>
   intro a x6 b e g h i j n o q r u x y z m8 B I D A G F hp
   refine zb _ _ _ _ ?_
   rw [pgrow_L0] at hp
   refine ifd hp (fun Ka hp => ?_) fun Ka hp => ?_; rotate_left
   ·refine ⟨_, _, _, _, _, _, _, _, _, _, _, _, _, F.bk.ra, ?_⟩
    obtain ⟨La, Ma, Na, Gb, Oa⟩ := G.sto I [(Il e), (Il g), (Il h), (Il i), (Il j), (Il n), (Il o), (Il q), (Il r), (Il u), (Il x), (Il y), (Il z)]
    refine ⟨La, Ma, ?_⟩
    refine ⟨_, _, _, _, _, _, _, _, _, _, _, _, _, Oa.bk.ra, ?_⟩
    obtain rfl := Option.some.inj hp
    exact hq _ Na.ext'
   refine ⟨trivial, trivial, _, A.bk.rc rfl, ?_⟩
   refine ifd hp (fun Pa hp => ?_) fun Pa hp => ?_
   ·refine ⟨trivial, trivial, _, A.bk.rc rfl, trivial, ?_⟩
    obtain ⟨Qa, hp⟩ := gd_some hp
    obtain ⟨Ab, da, ea⟩ := arr_no Qa
    refine ⟨Ab, da, ea, ?_⟩
    obtain ⟨Ra, Sa, Ta, O, P⟩ := F.sta I (pre := []) (post := []) (l := ([e, g, h, i, j, n, o, q, r, u, x, y, z] : List Int)) (enc := (C.int .i64)) rfl rfl da ea p.t.Damage
    replace P : Lb _ _ _ _ _ _ _ [(Il (sti b 0 p.t.Damage e)), (Il (sti b 1 p.t.Damage g)), (Il (sti b 2 p.t.Damage h)), (Il (sti b 3 p.t.Damage i)), (Il (sti b 4 p.t.Damage j)), (Il (sti b 5 p.t.Damage n)), (Il (sti b 6 p.t.Damage o)), (Il (sti b 7 p.t.Damage q)), (Il (sti b 8 p.t.Damage r)), (Il (sti b 9 p.t.Damage u)), (Il (sti b 10 p.t.Damage x)), (Il (sti b 11 p.t.Damage y)), (Il (sti b 12 p.t.Damage z))] := P
    have Ua := D.k O
    have Va := A.k O
    have Wa := G.k O
    refine ⟨Ra, Sa, ?_⟩
    refine gdi hp fun Xa hp => ?_
    exact la _ _ _ _ _ _ _ _ _ _ _ _ _ _ _ _ _ B Ta Ua Va Wa P hp
   refine ⟨trivial, _, D.bk.rc rfl, ?_⟩
   refine ifd hp (fun Ya hp => ?_) fun Ya hp => ?_; rotate_left
   ·refine ⟨trivial, ?_⟩
    obtain ⟨Za, hp⟩ := gd_some hp
    obtain ⟨Bb, fa, ga⟩ := arr_no Za
    refine ⟨Bb, fa, ga, ?_⟩
    obtain ⟨ab, bb, cb, S, T⟩ := F.sta I (pre := []) (post := []) (l := ([e, g, h, i, j, n, o, q, r, u, x, y, z] : List Int)) (enc := (C.int .i64)) rfl rfl fa ga a
    replace T : Lb _ _ _ _ _ _ _ [(Il (sti b 0 a e)), (Il (sti b 1 a g)), (Il (sti b 2 a h)), (Il (sti b 3 a i)), (Il (sti b 4 a j)), (Il (sti b 5 a n)), (Il (sti b 6 a o)), (Il (sti b 7 a q)), (Il (sti b 8 a r)), (Il (sti b 9 a u)), (Il (sti b 10 a x)), (Il (sti b 11 a y)), (Il (sti b 12 a z))] := T
    have db := D.k S
    have eb := A.k S
    have fb := G.k S
    refine ⟨ab, bb, ?_⟩
    refine gdi hp fun gb hp => ?_
    exact la _ _ _ _ _ _ _ _ _ _ _ _ _ _ _ _ _ B cb db eb fb T hp
   refine ⟨trivial, _, D.bk.rc rfl, trivial, _, A.bk.rc rfl, ?_⟩
   obtain ⟨Hb, Y, hp⟩ := bsome hp
   obtain ⟨Cb, oa, ha, Y⟩ := idx_some Y
   obtain ⟨Ib, hb, na⟩ := ha101.rdS Y
   refine ⟨Cb, oa, (by first | exact ha | (rw [ha101.slLen]; exact ha)), _, (hb _ I.sub), ?_⟩
   obtain ⟨d, Z, hp⟩ := bsome hp
   obtain ⟨Db, pa, ia, Z⟩ := idx_some Z
   refine ⟨Db, pa, (by first | exact ia | (rw [na.slLen]; exact ia)), _, (na.rdI Z I.sub), ?_⟩
   refine gdi hp fun ib hp => ?_
   refine gdi hp fun jb hp => ?_
   refine gdi hp fun kb hp => ?_
   refine gdi hp fun mb hp => ?_
   refine gdi hp fun nb hp => ?_
   refine gdi hp fun ob hp => ?_
   obtain ⟨pb, hp⟩ := gd_some hp
   refine ⟨pb, trivial, ?_⟩
   obtain ⟨qb, hp⟩ := gd_some hp
   obtain ⟨Eb, ja, ka⟩ := arr_no qb
   refine ⟨Eb, ja, ka, ?_⟩
   obtain ⟨rb, sb, tb, aa, ba⟩ := F.sta I (pre := []) (post := []) (l := ([e, g, h, i, j, n, o, q, r, u, x, y, z] : List Int)) (enc := (C.int .i64)) rfl rfl ja ka ((a - ((a * d) / (100 : Int))))
   replace ba : Lb _ _ _ _ _ _ _ [(Il (sti b 0 (a - ((a * d) / (100 : Int))) e)), (Il (sti b 1 (a - ((a * d) / (100 : Int))) g)), (Il (sti b 2 (a - ((a * d) / (100 : Int))) h)), (Il (sti b 3 (a - ((a * d) / (100 : Int))) i)), (Il (sti b 4 (a - ((a * d) / (100 : Int))) j)), (Il (sti b 5 (a - ((a * d) / (100 : Int))) n)), (Il (sti b 6 (a - ((a * d) / (100 : Int))) o)), (Il (sti b 7 (a - ((a * d) / (100 : Int))) q)), (Il (sti b 8 (a - ((a * d) / (100 : Int))) r)), (Il (sti b 9 (a - ((a * d) / (100 : Int))) u)), (Il (sti b 10 (a - ((a * d) / (100 : Int))) x)), (Il (sti b 11 (a - ((a * d) / (100 : Int))) y)), (Il (sti b 12 (a - ((a * d) / (100 : Int))) z))] := ba
   have ub := D.k aa
   have vb := A.k aa
   have wb := G.k aa
   refine ⟨rb, sb, ?_⟩
   refine gdi hp fun xb hp => ?_
   exact la _ _ _ _ _ _ _ _ _ _ _ _ _ _ _ _ _ B tb ub vb wb ba hp
 exact hgo _ _ _ _ _ _ _ _ _ _ _ _ _ _ _ _ _ _ Ia Ja D A G F hp
theorem s_follow {s : Ssn} {field : Int} {t : Trh} {ca101 ca102 ca103 : C} {m f : M} {Q : V → M → Prop} {rz : Crs × Bool} (hS : Pre f m) (ha101 : Sl f ca101 s.Rules) (ha102 : Sl f ca102 s.Fields) (ha103 : Sl f ca103 s.Visits) (hp : pfollow s field t = some rz) (hq : ∀ m', Ext m m' → Q (.tup [.agg 16 [(Il rz.1.t.Week), (Il rz.1.t.Damage), (Il rz.1.t.Old), (Il rz.1.d.d0), (Il rz.1.d.d1), (Il rz.1.d.d2), (Il rz.1.d.d3), (Il rz.1.d.d4), (Il rz.1.d.d5), (Il rz.1.d.d6), (Il rz.1.d.d7), (Il rz.1.d.d8), (Il rz.1.d.d9), (Il rz.1.d.d10), (Il rz.1.d.d11), (Il rz.1.d.d12)], .c (.bool rz.2)]) m') : Wc prog tbl 73 [.agg 4 [(Il s.Last), ca101, ca102, ca103], .c (Il field), .agg 3 [(Il t.Week), (Il t.Damage), (Il t.Old)]] m Q := by
 have S0 := hS.st
 obtain ⟨τ0, _⟩ : ∃ τ : Nat → Nat, True := ⟨fun _ => 0, trivial⟩
 refine w73 ?_
 unfold pfollow at hp
 intro m0 T
 obtain ⟨Y, Z, Wa, aa⟩ := S0.blk T τ0 1
 intro m1 ba
 obtain ⟨ca, da, ea, fa⟩ := Z.blk ba Y 2
 have ga := aa.k ea
 intro m2 ha
 obtain ⟨b, y, z, ia⟩ := da.blk ha ca 3
 have A := ga.k z
 have ja := fa.k z
 refine ⟨_, _, _, _, A.bk.ra, ?_⟩
 obtain ⟨Xa, ka, hp⟩ := bsome hp
 refine s_check (s := s) y.pre ha101 ha102 ha103 ka fun m8 la => ?_
 obtain ⟨i, j⟩ := y.call la b
 have B := A.k j
 have ma := ja.k j
 have D := ia.k j
 refine ⟨_, rfl, ?_⟩
 refine ifnd hp (fun na hp => ?_) fun na hp => ?_
 ·obtain ⟨oa, pa, qa, Ya, sa⟩ := D.sto i [(Il 0), (Il 0), (Il 0), (Il 0), (Il 0), (Il 0), (Il 0), (Il 0), (Il 0), (Il 0), (Il 0), (Il 0), (Il 0), (Il 0), (Il 0), (Il 0)]
  refine ⟨oa, pa, ?_⟩
  refine ⟨_, _, _, _, _, _, _, _, _, _, _, _, _, _, _, _, sa.bk.ra, ?_⟩
  obtain rfl := Option.some.inj hp
  exact hq _ qa.ext'
 refine ⟨_, _, _, _, B.bk.ra, ?_⟩
 obtain ⟨Za, ta, hp⟩ := bsome hp
 refine s_hasField (s := s) (n := field) i.pre ha101 ha102 ha103 ta fun gb ua => ?_
 obtain ⟨e, l⟩ := i.call ua b
 have F := B.k l
 have G := ma.k l
 have I := D.k l
 refine ⟨_, rfl, ?_⟩
 refine ifnb hp (fun va hp => ?_) fun va hp => ?_
 ·obtain ⟨wa, xa, ya, ab, za⟩ := I.sto e [(Il 0), (Il 0), (Il 0), (Il 0), (Il 0), (Il 0), (Il 0), (Il 0), (Il 0), (Il 0), (Il 0), (Il 0), (Il 0), (Il 0), (Il 0), (Il 0)]
  refine ⟨wa, xa, ?_⟩
  refine ⟨_, _, _, _, _, _, _, _, _, _, _, _, _, _, _, _, za.bk.ra, ?_⟩
  obtain rfl := Option.some.inj hp
  exact hq _ ya.ext'
 refine ⟨trivial, _, F.bk.rc rfl, ?_⟩
 obtain ⟨Aa, o, hp⟩ := bsome hp
 obtain ⟨Ua, P, u, o⟩ := idx_some o
 obtain ⟨_, Ba⟩ := rd_Fld ha102 o
 refine ⟨Ua, P, (by first | exact u | (rw [ha102.slLen]; exact u)), _, _, _, _, _, _, _, (Ba _ e.sub).1, _, _, _, G.bk.ra, ?_⟩
 obtain ⟨bb, Ca, hp⟩ := bsome hp
 refine s_isChoice (fl := Aa) (t := t) e.pre  Ca fun hb Da => ?_
 obtain ⟨g, q⟩ := e.call Da b
 have J := F.k q
 have r := G.k q
 have N := I.k q
 refine ⟨_, rfl, ?_⟩
 refine ifnb hp (fun Ea hp => ?_) fun Ea hp => ?_
 ·obtain ⟨Fa, Ga, Ha, cb, Ia⟩ := N.sto g [(Il 0), (Il 0), (Il 0), (Il 0), (Il 0), (Il 0), (Il 0), (Il 0), (Il 0), (Il 0), (Il 0), (Il 0), (Il 0), (Il 0), (Il 0), (Il 0)]
  refine ⟨Fa, Ga, ?_⟩
  refine ⟨_, _, _, _, _, _, _, _, _, _, _, _, _, _, _, _, Ia.bk.ra, ?_⟩
  obtain rfl := Option.some.inj hp
  exact hq _ Ha.ext'
 refine ⟨_, _, _, r.bk.ra, _, _, _, _, J.bk.ra, _, _, _, r.bk.ra, trivial, _, J.bk.rc rfl, ?_⟩
 obtain ⟨Ja, h, hp⟩ := bsome hp
 obtain ⟨Va, S, x, h⟩ := idx_some h
 obtain ⟨_, Ka⟩ := rd_Fld ha102 h
 refine ⟨Va, S, (by first | exact x | (rw [ha102.slLen]; exact x)), (ha102.isPt h _), _, ((Ka _ g.sub).2.1 0 _ rfl), ?_⟩
 obtain ⟨a, La, hp⟩ := bsome hp
 refine s_grow (s := s) (p := ({ t := t, crop := Ja.Crop } : Plt)) g.pre ha101 ha102 ha103 La fun ib Ma => ?_
 obtain ⟨Na, O⟩ := g.call Ma b
 have Oa := r.k O
 have Pa := N.k O
 refine ⟨_, _, _, _, _, _, _, _, _, _, _, _, _, rfl, (Oa.bk.ra), ?_⟩
 obtain ⟨Qa, Ra, Sa, db, Ta⟩ := Pa.sto Na [(Il t.Week), (Il t.Damage), (Il t.Old), (Il a.d0), (Il a.d1), (Il a.d2), (Il a.d3), (Il a.d4), (Il a.d5), (Il a.d6), (Il a.d7), (Il a.d8), (Il a.d9), (Il a.d10), (Il a.d11), (Il a.d12)]
 refine ⟨Qa, Ra, ?_⟩
 refine ⟨_, _, _, _, _, _, _, _, _, _, _, _, _, _, _, _, Ta.bk.ra, ?_⟩
 obtain rfl := Option.some.inj hp
 exact hq _ Sa.ext'
theorem s_harvestD {d : Dm} {m f : M} {Q : V → M → Prop} {rz : Int} (hS : Pre f m)  (hp : pharvestD d = some rz) (hq : ∀ m', Ext m m' → Q (.c (Il rz)) m') : Wc prog tbl 74 [.agg 13 [(Il d.d0), (Il d.d1), (Il d.d2), (Il d.d3), (Il d.d4), (Il d.d5), (Il d.d6), (Il d.d7), (Il d.d8), (Il d.d9), (Il d.d10), (Il d.d11), (Il d.d12)]] m Q := by
 have p := hS.st
 obtain ⟨q, _⟩ : ∃ τ : Nat → Nat, True := ⟨fun _ => 0, trivial⟩
 refine w74 ?_
 unfold pharvestD at hp
 intro s g
 obtain ⟨j, h, n, i⟩ := p.blk g q 1
 refine ⟨trivial, ?_⟩
 obtain ⟨o, a, hp⟩ := bsome hp
 obtain ⟨r, b, e, a⟩ := idx_some a
 refine ⟨r, b, e, _, (i.bk.rc (arr_at (l := ([d.d0, d.d1, d.d2, d.d3, d.d4, d.d5, d.d6, d.d7, d.d8, d.d9, d.d10, d.d11, d.d12] : List Int)) (enc := (C.int .i64)) 0 rfl a)), ?_⟩
 obtain rfl := Option.some.inj hp
 exact hq _ h.ext'
theorem s_seen {c : Crs} {week : Int} {m f : M} {Q : V → M → Prop} {rz : Int} (hS : Pre f m)  (hp : pseen c week = some rz) (hq : ∀ m', Ext m m' → Q (.c (Il rz)) m') : Wc prog tbl 72 [.agg 16 [(Il c.t.Week), (Il c.t.Damage), (Il c.t.Old), (Il c.d.d0), (Il c.d.d1), (Il c.d.d2), (Il c.d.d3), (Il c.d.d4), (Il c.d.d5), (Il c.d.d6), (Il c.d.d7), (Il c.d.d8), (Il c.d.d9), (Il c.d.d10), (Il c.d.d11), (Il c.d.d12)], .c (Il week)] m Q := by
 have q := hS.st
 obtain ⟨r, _⟩ : ∃ τ : Nat → Nat, True := ⟨fun _ => 0, trivial⟩
 refine w72 ?_
 unfold pseen at hp
 intro u h
 obtain ⟨n, i, o, b⟩ := q.blk h r 1
 refine ⟨trivial, trivial, _, b.bk.rc rfl, trivial, trivial, ?_⟩
 obtain ⟨p, a, hp⟩ := bsome hp
 obtain ⟨s, e, g, a⟩ := idx_some a
 refine ⟨s, e, g, _, (b.bk.rc (arr_at (l := ([c.d.d0, c.d.d1, c.d.d2, c.d.d3, c.d.d4, c.d.d5, c.d.d6, c.d.d7, c.d.d8, c.d.d9, c.d.d10, c.d.d11, c.d.d12] : List Int)) (enc := (C.int .i64)) 3 rfl a)), ?_⟩
 refine gdi hp fun j hp => ?_
 obtain rfl := Option.some.inj hp
 exact hq _ i.ext'
theorem s_Harvest {s : Ssn} {field : Int} {t : Trh} {ca101 ca102 ca103 : C} {m f : M} {Q : V → M → Prop} {rz : Int} (hS : Pre f m) (ha101 : Sl f ca101 s.Rules) (ha102 : Sl f ca102 s.Fields) (ha103 : Sl f ca103 s.Visits) (hp : pHarvest s field t = some rz) (hq : ∀ m', Ext m m' → Q (.c (Il rz)) m') : Wc prog tbl 22 [.agg 4 [(Il s.Last), ca101, ca102, ca103], .c (Il field), .agg 3 [(Il t.Week), (Il t.Damage), (Il t.Old)]] m Q := by
 have S0 := hS.st
 obtain ⟨τ0, _⟩ : ∃ τ : Nat → Nat, True := ⟨fun _ => 0, trivial⟩
 refine w22 ?_
 unfold pHarvest at hp
 intro m0 h
 obtain ⟨i, l, S, n⟩ := S0.blk h τ0 1
 intro m1 o
 obtain ⟨e, g, p, q⟩ := l.blk o i 2
 have r := n.k p
 refine ⟨_, _, _, _, r.bk.ra, _, _, _, q.bk.ra, ?_⟩
 obtain ⟨a, u, hp⟩ := bsome hp
 refine s_follow (s := s) (field := field) (t := t) g.pre ha101 ha102 ha103 u fun ea x => ?_
 obtain ⟨y, T⟩ := g.call x e
 refine ⟨_, _, _, _, _, _, _, _, _, _, _, _, _, _, _, _, _, rfl, ?_⟩
 intro fa z
 obtain ⟨A, B, Y, D⟩ := y.blk z e 3
 obtain ⟨F, G, b, Z, I⟩ := D.sto B [(Il a.1.t.Week), (Il a.1.t.Damage), (Il a.1.t.Old), (Il a.1.d.d0), (Il a.1.d.d1), (Il a.1.d.d2), (Il a.1.d.d3), (Il a.1.d.d4), (Il a.1.d.d5), (Il a.1.d.d6), (Il a.1.d.d7), (Il a.1.d.d8), (Il a.1.d.d9), (Il a.1.d.d10), (Il a.1.d.d11), (Il a.1.d.d12)]
 refine ⟨F, G, ?_⟩
 refine ifnb hp (fun J hp => ?_) fun J hp => ?_
 ·obtain rfl := Option.some.inj hp
  exact hq _ b.ext'
 refine ⟨trivial, _, _, _, _, _, _, _, _, _, _, _, _, _, I.bk.rp (k := 3) (j := 13) rfl (by omega), ?_⟩
 obtain ⟨aa, N, hp⟩ := bsome hp
 refine s_harvestD (d := a.1.d) b.pre  N fun ga O => ?_
 obtain ⟨P, ba⟩ := b.call O A
 refine ⟨_, rfl, ?_⟩
 obtain rfl := Option.some.inj hp
 exact hq _ P.ext'
theorem s_allows1 {v : Vis} {field : Int} {b0 : Nat} {c : Crs} {b1 : Nat} {m f : M} {Q : V → M → Prop} {rz : Bool} (hS : Pre f m) (hb0 : Bk f b0 1 [(Il field)]) (hb1 : Bk f b1 16 [(Il c.t.Week), (Il c.t.Damage), (Il c.t.Old), (Il c.d.d0), (Il c.d.d1), (Il c.d.d2), (Il c.d.d3), (Il c.d.d4), (Il c.d.d5), (Il c.d.d6), (Il c.d.d7), (Il c.d.d8), (Il c.d.d9), (Il c.d.d10), (Il c.d.d11), (Il c.d.d12)]) (hp : pallows1 v field c = some rz) (hq : ∀ m', Ext m m' → Q (.c (.bool rz)) m') : Wc prog tbl 117 [.agg 4 [(Il v.Field), (Il v.Week), (Il v.Seen.Lo), (Il v.Seen.Hi)], .c (.ptr b0 0), .c (.ptr b1 0)] m Q := by
 have D := hS.st
 obtain ⟨F, _⟩ : ∃ τ : Nat → Nat, True := ⟨fun _ => 0, trivial⟩
 refine c117 ?_
 unfold pallows1 at hp
 intro J h
 obtain ⟨e, a, z, b⟩ := D.blk h F 1
 refine ⟨trivial, _, b.bk.rc rfl, _, (hb0.sub a.sub).rc rfl, ?_⟩
 refine ifnd hp (fun i hp => ?_) fun i hp => ?_
 ·obtain rfl := Option.some.inj hp
  exact hq _ a.ext'
 refine ⟨trivial, _, _, b.bk.rp (k := 2) (j := 2) rfl (by omega), _, _, _, _, _, _, _, _, _, _, _, _, _, _, _, _, (hb1.sub a.sub).ra, trivial, _, b.bk.rc rfl, ?_⟩
 obtain ⟨l, o, hp⟩ := bsome hp
 refine s_seen (c := c) (week := v.Week) a.pre  o fun G p => ?_
 obtain ⟨g, q⟩ := a.call p e
 have s := b.k q
 refine ⟨_, rfl, (s.bk.rp (k := 2) (j := 2) rfl (by omega)), ?_⟩
 obtain ⟨A, u, hp⟩ := bsome hp
 refine s_has (r := v.Seen) (n := l) g.pre  u fun I x => ?_
 obtain ⟨y, B⟩ := g.call x e
 refine ⟨_, rfl, ?_⟩
 obtain rfl := Option.some.inj hp
 exact hq _ y.ext'
theorem s_allows {s : Ssn} {field : Int} {c : Crs} {ca101 ca102 ca103 : C} {m f : M} {Q : V → M → Prop} {rz : Bool} (hS : Pre f m) (ha101 : Sl f ca101 s.Rules) (ha102 : Sl f ca102 s.Fields) (ha103 : Sl f ca103 s.Visits) (hp : pallows s field c = some rz) (hq : ∀ m', Ext m m' → Q (.c (.bool rz)) m') : Wc prog tbl 75 [.agg 4 [(Il s.Last), ca101, ca102, ca103], .c (Il field), .agg 16 [(Il c.t.Week), (Il c.t.Damage), (Il c.t.Old), (Il c.d.d0), (Il c.d.d1), (Il c.d.d2), (Il c.d.d3), (Il c.d.d4), (Il c.d.d5), (Il c.d.d6), (Il c.d.d7), (Il c.d.d8), (Il c.d.d9), (Il c.d.d10), (Il c.d.d11), (Il c.d.d12)]] m Q := by
 have S0 := hS.st
 obtain ⟨τ0, _⟩ : ∃ τ : Nat → Nat, True := ⟨fun _ => 0, trivial⟩
 refine w75 ?_
 unfold pallows at hp
 intro m0 o
 obtain ⟨p, q, ba, u⟩ := S0.blk o τ0 1
 intro m1 x
 obtain ⟨y, z, A, B⟩ := q.blk x p 2
 have D := u.k A
 intro m2 F
 obtain ⟨G, I, b, J⟩ := z.blk F y 3
 have N := D.k b
 have O := B.k b
 refine ⟨trivial, _, N.bk.rc rfl, ?_⟩
 obtain ⟨ca, P, e, i⟩ := O.freeze I
 have S := J.k e
 obtain ⟨T, g, h, j⟩ := S.freeze P
 have n : Fv_Vis_Bool T ((C.fn (Fn.func 117) [] [(W.c (C0.ptr m0.nxt 0)), (W.c (C0.ptr m1.nxt 0))])) (fun a => pallows1 a field c) := by
  intro f' m' a r Q hs hpre  hg hq
  exact s_allows1 hpre ((i.sub h.fs).sub hs) (j.sub hs) hg hq
 obtain ⟨da, Y, hp⟩ := bsome hp
 refine s_eachV (l := s.Visits) (passes := (fun a => pallows1 a field c)) g.pre (ha103.sub (Sub.trans e.fs h.fs)) n Y fun m5 Z => ?_
 obtain ⟨aa, ea⟩ := g.call Z G
 refine ⟨_, rfl, ?_⟩
 obtain rfl := Option.some.inj hp
 exact hq _ aa.ext'
theorem s_numbersI {r : Rg} {b0 : Nat} {m f : M} {F : Fm} {n0 ly : Nat} {xs : List (List V)} {I : Nat → (Nat → Prop) → M → Prop} {E : (Nat → Prop) → M → Prop} {S1 : Nat → Prop} {Q : V → M → Prop} {rz : List Int} {τ0 : Nat → Nat} (hc : Client prog tbl n0 ly xs I E) (S0 : St F f f m) (Y0 : Yg n0 (YJ xs I rz) S1 F f τ0 m) (hb0 : Bk f b0 2 [(.int .i64 r.Lo), (.int .i64 r.Hi)]) (hp : pnumbersI r = some rz) (hq : ∀ v m' f' τ' S', St F f f' m' → (Yg n0 (YJ xs I ([] : List Int)) S' F f' τ' m' ∨ Yg n0 E S' F f' τ' m') → Q v m') : Wc prog tbl 138 [.c (.fn (.yield ly) [] []), .c (.ptr b0 0)] m Q := by
 refine c138 ?_
 unfold pnumbersI at hp
 refine ⟨_, _, (hb0.sub S0.sub).ra, ?_⟩
 obtain ⟨r2736, g2737, hp⟩ := bsome hp
 refine s_count (r := r) S0.pre  g2737 fun m3 e2740 => ?_
 obtain ⟨S2738, k2739⟩ := S0.call e2740 τ0
 have Y2741 := Y0.k k2739 (by decide)
 refine ⟨_, rfl, ?_⟩
 intro R5 hR5
 have hgo : ∀ (d2747 : Nat) (x6 : Int) (r2744 : List Int) (s2745 : Nat → Prop) (m7 : M) (τ2743 : Nat → Nat), St F f f m7 → Yg n0 (YJ xs I r2744) s2745 F f τ2743 m7 → pnumbersI_L0 r r2736 d2747 x6 = some r2744 → R5 [.c (.int .i64 x6)] m7 := by
  intro d2747
  induction d2747 with
  | zero => intro x6 r2744 s2745 m7 τ2743 S2742 Y2746 hp; cases hp
  | succ d2747 ihR5 =>
   intro x6 r2744 s2745 m7 τ2743 S2742 Y2746 hp
   refine hR5 _ _ ?_
   rw [pnumbersI_L0] at hp
   refine ifd hp (fun q2748 hp => ?_) fun q2748 hp => ?_; rotate_left
   ·obtain rfl := Option.some.inj hp
    exact hq _ _ _ _ _ S2742 (.inl Y2746)
   refine ⟨trivial, _, (hb0.sub S2742.sub).rc rfl, ?_⟩
   obtain ⟨g2749, hp⟩ := gd_some hp
   refine ⟨g2749, ?_⟩
   obtain ⟨r2750, hp2752, hz2751⟩ := bsome hp
   clear hp
   obtain rfl := Option.some.inj hz2751
   have hp := hp2752
   show Wy prog tbl ly (IV.encs ((r.Lo + x6) : Int)) _ _
   refine Yg.yield hc S2742 Y2746 ?_ ?_
   ·intro m10 τ2753 s2757 S2754 k2755 Y2756
    refine ⟨_, rfl, ?_⟩
    refine ifB_f' ?_
    obtain ⟨g2758, hp⟩ := gd_some hp
    refine ⟨g2758, ?_⟩
    exact ihR5 _ _ _ _ τ2753 S2754 Y2756 hp
   ·intro m10 τ2759 s2763 S2760 k2761 Y2762
    refine ⟨_, rfl, ?_⟩
    refine ifB_t' ?_
    exact hq _ _ _ _ _ S2760 (.inr Y2762)
 exact hgo _ _ _ _ _ τ0 S2738 Y2741 hp
theorem s_numbers {r : Rg} {m f : M} {Q : V → M → Prop} {rz : List Int} (hS : Pre f m)  (hp : pnumbers r = some rz) (hq : ∀ m' f' c0, Grw m f m' f' → It prog tbl f' c0 rz → Q (.c c0) m') : Wc prog tbl 124 [.agg 2 [(Il r.Lo), (Il r.Hi)]] m Q := by
 have q := hS.st
 obtain ⟨s, _⟩ : ∃ τ : Nat → Nat, True := ⟨fun _ => 0, trivial⟩
 refine w124 ?_
 unfold pnumbers at hp
 intro t g
 obtain ⟨n, h, o, i⟩ := q.blk g s 1
 obtain ⟨b, a, p, d⟩ := i.freeze h
 obtain ⟨j, l, hp⟩ := bsome hp
 have e : It prog tbl b ((C.fn (Fn.func 138) [] [(W.c (C0.ptr m.nxt 0))])) j := it_of a.fz a.fv fun u ly I E hc x y z A hS hY Q hq => s_numbersI hc hS hY d l hq
 obtain rfl := Option.some.inj hp
 exact hq _ b (C.fn (Fn.func 138) [] [(W.c (C0.ptr m.nxt 0))]) a.grw e
theorem s_plant {fl : Fld} {week : Int} {damage : Int} {m f : M} {Q : V → M → Prop} {rz : Plt} (hS : Pre f m)  (hp : pplant fl week damage = some rz) (hq : ∀ m', Ext m m' → Q (.agg 4 [(Il rz.t.Week), (Il rz.t.Damage), (Il rz.t.Old), (Il rz.crop)]) m') : Wc prog tbl 125 [.agg 7 [(Il fl.Crop), (Il fl.Week.Lo), (Il fl.Week.Hi), (Il fl.Damage.Lo), (Il fl.Damage.Hi), (Il fl.Old.Lo), (Il fl.Old.Hi)], .c (Il week), .c (Il damage)] m Q := by
 have x := hS.st
 obtain ⟨y, _⟩ : ∃ τ : Nat → Nat, True := ⟨fun _ => 0, trivial⟩
 refine w125 ?_
 unfold pplant at hp
 intro z a
 obtain ⟨b, d, r, e⟩ := x.blk a y 1
 intro A g
 obtain ⟨s, h, i, j⟩ := d.blk g b 2
 have l := e.k i
 refine ⟨trivial, _, l.bk.rc rfl, ?_⟩
 obtain ⟨n, o, p, u, q⟩ := j.sto h [(Il week), (Il damage), (Il 0), (Il fl.Crop)]
 refine ⟨n, o, ?_⟩
 refine ⟨_, _, _, _, q.bk.ra, ?_⟩
 obtain rfl := Option.some.inj hp
 exact hq _ p.ext'
theorem s_open {s : Ssn} {ca101 ca102 ca103 : C} {m f : M} {Q : V → M → Prop} {rz : Wk} (hS : Pre f m) (ha101 : Sl f ca101 s.Rules) (ha102 : Sl f ca102 s.Fields) (ha103 : Sl f ca103 s.Visits) (hp : popen s = some rz) (hq : ∀ m' f' c1 c2 c3 c4, Grw m f m' f' → Sl f' c1 rz.s.Rules → Sl f' c2 rz.s.Fields → Sl f' c3 rz.s.Visits → Mi f' c4 rz.damages → Q (.agg 5 [(Il rz.s.Last), c1, c2, c3, c4]) m') : Wc prog tbl 90 [.agg 4 [(Il s.Last), ca101, ca102, ca103]] m Q := by
 have S0 := hS.st
 obtain ⟨τ0, _⟩ : ∃ τ : Nat → Nat, True := ⟨fun _ => 0, trivial⟩
 refine w90 ?_
 unfold popen at hp
 intro m0 Zb
 obtain ⟨ac, bc, af, cc⟩ := S0.blk Zb τ0 1
 intro O dc
 obtain ⟨ec, fc, gc, hc⟩ := bc.blk dc ac 2
 have Ua := cc.k gc
 refine ⟨_, _, _, _, Ua.bk.ra, ?_⟩
 intro m6 ic
 obtain ⟨jc, kc, Va, lc⟩ := Mo.new (K := Plt) (V' := Dm) fc ic ec 3
 have nc := Ua.k Va
 have oc := hc.k Va
 intro m7 pc
 obtain ⟨qc, sc, Ga, tc⟩ := kc.blk pc jc 4
 have uc := nc.k Ga
 have vc := oc.k Ga
 have wc := lc.k Ga
 obtain ⟨xc, yc, zc, Ha, sa⟩ := tc.sto sc [(Il s.Last), ca101, ca102, ca103, (.map O.nxt)]
 have ta := uc.k Ha
 have ua := vc.k Ha
 have va := wc.k Ha
 refine ⟨xc, yc, ?_⟩
 refine ⟨trivial, _, ta.bk.rc rfl, ha102.isSl, ?_⟩
 intro Se Re
 have hgo : ∀ (h : Nat) (qa : Int) (wa : Option (Plt → Option (Dm))) (D : M) (G : M) (P : Nat → Nat), St (Fm.of m) f G D → Sub f G → Lb (Fm.of m) G P D 1 m.nxt 4 [(Il s.Last), ca101, ca102, ca103] → Lb (Fm.of m) G P D 2 m0.nxt 5 [(Il 0), .sl0, .sl0, .sl0, C.map0] → Lb (Fm.of m) G P D 4 m6.nxt 5 [(Il s.Last), ca101, ca102, ca103, (.map O.nxt)] → Mo (Fm.of m) G P D 3 (.map O.nxt) wa → popen_L0 s h wa qa = some rz → Se [.c (Il qa)] D := by
  intro h
  induction h with
  | zero => intro qa wa D G P Aa e ta ua sa va hp; cases hp
  | succ h Ac =>
   intro qa wa D G P Aa e ta ua sa va hp
   refine Re _ _ ?_
   rw [popen_L0] at hp
   try rw [ha102.slLen]
   refine ifd hp (fun Bc hp => ?_) fun Bc hp => ?_; rotate_left
   ·refine ⟨_, _, _, _, _, sa.bk.ra, ?_⟩
    obtain ⟨Cc, Dc, Ec, Fc, Gc⟩ := ua.sto Aa [(Il s.Last), ca101, ca102, ca103, (.map O.nxt)]
    have Hc := va.k Fc
    refine ⟨Cc, Dc, ?_⟩
    refine ⟨_, _, _, _, _, Gc.bk.ra, ?_⟩
    obtain ⟨Ic, Jc, Ia, yb⟩ := Hc.freeze Ec
    obtain rfl := Option.some.inj hp
    exact hq _ Ic ca101 ca102 ca103 (.map O.nxt) Jc.grw (ha101.sub (Sub.trans e Ia.fs)) (ha102.sub (Sub.trans e Ia.fs)) (ha103.sub (Sub.trans e Ia.fs)) yb
   obtain ⟨a, Ja, hp⟩ := bsome hp
   obtain ⟨Te, zb, Qa, Ja⟩ := idx_some Ja
   obtain ⟨_, Kc⟩ := rd_Fld ha102 Ja
   refine ⟨Te, zb, (by first | exact Qa | (rw [ha102.slLen]; exact Qa)), _, _, _, _, _, _, _, (Kc _ (Sub.trans e Aa.sub)).1, ?_⟩
   intro rf Lc
   obtain ⟨Wa, Nc, Ba, Oc⟩ := Aa.blk Lc P 5
   have Pc := ta.k Ba
   have Qc := ua.k Ba
   have Rc := sa.k Ba
   have Tc := va.k Ba
   obtain ⟨Uc, Vc, Xa, Ca, Ya⟩ := Oc.sto Nc [(Il a.Crop), (Il a.Week.Lo), (Il a.Week.Hi), (Il a.Damage.Lo), (Il a.Damage.Hi), (Il a.Old.Lo), (Il a.Old.Hi)]
   have Xc := Pc.k Ca
   have Yc := Qc.k Ca
   have Zc := Rc.k Ca
   have ad := Tc.k Ca
   refine ⟨Uc, Vc, ?_⟩
   refine ⟨trivial, _, _, Ya.bk.rp (k := 1) (j := 2) rfl (by omega), ?_⟩
   obtain ⟨bf, bd, hp⟩ := bsome hp
   refine s_numbers (r := a.Week) Xa.pre  bd fun Ab cf df cd dd => ?_
   obtain ⟨ed, u⟩ := Xa.callG cd Wa
   have Za := Xc.k u
   have ab := Yc.k u
   have cb := Zc.k u
   have db := Ya.k u
   have eb := ad.k u
   refine ⟨_, rfl, ?_⟩
   refine range_st (α := Int) ed dd (σ := (Option (Plt → Option (Dm)))) 6 (fun st bb => (False ∨ (False ∨ (False ∨ (False ∨ False))))) (fun st gG gF gT gM => (Lb gG gF gT gM 1 m.nxt 4 [(Il s.Last), ca101, ca102, ca103]) ∧ (Lb gG gF gT gM 2 m0.nxt 5 [(Il 0), .sl0, .sl0, .sl0, C.map0]) ∧ (Lb gG gF gT gM 4 m6.nxt 5 [(Il s.Last), ca101, ca102, ca103, (.map O.nxt)]) ∧ (Lb gG gF gT gM 5 D.nxt 7 [(Il a.Crop), (Il a.Week.Lo), (Il a.Week.Hi), (Il a.Damage.Lo), (Il a.Damage.Hi), (Il a.Old.Lo), (Il a.Old.Hi)]) ∧ (Mo gG gF gT gM 3 (.map O.nxt) st)) (fun rr_ st => popen_L1 s qa a (popen_L0 s h) rr_ st = some rz) (fun ex st => (match ex with | .ret => (0 : Nat) = 0 ∧ popen_L1_xret s st = some rz | _ => False)) (fun st => (Gud.and (Gud.lb Za.bk.lt (by decide)) (Gud.and (Gud.lb ab.bk.lt (by decide)) (Gud.and (Gud.lb cb.bk.lt (by decide)) (Gud.and (Gud.lb db.bk.lt (by decide)) (Gud.mo eb.lt (by decide))))))) (st0 := (wa)) (τ := Wa) ⟨Za, ab, cb, db, eb⟩ hp ?_ ?_ ?_ ?_
   ·intro x Da y xa ha za d ef Ue Ve We fd Ka hA Bb hp Cb Db
    obtain ⟨i, g, l, z, n⟩ := hA
    replace i : Lb d xa ha za 1 m.nxt 4 [(Il s.Last), ca101, ca102, ca103] := i
    replace g : Lb d xa ha za 2 m0.nxt 5 [(Il 0), .sl0, .sl0, .sl0, C.map0] := g
    replace l : Lb d xa ha za 4 m6.nxt 5 [(Il s.Last), ca101, ca102, ca103, (.map O.nxt)] := l
    replace z : Lb d xa ha za 5 D.nxt 7 [(Il a.Crop), (Il a.Week.Lo), (Il a.Week.Hi), (Il a.Damage.Lo), (Il a.Damage.Hi), (Il a.Old.Lo), (Il a.Old.Hi)] := z
    replace n : Mo d xa ha za 3 (.map O.nxt) y := n
    replace hp : popen_L1 s qa a (popen_L0 s h) (x :: Da) y = some rz := hp
    rw [popen_L1] at hp
    refine ⟨_, rfl, ?_⟩
    intro sf hd
    obtain ⟨fb, jd, ia, kd⟩ := fd.blk hd ha 7
    have ld := i.k ia
    have md := g.k ia
    have nd := l.k ia
    have od := z.k ia
    have pd := n.k ia
    have Eb := Bb.k ia
    obtain ⟨qd, sd, td, ja, ud⟩ := kd.sto jd [(Il x)]
    have vd := ld.k ja
    have wd := md.k ja
    have xd := nd.k ja
    have yd := od.k ja
    have zd := pd.k ja
    have Fb := Eb.k ja
    refine ⟨qd, sd, ?_⟩
    refine Cb _ _ _ _ td Fb fun tf La gb ka Gb Hb => ?_
    have Ad := vd.k ka
    have Bd := wd.k ka
    have Cd := xd.k ka
    have hb := yd.k ka
    have Dd := ud.k ka
    have Ed := zd.k ka
    refine ⟨trivial, _, _, hb.bk.rp (k := 3) (j := 2) rfl (by omega), ?_⟩
    obtain ⟨gf, Fd, hp⟩ := bsome hp
    refine s_numbers (r := a.Damage) gb.pre  Fd fun uf hf jf Gd Hd => ?_
    obtain ⟨Id, o⟩ := gb.callG Gd fb
    have ib := Ad.k o
    have jb := Bd.k o
    have kb := Cd.k o
    have mb := hb.k o
    have nb := Dd.k o
    have ob := Ed.k o
    have Ra := Gb.k o
    refine ⟨_, rfl, ?_⟩
    refine range_st (α := Int) Id Hd (σ := (Option (Plt → Option (Dm)))) 8 (fun st bb => (False ∨ (False ∨ (False ∨ (False ∨ (False ∨ (False ∨ False))))))) (fun st gG gF gT gM => (Lb gG gF gT gM 1 m.nxt 4 [(Il s.Last), ca101, ca102, ca103]) ∧ (Lb gG gF gT gM 2 m0.nxt 5 [(Il 0), .sl0, .sl0, .sl0, C.map0]) ∧ (Lb gG gF gT gM 4 m6.nxt 5 [(Il s.Last), ca101, ca102, ca103, (.map O.nxt)]) ∧ (Lb gG gF gT gM 5 D.nxt 7 [(Il a.Crop), (Il a.Week.Lo), (Il a.Week.Hi), (Il a.Damage.Lo), (Il a.Damage.Hi), (Il a.Old.Lo), (Il a.Old.Hi)]) ∧ (Lb gG gF gT gM 7 za.nxt 1 [(Il x)]) ∧ (Mo gG gF gT gM 3 (.map O.nxt) st) ∧ (Rk gG gF gT gM 6 (Ab).nxt La)) (fun rr_ st => popen_L2 s a x ((popen_L1 s qa a (popen_L0 s h) Da)) rr_ st = some rz) (fun ex st => False) (fun st => (Gud.and (Gud.lb ib.bk.lt (by decide)) (Gud.and (Gud.lb jb.bk.lt (by decide)) (Gud.and (Gud.lb kb.bk.lt (by decide)) (Gud.and (Gud.lb mb.bk.lt (by decide)) (Gud.and (Gud.lb nb.bk.lt (by decide)) (Gud.and (Gud.mo ob.lt (by decide)) (Gud.rk Ra.lt (by decide))))))))) (st0 := (y)) (τ := fb) ⟨ib, jb, kb, mb, nb, ob, Ra⟩ hp ?_ ?_ ?_ ?_
    ·intro pb Jd la S A Ea T kf Xe Ye Ze Ld Ma hA Ib hp Jb Kb
     obtain ⟨Y, Z, aa, ba, ma, ca, F⟩ := hA
     replace Y : Lb T S A Ea 1 m.nxt 4 [(Il s.Last), ca101, ca102, ca103] := Y
     replace Z : Lb T S A Ea 2 m0.nxt 5 [(Il 0), .sl0, .sl0, .sl0, C.map0] := Z
     replace aa : Lb T S A Ea 4 m6.nxt 5 [(Il s.Last), ca101, ca102, ca103, (.map O.nxt)] := aa
     replace ba : Lb T S A Ea 5 D.nxt 7 [(Il a.Crop), (Il a.Week.Lo), (Il a.Week.Hi), (Il a.Damage.Lo), (Il a.Damage.Hi), (Il a.Old.Lo), (Il a.Old.Hi)] := ba
     replace ma : Lb T S A Ea 7 za.nxt 1 [(Il x)] := ma
     replace ca : Mo T S A Ea 3 (.map O.nxt) la := ca
     replace F : Rk T S A Ea 6 (Ab).nxt La := F
     replace hp : popen_L2 s a x ((popen_L1 s qa a (popen_L0 s h) Da)) (pb :: Jd) la = some rz := hp
     rw [popen_L2] at hp
     refine ⟨_, rfl, ?_⟩
     refine Jb _ _ _ _ Ld Ib fun wf lf qb da Mb Nb => ?_
     have Md := Y.k da
     have Nd := Z.k da
     have Od := aa.k da
     have rb := ba.k da
     have sb := ma.k da
     have Pd := ca.k da
     have Ob := F.k da
     refine ⟨_, _, _, _, _, _, _, rb.bk.ra, _, sb.bk.rc rfl, ?_⟩
     obtain ⟨q, Qd, hp⟩ := bsome hp
     refine s_plant (fl := a) (week := x) (damage := pb) qb.pre  Qd fun xf Rd => ?_
     obtain ⟨Sd, I⟩ := qb.call Rd A
     have Td := Md.k I
     have Ud := Nd.k I
     have Vd := Od.k I
     have Wd := rb.k I
     have Xd := sb.k I
     have Yd := Pd.k I
     have Pb := Mb.k I
     have Qb := Ob.k I
     refine ⟨_, _, _, _, rfl, ?_⟩
     intro yf Zd
     obtain ⟨ae, be, J, ce⟩ := Sd.blk Zd A 9
     have de := Td.k J
     have ee := Ud.k J
     have fe := Vd.k J
     have ge := Wd.k J
     have he := Xd.k J
     have ie := Yd.k J
     have Rb := Pb.k J
     have Sb := Qb.k J
     obtain ⟨je, ke, tb, N, Na⟩ := ce.sto be [(Il q.t.Week), (Il q.t.Damage), (Il q.t.Old), (Il q.crop)]
     have ub := de.k N
     have me := ee.k N
     have vb := fe.k N
     have oe := ge.k N
     have pe := he.k N
     have qe := ie.k N
     have Tb := Rb.k N
     have Ub := Sb.k N
     refine ⟨je, ke, ?_⟩
     refine ⟨trivial, _, vb.bk.rc rfl, _, _, _, _, Na.bk.ra, _, _, _, _, ub.bk.ra, _, _, _, _, Na.bk.ra, ?_⟩
     obtain ⟨b, re, hp⟩ := bsome hp
     refine s_grow (s := s) (p := q) tb.pre (ha101.sub (Sub.trans (Sub.trans (Sub.trans (Sub.trans e u.fs) Ka) o.fs) Ma)) (ha102.sub (Sub.trans (Sub.trans (Sub.trans (Sub.trans e u.fs) Ka) o.fs) Ma)) (ha103.sub (Sub.trans (Sub.trans (Sub.trans (Sub.trans e u.fs) Ka) o.fs) Ma)) re fun zf se => ?_
     obtain ⟨te, B⟩ := tb.call se ae
     have ue := ub.k B
     have ve := me.k B
     have wb := vb.k B
     have we := oe.k B
     have xe := pe.k B
     have ye := Na.k B
     have xb := qe.k B
     have Vb := Tb.k B
     have Wb := Ub.k B
     refine ⟨_, _, _, _, _, _, _, _, _, _, _, _, _, rfl, (ye.bk.ra), (by rw [show noFnC _ = true from xb.mi.noFn]; exact (wb.bk.rc rfl)), ?_⟩
     obtain ⟨ze, hp⟩ := gd_some hp
     obtain ⟨Ae, Be, hp⟩ := bsome hp
     obtain ⟨Ce, De, Ee, ea, Fe⟩ := Mo.up kl170 te xb (k := q) ze (v := b) Be (kv := .agg 4 [(Il q.t.Week), (Il q.t.Damage), (Il q.t.Old), (Il q.crop)]) (yv := .agg 13 [(Il b.d0), (Il b.d1), (Il b.d2), (Il b.d3), (Il b.d4), (Il b.d5), (Il b.d6), (Il b.d7), (Il b.d8), (Il b.d9), (Il b.d10), (Il b.d11), (Il b.d12)]) rfl rfl
     have Ge := ue.k ea
     have He := ve.k ea
     have Ie := wb.k ea
     have Je := we.k ea
     have Ke := xe.k ea
     have Xb := Vb.k ea
     have Yb := Wb.k ea
     refine ⟨Ce, De, ?_⟩
     exact Kb .nrm (Ae) _ _ _ _ Ee ⟨Ge, He, Ie, Je, Ke, Fe, Yb⟩ Xb Nb hp
    ·intro la fa ga Fa Me mf hA hp
     replace hp : popen_L2 s a x ((popen_L1 s qa a (popen_L0 s h) Da)) [] la = some rz := hp
     obtain ⟨Y, Z, aa, ba, ma, ca, F⟩ := hA
     replace Y : Lb d fa ga Fa 1 m.nxt 4 [(Il s.Last), ca101, ca102, ca103] := Y
     replace Z : Lb d fa ga Fa 2 m0.nxt 5 [(Il 0), .sl0, .sl0, .sl0, C.map0] := Z
     replace aa : Lb d fa ga Fa 4 m6.nxt 5 [(Il s.Last), ca101, ca102, ca103, (.map O.nxt)] := aa
     replace ba : Lb d fa ga Fa 5 D.nxt 7 [(Il a.Crop), (Il a.Week.Lo), (Il a.Week.Hi), (Il a.Damage.Lo), (Il a.Damage.Hi), (Il a.Old.Lo), (Il a.Old.Hi)] := ba
     replace ma : Lb d fa ga Fa 7 za.nxt 1 [(Il x)] := ma
     replace ca : Mo d fa ga Fa 3 (.map O.nxt) la := ca
     replace F : Rk d fa ga Fa 6 (Ab).nxt La := F
     rw [popen_L2] at hp
     exact Db .nrm (la) _ _ _ _ Me ⟨Y, Z, aa, ba, ca⟩ F Hb hp
    ·intro id st _ _ _ _ _ _ hn; first | exact hn.elim | (cases hn)
    ·intro st _ _ _ _ _ _ hn; first | exact hn.elim | (cases hn)
   ·intro y na oa Sa Ne Oe hA hp
    replace hp : popen_L1 s qa a (popen_L0 s h) [] y = some rz := hp
    obtain ⟨i, g, l, z, n⟩ := hA
    replace i : Lb (Fm.of m) na oa Sa 1 m.nxt 4 [(Il s.Last), ca101, ca102, ca103] := i
    replace g : Lb (Fm.of m) na oa Sa 2 m0.nxt 5 [(Il 0), .sl0, .sl0, .sl0, C.map0] := g
    replace l : Lb (Fm.of m) na oa Sa 4 m6.nxt 5 [(Il s.Last), ca101, ca102, ca103, (.map O.nxt)] := l
    replace z : Lb (Fm.of m) na oa Sa 5 D.nxt 7 [(Il a.Crop), (Il a.Week.Lo), (Il a.Week.Hi), (Il a.Damage.Lo), (Il a.Damage.Hi), (Il a.Old.Lo), (Il a.Old.Hi)] := z
    replace n : Mo (Fm.of m) na oa Sa 3 (.map O.nxt) y := n
    rw [popen_L1] at hp
    refine gdi hp fun Pe hp => ?_
    exact Ac _ _ _ na oa Ne (Sub.trans (Sub.trans e u.fs) Oe) i g l n hp
   ·intro id st _ _ _ _ _ _ hn; first | exact hn.elim | (cases hn)
   ·intro y pa ya Ta Qe nf hA hn
    obtain ⟨hid, hp⟩ := hn
    replace hp : popen_L1_xret s y = some rz := hp
    unfold popen_L1_xret at hp
    obtain ⟨i, g, l, z, n⟩ := hA
    replace i : Lb (Fm.of m) pa ya Ta 1 m.nxt 4 [(Il s.Last), ca101, ca102, ca103] := i
    replace g : Lb (Fm.of m) pa ya Ta 2 m0.nxt 5 [(Il 0), .sl0, .sl0, .sl0, C.map0] := g
    replace l : Lb (Fm.of m) pa ya Ta 4 m6.nxt 5 [(Il s.Last), ca101, ca102, ca103, (.map O.nxt)] := l
    replace z : Lb (Fm.of m) pa ya Ta 5 D.nxt 7 [(Il a.Crop), (Il a.Week.Lo), (Il a.Week.Hi), (Il a.Damage.Lo), (Il a.Damage.Hi), (Il a.Old.Lo), (Il a.Old.Hi)] := z
    replace n : Mo (Fm.of m) pa ya Ta 3 (.map O.nxt) y := n
    refine ⟨_, _, _, _, _, g.bk.ra, ?_⟩
    obtain rfl := Option.some.inj hp
    exact hq _ pa .sl0 .sl0 .sl0 C.map0 Qe.grw (Sl.nil _) (Sl.nil _) (Sl.nil _) (show Mi _ .map0 none from rfl)
 exact hgo _ _ _ _ f qc zc (Sub.refl _) ta ua sa va hp
theorem s_choicesI {fl : Fld} {b0 : Nat} {w : Wk} {b1 : Nat} {cb101 cb102 cb103 cb104 : C} {m f : M} {F : Fm} {n0 ly : Nat} {xs : List (List V)} {I : Nat → (Nat → Prop) → M → Prop} {E : (Nat → Prop) → M → Prop} {S1 : Nat → Prop} {Q : V → M → Prop} {rz : List Crs} {τ0 : Nat → Nat} (hc : Client prog tbl n0 ly xs I E) (S0 : St F f f m) (Y0 : Yg n0 (YJ xs I rz) S1 F f τ0 m) (hb0 : Bk f b0 7 [(.int .i64 fl.Crop), (.int .i64 fl.Week.Lo), (.int .i64 fl.Week.Hi), (.int .i64 fl.Damage.Lo), (.int .i64 fl.Damage.Hi), (.int .i64 fl.Old.Lo), (.int .i64 fl.Old.Hi)]) (hb1 : Bk f b1 5 [(.int .i64 w.s.Last), cb101, cb102, cb103, cb104]) (hb101 : Sl f cb101 w.s.Rules) (hb102 : Sl f cb102 w.s.Fields) (hb103 : Sl f cb103 w.s.Visits) (hb104 : Mi f cb104 w.damages) (hp : pchoicesI fl w = some rz) (hq : ∀ v m' f' τ' S', St F f f' m' → (Yg n0 (YJ xs I ([] : List Crs)) S' F f' τ' m' ∨ Yg n0 E S' F f' τ' m') → Q v m') : Wc prog tbl 137 [.c (.fn (.yield ly) [] []), .c (.ptr b0 0), .c (.ptr b1 0)] m Q := by
 refine c137 ?_
 unfold pchoicesI at hp
 intro m0 e3066
 obtain ⟨τ3069, S3067, k3068, L3070⟩ := S0.blk e3066 τ0 1
 have Y3071 := Y0.k k3068 (by decide)
 refine ⟨trivial, _, _, (hb0.sub S3067.sub).rp (k := 1) (j := 2) rfl (by omega), ?_⟩
 obtain ⟨r3072, g3073, hp⟩ := bsome hp
 refine s_numbers (r := fl.Week) S3067.pre  g3073 fun m4 f3077 c3078 e3076 h3079 => ?_
 obtain ⟨S3074, k3075⟩ := S3067.callG e3076 τ3069
 have L3080 := L3070.k k3075 (by decide)
 have Y3081 := Y3071.k k3075 (by decide)
 refine ⟨_, rfl, ?_⟩
 refine range_st (α := Int) S3074 h3079 (σ := (List Crs) × (Nat → Prop) × Bool) 2 (fun st bb => (False ∨ (st.2.1 bb))) (fun st gG gF gT gM => (Lb gG gF gT gM 1 m.nxt 1 [(.fn (.yield ly) [] [])]) ∧ (Yg n0 (YD xs I E st.2.2 st.1) st.2.1 gG gF gT gM)) (fun rr_ st => st.2.2 = false ∧ pchoicesI_L0 fl w rr_ = some st.1) (fun ex st => (match ex with | .ret => st.2.2 = true ∨ (st.2.2 = false ∧ (0 : Nat) = 0 ∧ pchoicesI_L0_xret = some st.1) | _ => False)) (fun st => (Gud.and (Gud.lb L3080.bk.lt (by decide)) (Gud.yg Y3081.n (by decide)))) (st0 := (rz, S1, false)) (τ := τ3069) ⟨L3080, Y3081⟩ ⟨rfl, hp⟩ ?_ ?_ ?_ ?_
 ·intro a3091 q3092 st f3093 τ3094 m7 F3095 o3096 Ok3097 en3098 Kn3099 S3100 s3101 hA rk3102 hp he3103 hk3104
  obtain ⟨r3083, s3084, d3085⟩ := st
  obtain ⟨hdd, hp⟩ := hp
  replace hdd : d3085 = false := hdd
  subst hdd
  obtain ⟨L3082, Y3086⟩ := hA
  replace L3082 : Lb F3095 f3093 τ3094 m7 1 m.nxt 1 [(.fn (.yield ly) [] [])] := L3082
  replace Y3086 : Yg n0 (YJ xs I r3083) s3084 F3095 f3093 τ3094 m7 := Y3086
  replace hp : pchoicesI_L0 fl w (a3091 :: q3092) = some r3083 := hp
  rw [pchoicesI_L0] at hp
  refine ⟨_, rfl, ?_⟩
  intro m11 e3105
  obtain ⟨τ3108, S3106, k3107, L3109⟩ := S3100.blk e3105 τ3094 3
  have L3110 := L3082.k k3107 (by decide)
  have Y3111 := Y3086.k k3107 (by decide)
  have rk3112 := rk3102.k k3107 (by decide)
  obtain ⟨m3116, e3115, S3113, k3114, L3117⟩ := L3109.sto S3106 [(.int .i64 a3091)]
  have L3118 := L3110.k k3114 (by decide)
  have Y3119 := Y3111.k k3114 (by decide)
  have rk3120 := rk3112.k k3114 (by decide)
  refine ⟨m3116, e3115, ?_⟩
  refine he3103 _ _ _ _ S3113 rk3120 fun m13 o3124 S3121 k3122 rk3123 hO3125 => ?_
  have L3126 := L3118.k k3122 (by decide)
  have L3127 := L3117.k k3122 (by decide)
  have Y3128 := Y3119.k k3122 (by decide)
  refine ⟨trivial, _, _, (hb0.sub (Sub.trans (Sub.trans k3075.fs s3101) S3121.sub)).rp (k := 3) (j := 2) rfl (by omega), ?_⟩
  obtain ⟨r3129, g3130, hp⟩ := bsome hp
  refine s_numbers (r := fl.Damage) S3121.pre  g3130 fun m17 f3134 c3135 e3133 h3136 => ?_
  obtain ⟨S3131, k3132⟩ := S3121.callG e3133 τ3108
  have L3137 := L3126.k k3132 (by decide)
  have L3138 := L3127.k k3132 (by decide)
  have Y3139 := Y3128.k k3132 (by decide)
  have rk3140 := rk3123.k k3132 (by decide)
  refine ⟨_, rfl, ?_⟩
  refine range_st (α := Int) S3131 h3136 (σ := (List Crs) × (Nat → Prop) × Bool) 4 (fun st bb => (False ∨ (False ∨ ((st.2.1 bb) ∨ False)))) (fun st gG gF gT gM => (Lb gG gF gT gM 1 m.nxt 1 [(.fn (.yield ly) [] [])]) ∧ (Lb gG gF gT gM 3 m7.nxt 1 [(.int .i64 a3091)]) ∧ (Yg n0 (YD xs I E st.2.2 st.1) st.2.1 gG gF gT gM) ∧ (Rk gG gF gT gM 2 (m4).nxt o3124)) (fun rr_ st => st.2.2 = false ∧ pchoicesI_L1 fl w a3091 ((pchoicesI_L0 fl w q3092)) rr_ = some st.1) (fun ex st => (match ex with | .ret => st.2.2 = true ∨ (st.2.2 = false ∧ (0 : Nat) = 0 ∧ pchoicesI_L1_xret = some st.1) | _ => False)) (fun st => (Gud.and (Gud.lb L3137.bk.lt (by decide)) (Gud.and (Gud.lb L3138.bk.lt (by decide)) (Gud.and (Gud.yg Y3139.n (by decide)) (Gud.rk rk3140.lt (by decide)))))) (st0 := (r3083, s3084, false)) (τ := τ3108) ⟨L3137, L3138, Y3139, rk3140⟩ ⟨rfl, hp⟩ ?_ ?_ ?_ ?_
  ·intro a3152 q3153 st f3154 τ3155 m20 F3156 o3157 Ok3158 en3159 Kn3160 S3161 s3162 hA rk3163 hp he3164 hk3165
   obtain ⟨r3143, s3144, d3145⟩ := st
   obtain ⟨hdd, hp⟩ := hp
   replace hdd : d3145 = false := hdd
   subst hdd
   obtain ⟨L3141, L3142, Y3146, rk3147⟩ := hA
   replace L3141 : Lb F3156 f3154 τ3155 m20 1 m.nxt 1 [(.fn (.yield ly) [] [])] := L3141
   replace L3142 : Lb F3156 f3154 τ3155 m20 3 m7.nxt 1 [(.int .i64 a3091)] := L3142
   replace Y3146 : Yg n0 (YJ xs I r3143) s3144 F3156 f3154 τ3155 m20 := Y3146
   replace rk3147 : Rk F3156 f3154 τ3155 m20 2 (m4).nxt o3124 := rk3147
   replace hp : pchoicesI_L1 fl w a3091 ((pchoicesI_L0 fl w q3092)) (a3152 :: q3153) = some r3143 := hp
   rw [pchoicesI_L1] at hp
   refine ⟨_, rfl, ?_⟩
   intro m24 e3166
   obtain ⟨τ3169, S3167, k3168, L3170⟩ := S3161.blk e3166 τ3155 5
   have L3171 := L3141.k k3168 (by decide)
   have L3172 := L3142.k k3168 (by decide)
   have Y3173 := Y3146.k k3168 (by decide)
   have rk3174 := rk3163.k k3168 (by decide)
   have rk3175 := rk3147.k k3168 (by decide)
   obtain ⟨m3179, e3178, S3176, k3177, L3180⟩ := L3170.sto S3167 [(.int .i64 a3152)]
   have L3181 := L3171.k k3177 (by decide)
   have L3182 := L3172.k k3177 (by decide)
   have Y3183 := Y3173.k k3177 (by decide)
   have rk3184 := rk3174.k k3177 (by decide)
   have rk3185 := rk3175.k k3177 (by decide)
   refine ⟨m3179, e3178, ?_⟩
   refine he3164 _ _ _ _ S3176 rk3184 fun m26 o3189 S3186 k3187 rk3188 hO3190 => ?_
   have L3191 := L3181.k k3187 (by decide)
   have L3192 := L3182.k k3187 (by decide)
   have L3193 := L3180.k k3187 (by decide)
   have Y3194 := Y3183.k k3187 (by decide)
   have rk3195 := rk3185.k k3187 (by decide)
   intro m27 e3196
   obtain ⟨τ3199, S3197, k3198, hz3200⟩ := S3186.growK e3196 τ3169 6
   have L3201 := L3191.k k3198 (by decide)
   have L3202 := L3192.k k3198 (by decide)
   have L3203 := L3193.k k3198 (by decide)
   have Y3204 := Y3194.k k3198 (by decide)
   have rk3205 := rk3188.k k3198 (by decide)
   have rk3206 := rk3195.k k3198 (by decide)
   have Z3207 := hz3200 0 (by decide)
   refine ⟨trivial, _, (hb1.sub (Sub.trans (Sub.trans (Sub.trans (Sub.trans k3075.fs s3101) k3132.fs) s3162) S3197.sub)).rc rfl, _, _, _, _, _, _, _, (hb0.sub (Sub.trans (Sub.trans (Sub.trans (Sub.trans k3075.fs s3101) k3132.fs) s3162) S3197.sub)).ra, _, L3202.bk.rc rfl, _, L3203.bk.rc rfl, ?_⟩
   obtain ⟨r3208, g3209, hp⟩ := bsome hp
   refine s_plant (fl := fl) (week := a3091) (damage := a3152) S3197.pre  g3209 fun m39 e3212 => ?_
   obtain ⟨S3210, k3211⟩ := S3197.call e3212 τ3199
   have L3213 := L3201.k k3211 (by decide)
   have L3214 := L3202.k k3211 (by decide)
   have L3215 := L3203.k k3211 (by decide)
   have Z3216 := Z3207.k k3211 (by decide)
   have Y3217 := Y3204.k k3211 (by decide)
   have rk3218 := rk3205.k k3211 (by decide)
   have rk3219 := rk3206.k k3211 (by decide)
   refine ⟨_, _, _, _, rfl, (by rw [show noFnC _ = true from hb104.noFn]; exact ((hb1.sub (Sub.trans (Sub.trans (Sub.trans (Sub.trans k3075.fs s3101) k3132.fs) s3162) S3210.sub)).rc rfl)), ?_⟩
   obtain ⟨g3220, hp⟩ := gd_some hp
   refine ⟨_, (Mi.sub (hb104.sub (Sub.trans (Sub.trans (Sub.trans k3075.fs s3101) k3132.fs) s3162)) S3210.sub).mi.lk kl170 (k := r3208) g3220 rfl, ?_⟩
   cases hv3221 : (mget w.damages r3208) with
   | none =>
    rw [mcase_none hv3221] at hp
    refine ⟨fun _ => ?_, fun u hu => (by cases hu)⟩
    intro m45 e3223
    obtain ⟨S3224, k3225, L3226⟩ := Z3216.set S3210 e3223
    have L3227 := L3213.k k3225 (by decide)
    have L3228 := L3214.k k3225 (by decide)
    have L3229 := L3215.k k3225 (by decide)
    have Y3230 := Y3217.k k3225 (by decide)
    have rk3231 := rk3218.k k3225 (by decide)
    have rk3232 := rk3219.k k3225 (by decide)
    refine ⟨⟨_, (Mi.sub (hb104.sub (Sub.trans (Sub.trans (Sub.trans k3075.fs s3101) k3132.fs) s3162)) S3224.sub).mi.lk kl170 (k := r3208) g3220 rfl, (by rw [hv3221]; rfl), rfl⟩, (L3229.bk.rc rfl), (L3228.bk.rc rfl), ((hb0.sub (Sub.trans (Sub.trans (Sub.trans (Sub.trans k3075.fs s3101) k3132.fs) s3162) S3224.sub)).ra), (by rw [show noFnC _ = true from hb104.noFn]; exact ((hb1.sub (Sub.trans (Sub.trans (Sub.trans (Sub.trans k3075.fs s3101) k3132.fs) s3162) S3224.sub)).rc rfl)), ?_⟩
    obtain ⟨m3236, e3235, S3233, k3234, L3237⟩ := L3226.sto S3224 [(.int .i64 (0 : Int)), (.int .i64 (0 : Int)), (.int .i64 (0 : Int)), (.int .i64 (0 : Int)), (.int .i64 (0 : Int)), (.int .i64 (0 : Int)), (.int .i64 (0 : Int)), (.int .i64 (0 : Int)), (.int .i64 (0 : Int)), (.int .i64 (0 : Int)), (.int .i64 (0 : Int)), (.int .i64 (0 : Int)), (.int .i64 (0 : Int))]
    have L3238 := L3227.k k3234 (by decide)
    have L3239 := L3228.k k3234 (by decide)
    have L3240 := L3229.k k3234 (by decide)
    have Y3241 := Y3230.k k3234 (by decide)
    have rk3242 := rk3231.k k3234 (by decide)
    have rk3243 := rk3232.k k3234 (by decide)
    refine ⟨m3236, e3235, ?_⟩
    refine ⟨trivial, _, _, (hb0.sub (Sub.trans (Sub.trans (Sub.trans (Sub.trans k3075.fs s3101) k3132.fs) s3162) S3233.sub)).rp (k := 5) (j := 2) rfl (by omega), ?_⟩
    obtain ⟨r3244, g3245, hp⟩ := bsome hp
    refine s_numbers (r := fl.Old) S3233.pre  g3245 fun m52 f3249 c3250 e3248 h3251 => ?_
    obtain ⟨S3246, k3247⟩ := S3233.callG e3248 τ3199
    have L3252 := L3238.k k3247 (by decide)
    have L3253 := L3239.k k3247 (by decide)
    have L3254 := L3240.k k3247 (by decide)
    have L3255 := L3237.k k3247 (by decide)
    have Y3256 := Y3241.k k3247 (by decide)
    have rk3257 := rk3242.k k3247 (by decide)
    have rk3258 := rk3243.k k3247 (by decide)
    refine ⟨_, rfl, ?_⟩
    refine range_st (α := Int) S3246 h3251 (σ := (List Crs) × (Nat → Prop) × Bool) 7 (fun st bb => (False ∨ (False ∨ (False ∨ (False ∨ ((st.2.1 bb) ∨ (False ∨ False))))))) (fun st gG gF gT gM => (Lb gG gF gT gM 1 m.nxt 1 [(.fn (.yield ly) [] [])]) ∧ (Lb gG gF gT gM 3 m7.nxt 1 [(.int .i64 a3091)]) ∧ (Lb gG gF gT gM 5 m20.nxt 1 [(.int .i64 a3152)]) ∧ (Lb gG gF gT gM 6 (m26.nxt + 0) 13 [(.int .i64 (0 : Int)), (.int .i64 (0 : Int)), (.int .i64 (0 : Int)), (.int .i64 (0 : Int)), (.int .i64 (0 : Int)), (.int .i64 (0 : Int)), (.int .i64 (0 : Int)), (.int .i64 (0 : Int)), (.int .i64 (0 : Int)), (.int .i64 (0 : Int)), (.int .i64 (0 : Int)), (.int .i64 (0 : Int)), (.int .i64 (0 : Int))]) ∧ (Yg n0 (YD xs I E st.2.2 st.1) st.2.1 gG gF gT gM) ∧ (Rk gG gF gT gM 2 (m4).nxt o3124) ∧ (Rk gG gF gT gM 4 (m17).nxt o3189)) (fun rr_ st => st.2.2 = false ∧ pchoicesI_L2 a3091 a3152 ((pchoicesI_L1 fl w a3091 ((pchoicesI_L0 fl w q3092)) q3153)) rr_ = some st.1) (fun ex st => (match ex with | .ret => st.2.2 = true ∨ (st.2.2 = false ∧ (0 : Nat) = 0 ∧ pchoicesI_L2_xret = some st.1) | _ => False)) (fun st => (Gud.and (Gud.lb L3252.bk.lt (by decide)) (Gud.and (Gud.lb L3253.bk.lt (by decide)) (Gud.and (Gud.lb L3254.bk.lt (by decide)) (Gud.and (Gud.lb L3255.bk.lt (by decide)) (Gud.and (Gud.yg Y3256.n (by decide)) (Gud.and (Gud.rk rk3258.lt (by decide)) (Gud.rk rk3257.lt (by decide))))))))) (st0 := (r3143, s3144, false)) (τ := τ3199) ⟨L3252, L3253, L3254, L3255, Y3256, rk3258, rk3257⟩ ⟨rfl, hp⟩ ?_ ?_ ?_ ?_
    ·intro a3273 q3274 st f3275 τ3276 m55 F3277 o3278 Ok3279 en3280 Kn3281 S3282 s3283 hA rk3284 hp he3285 hk3286
     obtain ⟨r3263, s3264, d3265⟩ := st
     obtain ⟨hdd, hp⟩ := hp
     replace hdd : d3265 = false := hdd
     subst hdd
     obtain ⟨L3259, L3260, L3261, L3262, Y3266, rk3267, rk3268⟩ := hA
     replace L3259 : Lb F3277 f3275 τ3276 m55 1 m.nxt 1 [(.fn (.yield ly) [] [])] := L3259
     replace L3260 : Lb F3277 f3275 τ3276 m55 3 m7.nxt 1 [(.int .i64 a3091)] := L3260
     replace L3261 : Lb F3277 f3275 τ3276 m55 5 m20.nxt 1 [(.int .i64 a3152)] := L3261
     replace L3262 : Lb F3277 f3275 τ3276 m55 6 (m26.nxt + 0) 13 [(.int .i64 (0 : Int)), (.int .i64 (0 : Int)), (.int .i64 (0 : Int)), (.int .i64 (0 : Int)), (.int .i64 (0 : Int)), (.int .i64 (0 : Int)), (.int .i64 (0 : Int)), (.int .i64 (0 : Int)), (.int .i64 (0 : Int)), (.int .i64 (0 : Int)), (.int .i64 (0 : Int)), (.int .i64 (0 : Int)), (.int .i64 (0 : Int))] := L3262
     replace Y3266 : Yg n0 (YJ xs I r3263) s3264 F3277 f3275 τ3276 m55 := Y3266
     replace rk3267 : Rk F3277 f3275 τ3276 m55 2 (m4).nxt o3124 := rk3267
     replace rk3268 : Rk F3277 f3275 τ3276 m55 4 (m17).nxt o3189 := rk3268
     replace hp : pchoicesI_L2 a3091 a3152 ((pchoicesI_L1 fl w a3091 ((pchoicesI_L0 fl w q3092)) q3153)) (a3273 :: q3274) = some r3263 := hp
     rw [pchoicesI_L2] at hp
     refine ⟨_, rfl, ?_⟩
     refine he3285 _ _ _ _ S3282 rk3284 fun m59 o3290 S3287 k3288 rk3289 hO3291 => ?_
     have L3292 := L3259.k k3288 (by decide)
     have L3293 := L3260.k k3288 (by decide)
     have L3294 := L3261.k k3288 (by decide)
     have L3295 := L3262.k k3288 (by decide)
     have Y3296 := Y3266.k k3288 (by decide)
     have rk3297 := rk3267.k k3288 (by decide)
     have rk3298 := rk3268.k k3288 (by decide)
     refine ⟨_, L3292.bk.rc rfl, _, L3293.bk.rc rfl, _, L3294.bk.rc rfl, _, _, _, _, _, _, _, _, _, _, _, _, _, L3295.bk.ra, ?_⟩
     obtain ⟨r3299, hp3301, hz3300⟩ := bsome hp
     clear hp
     obtain rfl := Option.some.inj hz3300
     have hp := hp3301
     show Wy prog tbl ly (IV.encs (({ t := ({ Week := a3091, Damage := a3152, Old := a3273 } : Trh), d := ({ d0 := (0 : Int), d1 := (0 : Int), d2 := (0 : Int), d3 := (0 : Int), d4 := (0 : Int), d5 := (0 : Int), d6 := (0 : Int), d7 := (0 : Int), d8 := (0 : Int), d9 := (0 : Int), d10 := (0 : Int), d11 := (0 : Int), d12 := (0 : Int) } : Dm) } : Crs) : Crs)) _ _
     refine Yg.yield hc S3287 Y3296 ?_ ?_
     ·intro m77 τ3302 s3306 S3303 k3304 Y3305
      have L3307 := L3292.k k3304 (by decide)
      have L3308 := L3293.k k3304 (by decide)
      have L3309 := L3294.k k3304 (by decide)
      have L3310 := L3295.k k3304 (by decide)
      have rk3311 := rk3289.k k3304 (by decide)
      have rk3312 := rk3297.k k3304 (by decide)
      have rk3313 := rk3298.k k3304 (by decide)
      refine ⟨_, rfl, ?_⟩
      refine ifB_f' ?_
      exact hk3286 .nrm (r3299, s3306, false) _ _ _ _ S3303 ⟨L3307, L3308, L3309, L3310, Y3305, rk3312, rk3313⟩ rk3311 hO3291 ⟨rfl, hp⟩
     ·intro m77 τ3314 s3318 S3315 k3316 Y3317
      have L3319 := L3292.k k3316 (by decide)
      have L3320 := L3293.k k3316 (by decide)
      have L3321 := L3294.k k3316 (by decide)
      have L3322 := L3295.k k3316 (by decide)
      have rk3323 := rk3289.k k3316 (by decide)
      have rk3324 := rk3297.k k3316 (by decide)
      have rk3325 := rk3298.k k3316 (by decide)
      refine ⟨_, rfl, ?_⟩
      refine ifB_t' ?_
      exact hk3286 .ret ([], s3318, true) _ _ _ _ S3315 ⟨L3319, L3320, L3321, L3322, Y3317, rk3324, rk3325⟩ rk3323 hO3291 (.inl rfl)
    ·intro st f3326 τ3328 m79 S3329 s3327 hA hp
     obtain ⟨r3263, s3264, d3265⟩ := st
     obtain ⟨hdd, hp⟩ := hp
     replace hdd : d3265 = false := hdd
     subst hdd
     replace hp : pchoicesI_L2 a3091 a3152 ((pchoicesI_L1 fl w a3091 ((pchoicesI_L0 fl w q3092)) q3153)) [] = some r3263 := hp
     obtain ⟨L3259, L3260, L3261, L3262, Y3266, rk3267, rk3268⟩ := hA
     replace L3259 : Lb F3156 f3326 τ3328 m79 1 m.nxt 1 [(.fn (.yield ly) [] [])] := L3259
     replace L3260 : Lb F3156 f3326 τ3328 m79 3 m7.nxt 1 [(.int .i64 a3091)] := L3260
     replace L3261 : Lb F3156 f3326 τ3328 m79 5 m20.nxt 1 [(.int .i64 a3152)] := L3261
     replace L3262 : Lb F3156 f3326 τ3328 m79 6 (m26.nxt + 0) 13 [(.int .i64 (0 : Int)), (.int .i64 (0 : Int)), (.int .i64 (0 : Int)), (.int .i64 (0 : Int)), (.int .i64 (0 : Int)), (.int .i64 (0 : Int)), (.int .i64 (0 : Int)), (.int .i64 (0 : Int)), (.int .i64 (0 : Int)), (.int .i64 (0 : Int)), (.int .i64 (0 : Int)), (.int .i64 (0 : Int)), (.int .i64 (0 : Int))] := L3262
     replace Y3266 : Yg n0 (YJ xs I r3263) s3264 F3156 f3326 τ3328 m79 := Y3266
     replace rk3267 : Rk F3156 f3326 τ3328 m79 2 (m4).nxt o3124 := rk3267
     replace rk3268 : Rk F3156 f3326 τ3328 m79 4 (m17).nxt o3189 := rk3268
     rw [pchoicesI_L2] at hp
     exact hk3165 .nrm (r3263, s3264, false) _ _ _ _ S3329 ⟨L3259, L3260, Y3266, rk3267⟩ rk3268 hO3190 ⟨rfl, hp⟩
    ·intro id st _ _ _ _ _ _ hn; first | exact hn.elim | (cases hn)
    ·intro st f3269 τ3271 m80 S3272 s3270 hA hn
     obtain ⟨r3263, s3264, d3265⟩ := st
     rcases hn with hd | ⟨hd, hid, hp⟩
     ·replace hd : d3265 = true := hd
      subst hd
      obtain ⟨L3259, L3260, L3261, L3262, Y3266, rk3267, rk3268⟩ := hA
      replace L3259 : Lb F3156 f3269 τ3271 m80 1 m.nxt 1 [(.fn (.yield ly) [] [])] := L3259
      replace L3260 : Lb F3156 f3269 τ3271 m80 3 m7.nxt 1 [(.int .i64 a3091)] := L3260
      replace L3261 : Lb F3156 f3269 τ3271 m80 5 m20.nxt 1 [(.int .i64 a3152)] := L3261
      replace L3262 : Lb F3156 f3269 τ3271 m80 6 (m26.nxt + 0) 13 [(.int .i64 (0 : Int)), (.int .i64 (0 : Int)), (.int .i64 (0 : Int)), (.int .i64 (0 : Int)), (.int .i64 (0 : Int)), (.int .i64 (0 : Int)), (.int .i64 (0 : Int)), (.int .i64 (0 : Int)), (.int .i64 (0 : Int)), (.int .i64 (0 : Int)), (.int .i64 (0 : Int)), (.int .i64 (0 : Int)), (.int .i64 (0 : Int))] := L3262
      replace Y3266 : Yg n0 E s3264 F3156 f3269 τ3271 m80 := Y3266
      replace rk3267 : Rk F3156 f3269 τ3271 m80 2 (m4).nxt o3124 := rk3267
      replace rk3268 : Rk F3156 f3269 τ3271 m80 4 (m17).nxt o3189 := rk3268
      exact hk3165 .ret ([], s3264, true) _ _ _ _ S3272 ⟨L3259, L3260, Y3266, rk3267⟩ rk3268 hO3190 (.inl rfl)
     replace hd : d3265 = false := hd
     subst hd
     replace hp : pchoicesI_L2_xret = some r3263 := hp
     unfold pchoicesI_L2_xret at hp
     obtain ⟨L3259, L3260, L3261, L3262, Y3266, rk3267, rk3268⟩ := hA
     replace L3259 : Lb F3156 f3269 τ3271 m80 1 m.nxt 1 [(.fn (.yield ly) [] [])] := L3259
     replace L3260 : Lb F3156 f3269 τ3271 m80 3 m7.nxt 1 [(.int .i64 a3091)] := L3260
     replace L3261 : Lb F3156 f3269 τ3271 m80 5 m20.nxt 1 [(.int .i64 a3152)] := L3261
     replace L3262 : Lb F3156 f3269 τ3271 m80 6 (m26.nxt + 0) 13 [(.int .i64 (0 : Int)), (.int .i64 (0 : Int)), (.int .i64 (0 : Int)), (.int .i64 (0 : Int)), (.int .i64 (0 : Int)), (.int .i64 (0 : Int)), (.int .i64 (0 : Int)), (.int .i64 (0 : Int)), (.int .i64 (0 : Int)), (.int .i64 (0 : Int)), (.int .i64 (0 : Int)), (.int .i64 (0 : Int)), (.int .i64 (0 : Int))] := L3262
     replace Y3266 : Yg n0 (YJ xs I r3263) s3264 F3156 f3269 τ3271 m80 := Y3266
     replace rk3267 : Rk F3156 f3269 τ3271 m80 2 (m4).nxt o3124 := rk3267
     replace rk3268 : Rk F3156 f3269 τ3271 m80 4 (m17).nxt o3189 := rk3268
     exact hk3165 .ret (r3263, s3264, false) _ _ _ _ S3272 ⟨L3259, L3260, Y3266, rk3267⟩ rk3268 hO3190 (.inr ⟨rfl, rfl, hp⟩)
   | some w3222 =>
    rw [mcase_some hv3221] at hp
    refine ⟨fun h => (by cases h), fun u hu => ?_⟩
    obtain rfl := Option.some.inj hu
    refine ⟨_, _, _, _, _, _, _, _, _, _, _, _, _, rfl, ?_⟩
    intro m95 e3330
    obtain ⟨S3331, k3332, L3333⟩ := Z3216.set S3210 e3330
    have L3334 := L3213.k k3332 (by decide)
    have L3335 := L3214.k k3332 (by decide)
    have L3336 := L3215.k k3332 (by decide)
    have Y3337 := Y3217.k k3332 (by decide)
    have rk3338 := rk3218.k k3332 (by decide)
    have rk3339 := rk3219.k k3332 (by decide)
    refine ⟨⟨_, (Mi.sub (hb104.sub (Sub.trans (Sub.trans (Sub.trans k3075.fs s3101) k3132.fs) s3162)) S3331.sub).mi.lk kl170 (k := r3208) g3220 rfl, (by rw [hv3221]; rfl), rfl⟩, (L3336.bk.rc rfl), (L3335.bk.rc rfl), ((hb0.sub (Sub.trans (Sub.trans (Sub.trans (Sub.trans k3075.fs s3101) k3132.fs) s3162) S3331.sub)).ra), (by rw [show noFnC _ = true from hb104.noFn]; exact ((hb1.sub (Sub.trans (Sub.trans (Sub.trans (Sub.trans k3075.fs s3101) k3132.fs) s3162) S3331.sub)).rc rfl)), ?_⟩
    obtain ⟨m3343, e3342, S3340, k3341, L3344⟩ := L3333.sto S3331 [(.int .i64 w3222.d0), (.int .i64 w3222.d1), (.int .i64 w3222.d2), (.int .i64 w3222.d3), (.int .i64 w3222.d4), (.int .i64 w3222.d5), (.int .i64 w3222.d6), (.int .i64 w3222.d7), (.int .i64 w3222.d8), (.int .i64 w3222.d9), (.int .i64 w3222.d10), (.int .i64 w3222.d11), (.int .i64 w3222.d12)]
    have L3345 := L3334.k k3341 (by decide)
    have L3346 := L3335.k k3341 (by decide)
    have L3347 := L3336.k k3341 (by decide)
    have Y3348 := Y3337.k k3341 (by decide)
    have rk3349 := rk3338.k k3341 (by decide)
    have rk3350 := rk3339.k k3341 (by decide)
    refine ⟨m3343, e3342, ?_⟩
    refine ⟨trivial, _, _, (hb0.sub (Sub.trans (Sub.trans (Sub.trans (Sub.trans k3075.fs s3101) k3132.fs) s3162) S3340.sub)).rp (k := 5) (j := 2) rfl (by omega), ?_⟩
    obtain ⟨r3351, g3352, hp⟩ := bsome hp
    refine s_numbers (r := fl.Old) S3340.pre  g3352 fun m102 f3356 c3357 e3355 h3358 => ?_
    obtain ⟨S3353, k3354⟩ := S3340.callG e3355 τ3199
    have L3359 := L3345.k k3354 (by decide)
    have L3360 := L3346.k k3354 (by decide)
    have L3361 := L3347.k k3354 (by decide)
    have L3362 := L3344.k k3354 (by decide)
    have Y3363 := Y3348.k k3354 (by decide)
    have rk3364 := rk3349.k k3354 (by decide)
    have rk3365 := rk3350.k k3354 (by decide)
    refine ⟨_, rfl, ?_⟩
    refine range_st (α := Int) S3353 h3358 (σ := (List Crs) × (Nat → Prop) × Bool) 8 (fun st bb => (False ∨ (False ∨ (False ∨ (False ∨ ((st.2.1 bb) ∨ (False ∨ False))))))) (fun st gG gF gT gM => (Lb gG gF gT gM 1 m.nxt 1 [(.fn (.yield ly) [] [])]) ∧ (Lb gG gF gT gM 3 m7.nxt 1 [(.int .i64 a3091)]) ∧ (Lb gG gF gT gM 5 m20.nxt 1 [(.int .i64 a3152)]) ∧ (Lb gG gF gT gM 6 (m26.nxt + 0) 13 [(.int .i64 w3222.d0), (.int .i64 w3222.d1), (.int .i64 w3222.d2), (.int .i64 w3222.d3), (.int .i64 w3222.d4), (.int .i64 w3222.d5), (.int .i64 w3222.d6), (.int .i64 w3222.d7), (.int .i64 w3222.d8), (.int .i64 w3222.d9), (.int .i64 w3222.d10), (.int .i64 w3222.d11), (.int .i64 w3222.d12)]) ∧ (Yg n0 (YD xs I E st.2.2 st.1) st.2.1 gG gF gT gM) ∧ (Rk gG gF gT gM 2 (m4).nxt o3124) ∧ (Rk gG gF gT gM 4 (m17).nxt o3189)) (fun rr_ st => st.2.2 = false ∧ pchoicesI_L3 a3091 a3152 w3222 ((pchoicesI_L1 fl w a3091 ((pchoicesI_L0 fl w q3092)) q3153)) rr_ = some st.1) (fun ex st => (match ex with | .ret => st.2.2 = true ∨ (st.2.2 = false ∧ (0 : Nat) = 0 ∧ pchoicesI_L3_xret = some st.1) | _ => False)) (fun st => (Gud.and (Gud.lb L3359.bk.lt (by decide)) (Gud.and (Gud.lb L3360.bk.lt (by decide)) (Gud.and (Gud.lb L3361.bk.lt (by decide)) (Gud.and (Gud.lb L3362.bk.lt (by decide)) (Gud.and (Gud.yg Y3363.n (by decide)) (Gud.and (Gud.rk rk3365.lt (by decide)) (Gud.rk rk3364.lt (by decide))))))))) (st0 := (r3143, s3144, false)) (τ := τ3199) ⟨L3359, L3360, L3361, L3362, Y3363, rk3365, rk3364⟩ ⟨rfl, hp⟩ ?_ ?_ ?_ ?_
    ·intro a3380 q3381 st f3382 τ3383 m105 F3384 o3385 Ok3386 en3387 Kn3388 S3389 s3390 hA rk3391 hp he3392 hk3393
     obtain ⟨r3370, s3371, d3372⟩ := st
     obtain ⟨hdd, hp⟩ := hp
     replace hdd : d3372 = false := hdd
     subst hdd
     obtain ⟨L3366, L3367, L3368, L3369, Y3373, rk3374, rk3375⟩ := hA
     replace L3366 : Lb F3384 f3382 τ3383 m105 1 m.nxt 1 [(.fn (.yield ly) [] [])] := L3366
     replace L3367 : Lb F3384 f3382 τ3383 m105 3 m7.nxt 1 [(.int .i64 a3091)] := L3367
     replace L3368 : Lb F3384 f3382 τ3383 m105 5 m20.nxt 1 [(.int .i64 a3152)] := L3368
     replace L3369 : Lb F3384 f3382 τ3383 m105 6 (m26.nxt + 0) 13 [(.int .i64 w3222.d0), (.int .i64 w3222.d1), (.int .i64 w3222.d2), (.int .i64 w3222.d3), (.int .i64 w3222.d4), (.int .i64 w3222.d5), (.int .i64 w3222.d6), (.int .i64 w3222.d7), (.int .i64 w3222.d8), (.int .i64 w3222.d9), (.int .i64 w3222.d10), (.int .i64 w3222.d11), (.int .i64 w3222.d12)] := L3369
     replace Y3373 : Yg n0 (YJ xs I r3370) s3371 F3384 f3382 τ3383 m105 := Y3373
     replace rk3374 : Rk F3384 f3382 τ3383 m105 2 (m4).nxt o3124 := rk3374
     replace rk3375 : Rk F3384 f3382 τ3383 m105 4 (m17).nxt o3189 := rk3375
     replace hp : pchoicesI_L3 a3091 a3152 w3222 ((pchoicesI_L1 fl w a3091 ((pchoicesI_L0 fl w q3092)) q3153)) (a3380 :: q3381) = some r3370 := hp
     rw [pchoicesI_L3] at hp
     refine ⟨_, rfl, ?_⟩
     refine he3392 _ _ _ _ S3389 rk3391 fun m109 o3397 S3394 k3395 rk3396 hO3398 => ?_
     have L3399 := L3366.k k3395 (by decide)
     have L3400 := L3367.k k3395 (by decide)
     have L3401 := L3368.k k3395 (by decide)
     have L3402 := L3369.k k3395 (by decide)
     have Y3403 := Y3373.k k3395 (by decide)
     have rk3404 := rk3374.k k3395 (by decide)
     have rk3405 := rk3375.k k3395 (by decide)
     refine ⟨_, L3399.bk.rc rfl, _, L3400.bk.rc rfl, _, L3401.bk.rc rfl, _, _, _, _, _, _, _, _, _, _, _, _, _, L3402.bk.ra, ?_⟩
     obtain ⟨r3406, hp3408, hz3407⟩ := bsome hp
     clear hp
     obtain rfl := Option.some.inj hz3407
     have hp := hp3408
     show Wy prog tbl ly (IV.encs (({ t := ({ Week := a3091, Damage := a3152, Old := a3380 } : Trh), d := w3222 } : Crs) : Crs)) _ _
     refine Yg.yield hc S3394 Y3403 ?_ ?_
     ·intro m127 τ3409 s3413 S3410 k3411 Y3412
      have L3414 := L3399.k k3411 (by decide)
      have L3415 := L3400.k k3411 (by decide)
      have L3416 := L3401.k k3411 (by decide)
      have L3417 := L3402.k k3411 (by decide)
      have rk3418 := rk3396.k k3411 (by decide)
      have rk3419 := rk3404.k k3411 (by decide)
      have rk3420 := rk3405.k k3411 (by decide)
      refine ⟨_, rfl, ?_⟩
      refine ifB_f' ?_
      exact hk3393 .nrm (r3406, s3413, false) _ _ _ _ S3410 ⟨L3414, L3415, L3416, L3417, Y3412, rk3419, rk3420⟩ rk3418 hO3398 ⟨rfl, hp⟩
     ·intro m127 τ3421 s3425 S3422 k3423 Y3424
      have L3426 := L3399.k k3423 (by decide)
      have L3427 := L3400.k k3423 (by decide)
      have L3428 := L3401.k k3423 (by decide)
      have L3429 := L3402.k k3423 (by decide)
      have rk3430 := rk3396.k k3423 (by decide)
      have rk3431 := rk3404.k k3423 (by decide)
      have rk3432 := rk3405.k k3423 (by decide)
      refine ⟨_, rfl, ?_⟩
      refine ifB_t' ?_
      exact hk3393 .ret ([], s3425, true) _ _ _ _ S3422 ⟨L3426, L3427, L3428, L3429, Y3424, rk3431, rk3432⟩ rk3430 hO3398 (.inl rfl)
    ·intro st f3433 τ3435 m129 S3436 s3434 hA hp
     obtain ⟨r3370, s3371, d3372⟩ := st
     obtain ⟨hdd, hp⟩ := hp
     replace hdd : d3372 = false := hdd
     subst hdd
     replace hp : pchoicesI_L3 a3091 a3152 w3222 ((pchoicesI_L1 fl w a3091 ((pchoicesI_L0 fl w q3092)) q3153)) [] = some r3370 := hp
     obtain ⟨L3366, L3367, L3368, L3369, Y3373, rk3374, rk3375⟩ := hA
     replace L3366 : Lb F3156 f3433 τ3435 m129 1 m.nxt 1 [(.fn (.yield ly) [] [])] := L3366
     replace L3367 : Lb F3156 f3433 τ3435 m129 3 m7.nxt 1 [(.int .i64 a3091)] := L3367
     replace L3368 : Lb F3156 f3433 τ3435 m129 5 m20.nxt 1 [(.int .i64 a3152)] := L3368
     replace L3369 : Lb F3156 f3433 τ3435 m129 6 (m26.nxt + 0) 13 [(.int .i64 w3222.d0), (.int .i64 w3222.d1), (.int .i64 w3222.d2), (.int .i64 w3222.d3), (.int .i64 w3222.d4), (.int .i64 w3222.d5), (.int .i64 w3222.d6), (.int .i64 w3222.d7), (.int .i64 w3222.d8), (.int .i64 w3222.d9), (.int .i64 w3222.d10), (.int .i64 w3222.d11), (.int .i64 w3222.d12)] := L3369
     replace Y3373 : Yg n0 (YJ xs I r3370) s3371 F3156 f3433 τ3435 m129 := Y3373
     replace rk3374 : Rk F3156 f3433 τ3435 m129 2 (m4).nxt o3124 := rk3374
     replace rk3375 : Rk F3156 f3433 τ3435 m129 4 (m17).nxt o3189 := rk3375
     rw [pchoicesI_L3] at hp
     exact hk3165 .nrm (r3370, s3371, false) _ _ _ _ S3436 ⟨L3366, L3367, Y3373, rk3374⟩ rk3375 hO3190 ⟨rfl, hp⟩
    ·intro id st _ _ _ _ _ _ hn; first | exact hn.elim | (cases hn)
    ·intro st f3376 τ3378 m130 S3379 s3377 hA hn
     obtain ⟨r3370, s3371, d3372⟩ := st
     rcases hn with hd | ⟨hd, hid, hp⟩
     ·replace hd : d3372 = true := hd
      subst hd
      obtain ⟨L3366, L3367, L3368, L3369, Y3373, rk3374, rk3375⟩ := hA
      replace L3366 : Lb F3156 f3376 τ3378 m130 1 m.nxt 1 [(.fn (.yield ly) [] [])] := L3366
      replace L3367 : Lb F3156 f3376 τ3378 m130 3 m7.nxt 1 [(.int .i64 a3091)] := L3367
      replace L3368 : Lb F3156 f3376 τ3378 m130 5 m20.nxt 1 [(.int .i64 a3152)] := L3368
      replace L3369 : Lb F3156 f3376 τ3378 m130 6 (m26.nxt + 0) 13 [(.int .i64 w3222.d0), (.int .i64 w3222.d1), (.int .i64 w3222.d2), (.int .i64 w3222.d3), (.int .i64 w3222.d4), (.int .i64 w3222.d5), (.int .i64 w3222.d6), (.int .i64 w3222.d7), (.int .i64 w3222.d8), (.int .i64 w3222.d9), (.int .i64 w3222.d10), (.int .i64 w3222.d11), (.int .i64 w3222.d12)] := L3369
      replace Y3373 : Yg n0 E s3371 F3156 f3376 τ3378 m130 := Y3373
      replace rk3374 : Rk F3156 f3376 τ3378 m130 2 (m4).nxt o3124 := rk3374
      replace rk3375 : Rk F3156 f3376 τ3378 m130 4 (m17).nxt o3189 := rk3375
      exact hk3165 .ret ([], s3371, true) _ _ _ _ S3379 ⟨L3366, L3367, Y3373, rk3374⟩ rk3375 hO3190 (.inl rfl)
     replace hd : d3372 = false := hd
     subst hd
     replace hp : pchoicesI_L3_xret = some r3370 := hp
     unfold pchoicesI_L3_xret at hp
     obtain ⟨L3366, L3367, L3368, L3369, Y3373, rk3374, rk3375⟩ := hA
     replace L3366 : Lb F3156 f3376 τ3378 m130 1 m.nxt 1 [(.fn (.yield ly) [] [])] := L3366
     replace L3367 : Lb F3156 f3376 τ3378 m130 3 m7.nxt 1 [(.int .i64 a3091)] := L3367
     replace L3368 : Lb F3156 f3376 τ3378 m130 5 m20.nxt 1 [(.int .i64 a3152)] := L3368
     replace L3369 : Lb F3156 f3376 τ3378 m130 6 (m26.nxt + 0) 13 [(.int .i64 w3222.d0), (.int .i64 w3222.d1), (.int .i64 w3222.d2), (.int .i64 w3222.d3), (.int .i64 w3222.d4), (.int .i64 w3222.d5), (.int .i64 w3222.d6), (.int .i64 w3222.d7), (.int .i64 w3222.d8), (.int .i64 w3222.d9), (.int .i64 w3222.d10), (.int .i64 w3222.d11), (.int .i64 w3222.d12)] := L3369
     replace Y3373 : Yg n0 (YJ xs I r3370) s3371 F3156 f3376 τ3378 m130 := Y3373
     replace rk3374 : Rk F3156 f3376 τ3378 m130 2 (m4).nxt o3124 := rk3374
     replace rk3375 : Rk F3156 f3376 τ3378 m130 4 (m17).nxt o3189 := rk3375
     exact hk3165 .ret (r3370, s3371, false) _ _ _ _ S3379 ⟨L3366, L3367, Y3373, rk3374⟩ rk3375 hO3190 (.inr ⟨rfl, rfl, hp⟩)
  ·intro st f3437 τ3439 m131 S3440 s3438 hA hp
   obtain ⟨r3143, s3144, d3145⟩ := st
   obtain ⟨hdd, hp⟩ := hp
   replace hdd : d3145 = false := hdd
   subst hdd
   replace hp : pchoicesI_L1 fl w a3091 ((pchoicesI_L0 fl w q3092)) [] = some r3143 := hp
   obtain ⟨L3141, L3142, Y3146, rk3147⟩ := hA
   replace L3141 : Lb F3095 f3437 τ3439 m131 1 m.nxt 1 [(.fn (.yield ly) [] [])] := L3141
   replace L3142 : Lb F3095 f3437 τ3439 m131 3 m7.nxt 1 [(.int .i64 a3091)] := L3142
   replace Y3146 : Yg n0 (YJ xs I r3143) s3144 F3095 f3437 τ3439 m131 := Y3146
   replace rk3147 : Rk F3095 f3437 τ3439 m131 2 (m4).nxt o3124 := rk3147
   rw [pchoicesI_L1] at hp
   exact hk3104 .nrm (r3143, s3144, false) _ _ _ _ S3440 ⟨L3141, Y3146⟩ rk3147 hO3125 ⟨rfl, hp⟩
  ·intro id st _ _ _ _ _ _ hn; first | exact hn.elim | (cases hn)
  ·intro st f3148 τ3150 m132 S3151 s3149 hA hn
   obtain ⟨r3143, s3144, d3145⟩ := st
   rcases hn with hd | ⟨hd, hid, hp⟩
   ·replace hd : d3145 = true := hd
    subst hd
    obtain ⟨L3141, L3142, Y3146, rk3147⟩ := hA
    replace L3141 : Lb F3095 f3148 τ3150 m132 1 m.nxt 1 [(.fn (.yield ly) [] [])] := L3141
    replace L3142 : Lb F3095 f3148 τ3150 m132 3 m7.nxt 1 [(.int .i64 a3091)] := L3142
    replace Y3146 : Yg n0 E s3144 F3095 f3148 τ3150 m132 := Y3146
    replace rk3147 : Rk F3095 f3148 τ3150 m132 2 (m4).nxt o3124 := rk3147
    exact hk3104 .ret ([], s3144, true) _ _ _ _ S3151 ⟨L3141, Y3146⟩ rk3147 hO3125 (.inl rfl)
   replace hd : d3145 = false := hd
   subst hd
   replace hp : pchoicesI_L1_xret = some r3143 := hp
   unfold pchoicesI_L1_xret at hp
   obtain ⟨L3141, L3142, Y3146, rk3147⟩ := hA
   replace L3141 : Lb F3095 f3148 τ3150 m132 1 m.nxt 1 [(.fn (.yield ly) [] [])] := L3141
   replace L3142 : Lb F3095 f3148 τ3150 m132 3 m7.nxt 1 [(.int .i64 a3091)] := L3142
   replace Y3146 : Yg n0 (YJ xs I r3143) s3144 F3095 f3148 τ3150 m132 := Y3146
   replace rk3147 : Rk F3095 f3148 τ3150 m132 2 (m4).nxt o3124 := rk3147
   exact hk3104 .ret (r3143, s3144, false) _ _ _ _ S3151 ⟨L3141, Y3146⟩ rk3147 hO3125 (.inr ⟨rfl, rfl, hp⟩)
 ·intro st f3441 τ3443 m133 S3444 s3442 hA hp
  obtain ⟨r3083, s3084, d3085⟩ := st
  obtain ⟨hdd, hp⟩ := hp
  replace hdd : d3085 = false := hdd
  subst hdd
  replace hp : pchoicesI_L0 fl w [] = some r3083 := hp
  obtain ⟨L3082, Y3086⟩ := hA
  replace L3082 : Lb F f3441 τ3443 m133 1 m.nxt 1 [(.fn (.yield ly) [] [])] := L3082
  replace Y3086 : Yg n0 (YJ xs I r3083) s3084 F f3441 τ3443 m133 := Y3086
  rw [pchoicesI_L0] at hp
  obtain rfl := Option.some.inj hp
  exact hq _ _ _ _ _ S3444 (.inl Y3086)
 ·intro id st _ _ _ _ _ _ hn; first | exact hn.elim | (cases hn)
 ·intro st f3087 τ3089 m134 S3090 s3088 hA hn
  obtain ⟨r3083, s3084, d3085⟩ := st
  rcases hn with hd | ⟨hd, hid, hp⟩
  ·replace hd : d3085 = true := hd
   subst hd
   obtain ⟨L3082, Y3086⟩ := hA
   replace L3082 : Lb F f3087 τ3089 m134 1 m.nxt 1 [(.fn (.yield ly) [] [])] := L3082
   replace Y3086 : Yg n0 E s3084 F f3087 τ3089 m134 := Y3086
   exact hq _ _ _ _ _ S3090 (.inr Y3086)
  replace hd : d3085 = false := hd
  subst hd
  replace hp : pchoicesI_L0_xret = some r3083 := hp
  unfold pchoicesI_L0_xret at hp
  obtain ⟨L3082, Y3086⟩ := hA
  replace L3082 : Lb F f3087 τ3089 m134 1 m.nxt 1 [(.fn (.yield ly) [] [])] := L3082
  replace Y3086 : Yg n0 (YJ xs I r3083) s3084 F f3087 τ3089 m134 := Y3086
  obtain rfl := Option.some.inj hp
  exact hq _ _ _ _ _ S3090 (.inl Y3086)
theorem s_choices {w : Wk} {fl : Fld} {ca101 ca102 ca103 ca104 : C} {m f : M} {Q : V → M → Prop} {rz : List Crs} (hS : Pre f m) (ha101 : Sl f ca101 w.s.Rules) (ha102 : Sl f ca102 w.s.Fields) (ha103 : Sl f ca103 w.s.Visits) (ha104 : Mi f ca104 w.damages) (hp : pchoices w fl = some rz) (hq : ∀ m' f' c0, Grw m f m' f' → It prog tbl f' c0 rz → Q (.c c0) m') : Wc prog tbl 120 [.agg 5 [(Il w.s.Last), ca101, ca102, ca103, ca104], .agg 7 [(Il fl.Crop), (Il fl.Week.Lo), (Il fl.Week.Hi), (Il fl.Damage.Lo), (Il fl.Damage.Hi), (Il fl.Old.Lo), (Il fl.Old.Hi)]] m Q := by
 have J := hS.st
 obtain ⟨N, _⟩ : ∃ τ : Nat → Nat, True := ⟨fun _ => 0, trivial⟩
 refine w120 ?_
 unfold pchoices at hp
 intro B j
 obtain ⟨l, n, D, o⟩ := J.blk j N 1
 intro O p
 obtain ⟨F, q, r, t⟩ := n.blk p l 2
 have u := o.k r
 obtain ⟨G, x, a, g⟩ := t.freeze q
 have y := u.k a
 obtain ⟨e, d, b, h⟩ := y.freeze x
 obtain ⟨z, A, hp⟩ := bsome hp
 have i : It prog tbl e ((C.fn (Fn.func 137) [] [(W.c (C0.ptr B.nxt 0)), (W.c (C0.ptr m.nxt 0))])) z := it_of d.fz d.fv fun P ly I E hc O S T Y hS hY Q hq => s_choicesI hc hS hY (g.sub b.fs) h (ha101.sub (Sub.trans a.fs b.fs)) (ha102.sub (Sub.trans a.fs b.fs)) (ha103.sub (Sub.trans a.fs b.fs)) (ha104.sub (Sub.trans a.fs b.fs)) A hq
 obtain rfl := Option.some.inj hp
 exact hq _ e (C.fn (Fn.func 137) [] [(W.c (C0.ptr B.nxt 0)), (W.c (C0.ptr m.nxt 0))]) d.grw i
theorem s_truthsI {w : Wk} {b0 : Nat} {field : Int} {b1 : Nat} {cb001 cb002 cb003 cb004 : C} {m f : M} {F : Fm} {n0 ly : Nat} {xs : List (List V)} {I : Nat → (Nat → Prop) → M → Prop} {E : (Nat → Prop) → M → Prop} {S1 : Nat → Prop} {Q : V → M → Prop} {rz : List Crs} {τ0 : Nat → Nat} (hc : Client prog tbl n0 ly xs I E) (S0 : St F f f m) (Y0 : Yg n0 (YJ xs I rz) S1 F f τ0 m) (hb0 : Bk f b0 5 [(.int .i64 w.s.Last), cb001, cb002, cb003, cb004]) (hb001 : Sl f cb001 w.s.Rules) (hb002 : Sl f cb002 w.s.Fields) (hb003 : Sl f cb003 w.s.Visits) (hb004 : Mi f cb004 w.damages) (hb1 : Bk f b1 1 [(.int .i64 field)]) (hp : ptruthsI w field = some rz) (hq : ∀ v m' f' τ' S', St F f f' m' → (Yg n0 (YJ xs I ([] : List Crs)) S' F f' τ' m' ∨ Yg n0 E S' F f' τ' m') → Q v m') : Wc prog tbl 119 [.c (.fn (.yield ly) [] []), .c (.ptr b0 0), .c (.ptr b1 0)] m Q := by
 refine c119 ?_
 unfold ptruthsI at hp
 intro m0 e3468
 obtain ⟨τ3471, S3469, k3470, L3472⟩ := S0.blk e3468 τ0 1
 have Y3473 := Y0.k k3470 (by decide)
 refine ⟨_, _, _, _, _, (hb0.sub S3469.sub).ra, trivial, trivial, _, (hb0.sub S3469.sub).rc rfl, _, (hb1.sub S3469.sub).rc rfl, ?_⟩
 obtain ⟨v3474, g3475, hp⟩ := bsome hp
 obtain ⟨n8, g3475i, g3475l, g3475⟩ := idx_some g3475
 obtain ⟨_, r3476⟩ := rd_Fld hb002 g3475
 refine ⟨n8, g3475i, (by first | exact g3475l | (rw [hb002.slLen]; exact g3475l)), _, _, _, _, _, _, _, (r3476 _ S3469.sub).1, ?_⟩
 obtain ⟨r3477, g3478, hp⟩ := bsome hp
 refine s_choices (w := w) (fl := v3474) S3469.pre hb001 hb002 hb003 hb004 g3478 fun m17 f3482 c3483 e3481 h3484 => ?_
 obtain ⟨S3479, k3480⟩ := S3469.callG e3481 τ3471
 have L3485 := L3472.k k3480 (by decide)
 have Y3486 := Y3473.k k3480 (by decide)
 refine ⟨_, rfl, ?_⟩
 refine range_st (α := Crs) S3479 h3484 (σ := (List Crs) × (Nat → Prop) × Bool) 2 (fun st bb => (False ∨ (st.2.1 bb))) (fun st gG gF gT gM => (Lb gG gF gT gM 1 m.nxt 1 [(.fn (.yield ly) [] [])]) ∧ (Yg n0 (YD xs I E st.2.2 st.1) st.2.1 gG gF gT gM)) (fun rr_ st => st.2.2 = false ∧ ptruthsI_L0 w field rr_ = some st.1) (fun ex st => (match ex with | .ret => st.2.2 = true ∨ (st.2.2 = false ∧ (0 : Nat) = 0 ∧ ptruthsI_L0_xret = some st.1) | _ => False)) (fun st => (Gud.and (Gud.lb L3485.bk.lt (by decide)) (Gud.yg Y3486.n (by decide)))) (st0 := (rz, S1, false)) (τ := τ3471) ⟨L3485, Y3486⟩ ⟨rfl, hp⟩ ?_ ?_ ?_ ?_
 ·intro a3496 q3497 st f3498 τ3499 m20 F3500 o3501 Ok3502 en3503 Kn3504 S3505 s3506 hA rk3507 hp he3508 hk3509
  obtain ⟨r3488, s3489, d3490⟩ := st
  obtain ⟨hdd, hp⟩ := hp
  replace hdd : d3490 = false := hdd
  subst hdd
  obtain ⟨L3487, Y3491⟩ := hA
  replace L3487 : Lb F3500 f3498 τ3499 m20 1 m.nxt 1 [(.fn (.yield ly) [] [])] := L3487
  replace Y3491 : Yg n0 (YJ xs I r3488) s3489 F3500 f3498 τ3499 m20 := Y3491
  replace hp : ptruthsI_L0 w field (a3496 :: q3497) = some r3488 := hp
  rw [ptruthsI_L0] at hp
  refine ⟨_, _, _, _, _, _, _, _, _, _, _, _, _, _, _, _, rfl, ?_⟩
  intro m39 e3510
  obtain ⟨τ3513, S3511, k3512, L3514⟩ := S3505.blk e3510 τ3499 3
  have L3515 := L3487.k k3512 (by decide)
  have Y3516 := Y3491.k k3512 (by decide)
  have rk3517 := rk3507.k k3512 (by decide)
  obtain ⟨m3521, e3520, S3518, k3519, L3522⟩ := L3514.sto S3511 [(.int .i64 a3496.t.Week), (.int .i64 a3496.t.Damage), (.int .i64 a3496.t.Old), (.int .i64 a3496.d.d0), (.int .i64 a3496.d.d1), (.int .i64 a3496.d.d2), (.int .i64 a3496.d.d3), (.int .i64 a3496.d.d4), (.int .i64 a3496.d.d5), (.int .i64 a3496.d.d6), (.int .i64 a3496.d.d7), (.int .i64 a3496.d.d8), (.int .i64 a3496.d.d9), (.int .i64 a3496.d.d10), (.int .i64 a3496.d.d11), (.int .i64 a3496.d.d12)]
  have L3523 := L3515.k k3519 (by decide)
  have Y3524 := Y3516.k k3519 (by decide)
  have rk3525 := rk3517.k k3519 (by decide)
  refine ⟨m3521, e3520, ?_⟩
  refine he3508 _ _ _ _ S3518 rk3525 fun m41 o3529 S3526 k3527 rk3528 hO3530 => ?_
  have L3531 := L3523.k k3527 (by decide)
  have L3532 := L3522.k k3527 (by decide)
  have Y3533 := Y3524.k k3527 (by decide)
  refine ⟨trivial, _, _, _, _, (hb0.sub (Sub.trans (Sub.trans k3480.fs s3506) S3526.sub)).rp (k := 0) (j := 4) rfl (by omega), _, (hb1.sub (Sub.trans (Sub.trans k3480.fs s3506) S3526.sub)).rc rfl, _, _, _, _, _, _, _, _, _, _, _, _, _, _, _, _, L3532.bk.ra, ?_⟩
  obtain ⟨r3534, g3535, hp⟩ := bsome hp
  refine s_allows (s := w.s) (field := field) (c := a3496) S3526.pre (hb001.sub (Sub.trans k3480.fs s3506)) (hb002.sub (Sub.trans k3480.fs s3506)) (hb003.sub (Sub.trans k3480.fs s3506)) g3535 fun m64 e3538 => ?_
  obtain ⟨S3536, k3537⟩ := S3526.call e3538 τ3513
  have L3539 := L3531.k k3537 (by decide)
  have L3540 := L3532.k k3537 (by decide)
  have Y3541 := Y3533.k k3537 (by decide)
  have rk3542 := rk3528.k k3537 (by decide)
  refine ⟨_, rfl, ?_⟩
  refine ifbb hp (fun q3543 hp => ?_) fun q3543 hp => ?_; rotate_left
  ·exact hk3509 .nrm (r3488, s3489, false) _ _ _ _ S3536 ⟨L3539, Y3541⟩ rk3542 hO3530 ⟨rfl, hp⟩
  refine ⟨_, L3539.bk.rc rfl, _, _, _, _, _, _, _, _, _, _, _, _, _, _, _, _, L3540.bk.ra, ?_⟩
  obtain ⟨r3544, hp3546, hz3545⟩ := bsome hp
  clear hp
  obtain rfl := Option.some.inj hz3545
  have hp := hp3546
  show Wy prog tbl ly (IV.encs (a3496 : Crs)) _ _
  refine Yg.yield hc S3536 Y3541 ?_ ?_
  ·intro m84 τ3547 s3551 S3548 k3549 Y3550
   have L3552 := L3539.k k3549 (by decide)
   have L3553 := L3540.k k3549 (by decide)
   have rk3554 := rk3542.k k3549 (by decide)
   refine ⟨_, rfl, ?_⟩
   refine ifB_f' ?_
   exact hk3509 .nrm (r3544, s3551, false) _ _ _ _ S3548 ⟨L3552, Y3550⟩ rk3554 hO3530 ⟨rfl, hp⟩
  ·intro m84 τ3555 s3559 S3556 k3557 Y3558
   have L3560 := L3539.k k3557 (by decide)
   have L3561 := L3540.k k3557 (by decide)
   have rk3562 := rk3542.k k3557 (by decide)
   refine ⟨_, rfl, ?_⟩
   refine ifB_t' ?_
   exact hk3509 .ret ([], s3559, true) _ _ _ _ S3556 ⟨L3560, Y3558⟩ rk3562 hO3530 (.inl rfl)
 ·intro st f3563 τ3565 m86 S3566 s3564 hA hp
  obtain ⟨r3488, s3489, d3490⟩ := st
  obtain ⟨hdd, hp⟩ := hp
  replace hdd : d3490 = false := hdd
  subst hdd
  replace hp : ptruthsI_L0 w field [] = some r3488 := hp
  obtain ⟨L3487, Y3491⟩ := hA
  replace L3487 : Lb F f3563 τ3565 m86 1 m.nxt 1 [(.fn (.yield ly) [] [])] := L3487
  replace Y3491 : Yg n0 (YJ xs I r3488) s3489 F f3563 τ3565 m86 := Y3491
  rw [ptruthsI_L0] at hp
  obtain rfl := Option.some.inj hp
  exact hq _ _ _ _ _ S3566 (.inl Y3491)
 ·intro id st _ _ _ _ _ _ hn; first | exact hn.elim | (cases hn)
 ·intro st f3492 τ3494 m87 S3495 s3493 hA hn
  obtain ⟨r3488, s3489, d3490⟩ := st
  rcases hn with hd | ⟨hd, hid, hp⟩
  ·replace hd : d3490 = true := hd
   subst hd
   obtain ⟨L3487, Y3491⟩ := hA
   replace L3487 : Lb F f3492 τ3494 m87 1 m.nxt 1 [(.fn (.yield ly) [] [])] := L3487
   replace Y3491 : Yg n0 E s3489 F f3492 τ3494 m87 := Y3491
   exact hq _ _ _ _ _ S3495 (.inr Y3491)
  replace hd : d3490 = false := hd
  subst hd
  replace hp : ptruthsI_L0_xret = some r3488 := hp
  unfold ptruthsI_L0_xret at hp
  obtain ⟨L3487, Y3491⟩ := hA
  replace L3487 : Lb F f3492 τ3494 m87 1 m.nxt 1 [(.fn (.yield ly) [] [])] := L3487
  replace Y3491 : Yg n0 (YJ xs I r3488) s3489 F f3492 τ3494 m87 := Y3491
  obtain rfl := Option.some.inj hp
  exact hq _ _ _ _ _ S3495 (.inl Y3491)
theorem s_truths {w : Wk} {field : Int} {ca101 ca102 ca103 ca104 : C} {m f : M} {Q : V → M → Prop} {rz : List Crs} (hS : Pre f m) (ha101 : Sl f ca101 w.s.Rules) (ha102 : Sl f ca102 w.s.Fields) (ha103 : Sl f ca103 w.s.Visits) (ha104 : Mi f ca104 w.damages) (hp : ptruths w field = some rz) (hq : ∀ m' f' c0, Grw m f m' f' → It prog tbl f' c0 rz → Q (.c c0) m') : Wc prog tbl 79 [.agg 5 [(Il w.s.Last), ca101, ca102, ca103, ca104], .c (Il field)] m Q := by
 have J := hS.st
 obtain ⟨N, _⟩ : ∃ τ : Nat → Nat, True := ⟨fun _ => 0, trivial⟩
 refine w79 ?_
 unfold ptruths at hp
 intro B j
 obtain ⟨l, n, D, o⟩ := J.blk j N 1
 intro O p
 obtain ⟨F, q, r, t⟩ := n.blk p l 2
 have u := o.k r
 obtain ⟨G, x, a, g⟩ := u.freeze q
 have y := t.k a
 obtain ⟨e, d, b, h⟩ := y.freeze x
 obtain ⟨z, A, hp⟩ := bsome hp
 have i : It prog tbl e ((C.fn (Fn.func 119) [] [(W.c (C0.ptr m.nxt 0)), (W.c (C0.ptr B.nxt 0))])) z := it_of d.fz d.fv fun P ly I E hc O S T Y hS hY Q hq => s_truthsI hc hS hY (g.sub b.fs) (ha101.sub (Sub.trans a.fs b.fs)) (ha102.sub (Sub.trans a.fs b.fs)) (ha103.sub (Sub.trans a.fs b.fs)) (ha104.sub (Sub.trans a.fs b.fs)) h A hq
 obtain rfl := Option.some.inj hp
 exact hq _ e (C.fn (Fn.func 119) [] [(W.c (C0.ptr m.nxt 0)), (W.c (C0.ptr B.nxt 0))]) d.grw i
theorem s_hasTruthOf {w : Wk} {field : Int} {ca101 ca102 ca103 ca104 : C} {m f : M} {Q : V → M → Prop} {rz : Bool} (hS : Pre f m) (ha101 : Sl f ca101 w.s.Rules) (ha102 : Sl f ca102 w.s.Fields) (ha103 : Sl f ca103 w.s.Visits) (ha104 : Mi f ca104 w.damages) (hp : phasTruthOf w field = some rz) (hq : ∀ m', Ext m m' → Q (.c (.bool rz)) m') : Wc prog tbl 126 [.agg 5 [(Il w.s.Last), ca101, ca102, ca103, ca104], .c (Il field)] m Q := by
 have S0 := hS.st
 obtain ⟨τ0, _⟩ : ∃ τ : Nat → Nat, True := ⟨fun _ => 0, trivial⟩
 refine w126 ?_
 unfold phasTruthOf at hp
 intro I J
 obtain ⟨N, O, Ba, P⟩ := S0.blk J τ0 1
 intro m1 S
 obtain ⟨e, g, T, Y⟩ := O.blk S N 2
 have h := P.k T
 refine ⟨_, _, _, _, _, h.bk.ra, ?_⟩
 obtain ⟨Ca, Z, hp⟩ := bsome hp
 refine s_truths (w := w) (field := field) g.pre ha101 ha102 ha103 ha104 Z fun m8 Da Ea aa ba => ?_
 obtain ⟨ca, i⟩ := g.callG aa e
 have j := h.k i
 have l := Y.k i
 refine ⟨_, rfl, ?_⟩
 refine range_st (α := Crs) ca ba (σ := Bool) 3 (fun st bb => (False ∨ False)) (fun st gG gF gT gM => (Lb gG gF gT gM 1 m.nxt 5 [(Il w.s.Last), ca101, ca102, ca103, ca104]) ∧ (Lb gG gF gT gM 2 I.nxt 1 [(.bool st)])) (fun rr_ st => phasTruthOf_L0 rr_ st = some rz) (fun ex st => (match ex with | .ret => (0 : Nat) = 0 ∧ phasTruthOf_L0_xret st = some rz | _ => False)) (fun st => (Gud.and (Gud.lb j.bk.lt (by decide)) (Gud.lb l.bk.lt (by decide)))) (st0 := (false)) (τ := e) ⟨j, l⟩ hp ?_ ?_ ?_ ?_
 ·intro da ea d n o va p Fa ya za Aa fa Ga hA z hp A B
  obtain ⟨b, a⟩ := hA
  replace b : Lb p n o va 1 m.nxt 5 [(Il w.s.Last), ca101, ca102, ca103, ca104] := b
  replace a : Lb p n o va 2 I.nxt 1 [(.bool d)] := a
  replace hp : phasTruthOf_L0 (da :: ea) d = some rz := hp
  rw [phasTruthOf_L0] at hp
  refine ⟨_, _, _, _, _, _, _, _, _, _, _, _, _, _, _, _, rfl, ?_⟩
  refine A _ _ _ _ fa z fun Na Ha ga q D F => ?_
  have ha := b.k q
  have ia := a.k q
  obtain ⟨ja, ka, la, r, ma⟩ := ia.sto ga [(.bool true)]
  have na := ha.k r
  have G := D.k r
  refine ⟨ja, ka, ?_⟩
  exact B .ret (true) _ _ _ _ la ⟨na, ma⟩ G F ⟨rfl, hp⟩
 ·intro d t u wa oa Ia hA hp
  replace hp : phasTruthOf_L0 [] d = some rz := hp
  obtain ⟨b, a⟩ := hA
  replace b : Lb (Fm.of m) t u wa 1 m.nxt 5 [(Il w.s.Last), ca101, ca102, ca103, ca104] := b
  replace a : Lb (Fm.of m) t u wa 2 I.nxt 1 [(.bool d)] := a
  rw [phasTruthOf_L0] at hp
  obtain ⟨pa, qa, sa, Ja, ta⟩ := a.sto oa [(.bool false)]
  refine ⟨pa, qa, ?_⟩
  refine ⟨_, ta.bk.rc rfl, ?_⟩
  obtain rfl := Option.some.inj hp
  exact hq _ sa.ext'
 ·intro id st _ _ _ _ _ _ hn; first | exact hn.elim | (cases hn)
 ·intro d x y xa ua Ka hA hn
  obtain ⟨hid, hp⟩ := hn
  replace hp : phasTruthOf_L0_xret d = some rz := hp
  unfold phasTruthOf_L0_xret at hp
  obtain ⟨b, a⟩ := hA
  replace b : Lb (Fm.of m) x y xa 1 m.nxt 5 [(Il w.s.Last), ca101, ca102, ca103, ca104] := b
  replace a : Lb (Fm.of m) x y xa 2 I.nxt 1 [(.bool d)] := a
  refine ⟨_, a.bk.rc rfl, ?_⟩
  obtain rfl := Option.some.inj hp
  exact hq _ ua.ext'
theorem s_hasTruth {w : Wk} {ca101 ca102 ca103 ca104 : C} {m f : M} {Q : V → M → Prop} {rz : Bool} (hS : Pre f m) (ha101 : Sl f ca101 w.s.Rules) (ha102 : Sl f ca102 w.s.Fields) (ha103 : Sl f ca103 w.s.Visits) (ha104 : Mi f ca104 w.damages) (hp : phasTruth w = some rz) (hq : ∀ m', Ext m m' → Q (.c (.bool rz)) m') : Wc prog tbl 92 [.agg 5 [(Il w.s.Last), ca101, ca102, ca103, ca104]] m Q := by
 have F := hS.st
 obtain ⟨G, _⟩ : ∃ τ : Nat → Nat, True := ⟨fun _ => 0, trivial⟩
 refine w92 ?_
 unfold phasTruth at hp
 intro N j
 obtain ⟨l, n, B, a⟩ := F.blk j G 1
 refine ⟨trivial, trivial, _, a.bk.rc rfl, ha102.isSl, ?_⟩
 intro I A
 have hgo : ∀ (d : Nat) (y : Bool) (h : Int) (i : M) (b : Nat → Nat), St (Fm.of m) f f i → Lb (Fm.of m) f b i 1 m.nxt 5 [(Il w.s.Last), ca101, ca102, ca103, ca104] → phasTruth_L0 w d h = some rz → I [.c (.bool y), .c (Il h)] i := by
  intro d
  induction d with
  | zero => intro y h i b e a hp; cases hp
  | succ d z =>
   intro y h i b e a hp
   refine A _ _ _ ?_
   rw [phasTruth_L0] at hp
   try rw [ha102.slLen]
   refine ifd hp (fun o hp => ?_) fun o hp => ?_; rotate_left
   ·obtain rfl := Option.some.inj hp
    exact hq _ e.ext'
   refine ⟨_, _, _, _, _, a.bk.ra, ?_⟩
   obtain ⟨D, p, hp⟩ := bsome hp
   refine s_hasTruthOf (w := w) (field := h) e.pre ha101 ha102 ha103 ha104 p fun J q => ?_
   obtain ⟨g, r⟩ := e.call q b
   have t := a.k r
   refine ⟨_, rfl, ?_⟩
   refine ifnb hp (fun u hp => ?_) fun u hp => ?_
   ·obtain rfl := Option.some.inj hp
    exact hq _ g.ext'
   refine gdi hp fun x hp => ?_
   exact z _ _ _ b g t hp
 exact hgo _ _ _ _ l n a hp
theorem s_openTrue {s : Ssn} {ca101 ca102 ca103 : C} {m f : M} {Q : V → M → Prop} {rz : Wk × Int} (hS : Pre f m) (ha101 : Sl f ca101 s.Rules) (ha102 : Sl f ca102 s.Fields) (ha103 : Sl f ca103 s.Visits) (hp : popenTrue s = some rz) (hq : ∀ m' f' c1 c2 c3 c4, Grw m f m' f' → Sl f' c1 rz.1.s.Rules → Sl f' c2 rz.1.s.Fields → Sl f' c3 rz.1.s.Visits → Mi f' c4 rz.1.damages → Q (.tup [.agg 5 [(Il rz.1.s.Last), c1, c2, c3, c4], .c (Il rz.2)]) m') : Wc prog tbl 58 [.agg 4 [(Il s.Last), ca101, ca102, ca103]] m Q := by
 have S0 := hS.st
 obtain ⟨τ0, _⟩ : ∃ τ : Nat → Nat, True := ⟨fun _ => 0, trivial⟩
 refine w58 ?_
 unfold popenTrue at hp
 intro m0 D
 obtain ⟨F, G, Fa, I⟩ := S0.blk D τ0 1
 intro m1 J
 obtain ⟨a, j, N, O⟩ := G.blk J F 2
 have l := I.k N
 refine ⟨_, _, _, _, l.bk.ra, ?_⟩
 obtain ⟨Ga, P, hp⟩ := bsome hp
 refine s_check (s := s) j.pre ha101 ha102 ha103 P fun m7 S => ?_
 obtain ⟨b, n⟩ := j.call S a
 have T := l.k n
 have o := O.k n
 refine ⟨_, rfl, ?_⟩
 refine ifnd hp (fun Y hp => ?_) fun Y hp => ?_
 ·obtain ⟨Z, aa, ba, Ha, ca⟩ := o.sto b [(Il 0), .sl0, .sl0, .sl0, C.map0]
  refine ⟨Z, aa, ?_⟩
  refine ⟨_, _, _, _, _, ca.bk.ra, ?_⟩
  obtain rfl := Option.some.inj hp
  exact hq _ f .sl0 .sl0 .sl0 C.map0 ba.grw (Sl.nil _) (Sl.nil _) (Sl.nil _) (show Mi _ .map0 none from rfl)
 refine ⟨_, _, _, _, T.bk.ra, ?_⟩
 obtain ⟨d, da, hp⟩ := bsome hp
 refine s_open (s := s) b.pre ha101 ha102 ha103 da fun Na p e g h i ea q r t u => ?_
 obtain ⟨fa, ga⟩ := b.callG ea a
 have ha := o.k ga
 refine ⟨_, _, _, _, _, rfl, ?_⟩
 intro Oa ia
 obtain ⟨ja, ka, la, ma⟩ := fa.blk ia a 3
 have na := ha.k la
 obtain ⟨oa, pa, x, qa, y⟩ := ma.sto ka [(Il d.s.Last), e, g, h, i]
 have sa := na.k qa
 refine ⟨oa, pa, ?_⟩
 refine ⟨_, _, _, _, _, y.bk.ra, ?_⟩
 obtain ⟨Ia, ta, hp⟩ := bsome hp
 refine s_hasTruth (w := d) x.pre q r t u ta fun Pa ua => ?_
 obtain ⟨z, A⟩ := x.call ua ja
 have B := sa.k A
 have va := y.k A
 refine ⟨_, rfl, ?_⟩
 refine ifnb hp (fun wa hp => ?_) fun wa hp => ?_
 ·obtain ⟨xa, ya, za, Ja, Aa⟩ := B.sto z [(Il 0), .sl0, .sl0, .sl0, C.map0]
  refine ⟨xa, ya, ?_⟩
  refine ⟨_, _, _, _, _, Aa.bk.ra, ?_⟩
  obtain rfl := Option.some.inj hp
  exact hq _ p .sl0 .sl0 .sl0 C.map0 za.grw (Sl.nil _) (Sl.nil _) (Sl.nil _) (show Mi _ .map0 none from rfl)
 refine ⟨_, _, _, _, _, va.bk.ra, ?_⟩
 obtain ⟨Ba, Ca, Da, Ka, Ea⟩ := B.sto z [(Il d.s.Last), e, g, h, i]
 refine ⟨Ba, Ca, ?_⟩
 refine ⟨_, _, _, _, _, Ea.bk.ra, ?_⟩
 obtain rfl := Option.some.inj hp
 exact hq _ p e g h i Da.grw q r t u
theorem s_openAsked {s : Ssn} {field : Int} {known : Bool} {ca101 ca102 ca103 : C} {m f : M} {Q : V → M → Prop} {rz : Wk × Int} (hS : Pre f m) (ha101 : Sl f ca101 s.Rules) (ha102 : Sl f ca102 s.Fields) (ha103 : Sl f ca103 s.Visits) (hp : popenAsked s field known = some rz) (hq : ∀ m' f' c1 c2 c3 c4, Grw m f m' f' → Sl f' c1 rz.1.s.Rules → Sl f' c2 rz.1.s.Fields → Sl f' c3 rz.1.s.Visits → Mi f' c4 rz.1.damages → Q (.tup [.agg 5 [(Il rz.1.s.Last), c1, c2, c3, c4], .c (Il rz.2)]) m') : Wc prog tbl 68 [.agg 4 [(Il s.Last), ca101, ca102, ca103], .c (Il field), .c (.bool known)] m Q := by
 have S0 := hS.st
 obtain ⟨τ0, _⟩ : ∃ τ : Nat → Nat, True := ⟨fun _ => 0, trivial⟩
 refine w68 ?_
 unfold popenAsked at hp
 intro m0 u
 obtain ⟨x, y, za, z⟩ := S0.blk u τ0 1
 intro m1 A
 obtain ⟨b, g, B, D⟩ := y.blk A x 2
 have h := z.k B
 refine ⟨_, _, _, _, h.bk.ra, ?_⟩
 obtain ⟨Aa, F, hp⟩ := bsome hp
 refine s_check (s := s) g.pre ha101 ha102 ha103 F fun m7 G => ?_
 obtain ⟨d, i⟩ := g.call G b
 have j := h.k i
 have l := D.k i
 refine ⟨_, rfl, ?_⟩
 refine ifnd hp (fun I hp => ?_) fun I hp => ?_
 ·obtain ⟨J, N, O, Ba, P⟩ := l.sto d [(Il 0), .sl0, .sl0, .sl0, C.map0]
  refine ⟨J, N, ?_⟩
  refine ⟨_, _, _, _, _, P.bk.ra, ?_⟩
  obtain rfl := Option.some.inj hp
  exact hq _ f .sl0 .sl0 .sl0 C.map0 O.grw (Sl.nil _) (Sl.nil _) (Sl.nil _) (show Mi _ .map0 none from rfl)
 refine ⟨_, _, _, _, j.bk.ra, ?_⟩
 obtain ⟨Ca, S, hp⟩ := bsome hp
 refine s_hasField (s := s) (n := field) d.pre ha101 ha102 ha103 S fun Ia T => ?_
 obtain ⟨a, o⟩ := d.call T b
 have Y := j.k o
 have e := l.k o
 refine ⟨_, rfl, ?_⟩
 refine ifnb hp (fun Z hp => ?_) fun Z hp => ?_
 ·obtain ⟨aa, ba, ca, Da, da⟩ := e.sto a [(Il 0), .sl0, .sl0, .sl0, C.map0]
  refine ⟨aa, ba, ?_⟩
  refine ⟨_, _, _, _, _, da.bk.ra, ?_⟩
  obtain rfl := Option.some.inj hp
  exact hq _ f .sl0 .sl0 .sl0 C.map0 ca.grw (Sl.nil _) (Sl.nil _) (Sl.nil _) (show Mi _ .map0 none from rfl)
 refine ifnb hp (fun ea hp => ?_) fun ea hp => ?_
 ·obtain ⟨fa, ga, ha, Ea, ia⟩ := e.sto a [(Il 0), .sl0, .sl0, .sl0, C.map0]
  refine ⟨fa, ga, ?_⟩
  refine ⟨_, _, _, _, _, ia.bk.ra, ?_⟩
  obtain rfl := Option.some.inj hp
  exact hq _ f .sl0 .sl0 .sl0 C.map0 ha.grw (Sl.nil _) (Sl.nil _) (Sl.nil _) (show Mi _ .map0 none from rfl)
 refine ⟨_, _, _, _, Y.bk.ra, ?_⟩
 obtain ⟨ja, ka, hp⟩ := bsome hp
 refine s_openTrue (s := s) a.pre ha101 ha102 ha103 ka fun Ja la p q r t ma na oa pa qa => ?_
 obtain ⟨sa, ta⟩ := a.callG ma b
 have ua := e.k ta
 refine ⟨_, _, _, _, _, _, rfl, ?_⟩
 obtain ⟨va, wa, xa, Fa, ya⟩ := ua.sto sa [(Il ja.1.s.Last), p, q, r, t]
 refine ⟨va, wa, ?_⟩
 refine ⟨_, _, _, _, _, ya.bk.ra, ?_⟩
 obtain rfl := Option.some.inj hp
 exact hq _ la p q r t xa.grw na oa pa qa
theorem s_appendSeq {seq : List Crs} {ca200 : C} {m f : M} {Q : V → M → Prop} {rz : List Crs} (hS : Pre f m) (ha200 : It prog tbl f ca200 seq) (hp : pappendSeq seq = some rz) (hq : ∀ m' f' c0, Grw m f m' f' → Sl f' c0 rz → Q (.c c0) m') : Wc prog tbl 118 [.c .sl0, .c ca200] m Q := by
 have S0 := hS.st
 obtain ⟨τ0, _⟩ : ∃ τ : Nat → Nat, True := ⟨fun _ => 0, trivial⟩
 refine w118 ?_
 unfold pappendSeq at hp
 intro m0 T
 obtain ⟨Y, Z, Ha, s⟩ := S0.blk T τ0 1
 refine range_st (α := Crs) Z ha200 (σ := (List Crs) × C) 2 (fun st bb => (False ∨ (ownBlk st.2 bb))) (fun st gG gF gT gM => (Lb gG gF gT gM 1 m.nxt 1 [st.2]) ∧ (Ow gG gF gT gM 3 st.2 st.1)) (fun rr_ st => pappendSeq_L0 rr_ st.1 = some rz) (fun ex st => False) (fun st => (Gud.and (Gud.lb s.bk.lt (by decide)) (Gud.ow (by decide)))) (st0 := ([], .sl0)) (τ := Y) ⟨s, (Ow.nil _ _ _ _ _)⟩ hp ?_ ?_ ?_ ?_
 ·intro b aa st j l m2 u Ia Ea Fa Ga ba Ja hA D hp F G
  obtain ⟨h, i⟩ := st
  obtain ⟨g, e⟩ := hA
  replace g : Lb u j l m2 1 m.nxt 1 [i] := g
  replace e : Ow u j l m2 3 i h := e
  replace hp : pappendSeq_L0 (b :: aa) h = some rz := hp
  rw [pappendSeq_L0] at hp
  refine ⟨_, _, _, _, _, _, _, _, _, _, _, _, _, _, _, _, rfl, ?_⟩
  intro Ra ca
  obtain ⟨Ka, da, n, ea⟩ := ba.blk ca l 4
  have fa := g.k n
  have e := e.k n
  have I := D.k n
  obtain ⟨ga, ha, ia, o, ja⟩ := ea.sto da [(Il b.t.Week), (Il b.t.Damage), (Il b.t.Old), (Il b.d.d0), (Il b.d.d1), (Il b.d.d2), (Il b.d.d3), (Il b.d.d4), (Il b.d.d5), (Il b.d.d6), (Il b.d.d7), (Il b.d.d8), (Il b.d.d9), (Il b.d.d10), (Il b.d.d11), (Il b.d.d12)]
  have ka := fa.k o
  have e := e.k o
  have J := I.k o
  refine ⟨ga, ha, ?_⟩
  refine F _ _ _ _ ia J fun Sa La la p N O => ?_
  have x := ka.k p
  have ma := ja.k p
  have e := e.k p
  refine ⟨_, x.bk.rc rfl, _, _, _, _, _, _, _, _, _, _, _, _, _, _, _, _, ma.bk.ra, ?_⟩
  obtain ⟨na, hp⟩ := gd_some hp
  intro Ta oa
  obtain ⟨q, pa, Ma, qa, sa, y, r⟩ := e.app' ta140 la (a := b) (show Rp.rep (α := Crs) j _ b from rfl) na oa
  have ta := x.k y
  have P := N.k y
  refine ⟨q, pa, qa, ?_⟩
  obtain ⟨ua, va, wa, z, xa⟩ := ta.sto sa [q]
  have r := r.k z
  have S := P.k z
  refine ⟨ua, va, ?_⟩
  exact G .nrm ((h ++ [b]), q) _ _ _ _ wa ⟨xa, r⟩ S O hp
 ·intro st A B Ca ya Na hA hp
  obtain ⟨h, i⟩ := st
  replace hp : pappendSeq_L0 [] h = some rz := hp
  obtain ⟨g, e⟩ := hA
  replace g : Lb (Fm.of m) A B Ca 1 m.nxt 1 [i] := g
  replace e : Ow (Fm.of m) A B Ca 3 i h := e
  rw [pappendSeq_L0] at hp
  refine ⟨_, g.bk.rc rfl, ?_⟩
  obtain ⟨za, Aa, Oa, Ba⟩ := e.freeze ya
  obtain rfl := Option.some.inj hp
  exact hq _ za i Aa.grw Ba
 ·intro id st _ _ _ _ _ _ hn; first | exact hn.elim | (cases hn)
 ·intro st _ _ _ _ _ _ hn; first | exact hn.elim | (cases hn)
theorem s_collect {seq : List Crs} {ca100 : C} {m f : M} {Q : V → M → Prop} {rz : List Crs} (hS : Pre f m) (ha100 : It prog tbl f ca100 seq) (hp : pcollect seq = some rz) (hq : ∀ m' f' c0, Grw m f m' f' → Sl f' c0 rz → Q (.c c0) m') : Wc prog tbl 78 [.c ca100] m Q := by
 have i := hS.st
 obtain ⟨n, _⟩ : ∃ τ : Nat → Nat, True := ⟨fun _ => 0, trivial⟩
 refine w78 ?_
 unfold pcollect at hp
 obtain ⟨j, a, hp⟩ := bsome hp
 refine s_appendSeq (seq := seq) i.pre ha100 a fun o b d e g => ?_
 obtain ⟨h, l⟩ := i.callG e n
 refine ⟨_, rfl, ?_⟩
 obtain rfl := Option.some.inj hp
 exact hq _ b d h.grw g
theorem s_outcomes {w : Wk} {field : Int} {ca101 ca102 ca103 ca104 : C} {m f : M} {Q : V → M → Prop} {rz : List Dm} (hS : Pre f m) (ha101 : Sl f ca101 w.s.Rules) (ha102 : Sl f ca102 w.s.Fields) (ha103 : Sl f ca103 w.s.Visits) (ha104 : Mi f ca104 w.damages) (hp : poutcomes w field = some rz) (hq : ∀ m' f' c0, Grw m f m' f' → Sl f' c0 rz → Q (.c c0) m') : Wc prog tbl 85 [.agg 5 [(Il w.s.Last), ca101, ca102, ca103, ca104], .c (Il field)] m Q := by
 have S0 := hS.st
 obtain ⟨τ0, _⟩ : ∃ τ : Nat → Nat, True := ⟨fun _ => 0, trivial⟩
 refine w85 ?_
 unfold poutcomes at hp
 intro m0 Na
 obtain ⟨Oa, Pa, qd, Qa⟩ := S0.blk Na τ0 1
 intro m1 Ra
 obtain ⟨Sa, Ta, Ua, Va⟩ := Pa.blk Ra Oa 2
 have Wa := Qa.k Ua
 intro m2 Xa
 obtain ⟨Ya, Za, sa, ab⟩ := Mo.new (K := Dm) (V' := Bool) Ta Xa Sa 3
 have cb := Wa.k sa
 have db := Va.k sa
 intro m3 eb
 obtain ⟨ta, fb, ia, gb⟩ := Za.blk eb Ya 4
 have hb := cb.k ia
 have ib := db.k ia
 have jb := ab.k ia
 obtain ⟨kb, mb, ua, ja, nb⟩ := gb.sto fb [(.map m1.nxt)]
 have va := hb.k ja
 have ob := ib.k ja
 have pb := jb.k ja
 refine ⟨kb, mb, ?_⟩
 refine ⟨_, _, _, _, _, va.bk.ra, ?_⟩
 obtain ⟨sd, qb, hp⟩ := bsome hp
 refine s_truths (w := w) (field := field) ua.pre ha101 ha102 ha103 ha104 qb fun Hd td ud rb sb => ?_
 obtain ⟨tb, ca⟩ := ua.callG rb ta
 have wa := va.k ca
 have xa := ob.k ca
 have ya := nb.k ca
 have za := pb.k ca
 refine ⟨_, rfl, ?_⟩
 refine range_st (α := Crs) tb sb (σ := (List Dm) × C × (Option (Dm → Option (Bool)))) 5 (fun st bb => (False ∨ (False ∨ ((ownBlk st.2.1 bb) ∨ (False ∨ False))))) (fun st gG gF gT gM => (Lb gG gF gT gM 1 m.nxt 5 [(Il w.s.Last), ca101, ca102, ca103, ca104]) ∧ (Lb gG gF gT gM 2 m0.nxt 1 [st.2.1]) ∧ (Ow gG gF gT gM 6 st.2.1 st.1) ∧ (Lb gG gF gT gM 4 m2.nxt 1 [(.map m1.nxt)]) ∧ (Mo gG gF gT gM 3 (.map m1.nxt) st.2.2)) (fun rr_ st => poutcomes_L0 rr_ st.1 st.2.2 = some rz) (fun ex st => False) (fun st => (Gud.and (Gud.lb wa.bk.lt (by decide)) (Gud.and (Gud.lb xa.bk.lt (by decide)) (Gud.and (Gud.ow (by decide)) (Gud.and (Gud.lb ya.bk.lt (by decide)) (Gud.mo za.lt (by decide))))))) (st0 := ([], .sl0, (some fun _ => none : Option (Dm → Option (Bool))))) (τ := ta) ⟨wa, xa, (Ow.nil _ _ _ _ _), ya, za⟩ hp ?_ ?_ ?_ ?_
 ·intro b ub st i o oa J vd nd od pd vb wd hA Ca hp Da ea
  obtain ⟨g, l, p⟩ := st
  obtain ⟨q, n, e, r, x⟩ := hA
  replace q : Lb J i o oa 1 m.nxt 5 [(Il w.s.Last), ca101, ca102, ca103, ca104] := q
  replace n : Lb J i o oa 2 m0.nxt 1 [l] := n
  replace e : Ow J i o oa 6 l g := e
  replace r : Lb J i o oa 4 m2.nxt 1 [(.map m1.nxt)] := r
  replace x : Mo J i o oa 3 (.map m1.nxt) p := x
  replace hp : poutcomes_L0 (b :: ub) g p = some rz := hp
  rw [poutcomes_L0] at hp
  refine ⟨_, _, _, _, _, _, _, _, _, _, _, _, _, _, _, _, rfl, ?_⟩
  intro Id wb
  obtain ⟨xd, xb, y, yb⟩ := vb.blk wb o 7
  have zb := q.k y
  have Ab := n.k y
  have Bb := r.k y
  have Cb := x.k y
  have e := e.k y
  have Ea := Ca.k y
  obtain ⟨Db, Eb, Fb, z, Gb⟩ := yb.sto xb [(Il b.t.Week), (Il b.t.Damage), (Il b.t.Old), (Il b.d.d0), (Il b.d.d1), (Il b.d.d2), (Il b.d.d3), (Il b.d.d4), (Il b.d.d5), (Il b.d.d6), (Il b.d.d7), (Il b.d.d8), (Il b.d.d9), (Il b.d.d10), (Il b.d.d11), (Il b.d.d12)]
  have Hb := zb.k z
  have Ib := Ab.k z
  have Jb := Bb.k z
  have Kb := Cb.k z
  have e := e.k z
  have Fa := Ea.k z
  refine ⟨Db, Eb, ?_⟩
  refine Da _ _ _ _ Fb Fa fun Jd yd ka A fa ga => ?_
  have la := Hb.k A
  have N := Ib.k A
  have O := Jb.k A
  have B := Gb.k A
  have da := Kb.k A
  have e := e.k A
  refine ⟨_, O.bk.rc rfl, trivial, _, _, _, _, _, _, _, _, _, _, _, _, _, B.bk.rp (k := 3) (j := 13) rfl (by omega), ?_⟩
  obtain ⟨Mb, hp⟩ := gd_some hp
  refine ⟨_, da.mi.lk kl128 (k := b.d) Mb rfl, ?_⟩
  cases pa : (mget p b.d) with
  | none =>
   rw [mcase_none pa] at hp
   refine ⟨fun _ => ?_, fun u hu => (by cases hu)⟩
   refine ⟨_, N.bk.rc rfl, trivial, _, _, _, _, _, _, _, _, _, _, _, _, _, B.bk.rp (k := 3) (j := 13) rfl (by omega), ?_⟩
   obtain ⟨Nb, hp⟩ := gd_some hp
   intro Ld Ob
   obtain ⟨ma, Pb, zd, Qb, Rb, D, P⟩ := e.app' ta148 ka (a := b.d) (show Rp.rep (α := Dm) i _ b.d from rfl) Nb Ob
   have Sb := la.k D
   have Tb := N.k D
   have Ub := O.k D
   have Vb := B.k D
   have Wb := da.k D
   have Ga := fa.k D
   refine ⟨ma, Pb, Qb, ?_⟩
   obtain ⟨Xb, Yb, Zb, F, ac⟩ := Tb.sto Rb [ma]
   have bc := Sb.k F
   have Aa := Ub.k F
   have cc := Vb.k F
   have dc := Wb.k F
   have P := P.k F
   have Ha := Ga.k F
   refine ⟨Xb, Yb, ?_⟩
   refine ⟨_, Aa.bk.rc rfl, trivial, _, _, _, _, _, _, _, _, _, _, _, _, _, cc.bk.rp (k := 3) (j := 13) rfl (by omega), ?_⟩
   obtain ⟨ec, hp⟩ := gd_some hp
   obtain ⟨fc, gc, hp⟩ := bsome hp
   obtain ⟨hc, ic, jc, S, kc⟩ := Mo.up kl128 Zb dc (k := b.d) ec (v := true) gc (kv := .agg 13 [(Il b.d.d0), (Il b.d.d1), (Il b.d.d2), (Il b.d.d3), (Il b.d.d4), (Il b.d.d5), (Il b.d.d6), (Il b.d.d7), (Il b.d.d8), (Il b.d.d9), (Il b.d.d10), (Il b.d.d11), (Il b.d.d12)]) (yv := .c (.bool true)) rfl rfl
   have lc := bc.k S
   have nc := ac.k S
   have oc := Aa.k S
   have P := P.k S
   have Ia := Ha.k S
   refine ⟨hc, ic, ?_⟩
   exact ea .nrm ((g ++ [b.d]), ma, fc) _ _ _ _ jc ⟨lc, nc, P, oc, kc⟩ Ia ga hp
  | some Ad =>
   rw [mcase_some pa] at hp
   refine ⟨fun h => (by cases h), fun u hu => ?_⟩
   obtain rfl := Option.some.inj hu
   refine ⟨_, rfl, ?_⟩
   refine ifnb hp (fun pc hp => ?_) fun pc hp => ?_; rotate_left
   ·refine ⟨_, O.bk.rc rfl, trivial, _, _, _, _, _, _, _, _, _, _, _, _, _, B.bk.rp (k := 3) (j := 13) rfl (by omega), ?_⟩
    obtain ⟨qc, hp⟩ := gd_some hp
    obtain ⟨sc, tc, hp⟩ := bsome hp
    obtain ⟨uc, vc, wc, T, xc⟩ := Mo.up kl128 ka da (k := b.d) qc (v := true) tc (kv := .agg 13 [(Il b.d.d0), (Il b.d.d1), (Il b.d.d2), (Il b.d.d3), (Il b.d.d4), (Il b.d.d5), (Il b.d.d6), (Il b.d.d7), (Il b.d.d8), (Il b.d.d9), (Il b.d.d10), (Il b.d.d11), (Il b.d.d12)]) (yv := .c (.bool true)) rfl rfl
    have yc := la.k T
    have zc := N.k T
    have Ac := O.k T
    have e := e.k T
    have Ja := fa.k T
    refine ⟨uc, vc, ?_⟩
    exact ea .nrm (g, l, sc) _ _ _ _ wc ⟨yc, zc, e, Ac, xc⟩ Ja ga hp
   refine ⟨_, N.bk.rc rfl, trivial, _, _, _, _, _, _, _, _, _, _, _, _, _, B.bk.rp (k := 3) (j := 13) rfl (by omega), ?_⟩
   obtain ⟨Bc, hp⟩ := gd_some hp
   intro Gd Cc
   obtain ⟨na, Dc, Bd, Ec, Fc, G, Y⟩ := e.app' ta148 ka (a := b.d) (show Rp.rep (α := Dm) i _ b.d from rfl) Bc Cc
   have Gc := la.k G
   have Hc := N.k G
   have Ic := O.k G
   have Jc := B.k G
   have Kc := da.k G
   have Ka := fa.k G
   refine ⟨na, Dc, Ec, ?_⟩
   obtain ⟨Lc, Nc, Oc, I, Pc⟩ := Hc.sto Fc [na]
   have Qc := Gc.k I
   have Ba := Ic.k I
   have Rc := Jc.k I
   have Tc := Kc.k I
   have Y := Y.k I
   have La := Ka.k I
   refine ⟨Lc, Nc, ?_⟩
   refine ⟨_, Ba.bk.rc rfl, trivial, _, _, _, _, _, _, _, _, _, _, _, _, _, Rc.bk.rp (k := 3) (j := 13) rfl (by omega), ?_⟩
   obtain ⟨Uc, hp⟩ := gd_some hp
   obtain ⟨Vc, Xc, hp⟩ := bsome hp
   obtain ⟨Yc, Zc, ad, Z, bd⟩ := Mo.up kl128 Oc Tc (k := b.d) Uc (v := true) Xc (kv := .agg 13 [(Il b.d.d0), (Il b.d.d1), (Il b.d.d2), (Il b.d.d3), (Il b.d.d4), (Il b.d.d5), (Il b.d.d6), (Il b.d.d7), (Il b.d.d8), (Il b.d.d9), (Il b.d.d10), (Il b.d.d11), (Il b.d.d12)]) (yv := .c (.bool true)) rfl rfl
   have cd := Qc.k Z
   have dd := Pc.k Z
   have ed := Ba.k Z
   have Y := Y.k Z
   have Ma := La.k Z
   refine ⟨Yc, Zc, ?_⟩
   exact ea .nrm ((g ++ [b.d]), na, Vc) _ _ _ _ ad ⟨cd, dd, Y, ed, bd⟩ Ma ga hp
 ·intro st aa ba ha fd Cd hA hp
  obtain ⟨g, l, p⟩ := st
  replace hp : poutcomes_L0 [] g p = some rz := hp
  obtain ⟨q, n, e, r, x⟩ := hA
  replace q : Lb (Fm.of m) aa ba ha 1 m.nxt 5 [(Il w.s.Last), ca101, ca102, ca103, ca104] := q
  replace n : Lb (Fm.of m) aa ba ha 2 m0.nxt 1 [l] := n
  replace e : Ow (Fm.of m) aa ba ha 6 l g := e
  replace r : Lb (Fm.of m) aa ba ha 4 m2.nxt 1 [(.map m1.nxt)] := r
  replace x : Mo (Fm.of m) aa ba ha 3 (.map m1.nxt) p := x
  rw [poutcomes_L0] at hp
  refine ⟨_, n.bk.rc rfl, ?_⟩
  obtain ⟨hd, jd, Dd, kd⟩ := e.freeze fd
  obtain rfl := Option.some.inj hp
  exact hq _ hd l jd.grw kd
 ·intro id st _ _ _ _ _ _ hn; first | exact hn.elim | (cases hn)
 ·intro st _ _ _ _ _ _ hn; first | exact hn.elim | (cases hn)
theorem s_verdict1 {d : Dm} {limit : Int} {b0 : Nat} {m f : M} {Q : V → M → Prop} {rz : Bool} (hS : Pre f m) (hb0 : Bk f b0 1 [(Il limit)]) (hp : pverdict1 d limit = some rz) (hq : ∀ m', Ext m m' → Q (.c (.bool rz)) m') : Wc prog tbl 86 [.agg 13 [(Il d.d0), (Il d.d1), (Il d.d2), (Il d.d3), (Il d.d4), (Il d.d5), (Il d.d6), (Il d.d7), (Il d.d8), (Il d.d9), (Il d.d10), (Il d.d11), (Il d.d12)], .c (.ptr b0 0)] m Q := by
 have p := hS.st
 obtain ⟨q, _⟩ : ∃ τ : Nat → Nat, True := ⟨fun _ => 0, trivial⟩
 refine c86 ?_
 unfold pverdict1 at hp
 intro s e
 obtain ⟨g, a, l, h⟩ := p.blk e q 1
 refine ⟨_, _, _, _, _, _, _, _, _, _, _, _, _, h.bk.ra, ?_⟩
 obtain ⟨n, i, hp⟩ := bsome hp
 refine s_harvestD (d := d) a.pre  i fun r j => ?_
 obtain ⟨b, o⟩ := a.call j g
 refine ⟨_, rfl, _, (hb0.sub b.sub).rc rfl, ((hb0.sub a.sub).rc rfl), ?_⟩
 obtain rfl := Option.some.inj hp
 exact hq _ b.ext'
theorem s_Verdict {s : Ssn} {field : Int} {limit : Int} {ca101 ca102 ca103 : C} {m f : M} {Q : V → M → Prop} {rz : Int × Int} (hS : Pre f m) (ha101 : Sl f ca101 s.Rules) (ha102 : Sl f ca102 s.Fields) (ha103 : Sl f ca103 s.Visits) (hp : pVerdict s field limit = some rz) (hq : ∀ m', Ext m m' → Q (.tup [.c (Il rz.1), .c (Il rz.2)]) m') : Wc prog tbl 34 [.agg 4 [(Il s.Last), ca101, ca102, ca103], .c (Il field), .c (Il limit)] m Q := by
 have S0 := hS.st
 obtain ⟨τ0, _⟩ : ∃ τ : Nat → Nat, True := ⟨fun _ => 0, trivial⟩
 refine w34 ?_
 unfold pVerdict at hp
 intro m0 T
 obtain ⟨Y, Z, Za, aa⟩ := S0.blk T τ0 1
 intro m1 ba
 obtain ⟨ca, da, ea, fa⟩ := Z.blk ba Y 2
 have ga := aa.k ea
 intro m2 ha
 obtain ⟨a, o, q, O⟩ := da.growK ha ca 3
 have t := ga.k q
 have u := fa.k q
 have ia := O 0 (by decide)
 refine ⟨_, _, _, _, t.bk.ra, _, u.bk.rc rfl, ?_⟩
 obtain ⟨ja, ka, hp⟩ := bsome hp
 refine s_isHundredths (n := limit) o.pre  ka fun m9 la => ?_
 obtain ⟨x, e⟩ := o.call la a
 have y := t.k e
 have ma := u.k e
 have na := ia.k e
 refine ⟨_, rfl, (by rw [show allS noFnC _ = true from (nf_cons rfl (nf_cons ha101.noFn (nf_cons ha102.noFn (nf_cons ha103.noFn nf_nil))))]; exact (y.bk.ra)), ?_⟩
 obtain ⟨z, oa, hp⟩ := bsome hp
 refine s_openAsked (s := s) (field := field) (known := ja) x.pre ha101 ha102 ha103 oa fun jb ab pa qa sa ta ua va wa xa ya => ?_
 obtain ⟨za, g⟩ := x.callG ua a
 have Aa := y.k g
 have Ba := ma.k g
 have Ca := na.k g
 refine ⟨_, _, _, _, _, _, rfl, ?_⟩
 intro kb Da
 obtain ⟨Ea, A, Fa⟩ := Ca.set za Da
 have Ga := Aa.k A
 have B := Ba.k A
 refine ⟨(B.bk.rc rfl), (by rw [show allS noFnC _ = true from (nf_cons rfl (nf_cons ha101.noFn (nf_cons ha102.noFn (nf_cons ha103.noFn nf_nil))))]; exact (Ga.bk.ra)), ?_⟩
 obtain ⟨Ha, Ia, h, Ja, Ka⟩ := Fa.sto Ea [(Il z.1.s.Last), pa, qa, sa, ta]
 have La := B.k Ja
 refine ⟨Ha, Ia, ?_⟩
 refine ifnd hp (fun Ma hp => ?_) fun Ma hp => ?_
 ·obtain rfl := Option.some.inj hp
  exact hq _ h.ext'
 refine ⟨_, _, _, _, _, Ka.bk.ra, ?_⟩
 obtain ⟨D, Na, hp⟩ := bsome hp
 refine s_outcomes (w := z.1) (field := field) h.pre va wa xa ya Na fun mb bb cb Oa F => ?_
 obtain ⟨Pa, Qa⟩ := h.callG Oa a
 have Ra := La.k Qa
 refine ⟨_, rfl, ?_⟩
 obtain ⟨G, I, J, j⟩ := Ra.freeze Pa
 have P : Fv_Dm_Bool G ((C.fn (Fn.func 86) [] [(W.c (C0.ptr m0.nxt 0))])) (fun b => pverdict1 b limit) := by
  intro f' m' b r Q hs hpre  hg hq
  exact s_verdict1 hpre (j.sub hs) hg hq
 obtain ⟨db, Sa, hp⟩ := bsome hp
 refine s_eachD (l := D) (passes := (fun b => pverdict1 b limit)) I.pre (F.sub J.fs) P Sa fun nb Ta => ?_
 obtain ⟨i, eb⟩ := I.call Ta a
 refine ⟨_, rfl, ?_⟩
 refine ifbb hp (fun Ua hp => ?_) fun Ua hp => ?_
 ·obtain rfl := Option.some.inj hp
  exact hq _ i.ext'
 have S : Fv_Dm_Bool G ((C.fn (Fn.func 86) [] [(W.c (C0.ptr m0.nxt 0))])) (fun d => pverdict1 d limit) := by
  intro f' m' d r Q hs hpre  hg hq
  exact s_verdict1 hpre (j.sub hs) hg hq
 obtain ⟨fb, Va, hp⟩ := bsome hp
 refine s_containsD (l := D) (p := (fun d => pverdict1 d limit)) i.pre (F.sub J.fs) S Va fun ob Wa => ?_
 obtain ⟨N, gb⟩ := i.call Wa a
 refine ⟨_, rfl, ?_⟩
 refine ifnb hp (fun Xa hp => ?_) fun Xa hp => ?_
 ·obtain rfl := Option.some.inj hp
  exact hq _ N.ext'
 obtain rfl := Option.some.inj hp
 exact hq _ N.ext'
theorem s_decides {all : List Crs} {week : Int} {limit : Int} {ca100 : C} {m f : M} {Q : V → M → Prop} {rz : Bool} (hS : Pre f m) (ha100 : Sl f ca100 all) (hp : pdecides all week limit = some rz) (hq : ∀ m', Ext m m' → Q (.c (.bool rz)) m') : Wc prog tbl 89 [.c ca100, .c (Il week), .c (Il limit)] m Q := by
 have S0 := hS.st
 obtain ⟨τ0, _⟩ : ∃ τ : Nat → Nat, True := ⟨fun _ => 0, trivial⟩
 refine w89 ?_
 unfold pdecides at hp
 intro m0 T
 obtain ⟨Y, Z, Ua, i⟩ := Mo.new (K := Int) (V' := Bool) S0 T τ0 1
 refine ⟨ha100.isSl, ?_⟩
 intro R1 Ta
 have hgo : ∀ (l : Nat) (b2 : Bool) (x3 : Int) (e : Option (Int → Option (Bool))) (O : M) (n : Nat → Nat), St (Fm.of m) f f O → Mo (Fm.of m) f n O 1 (.map m.nxt) e → pdecides_L0 all week limit l e x3 = some rz → R1 [.c (.bool b2), .c (Il x3)] O := by
  intro l
  induction l with
  | zero => intro b2 x3 e O n o i hp; cases hp
  | succ l P =>
   intro b2 x3 e O n o i hp
   refine Ta _ _ _ ?_
   rw [pdecides_L0] at hp
   try rw [ha100.slLen]
   refine ifd hp (fun ba hp => ?_) fun ba hp => ?_; rotate_left
   ·obtain rfl := Option.some.inj hp
    exact hq _ o.ext'
   obtain ⟨a, q, hp⟩ := bsome hp
   obtain ⟨n5, S, s, q⟩ := idx_some q
   obtain ⟨_, ca⟩ := rd_Crs ha100 q
   refine ⟨n5, S, (by first | exact s | (rw [ha100.slLen]; exact s)), _, _, _, _, _, _, _, _, _, _, _, _, _, _, _, _, (ca _ o.sub).1, ?_⟩
   intro eb da
   obtain ⟨b, ea, fa, ga⟩ := o.blk da n 2
   have ha := i.k fa
   obtain ⟨ia, ja, y, ka, z⟩ := ga.sto ea [(Il a.t.Week), (Il a.t.Damage), (Il a.t.Old), (Il a.d.d0), (Il a.d.d1), (Il a.d.d2), (Il a.d.d3), (Il a.d.d4), (Il a.d.d5), (Il a.d.d6), (Il a.d.d7), (Il a.d.d8), (Il a.d.d9), (Il a.d.d10), (Il a.d.d11), (Il a.d.d12)]
   have la := ha.k ka
   refine ⟨ia, ja, ?_⟩
   refine ⟨trivial, _, _, _, _, _, _, _, _, _, _, _, _, _, z.bk.rp (k := 3) (j := 13) rfl (by omega), ?_⟩
   obtain ⟨p, ma, hp⟩ := bsome hp
   refine s_harvestD (d := a.d) y.pre  ma fun fb na => ?_
   obtain ⟨A, B⟩ := y.call na b
   have D := z.k B
   have oa := la.k B
   refine ⟨_, rfl, _, _, _, _, _, _, _, _, _, _, _, _, _, _, _, _, D.bk.ra, ?_⟩
   obtain ⟨F, pa, hp⟩ := bsome hp
   refine s_seen (c := a) (week := week) A.pre  pa fun gb qa => ?_
   obtain ⟨g, G⟩ := A.call qa b
   have I := D.k G
   have r := oa.k G
   refine ⟨_, rfl, ?_⟩
   obtain ⟨sa, hp⟩ := gd_some hp
   refine ⟨_, r.mi.lk kl3 (k := F) sa rfl, ?_⟩
   cases x : (mget e F) with
   | none =>
    rw [mcase_none x] at hp
    refine ⟨fun _ => ?_, fun u hu => (by cases hu)⟩
    refine ⟨_, _, _, _, _, _, _, _, _, _, _, _, _, _, _, _, I.bk.ra, ?_⟩
    obtain ⟨J, ta, hp⟩ := bsome hp
    refine s_seen (c := a) (week := week) g.pre  ta fun hb ua => ?_
    obtain ⟨va, wa⟩ := g.call ua b
    have xa := r.k wa
    refine ⟨_, rfl, ?_⟩
    obtain ⟨ya, hp⟩ := gd_some hp
    obtain ⟨Va, za, hp⟩ := bsome hp
    obtain ⟨Aa, Ba, Ca, Wa, Da⟩ := Mo.up kl3 va xa (k := J) ya (v := (decide (limit < p))) za (kv := .c (Il J)) (yv := .c (.bool (decide (limit < p)))) rfl rfl
    refine ⟨Aa, Ba, ?_⟩
    refine gdi hp fun Ea hp => ?_
    exact P _ _ _ _ b Ca Da hp
   | some Xa =>
    rw [mcase_some x] at hp
    refine ⟨fun h => (by cases h), fun u hu => ?_⟩
    obtain rfl := Option.some.inj hu
    refine ⟨_, rfl, ?_⟩
    refine ifnb hp (fun Fa hp => ?_) fun Fa hp => ?_
    ·obtain rfl := Option.some.inj hp
     exact hq _ g.ext'
    refine ⟨_, _, _, _, _, _, _, _, _, _, _, _, _, _, _, _, I.bk.ra, ?_⟩
    obtain ⟨N, Ga, hp⟩ := bsome hp
    refine s_seen (c := a) (week := week) g.pre  Ga fun ib Ha => ?_
    obtain ⟨Ia, Ja⟩ := g.call Ha b
    have Ka := r.k Ja
    refine ⟨_, rfl, ?_⟩
    obtain ⟨La, hp⟩ := gd_some hp
    obtain ⟨Ya, Ma, hp⟩ := bsome hp
    obtain ⟨Na, Oa, Pa, Za, Qa⟩ := Mo.up kl3 Ia Ka (k := N) La (v := (decide (limit < p))) Ma (kv := .c (Il N)) (yv := .c (.bool (decide (limit < p)))) rfl rfl
    refine ⟨Na, Oa, ?_⟩
    refine gdi hp fun Ra hp => ?_
    exact P _ _ _ _ b Pa Qa hp
 exact hgo _ _ _ _ _ Y Z i hp
theorem s_Decides {s : Ssn} {field : Int} {limit : Int} {ca101 ca102 ca103 : C} {m f : M} {Q : V → M → Prop} {rz : List Int × Int} (hS : Pre f m) (ha101 : Sl f ca101 s.Rules) (ha102 : Sl f ca102 s.Fields) (ha103 : Sl f ca103 s.Visits) (hp : pDecides s field limit = some rz) (hq : ∀ m' f' c0, Grw m f m' f' → Sl f' c0 rz.1 → Q (.tup [.c c0, .c (Il rz.2)]) m') : Wc prog tbl 35 [.agg 4 [(Il s.Last), ca101, ca102, ca103], .c (Il field), .c (Il limit)] m Q := by
 have S0 := hS.st
 obtain ⟨τ0, _⟩ : ∃ τ : Nat → Nat, True := ⟨fun _ => 0, trivial⟩
 refine w35 ?_
 unfold pDecides at hp
 intro m0 ga
 obtain ⟨ha, ia, sb, ja⟩ := S0.blk ga τ0 1
 intro m1 ka
 obtain ⟨e, y, la, fa⟩ := ia.growK ka ha 2
 have z := ja.k la
 have ma := fa 0 (by decide)
 refine ⟨_, _, _, _, z.bk.ra, ?_⟩
 obtain ⟨na, oa, hp⟩ := bsome hp
 refine s_isHundredths (n := limit) y.pre  oa fun m7 pa => ?_
 obtain ⟨A, B⟩ := y.call pa e
 have D := z.k B
 have qa := ma.k B
 refine ⟨_, rfl, (by rw [show allS noFnC _ = true from (nf_cons rfl (nf_cons ha101.noFn (nf_cons ha102.noFn (nf_cons ha103.noFn nf_nil))))]; exact (D.bk.ra)), ?_⟩
 obtain ⟨r, sa, hp⟩ := bsome hp
 refine s_openAsked (s := s) (field := field) (known := na) A.pre ha101 ha102 ha103 sa fun Bb ta F G I J ua va wa xa ya => ?_
 obtain ⟨za, N⟩ := A.callG ua e
 have Aa := D.k N
 have Ba := qa.k N
 refine ⟨_, _, _, _, _, _, rfl, ?_⟩
 intro Cb Ca
 obtain ⟨Da, Ea, Fa⟩ := Ba.set za Ca
 have O := Aa.k Ea
 refine ⟨(by rw [show allS noFnC _ = true from (nf_cons rfl (nf_cons ha101.noFn (nf_cons ha102.noFn (nf_cons ha103.noFn nf_nil))))]; exact (O.bk.ra)), ?_⟩
 obtain ⟨Ga, Ha, t, Ia, P⟩ := Fa.sto Da [(Il r.1.s.Last), F, G, I, J]
 have Ja := O.k Ia
 refine ⟨Ga, Ha, ?_⟩
 refine ifnd hp (fun Ka hp => ?_) fun Ka hp => ?_
 ·obtain rfl := Option.some.inj hp
  exact hq _ ta .sl0 t.grw (Sl.nil _)
 refine ⟨_, _, _, _, _, P.bk.ra, ?_⟩
 obtain ⟨La, Ma, hp⟩ := bsome hp
 refine s_truths (w := r.1) (field := field) t.pre va wa xa ya Ma fun Db tb ub Na Oa => ?_
 obtain ⟨S, T⟩ := t.callG Na e
 have Pa := Ja.k T
 have Qa := P.k T
 refine ⟨_, rfl, ?_⟩
 obtain ⟨Y, Ra, hp⟩ := bsome hp
 refine s_collect (seq := La) S.pre Oa Ra fun Eb g vb Sa Ta => ?_
 obtain ⟨Ua, Z⟩ := S.callG Sa e
 have h := Pa.k Z
 have i := Qa.k Z
 refine ⟨_, rfl, trivial, _, h.bk.rc rfl, ?_⟩
 refine gdi hp fun Va hp => ?_
 intro rb qb
 have hgo : ∀ (j : Nat) (x : C) (p : Int) (l : List Int) (q : M) (b : Nat → Nat), St (Fm.of m) f g q → Lb (Fm.of m) g b q 1 m.nxt 4 [(Il s.Last), ca101, ca102, ca103] → Lb (Fm.of m) g b q 2 (m0.nxt + 0) 5 [(Il r.1.s.Last), F, G, I, J] → Ow (Fm.of m) g b q 3 x l → pDecides_L0 s limit Y j l p = some rz → rb [.c x, .c (Il p)] q := by
  intro j
  induction j with
  | zero => intro x p l q b o h i d hp; cases hp
  | succ j aa =>
   intro x p l q b o h i d hp
   refine qb _ _ _ ?_
   rw [pDecides_L0] at hp
   refine ifd hp (fun Wa hp => ?_) fun Wa hp => ?_; rotate_left
   ·obtain ⟨Xa, Ya, wb, Za⟩ := d.freeze o
    obtain rfl := Option.some.inj hp
    exact hq _ Xa x Ya.grw Za
   obtain ⟨xb, ab, hp⟩ := bsome hp
   refine s_decides (all := Y) (week := p) (limit := limit) o.pre Ta ab fun Fb bb => ?_
   obtain ⟨ba, u⟩ := o.call bb b
   have ca := h.k u
   have da := i.k u
   have d := d.k u
   refine ⟨_, rfl, ?_⟩
   refine ifbb hp (fun cb hp => ?_) fun cb hp => ?_; rotate_left
   ·refine gdi hp fun db hp => ?_
    exact aa _ _ _ _ b ba ca da d hp
   obtain ⟨eb, hp⟩ := gd_some hp
   intro Gb fb
   obtain ⟨gb, hb, ib, jb, kb, ea, mb⟩ := d.app' ta75 ba (a := p) (show Rp.rep (α := Int) g _ p from rfl) eb fb
   have nb := ca.k ea
   have ob := da.k ea
   refine ⟨gb, hb, jb, ?_⟩
   refine gdi hp fun pb hp => ?_
   exact aa _ _ _ _ ib kb nb ob mb hp
 exact hgo _ _ _ _ _ e Ua h i (Ow.nil _ _ _ _ _) hp
end
end Go.Proofs.YtmlaphekbnanjaaGreat

