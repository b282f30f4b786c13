/- An evaluator of the code of a program, its soundness, what calls ask, memory, and what functions of the program do. Condition: none; a lemma text of this claim. -/
import Derived.Test.YtmlaphekbnanjaaGreatGeG

namespace Go.Proofs.YtmlaphekbnanjaaGreat
open _root_.Go.Proofs.Tryz
open Go.Abs
set_option maxRecDepth 100000
noncomputable section
def Fv_Int_Bool (f : M) (x : C) (g : Int → Option (Bool)) : Prop := ∀ (f' m : M) (a0 : Int) (r : Bool) (Q : V → M → Prop), Sub f f' → Pre f' m → g a0 = some r → (∀ m', Ext m m' → Q (.c (.bool r)) m') → callP prog tbl [.c (.int .i64 a0)] x m Q
theorem Fv_Int_Bool.sub {f m : M} {x : C} {g : Int → Option (Bool)} (h : Fv_Int_Bool f x g) (s : Sub f m) : Fv_Int_Bool m x g := fun f' m' a0 r Q hs => h f' m' a0 r Q (s.trans hs)
def Fv_Fld_Bool (f : M) (x : C) (g : Fld → Option (Bool)) : Prop := ∀ (f' m : M) (a0 : Fld) (r : Bool) (Q : V → M → Prop), Sub f f' → Pre f' m → g a0 = some r → (∀ m', Ext m m' → Q (.c (.bool r)) m') → callP prog tbl [.agg 7 [(.int .i64 a0.Crop), (.int .i64 a0.Week.Lo), (.int .i64 a0.Week.Hi), (.int .i64 a0.Damage.Lo), (.int .i64 a0.Damage.Hi), (.int .i64 a0.Old.Lo), (.int .i64 a0.Old.Hi)]] x m Q
theorem Fv_Fld_Bool.sub {f m : M} {x : C} {g : Fld → Option (Bool)} (h : Fv_Fld_Bool f x g) (s : Sub f m) : Fv_Fld_Bool m x g := fun f' m' a0 r Q hs => h f' m' a0 r Q (s.trans hs)
def Fv_Vis_Bool (f : M) (x : C) (g : Vis → Option (Bool)) : Prop := ∀ (f' m : M) (a0 : Vis) (r : Bool) (Q : V → M → Prop), Sub f f' → Pre f' m → g a0 = some r → (∀ m', Ext m m' → Q (.c (.bool r)) m') → callP prog tbl [.agg 4 [(.int .i64 a0.Field), (.int .i64 a0.Week), (.int .i64 a0.Seen.Lo), (.int .i64 a0.Seen.Hi)]] x m Q
theorem Fv_Vis_Bool.sub {f m : M} {x : C} {g : Vis → Option (Bool)} (h : Fv_Vis_Bool f x g) (s : Sub f m) : Fv_Vis_Bool m x g := fun f' m' a0 r Q hs => h f' m' a0 r Q (s.trans hs)
def Fv_Crs_Int (f : M) (x : C) (g : Crs → Option (Int)) : Prop := ∀ (f' m : M) (a0 : Crs) (r : Int) (Q : V → M → Prop), Sub f f' → Pre f' m → g a0 = some r → (∀ m', Ext m m' → Q (.c (.int .i64 r)) m') → callP prog tbl [.agg 16 [(.int .i64 a0.t.Week), (.int .i64 a0.t.Damage), (.int .i64 a0.t.Old), (.int .i64 a0.d.d0), (.int .i64 a0.d.d1), (.int .i64 a0.d.d2), (.int .i64 a0.d.d3), (.int .i64 a0.d.d4), (.int .i64 a0.d.d5), (.int .i64 a0.d.d6), (.int .i64 a0.d.d7), (.int .i64 a0.d.d8), (.int .i64 a0.d.d9), (.int .i64 a0.d.d10), (.int .i64 a0.d.d11), (.int .i64 a0.d.d12)]] x m Q
theorem Fv_Crs_Int.sub {f m : M} {x : C} {g : Crs → Option (Int)} (h : Fv_Crs_Int f x g) (s : Sub f m) : Fv_Crs_Int m x g := fun f' m' a0 r Q hs => h f' m' a0 r Q (s.trans hs)
theorem kl170 : KL prog 170 Plt := kl_agg (n := 4) (ks := [.int .i64, .int .i64, .int .i64, .int .i64]) (by kernel_rfl) (by kernel_rfl) (cs := fun k => [.int .i64 k.t.Week, .int .i64 k.t.Damage, .int .i64 k.t.Old, .int .i64 k.crop]) (fun _ => rfl) fun a b fa fb => ⟨_, _, (eqKs_cons (eqK_i fa.1 fb.1) (eqKs_cons (eqK_i fa.2.1 fb.2.1) (eqKs_cons (eqK_i fa.2.2.1 fb.2.2.1) (eqKs_cons (eqK_i fa.2.2.2.1 fb.2.2.2.1) eqKs_nil)))), ⟨fun h => by obtain ⟨⟨atWeek, atDamage, atOld⟩, acrop⟩ := a; obtain ⟨⟨btWeek, btDamage, btOld⟩, bcrop⟩ := b; simp_all, fun h => by subst h; exact ⟨rfl, rfl, rfl, rfl, trivial⟩⟩⟩
theorem ta22 : TA prog 22 1 := ⟨75, by kernel_rfl, by kernel_rfl, by kernel_rfl⟩
theorem ta24 : TA prog 24 4 := ⟨116, by kernel_rfl, by kernel_rfl, by kernel_rfl⟩
theorem ta29 : TA prog 29 8 := ⟨44, by kernel_rfl, by kernel_rfl, by kernel_rfl⟩
theorem ta33 : TA prog 33 7 := ⟨114, by kernel_rfl, by kernel_rfl, by kernel_rfl⟩
theorem ta34 : TA prog 34 4 := ⟨106, by kernel_rfl, by kernel_rfl, by kernel_rfl⟩
theorem ta75 : TA prog 75 1 := ⟨3, by kernel_rfl, by kernel_rfl, by kernel_rfl⟩
theorem s_awake {m f : M} {Q : V → M → Prop} {rz : Bool} (hS : Pre f m) (hp : pawake = some rz) (hq : ∀ m', Ext m m' → Q (.c (.bool rz)) m') : Wc prog tbl 12 [] m Q := by
 obtain rfl := Option.some.inj hp
 exact call_known (show findT tbl 12 = some true from rfl) (hq _ (.refl m))
theorem s_rIn {n : Int} {low : Int} {high : Int} {m f : M} {Q : V → M → Prop} {rz : Bool} (hS : Pre f m)  (hp : prIn n low high = some rz) (hq : ∀ m', Ext m m' → Q (.c (.bool rz)) m') : Wc prog tbl 29 [.c (Il n), .c (Il low), .c (Il high)] m Q := by
 have a := hS.st
 obtain ⟨d, _⟩ : ∃ τ : Nat → Nat, True := ⟨fun _ => 0, trivial⟩
 refine w29 ?_
 unfold prIn at hp
 refine ifd hp (fun b hp => ?_) fun b hp => ?_
 ·obtain rfl := Option.some.inj hp
  exact hq _ a.ext'
 obtain rfl := Option.some.inj hp
 exact hq _ a.ext'
theorem s_rWithin {r : Rg} {low : Int} {high : Int} {m f : M} {Q : V → M → Prop} {rz : Bool} (hS : Pre f m)  (hp : prWithin r low high = some rz) (hq : ∀ m', Ext m m' → Q (.c (.bool rz)) m') : Wc prog tbl 99 [.agg 2 [(Il r.Lo), (Il r.Hi)], .c (Il low), .c (Il high)] m Q := by
 have b := hS.st
 obtain ⟨d, _⟩ : ∃ τ : Nat → Nat, True := ⟨fun _ => 0, trivial⟩
 refine w99 ?_
 unfold prWithin at hp
 intro i e
 obtain ⟨j, S3, l, a⟩ := b.blk e d 1
 refine ⟨trivial, _, a.bk.rc rfl, ?_⟩
 refine ifd hp (fun g hp => ?_) fun g hp => ?_; rotate_left
 ·obtain rfl := Option.some.inj hp
  exact hq _ S3.ext'
 refine ⟨trivial, _, a.bk.rc rfl, trivial, _, a.bk.rc rfl, ?_⟩
 refine ifd hp (fun h hp => ?_) fun h hp => ?_; rotate_left
 ·obtain rfl := Option.some.inj hp
  exact hq _ S3.ext'
 refine ⟨trivial, _, a.bk.rc rfl, ?_⟩
 obtain rfl := Option.some.inj hp
 exact hq _ S3.ext'
theorem s_rCount {r : Rg} {m f : M} {Q : V → M → Prop} {rz : Int} (hS : Pre f m)  (hp : prCount r = some rz) (hq : ∀ m', Ext m m' → Q (.c (Il rz)) m') : Wc prog tbl 96 [.agg 2 [(Il r.Lo), (Il r.Hi)]] m Q := by
 have g := hS.st
 obtain ⟨h, _⟩ : ∃ τ : Nat → Nat, True := ⟨fun _ => 0, trivial⟩
 refine w96 ?_
 unfold prCount at hp
 intro n i
 obtain ⟨j, b, l, a⟩ := g.blk i h 1
 refine ⟨trivial, _, a.bk.rc rfl, trivial, _, a.bk.rc rfl, ?_⟩
 refine gdi hp fun d hp => ?_
 refine gdi hp fun e hp => ?_
 obtain rfl := Option.some.inj hp
 exact hq _ b.ext'
theorem s_rIsRule {s : Ssn} {l : List Int} {ca101 ca102 ca103 ca200 : C} {m f : M} {Q : V → M → Prop} {rz : Bool} (hS : Pre f m) (ha101 : Sl f ca101 s.Rules) (ha102 : Sl f ca102 s.Fields) (ha103 : Sl f ca103 s.Visits) (ha200 : Sl f ca200 l) (hp : prIsRule s l = some rz) (hq : ∀ m', Ext m m' → Q (.c (.bool rz)) m') : Wc prog tbl 98 [.agg 4 [(Il s.Last), ca101, ca102, ca103], .c ca200] m Q := by
 have O := hS.st
 obtain ⟨P, _⟩ : ∃ τ : Nat → Nat, True := ⟨fun _ => 0, trivial⟩
 refine w98 ?_
 unfold prIsRule at hp
 intro m0 t
 obtain ⟨u, x, Y, a⟩ := O.blk t P 1
 intro S y
 have hgo : ∀ (e : Nat) (p : Bool) (j : Int) (g : M) (b : Nat → Nat), St (Fm.of m) f f g → Lb (Fm.of m) f b g 1 m.nxt 4 [(Il s.Last), ca101, ca102, ca103] → prIsRule_L0 s l e j = some rz → S [.c (.bool p), .c (Il j)] g := by
  intro e
  induction e with
  | zero => intro p j g b d a hp; cases hp
  | succ e q =>
   intro p j g b d a hp
   refine y _ _ _ ?_
   rw [prIsRule_L0] at hp
   refine ⟨ha200.isSl, ?_⟩
   try rw [ha200.slLen]
   refine ifd hp (fun z hp => ?_) fun z hp => ?_; rotate_left
   ·refine ⟨ha200.isSl, trivial, _, a.bk.rc rfl, ?_⟩
    refine gdi hp fun A hp => ?_
    try rw [ha200.slLen]
    obtain rfl := Option.some.inj hp
    exact hq _ d.ext'
   obtain ⟨B, h, hp⟩ := bsome hp
   obtain ⟨T, r, i, h⟩ := idx_some h
   refine ⟨T, r, (by first | exact i | (rw [ha200.slLen]; exact i)), _, (ha200.rdI h d.sub), ?_⟩
   obtain ⟨Z, D, hp⟩ := bsome hp
   refine s_rIn (n := B) (low := (0 : Int)) (high := (100 : Int)) d.pre  D fun m8 F => ?_
   obtain ⟨o, G⟩ := d.call F b
   have I := a.k G
   refine ⟨_, rfl, ?_⟩
   refine ifnb hp (fun J hp => ?_) fun J hp => ?_
   ·obtain rfl := Option.some.inj hp
    exact hq _ o.ext'
   refine gdi hp fun N hp => ?_
   exact q _ _ _ b o I hp
 exact hgo _ _ _ _ u x a hp
theorem s_rMany {fl : Fld} {m f : M} {Q : V → M → Prop} {rz : Int} (hS : Pre f m)  (hp : prMany fl = some rz) (hq : ∀ m', Ext m m' → Q (.c (Il rz)) m') : Wc prog tbl 49 [.agg 7 [(Il fl.Crop), (Il fl.Week.Lo), (Il fl.Week.Hi), (Il fl.Damage.Lo), (Il fl.Damage.Hi), (Il fl.Old.Lo), (Il fl.Old.Hi)]] m Q := by
 have I := hS.st
 obtain ⟨J, _⟩ : ∃ τ : Nat → Nat, True := ⟨fun _ => 0, trivial⟩
 refine w49 ?_
 unfold prMany at hp
 intro Z i
 obtain ⟨b, e, N, a⟩ := I.blk i J 1
 refine ⟨trivial, _, _, a.bk.rp (k := 1) (j := 2) rfl (by omega), ?_⟩
 obtain ⟨O, l, hp⟩ := bsome hp
 refine s_rCount (r := fl.Week) e.pre  l fun m4 n => ?_
 obtain ⟨g, o⟩ := e.call n b
 have d := a.k o
 refine ⟨_, rfl, trivial, _, _, d.bk.rp (k := 3) (j := 2) rfl (by omega), (a.bk.rp (k := 3) (j := 2) rfl (by omega)), ?_⟩
 obtain ⟨P, p, hp⟩ := bsome hp
 refine s_rCount (r := fl.Damage) g.pre  p fun m9 q => ?_
 obtain ⟨h, s⟩ := g.call q b
 have t := d.k s
 refine ⟨_, rfl, ?_⟩
 refine gdi hp fun u hp => ?_
 refine gdi hp fun x hp => ?_
 obtain ⟨y, hp⟩ := gd_some hp
 refine ⟨y, trivial, _, _, t.bk.rp (k := 5) (j := 2) rfl (by omega), (d.bk.rp (k := 5) (j := 2) rfl (by omega)), (a.bk.rp (k := 5) (j := 2) rfl (by omega)), ?_⟩
 obtain ⟨S, z, hp⟩ := bsome hp
 refine s_rCount (r := fl.Old) h.pre  z fun T A => ?_
 obtain ⟨B, Y⟩ := h.call A b
 refine ⟨_, rfl, ?_⟩
 refine gdi hp fun D hp => ?_
 refine gdi hp fun F hp => ?_
 refine gdi hp fun G hp => ?_
 obtain rfl := Option.some.inj hp
 exact hq _ B.ext'
theorem s_rFault {s : Ssn} {ca101 ca102 ca103 : C} {m f : M} {Q : V → M → Prop} {rz : Int} (hS : Pre f m) (ha101 : Sl f ca101 s.Rules) (ha102 : Sl f ca102 s.Fields) (ha103 : Sl f ca103 s.Visits) (hp : prFault s = some rz) (hq : ∀ m', Ext m m' → Q (.c (Il rz)) m') : Wc prog tbl 55 [.agg 4 [(Il s.Last), ca101, ca102, ca103]] m Q := by
 have S0 := hS.st
 obtain ⟨τ0, _⟩ : ∃ τ : Nat → Nat, True := ⟨fun _ => 0, trivial⟩
 refine w55 ?_
 unfold prFault at hp
 intro m0 gc
 obtain ⟨hc, e, Zc, a⟩ := S0.blk gc τ0 1
 refine ⟨trivial, _, a.bk.rc rfl, ?_⟩
 refine ifd hp (fun ic hp => ?_) fun ic hp => ?_
 ·obtain rfl := Option.some.inj hp
  exact hq _ e.ext'
 refine ⟨trivial, _, a.bk.rc rfl, ha101.isSl, ?_⟩
 try rw [ha101.slLen]
 refine ifd hp (fun jc hp => ?_) fun jc hp => ?_
 ·obtain rfl := Option.some.inj hp
  exact hq _ e.ext'
 refine ⟨trivial, _, a.bk.rc rfl, ha102.isSl, ?_⟩
 try rw [ha102.slLen]
 refine ifd hp (fun kc hp => ?_) fun kc hp => ?_
 ·obtain rfl := Option.some.inj hp
  exact hq _ e.ext'
 refine ⟨trivial, _, a.bk.rc rfl, ha103.isSl, ?_⟩
 try rw [ha103.slLen]
 refine ifd hp (fun lc hp => ?_) fun lc hp => ?_
 ·obtain rfl := Option.some.inj hp
  exact hq _ e.ext'
 refine ⟨trivial, _, a.bk.rc rfl, ?_⟩
 refine ifd hp (fun nc hp => ?_) fun nc hp => ?_
 ·obtain rfl := Option.some.inj hp
  exact hq _ e.ext'
 refine ⟨trivial, _, a.bk.rc rfl, ha101.isSl, ?_⟩
 try rw [ha101.slLen]
 refine ifd hp (fun oc hp => ?_) fun oc hp => ?_
 ·obtain rfl := Option.some.inj hp
  exact hq _ e.ext'
 refine ⟨trivial, _, a.bk.rc rfl, ha102.isSl, ?_⟩
 try rw [ha102.slLen]
 refine ifd hp (fun pc hp => ?_) fun pc hp => ?_
 ·obtain rfl := Option.some.inj hp
  exact hq _ e.ext'
 intro R8 qc
 have hgo : ∀ (T : Nat) (x9 : Int) (Y : Int) (y : M) (p : Nat → Nat), St (Fm.of m) f f y → Lb (Fm.of m) f p y 1 m.nxt 4 [(Il s.Last), ca101, ca102, ca103] → prFault_L0 s T x9 Y = some rz → R8 [.c (Il x9), .c (Il Y)] y := by
  intro T
  induction T with
  | zero => intro x9 Y y p z a hp; cases hp
  | succ T Qa =>
   intro x9 Y y p z a hp
   refine qc _ _ _ ?_
   rw [prFault_L0] at hp
   refine ⟨trivial, _, a.bk.rc rfl, ha101.isSl, ?_⟩
   try rw [ha101.slLen]
   refine ifd hp (fun sc hp => ?_) fun sc hp => ?_
   ·refine ⟨_, _, _, _, a.bk.ra, trivial, _, a.bk.rc rfl, ?_⟩
    obtain ⟨tc, ia, hp⟩ := bsome hp
    obtain ⟨uc, Ra, ja, ia⟩ := idx_some ia
    obtain ⟨ad, vc, wc⟩ := ha101.rdS ia
    refine ⟨uc, Ra, (by first | exact ja | (rw [ha101.slLen]; exact ja)), _, (vc _ z.sub), ?_⟩
    obtain ⟨bd, xc, hp⟩ := bsome hp
    refine s_rIsRule (s := s) (l := tc) z.pre ha101 ha102 ha103 wc xc fun cd yc => ?_
    obtain ⟨Pa, zc⟩ := z.call yc p
    have Ac := a.k zc
    refine ⟨_, rfl, ?_⟩
    refine ifnb hp (fun Bc hp => ?_) fun Bc hp => ?_
    ·obtain rfl := Option.some.inj hp
     exact hq _ Pa.ext'
    refine gdi hp fun Cc hp => ?_
    exact Qa _ _ _ p Pa Ac hp
   intro Dc Sa
   have hgo : ∀ (Z : Nat) (aa : Int) (ba : Int) (A : M) (B : Nat → Nat), St (Fm.of m) f f A → Lb (Fm.of m) f B A 1 m.nxt 4 [(Il s.Last), ca101, ca102, ca103] → prFault_L1 s Z aa ba = some rz → Dc [.c (Il aa), .c (Il ba)] A := by
    intro Z
    induction Z with
    | zero => intro aa ba A B ca a hp; cases hp
    | succ Z Ka =>
     intro aa ba A B ca a hp
     refine Sa _ _ _ ?_
     rw [prFault_L1] at hp
     refine ⟨trivial, _, a.bk.rc rfl, ha102.isSl, ?_⟩
     try rw [ha102.slLen]
     refine ifd hp (fun Ec hp => ?_) fun Ec hp => ?_
     ·refine ⟨trivial, _, a.bk.rc rfl, ?_⟩
      obtain ⟨b, ka, hp⟩ := bsome hp
      obtain ⟨Fc, Ta, la, ka⟩ := idx_some ka
      obtain ⟨_, Ua⟩ := rd_Fld ha102 ka
      refine ⟨Fc, Ta, (by first | exact la | (rw [ha102.slLen]; exact la)), _, _, _, _, _, _, _, (Ua _ ca.sub).1, ?_⟩
      intro dd Va
      obtain ⟨g, Wa, Xa, Ya⟩ := ca.blk Va B 2
      have Za := a.k Xa
      obtain ⟨ab, bb, ma, cb, na⟩ := Ya.sto Wa [(Il b.Crop), (Il b.Week.Lo), (Il b.Week.Hi), (Il b.Damage.Lo), (Il b.Damage.Hi), (Il b.Old.Lo), (Il b.Old.Hi)]
      have oa := Za.k cb
      refine ⟨ab, bb, ?_⟩
      refine ⟨trivial, _, na.bk.rc rfl, trivial, _, oa.bk.rc rfl, ha101.isSl, ?_⟩
      obtain ⟨pa, hp⟩ := gd_some hp
      refine ⟨(by first | exact pa | (rw [ha101.slLen]; exact pa)), ?_⟩
      try rw [ha101.slLen]
      obtain ⟨Oc, db, hp⟩ := bsome hp
      refine s_rIn (n := b.Crop) (low := (0 : Int)) (high := ((s.Rules.length : Int) - (1 : Int))) ma.pre  db fun ed eb => ?_
      obtain ⟨G, qa⟩ := ma.call eb g
      have sa := oa.k qa
      have ta := na.k qa
      refine ⟨_, rfl, ?_⟩
      refine ifnb hp (fun fb hp => ?_) fun fb hp => ?_
      ·obtain rfl := Option.some.inj hp
       exact hq _ G.ext'
      refine ⟨trivial, _, _, ta.bk.rp (k := 1) (j := 2) rfl (by omega), trivial, _, sa.bk.rc rfl, ?_⟩
      obtain ⟨Pc, gb, hp⟩ := bsome hp
      refine s_rWithin (r := b.Week) (low := (0 : Int)) (high := s.Last) G.pre  gb fun fd hb => ?_
      obtain ⟨I, ua⟩ := G.call hb g
      have ib := sa.k ua
      have va := ta.k ua
      refine ⟨_, rfl, ?_⟩
      refine ifnb hp (fun jb hp => ?_) fun jb hp => ?_
      ·obtain rfl := Option.some.inj hp
       exact hq _ I.ext'
      refine ⟨trivial, _, _, va.bk.rp (k := 3) (j := 2) rfl (by omega), ?_⟩
      obtain ⟨Qc, kb, hp⟩ := bsome hp
      refine s_rWithin (r := b.Damage) (low := (0 : Int)) (high := (100 : Int)) I.pre  kb fun hd mb => ?_
      obtain ⟨J, wa⟩ := I.call mb g
      have nb := ib.k wa
      have ob := va.k wa
      refine ⟨_, rfl, ?_⟩
      refine ifnb hp (fun pb hp => ?_) fun pb hp => ?_
      ·obtain rfl := Option.some.inj hp
       exact hq _ J.ext'
      refine ⟨trivial, _, _, ob.bk.rp (k := 5) (j := 2) rfl (by omega), ?_⟩
      obtain ⟨Rc, qb, hp⟩ := bsome hp
      refine s_rWithin (r := b.Old) (low := (0 : Int)) (high := (100 : Int)) J.pre  qb fun id rb => ?_
      obtain ⟨xa, sb⟩ := J.call rb g
      have tb := nb.k sb
      refine ⟨_, rfl, ?_⟩
      refine ifnb hp (fun ub hp => ?_) fun ub hp => ?_
      ·obtain rfl := Option.some.inj hp
       exact hq _ xa.ext'
      refine gdi hp fun vb hp => ?_
      exact Ka _ _ _ g xa tb hp
     intro Gc wb
     have hgo : ∀ (q : Nat) (da : Int) (ea : Int) (D : M) (h : Nat → Nat), St (Fm.of m) f f D → Lb (Fm.of m) f h D 1 m.nxt 4 [(Il s.Last), ca101, ca102, ca103] → prFault_L2 s q da ea = some rz → Gc [.c (Il da), .c (Il ea)] D := by
      intro q
      induction q with
      | zero => intro da ea D h t a hp; cases hp
      | succ q La =>
       intro da ea D h t a hp
       refine wb _ _ _ ?_
       rw [prFault_L2] at hp
       refine ⟨trivial, _, a.bk.rc rfl, ha103.isSl, ?_⟩
       try rw [ha103.slLen]
       refine ifd hp (fun xb hp => ?_) fun xb hp => ?_; rotate_left
       ·intro Hc yb
        have hgo : ∀ (u : Nat) (ya : Int) (fa : Int) (F : M) (i : Nat → Nat), St (Fm.of m) f f F → Lb (Fm.of m) f i F 1 m.nxt 4 [(Il s.Last), ca101, ca102, ca103] → prFault_L3 s u fa = some rz → Hc [.c (Il ya), .c (Il fa)] F := by
         intro u
         induction u with
         | zero => intro ya fa F i o a hp; cases hp
         | succ u Ma =>
          intro ya fa F i o a hp
          refine yb _ _ _ ?_
          rw [prFault_L3] at hp
          refine ⟨trivial, _, a.bk.rc rfl, ha102.isSl, ?_⟩
          try rw [ha102.slLen]
          refine ifd hp (fun zb hp => ?_) fun zb hp => ?_; rotate_left
          ·obtain rfl := Option.some.inj hp
           exact hq _ o.ext'
          refine ⟨trivial, _, a.bk.rc rfl, ?_⟩
          obtain ⟨Ab, N, hp⟩ := bsome hp
          obtain ⟨Ic, Na, ga, N⟩ := idx_some N
          obtain ⟨_, Bb⟩ := rd_Fld ha102 N
          refine ⟨Ic, Na, (by first | exact ga | (rw [ha102.slLen]; exact ga)), _, _, _, _, _, _, _, (Bb _ o.sub).1, ?_⟩
          obtain ⟨Tc, Cb, hp⟩ := bsome hp
          refine s_rMany (fl := Ab) o.pre  Cb fun Uc Db => ?_
          obtain ⟨za, Eb⟩ := o.call Db i
          have Fb := a.k Eb
          refine ⟨_, rfl, ?_⟩
          refine ifd hp (fun Gb hp => ?_) fun Gb hp => ?_
          ·obtain rfl := Option.some.inj hp
           exact hq _ za.ext'
          refine gdi hp fun Hb hp => ?_
          exact Ma _ _ _ i za Fb hp
        exact hgo _ _ _ _ h t a hp
       refine ⟨trivial, _, a.bk.rc rfl, ?_⟩
       obtain ⟨d, O, hp⟩ := bsome hp
       obtain ⟨Jc, Oa, ha, O⟩ := idx_some O
       obtain ⟨_, Ib⟩ := rd_Vis ha103 O
       refine ⟨Jc, Oa, (by first | exact ha | (rw [ha103.slLen]; exact ha)), _, _, _, _, (Ib _ t.sub).1, ?_⟩
       intro jd Jb
       obtain ⟨x, Kb, Mb, Nb⟩ := t.blk Jb h 3
       have Ob := a.k Mb
       obtain ⟨Pb, Qb, Aa, Rb, Ba⟩ := Nb.sto Kb [(Il d.Field), (Il d.Week), (Il d.Seen.Lo), (Il d.Seen.Hi)]
       have Ca := Ob.k Rb
       refine ⟨Pb, Qb, ?_⟩
       refine ⟨trivial, _, Ba.bk.rc rfl, trivial, _, Ca.bk.rc rfl, ha102.isSl, ?_⟩
       obtain ⟨Da, hp⟩ := gd_some hp
       refine ⟨(by first | exact Da | (rw [ha102.slLen]; exact Da)), ?_⟩
       try rw [ha102.slLen]
       obtain ⟨Vc, Sb, hp⟩ := bsome hp
       refine s_rIn (n := d.Field) (low := (0 : Int)) (high := ((s.Fields.length : Int) - (1 : Int))) Aa.pre  Sb fun kd Tb => ?_
       obtain ⟨P, Ea⟩ := Aa.call Tb x
       have Fa := Ca.k Ea
       have Ga := Ba.k Ea
       refine ⟨_, rfl, ?_⟩
       refine ifnb hp (fun Ub hp => ?_) fun Ub hp => ?_
       ·obtain rfl := Option.some.inj hp
        exact hq _ P.ext'
       refine ⟨trivial, _, Ga.bk.rc rfl, trivial, _, Fa.bk.rc rfl, ?_⟩
       obtain ⟨Xc, Vb, hp⟩ := bsome hp
       refine s_rIn (n := d.Week) (low := (0 : Int)) (high := s.Last) P.pre  Vb fun ld Wb => ?_
       obtain ⟨S, Ha⟩ := P.call Wb x
       have Xb := Fa.k Ha
       have Yb := Ga.k Ha
       refine ⟨_, rfl, ?_⟩
       refine ifnb hp (fun Zb hp => ?_) fun Zb hp => ?_
       ·obtain rfl := Option.some.inj hp
        exact hq _ S.ext'
       refine ⟨trivial, _, _, Yb.bk.rp (k := 2) (j := 2) rfl (by omega), ?_⟩
       obtain ⟨Yc, ac, hp⟩ := bsome hp
       refine s_rWithin (r := d.Seen) (low := (0 : Int)) (high := (100 : Int)) S.pre  ac fun md bc => ?_
       obtain ⟨Ia, cc⟩ := S.call bc x
       have dc := Xb.k cc
       refine ⟨_, rfl, ?_⟩
       refine ifnb hp (fun ec hp => ?_) fun ec hp => ?_
       ·obtain rfl := Option.some.inj hp
        exact hq _ Ia.ext'
       refine gdi hp fun fc hp => ?_
       exact La _ _ _ x Ia dc hp
     exact hgo _ _ _ _ B ca a hp
   exact hgo _ _ _ _ p z a hp
 exact hgo _ _ _ _ hc e a hp
theorem s_rFull {s : Ssn} {ca101 ca102 ca103 : C} {m f : M} {Q : V → M → Prop} {rz : Int} (hS : Pre f m) (ha101 : Sl f ca101 s.Rules) (ha102 : Sl f ca102 s.Fields) (ha103 : Sl f ca103 s.Visits) (hp : prFull s = some rz) (hq : ∀ m', Ext m m' → Q (.c (Il rz)) m') : Wc prog tbl 51 [.agg 4 [(Il s.Last), ca101, ca102, ca103]] m Q := by
 have l := hS.st
 obtain ⟨n, _⟩ : ∃ τ : Nat → Nat, True := ⟨fun _ => 0, trivial⟩
 refine w51 ?_
 unfold prFull at hp
 intro q g
 obtain ⟨o, h, p, i⟩ := l.blk g n 1
 refine ⟨trivial, _, i.bk.rc rfl, ha103.isSl, ?_⟩
 refine gdi hp fun j hp => ?_
 obtain ⟨a, hp⟩ := gd_some hp
 refine ⟨(by first | exact a | (rw [ha103.slLen]; exact a)), ?_⟩
 obtain ⟨b, hp⟩ := gd_some hp
 refine ⟨(by first | exact b | (rw [ha103.slLen]; exact b)), ?_⟩
 obtain ⟨d, hp⟩ := gd_some hp
 refine ⟨(by first | exact d | (rw [ha103.slLen]; exact d)), ?_⟩
 obtain ⟨e, hp⟩ := gd_some hp
 refine ⟨(by first | exact e | (rw [ha103.slLen]; exact e)), ?_⟩
 try rw [ha103.slLen]
 obtain rfl := Option.some.inj hp
 exact hq _ h.ext'
theorem s_rBits {bits : Int} {m f : M} {Q : V → M → Prop} {rz : List Int} (hS : Pre f m)  (hp : prBits bits = some rz) (hq : ∀ m' f' c0, Grw m f m' f' → Sl f' c0 rz → Q (.c c0) m') : Wc prog tbl 54 [.c (Il bits)] m Q := by
 have S0 := hS.st
 obtain ⟨τ0, _⟩ : ∃ τ : Nat → Nat, True := ⟨fun _ => 0, trivial⟩
 refine w54 ?_
 unfold prBits at hp
 intro R0 ca
 have hgo : ∀ (b : Nat) (j : C) (i : Int) (d : List Int) (l : M) (e : Nat → Nat), St (Fm.of m) f f l → Ow (Fm.of m) f e l 1 j d → prBits_L0 bits b d i = some rz → R0 [.c j, .c (Il i)] l := by
  intro b
  induction b with
  | zero => intro j i d l e g h hp; cases hp
  | succ b n =>
   intro j i d l e g h hp
   refine ca _ _ _ ?_
   rw [prBits_L0] at hp
   refine gdi hp fun o hp => ?_
   refine gdi hp fun p hp => ?_
   refine gdi hp fun q hp => ?_
   refine gdi hp fun r hp => ?_
   refine ifd hp (fun s hp => ?_) fun s hp => ?_; rotate_left
   ·obtain ⟨t, u, ga, x⟩ := h.freeze g
    obtain rfl := Option.some.inj hp
    exact hq _ t j u.grw x
   refine gdi hp fun y hp => ?_
   refine gdi hp fun z hp => ?_
   refine gdi hp fun A hp => ?_
   refine gdi hp fun B hp => ?_
   refine gdi hp fun D hp => ?_
   refine gdi hp fun F hp => ?_
   refine gdi hp fun G hp => ?_
   refine ifd hp (fun I hp => ?_) fun I hp => ?_; rotate_left
   ·refine gdi hp fun J hp => ?_
    exact n _ _ _ _ e g h hp
   obtain ⟨N, hp⟩ := gd_some hp
   intro m4 O
   obtain ⟨P, S, T, Y, Z, ha, aa⟩ := h.app' ta75 g (a := i) (show Rp.rep (α := Int) f _ i from rfl) N O
   refine ⟨P, S, Y, ?_⟩
   refine gdi hp fun ba hp => ?_
   exact n _ _ _ _ T Z aa hp
 exact hgo _ _ _ _ _ τ0 S0 (Ow.nil _ _ _ _ _) hp
theorem s_rBefore {a : List Int} {b : List Int} {ca100 ca200 : C} {m f : M} {Q : V → M → Prop} {rz : Bool} (hS : Pre f m) (ha100 : Sl f ca100 a) (ha200 : Sl f ca200 b) (hp : prBefore a b = some rz) (hq : ∀ m', Ext m m' → Q (.c (.bool rz)) m') : Wc prog tbl 97 [.c ca100, .c ca200] m Q := by
 have T := hS.st
 obtain ⟨Y, _⟩ : ∃ τ : Nat → Nat, True := ⟨fun _ => 0, trivial⟩
 refine w97 ?_
 unfold prBefore at hp
 intro Z I
 have hgo : ∀ (e : Nat) (F : Bool) (x : Int) (y : M) (q : Nat → Nat), St (Fm.of m) f f y → prBefore_L0 a b e x = some rz → Z [.c (.bool F), .c (Il x)] y := by
  intro e
  induction e with
  | zero => intro F x y q d hp; cases hp
  | succ e G =>
   intro F x y q d hp
   refine I _ _ _ ?_
   rw [prBefore_L0] at hp
   refine ⟨ha100.isSl, ?_⟩
   try rw [ha100.slLen]
   refine ifd hp (fun z hp => ?_) fun z hp => ?_; rotate_left
   ·refine ⟨ha100.isSl, ha200.isSl, ?_⟩
    try rw [ha100.slLen]
    try rw [ha200.slLen]
    obtain rfl := Option.some.inj hp
    exact hq _ d.ext'
   refine ⟨ha200.isSl, ?_⟩
   try rw [ha200.slLen]
   refine ifd hp (fun A hp => ?_) fun A hp => ?_; rotate_left
   ·refine ⟨ha100.isSl, ha200.isSl, ?_⟩
    try rw [ha100.slLen]
    try rw [ha200.slLen]
    obtain rfl := Option.some.inj hp
    exact hq _ d.ext'
   obtain ⟨N, g, hp⟩ := bsome hp
   obtain ⟨n4, r, l, g⟩ := idx_some g
   refine ⟨n4, r, (by first | exact l | (rw [ha100.slLen]; exact l)), _, (ha100.rdI g d.sub), ?_⟩
   obtain ⟨O, h, hp⟩ := bsome hp
   obtain ⟨n6, s, n, h⟩ := idx_some h
   refine ⟨n6, s, (by first | exact n | (rw [ha200.slLen]; exact n)), _, (ha200.rdI h d.sub), ?_⟩
   refine ifnd hp (fun B hp => ?_) fun B hp => ?_; rotate_left
   ·refine gdi hp fun D hp => ?_
    exact G _ _ _ q d hp
   obtain ⟨P, i, hp⟩ := bsome hp
   obtain ⟨n8, t, o, i⟩ := idx_some i
   refine ⟨n8, t, (by first | exact o | (rw [ha100.slLen]; exact o)), _, (ha100.rdI i d.sub), ?_⟩
   obtain ⟨S, j, hp⟩ := bsome hp
   obtain ⟨J, u, p, j⟩ := idx_some j
   refine ⟨J, u, (by first | exact p | (rw [ha200.slLen]; exact p)), _, (ha200.rdI j d.sub), ?_⟩
   obtain rfl := Option.some.inj hp
   exact hq _ d.ext'
 exact hgo _ _ _ _ Y T hp
theorem s_rShorter {a : List Int} {b : List Int} {ca100 ca200 : C} {m f : M} {Q : V → M → Prop} {rz : Bool} (hS : Pre f m) (ha100 : Sl f ca100 a) (ha200 : Sl f ca200 b) (hp : prShorter a b = some rz) (hq : ∀ m', Ext m m' → Q (.c (.bool rz)) m') : Wc prog tbl 53 [.c ca100, .c ca200] m Q := by
 have d := hS.st
 obtain ⟨o, _⟩ : ∃ τ : Nat → Nat, True := ⟨fun _ => 0, trivial⟩
 refine w53 ?_
 unfold prShorter at hp
 refine ⟨ha100.isSl, ha200.isSl, ?_⟩
 try rw [ha100.slLen]
 try rw [ha200.slLen]
 refine ifd hp (fun e hp => ?_) fun e hp => ?_
 ·obtain rfl := Option.some.inj hp
  exact hq _ d.ext'
 refine ⟨ha100.isSl, ha200.isSl, ?_⟩
 try rw [ha100.slLen]
 try rw [ha200.slLen]
 refine ifd hp (fun g hp => ?_) fun g hp => ?_; rotate_left
 ·obtain rfl := Option.some.inj hp
  exact hq _ d.ext'
 obtain ⟨l, h, hp⟩ := bsome hp
 refine s_rBefore (a := a) (b := b) d.pre ha100 ha200 h fun p i => ?_
 obtain ⟨j, n⟩ := d.call i o
 refine ⟨_, rfl, ?_⟩
 obtain rfl := Option.some.inj hp
 exact hq _ j.ext'
theorem s_lList {l : List Int} {ca100 : C} {m f : M} {Q : V → M → Prop} {rz : List Int} (hS : Pre f m) (ha100 : Sl f ca100 l) (hp : plList l = some rz) (hq : ∀ m' f' c0, Grw m f m' f' → Sl f' c0 rz → Q (.c c0) m') : Wc prog tbl 50 [.c ca100] m Q := by
 have r := hS.st
 obtain ⟨s, _⟩ : ∃ τ : Nat → Nat, True := ⟨fun _ => 0, trivial⟩
 refine w50 ?_
 unfold plList at hp
 obtain ⟨b, hp⟩ := gd_some hp
 obtain ⟨a, d, o, e, g, p, h⟩ := (Ow.nil (α := Int) (Fm.of m) f s m 1).appL ta75 r ha100 b
 refine ⟨a, d, e, ?_⟩
 obtain ⟨i, j, q, n⟩ := h.freeze g
 obtain rfl := Option.some.inj hp
 exact hq _ i a j.grw n
theorem s_lTo {r : Rg} {m f : M} {Q : V → M → Prop} {rz : Rg} (hS : Pre f m)  (hp : plTo r = some rz) (hq : ∀ m', Ext m m' → Q (.agg 2 [(Il rz.Lo), (Il rz.Hi)]) m') : Wc prog tbl 30 [.agg 2 [(Il r.Lo), (Il r.Hi)]] m Q := by
 have u := hS.st
 obtain ⟨x, _⟩ : ∃ τ : Nat → Nat, True := ⟨fun _ => 0, trivial⟩
 refine w30 ?_
 unfold plTo at hp
 intro y b
 obtain ⟨c, d, q, e⟩ := u.blk b x 1
 intro z g
 obtain ⟨s, h, i, j⟩ := d.blk g c 2
 have a := e.k i
 refine ⟨trivial, _, a.bk.rc rfl, trivial, _, a.bk.rc rfl, ?_⟩
 obtain ⟨l, n, o, t, p⟩ := j.sto h [(Il r.Lo), (Il r.Hi)]
 refine ⟨l, n, ?_⟩
 refine ⟨_, _, p.bk.ra, ?_⟩
 obtain rfl := Option.some.inj hp
 exact hq _ o.ext'
theorem s_lSeason {s : Ssn} {ca101 ca102 ca103 : C} {m f : M} {Q : V → M → Prop} {rz : Ssn} (hS : Pre f m) (ha101 : Sl f ca101 s.Rules) (ha102 : Sl f ca102 s.Fields) (ha103 : Sl f ca103 s.Visits) (hp : plSeason s = some rz) (hq : ∀ m' f' c1 c2 c3, Grw m f m' f' → Sl f' c1 rz.Rules → Sl f' c2 rz.Fields → Sl f' c3 rz.Visits → Q (.agg 4 [(Il rz.Last), c1, c2, c3]) m') : Wc prog tbl 14 [.agg 4 [(Il s.Last), ca101, ca102, ca103]] m Q := by
 have S0 := hS.st
 obtain ⟨τ0, _⟩ : ∃ τ : Nat → Nat, True := ⟨fun _ => 0, trivial⟩
 refine w14 ?_
 unfold plSeason at hp
 intro m0 Db
 obtain ⟨Eb, Fb, xe, Gb⟩ := S0.blk Db τ0 1
 intro m1 Hb
 obtain ⟨Ib, Jb, Kb, Mb⟩ := Fb.blk Hb Eb 2
 have Za := Gb.k Kb
 refine ⟨trivial, _, Za.bk.rc rfl, ?_⟩
 intro m3 Nb
 obtain ⟨Ob, Pb, ab, Qb⟩ := Jb.blk Nb Ib 3
 have Rb := Za.k ab
 have Sb := Mb.k ab
 obtain ⟨Tb, Ub, Vb, bb, n⟩ := Qb.sto Pb [(Il s.Last), .sl0, .sl0, .sl0]
 have g := Rb.k bb
 have o := Sb.k bb
 refine ⟨Tb, Ub, ?_⟩
 intro R5 re
 have hgo : ∀ (sa : Nat) (x6 : Int) (p : C) (ea : C) (fa : C) (ga : Int) (D : List (List Int)) (ta : List Fld) (ua : List Vis) (m7 : M) (e : M) (t : Nat → Nat), St (Fm.of m) f e m7 → Sub f e → Lb (Fm.of m) e t m7 1 m.nxt 4 [(Il s.Last), ca101, ca102, ca103] → Lb (Fm.of m) e t m7 2 m0.nxt 4 [(Il 0), .sl0, .sl0, .sl0] → Lb (Fm.of m) e t m7 3 m1.nxt 4 [(Il ga), p, ea, fa] → Ow (Fm.of m) e t m7 4 p D → Ow (Fm.of m) e t m7 5 ea ta → Ow (Fm.of m) e t m7 6 fa ua → plSeason_L0 s sa ga D ta ua x6 = some rz → R5 [.c (Il x6)] m7 := by
  intro sa
  induction sa with
  | zero => intro x6 p ea fa ga D ta ua m7 e t ha F g o n b x y hp; cases hp
  | succ sa oe =>
   intro x6 p ea fa ga D ta ua m7 e t ha F g o n b x y hp
   refine re _ _ ?_
   rw [plSeason_L0] at hp
   refine ⟨trivial, _, g.bk.rc rfl, ha101.isSl, ?_⟩
   try rw [ha101.slLen]
   refine ifd hp (fun Xb hp => ?_) fun Xb hp => ?_
   ·refine ⟨trivial, _, n.bk.rc rfl, trivial, _, g.bk.rc rfl, ?_⟩
    obtain ⟨Yb, Ea, hp⟩ := bsome hp
    obtain ⟨se, Ab, Wa, Ea⟩ := idx_some Ea
    obtain ⟨ye, Zb, ac⟩ := ha101.rdS Ea
    refine ⟨se, Ab, (by first | exact Wa | (rw [ha101.slLen]; exact Wa)), _, (Zb _ (Sub.trans F ha.sub)), ?_⟩
    obtain ⟨cb, bc, hp⟩ := bsome hp
    refine s_lList (l := Yb) ha.pre (ac.sub F) bc fun Fe db ze cc dc => ?_
    obtain ⟨ec, G⟩ := ha.callG cc t
    have fc := g.k G
    have gc := o.k G
    have Fa := n.k G
    have b := b.k G
    have x := x.k G
    have y := y.k G
    refine ⟨_, rfl, (by rw [show noFnC _ = true from b.noFn]; exact (Fa.bk.rc rfl)), ?_⟩
    obtain ⟨hc, hp⟩ := gd_some hp
    intro Ge eb
    refine ⟨(by rw [show noFnC _ = true from b.noFn]; exact (Fa.bk.ext (Bk.new eb).2).rc rfl), ?_⟩
    obtain ⟨Ga, ic, jc, kc, lc, ia, Ha⟩ := b.app' ta22 ec (a := cb) (show Rp.rep (α := List Int) db _ cb from ⟨_, rfl, dc⟩) hc eb
    have nc := fc.k ia
    have oc := gc.k ia
    have pc := Fa.k ia
    have x := x.k ia
    have y := y.k ia
    refine ⟨Ga, ic, kc, ?_⟩
    refine ⟨trivial, ?_⟩
    obtain ⟨qc, sc, tc, ja, Ia⟩ := pc.sto1 lc 1 Ga (by simp) rfl
    replace Ia : Lb _ _ _ _ _ _ _ [(Il ga), Ga, ea, fa] := Ia
    have uc := nc.k ja
    have vc := oc.k ja
    have x := x.k ja
    have y := y.k ja
    have Ha := Ha.k ja
    refine ⟨qc, sc, ?_⟩
    refine gdi hp fun wc hp => ?_
    exact oe _ _ _ _ _ _ _ _ _ db jc tc (Sub.trans F G.fs) uc vc Ia Ha x y hp
   intro te pe
   have hgo : ∀ (va : Nat) (fb : Int) (z : C) (ka : C) (la : Int) (P : List Fld) (wa : List Vis) (ca : M) (u : Nat → Nat), St (Fm.of m) f e ca → Lb (Fm.of m) e u ca 1 m.nxt 4 [(Il s.Last), ca101, ca102, ca103] → Lb (Fm.of m) e u ca 2 m0.nxt 4 [(Il 0), .sl0, .sl0, .sl0] → Lb (Fm.of m) e u ca 3 m1.nxt 4 [(Il la), p, z, ka] → Ow (Fm.of m) e u ca 5 z P → Ow (Fm.of m) e u ca 6 ka wa → Ow (Fm.of m) e u ca 4 p D → plSeason_L1 s D va la P wa fb = some rz → te [.c (Il fb)] ca := by
    intro va
    induction va with
    | zero => intro fb z ka la P wa ca u xa g o n d h b hp; cases hp
    | succ va xc =>
     intro fb z ka la P wa ca u xa g o n d h b hp
     refine pe _ _ ?_
     rw [plSeason_L1] at hp
     refine ⟨trivial, _, g.bk.rc rfl, ha102.isSl, ?_⟩
     try rw [ha102.slLen]
     refine ifd hp (fun yc hp => ?_) fun yc hp => ?_
     ·refine ⟨trivial, _, g.bk.rc rfl, ?_⟩
      obtain ⟨q, Ja, hp⟩ := bsome hp
      obtain ⟨ue, Bb, Xa, Ja⟩ := idx_some Ja
      obtain ⟨_, zc⟩ := rd_Fld ha102 Ja
      refine ⟨ue, Bb, (by first | exact Xa | (rw [ha102.slLen]; exact Xa)), _, _, _, _, _, _, _, (zc _ (Sub.trans F xa.sub)).1, ?_⟩
      intro He Ac
      obtain ⟨Ka, Bc, S, Cc⟩ := xa.blk Ac u 7
      have Dc := g.k S
      have Ec := o.k S
      have Fc := n.k S
      have b := b.k S
      have d := d.k S
      have h := h.k S
      obtain ⟨Gc, Hc, gb, T, ma⟩ := Cc.sto Bc [(Il q.Crop), (Il q.Week.Lo), (Il q.Week.Hi), (Il q.Damage.Lo), (Il q.Damage.Hi), (Il q.Old.Lo), (Il q.Old.Hi)]
      have Ic := Dc.k T
      have Jc := Ec.k T
      have hb := Fc.k T
      have b := b.k T
      have d := d.k T
      have h := h.k T
      refine ⟨Gc, Hc, ?_⟩
      refine ⟨trivial, _, hb.bk.rc rfl, trivial, _, ma.bk.rc rfl, trivial, _, _, ma.bk.rp (k := 1) (j := 2) rfl (by omega), ?_⟩
      obtain ⟨ib, Kc, hp⟩ := bsome hp
      refine s_lTo (r := q.Week) gb.pre  Kc fun Ie Lc => ?_
      obtain ⟨jb, I⟩ := gb.call Lc Ka
      have Nc := Ic.k I
      have Oc := Jc.k I
      have kb := hb.k I
      have ya := ma.k I
      have b := b.k I
      have d := d.k I
      have h := h.k I
      refine ⟨_, _, rfl, (ya.bk.rc rfl), (by rw [show noFnC _ = true from d.noFn]; exact (kb.bk.rc rfl)), trivial, _, _, ya.bk.rp (k := 3) (j := 2) rfl (by omega), (ma.bk.rp (k := 3) (j := 2) rfl (by omega)), ?_⟩
      obtain ⟨mb, Pc, hp⟩ := bsome hp
      refine s_lTo (r := q.Damage) jb.pre  Pc fun Je Qc => ?_
      obtain ⟨nb, J⟩ := jb.call Qc Ka
      have Rc := Nc.k J
      have Tc := Oc.k J
      have ob := kb.k J
      have La := ya.k J
      have b := b.k J
      have d := d.k J
      have h := h.k J
      refine ⟨_, _, rfl, (La.bk.rc rfl), (by rw [show noFnC _ = true from d.noFn]; exact (ob.bk.rc rfl)), trivial, _, _, La.bk.rp (k := 5) (j := 2) rfl (by omega), (ya.bk.rp (k := 5) (j := 2) rfl (by omega)), (ma.bk.rp (k := 5) (j := 2) rfl (by omega)), ?_⟩
      obtain ⟨pb, Uc, hp⟩ := bsome hp
      refine s_lTo (r := q.Old) nb.pre  Uc fun Ke Vc => ?_
      obtain ⟨Xc, N⟩ := nb.call Vc Ka
      have Yc := Rc.k N
      have Zc := Tc.k N
      have Ma := ob.k N
      have ad := La.k N
      have b := b.k N
      have d := d.k N
      have h := h.k N
      refine ⟨_, _, rfl, (ad.bk.rc rfl), (by rw [show noFnC _ = true from d.noFn]; exact (Ma.bk.rc rfl)), ?_⟩
      obtain ⟨bd, hp⟩ := gd_some hp
      intro Me qb
      refine ⟨(by rw [show noFnC _ = true from d.noFn]; exact (Ma.bk.ext (Bk.new qb).2).rc rfl), ?_⟩
      obtain ⟨Na, cd, dd, ed, fd, na, Oa⟩ := d.app' ta33 Xc (a := ({ Crop := q.Crop, Week := ib, Damage := mb, Old := pb } : Fld)) (show Rp.rep (α := Fld) e _ ({ Crop := q.Crop, Week := ib, Damage := mb, Old := pb } : Fld) from rfl) bd qb
      have hd := Yc.k na
      have id := Zc.k na
      have jd := Ma.k na
      have b := b.k na
      have h := h.k na
      refine ⟨Na, cd, ed, ?_⟩
      refine ⟨trivial, ?_⟩
      obtain ⟨kd, ld, md, oa, Pa⟩ := jd.sto1 fd 2 Na (by simp) rfl
      replace Pa : Lb _ _ _ _ _ _ _ [(Il la), p, Na, ka] := Pa
      have nd := hd.k oa
      have od := id.k oa
      have b := b.k oa
      have h := h.k oa
      have Oa := Oa.k oa
      refine ⟨kd, ld, ?_⟩
      refine gdi hp fun pd hp => ?_
      exact xc _ _ _ _ _ _ _ dd md nd od Pa Oa h b hp
     intro ve qe
     have hgo : ∀ (za : Nat) (rb : Int) (Y : C) (Z : Int) (Aa : List Vis) (da : M) (A : Nat → Nat), St (Fm.of m) f e da → Lb (Fm.of m) e A da 1 m.nxt 4 [(Il s.Last), ca101, ca102, ca103] → Lb (Fm.of m) e A da 2 m0.nxt 4 [(Il 0), .sl0, .sl0, .sl0] → Lb (Fm.of m) e A da 3 m1.nxt 4 [(Il Z), p, z, Y] → Ow (Fm.of m) e A da 6 Y Aa → Ow (Fm.of m) e A da 4 p D → Ow (Fm.of m) e A da 5 z P → plSeason_L2 s D P za Z Aa rb = some rz → ve [.c (Il rb)] da := by
      intro za
      induction za with
      | zero => intro rb Y Z Aa da A Ba g o n i b d hp; cases hp
      | succ za qd =>
       intro rb Y Z Aa da A Ba g o n i b d hp
       refine qe _ _ ?_
       rw [plSeason_L2] at hp
       refine ⟨trivial, _, g.bk.rc rfl, ha103.isSl, ?_⟩
       try rw [ha103.slLen]
       refine ifd hp (fun sd hp => ?_) fun sd hp => ?_; rotate_left
       ·refine ⟨_, _, _, _, n.bk.ra, ?_⟩
        obtain ⟨td, ud, vd, Qa, wd⟩ := o.sto Ba [(Il Z), p, z, Y]
        have b := b.k Qa
        have d := d.k Qa
        have i := i.k Qa
        refine ⟨td, ud, ?_⟩
        refine ⟨_, _, _, _, wd.bk.ra, ?_⟩
        obtain ⟨Ae, xd, sb, yd⟩ := b.freeze vd
        have d := d.k sb
        have i := i.k sb
        obtain ⟨Be, zd, tb, Ad⟩ := d.freeze xd
        have i := i.k tb
        obtain ⟨Bd, Cd, ub, Dd⟩ := i.freeze zd
        obtain rfl := Option.some.inj hp
        exact hq _ Bd p z Y Cd.grw (yd.sub (Sub.trans tb.fs ub.fs)) (Ad.sub ub.fs) Dd
       refine ⟨trivial, _, g.bk.rc rfl, ?_⟩
       obtain ⟨B, Ra, hp⟩ := bsome hp
       obtain ⟨we, Cb, Ya, Ra⟩ := idx_some Ra
       obtain ⟨_, Ed⟩ := rd_Vis ha103 Ra
       refine ⟨we, Cb, (by first | exact Ya | (rw [ha103.slLen]; exact Ya)), _, _, _, _, (Ed _ (Sub.trans F Ba.sub)).1, ?_⟩
       intro Ne Fd
       obtain ⟨Gd, Hd, aa, Id⟩ := Ba.blk Fd A 8
       have Jd := g.k aa
       have Ld := o.k aa
       have Md := n.k aa
       have b := b.k aa
       have d := d.k aa
       have i := i.k aa
       obtain ⟨Nd, Od, vb, ba, Ca⟩ := Id.sto Hd [(Il B.Field), (Il B.Week), (Il B.Seen.Lo), (Il B.Seen.Hi)]
       have Pd := Jd.k ba
       have Qd := Ld.k ba
       have wb := Md.k ba
       have b := b.k ba
       have d := d.k ba
       have i := i.k ba
       refine ⟨Nd, Od, ?_⟩
       refine ⟨trivial, _, wb.bk.rc rfl, trivial, _, Ca.bk.rc rfl, trivial, _, Ca.bk.rc rfl, trivial, _, _, Ca.bk.rp (k := 2) (j := 2) rfl (by omega), ?_⟩
       obtain ⟨xb, Rd, hp⟩ := bsome hp
       refine s_lTo (r := B.Seen) vb.pre  Rd fun Oe Sd => ?_
       obtain ⟨Td, O⟩ := vb.call Sd Gd
       have Ud := Pd.k O
       have Vd := Qd.k O
       have Sa := wb.k O
       have yb := Ca.k O
       have b := b.k O
       have d := d.k O
       have i := i.k O
       refine ⟨_, _, rfl, (yb.bk.rc rfl), (yb.bk.rc rfl), (by rw [show noFnC _ = true from i.noFn]; exact (Sa.bk.rc rfl)), ?_⟩
       obtain ⟨Wd, hp⟩ := gd_some hp
       intro Pe zb
       refine ⟨(by rw [show noFnC _ = true from i.noFn]; exact (Sa.bk.ext (Bk.new zb).2).rc rfl), ?_⟩
       obtain ⟨Ta, Xd, Yd, Zd, ae, pa, Ua⟩ := i.app' ta34 Td (a := ({ Field := B.Field, Week := B.Week, Seen := xb } : Vis)) (show Rp.rep (α := Vis) e _ ({ Field := B.Field, Week := B.Week, Seen := xb } : Vis) from rfl) Wd zb
       have be := Ud.k pa
       have ce := Vd.k pa
       have de := Sa.k pa
       have b := b.k pa
       have d := d.k pa
       refine ⟨Ta, Xd, Zd, ?_⟩
       refine ⟨trivial, ?_⟩
       obtain ⟨ee, fe, ge, qa, Va⟩ := de.sto1 ae 3 Ta (by simp) rfl
       replace Va : Lb _ _ _ _ _ _ _ [(Il Z), p, z, Ta] := Va
       have he := be.k qa
       have ie := ce.k qa
       have b := b.k qa
       have d := d.k qa
       have Ua := Ua.k qa
       refine ⟨ee, fe, ?_⟩
       refine gdi hp fun je hp => ?_
       exact qd _ _ _ _ _ Yd ge he ie Va Ua b d hp
     exact hgo _ _ _ _ _ _ u xa g o n h b d hp
   exact hgo _ _ _ _ _ _ _ _ t ha g o n x y b hp
 exact hgo _ _ _ _ _ _ _ _ _ _ f Ob Vb (Sub.refl _) g o n (Ow.nil _ _ _ _ _) (Ow.nil _ _ _ _ _) (Ow.nil _ _ _ _ _) hp
theorem s_lThin {s : Ssn} {ca101 ca102 ca103 : C} {m f : M} {Q : V → M → Prop} {rz : Bool} (hS : Pre f m) (ha101 : Sl f ca101 s.Rules) (ha102 : Sl f ca102 s.Fields) (ha103 : Sl f ca103 s.Visits) (hp : plThin s = some rz) (hq : ∀ m', Ext m m' → Q (.c (.bool rz)) m') : Wc prog tbl 11 [.agg 4 [(Il s.Last), ca101, ca102, ca103]] m Q := by
 have S0 := hS.st
 obtain ⟨τ0, _⟩ : ∃ τ : Nat → Nat, True := ⟨fun _ => 0, trivial⟩
 refine w11 ?_
 unfold plThin at hp
 intro m0 F
 obtain ⟨G, i, xa, a⟩ := S0.blk F τ0 1
 refine ⟨trivial, _, a.bk.rc rfl, ha101.isSl, ?_⟩
 try rw [ha101.slLen]
 refine ifd hp (fun I hp => ?_) fun I hp => ?_
 ·obtain rfl := Option.some.inj hp
  exact hq _ i.ext'
 refine ⟨trivial, _, a.bk.rc rfl, ha102.isSl, ?_⟩
 try rw [ha102.slLen]
 refine ifd hp (fun J hp => ?_) fun J hp => ?_
 ·obtain rfl := Option.some.inj hp
  exact hq _ i.ext'
 refine ⟨trivial, _, a.bk.rc rfl, ha103.isSl, ?_⟩
 try rw [ha103.slLen]
 refine ifd hp (fun N hp => ?_) fun N hp => ?_
 ·obtain rfl := Option.some.inj hp
  exact hq _ i.ext'
 intro R4 ta
 have hgo : ∀ (j : Nat) (O : Bool) (P : Int) (z : M) (d : Nat → Nat), St (Fm.of m) f f z → Lb (Fm.of m) f d z 1 m.nxt 4 [(Il s.Last), ca101, ca102, ca103] → plThin_L0 s j O P = some rz → R4 [.c (.bool O), .c (Il P)] z := by
  intro j
  induction j with
  | zero => intro O P z d e a hp; cases hp
  | succ j qa =>
   intro O P z d e a hp
   refine ta _ _ _ ?_
   rw [plThin_L0] at hp
   refine ⟨trivial, _, a.bk.rc rfl, ha101.isSl, ?_⟩
   try rw [ha101.slLen]
   refine ifd hp (fun S hp => ?_) fun S hp => ?_
   ·refine ⟨trivial, _, a.bk.rc rfl, ?_⟩
    obtain ⟨ya, n, hp⟩ := bsome hp
    obtain ⟨ua, A, p, n⟩ := idx_some n
    obtain ⟨za, T, t⟩ := ha101.rdS n
    refine ⟨ua, A, (by first | exact p | (rw [ha101.slLen]; exact p)), _, (T _ e.sub), t.isSl, ?_⟩
    try rw [t.slLen]
    refine ifd hp (fun Y hp => ?_) fun Y hp => ?_
    ·obtain rfl := Option.some.inj hp
     exact hq _ e.ext'
    refine gdi hp fun Z hp => ?_
    exact qa _ _ _ d e a hp
   refine ⟨_, _, _, _, a.bk.ra, ?_⟩
   obtain ⟨aa, ba, hp⟩ := bsome hp
   refine s_rFault (s := s) e.pre ha101 ha102 ha103 ba fun Ea ca => ?_
   obtain ⟨da, ea⟩ := e.call ca d
   have b := a.k ea
   refine ⟨_, rfl, ?_⟩
   intro va sa
   have hgo : ∀ (l : Nat) (B : Bool) (u : Int) (q : M) (g : Nat → Nat), St (Fm.of m) f f q → Lb (Fm.of m) f g q 1 m.nxt 4 [(Il s.Last), ca101, ca102, ca103] → plThin_L1 s aa l u = some rz → va [.c (.bool B), .c (Il u)] q := by
    intro l
    induction l with
    | zero => intro B u q g h b hp; cases hp
    | succ l x =>
     intro B u q g h b hp
     refine sa _ _ _ ?_
     rw [plThin_L1] at hp
     refine ⟨trivial, _, b.bk.rc rfl, ha102.isSl, ?_⟩
     try rw [ha102.slLen]
     refine ifd hp (fun fa hp => ?_) fun fa hp => ?_; rotate_left
     ·obtain rfl := Option.some.inj hp
      exact hq _ h.ext'
     refine ifnb hp (fun ga hp => ?_) fun ga hp => ?_; rotate_left
     ·refine gdi hp fun ha hp => ?_
      exact x _ _ _ g h b hp
     refine ⟨trivial, _, b.bk.rc rfl, ?_⟩
     obtain ⟨ia, o, hp⟩ := bsome hp
     obtain ⟨wa, D, r, o⟩ := idx_some o
     obtain ⟨_, ja⟩ := rd_Fld ha102 o
     refine ⟨wa, D, (by first | exact r | (rw [ha102.slLen]; exact r)), _, _, _, _, _, _, _, (ja _ h.sub).1, ?_⟩
     obtain ⟨Aa, ka, hp⟩ := bsome hp
     refine s_rMany (fl := ia) h.pre  ka fun Fa la => ?_
     obtain ⟨y, ma⟩ := h.call la g
     have na := b.k ma
     refine ⟨_, rfl, ?_⟩
     refine ifd hp (fun oa hp => ?_) fun oa hp => ?_
     ·obtain rfl := Option.some.inj hp
      exact hq _ y.ext'
     refine gdi hp fun pa hp => ?_
     exact x _ _ _ g y na hp
   exact hgo _ _ _ _ d da b hp
 exact hgo _ _ _ _ G i a hp
theorem s_lReady {s : Ssn} {ca101 ca102 ca103 : C} {m f : M} {Q : V → M → Prop} {rz : Bool} (hS : Pre f m) (ha101 : Sl f ca101 s.Rules) (ha102 : Sl f ca102 s.Fields) (ha103 : Sl f ca103 s.Visits) (hp : plReady s = some rz) (hq : ∀ m', Ext m m' → Q (.c (.bool rz)) m') : Wc prog tbl 44 [.agg 4 [(Il s.Last), ca101, ca102, ca103]] m Q := by
 have y := hS.st
 obtain ⟨z, _⟩ : ∃ τ : Nat → Nat, True := ⟨fun _ => 0, trivial⟩
 refine w44 ?_
 unfold plReady at hp
 intro B g
 obtain ⟨b, d, r, e⟩ := y.blk g z 1
 refine ⟨_, _, _, _, e.bk.ra, ?_⟩
 obtain ⟨t, h, hp⟩ := bsome hp
 refine s_lThin (s := s) d.pre ha101 ha102 ha103 h fun D i => ?_
 obtain ⟨a, j⟩ := d.call i b
 have l := e.k j
 refine ⟨_, rfl, ?_⟩
 refine ifbb hp (fun n hp => ?_) fun n hp => ?_; rotate_left
 ·obtain rfl := Option.some.inj hp
  exact hq _ a.ext'
 refine ⟨_, _, _, _, l.bk.ra, ?_⟩
 obtain ⟨u, o, hp⟩ := bsome hp
 refine s_rFault (s := s) a.pre ha101 ha102 ha103 o fun A p => ?_
 obtain ⟨q, x⟩ := a.call p b
 refine ⟨_, rfl, ?_⟩
 obtain rfl := Option.some.inj hp
 exact hq _ q.ext'
theorem s_lSome {s : Ssn} {bits : Int} {ca101 ca102 ca103 : C} {m f : M} {Q : V → M → Prop} {rz : Ssn} (hS : Pre f m) (ha101 : Sl f ca101 s.Rules) (ha102 : Sl f ca102 s.Fields) (ha103 : Sl f ca103 s.Visits) (hp : plSome s bits = some rz) (hq : ∀ m' f' c1 c2 c3, Grw m f m' f' → Sl f' c1 rz.Rules → Sl f' c2 rz.Fields → Sl f' c3 rz.Visits → Q (.agg 4 [(Il rz.Last), c1, c2, c3]) m') : Wc prog tbl 52 [.agg 4 [(Il s.Last), ca101, ca102, ca103], .c (Il bits)] m Q := by
 have S0 := hS.st
 obtain ⟨τ0, _⟩ : ∃ τ : Nat → Nat, True := ⟨fun _ => 0, trivial⟩
 refine w52 ?_
 unfold plSome at hp
 intro m0 S
 obtain ⟨T, Y, eb, Z⟩ := S0.blk S τ0 1
 intro m1 aa
 obtain ⟨ba, ca, da, ea⟩ := Y.blk aa T 2
 have A := Z.k da
 refine ⟨_, _, _, _, A.bk.ra, ?_⟩
 intro m6 fa
 obtain ⟨ga, ha, B, ia⟩ := ca.blk fa ba 3
 have ja := A.k B
 have ka := ea.k B
 obtain ⟨la, ma, na, D, oa⟩ := ia.sto ha [(Il s.Last), ca101, ca102, ca103]
 have pa := ja.k D
 have qa := ka.k D
 refine ⟨la, ma, ?_⟩
 refine ⟨trivial, ?_⟩
 obtain ⟨sa, ta, ua, F, b⟩ := oa.sto1 na 3 .sl0 (by simp) rfl
 replace b : Lb _ _ _ _ _ _ _ [(Il s.Last), ca101, ca102, .sl0] := b
 have d := pa.k F
 have h := qa.k F
 refine ⟨sa, ta, ?_⟩
 intro R9 cb
 have hgo : ∀ (o : Nat) (G : Int) (i : C) (j : Int) (p : List Vis) (n : M) (e : Nat → Nat), St (Fm.of m) f f n → Lb (Fm.of m) f e n 1 m.nxt 4 [(Il s.Last), ca101, ca102, ca103] → Lb (Fm.of m) f e n 2 m0.nxt 4 [(Il 0), .sl0, .sl0, .sl0] → Lb (Fm.of m) f e n 3 m1.nxt 4 [(Il j), ca101, ca102, i] → Ow (Fm.of m) f e n 4 i p → plSome_L0 s bits o j p G = some rz → R9 [.c (Il G)] n := by
  intro o
  induction o with
  | zero => intro G i j p n e l d h b g hp; cases hp
  | succ o O =>
   intro G i j p n e l d h b g hp
   refine cb _ _ ?_
   rw [plSome_L0] at hp
   refine ⟨trivial, _, d.bk.rc rfl, ha103.isSl, ?_⟩
   try rw [ha103.slLen]
   refine ifd hp (fun va hp => ?_) fun va hp => ?_; rotate_left
   ·refine ⟨_, _, _, _, b.bk.ra, ?_⟩
    obtain ⟨wa, xa, ya, za, Aa⟩ := h.sto l [(Il j), ca101, ca102, i]
    have g := g.k za
    refine ⟨wa, xa, ?_⟩
    refine ⟨_, _, _, _, Aa.bk.ra, ?_⟩
    obtain ⟨Ba, Ca, I, Da⟩ := g.freeze ya
    obtain rfl := Option.some.inj hp
    exact hq _ Ba ca101 ca102 i Ca.grw (ha101.sub I.fs) (ha102.sub I.fs) Da
   refine gdi hp fun Ea hp => ?_
   refine gdi hp fun Fa hp => ?_
   refine gdi hp fun Ga hp => ?_
   refine gdi hp fun Ha hp => ?_
   refine gdi hp fun Ia hp => ?_
   refine gdi hp fun Ja hp => ?_
   refine gdi hp fun Ka hp => ?_
   refine ifd hp (fun La hp => ?_) fun La hp => ?_; rotate_left
   ·refine gdi hp fun Ma hp => ?_
    exact O _ _ _ _ _ e l d h b g hp
   refine ⟨trivial, _, b.bk.rc rfl, trivial, _, d.bk.rc rfl, ?_⟩
   obtain ⟨J, q, hp⟩ := bsome hp
   obtain ⟨db, P, z, q⟩ := idx_some q
   obtain ⟨_, Na⟩ := rd_Vis ha103 q
   refine ⟨db, P, (by first | exact z | (rw [ha103.slLen]; exact z)), _, _, _, _, (Na _ l.sub).1, ?_⟩
   obtain ⟨Oa, hp⟩ := gd_some hp
   intro kb N
   refine ⟨(by rw [show noFnC _ = true from g.noFn]; exact (b.bk.ext (Bk.new N).2).rc rfl), ?_⟩
   obtain ⟨r, Pa, Qa, Ra, Sa, t, u⟩ := g.app' ta24 l (a := J) (show Rp.rep (α := Vis) f _ J from rfl) Oa N
   have Ta := d.k t
   have Ua := h.k t
   have Va := b.k t
   refine ⟨r, Pa, Ra, ?_⟩
   refine ⟨trivial, ?_⟩
   obtain ⟨Wa, Xa, Ya, x, y⟩ := Va.sto1 Sa 3 r (by simp) rfl
   replace y : Lb _ _ _ _ _ _ _ [(Il j), ca101, ca102, r] := y
   have Za := Ta.k x
   have ab := Ua.k x
   have u := u.k x
   refine ⟨Wa, Xa, ?_⟩
   refine gdi hp fun bb hp => ?_
   exact O _ _ _ _ _ Qa Ya Za ab y u hp
 exact hgo _ _ _ _ _ _ ga ua d h b (Ow.nil _ _ _ _ _) hp
theorem s_has {r : Rg} {n : Int} {m f : M} {Q : V → M → Prop} {rz : Bool} (hS : Pre f m)  (hp : phas r n = some rz) (hq : ∀ m', Ext m m' → Q (.c (.bool rz)) m') : Wc prog tbl 112 [.agg 2 [(Il r.Lo), (Il r.Hi)], .c (Il n)] m Q := by
 have i := hS.st
 obtain ⟨j, _⟩ : ∃ τ : Nat → Nat, True := ⟨fun _ => 0, trivial⟩
 refine w112 ?_
 unfold phas at hp
 intro l d
 obtain ⟨g, a, h, b⟩ := i.blk d j 1
 refine ⟨trivial, _, b.bk.rc rfl, ?_⟩
 refine ifd hp (fun e hp => ?_) fun e hp => ?_; rotate_left
 ·obtain rfl := Option.some.inj hp
  exact hq _ a.ext'
 refine ⟨trivial, _, b.bk.rc rfl, ?_⟩
 obtain rfl := Option.some.inj hp
 exact hq _ a.ext'
theorem s_count {r : Rg} {m f : M} {Q : V → M → Prop} {rz : Int} (hS : Pre f m)  (hp : pcount r = some rz) (hq : ∀ m', Ext m m' → Q (.c (Il rz)) m') : Wc prog tbl 110 [.agg 2 [(Il r.Lo), (Il r.Hi)]] m Q := by
 have j := hS.st
 obtain ⟨l, _⟩ : ∃ τ : Nat → Nat, True := ⟨fun _ => 0, trivial⟩
 refine w110 ?_
 unfold pcount at hp
 intro n b
 obtain ⟨h, d, i, a⟩ := j.blk b l 1
 refine ⟨trivial, _, a.bk.rc rfl, trivial, _, a.bk.rc rfl, ?_⟩
 refine gdi hp fun e hp => ?_
 refine gdi hp fun g hp => ?_
 obtain rfl := Option.some.inj hp
 exact hq _ d.ext'
theorem s_within {r : Rg} {low : Int} {high : Int} {m f : M} {Q : V → M → Prop} {rz : Bool} (hS : Pre f m)  (hp : pwithin r low high = some rz) (hq : ∀ m', Ext m m' → Q (.c (.bool rz)) m') : Wc prog tbl 133 [.agg 2 [(Il r.Lo), (Il r.Hi)], .c (Il low), .c (Il high)] m Q := by
 have j := hS.st
 obtain ⟨l, _⟩ : ∃ τ : Nat → Nat, True := ⟨fun _ => 0, trivial⟩
 refine w133 ?_
 unfold pwithin at hp
 intro n d
 obtain ⟨h, b, i, a⟩ := j.blk d l 1
 refine ⟨trivial, _, a.bk.rc rfl, ?_⟩
 refine ifd hp (fun e hp => ?_) fun e hp => ?_; rotate_left
 ·obtain rfl := Option.some.inj hp
  exact hq _ b.ext'
 refine ⟨trivial, _, a.bk.rc rfl, trivial, _, a.bk.rc rfl, ?_⟩
 refine ifd hp (fun g hp => ?_) fun g hp => ?_; rotate_left
 ·obtain rfl := Option.some.inj hp
  exact hq _ b.ext'
 refine ⟨trivial, _, a.bk.rc rfl, ?_⟩
 obtain rfl := Option.some.inj hp
 exact hq _ b.ext'
theorem s_isHundredths {n : Int} {m f : M} {Q : V → M → Prop} {rz : Bool} (hS : Pre f m)  (hp : pisHundredths n = some rz) (hq : ∀ m', Ext m m' → Q (.c (.bool rz)) m') : Wc prog tbl 84 [.c (Il n)] m Q := by
 have e := hS.st
 obtain ⟨i, _⟩ : ∃ τ : Nat → Nat, True := ⟨fun _ => 0, trivial⟩
 refine w84 ?_
 unfold pisHundredths at hp
 obtain ⟨g, a, hp⟩ := bsome hp
 refine s_has (r := ({ Lo := (0 : Int), Hi := (100 : Int) } : Rg)) (n := n) e.pre  a fun j b => ?_
 obtain ⟨d, h⟩ := e.call b i
 refine ⟨_, rfl, ?_⟩
 obtain rfl := Option.some.inj hp
 exact hq _ d.ext'
theorem s_hasField {s : Ssn} {n : Int} {ca101 ca102 ca103 : C} {m f : M} {Q : V → M → Prop} {rz : Bool} (hS : Pre f m) (ha101 : Sl f ca101 s.Rules) (ha102 : Sl f ca102 s.Fields) (ha103 : Sl f ca103 s.Visits) (hp : phasField s n = some rz) (hq : ∀ m', Ext m m' → Q (.c (.bool rz)) m') : Wc prog tbl 111 [.agg 4 [(Il s.Last), ca101, ca102, ca103], .c (Il n)] m Q := by
 have q := hS.st
 obtain ⟨t, _⟩ : ∃ τ : Nat → Nat, True := ⟨fun _ => 0, trivial⟩
 refine w111 ?_
 unfold phasField at hp
 intro u d
 obtain ⟨e, a, l, g⟩ := q.blk d t 1
 refine ⟨trivial, _, g.bk.rc rfl, ha102.isSl, ?_⟩
 obtain ⟨b, hp⟩ := gd_some hp
 refine ⟨(by first | exact b | (rw [ha102.slLen]; exact b)), ?_⟩
 try rw [ha102.slLen]
 obtain ⟨o, h, hp⟩ := bsome hp
 refine s_has (r := ({ Lo := (0 : Int), Hi := ((s.Fields.length : Int) - (1 : Int)) } : Rg)) (n := n) a.pre  h fun x i => ?_
 obtain ⟨j, p⟩ := a.call i e
 refine ⟨_, rfl, ?_⟩
 obtain rfl := Option.some.inj hp
 exact hq _ j.ext'
theorem s_hasWeek {s : Ssn} {n : Int} {ca101 ca102 ca103 : C} {m f : M} {Q : V → M → Prop} {rz : Bool} (hS : Pre f m) (ha101 : Sl f ca101 s.Rules) (ha102 : Sl f ca102 s.Fields) (ha103 : Sl f ca103 s.Visits) (hp : phasWeek s n = some rz) (hq : ∀ m', Ext m m' → Q (.c (.bool rz)) m') : Wc prog tbl 69 [.agg 4 [(Il s.Last), ca101, ca102, ca103], .c (Il n)] m Q := by
 have p := hS.st
 obtain ⟨q, _⟩ : ∃ τ : Nat → Nat, True := ⟨fun _ => 0, trivial⟩
 refine w69 ?_
 unfold phasWeek at hp
 intro t b
 obtain ⟨d, a, j, e⟩ := p.blk b q 1
 refine ⟨trivial, _, e.bk.rc rfl, ?_⟩
 obtain ⟨l, g, hp⟩ := bsome hp
 refine s_has (r := ({ Lo := (0 : Int), Hi := s.Last } : Rg)) (n := n) a.pre  g fun u h => ?_
 obtain ⟨i, o⟩ := a.call h d
 refine ⟨_, rfl, ?_⟩
 obtain rfl := Option.some.inj hp
 exact hq _ i.ext'
theorem s_tooMany {s : Ssn} {ca101 ca102 ca103 : C} {m f : M} {Q : V → M → Prop} {rz : Bool} (hS : Pre f m) (ha101 : Sl f ca101 s.Rules) (ha102 : Sl f ca102 s.Fields) (ha103 : Sl f ca103 s.Visits) (hp : ptooMany s = some rz) (hq : ∀ m', Ext m m' → Q (.c (.bool rz)) m') : Wc prog tbl 60 [.agg 4 [(Il s.Last), ca101, ca102, ca103]] m Q := by
 have l := hS.st
 obtain ⟨n, _⟩ : ∃ τ : Nat → Nat, True := ⟨fun _ => 0, trivial⟩
 refine w60 ?_
 unfold ptooMany at hp
 intro o d
 obtain ⟨i, a, j, b⟩ := l.blk d n 1
 refine ⟨trivial, _, b.bk.rc rfl, ?_⟩
 refine ifd hp (fun e hp => ?_) fun e hp => ?_
 ·obtain rfl := Option.some.inj hp
  exact hq _ a.ext'
 refine ⟨trivial, _, b.bk.rc rfl, ha101.isSl, ?_⟩
 try rw [ha101.slLen]
 refine ifd hp (fun g hp => ?_) fun g hp => ?_
 ·obtain rfl := Option.some.inj hp
  exact hq _ a.ext'
 refine ⟨trivial, _, b.bk.rc rfl, ha102.isSl, ?_⟩
 try rw [ha102.slLen]
 refine ifd hp (fun h hp => ?_) fun h hp => ?_
 ·obtain rfl := Option.some.inj hp
  exact hq _ a.ext'
 refine ⟨trivial, _, b.bk.rc rfl, ha103.isSl, ?_⟩
 try rw [ha103.slLen]
 obtain rfl := Option.some.inj hp
 exact hq _ a.ext'
theorem s_eachI1 {x : Int} {passes : Int → Option (Bool)} {b0 : Nat} {cb000 : C} {m f : M} {Q : V → M → Prop} {rz : Bool} (hS : Pre f m) (hb0 : Bk f b0 1 [cb000]) (hb000 : Fv_Int_Bool f cb000 passes) (hp : peachI1 x passes = some rz) (hq : ∀ m', Ext m m' → Q (.c (.bool rz)) m') : Wc prog tbl 144 [.c (Il x), .c (.ptr b0 0)] m Q := by
 have e := hS.st
 obtain ⟨i, _⟩ : ∃ τ : Nat → Nat, True := ⟨fun _ => 0, trivial⟩
 refine c144 ?_
 unfold peachI1 at hp
 refine ⟨_, (hb0.sub e.sub).rc rfl, ?_⟩
 obtain ⟨g, a, hp⟩ := bsome hp
 refine hb000 _ _ _ _ _ (Sub.refl _) e.pre  a fun j b => ?_
 obtain ⟨d, h⟩ := e.call b i
 refine ⟨_, rfl, ?_⟩
 obtain rfl := Option.some.inj hp
 exact hq _ d.ext'
theorem s_indexI {l : List Int} {p : Int → Option (Bool)} {ca100 ca200 : C} {m f : M} {Q : V → M → Prop} {rz : Int} (hS : Pre f m) (ha100 : Sl f ca100 l) (ha200 : Fv_Int_Bool f ca200 p) (hp : pindexI l p = some rz) (hq : ∀ m', Ext m m' → Q (.c (Il rz)) m') : Wc prog tbl 146 [.c ca100, .c ca200] m Q := by
 have D := hS.st
 obtain ⟨F, _⟩ : ∃ τ : Nat → Nat, True := ⟨fun _ => 0, trivial⟩
 refine w146 ?_
 unfold pindexI at hp
 refine ⟨ha100.isSl, ?_⟩
 intro G y
 have hgo : ∀ (b : Nat) (u : Int) (j : Int) (n : M) (d : Nat → Nat), St (Fm.of m) f f n → pindexI_L0 l p b j = some rz → G [.c (Il u), .c (Il j)] n := by
  intro b
  induction b with
  | zero => intro u j n d a hp; cases hp
  | succ b x =>
   intro u j n d a hp
   refine y _ _ _ ?_
   rw [pindexI_L0] at hp
   try rw [ha100.slLen]
   refine ifd hp (fun o hp => ?_) fun o hp => ?_; rotate_left
   ·obtain rfl := Option.some.inj hp
    exact hq _ a.ext'
   obtain ⟨z, e, hp⟩ := bsome hp
   obtain ⟨I, i, g, e⟩ := idx_some e
   refine ⟨I, i, (by first | exact g | (rw [ha100.slLen]; exact g)), _, (ha100.rdI e a.sub), ?_⟩
   obtain ⟨A, q, hp⟩ := bsome hp
   refine ha200 _ _ _ _ _ (Sub.refl _) a.pre  q fun J r => ?_
   obtain ⟨h, B⟩ := a.call r d
   refine ⟨_, rfl, ?_⟩
   refine ifbb hp (fun s hp => ?_) fun s hp => ?_
   ·obtain rfl := Option.some.inj hp
    exact hq _ h.ext'
   refine gdi hp fun t hp => ?_
   exact x _ _ _ d h hp
 exact hgo _ _ _ _ F D hp
theorem s_containsI {l : List Int} {p : Int → Option (Bool)} {ca100 ca200 : C} {m f : M} {Q : V → M → Prop} {rz : Bool} (hS : Pre f m) (ha100 : Sl f ca100 l) (ha200 : Fv_Int_Bool f ca200 p) (hp : pcontainsI l p = some rz) (hq : ∀ m', Ext m m' → Q (.c (.bool rz)) m') : Wc prog tbl 143 [.c ca100, .c ca200] m Q := by
 have e := hS.st
 obtain ⟨i, _⟩ : ∃ τ : Nat → Nat, True := ⟨fun _ => 0, trivial⟩
 refine w143 ?_
 unfold pcontainsI at hp
 obtain ⟨g, a, hp⟩ := bsome hp
 refine s_indexI (l := l) (p := p) e.pre ha100 ha200 a fun j b => ?_
 obtain ⟨d, h⟩ := e.call b i
 refine ⟨_, rfl, ?_⟩
 obtain rfl := Option.some.inj hp
 exact hq _ d.ext'
theorem s_eachI {l : List Int} {passes : Int → Option (Bool)} {ca100 ca200 : C} {m f : M} {Q : V → M → Prop} {rz : Bool} (hS : Pre f m) (ha100 : Sl f ca100 l) (ha200 : Fv_Int_Bool f ca200 passes) (hp : peachI l passes = some rz) (hq : ∀ m', Ext m m' → Q (.c (.bool rz)) m') : Wc prog tbl 132 [.c ca100, .c ca200] m Q := by
 have z := hS.st
 obtain ⟨A, _⟩ : ∃ τ : Nat → Nat, True := ⟨fun _ => 0, trivial⟩
 refine w132 ?_
 unfold peachI at hp
 intro B h
 obtain ⟨i, j, u, n⟩ := z.blk h A 1
 obtain ⟨o, b, d, e⟩ := n.freeze j
 have g : Fv_Int_Bool o ((C.fn (Fn.func 144) [] [(W.c (C0.ptr m.nxt 0))])) (fun a => peachI1 a passes) := by
  intro f' m' a r Q hs hpre  hg hq
  exact s_eachI1 hpre (e.sub hs) ((ha200.sub d.fs).sub hs) hg hq
 obtain ⟨x, q, hp⟩ := bsome hp
 refine s_containsI (l := l) (p := (fun a => peachI1 a passes)) b.pre (ha100.sub d.fs) g q fun D s => ?_
 obtain ⟨t, y⟩ := b.call s i
 refine ⟨_, rfl, ?_⟩
 obtain rfl := Option.some.inj hp
 exact hq _ t.ext'
theorem s_eachL1 {x : List Int} {passes : List Int → Option (Bool)} {b0 : Nat} {ca100 cb000 : C} {m f : M} {Q : V → M → Prop} {rz : Bool} (hS : Pre f m) (ha100 : Sl f ca100 x) (hb0 : Bk f b0 1 [cb000]) (hb000 : Fv_LInt_Bool f cb000 passes) (hp : peachL1 x passes = some rz) (hq : ∀ m', Ext m m' → Q (.c (.bool rz)) m') : Wc prog tbl 131 [.c ca100, .c (.ptr b0 0)] m Q := by
 have e := hS.st
 obtain ⟨i, _⟩ : ∃ τ : Nat → Nat, True := ⟨fun _ => 0, trivial⟩
 refine c131 ?_
 unfold peachL1 at hp
 refine ⟨_, (hb0.sub e.sub).rc rfl, ?_⟩
 obtain ⟨g, a, hp⟩ := bsome hp
 refine hb000 _ _ _ _ _ _ (Sub.refl _) e.pre ha100 a fun j b => ?_
 obtain ⟨d, h⟩ := e.call b i
 refine ⟨_, rfl, ?_⟩
 obtain rfl := Option.some.inj hp
 exact hq _ d.ext'
theorem s_indexL {l : List (List Int)} {p : List Int → Option (Bool)} {ca100 ca200 : C} {m f : M} {Q : V → M → Prop} {rz : Int} (hS : Pre f m) (ha100 : Sl f ca100 l) (ha200 : Fv_LInt_Bool f ca200 p) (hp : pindexL l p = some rz) (hq : ∀ m', Ext m m' → Q (.c (Il rz)) m') : Wc prog tbl 142 [.c ca100, .c ca200] m Q := by
 have I := hS.st
 obtain ⟨J, _⟩ : ∃ τ : Nat → Nat, True := ⟨fun _ => 0, trivial⟩
 refine w142 ?_
 unfold pindexL at hp
 refine ⟨ha100.isSl, ?_⟩
 intro N A
 have hgo : ∀ (b : Nat) (y : Int) (j : Int) (n : M) (d : Nat → Nat), St (Fm.of m) f f n → pindexL_L0 l p b j = some rz → N [.c (Il y), .c (Il j)] n := by
  intro b
  induction b with
  | zero => intro y j n d a hp; cases hp
  | succ b z =>
   intro y j n d a hp
   refine A _ _ _ ?_
   rw [pindexL_L0] at hp
   try rw [ha100.slLen]
   refine ifd hp (fun o hp => ?_) fun o hp => ?_; rotate_left
   ·obtain rfl := Option.some.inj hp
    exact hq _ a.ext'
   obtain ⟨B, e, hp⟩ := bsome hp
   obtain ⟨O, i, g, e⟩ := idx_some e
   obtain ⟨D, q, r⟩ := ha100.rdS e
   refine ⟨O, i, (by first | exact g | (rw [ha100.slLen]; exact g)), _, (q _ a.sub), ?_⟩
   obtain ⟨F, s, hp⟩ := bsome hp
   refine ha200 _ _ _ _ _ _ (Sub.refl _) a.pre r s fun P t => ?_
   obtain ⟨h, G⟩ := a.call t d
   refine ⟨_, rfl, ?_⟩
   refine ifbb hp (fun u hp => ?_) fun u hp => ?_
   ·obtain rfl := Option.some.inj hp
    exact hq _ h.ext'
   refine gdi hp fun x hp => ?_
   exact z _ _ _ d h hp
 exact hgo _ _ _ _ J I hp
theorem s_containsL {l : List (List Int)} {p : List Int → Option (Bool)} {ca100 ca200 : C} {m f : M} {Q : V → M → Prop} {rz : Bool} (hS : Pre f m) (ha100 : Sl f ca100 l) (ha200 : Fv_LInt_Bool f ca200 p) (hp : pcontainsL l p = some rz) (hq : ∀ m', Ext m m' → Q (.c (.bool rz)) m') : Wc prog tbl 130 [.c ca100, .c ca200] m Q := by
 have e := hS.st
 obtain ⟨i, _⟩ : ∃ τ : Nat → Nat, True := ⟨fun _ => 0, trivial⟩
 refine w130 ?_
 unfold pcontainsL at hp
 obtain ⟨g, a, hp⟩ := bsome hp
 refine s_indexL (l := l) (p := p) e.pre ha100 ha200 a fun j b => ?_
 obtain ⟨d, h⟩ := e.call b i
 refine ⟨_, rfl, ?_⟩
 obtain rfl := Option.some.inj hp
 exact hq _ d.ext'
theorem s_eachL {l : List (List Int)} {passes : List Int → Option (Bool)} {ca100 ca200 : C} {m f : M} {Q : V → M → Prop} {rz : Bool} (hS : Pre f m) (ha100 : Sl f ca100 l) (ha200 : Fv_LInt_Bool f ca200 passes) (hp : peachL l passes = some rz) (hq : ∀ m', Ext m m' → Q (.c (.bool rz)) m') : Wc prog tbl 103 [.c ca100, .c ca200] m Q := by
 have B := hS.st
 obtain ⟨D, _⟩ : ∃ τ : Nat → Nat, True := ⟨fun _ => 0, trivial⟩
 refine w103 ?_
 unfold peachL at hp
 intro F h
 obtain ⟨i, j, x, n⟩ := B.blk h D 1
 obtain ⟨o, b, d, e⟩ := n.freeze j
 have g : Fv_LInt_Bool o ((C.fn (Fn.func 131) [] [(W.c (C0.ptr m.nxt 0))])) (fun a => peachL1 a passes) := by
  intro f' m' a y r Q hs hpre q hg hq
  exact s_eachL1 hpre q (e.sub hs) ((ha200.sub d.fs).sub hs) hg hq
 obtain ⟨z, s, hp⟩ := bsome hp
 refine s_containsL (l := l) (p := (fun a => peachL1 a passes)) b.pre (ha100.sub d.fs) g s fun G t => ?_
 obtain ⟨u, A⟩ := b.call t i
 refine ⟨_, rfl, ?_⟩
 obtain rfl := Option.some.inj hp
 exact hq _ u.ext'
theorem s_eachF1 {x : Fld} {passes : Fld → Option (Bool)} {b0 : Nat} {cb000 : C} {m f : M} {Q : V → M → Prop} {rz : Bool} (hS : Pre f m) (hb0 : Bk f b0 1 [cb000]) (hb000 : Fv_Fld_Bool f cb000 passes) (hp : peachF1 x passes = some rz) (hq : ∀ m', Ext m m' → Q (.c (.bool rz)) m') : Wc prog tbl 109 [.agg 7 [(Il x.Crop), (Il x.Week.Lo), (Il x.Week.Hi), (Il x.Damage.Lo), (Il x.Damage.Hi), (Il x.Old.Lo), (Il x.Old.Hi)], .c (.ptr b0 0)] m Q := by
 have o := hS.st
 obtain ⟨p, _⟩ : ∃ τ : Nat → Nat, True := ⟨fun _ => 0, trivial⟩
 refine c109 ?_
 unfold peachF1 at hp
 intro r b
 obtain ⟨d, a, j, e⟩ := o.blk b p 1
 refine ⟨_, (hb0.sub a.sub).rc rfl, _, _, _, _, _, _, _, e.bk.ra, ?_⟩
 obtain ⟨l, g, hp⟩ := bsome hp
 refine hb000 _ _ _ _ _ (Sub.refl _) a.pre  g fun q h => ?_
 obtain ⟨i, n⟩ := a.call h d
 refine ⟨_, rfl, ?_⟩
 obtain rfl := Option.some.inj hp
 exact hq _ i.ext'
theorem s_indexF {l : List Fld} {p : Fld → Option (Bool)} {ca100 ca200 : C} {m f : M} {Q : V → M → Prop} {rz : Int} (hS : Pre f m) (ha100 : Sl f ca100 l) (ha200 : Fv_Fld_Bool f ca200 p) (hp : pindexF l p = some rz) (hq : ∀ m', Ext m m' → Q (.c (Il rz)) m') : Wc prog tbl 136 [.c ca100, .c ca200] m Q := by
 have F := hS.st
 obtain ⟨G, _⟩ : ∃ τ : Nat → Nat, True := ⟨fun _ => 0, trivial⟩
 refine w136 ?_
 unfold pindexF at hp
 refine ⟨ha100.isSl, ?_⟩
 intro I z
 have hgo : ∀ (b : Nat) (x : Int) (j : Int) (n : M) (d : Nat → Nat), St (Fm.of m) f f n → pindexF_L0 l p b j = some rz → I [.c (Il x), .c (Il j)] n := by
  intro b
  induction b with
  | zero => intro x j n d a hp; cases hp
  | succ b y =>
   intro x j n d a hp
   refine z _ _ _ ?_
   rw [pindexF_L0] at hp
   try rw [ha100.slLen]
   refine ifd hp (fun o hp => ?_) fun o hp => ?_; rotate_left
   ·obtain rfl := Option.some.inj hp
    exact hq _ a.ext'
   obtain ⟨A, e, hp⟩ := bsome hp
   obtain ⟨J, i, g, e⟩ := idx_some e
   obtain ⟨_, q⟩ := rd_Fld ha100 e
   refine ⟨J, i, (by first | exact g | (rw [ha100.slLen]; exact g)), _, _, _, _, _, _, _, (q _ a.sub).1, ?_⟩
   obtain ⟨B, r, hp⟩ := bsome hp
   refine ha200 _ _ _ _ _ (Sub.refl _) a.pre  r fun N s => ?_
   obtain ⟨h, D⟩ := a.call s d
   refine ⟨_, rfl, ?_⟩
   refine ifbb hp (fun t hp => ?_) fun t hp => ?_
   ·obtain rfl := Option.some.inj hp
    exact hq _ h.ext'
   refine gdi hp fun u hp => ?_
   exact y _ _ _ d h hp
 exact hgo _ _ _ _ G F hp
theorem s_containsF {l : List Fld} {p : Fld → Option (Bool)} {ca100 ca200 : C} {m f : M} {Q : V → M → Prop} {rz : Bool} (hS : Pre f m) (ha100 : Sl f ca100 l) (ha200 : Fv_Fld_Bool f ca200 p) (hp : pcontainsF l p = some rz) (hq : ∀ m', Ext m m' → Q (.c (.bool rz)) m') : Wc prog tbl 108 [.c ca100, .c ca200] m Q := by
 have e := hS.st
 obtain ⟨i, _⟩ : ∃ τ : Nat → Nat, True := ⟨fun _ => 0, trivial⟩
 refine w108 ?_
 unfold pcontainsF at hp
 obtain ⟨g, a, hp⟩ := bsome hp
 refine s_indexF (l := l) (p := p) e.pre ha100 ha200 a fun j b => ?_
 obtain ⟨d, h⟩ := e.call b i
 refine ⟨_, rfl, ?_⟩
 obtain rfl := Option.some.inj hp
 exact hq _ d.ext'
theorem s_eachF {l : List Fld} {passes : Fld → Option (Bool)} {ca100 ca200 : C} {m f : M} {Q : V → M → Prop} {rz : Bool} (hS : Pre f m) (ha100 : Sl f ca100 l) (ha200 : Fv_Fld_Bool f ca200 passes) (hp : peachF l passes = some rz) (hq : ∀ m', Ext m m' → Q (.c (.bool rz)) m') : Wc prog tbl 62 [.c ca100, .c ca200] m Q := by
 have z := hS.st
 obtain ⟨A, _⟩ : ∃ τ : Nat → Nat, True := ⟨fun _ => 0, trivial⟩
 refine w62 ?_
 unfold peachF at hp
 intro B h
 obtain ⟨i, j, u, n⟩ := z.blk h A 1
 obtain ⟨o, b, d, e⟩ := n.freeze j
 have g : Fv_Fld_Bool o ((C.fn (Fn.func 109) [] [(W.c (C0.ptr m.nxt 0))])) (fun a => peachF1 a passes) := by
  intro f' m' a r Q hs hpre  hg hq
  exact s_eachF1 hpre (e.sub hs) ((ha200.sub d.fs).sub hs) hg hq
 obtain ⟨x, q, hp⟩ := bsome hp
 refine s_containsF (l := l) (p := (fun a => peachF1 a passes)) b.pre (ha100.sub d.fs) g q fun D s => ?_
 obtain ⟨t, y⟩ := b.call s i
 refine ⟨_, rfl, ?_⟩
 obtain rfl := Option.some.inj hp
 exact hq _ t.ext'
theorem s_eachV1 {x : Vis} {passes : Vis → Option (Bool)} {b0 : Nat} {cb000 : C} {m f : M} {Q : V → M → Prop} {rz : Bool} (hS : Pre f m) (hb0 : Bk f b0 1 [cb000]) (hb000 : Fv_Vis_Bool f cb000 passes) (hp : peachV1 x passes = some rz) (hq : ∀ m', Ext m m' → Q (.c (.bool rz)) m') : Wc prog tbl 135 [.agg 4 [(Il x.Field), (Il x.Week), (Il x.Seen.Lo), (Il x.Seen.Hi)], .c (.ptr b0 0)] m Q := by
 have o := hS.st
 obtain ⟨p, _⟩ : ∃ τ : Nat → Nat, True := ⟨fun _ => 0, trivial⟩
 refine c135 ?_
 unfold peachV1 at hp
 intro q b
 obtain ⟨d, a, j, e⟩ := o.blk b p 1
 refine ⟨_, (hb0.sub a.sub).rc rfl, _, _, _, _, e.bk.ra, ?_⟩
 obtain ⟨l, g, hp⟩ := bsome hp
 refine hb000 _ _ _ _ _ (Sub.refl _) a.pre  g fun r h => ?_
 obtain ⟨i, n⟩ := a.call h d
 refine ⟨_, rfl, ?_⟩
 obtain rfl := Option.some.inj hp
 exact hq _ i.ext'
theorem s_indexV {l : List Vis} {p : Vis → Option (Bool)} {ca100 ca200 : C} {m f : M} {Q : V → M → Prop} {rz : Int} (hS : Pre f m) (ha100 : Sl f ca100 l) (ha200 : Fv_Vis_Bool f ca200 p) (hp : pindexV l p = some rz) (hq : ∀ m', Ext m m' → Q (.c (Il rz)) m') : Wc prog tbl 145 [.c ca100, .c ca200] m Q := by
 have F := hS.st
 obtain ⟨G, _⟩ : ∃ τ : Nat → Nat, True := ⟨fun _ => 0, trivial⟩
 refine w145 ?_
 unfold pindexV at hp
 refine ⟨ha100.isSl, ?_⟩
 intro I z
 have hgo : ∀ (b : Nat) (x : Int) (j : Int) (n : M) (d : Nat → Nat), St (Fm.of m) f f n → pindexV_L0 l p b j = some rz → I [.c (Il x), .c (Il j)] n := by
  intro b
  induction b with
  | zero => intro x j n d a hp; cases hp
  | succ b y =>
   intro x j n d a hp
   refine z _ _ _ ?_
   rw [pindexV_L0] at hp
   try rw [ha100.slLen]
   refine ifd hp (fun o hp => ?_) fun o hp => ?_; rotate_left
   ·obtain rfl := Option.some.inj hp
    exact hq _ a.ext'
   obtain ⟨A, e, hp⟩ := bsome hp
   obtain ⟨J, i, g, e⟩ := idx_some e
   obtain ⟨_, q⟩ := rd_Vis ha100 e
   refine ⟨J, i, (by first | exact g | (rw [ha100.slLen]; exact g)), _, _, _, _, (q _ a.sub).1, ?_⟩
   obtain ⟨B, r, hp⟩ := bsome hp
   refine ha200 _ _ _ _ _ (Sub.refl _) a.pre  r fun N s => ?_
   obtain ⟨h, D⟩ := a.call s d
   refine ⟨_, rfl, ?_⟩
   refine ifbb hp (fun t hp => ?_) fun t hp => ?_
   ·obtain rfl := Option.some.inj hp
    exact hq _ h.ext'
   refine gdi hp fun u hp => ?_
   exact y _ _ _ d h hp
 exact hgo _ _ _ _ G F hp
theorem s_containsV {l : List Vis} {p : Vis → Option (Bool)} {ca100 ca200 : C} {m f : M} {Q : V → M → Prop} {rz : Bool} (hS : Pre f m) (ha100 : Sl f ca100 l) (ha200 : Fv_Vis_Bool f ca200 p) (hp : pcontainsV l p = some rz) (hq : ∀ m', Ext m m' → Q (.c (.bool rz)) m') : Wc prog tbl 134 [.c ca100, .c ca200] m Q := by
 have e := hS.st
 obtain ⟨i, _⟩ : ∃ τ : Nat → Nat, True := ⟨fun _ => 0, trivial⟩
 refine w134 ?_
 unfold pcontainsV at hp
 obtain ⟨g, a, hp⟩ := bsome hp
 refine s_indexV (l := l) (p := p) e.pre ha100 ha200 a fun j b => ?_
 obtain ⟨d, h⟩ := e.call b i
 refine ⟨_, rfl, ?_⟩
 obtain rfl := Option.some.inj hp
 exact hq _ d.ext'
theorem s_eachV {l : List Vis} {passes : Vis → Option (Bool)} {ca100 ca200 : C} {m f : M} {Q : V → M → Prop} {rz : Bool} (hS : Pre f m) (ha100 : Sl f ca100 l) (ha200 : Fv_Vis_Bool f ca200 passes) (hp : peachV l passes = some rz) (hq : ∀ m', Ext m m' → Q (.c (.bool rz)) m') : Wc prog tbl 106 [.c ca100, .c ca200] m Q := by
 have z := hS.st
 obtain ⟨A, _⟩ : ∃ τ : Nat → Nat, True := ⟨fun _ => 0, trivial⟩
 refine w106 ?_
 unfold peachV at hp
 intro B h
 obtain ⟨i, j, u, n⟩ := z.blk h A 1
 obtain ⟨o, b, d, e⟩ := n.freeze j
 have g : Fv_Vis_Bool o ((C.fn (Fn.func 135) [] [(W.c (C0.ptr m.nxt 0))])) (fun a => peachV1 a passes) := by
  intro f' m' a r Q hs hpre  hg hq
  exact s_eachV1 hpre (e.sub hs) ((ha200.sub d.fs).sub hs) hg hq
 obtain ⟨x, q, hp⟩ := bsome hp
 refine s_containsV (l := l) (p := (fun a => peachV1 a passes)) b.pre (ha100.sub d.fs) g q fun D s => ?_
 obtain ⟨t, y⟩ := b.call s i
 refine ⟨_, rfl, ?_⟩
 obtain rfl := Option.some.inj hp
 exact hq _ t.ext'
theorem s_validRule {s : Ssn} {rule : List Int} {ca101 ca102 ca103 ca200 : C} {m f : M} {Q : V → M → Prop} {rz : Bool} (hS : Pre f m) (ha101 : Sl f ca101 s.Rules) (ha102 : Sl f ca102 s.Fields) (ha103 : Sl f ca103 s.Visits) (ha200 : Sl f ca200 rule) (hp : pvalidRule s rule = some rz) (hq : ∀ m', Ext m m' → Q (.c (.bool rz)) m') : Wc prog tbl 104 [.agg 4 [(Il s.Last), ca101, ca102, ca103], .c ca200] m Q := by
 have x := hS.st
 obtain ⟨y, _⟩ : ∃ τ : Nat → Nat, True := ⟨fun _ => 0, trivial⟩
 refine w104 ?_
 unfold pvalidRule at hp
 intro z e
 obtain ⟨g, b, q, h⟩ := x.blk e y 1
 refine ⟨ha200.isSl, trivial, _, h.bk.rc rfl, ?_⟩
 refine gdi hp fun i hp => ?_
 try rw [ha200.slLen]
 refine ifd hp (fun j hp => ?_) fun j hp => ?_; rotate_left
 ·obtain rfl := Option.some.inj hp
  exact hq _ b.ext'
 have d : Fv_Int_Bool f ((C.fn (Fn.func 84) [] [])) (fun a => pisHundredths a) := by
  intro f' m' a r Q hs hpre  hg hq
  exact s_isHundredths hpre  hg hq
 obtain ⟨t, n, hp⟩ := bsome hp
 refine s_eachI (l := rule) (passes := (fun a => pisHundredths a)) b.pre ha200 d n fun A o => ?_
 obtain ⟨p, u⟩ := b.call o g
 refine ⟨_, rfl, ?_⟩
 obtain rfl := Option.some.inj hp
 exact hq _ p.ext'
theorem s_validField {s : Ssn} {fl : Fld} {ca101 ca102 ca103 : C} {m f : M} {Q : V → M → Prop} {rz : Bool} (hS : Pre f m) (ha101 : Sl f ca101 s.Rules) (ha102 : Sl f ca102 s.Fields) (ha103 : Sl f ca103 s.Visits) (hp : pvalidField s fl = some rz) (hq : ∀ m', Ext m m' → Q (.c (.bool rz)) m') : Wc prog tbl 105 [.agg 4 [(Il s.Last), ca101, ca102, ca103], .agg 7 [(Il fl.Crop), (Il fl.Week.Lo), (Il fl.Week.Hi), (Il fl.Damage.Lo), (Il fl.Damage.Hi), (Il fl.Old.Lo), (Il fl.Old.Hi)]] m Q := by
 have S0 := hS.st
 obtain ⟨τ0, _⟩ : ∃ τ : Nat → Nat, True := ⟨fun _ => 0, trivial⟩
 refine w105 ?_
 unfold pvalidField at hp
 intro m0 t
 obtain ⟨u, x, da, y⟩ := S0.blk t τ0 1
 intro m1 z
 obtain ⟨a, g, A, h⟩ := x.blk z u 2
 have i := y.k A
 refine ⟨trivial, _, i.bk.rc rfl, ha101.isSl, ?_⟩
 obtain ⟨l, hp⟩ := gd_some hp
 refine ⟨(by first | exact l | (rw [ha101.slLen]; exact l)), trivial, _, h.bk.rc rfl, ?_⟩
 try rw [ha101.slLen]
 obtain ⟨ea, B, hp⟩ := bsome hp
 refine s_has (r := ({ Lo := (0 : Int), Hi := ((s.Rules.length : Int) - (1 : Int)) } : Rg)) (n := fl.Crop) g.pre  B fun m5 D => ?_
 obtain ⟨b, o⟩ := g.call D a
 have F := i.k o
 have p := h.k o
 refine ⟨_, rfl, ?_⟩
 refine ifbb hp (fun G hp => ?_) fun G hp => ?_; rotate_left
 ·obtain rfl := Option.some.inj hp
  exact hq _ b.ext'
 refine ⟨trivial, _, _, p.bk.rp (k := 1) (j := 2) rfl (by omega), trivial, _, F.bk.rc rfl, ?_⟩
 obtain ⟨fa, I, hp⟩ := bsome hp
 refine s_within (r := fl.Week) (low := (0 : Int)) (high := s.Last) b.pre  I fun la J => ?_
 obtain ⟨d, N⟩ := b.call J a
 have q := p.k N
 refine ⟨_, rfl, ?_⟩
 refine ifbb hp (fun O hp => ?_) fun O hp => ?_; rotate_left
 ·obtain rfl := Option.some.inj hp
  exact hq _ d.ext'
 refine ⟨trivial, _, _, q.bk.rp (k := 3) (j := 2) rfl (by omega), ?_⟩
 obtain ⟨ga, P, hp⟩ := bsome hp
 refine s_within (r := fl.Damage) (low := (0 : Int)) (high := (100 : Int)) d.pre  P fun ma S => ?_
 obtain ⟨e, T⟩ := d.call S a
 have Y := q.k T
 refine ⟨_, rfl, ?_⟩
 refine ifbb hp (fun Z hp => ?_) fun Z hp => ?_; rotate_left
 ·obtain rfl := Option.some.inj hp
  exact hq _ e.ext'
 refine ⟨trivial, _, _, Y.bk.rp (k := 5) (j := 2) rfl (by omega), ?_⟩
 obtain ⟨ha, aa, hp⟩ := bsome hp
 refine s_within (r := fl.Old) (low := (0 : Int)) (high := (100 : Int)) e.pre  aa fun na ba => ?_
 obtain ⟨ca, ia⟩ := e.call ba a
 refine ⟨_, rfl, ?_⟩
 obtain rfl := Option.some.inj hp
 exact hq _ ca.ext'
theorem s_validVisit {s : Ssn} {v : Vis} {ca101 ca102 ca103 : C} {m f : M} {Q : V → M → Prop} {rz : Bool} (hS : Pre f m) (ha101 : Sl f ca101 s.Rules) (ha102 : Sl f ca102 s.Fields) (ha103 : Sl f ca103 s.Visits) (hp : pvalidVisit s v = some rz) (hq : ∀ m', Ext m m' → Q (.c (.bool rz)) m') : Wc prog tbl 107 [.agg 4 [(Il s.Last), ca101, ca102, ca103], .agg 4 [(Il v.Field), (Il v.Week), (Il v.Seen.Lo), (Il v.Seen.Hi)]] m Q := by
 have S0 := hS.st
 obtain ⟨τ0, _⟩ : ∃ τ : Nat → Nat, True := ⟨fun _ => 0, trivial⟩
 refine w107 ?_
 unfold pvalidVisit at hp
 intro m0 o
 obtain ⟨p, q, S, t⟩ := S0.blk o τ0 1
 intro m1 u
 obtain ⟨a, e, x, g⟩ := q.blk u p 2
 have h := t.k x
 refine ⟨_, _, _, _, h.bk.ra, trivial, _, g.bk.rc rfl, ?_⟩
 obtain ⟨T, y, hp⟩ := bsome hp
 refine s_hasField (s := s) (n := v.Field) e.pre ha101 ha102 ha103 y fun m8 z => ?_
 obtain ⟨b, i⟩ := e.call z a
 have A := h.k i
 have l := g.k i
 refine ⟨_, rfl, ?_⟩
 refine ifbb hp (fun B hp => ?_) fun B hp => ?_; rotate_left
 ·obtain rfl := Option.some.inj hp
  exact hq _ b.ext'
 refine ⟨_, _, _, _, A.bk.ra, trivial, _, l.bk.rc rfl, ?_⟩
 obtain ⟨Y, D, hp⟩ := bsome hp
 refine s_hasWeek (s := s) (n := v.Week) b.pre ha101 ha102 ha103 D fun da F => ?_
 obtain ⟨d, G⟩ := b.call F a
 have I := l.k G
 refine ⟨_, rfl, ?_⟩
 refine ifbb hp (fun J hp => ?_) fun J hp => ?_; rotate_left
 ·obtain rfl := Option.some.inj hp
  exact hq _ d.ext'
 refine ⟨trivial, _, _, I.bk.rp (k := 2) (j := 2) rfl (by omega), ?_⟩
 obtain ⟨Z, N, hp⟩ := bsome hp
 refine s_within (r := v.Seen) (low := (0 : Int)) (high := (100 : Int)) d.pre  N fun ea O => ?_
 obtain ⟨P, aa⟩ := d.call O a
 refine ⟨_, rfl, ?_⟩
 obtain rfl := Option.some.inj hp
 exact hq _ P.ext'
theorem s_hasFew {fl : Fld} {m f : M} {Q : V → M → Prop} {rz : Bool} (hS : Pre f m)  (hp : phasFew fl = some rz) (hq : ∀ m', Ext m m' → Q (.c (.bool rz)) m') : Wc prog tbl 63 [.agg 7 [(Il fl.Crop), (Il fl.Week.Lo), (Il fl.Week.Hi), (Il fl.Damage.Lo), (Il fl.Damage.Hi), (Il fl.Old.Lo), (Il fl.Old.Hi)]] m Q := by
 have S := hS.st
 obtain ⟨T, _⟩ : ∃ τ : Nat → Nat, True := ⟨fun _ => 0, trivial⟩
 refine w63 ?_
 unfold phasFew at hp
 intro Z i
 obtain ⟨b, e, I, a⟩ := S.blk i T 1
 refine ⟨trivial, _, _, a.bk.rp (k := 1) (j := 2) rfl (by omega), ?_⟩
 obtain ⟨J, l, hp⟩ := bsome hp
 refine s_count (r := fl.Week) e.pre  l fun m4 n => ?_
 obtain ⟨g, o⟩ := e.call n b
 have d := a.k o
 refine ⟨_, rfl, trivial, _, _, d.bk.rp (k := 3) (j := 2) rfl (by omega), (a.bk.rp (k := 3) (j := 2) rfl (by omega)), ?_⟩
 obtain ⟨N, p, hp⟩ := bsome hp
 refine s_count (r := fl.Damage) g.pre  p fun m9 q => ?_
 obtain ⟨h, s⟩ := g.call q b
 have t := d.k s
 refine ⟨_, rfl, ?_⟩
 refine gdi hp fun u hp => ?_
 refine gdi hp fun x hp => ?_
 obtain ⟨y, hp⟩ := gd_some hp
 refine ⟨y, trivial, _, _, t.bk.rp (k := 5) (j := 2) rfl (by omega), (d.bk.rp (k := 5) (j := 2) rfl (by omega)), (a.bk.rp (k := 5) (j := 2) rfl (by omega)), ?_⟩
 obtain ⟨O, z, hp⟩ := bsome hp
 refine s_count (r := fl.Old) h.pre  z fun Y A => ?_
 obtain ⟨B, P⟩ := h.call A b
 refine ⟨_, rfl, ?_⟩
 refine gdi hp fun D hp => ?_
 refine gdi hp fun F hp => ?_
 refine gdi hp fun G hp => ?_
 obtain rfl := Option.some.inj hp
 exact hq _ B.ext'
theorem s_valid {s : Ssn} {ca101 ca102 ca103 : C} {m f : M} {Q : V → M → Prop} {rz : Bool} (hS : Pre f m) (ha101 : Sl f ca101 s.Rules) (ha102 : Sl f ca102 s.Fields) (ha103 : Sl f ca103 s.Visits) (hp : pvalid s = some rz) (hq : ∀ m', Ext m m' → Q (.c (.bool rz)) m') : Wc prog tbl 61 [.agg 4 [(Il s.Last), ca101, ca102, ca103]] m Q := by
 have S0 := hS.st
 obtain ⟨τ0, _⟩ : ∃ τ : Nat → Nat, True := ⟨fun _ => 0, trivial⟩
 refine w61 ?_
 unfold pvalid at hp
 intro m0 u
 obtain ⟨h, b, ha, a⟩ := S0.blk u τ0 1
 refine ⟨trivial, _, a.bk.rc rfl, ?_⟩
 refine ifd hp (fun x hp => ?_) fun x hp => ?_; rotate_left
 ·obtain rfl := Option.some.inj hp
  exact hq _ b.ext'
 refine ⟨trivial, _, a.bk.rc rfl, ha101.isSl, ?_⟩
 try rw [ha101.slLen]
 refine ifd hp (fun y hp => ?_) fun y hp => ?_; rotate_left
 ·obtain rfl := Option.some.inj hp
  exact hq _ b.ext'
 refine ⟨trivial, _, a.bk.rc rfl, ha102.isSl, ?_⟩
 try rw [ha102.slLen]
 refine ifd hp (fun z hp => ?_) fun z hp => ?_; rotate_left
 ·obtain rfl := Option.some.inj hp
  exact hq _ b.ext'
 refine ⟨trivial, _, a.bk.rc rfl, _, _, _, _, a.bk.ra, ?_⟩
 obtain ⟨l9, fa, ga⟩ : ∃ ws, mapO vW [.agg 4 [(Il s.Last), ca101, ca102, ca103]] = some ws ∧ mapS wV ws = [.agg 4 [(Il s.Last), ca101, ca102, ca103]] := (vWs_cons (vW_agg (nf_cons rfl (nf_cons ha101.noFn (nf_cons ha102.noFn (nf_cons ha103.noFn nf_nil))))) vWs_nil)
 rw [fa, optB_some]
 have p : Fv_LInt_Bool f ((C.fn (Fn.func 104) l9 [])) (fun d => pvalidRule s d) := by
  intro f' m' d ia r Q hs hpre A hg hq
  show Wc prog tbl 104 (appS (mapS wV l9) _) m' Q
  rw [ga]
  exact s_validRule hpre (ha101.sub hs) (ha102.sub hs) (ha103.sub hs) A hg hq
 obtain ⟨ja, B, hp⟩ := bsome hp
 refine s_eachL (l := s.Rules) (passes := (fun d => pvalidRule s d)) b.pre ha101 p B fun pa D => ?_
 obtain ⟨i, F⟩ := b.call D h
 have j := a.k F
 refine ⟨_, rfl, ?_⟩
 refine ifbb hp (fun G hp => ?_) fun G hp => ?_; rotate_left
 ·obtain rfl := Option.some.inj hp
  exact hq _ i.ext'
 refine ⟨trivial, _, j.bk.rc rfl, _, _, _, _, j.bk.ra, ?_⟩
 obtain ⟨Y, aa, ba⟩ : ∃ ws, mapO vW [.agg 4 [(Il s.Last), ca101, ca102, ca103]] = some ws ∧ mapS wV ws = [.agg 4 [(Il s.Last), ca101, ca102, ca103]] := (vWs_cons (vW_agg (nf_cons rfl (nf_cons ha101.noFn (nf_cons ha102.noFn (nf_cons ha103.noFn nf_nil))))) vWs_nil)
 rw [aa, optB_some]
 have q : Fv_Fld_Bool f ((C.fn (Fn.func 105) Y [])) (fun e => pvalidField s e) := by
  intro f' m' e r Q hs hpre  hg hq
  show Wc prog tbl 105 (appS (mapS wV Y) _) m' Q
  rw [ba]
  exact s_validField hpre (ha101.sub hs) (ha102.sub hs) (ha103.sub hs) hg hq
 obtain ⟨ka, I, hp⟩ := bsome hp
 refine s_eachF (l := s.Fields) (passes := (fun e => pvalidField s e)) i.pre ha102 q I fun qa J => ?_
 obtain ⟨n, N⟩ := i.call J h
 have o := j.k N
 refine ⟨_, rfl, ?_⟩
 refine ifbb hp (fun O hp => ?_) fun O hp => ?_; rotate_left
 ·obtain rfl := Option.some.inj hp
  exact hq _ n.ext'
 refine ⟨trivial, _, o.bk.rc rfl, _, _, _, _, o.bk.ra, ?_⟩
 obtain ⟨Z, ca, da⟩ : ∃ ws, mapO vW [.agg 4 [(Il s.Last), ca101, ca102, ca103]] = some ws ∧ mapS wV ws = [.agg 4 [(Il s.Last), ca101, ca102, ca103]] := (vWs_cons (vW_agg (nf_cons rfl (nf_cons ha101.noFn (nf_cons ha102.noFn (nf_cons ha103.noFn nf_nil))))) vWs_nil)
 rw [ca, optB_some]
 have t : Fv_Vis_Bool f ((C.fn (Fn.func 107) Z [])) (fun g => pvalidVisit s g) := by
  intro f' m' g r Q hs hpre  hg hq
  show Wc prog tbl 107 (appS (mapS wV Z) _) m' Q
  rw [da]
  exact s_validVisit hpre (ha101.sub hs) (ha102.sub hs) (ha103.sub hs) hg hq
 obtain ⟨la, P, hp⟩ := bsome hp
 refine s_eachV (l := s.Visits) (passes := (fun g => pvalidVisit s g)) n.pre ha103 t P fun sa S => ?_
 obtain ⟨T, ma⟩ := n.call S h
 refine ⟨_, rfl, ?_⟩
 obtain rfl := Option.some.inj hp
 exact hq _ T.ext'
theorem s_check {s : Ssn} {ca101 ca102 ca103 : C} {m f : M} {Q : V → M → Prop} {rz : Int} (hS : Pre f m) (ha101 : Sl f ca101 s.Rules) (ha102 : Sl f ca102 s.Fields) (ha103 : Sl f ca103 s.Visits) (hp : pcheck s = some rz) (hq : ∀ m', Ext m m' → Q (.c (Il rz)) m') : Wc prog tbl 15 [.agg 4 [(Il s.Last), ca101, ca102, ca103]] m Q := by
 have S := hS.st
 obtain ⟨T, _⟩ : ∃ τ : Nat → Nat, True := ⟨fun _ => 0, trivial⟩
 refine w15 ?_
 unfold pcheck at hp
 intro m0 o
 obtain ⟨b, g, I, h⟩ := S.blk o T 1
 refine ⟨_, _, _, _, h.bk.ra, ?_⟩
 obtain ⟨J, p, hp⟩ := bsome hp
 refine s_tooMany (s := s) g.pre ha101 ha102 ha103 p fun m6 q => ?_
 obtain ⟨d, t⟩ := g.call q b
 have i := h.k t
 refine ⟨_, rfl, ?_⟩
 refine ifbb hp (fun u hp => ?_) fun u hp => ?_
 ·obtain rfl := Option.some.inj hp
  exact hq _ d.ext'
 refine ⟨_, _, _, _, i.bk.ra, ?_⟩
 obtain ⟨N, x, hp⟩ := bsome hp
 refine s_valid (s := s) d.pre ha101 ha102 ha103 x fun Y y => ?_
 obtain ⟨e, z⟩ := d.call y b
 have A := i.k z
 refine ⟨_, rfl, ?_⟩
 refine ifnb hp (fun B hp => ?_) fun B hp => ?_
 ·obtain rfl := Option.some.inj hp
  exact hq _ e.ext'
 refine ⟨trivial, _, A.bk.rc rfl, ?_⟩
 have n : Fv_Fld_Bool f ((C.fn (Fn.func 63) [] [])) (fun a => phasFew a) := by
  intro f' m' a r Q hs hpre  hg hq
  exact s_hasFew hpre  hg hq
 obtain ⟨O, D, hp⟩ := bsome hp
 refine s_eachF (l := s.Fields) (passes := (fun a => phasFew a)) e.pre ha102 n D fun Z F => ?_
 obtain ⟨j, P⟩ := e.call F b
 refine ⟨_, rfl, ?_⟩
 refine ifnb hp (fun G hp => ?_) fun G hp => ?_
 ·obtain rfl := Option.some.inj hp
  exact hq _ j.ext'
 obtain rfl := Option.some.inj hp
 exact hq _ j.ext'
theorem s_grow {s : Ssn} {p : Plt} {ca101 ca102 ca103 : C} {m f : M} {Q : V → M → Prop} {rz : Dm} (hS : Pre f m) (ha101 : Sl f ca101 s.Rules) (ha102 : Sl f ca102 s.Fields) (ha103 : Sl f ca103 s.Visits) (hp : pgrow s p = some rz) (hq : ∀ m', Ext m m' → Q (.agg 13 [(Il rz.d0), (Il rz.d1), (Il rz.d2), (Il rz.d3), (Il rz.d4), (Il rz.d5), (Il rz.d6), (Il rz.d7), (Il rz.d8), (Il rz.d9), (Il rz.d10), (Il rz.d11), (Il rz.d12)]) m') : Wc prog tbl 116 [.agg 4 [(Il s.Last), ca101, ca102, ca103], .agg 4 [(Il p.t.Week), (Il p.t.Damage), (Il p.t.Old), (Il p.crop)]] m Q := by
 have S0 := hS.st
 obtain ⟨τ0, _⟩ : ∃ τ : Nat → Nat, True := ⟨fun _ => 0, trivial⟩
 refine w116 ?_
 unfold pgrow at hp
 intro m0 qa
 obtain ⟨sa, ta, Fb, ua⟩ := S0.blk qa τ0 1
 intro m1 va
 obtain ⟨wa, xa, ya, za⟩ := ta.blk va sa 2
 have Aa := ua.k ya
 intro m2 Ba
 obtain ⟨Ca, Da, ma, Ea⟩ := xa.blk Ba wa 3
 have Fa := Aa.k ma
 have Ga := za.k ma
 intro m3 Ha
 obtain ⟨Ia, Ja, N, F⟩ := Da.blk Ha Ca 4
 have D := Fa.k N
 have A := Ga.k N
 have G := Ea.k N
 intro R4 zb
 have hgo : ∀ (J : Nat) (a : Int) (x6 : Int) (b : Int) (e : Int) (g : Int) (h : Int) (i : Int) (j : Int) (n : Int) (o : Int) (q : Int) (r : Int) (u : Int) (x : Int) (y : Int) (z : Int) (m8 : M) (B : Nat → Nat), St (Fm.of m) f f m8 → Lb (Fm.of m) f B m8 1 m.nxt 4 [(Il s.Last), ca101, ca102, ca103] → Lb (Fm.of m) f B m8 2 m0.nxt 4 [(Il p.t.Week), (Il p.t.Damage), (Il p.t.Old), (Il p.crop)] → Lb (Fm.of m) f B m8 3 m1.nxt 13 [(Il 0), (Il 0), (Il 0), (Il 0), (Il 0), (Il 0), (Il 0), (Il 0), (Il 0), (Il 0), (Il 0), (Il 0), (Il 0)] → Lb (Fm.of m) f B m8 4 m2.nxt 13 [(Il e), (Il g), (Il h), (Il i), (Il j), (Il n), (Il o), (Il q), (Il r), (Il u), (Il x), (Il y), (Il z)] → pgrow_L0 s p J e g h i j n o q r u x y z a b = some rz → R4 [.c (Il a), .c (Il x6), .c (Il b)] m8 := by
  intro J
  induction J with
  | zero => intro a x6 b e g h i j n o q r u x y z m8 B I D A G F hp; cases hp
  | succ J la =>
   intro a x6 b e g h i j n o q r u x y z m8 B I D A G F hp
   refine zb _ _ _ _ ?_
   rw [pgrow_L0] at hp
   refine ifd hp (fun Ka hp => ?_) fun Ka hp => ?_; rotate_left
   ·refine ⟨_, _, _, _, _, _, _, _, _, _, _, _, _, F.bk.ra, ?_⟩
    obtain ⟨La, Ma, Na, Gb, Oa⟩ := G.sto I [(Il e), (Il g), (Il h), (Il i), (Il j), (Il n), (Il o), (Il q), (Il r), (Il u), (Il x), (Il y), (Il z)]
    refine ⟨La, Ma, ?_⟩
    refine ⟨_, _, _, _, _, _, _, _, _, _, _, _, _, Oa.bk.ra, ?_⟩
    obtain rfl := Option.some.inj hp
    exact hq _ Na.ext'
   refine ⟨trivial, trivial, _, A.bk.rc rfl, ?_⟩
   refine ifd hp (fun Pa hp => ?_) fun Pa hp => ?_
   ·refine ⟨trivial, trivial, _, A.bk.rc rfl, trivial, ?_⟩
    obtain ⟨Qa, hp⟩ := gd_some hp
    obtain ⟨Ab, da, ea⟩ := arr_no Qa
    refine ⟨Ab, da, ea, ?_⟩
    obtain ⟨Ra, Sa, Ta, O, P⟩ := F.sta I (pre := []) (post := []) (l := ([e, g, h, i, j, n, o, q, r, u, x, y, z] : List Int)) (enc := (C.int .i64)) rfl rfl da ea p.t.Damage
    replace P : Lb _ _ _ _ _ _ _ [(Il (sti b 0 p.t.Damage e)), (Il (sti b 1 p.t.Damage g)), (Il (sti b 2 p.t.Damage h)), (Il (sti b 3 p.t.Damage i)), (Il (sti b 4 p.t.Damage j)), (Il (sti b 5 p.t.Damage n)), (Il (sti b 6 p.t.Damage o)), (Il (sti b 7 p.t.Damage q)), (Il (sti b 8 p.t.Damage r)), (Il (sti b 9 p.t.Damage u)), (Il (sti b 10 p.t.Damage x)), (Il (sti b 11 p.t.Damage y)), (Il (sti b 12 p.t.Damage z))] := P
    have Ua := D.k O
    have Va := A.k O
    have Wa := G.k O
    refine ⟨Ra, Sa, ?_⟩
    refine gdi hp fun Xa hp => ?_
    exact la _ _ _ _ _ _ _ _ _ _ _ _ _ _ _ _ _ B Ta Ua Va Wa P hp
   refine ⟨trivial, _, D.bk.rc rfl, ?_⟩
   refine ifd hp (fun Ya hp => ?_) fun Ya hp => ?_; rotate_left
   ·refine ⟨trivial, ?_⟩
    obtain ⟨Za, hp⟩ := gd_some hp
    obtain ⟨Bb, fa, ga⟩ := arr_no Za
    refine ⟨Bb, fa, ga, ?_⟩
    obtain ⟨ab, bb, cb, S, T⟩ := F.sta I (pre := []) (post := []) (l := ([e, g, h, i, j, n, o, q, r, u, x, y, z] : List Int)) (enc := (C.int .i64)) rfl rfl fa ga a
    replace T : Lb _ _ _ _ _ _ _ [(Il (sti b 0 a e)), (Il (sti b 1 a g)), (Il (sti b 2 a h)), (Il (sti b 3 a i)), (Il (sti b 4 a j)), (Il (sti b 5 a n)), (Il (sti b 6 a o)), (Il (sti b 7 a q)), (Il (sti b 8 a r)), (Il (sti b 9 a u)), (Il (sti b 10 a x)), (Il (sti b 11 a y)), (Il (sti b 12 a z))] := T
    have db := D.k S
    have eb := A.k S
    have fb := G.k S
    refine ⟨ab, bb, ?_⟩
    refine gdi hp fun gb hp => ?_
    exact la _ _ _ _ _ _ _ _ _ _ _ _ _ _ _ _ _ B cb db eb fb T hp
   refine ⟨trivial, _, D.bk.rc rfl, trivial, _, A.bk.rc rfl, ?_⟩
   obtain ⟨Hb, Y, hp⟩ := bsome hp
   obtain ⟨Cb, oa, ha, Y⟩ := idx_some Y
   obtain ⟨Ib, hb, na⟩ := ha101.rdS Y
   refine ⟨Cb, oa, (by first | exact ha | (rw [ha101.slLen]; exact ha)), _, (hb _ I.sub), ?_⟩
   obtain ⟨d, Z, hp⟩ := bsome hp
   obtain ⟨Db, pa, ia, Z⟩ := idx_some Z
   refine ⟨Db, pa, (by first | exact ia | (rw [na.slLen]; exact ia)), _, (na.rdI Z I.sub), ?_⟩
   refine gdi hp fun ib hp => ?_
   refine gdi hp fun jb hp => ?_
   refine gdi hp fun kb hp => ?_
   refine gdi hp fun mb hp => ?_
   refine gdi hp fun nb hp => ?_
   refine gdi hp fun ob hp => ?_
   obtain ⟨pb, hp⟩ := gd_some hp
   refine ⟨pb, trivial, ?_⟩
   obtain ⟨qb, hp⟩ := gd_some hp
   obtain ⟨Eb, ja, ka⟩ := arr_no qb
   refine ⟨Eb, ja, ka, ?_⟩
   obtain ⟨rb, sb, tb, aa, ba⟩ := F.sta I (pre := []) (post := []) (l := ([e, g, h, i, j, n, o, q, r, u, x, y, z] : List Int)) (enc := (C.int .i64)) rfl rfl ja ka ((a - ((a * d) / (100 : Int))))
   replace ba : Lb _ _ _ _ _ _ _ [(Il (sti b 0 (a - ((a * d) / (100 : Int))) e)), (Il (sti b 1 (a - ((a * d) / (100 : Int))) g)), (Il (sti b 2 (a - ((a * d) / (100 : Int))) h)), (Il (sti b 3 (a - ((a * d) / (100 : Int))) i)), (Il (sti b 4 (a - ((a * d) / (100 : Int))) j)), (Il (sti b 5 (a - ((a * d) / (100 : Int))) n)), (Il (sti b 6 (a - ((a * d) / (100 : Int))) o)), (Il (sti b 7 (a - ((a * d) / (100 : Int))) q)), (Il (sti b 8 (a - ((a * d) / (100 : Int))) r)), (Il (sti b 9 (a - ((a * d) / (100 : Int))) u)), (Il (sti b 10 (a - ((a * d) / (100 : Int))) x)), (Il (sti b 11 (a - ((a * d) / (100 : Int))) y)), (Il (sti b 12 (a - ((a * d) / (100 : Int))) z))] := ba
   have ub := D.k aa
   have vb := A.k aa
   have wb := G.k aa
   refine ⟨rb, sb, ?_⟩
   refine gdi hp fun xb hp => ?_
   exact la _ _ _ _ _ _ _ _ _ _ _ _ _ _ _ _ _ B tb ub vb wb ba hp
 exact hgo _ _ _ _ _ _ _ _ _ _ _ _ _ _ _ _ _ _ Ia Ja D A G F hp
theorem s_harvestD {d : Dm} {m f : M} {Q : V → M → Prop} {rz : Int} (hS : Pre f m)  (hp : pharvestD d = some rz) (hq : ∀ m', Ext m m' → Q (.c (Il rz)) m') : Wc prog tbl 74 [.agg 13 [(Il d.d0), (Il d.d1), (Il d.d2), (Il d.d3), (Il d.d4), (Il d.d5), (Il d.d6), (Il d.d7), (Il d.d8), (Il d.d9), (Il d.d10), (Il d.d11), (Il d.d12)]] m Q := by
 have p := hS.st
 obtain ⟨q, _⟩ : ∃ τ : Nat → Nat, True := ⟨fun _ => 0, trivial⟩
 refine w74 ?_
 unfold pharvestD at hp
 intro s g
 obtain ⟨j, h, n, i⟩ := p.blk g q 1
 refine ⟨trivial, ?_⟩
 obtain ⟨o, a, hp⟩ := bsome hp
 obtain ⟨r, b, e, a⟩ := idx_some a
 refine ⟨r, b, e, _, (i.bk.rc (arr_at (l := ([d.d0, d.d1, d.d2, d.d3, d.d4, d.d5, d.d6, d.d7, d.d8, d.d9, d.d10, d.d11, d.d12] : List Int)) (enc := (C.int .i64)) 0 rfl a)), ?_⟩
 obtain rfl := Option.some.inj hp
 exact hq _ h.ext'
theorem s_cWeek {c : Crs} {m f : M} {Q : V → M → Prop} {rz : Int} (hS : Pre f m)  (hp : pcWeek c = some rz) (hq : ∀ m', Ext m m' → Q (.c (Il rz)) m') : Wc prog tbl 100 [.agg 16 [(Il c.t.Week), (Il c.t.Damage), (Il c.t.Old), (Il c.d.d0), (Il c.d.d1), (Il c.d.d2), (Il c.d.d3), (Il c.d.d4), (Il c.d.d5), (Il c.d.d6), (Il c.d.d7), (Il c.d.d8), (Il c.d.d9), (Il c.d.d10), (Il c.d.d11), (Il c.d.d12)]] m Q := by
 have i := hS.st
 obtain ⟨j, _⟩ : ∃ τ : Nat → Nat, True := ⟨fun _ => 0, trivial⟩
 refine w100 ?_
 unfold pcWeek at hp
 intro l a
 obtain ⟨g, b, h, e⟩ := i.blk a j 1
 refine ⟨trivial, trivial, _, e.bk.rc rfl, ?_⟩
 obtain rfl := Option.some.inj hp
 exact hq _ b.ext'
theorem s_cDamage {c : Crs} {m f : M} {Q : V → M → Prop} {rz : Int} (hS : Pre f m)  (hp : pcDamage c = some rz) (hq : ∀ m', Ext m m' → Q (.c (Il rz)) m') : Wc prog tbl 101 [.agg 16 [(Il c.t.Week), (Il c.t.Damage), (Il c.t.Old), (Il c.d.d0), (Il c.d.d1), (Il c.d.d2), (Il c.d.d3), (Il c.d.d4), (Il c.d.d5), (Il c.d.d6), (Il c.d.d7), (Il c.d.d8), (Il c.d.d9), (Il c.d.d10), (Il c.d.d11), (Il c.d.d12)]] m Q := by
 have i := hS.st
 obtain ⟨j, _⟩ : ∃ τ : Nat → Nat, True := ⟨fun _ => 0, trivial⟩
 refine w101 ?_
 unfold pcDamage at hp
 intro l a
 obtain ⟨g, b, h, e⟩ := i.blk a j 1
 refine ⟨trivial, trivial, _, e.bk.rc rfl, ?_⟩
 obtain rfl := Option.some.inj hp
 exact hq _ b.ext'
theorem s_cOld {c : Crs} {m f : M} {Q : V → M → Prop} {rz : Int} (hS : Pre f m)  (hp : pcOld c = some rz) (hq : ∀ m', Ext m m' → Q (.c (Il rz)) m') : Wc prog tbl 102 [.agg 16 [(Il c.t.Week), (Il c.t.Damage), (Il c.t.Old), (Il c.d.d0), (Il c.d.d1), (Il c.d.d2), (Il c.d.d3), (Il c.d.d4), (Il c.d.d5), (Il c.d.d6), (Il c.d.d7), (Il c.d.d8), (Il c.d.d9), (Il c.d.d10), (Il c.d.d11), (Il c.d.d12)]] m Q := by
 have i := hS.st
 obtain ⟨j, _⟩ : ∃ τ : Nat → Nat, True := ⟨fun _ => 0, trivial⟩
 refine w102 ?_
 unfold pcOld at hp
 intro l a
 obtain ⟨g, b, h, e⟩ := i.blk a j 1
 refine ⟨trivial, trivial, _, e.bk.rc rfl, ?_⟩
 obtain rfl := Option.some.inj hp
 exact hq _ b.ext'
theorem s_seen {c : Crs} {week : Int} {m f : M} {Q : V → M → Prop} {rz : Int} (hS : Pre f m)  (hp : pseen c week = some rz) (hq : ∀ m', Ext m m' → Q (.c (Il rz)) m') : Wc prog tbl 72 [.agg 16 [(Il c.t.Week), (Il c.t.Damage), (Il c.t.Old), (Il c.d.d0), (Il c.d.d1), (Il c.d.d2), (Il c.d.d3), (Il c.d.d4), (Il c.d.d5), (Il c.d.d6), (Il c.d.d7), (Il c.d.d8), (Il c.d.d9), (Il c.d.d10), (Il c.d.d11), (Il c.d.d12)], .c (Il week)] m Q := by
 have q := hS.st
 obtain ⟨r, _⟩ : ∃ τ : Nat → Nat, True := ⟨fun _ => 0, trivial⟩
 refine w72 ?_
 unfold pseen at hp
 intro u h
 obtain ⟨n, i, o, b⟩ := q.blk h r 1
 refine ⟨trivial, trivial, _, b.bk.rc rfl, trivial, trivial, ?_⟩
 obtain ⟨p, a, hp⟩ := bsome hp
 obtain ⟨s, e, g, a⟩ := idx_some a
 refine ⟨s, e, g, _, (b.bk.rc (arr_at (l := ([c.d.d0, c.d.d1, c.d.d2, c.d.d3, c.d.d4, c.d.d5, c.d.d6, c.d.d7, c.d.d8, c.d.d9, c.d.d10, c.d.d11, c.d.d12] : List Int)) (enc := (C.int .i64)) 3 rfl a)), ?_⟩
 refine gdi hp fun j hp => ?_
 obtain rfl := Option.some.inj hp
 exact hq _ i.ext'
theorem s_allows1 {v : Vis} {field : Int} {b0 : Nat} {c : Crs} {b1 : Nat} {m f : M} {Q : V → M → Prop} {rz : Bool} (hS : Pre f m) (hb0 : Bk f b0 1 [(Il field)]) (hb1 : Bk f b1 16 [(Il c.t.Week), (Il c.t.Damage), (Il c.t.Old), (Il c.d.d0), (Il c.d.d1), (Il c.d.d2), (Il c.d.d3), (Il c.d.d4), (Il c.d.d5), (Il c.d.d6), (Il c.d.d7), (Il c.d.d8), (Il c.d.d9), (Il c.d.d10), (Il c.d.d11), (Il c.d.d12)]) (hp : pallows1 v field c = some rz) (hq : ∀ m', Ext m m' → Q (.c (.bool rz)) m') : Wc prog tbl 117 [.agg 4 [(Il v.Field), (Il v.Week), (Il v.Seen.Lo), (Il v.Seen.Hi)], .c (.ptr b0 0), .c (.ptr b1 0)] m Q := by
 have D := hS.st
 obtain ⟨F, _⟩ : ∃ τ : Nat → Nat, True := ⟨fun _ => 0, trivial⟩
 refine c117 ?_
 unfold pallows1 at hp
 intro J h
 obtain ⟨e, a, z, b⟩ := D.blk h F 1
 refine ⟨trivial, _, b.bk.rc rfl, _, (hb0.sub a.sub).rc rfl, ?_⟩
 refine ifnd hp (fun i hp => ?_) fun i hp => ?_
 ·obtain rfl := Option.some.inj hp
  exact hq _ a.ext'
 refine ⟨trivial, _, _, b.bk.rp (k := 2) (j := 2) rfl (by omega), _, _, _, _, _, _, _, _, _, _, _, _, _, _, _, _, (hb1.sub a.sub).ra, trivial, _, b.bk.rc rfl, ?_⟩
 obtain ⟨l, o, hp⟩ := bsome hp
 refine s_seen (c := c) (week := v.Week) a.pre  o fun G p => ?_
 obtain ⟨g, q⟩ := a.call p e
 have s := b.k q
 refine ⟨_, rfl, (s.bk.rp (k := 2) (j := 2) rfl (by omega)), ?_⟩
 obtain ⟨A, u, hp⟩ := bsome hp
 refine s_has (r := v.Seen) (n := l) g.pre  u fun I x => ?_
 obtain ⟨y, B⟩ := g.call x e
 refine ⟨_, rfl, ?_⟩
 obtain rfl := Option.some.inj hp
 exact hq _ y.ext'
theorem s_allows {s : Ssn} {field : Int} {c : Crs} {ca101 ca102 ca103 : C} {m f : M} {Q : V → M → Prop} {rz : Bool} (hS : Pre f m) (ha101 : Sl f ca101 s.Rules) (ha102 : Sl f ca102 s.Fields) (ha103 : Sl f ca103 s.Visits) (hp : pallows s field c = some rz) (hq : ∀ m', Ext m m' → Q (.c (.bool rz)) m') : Wc prog tbl 75 [.agg 4 [(Il s.Last), ca101, ca102, ca103], .c (Il field), .agg 16 [(Il c.t.Week), (Il c.t.Damage), (Il c.t.Old), (Il c.d.d0), (Il c.d.d1), (Il c.d.d2), (Il c.d.d3), (Il c.d.d4), (Il c.d.d5), (Il c.d.d6), (Il c.d.d7), (Il c.d.d8), (Il c.d.d9), (Il c.d.d10), (Il c.d.d11), (Il c.d.d12)]] m Q := by
 have S0 := hS.st
 obtain ⟨τ0, _⟩ : ∃ τ : Nat → Nat, True := ⟨fun _ => 0, trivial⟩
 refine w75 ?_
 unfold pallows at hp
 intro m0 o
 obtain ⟨p, q, ba, u⟩ := S0.blk o τ0 1
 intro m1 x
 obtain ⟨y, z, A, B⟩ := q.blk x p 2
 have D := u.k A
 intro m2 F
 obtain ⟨G, I, b, J⟩ := z.blk F y 3
 have N := D.k b
 have O := B.k b
 refine ⟨trivial, _, N.bk.rc rfl, ?_⟩
 obtain ⟨ca, P, e, i⟩ := O.freeze I
 have S := J.k e
 obtain ⟨T, g, h, j⟩ := S.freeze P
 have n : Fv_Vis_Bool T ((C.fn (Fn.func 117) [] [(W.c (C0.ptr m0.nxt 0)), (W.c (C0.ptr m1.nxt 0))])) (fun a => pallows1 a field c) := by
  intro f' m' a r Q hs hpre  hg hq
  exact s_allows1 hpre ((i.sub h.fs).sub hs) (j.sub hs) hg hq
 obtain ⟨da, Y, hp⟩ := bsome hp
 refine s_eachV (l := s.Visits) (passes := (fun a => pallows1 a field c)) g.pre (ha103.sub (Sub.trans e.fs h.fs)) n Y fun m5 Z => ?_
 obtain ⟨aa, ea⟩ := g.call Z G
 refine ⟨_, rfl, ?_⟩
 obtain rfl := Option.some.inj hp
 exact hq _ aa.ext'
theorem s_numbersI {r : Rg} {b0 : Nat} {m f : M} {F : Fm} {n0 ly : Nat} {xs : List (List V)} {I : Nat → (Nat → Prop) → M → Prop} {E : (Nat → Prop) → M → Prop} {S1 : Nat → Prop} {Q : V → M → Prop} {rz : List Int} {τ0 : Nat → Nat} (hc : Client prog tbl n0 ly xs I E) (S0 : St F f f m) (Y0 : Yg n0 (YJ xs I rz) S1 F f τ0 m) (hb0 : Bk f b0 2 [(.int .i64 r.Lo), (.int .i64 r.Hi)]) (hp : pnumbersI r = some rz) (hq : ∀ v m' f' τ' S', St F f f' m' → (Yg n0 (YJ xs I ([] : List Int)) S' F f' τ' m' ∨ Yg n0 E S' F f' τ' m') → Q v m') : Wc prog tbl 138 [.c (.fn (.yield ly) [] []), .c (.ptr b0 0)] m Q := by
 refine c138 ?_
 unfold pnumbersI at hp
 refine ⟨_, _, (hb0.sub S0.sub).ra, ?_⟩
 obtain ⟨r2736, g2737, hp⟩ := bsome hp
 refine s_count (r := r) S0.pre  g2737 fun m3 e2740 => ?_
 obtain ⟨S2738, k2739⟩ := S0.call e2740 τ0
 have Y2741 := Y0.k k2739 (by decide)
 refine ⟨_, rfl, ?_⟩
 intro R5 hR5
 have hgo : ∀ (d2747 : Nat) (x6 : Int) (r2744 : List Int) (s2745 : Nat → Prop) (m7 : M) (τ2743 : Nat → Nat), St F f f m7 → Yg n0 (YJ xs I r2744) s2745 F f τ2743 m7 → pnumbersI_L0 r r2736 d2747 x6 = some r2744 → R5 [.c (.int .i64 x6)] m7 := by
  intro d2747
  induction d2747 with
  | zero => intro x6 r2744 s2745 m7 τ2743 S2742 Y2746 hp; cases hp
  | succ d2747 ihR5 =>
   intro x6 r2744 s2745 m7 τ2743 S2742 Y2746 hp
   refine hR5 _ _ ?_
   rw [pnumbersI_L0] at hp
   refine ifd hp (fun q2748 hp => ?_) fun q2748 hp => ?_; rotate_left
   ·obtain rfl := Option.some.inj hp
    exact hq _ _ _ _ _ S2742 (.inl Y2746)
   refine ⟨trivial, _, (hb0.sub S2742.sub).rc rfl, ?_⟩
   obtain ⟨g2749, hp⟩ := gd_some hp
   refine ⟨g2749, ?_⟩
   obtain ⟨r2750, hp2752, hz2751⟩ := bsome hp
   clear hp
   obtain rfl := Option.some.inj hz2751
   have hp := hp2752
   show Wy prog tbl ly (IV.encs ((r.Lo + x6) : Int)) _ _
   refine Yg.yield hc S2742 Y2746 ?_ ?_
   ·intro m10 τ2753 s2757 S2754 k2755 Y2756
    refine ⟨_, rfl, ?_⟩
    refine ifB_f' ?_
    obtain ⟨g2758, hp⟩ := gd_some hp
    refine ⟨g2758, ?_⟩
    exact ihR5 _ _ _ _ τ2753 S2754 Y2756 hp
   ·intro m10 τ2759 s2763 S2760 k2761 Y2762
    refine ⟨_, rfl, ?_⟩
    refine ifB_t' ?_
    exact hq _ _ _ _ _ S2760 (.inr Y2762)
 exact hgo _ _ _ _ _ τ0 S2738 Y2741 hp
theorem s_numbers {r : Rg} {m f : M} {Q : V → M → Prop} {rz : List Int} (hS : Pre f m)  (hp : pnumbers r = some rz) (hq : ∀ m' f' c0, Grw m f m' f' → It prog tbl f' c0 rz → Q (.c c0) m') : Wc prog tbl 124 [.agg 2 [(Il r.Lo), (Il r.Hi)]] m Q := by
 have q := hS.st
 obtain ⟨s, _⟩ : ∃ τ : Nat → Nat, True := ⟨fun _ => 0, trivial⟩
 refine w124 ?_
 unfold pnumbers at hp
 intro t g
 obtain ⟨n, h, o, i⟩ := q.blk g s 1
 obtain ⟨b, a, p, d⟩ := i.freeze h
 obtain ⟨j, l, hp⟩ := bsome hp
 have e : It prog tbl b ((C.fn (Fn.func 138) [] [(W.c (C0.ptr m.nxt 0))])) j := it_of a.fz a.fv fun u ly I E hc x y z A hS hY Q hq => s_numbersI hc hS hY d l hq
 obtain rfl := Option.some.inj hp
 exact hq _ b (C.fn (Fn.func 138) [] [(W.c (C0.ptr m.nxt 0))]) a.grw e
theorem s_plant {fl : Fld} {week : Int} {damage : Int} {m f : M} {Q : V → M → Prop} {rz : Plt} (hS : Pre f m)  (hp : pplant fl week damage = some rz) (hq : ∀ m', Ext m m' → Q (.agg 4 [(Il rz.t.Week), (Il rz.t.Damage), (Il rz.t.Old), (Il rz.crop)]) m') : Wc prog tbl 125 [.agg 7 [(Il fl.Crop), (Il fl.Week.Lo), (Il fl.Week.Hi), (Il fl.Damage.Lo), (Il fl.Damage.Hi), (Il fl.Old.Lo), (Il fl.Old.Hi)], .c (Il week), .c (Il damage)] m Q := by
 have x := hS.st
 obtain ⟨y, _⟩ : ∃ τ : Nat → Nat, True := ⟨fun _ => 0, trivial⟩
 refine w125 ?_
 unfold pplant at hp
 intro z a
 obtain ⟨b, d, r, e⟩ := x.blk a y 1
 intro A g
 obtain ⟨s, h, i, j⟩ := d.blk g b 2
 have l := e.k i
 refine ⟨trivial, _, l.bk.rc rfl, ?_⟩
 obtain ⟨n, o, p, u, q⟩ := j.sto h [(Il week), (Il damage), (Il 0), (Il fl.Crop)]
 refine ⟨n, o, ?_⟩
 refine ⟨_, _, _, _, q.bk.ra, ?_⟩
 obtain rfl := Option.some.inj hp
 exact hq _ p.ext'
theorem s_open {s : Ssn} {ca101 ca102 ca103 : C} {m f : M} {Q : V → M → Prop} {rz : Wk} (hS : Pre f m) (ha101 : Sl f ca101 s.Rules) (ha102 : Sl f ca102 s.Fields) (ha103 : Sl f ca103 s.Visits) (hp : popen s = some rz) (hq : ∀ m' f' c1 c2 c3 c4, Grw m f m' f' → Sl f' c1 rz.s.Rules → Sl f' c2 rz.s.Fields → Sl f' c3 rz.s.Visits → Mi f' c4 rz.damages → Q (.agg 5 [(Il rz.s.Last), c1, c2, c3, c4]) m') : Wc prog tbl 90 [.agg 4 [(Il s.Last), ca101, ca102, ca103]] m Q := by
 have S0 := hS.st
 obtain ⟨τ0, _⟩ : ∃ τ : Nat → Nat, True := ⟨fun _ => 0, trivial⟩
 refine w90 ?_
 unfold popen at hp
 intro m0 Zb
 obtain ⟨ac, bc, af, cc⟩ := S0.blk Zb τ0 1
 intro O dc
 obtain ⟨ec, fc, gc, hc⟩ := bc.blk dc ac 2
 have Ua := cc.k gc
 refine ⟨_, _, _, _, Ua.bk.ra, ?_⟩
 intro m6 ic
 obtain ⟨jc, kc, Va, lc⟩ := Mo.new (K := Plt) (V' := Dm) fc ic ec 3
 have nc := Ua.k Va
 have oc := hc.k Va
 intro m7 pc
 obtain ⟨qc, sc, Ga, tc⟩ := kc.blk pc jc 4
 have uc := nc.k Ga
 have vc := oc.k Ga
 have wc := lc.k Ga
 obtain ⟨xc, yc, zc, Ha, sa⟩ := tc.sto sc [(Il s.Last), ca101, ca102, ca103, (.map O.nxt)]
 have ta := uc.k Ha
 have ua := vc.k Ha
 have va := wc.k Ha
 refine ⟨xc, yc, ?_⟩
 refine ⟨trivial, _, ta.bk.rc rfl, ha102.isSl, ?_⟩
 intro Se Re
 have hgo : ∀ (h : Nat) (qa : Int) (wa : Option (Plt → Option (Dm))) (D : M) (G : M) (P : Nat → Nat), St (Fm.of m) f G D → Sub f G → Lb (Fm.of m) G P D 1 m.nxt 4 [(Il s.Last), ca101, ca102, ca103] → Lb (Fm.of m) G P D 2 m0.nxt 5 [(Il 0), .sl0, .sl0, .sl0, C.map0] → Lb (Fm.of m) G P D 4 m6.nxt 5 [(Il s.Last), ca101, ca102, ca103, (.map O.nxt)] → Mo (Fm.of m) G P D 3 (.map O.nxt) wa → popen_L0 s h wa qa = some rz → Se [.c (Il qa)] D := by
  intro h
  induction h with
  | zero => intro qa wa D G P Aa e ta ua sa va hp; cases hp
  | succ h Ac =>
   intro qa wa D G P Aa e ta ua sa va hp
   refine Re _ _ ?_
   rw [popen_L0] at hp
   try rw [ha102.slLen]
   refine ifd hp (fun Bc hp => ?_) fun Bc hp => ?_; rotate_left
   ·refine ⟨_, _, _, _, _, sa.bk.ra, ?_⟩
    obtain ⟨Cc, Dc, Ec, Fc, Gc⟩ := ua.sto Aa [(Il s.Last), ca101, ca102, ca103, (.map O.nxt)]
    have Hc := va.k Fc
    refine ⟨Cc, Dc, ?_⟩
    refine ⟨_, _, _, _, _, Gc.bk.ra, ?_⟩
    obtain ⟨Ic, Jc, Ia, yb⟩ := Hc.freeze Ec
    obtain rfl := Option.some.inj hp
    exact hq _ Ic ca101 ca102 ca103 (.map O.nxt) Jc.grw (ha101.sub (Sub.trans e Ia.fs)) (ha102.sub (Sub.trans e Ia.fs)) (ha103.sub (Sub.trans e Ia.fs)) yb
   obtain ⟨a, Ja, hp⟩ := bsome hp
   obtain ⟨Te, zb, Qa, Ja⟩ := idx_some Ja
   obtain ⟨_, Kc⟩ := rd_Fld ha102 Ja
   refine ⟨Te, zb, (by first | exact Qa | (rw [ha102.slLen]; exact Qa)), _, _, _, _, _, _, _, (Kc _ (Sub.trans e Aa.sub)).1, ?_⟩
   intro rf Lc
   obtain ⟨Wa, Nc, Ba, Oc⟩ := Aa.blk Lc P 5
   have Pc := ta.k Ba
   have Qc := ua.k Ba
   have Rc := sa.k Ba
   have Tc := va.k Ba
   obtain ⟨Uc, Vc, Xa, Ca, Ya⟩ := Oc.sto Nc [(Il a.Crop), (Il a.Week.Lo), (Il a.Week.Hi), (Il a.Damage.Lo), (Il a.Damage.Hi), (Il a.Old.Lo), (Il a.Old.Hi)]
   have Xc := Pc.k Ca
   have Yc := Qc.k Ca
   have Zc := Rc.k Ca
   have ad := Tc.k Ca
   refine ⟨Uc, Vc, ?_⟩
   refine ⟨trivial, _, _, Ya.bk.rp (k := 1) (j := 2) rfl (by omega), ?_⟩
   obtain ⟨bf, bd, hp⟩ := bsome hp
   refine s_numbers (r := a.Week) Xa.pre  bd fun Ab cf df cd dd => ?_
   obtain ⟨ed, u⟩ := Xa.callG cd Wa
   have Za := Xc.k u
   have ab := Yc.k u
   have cb := Zc.k u
   have db := Ya.k u
   have eb := ad.k u
   refine ⟨_, rfl, ?_⟩
   refine range_st (α := Int) ed dd (σ := (Option (Plt → Option (Dm)))) 6 (fun st bb => (False ∨ (False ∨ (False ∨ (False ∨ False))))) (fun st gG gF gT gM => (Lb gG gF gT gM 1 m.nxt 4 [(Il s.Last), ca101, ca102, ca103]) ∧ (Lb gG gF gT gM 2 m0.nxt 5 [(Il 0), .sl0, .sl0, .sl0, C.map0]) ∧ (Lb gG gF gT gM 4 m6.nxt 5 [(Il s.Last), ca101, ca102, ca103, (.map O.nxt)]) ∧ (Lb gG gF gT gM 5 D.nxt 7 [(Il a.Crop), (Il a.Week.Lo), (Il a.Week.Hi), (Il a.Damage.Lo), (Il a.Damage.Hi), (Il a.Old.Lo), (Il a.Old.Hi)]) ∧ (Mo gG gF gT gM 3 (.map O.nxt) st)) (fun rr_ st => popen_L1 s qa a (popen_L0 s h) rr_ st = some rz) (fun ex st => (match ex with | .ret => (0 : Nat) = 0 ∧ popen_L1_xret s st = some rz | _ => False)) (fun st => (Gud.and (Gud.lb Za.bk.lt (by decide)) (Gud.and (Gud.lb ab.bk.lt (by decide)) (Gud.and (Gud.lb cb.bk.lt (by decide)) (Gud.and (Gud.lb db.bk.lt (by decide)) (Gud.mo eb.lt (by decide))))))) (st0 := (wa)) (τ := Wa) ⟨Za, ab, cb, db, eb⟩ hp ?_ ?_ ?_ ?_
   ·intro x Da y xa ha za d ef Ue Ve We fd Ka hA Bb hp Cb Db
    obtain ⟨i, g, l, z, n⟩ := hA
    replace i : Lb d xa ha za 1 m.nxt 4 [(Il s.Last), ca101, ca102, ca103] := i
    replace g : Lb d xa ha za 2 m0.nxt 5 [(Il 0), .sl0, .sl0, .sl0, C.map0] := g
    replace l : Lb d xa ha za 4 m6.nxt 5 [(Il s.Last), ca101, ca102, ca103, (.map O.nxt)] := l
    replace z : Lb d xa ha za 5 D.nxt 7 [(Il a.Crop), (Il a.Week.Lo), (Il a.Week.Hi), (Il a.Damage.Lo), (Il a.Damage.Hi), (Il a.Old.Lo), (Il a.Old.Hi)] := z
    replace n : Mo d xa ha za 3 (.map O.nxt) y := n
    replace hp : popen_L1 s qa a (popen_L0 s h) (x :: Da) y = some rz := hp
    rw [popen_L1] at hp
    refine ⟨_, rfl, ?_⟩
    intro sf hd
    obtain ⟨fb, jd, ia, kd⟩ := fd.blk hd ha 7
    have ld := i.k ia
    have md := g.k ia
    have nd := l.k ia
    have od := z.k ia
    have pd := n.k ia
    have Eb := Bb.k ia
    obtain ⟨qd, sd, td, ja, ud⟩ := kd.sto jd [(Il x)]
    have vd := ld.k ja
    have wd := md.k ja
    have xd := nd.k ja
    have yd := od.k ja
    have zd := pd.k ja
    have Fb := Eb.k ja
    refine ⟨qd, sd, ?_⟩
    refine Cb _ _ _ _ td Fb fun tf La gb ka Gb Hb => ?_
    have Ad := vd.k ka
    have Bd := wd.k ka
    have Cd := xd.k ka
    have hb := yd.k ka
    have Dd := ud.k ka
    have Ed := zd.k ka
    refine ⟨trivial, _, _, hb.bk.rp (k := 3) (j := 2) rfl (by omega), ?_⟩
    obtain ⟨gf, Fd, hp⟩ := bsome hp
    refine s_numbers (r := a.Damage) gb.pre  Fd fun uf hf jf Gd Hd => ?_
    obtain ⟨Id, o⟩ := gb.callG Gd fb
    have ib := Ad.k o
    have jb := Bd.k o
    have kb := Cd.k o
    have mb := hb.k o
    have nb := Dd.k o
    have ob := Ed.k o
    have Ra := Gb.k o
    refine ⟨_, rfl, ?_⟩
    refine range_st (α := Int) Id Hd (σ := (Option (Plt → Option (Dm)))) 8 (fun st bb => (False ∨ (False ∨ (False ∨ (False ∨ (False ∨ (False ∨ False))))))) (fun st gG gF gT gM => (Lb gG gF gT gM 1 m.nxt 4 [(Il s.Last), ca101, ca102, ca103]) ∧ (Lb gG gF gT gM 2 m0.nxt 5 [(Il 0), .sl0, .sl0, .sl0, C.map0]) ∧ (Lb gG gF gT gM 4 m6.nxt 5 [(Il s.Last), ca101, ca102, ca103, (.map O.nxt)]) ∧ (Lb gG gF gT gM 5 D.nxt 7 [(Il a.Crop), (Il a.Week.Lo), (Il a.Week.Hi), (Il a.Damage.Lo), (Il a.Damage.Hi), (Il a.Old.Lo), (Il a.Old.Hi)]) ∧ (Lb gG gF gT gM 7 za.nxt 1 [(Il x)]) ∧ (Mo gG gF gT gM 3 (.map O.nxt) st) ∧ (Rk gG gF gT gM 6 (Ab).nxt La)) (fun rr_ st => popen_L2 s a x ((popen_L1 s qa a (popen_L0 s h) Da)) rr_ st = some rz) (fun ex st => False) (fun st => (Gud.and (Gud.lb ib.bk.lt (by decide)) (Gud.and (Gud.lb jb.bk.lt (by decide)) (Gud.and (Gud.lb kb.bk.lt (by decide)) (Gud.and (Gud.lb mb.bk.lt (by decide)) (Gud.and (Gud.lb nb.bk.lt (by decide)) (Gud.and (Gud.mo ob.lt (by decide)) (Gud.rk Ra.lt (by decide))))))))) (st0 := (y)) (τ := fb) ⟨ib, jb, kb, mb, nb, ob, Ra⟩ hp ?_ ?_ ?_ ?_
    ·intro pb Jd la S A Ea T kf Xe Ye Ze Ld Ma hA Ib hp Jb Kb
     obtain ⟨Y, Z, aa, ba, ma, ca, F⟩ := hA
     replace Y : Lb T S A Ea 1 m.nxt 4 [(Il s.Last), ca101, ca102, ca103] := Y
     replace Z : Lb T S A Ea 2 m0.nxt 5 [(Il 0), .sl0, .sl0, .sl0, C.map0] := Z
     replace aa : Lb T S A Ea 4 m6.nxt 5 [(Il s.Last), ca101, ca102, ca103, (.map O.nxt)] := aa
     replace ba : Lb T S A Ea 5 D.nxt 7 [(Il a.Crop), (Il a.Week.Lo), (Il a.Week.Hi), (Il a.Damage.Lo), (Il a.Damage.Hi), (Il a.Old.Lo), (Il a.Old.Hi)] := ba
     replace ma : Lb T S A Ea 7 za.nxt 1 [(Il x)] := ma
     replace ca : Mo T S A Ea 3 (.map O.nxt) la := ca
     replace F : Rk T S A Ea 6 (Ab).nxt La := F
     replace hp : popen_L2 s a x ((popen_L1 s qa a (popen_L0 s h) Da)) (pb :: Jd) la = some rz := hp
     rw [popen_L2] at hp
     refine ⟨_, rfl, ?_⟩
     refine Jb _ _ _ _ Ld Ib fun wf lf qb da Mb Nb => ?_
     have Md := Y.k da
     have Nd := Z.k da
     have Od := aa.k da
     have rb := ba.k da
     have sb := ma.k da
     have Pd := ca.k da
     have Ob := F.k da
     refine ⟨_, _, _, _, _, _, _, rb.bk.ra, _, sb.bk.rc rfl, ?_⟩
     obtain ⟨q, Qd, hp⟩ := bsome hp
     refine s_plant (fl := a) (week := x) (damage := pb) qb.pre  Qd fun xf Rd => ?_
     obtain ⟨Sd, I⟩ := qb.call Rd A
     have Td := Md.k I
     have Ud := Nd.k I
     have Vd := Od.k I
     have Wd := rb.k I
     have Xd := sb.k I
     have Yd := Pd.k I
     have Pb := Mb.k I
     have Qb := Ob.k I
     refine ⟨_, _, _, _, rfl, ?_⟩
     intro yf Zd
     obtain ⟨ae, be, J, ce⟩ := Sd.blk Zd A 9
     have de := Td.k J
     have ee := Ud.k J
     have fe := Vd.k J
     have ge := Wd.k J
     have he := Xd.k J
     have ie := Yd.k J
     have Rb := Pb.k J
     have Sb := Qb.k J
     obtain ⟨je, ke, tb, N, Na⟩ := ce.sto be [(Il q.t.Week), (Il q.t.Damage), (Il q.t.Old), (Il q.crop)]
     have ub := de.k N
     have me := ee.k N
     have vb := fe.k N
     have oe := ge.k N
     have pe := he.k N
     have qe := ie.k N
     have Tb := Rb.k N
     have Ub := Sb.k N
     refine ⟨je, ke, ?_⟩
     refine ⟨trivial, _, vb.bk.rc rfl, _, _, _, _, Na.bk.ra, _, _, _, _, ub.bk.ra, _, _, _, _, Na.bk.ra, ?_⟩
     obtain ⟨b, re, hp⟩ := bsome hp
     refine s_grow (s := s) (p := q) tb.pre (ha101.sub (Sub.trans (Sub.trans (Sub.trans (Sub.trans e u.fs) Ka) o.fs) Ma)) (ha102.sub (Sub.trans (Sub.trans (Sub.trans (Sub.trans e u.fs) Ka) o.fs) Ma)) (ha103.sub (Sub.trans (Sub.trans (Sub.trans (Sub.trans e u.fs) Ka) o.fs) Ma)) re fun zf se => ?_
     obtain ⟨te, B⟩ := tb.call se ae
     have ue := ub.k B
     have ve := me.k B
     have wb := vb.k B
     have we := oe.k B
     have xe := pe.k B
     have ye := Na.k B
     have xb := qe.k B
     have Vb := Tb.k B
     have Wb := Ub.k B
     refine ⟨_, _, _, _, _, _, _, _, _, _, _, _, _, rfl, (ye.bk.ra), (by rw [show noFnC _ = true from xb.mi.noFn]; exact (wb.bk.rc rfl)), ?_⟩
     obtain ⟨ze, hp⟩ := gd_some hp
     obtain ⟨Ae, Be, hp⟩ := bsome hp
     obtain ⟨Ce, De, Ee, ea, Fe⟩ := Mo.up kl170 te xb (k := q) ze (v := b) Be (kv := .agg 4 [(Il q.t.Week), (Il q.t.Damage), (Il q.t.Old), (Il q.crop)]) (yv := .agg 13 [(Il b.d0), (Il b.d1), (Il b.d2), (Il b.d3), (Il b.d4), (Il b.d5), (Il b.d6), (Il b.d7), (Il b.d8), (Il b.d9), (Il b.d10), (Il b.d11), (Il b.d12)]) rfl rfl
     have Ge := ue.k ea
     have He := ve.k ea
     have Ie := wb.k ea
     have Je := we.k ea
     have Ke := xe.k ea
     have Xb := Vb.k ea
     have Yb := Wb.k ea
     refine ⟨Ce, De, ?_⟩
     exact Kb .nrm (Ae) _ _ _ _ Ee ⟨Ge, He, Ie, Je, Ke, Fe, Yb⟩ Xb Nb hp
    ·intro la fa ga Fa Me mf hA hp
     replace hp : popen_L2 s a x ((popen_L1 s qa a (popen_L0 s h) Da)) [] la = some rz := hp
     obtain ⟨Y, Z, aa, ba, ma, ca, F⟩ := hA
     replace Y : Lb d fa ga Fa 1 m.nxt 4 [(Il s.Last), ca101, ca102, ca103] := Y
     replace Z : Lb d fa ga Fa 2 m0.nxt 5 [(Il 0), .sl0, .sl0, .sl0, C.map0] := Z
     replace aa : Lb d fa ga Fa 4 m6.nxt 5 [(Il s.Last), ca101, ca102, ca103, (.map O.nxt)] := aa
     replace ba : Lb d fa ga Fa 5 D.nxt 7 [(Il a.Crop), (Il a.Week.Lo), (Il a.Week.Hi), (Il a.Damage.Lo), (Il a.Damage.Hi), (Il a.Old.Lo), (Il a.Old.Hi)] := ba
     replace ma : Lb d fa ga Fa 7 za.nxt 1 [(Il x)] := ma
     replace ca : Mo d fa ga Fa 3 (.map O.nxt) la := ca
     replace F : Rk d fa ga Fa 6 (Ab).nxt La := F
     rw [popen_L2] at hp
     exact Db .nrm (la) _ _ _ _ Me ⟨Y, Z, aa, ba, ca⟩ F Hb hp
    ·intro id st _ _ _ _ _ _ hn; first | exact hn.elim | (cases hn)
    ·intro st _ _ _ _ _ _ hn; first | exact hn.elim | (cases hn)
   ·intro y na oa Sa Ne Oe hA hp
    replace hp : popen_L1 s qa a (popen_L0 s h) [] y = some rz := hp
    obtain ⟨i, g, l, z, n⟩ := hA
    replace i : Lb (Fm.of m) na oa Sa 1 m.nxt 4 [(Il s.Last), ca101, ca102, ca103] := i
    replace g : Lb (Fm.of m) na oa Sa 2 m0.nxt 5 [(Il 0), .sl0, .sl0, .sl0, C.map0] := g
    replace l : Lb (Fm.of m) na oa Sa 4 m6.nxt 5 [(Il s.Last), ca101, ca102, ca103, (.map O.nxt)] := l
    replace z : Lb (Fm.of m) na oa Sa 5 D.nxt 7 [(Il a.Crop), (Il a.Week.Lo), (Il a.Week.Hi), (Il a.Damage.Lo), (Il a.Damage.Hi), (Il a.Old.Lo), (Il a.Old.Hi)] := z
    replace n : Mo (Fm.of m) na oa Sa 3 (.map O.nxt) y := n
    rw [popen_L1] at hp
    refine gdi hp fun Pe hp => ?_
    exact Ac _ _ _ na oa Ne (Sub.trans (Sub.trans e u.fs) Oe) i g l n hp
   ·intro id st _ _ _ _ _ _ hn; first | exact hn.elim | (cases hn)
   ·intro y pa ya Ta Qe nf hA hn
    obtain ⟨hid, hp⟩ := hn
    replace hp : popen_L1_xret s y = some rz := hp
    unfold popen_L1_xret at hp
    obtain ⟨i, g, l, z, n⟩ := hA
    replace i : Lb (Fm.of m) pa ya Ta 1 m.nxt 4 [(Il s.Last), ca101, ca102, ca103] := i
    replace g : Lb (Fm.of m) pa ya Ta 2 m0.nxt 5 [(Il 0), .sl0, .sl0, .sl0, C.map0] := g
    replace l : Lb (Fm.of m) pa ya Ta 4 m6.nxt 5 [(Il s.Last), ca101, ca102, ca103, (.map O.nxt)] := l
    replace z : Lb (Fm.of m) pa ya Ta 5 D.nxt 7 [(Il a.Crop), (Il a.Week.Lo), (Il a.Week.Hi), (Il a.Damage.Lo), (Il a.Damage.Hi), (Il a.Old.Lo), (Il a.Old.Hi)] := z
    replace n : Mo (Fm.of m) pa ya Ta 3 (.map O.nxt) y := n
    refine ⟨_, _, _, _, _, g.bk.ra, ?_⟩
    obtain rfl := Option.some.inj hp
    exact hq _ pa .sl0 .sl0 .sl0 C.map0 Qe.grw (Sl.nil _) (Sl.nil _) (Sl.nil _) (show Mi _ .map0 none from rfl)
 exact hgo _ _ _ _ f qc zc (Sub.refl _) ta ua sa va hp
theorem s_choicesI {fl : Fld} {b0 : Nat} {w : Wk} {b1 : Nat} {cb101 cb102 cb103 cb104 : C} {m f : M} {F : Fm} {n0 ly : Nat} {xs : List (List V)} {I : Nat → (Nat → Prop) → M → Prop} {E : (Nat → Prop) → M → Prop} {S1 : Nat → Prop} {Q : V → M → Prop} {rz : List Crs} {τ0 : Nat → Nat} (hc : Client prog tbl n0 ly xs I E) (S0 : St F f f m) (Y0 : Yg n0 (YJ xs I rz) S1 F f τ0 m) (hb0 : Bk f b0 7 [(.int .i64 fl.Crop), (.int .i64 fl.Week.Lo), (.int .i64 fl.Week.Hi), (.int .i64 fl.Damage.Lo), (.int .i64 fl.Damage.Hi), (.int .i64 fl.Old.Lo), (.int .i64 fl.Old.Hi)]) (hb1 : Bk f b1 5 [(.int .i64 w.s.Last), cb101, cb102, cb103, cb104]) (hb101 : Sl f cb101 w.s.Rules) (hb102 : Sl f cb102 w.s.Fields) (hb103 : Sl f cb103 w.s.Visits) (hb104 : Mi f cb104 w.damages) (hp : pchoicesI fl w = some rz) (hq : ∀ v m' f' τ' S', St F f f' m' → (Yg n0 (YJ xs I ([] : List Crs)) S' F f' τ' m' ∨ Yg n0 E S' F f' τ' m') → Q v m') : Wc prog tbl 137 [.c (.fn (.yield ly) [] []), .c (.ptr b0 0), .c (.ptr b1 0)] m Q := by
 refine c137 ?_
 unfold pchoicesI at hp
 intro m0 e3066
 obtain ⟨τ3069, S3067, k3068, L3070⟩ := S0.blk e3066 τ0 1
 have Y3071 := Y0.k k3068 (by decide)
 refine ⟨trivial, _, _, (hb0.sub S3067.sub).rp (k := 1) (j := 2) rfl (by omega), ?_⟩
 obtain ⟨r3072, g3073, hp⟩ := bsome hp
 refine s_numbers (r := fl.Week) S3067.pre  g3073 fun m4 f3077 c3078 e3076 h3079 => ?_
 obtain ⟨S3074, k3075⟩ := S3067.callG e3076 τ3069
 have L3080 := L3070.k k3075 (by decide)
 have Y3081 := Y3071.k k3075 (by decide)
 refine ⟨_, rfl, ?_⟩
 refine range_st (α := Int) S3074 h3079 (σ := (List Crs) × (Nat → Prop) × Bool) 2 (fun st bb => (False ∨ (st.2.1 bb))) (fun st gG gF gT gM => (Lb gG gF gT gM 1 m.nxt 1 [(.fn (.yield ly) [] [])]) ∧ (Yg n0 (YD xs I E st.2.2 st.1) st.2.1 gG gF gT gM)) (fun rr_ st => st.2.2 = false ∧ pchoicesI_L0 fl w rr_ = some st.1) (fun ex st => (match ex with | .ret => st.2.2 = true ∨ (st.2.2 = false ∧ (0 : Nat) = 0 ∧ pchoicesI_L0_xret = some st.1) | _ => False)) (fun st => (Gud.and (Gud.lb L3080.bk.lt (by decide)) (Gud.yg Y3081.n (by decide)))) (st0 := (rz, S1, false)) (τ := τ3069) ⟨L3080, Y3081⟩ ⟨rfl, hp⟩ ?_ ?_ ?_ ?_
 ·intro a3091 q3092 st f3093 τ3094 m7 F3095 o3096 Ok3097 en3098 Kn3099 S3100 s3101 hA rk3102 hp he3103 hk3104
  obtain ⟨r3083, s3084, d3085⟩ := st
  obtain ⟨hdd, hp⟩ := hp
  replace hdd : d3085 = false := hdd
  subst hdd
  obtain ⟨L3082, Y3086⟩ := hA
  replace L3082 : Lb F3095 f3093 τ3094 m7 1 m.nxt 1 [(.fn (.yield ly) [] [])] := L3082
  replace Y3086 : Yg n0 (YJ xs I r3083) s3084 F3095 f3093 τ3094 m7 := Y3086
  replace hp : pchoicesI_L0 fl w (a3091 :: q3092) = some r3083 := hp
  rw [pchoicesI_L0] at hp
  refine ⟨_, rfl, ?_⟩
  intro m11 e3105
  obtain ⟨τ3108, S3106, k3107, L3109⟩ := S3100.blk e3105 τ3094 3
  have L3110 := L3082.k k3107 (by decide)
  have Y3111 := Y3086.k k3107 (by decide)
  have rk3112 := rk3102.k k3107 (by decide)
  obtain ⟨m3116, e3115, S3113, k3114, L3117⟩ := L3109.sto S3106 [(.int .i64 a3091)]
  have L3118 := L3110.k k3114 (by decide)
  have Y3119 := Y3111.k k3114 (by decide)
  have rk3120 := rk3112.k k3114 (by decide)
  refine ⟨m3116, e3115, ?_⟩
  refine he3103 _ _ _ _ S3113 rk3120 fun m13 o3124 S3121 k3122 rk3123 hO3125 => ?_
  have L3126 := L3118.k k3122 (by decide)
  have L3127 := L3117.k k3122 (by decide)
  have Y3128 := Y3119.k k3122 (by decide)
  refine ⟨trivial, _, _, (hb0.sub (Sub.trans (Sub.trans k3075.fs s3101) S3121.sub)).rp (k := 3) (j := 2) rfl (by omega), ?_⟩
  obtain ⟨r3129, g3130, hp⟩ := bsome hp
  refine s_numbers (r := fl.Damage) S3121.pre  g3130 fun m17 f3134 c3135 e3133 h3136 => ?_
  obtain ⟨S3131, k3132⟩ := S3121.callG e3133 τ3108
  have L3137 := L3126.k k3132 (by decide)
  have L3138 := L3127.k k3132 (by decide)
  have Y3139 := Y3128.k k3132 (by decide)
  have rk3140 := rk3123.k k3132 (by decide)
  refine ⟨_, rfl, ?_⟩
  refine range_st (α := Int) S3131 h3136 (σ := (List Crs) × (Nat → Prop) × Bool) 4 (fun st bb => (False ∨ (False ∨ ((st.2.1 bb) ∨ False)))) (fun st gG gF gT gM => (Lb gG gF gT gM 1 m.nxt 1 [(.fn (.yield ly) [] [])]) ∧ (Lb gG gF gT gM 3 m7.nxt 1 [(.int .i64 a3091)]) ∧ (Yg n0 (YD xs I E st.2.2 st.1) st.2.1 gG gF gT gM) ∧ (Rk gG gF gT gM 2 (m4).nxt o3124)) (fun rr_ st => st.2.2 = false ∧ pchoicesI_L1 fl w a3091 ((pchoicesI_L0 fl w q3092)) rr_ = some st.1) (fun ex st => (match ex with | .ret => st.2.2 = true ∨ (st.2.2 = false ∧ (0 : Nat) = 0 ∧ pchoicesI_L1_xret = some st.1) | _ => False)) (fun st => (Gud.and (Gud.lb L3137.bk.lt (by decide)) (Gud.and (Gud.lb L3138.bk.lt (by decide)) (Gud.and (Gud.yg Y3139.n (by decide)) (Gud.rk rk3140.lt (by decide)))))) (st0 := (r3083, s3084, false)) (τ := τ3108) ⟨L3137, L3138, Y3139, rk3140⟩ ⟨rfl, hp⟩ ?_ ?_ ?_ ?_
  ·intro a3152 q3153 st f3154 τ3155 m20 F3156 o3157 Ok3158 en3159 Kn3160 S3161 s3162 hA rk3163 hp he3164 hk3165
   obtain ⟨r3143, s3144, d3145⟩ := st
   obtain ⟨hdd, hp⟩ := hp
   replace hdd : d3145 = false := hdd
   subst hdd
   obtain ⟨L3141, L3142, Y3146, rk3147⟩ := hA
   replace L3141 : Lb F3156 f3154 τ3155 m20 1 m.nxt 1 [(.fn (.yield ly) [] [])] := L3141
   replace L3142 : Lb F3156 f3154 τ3155 m20 3 m7.nxt 1 [(.int .i64 a3091)] := L3142
   replace Y3146 : Yg n0 (YJ xs I r3143) s3144 F3156 f3154 τ3155 m20 := Y3146
   replace rk3147 : Rk F3156 f3154 τ3155 m20 2 (m4).nxt o3124 := rk3147
   replace hp : pchoicesI_L1 fl w a3091 ((pchoicesI_L0 fl w q3092)) (a3152 :: q3153) = some r3143 := hp
   rw [pchoicesI_L1] at hp
   refine ⟨_, rfl, ?_⟩
   intro m24 e3166
   obtain ⟨τ3169, S3167, k3168, L3170⟩ := S3161.blk e3166 τ3155 5
   have L3171 := L3141.k k3168 (by decide)
   have L3172 := L3142.k k3168 (by decide)
   have Y3173 := Y3146.k k3168 (by decide)
   have rk3174 := rk3163.k k3168 (by decide)
   have rk3175 := rk3147.k k3168 (by decide)
   obtain ⟨m3179, e3178, S3176, k3177, L3180⟩ := L3170.sto S3167 [(.int .i64 a3152)]
   have L3181 := L3171.k k3177 (by decide)
   have L3182 := L3172.k k3177 (by decide)
   have Y3183 := Y3173.k k3177 (by decide)
   have rk3184 := rk3174.k k3177 (by decide)
   have rk3185 := rk3175.k k3177 (by decide)
   refine ⟨m3179, e3178, ?_⟩
   refine he3164 _ _ _ _ S3176 rk3184 fun m26 o3189 S3186 k3187 rk3188 hO3190 => ?_
   have L3191 := L3181.k k3187 (by decide)
   have L3192 := L3182.k k3187 (by decide)
   have L3193 := L3180.k k3187 (by decide)
   have Y3194 := Y3183.k k3187 (by decide)
   have rk3195 := rk3185.k k3187 (by decide)
   intro m27 e3196
   obtain ⟨τ3199, S3197, k3198, hz3200⟩ := S3186.growK e3196 τ3169 6
   have L3201 := L3191.k k3198 (by decide)
   have L3202 := L3192.k k3198 (by decide)
   have L3203 := L3193.k k3198 (by decide)
   have Y3204 := Y3194.k k3198 (by decide)
   have rk3205 := rk3188.k k3198 (by decide)
   have rk3206 := rk3195.k k3198 (by decide)
   have Z3207 := hz3200 0 (by decide)
   refine ⟨trivial, _, (hb1.sub (Sub.trans (Sub.trans (Sub.trans (Sub.trans k3075.fs s3101) k3132.fs) s3162) S3197.sub)).rc rfl, _, _, _, _, _, _, _, (hb0.sub (Sub.trans (Sub.trans (Sub.trans (Sub.trans k3075.fs s3101) k3132.fs) s3162) S3197.sub)).ra, _, L3202.bk.rc rfl, _, L3203.bk.rc rfl, ?_⟩
   obtain ⟨r3208, g3209, hp⟩ := bsome hp
   refine s_plant (fl := fl) (week := a3091) (damage := a3152) S3197.pre  g3209 fun m39 e3212 => ?_
   obtain ⟨S3210, k3211⟩ := S3197.call e3212 τ3199
   have L3213 := L3201.k k3211 (by decide)
   have L3214 := L3202.k k3211 (by decide)
   have L3215 := L3203.k k3211 (by decide)
   have Z3216 := Z3207.k k3211 (by decide)
   have Y3217 := Y3204.k k3211 (by decide)
   have rk3218 := rk3205.k k3211 (by decide)
   have rk3219 := rk3206.k k3211 (by decide)
   refine ⟨_, _, _, _, rfl, (by rw [show noFnC _ = true from hb104.noFn]; exact ((hb1.sub (Sub.trans (Sub.trans (Sub.trans (Sub.trans k3075.fs s3101) k3132.fs) s3162) S3210.sub)).rc rfl)), ?_⟩
   obtain ⟨g3220, hp⟩ := gd_some hp
   refine ⟨_, (Mi.sub (hb104.sub (Sub.trans (Sub.trans (Sub.trans k3075.fs s3101) k3132.fs) s3162)) S3210.sub).mi.lk kl170 (k := r3208) g3220 rfl, ?_⟩
   cases hv3221 : (mget w.damages r3208) with
   | none =>
    rw [mcase_none hv3221] at hp
    refine ⟨fun _ => ?_, fun u hu => (by cases hu)⟩
    intro m45 e3223
    obtain ⟨S3224, k3225, L3226⟩ := Z3216.set S3210 e3223
    have L3227 := L3213.k k3225 (by decide)
    have L3228 := L3214.k k3225 (by decide)
    have L3229 := L3215.k k3225 (by decide)
    have Y3230 := Y3217.k k3225 (by decide)
    have rk3231 := rk3218.k k3225 (by decide)
    have rk3232 := rk3219.k k3225 (by decide)
    refine ⟨⟨_, (Mi.sub (hb104.sub (Sub.trans (Sub.trans (Sub.trans k3075.fs s3101) k3132.fs) s3162)) S3224.sub).mi.lk kl170 (k := r3208) g3220 rfl, (by rw [hv3221]; rfl), rfl⟩, (L3229.bk.rc rfl), (L3228.bk.rc rfl), ((hb0.sub (Sub.trans (Sub.trans (Sub.trans (Sub.trans k3075.fs s3101) k3132.fs) s3162) S3224.sub)).ra), (by rw [show noFnC _ = true from hb104.noFn]; exact ((hb1.sub (Sub.trans (Sub.trans (Sub.trans (Sub.trans k3075.fs s3101) k3132.fs) s3162) S3224.sub)).rc rfl)), ?_⟩
    obtain ⟨m3236, e3235, S3233, k3234, L3237⟩ := L3226.sto S3224 [(.int .i64 (0 : Int)), (.int .i64 (0 : Int)), (.int .i64 (0 : Int)), (.int .i64 (0 : Int)), (.int .i64 (0 : Int)), (.int .i64 (0 : Int)), (.int .i64 (0 : Int)), (.int .i64 (0 : Int)), (.int .i64 (0 : Int)), (.int .i64 (0 : Int)), (.int .i64 (0 : Int)), (.int .i64 (0 : Int)), (.int .i64 (0 : Int))]
    have L3238 := L3227.k k3234 (by decide)
    have L3239 := L3228.k k3234 (by decide)
    have L3240 := L3229.k k3234 (by decide)
    have Y3241 := Y3230.k k3234 (by decide)
    have rk3242 := rk3231.k k3234 (by decide)
    have rk3243 := rk3232.k k3234 (by decide)
    refine ⟨m3236, e3235, ?_⟩
    refine ⟨trivial, _, _, (hb0.sub (Sub.trans (Sub.trans (Sub.trans (Sub.trans k3075.fs s3101) k3132.fs) s3162) S3233.sub)).rp (k := 5) (j := 2) rfl (by omega), ?_⟩
    obtain ⟨r3244, g3245, hp⟩ := bsome hp
    refine s_numbers (r := fl.Old) S3233.pre  g3245 fun m52 f3249 c3250 e3248 h3251 => ?_
    obtain ⟨S3246, k3247⟩ := S3233.callG e3248 τ3199
    have L3252 := L3238.k k3247 (by decide)
    have L3253 := L3239.k k3247 (by decide)
    have L3254 := L3240.k k3247 (by decide)
    have L3255 := L3237.k k3247 (by decide)
    have Y3256 := Y3241.k k3247 (by decide)
    have rk3257 := rk3242.k k3247 (by decide)
    have rk3258 := rk3243.k k3247 (by decide)
    refine ⟨_, rfl, ?_⟩
    refine range_st (α := Int) S3246 h3251 (σ := (List Crs) × (Nat → Prop) × Bool) 7 (fun st bb => (False ∨ (False ∨ (False ∨ (False ∨ ((st.2.1 bb) ∨ (False ∨ False))))))) (fun st gG gF gT gM => (Lb gG gF gT gM 1 m.nxt 1 [(.fn (.yield ly) [] [])]) ∧ (Lb gG gF gT gM 3 m7.nxt 1 [(.int .i64 a3091)]) ∧ (Lb gG gF gT gM 5 m20.nxt 1 [(.int .i64 a3152)]) ∧ (Lb gG gF gT gM 6 (m26.nxt + 0) 13 [(.int .i64 (0 : Int)), (.int .i64 (0 : Int)), (.int .i64 (0 : Int)), (.int .i64 (0 : Int)), (.int .i64 (0 : Int)), (.int .i64 (0 : Int)), (.int .i64 (0 : Int)), (.int .i64 (0 : Int)), (.int .i64 (0 : Int)), (.int .i64 (0 : Int)), (.int .i64 (0 : Int)), (.int .i64 (0 : Int)), (.int .i64 (0 : Int))]) ∧ (Yg n0 (YD xs I E st.2.2 st.1) st.2.1 gG gF gT gM) ∧ (Rk gG gF gT gM 2 (m4).nxt o3124) ∧ (Rk gG gF gT gM 4 (m17).nxt o3189)) (fun rr_ st => st.2.2 = false ∧ pchoicesI_L2 a3091 a3152 ((pchoicesI_L1 fl w a3091 ((pchoicesI_L0 fl w q3092)) q3153)) rr_ = some st.1) (fun ex st => (match ex with | .ret => st.2.2 = true ∨ (st.2.2 = false ∧ (0 : Nat) = 0 ∧ pchoicesI_L2_xret = some st.1) | _ => False)) (fun st => (Gud.and (Gud.lb L3252.bk.lt (by decide)) (Gud.and (Gud.lb L3253.bk.lt (by decide)) (Gud.and (Gud.lb L3254.bk.lt (by decide)) (Gud.and (Gud.lb L3255.bk.lt (by decide)) (Gud.and (Gud.yg Y3256.n (by decide)) (Gud.and (Gud.rk rk3258.lt (by decide)) (Gud.rk rk3257.lt (by decide))))))))) (st0 := (r3143, s3144, false)) (τ := τ3199) ⟨L3252, L3253, L3254, L3255, Y3256, rk3258, rk3257⟩ ⟨rfl, hp⟩ ?_ ?_ ?_ ?_
    ·intro a3273 q3274 st f3275 τ3276 m55 F3277 o3278 Ok3279 en3280 Kn3281 S3282 s3283 hA rk3284 hp he3285 hk3286
     obtain ⟨r3263, s3264, d3265⟩ := st
     obtain ⟨hdd, hp⟩ := hp
     replace hdd : d3265 = false := hdd
     subst hdd
     obtain ⟨L3259, L3260, L3261, L3262, Y3266, rk3267, rk3268⟩ := hA
     replace L3259 : Lb F3277 f3275 τ3276 m55 1 m.nxt 1 [(.fn (.yield ly) [] [])] := L3259
     replace L3260 : Lb F3277 f3275 τ3276 m55 3 m7.nxt 1 [(.int .i64 a3091)] := L3260
     replace L3261 : Lb F3277 f3275 τ3276 m55 5 m20.nxt 1 [(.int .i64 a3152)] := L3261
     replace L3262 : Lb F3277 f3275 τ3276 m55 6 (m26.nxt + 0) 13 [(.int .i64 (0 : Int)), (.int .i64 (0 : Int)), (.int .i64 (0 : Int)), (.int .i64 (0 : Int)), (.int .i64 (0 : Int)), (.int .i64 (0 : Int)), (.int .i64 (0 : Int)), (.int .i64 (0 : Int)), (.int .i64 (0 : Int)), (.int .i64 (0 : Int)), (.int .i64 (0 : Int)), (.int .i64 (0 : Int)), (.int .i64 (0 : Int))] := L3262
     replace Y3266 : Yg n0 (YJ xs I r3263) s3264 F3277 f3275 τ3276 m55 := Y3266
     replace rk3267 : Rk F3277 f3275 τ3276 m55 2 (m4).nxt o3124 := rk3267
     replace rk3268 : Rk F3277 f3275 τ3276 m55 4 (m17).nxt o3189 := rk3268
     replace hp : pchoicesI_L2 a3091 a3152 ((pchoicesI_L1 fl w a3091 ((pchoicesI_L0 fl w q3092)) q3153)) (a3273 :: q3274) = some r3263 := hp
     rw [pchoicesI_L2] at hp
     refine ⟨_, rfl, ?_⟩
     refine he3285 _ _ _ _ S3282 rk3284 fun m59 o3290 S3287 k3288 rk3289 hO3291 => ?_
     have L3292 := L3259.k k3288 (by decide)
     have L3293 := L3260.k k3288 (by decide)
     have L3294 := L3261.k k3288 (by decide)
     have L3295 := L3262.k k3288 (by decide)
     have Y3296 := Y3266.k k3288 (by decide)
     have rk3297 := rk3267.k k3288 (by decide)
     have rk3298 := rk3268.k k3288 (by decide)
     refine ⟨_, L3292.bk.rc rfl, _, L3293.bk.rc rfl, _, L3294.bk.rc rfl, _, _, _, _, _, _, _, _, _, _, _, _, _, L3295.bk.ra, ?_⟩
     obtain ⟨r3299, hp3301, hz3300⟩ := bsome hp
     clear hp
     obtain rfl := Option.some.inj hz3300
     have hp := hp3301
     show Wy prog tbl ly (IV.encs (({ t := ({ Week := a3091, Damage := a3152, Old := a3273 } : Trh), d := ({ d0 := (0 : Int), d1 := (0 : Int), d2 := (0 : Int), d3 := (0 : Int), d4 := (0 : Int), d5 := (0 : Int), d6 := (0 : Int), d7 := (0 : Int), d8 := (0 : Int), d9 := (0 : Int), d10 := (0 : Int), d11 := (0 : Int), d12 := (0 : Int) } : Dm) } : Crs) : Crs)) _ _
     refine Yg.yield hc S3287 Y3296 ?_ ?_
     ·intro m77 τ3302 s3306 S3303 k3304 Y3305
      have L3307 := L3292.k k3304 (by decide)
      have L3308 := L3293.k k3304 (by decide)
      have L3309 := L3294.k k3304 (by decide)
      have L3310 := L3295.k k3304 (by decide)
      have rk3311 := rk3289.k k3304 (by decide)
      have rk3312 := rk3297.k k3304 (by decide)
      have rk3313 := rk3298.k k3304 (by decide)
      refine ⟨_, rfl, ?_⟩
      refine ifB_f' ?_
      exact hk3286 .nrm (r3299, s3306, false) _ _ _ _ S3303 ⟨L3307, L3308, L3309, L3310, Y3305, rk3312, rk3313⟩ rk3311 hO3291 ⟨rfl, hp⟩
     ·intro m77 τ3314 s3318 S3315 k3316 Y3317
      have L3319 := L3292.k k3316 (by decide)
      have L3320 := L3293.k k3316 (by decide)
      have L3321 := L3294.k k3316 (by decide)
      have L3322 := L3295.k k3316 (by decide)
      have rk3323 := rk3289.k k3316 (by decide)
      have rk3324 := rk3297.k k3316 (by decide)
      have rk3325 := rk3298.k k3316 (by decide)
      refine ⟨_, rfl, ?_⟩
      refine ifB_t' ?_
      exact hk3286 .ret ([], s3318, true) _ _ _ _ S3315 ⟨L3319, L3320, L3321, L3322, Y3317, rk3324, rk3325⟩ rk3323 hO3291 (.inl rfl)
    ·intro st f3326 τ3328 m79 S3329 s3327 hA hp
     obtain ⟨r3263, s3264, d3265⟩ := st
     obtain ⟨hdd, hp⟩ := hp
     replace hdd : d3265 = false := hdd
     subst hdd
     replace hp : pchoicesI_L2 a3091 a3152 ((pchoicesI_L1 fl w a3091 ((pchoicesI_L0 fl w q3092)) q3153)) [] = some r3263 := hp
     obtain ⟨L3259, L3260, L3261, L3262, Y3266, rk3267, rk3268⟩ := hA
     replace L3259 : Lb F3156 f3326 τ3328 m79 1 m.nxt 1 [(.fn (.yield ly) [] [])] := L3259
     replace L3260 : Lb F3156 f3326 τ3328 m79 3 m7.nxt 1 [(.int .i64 a3091)] := L3260
     replace L3261 : Lb F3156 f3326 τ3328 m79 5 m20.nxt 1 [(.int .i64 a3152)] := L3261
     replace L3262 : Lb F3156 f3326 τ3328 m79 6 (m26.nxt + 0) 13 [(.int .i64 (0 : Int)), (.int .i64 (0 : Int)), (.int .i64 (0 : Int)), (.int .i64 (0 : Int)), (.int .i64 (0 : Int)), (.int .i64 (0 : Int)), (.int .i64 (0 : Int)), (.int .i64 (0 : Int)), (.int .i64 (0 : Int)), (.int .i64 (0 : Int)), (.int .i64 (0 : Int)), (.int .i64 (0 : Int)), (.int .i64 (0 : Int))] := L3262
     replace Y3266 : Yg n0 (YJ xs I r3263) s3264 F3156 f3326 τ3328 m79 := Y3266
     replace rk3267 : Rk F3156 f3326 τ3328 m79 2 (m4).nxt o3124 := rk3267
     replace rk3268 : Rk F3156 f3326 τ3328 m79 4 (m17).nxt o3189 := rk3268
     rw [pchoicesI_L2] at hp
     exact hk3165 .nrm (r3263, s3264, false) _ _ _ _ S3329 ⟨L3259, L3260, Y3266, rk3267⟩ rk3268 hO3190 ⟨rfl, hp⟩
    ·intro id st _ _ _ _ _ _ hn; first | exact hn.elim | (cases hn)
    ·intro st f3269 τ3271 m80 S3272 s3270 hA hn
     obtain ⟨r3263, s3264, d3265⟩ := st
     rcases hn with hd | ⟨hd, hid, hp⟩
     ·replace hd : d3265 = true := hd
      subst hd
      obtain ⟨L3259, L3260, L3261, L3262, Y3266, rk3267, rk3268⟩ := hA
      replace L3259 : Lb F3156 f3269 τ3271 m80 1 m.nxt 1 [(.fn (.yield ly) [] [])] := L3259
      replace L3260 : Lb F3156 f3269 τ3271 m80 3 m7.nxt 1 [(.int .i64 a3091)] := L3260
      replace L3261 : Lb F3156 f3269 τ3271 m80 5 m20.nxt 1 [(.int .i64 a3152)] := L3261
      replace L3262 : Lb F3156 f3269 τ3271 m80 6 (m26.nxt + 0) 13 [(.int .i64 (0 : Int)), (.int .i64 (0 : Int)), (.int .i64 (0 : Int)), (.int .i64 (0 : Int)), (.int .i64 (0 : Int)), (.int .i64 (0 : Int)), (.int .i64 (0 : Int)), (.int .i64 (0 : Int)), (.int .i64 (0 : Int)), (.int .i64 (0 : Int)), (.int .i64 (0 : Int)), (.int .i64 (0 : Int)), (.int .i64 (0 : Int))] := L3262
      replace Y3266 : Yg n0 E s3264 F3156 f3269 τ3271 m80 := Y3266
      replace rk3267 : Rk F3156 f3269 τ3271 m80 2 (m4).nxt o3124 := rk3267
      replace rk3268 : Rk F3156 f3269 τ3271 m80 4 (m17).nxt o3189 := rk3268
      exact hk3165 .ret ([], s3264, true) _ _ _ _ S3272 ⟨L3259, L3260, Y3266, rk3267⟩ rk3268 hO3190 (.inl rfl)
     replace hd : d3265 = false := hd
     subst hd
     replace hp : pchoicesI_L2_xret = some r3263 := hp
     unfold pchoicesI_L2_xret at hp
     obtain ⟨L3259, L3260, L3261, L3262, Y3266, rk3267, rk3268⟩ := hA
     replace L3259 : Lb F3156 f3269 τ3271 m80 1 m.nxt 1 [(.fn (.yield ly) [] [])] := L3259
     replace L3260 : Lb F3156 f3269 τ3271 m80 3 m7.nxt 1 [(.int .i64 a3091)] := L3260
     replace L3261 : Lb F3156 f3269 τ3271 m80 5 m20.nxt 1 [(.int .i64 a3152)] := L3261
     replace L3262 : Lb F3156 f3269 τ3271 m80 6 (m26.nxt + 0) 13 [(.int .i64 (0 : Int)), (.int .i64 (0 : Int)), (.int .i64 (0 : Int)), (.int .i64 (0 : Int)), (.int .i64 (0 : Int)), (.int .i64 (0 : Int)), (.int .i64 (0 : Int)), (.int .i64 (0 : Int)), (.int .i64 (0 : Int)), (.int .i64 (0 : Int)), (.int .i64 (0 : Int)), (.int .i64 (0 : Int)), (.int .i64 (0 : Int))] := L3262
     replace Y3266 : Yg n0 (YJ xs I r3263) s3264 F3156 f3269 τ3271 m80 := Y3266
     replace rk3267 : Rk F3156 f3269 τ3271 m80 2 (m4).nxt o3124 := rk3267
     replace rk3268 : Rk F3156 f3269 τ3271 m80 4 (m17).nxt o3189 := rk3268
     exact hk3165 .ret (r3263, s3264, false) _ _ _ _ S3272 ⟨L3259, L3260, Y3266, rk3267⟩ rk3268 hO3190 (.inr ⟨rfl, rfl, hp⟩)
   | some w3222 =>
    rw [mcase_some hv3221] at hp
    refine ⟨fun h => (by cases h), fun u hu => ?_⟩
    obtain rfl := Option.some.inj hu
    refine ⟨_, _, _, _, _, _, _, _, _, _, _, _, _, rfl, ?_⟩
    intro m95 e3330
    obtain ⟨S3331, k3332, L3333⟩ := Z3216.set S3210 e3330
    have L3334 := L3213.k k3332 (by decide)
    have L3335 := L3214.k k3332 (by decide)
    have L3336 := L3215.k k3332 (by decide)
    have Y3337 := Y3217.k k3332 (by decide)
    have rk3338 := rk3218.k k3332 (by decide)
    have rk3339 := rk3219.k k3332 (by decide)
    refine ⟨⟨_, (Mi.sub (hb104.sub (Sub.trans (Sub.trans (Sub.trans k3075.fs s3101) k3132.fs) s3162)) S3331.sub).mi.lk kl170 (k := r3208) g3220 rfl, (by rw [hv3221]; rfl), rfl⟩, (L3336.bk.rc rfl), (L3335.bk.rc rfl), ((hb0.sub (Sub.trans (Sub.trans (Sub.trans (Sub.trans k3075.fs s3101) k3132.fs) s3162) S3331.sub)).ra), (by rw [show noFnC _ = true from hb104.noFn]; exact ((hb1.sub (Sub.trans (Sub.trans (Sub.trans (Sub.trans k3075.fs s3101) k3132.fs) s3162) S3331.sub)).rc rfl)), ?_⟩
    obtain ⟨m3343, e3342, S3340, k3341, L3344⟩ := L3333.sto S3331 [(.int .i64 w3222.d0), (.int .i64 w3222.d1), (.int .i64 w3222.d2), (.int .i64 w3222.d3), (.int .i64 w3222.d4), (.int .i64 w3222.d5), (.int .i64 w3222.d6), (.int .i64 w3222.d7), (.int .i64 w3222.d8), (.int .i64 w3222.d9), (.int .i64 w3222.d10), (.int .i64 w3222.d11), (.int .i64 w3222.d12)]
    have L3345 := L3334.k k3341 (by decide)
    have L3346 := L3335.k k3341 (by decide)
    have L3347 := L3336.k k3341 (by decide)
    have Y3348 := Y3337.k k3341 (by decide)
    have rk3349 := rk3338.k k3341 (by decide)
    have rk3350 := rk3339.k k3341 (by decide)
    refine ⟨m3343, e3342, ?_⟩
    refine ⟨trivial, _, _, (hb0.sub (Sub.trans (Sub.trans (Sub.trans (Sub.trans k3075.fs s3101) k3132.fs) s3162) S3340.sub)).rp (k := 5) (j := 2) rfl (by omega), ?_⟩
    obtain ⟨r3351, g3352, hp⟩ := bsome hp
    refine s_numbers (r := fl.Old) S3340.pre  g3352 fun m102 f3356 c3357 e3355 h3358 => ?_
    obtain ⟨S3353, k3354⟩ := S3340.callG e3355 τ3199
    have L3359 := L3345.k k3354 (by decide)
    have L3360 := L3346.k k3354 (by decide)
    have L3361 := L3347.k k3354 (by decide)
    have L3362 := L3344.k k3354 (by decide)
    have Y3363 := Y3348.k k3354 (by decide)
    have rk3364 := rk3349.k k3354 (by decide)
    have rk3365 := rk3350.k k3354 (by decide)
    refine ⟨_, rfl, ?_⟩
    refine range_st (α := Int) S3353 h3358 (σ := (List Crs) × (Nat → Prop) × Bool) 8 (fun st bb => (False ∨ (False ∨ (False ∨ (False ∨ ((st.2.1 bb) ∨ (False ∨ False))))))) (fun st gG gF gT gM => (Lb gG gF gT gM 1 m.nxt 1 [(.fn (.yield ly) [] [])]) ∧ (Lb gG gF gT gM 3 m7.nxt 1 [(.int .i64 a3091)]) ∧ (Lb gG gF gT gM 5 m20.nxt 1 [(.int .i64 a3152)]) ∧ (Lb gG gF gT gM 6 (m26.nxt + 0) 13 [(.int .i64 w3222.d0), (.int .i64 w3222.d1), (.int .i64 w3222.d2), (.int .i64 w3222.d3), (.int .i64 w3222.d4), (.int .i64 w3222.d5), (.int .i64 w3222.d6), (.int .i64 w3222.d7), (.int .i64 w3222.d8), (.int .i64 w3222.d9), (.int .i64 w3222.d10), (.int .i64 w3222.d11), (.int .i64 w3222.d12)]) ∧ (Yg n0 (YD xs I E st.2.2 st.1) st.2.1 gG gF gT gM) ∧ (Rk gG gF gT gM 2 (m4).nxt o3124) ∧ (Rk gG gF gT gM 4 (m17).nxt o3189)) (fun rr_ st => st.2.2 = false ∧ pchoicesI_L3 a3091 a3152 w3222 ((pchoicesI_L1 fl w a3091 ((pchoicesI_L0 fl w q3092)) q3153)) rr_ = some st.1) (fun ex st => (match ex with | .ret => st.2.2 = true ∨ (st.2.2 = false ∧ (0 : Nat) = 0 ∧ pchoicesI_L3_xret = some st.1) | _ => False)) (fun st => (Gud.and (Gud.lb L3359.bk.lt (by decide)) (Gud.and (Gud.lb L3360.bk.lt (by decide)) (Gud.and (Gud.lb L3361.bk.lt (by decide)) (Gud.and (Gud.lb L3362.bk.lt (by decide)) (Gud.and (Gud.yg Y3363.n (by decide)) (Gud.and (Gud.rk rk3365.lt (by decide)) (Gud.rk rk3364.lt (by decide))))))))) (st0 := (r3143, s3144, false)) (τ := τ3199) ⟨L3359, L3360, L3361, L3362, Y3363, rk3365, rk3364⟩ ⟨rfl, hp⟩ ?_ ?_ ?_ ?_
    ·intro a3380 q3381 st f3382 τ3383 m105 F3384 o3385 Ok3386 en3387 Kn3388 S3389 s3390 hA rk3391 hp he3392 hk3393
     obtain ⟨r3370, s3371, d3372⟩ := st
     obtain ⟨hdd, hp⟩ := hp
     replace hdd : d3372 = false := hdd
     subst hdd
     obtain ⟨L3366, L3367, L3368, L3369, Y3373, rk3374, rk3375⟩ := hA
     replace L3366 : Lb F3384 f3382 τ3383 m105 1 m.nxt 1 [(.fn (.yield ly) [] [])] := L3366
     replace L3367 : Lb F3384 f3382 τ3383 m105 3 m7.nxt 1 [(.int .i64 a3091)] := L3367
     replace L3368 : Lb F3384 f3382 τ3383 m105 5 m20.nxt 1 [(.int .i64 a3152)] := L3368
     replace L3369 : Lb F3384 f3382 τ3383 m105 6 (m26.nxt + 0) 13 [(.int .i64 w3222.d0), (.int .i64 w3222.d1), (.int .i64 w3222.d2), (.int .i64 w3222.d3), (.int .i64 w3222.d4), (.int .i64 w3222.d5), (.int .i64 w3222.d6), (.int .i64 w3222.d7), (.int .i64 w3222.d8), (.int .i64 w3222.d9), (.int .i64 w3222.d10), (.int .i64 w3222.d11), (.int .i64 w3222.d12)] := L3369
     replace Y3373 : Yg n0 (YJ xs I r3370) s3371 F3384 f3382 τ3383 m105 := Y3373
     replace rk3374 : Rk F3384 f3382 τ3383 m105 2 (m4).nxt o3124 := rk3374
     replace rk3375 : Rk F3384 f3382 τ3383 m105 4 (m17).nxt o3189 := rk3375
     replace hp : pchoicesI_L3 a3091 a3152 w3222 ((pchoicesI_L1 fl w a3091 ((pchoicesI_L0 fl w q3092)) q3153)) (a3380 :: q3381) = some r3370 := hp
     rw [pchoicesI_L3] at hp
     refine ⟨_, rfl, ?_⟩
     refine he3392 _ _ _ _ S3389 rk3391 fun m109 o3397 S3394 k3395 rk3396 hO3398 => ?_
     have L3399 := L3366.k k3395 (by decide)
     have L3400 := L3367.k k3395 (by decide)
     have L3401 := L3368.k k3395 (by decide)
     have L3402 := L3369.k k3395 (by decide)
     have Y3403 := Y3373.k k3395 (by decide)
     have rk3404 := rk3374.k k3395 (by decide)
     have rk3405 := rk3375.k k3395 (by decide)
     refine ⟨_, L3399.bk.rc rfl, _, L3400.bk.rc rfl, _, L3401.bk.rc rfl, _, _, _, _, _, _, _, _, _, _, _, _, _, L3402.bk.ra, ?_⟩
     obtain ⟨r3406, hp3408, hz3407⟩ := bsome hp
     clear hp
     obtain rfl := Option.some.inj hz3407
     have hp := hp3408
     show Wy prog tbl ly (IV.encs (({ t := ({ Week := a3091, Damage := a3152, Old := a3380 } : Trh), d := w3222 } : Crs) : Crs)) _ _
     refine Yg.yield hc S3394 Y3403 ?_ ?_
     ·intro m127 τ3409 s3413 S3410 k3411 Y3412
      have L3414 := L3399.k k3411 (by decide)
      have L3415 := L3400.k k3411 (by decide)
      have L3416 := L3401.k k3411 (by decide)
      have L3417 := L3402.k k3411 (by decide)
      have rk3418 := rk3396.k k3411 (by decide)
      have rk3419 := rk3404.k k3411 (by decide)
      have rk3420 := rk3405.k k3411 (by decide)
      refine ⟨_, rfl, ?_⟩
      refine ifB_f' ?_
      exact hk3393 .nrm (r3406, s3413, false) _ _ _ _ S3410 ⟨L3414, L3415, L3416, L3417, Y3412, rk3419, rk3420⟩ rk3418 hO3398 ⟨rfl, hp⟩
     ·intro m127 τ3421 s3425 S3422 k3423 Y3424
      have L3426 := L3399.k k3423 (by decide)
      have L3427 := L3400.k k3423 (by decide)
      have L3428 := L3401.k k3423 (by decide)
      have L3429 := L3402.k k3423 (by decide)
      have rk3430 := rk3396.k k3423 (by decide)
      have rk3431 := rk3404.k k3423 (by decide)
      have rk3432 := rk3405.k k3423 (by decide)
      refine ⟨_, rfl, ?_⟩
      refine ifB_t' ?_
      exact hk3393 .ret ([], s3425, true) _ _ _ _ S3422 ⟨L3426, L3427, L3428, L3429, Y3424, rk3431, rk3432⟩ rk3430 hO3398 (.inl rfl)
    ·intro st f3433 τ3435 m129 S3436 s3434 hA hp
     obtain ⟨r3370, s3371, d3372⟩ := st
     obtain ⟨hdd, hp⟩ := hp
     replace hdd : d3372 = false := hdd
     subst hdd
     replace hp : pchoicesI_L3 a3091 a3152 w3222 ((pchoicesI_L1 fl w a3091 ((pchoicesI_L0 fl w q3092)) q3153)) [] = some r3370 := hp
     obtain ⟨L3366, L3367, L3368, L3369, Y3373, rk3374, rk3375⟩ := hA
     replace L3366 : Lb F3156 f3433 τ3435 m129 1 m.nxt 1 [(.fn (.yield ly) [] [])] := L3366
     replace L3367 : Lb F3156 f3433 τ3435 m129 3 m7.nxt 1 [(.int .i64 a3091)] := L3367
     replace L3368 : Lb F3156 f3433 τ3435 m129 5 m20.nxt 1 [(.int .i64 a3152)] := L3368
     replace L3369 : Lb F3156 f3433 τ3435 m129 6 (m26.nxt + 0) 13 [(.int .i64 w3222.d0), (.int .i64 w3222.d1), (.int .i64 w3222.d2), (.int .i64 w3222.d3), (.int .i64 w3222.d4), (.int .i64 w3222.d5), (.int .i64 w3222.d6), (.int .i64 w3222.d7), (.int .i64 w3222.d8), (.int .i64 w3222.d9), (.int .i64 w3222.d10), (.int .i64 w3222.d11), (.int .i64 w3222.d12)] := L3369
     replace Y3373 : Yg n0 (YJ xs I r3370) s3371 F3156 f3433 τ3435 m129 := Y3373
     replace rk3374 : Rk F3156 f3433 τ3435 m129 2 (m4).nxt o3124 := rk3374
     replace rk3375 : Rk F3156 f3433 τ3435 m129 4 (m17).nxt o3189 := rk3375
     rw [pchoicesI_L3] at hp
     exact hk3165 .nrm (r3370, s3371, false) _ _ _ _ S3436 ⟨L3366, L3367, Y3373, rk3374⟩ rk3375 hO3190 ⟨rfl, hp⟩
    ·intro id st _ _ _ _ _ _ hn; first | exact hn.elim | (cases hn)
    ·intro st f3376 τ3378 m130 S3379 s3377 hA hn
     obtain ⟨r3370, s3371, d3372⟩ := st
     rcases hn with hd | ⟨hd, hid, hp⟩
     ·replace hd : d3372 = true := hd
      subst hd
      obtain ⟨L3366, L3367, L3368, L3369, Y3373, rk3374, rk3375⟩ := hA
      replace L3366 : Lb F3156 f3376 τ3378 m130 1 m.nxt 1 [(.fn (.yield ly) [] [])] := L3366
      replace L3367 : Lb F3156 f3376 τ3378 m130 3 m7.nxt 1 [(.int .i64 a3091)] := L3367
      replace L3368 : Lb F3156 f3376 τ3378 m130 5 m20.nxt 1 [(.int .i64 a3152)] := L3368
      replace L3369 : Lb F3156 f3376 τ3378 m130 6 (m26.nxt + 0) 13 [(.int .i64 w3222.d0), (.int .i64 w3222.d1), (.int .i64 w3222.d2), (.int .i64 w3222.d3), (.int .i64 w3222.d4), (.int .i64 w3222.d5), (.int .i64 w3222.d6), (.int .i64 w3222.d7), (.int .i64 w3222.d8), (.int .i64 w3222.d9), (.int .i64 w3222.d10), (.int .i64 w3222.d11), (.int .i64 w3222.d12)] := L3369
      replace Y3373 : Yg n0 E s3371 F3156 f3376 τ3378 m130 := Y3373
      replace rk3374 : Rk F3156 f3376 τ3378 m130 2 (m4).nxt o3124 := rk3374
      replace rk3375 : Rk F3156 f3376 τ3378 m130 4 (m17).nxt o3189 := rk3375
      exact hk3165 .ret ([], s3371, true) _ _ _ _ S3379 ⟨L3366, L3367, Y3373, rk3374⟩ rk3375 hO3190 (.inl rfl)
     replace hd : d3372 = false := hd
     subst hd
     replace hp : pchoicesI_L3_xret = some r3370 := hp
     unfold pchoicesI_L3_xret at hp
     obtain ⟨L3366, L3367, L3368, L3369, Y3373, rk3374, rk3375⟩ := hA
     replace L3366 : Lb F3156 f3376 τ3378 m130 1 m.nxt 1 [(.fn (.yield ly) [] [])] := L3366
     replace L3367 : Lb F3156 f3376 τ3378 m130 3 m7.nxt 1 [(.int .i64 a3091)] := L3367
     replace L3368 : Lb F3156 f3376 τ3378 m130 5 m20.nxt 1 [(.int .i64 a3152)] := L3368
     replace L3369 : Lb F3156 f3376 τ3378 m130 6 (m26.nxt + 0) 13 [(.int .i64 w3222.d0), (.int .i64 w3222.d1), (.int .i64 w3222.d2), (.int .i64 w3222.d3), (.int .i64 w3222.d4), (.int .i64 w3222.d5), (.int .i64 w3222.d6), (.int .i64 w3222.d7), (.int .i64 w3222.d8), (.int .i64 w3222.d9), (.int .i64 w3222.d10), (.int .i64 w3222.d11), (.int .i64 w3222.d12)] := L3369
     replace Y3373 : Yg n0 (YJ xs I r3370) s3371 F3156 f3376 τ3378 m130 := Y3373
     replace rk3374 : Rk F3156 f3376 τ3378 m130 2 (m4).nxt o3124 := rk3374
     replace rk3375 : Rk F3156 f3376 τ3378 m130 4 (m17).nxt o3189 := rk3375
     exact hk3165 .ret (r3370, s3371, false) _ _ _ _ S3379 ⟨L3366, L3367, Y3373, rk3374⟩ rk3375 hO3190 (.inr ⟨rfl, rfl, hp⟩)
  ·intro st f3437 τ3439 m131 S3440 s3438 hA hp
   obtain ⟨r3143, s3144, d3145⟩ := st
   obtain ⟨hdd, hp⟩ := hp
   replace hdd : d3145 = false := hdd
   subst hdd
   replace hp : pchoicesI_L1 fl w a3091 ((pchoicesI_L0 fl w q3092)) [] = some r3143 := hp
   obtain ⟨L3141, L3142, Y3146, rk3147⟩ := hA
   replace L3141 : Lb F3095 f3437 τ3439 m131 1 m.nxt 1 [(.fn (.yield ly) [] [])] := L3141
   replace L3142 : Lb F3095 f3437 τ3439 m131 3 m7.nxt 1 [(.int .i64 a3091)] := L3142
   replace Y3146 : Yg n0 (YJ xs I r3143) s3144 F3095 f3437 τ3439 m131 := Y3146
   replace rk3147 : Rk F3095 f3437 τ3439 m131 2 (m4).nxt o3124 := rk3147
   rw [pchoicesI_L1] at hp
   exact hk3104 .nrm (r3143, s3144, false) _ _ _ _ S3440 ⟨L3141, Y3146⟩ rk3147 hO3125 ⟨rfl, hp⟩
  ·intro id st _ _ _ _ _ _ hn; first | exact hn.elim | (cases hn)
  ·intro st f3148 τ3150 m132 S3151 s3149 hA hn
   obtain ⟨r3143, s3144, d3145⟩ := st
   rcases hn with hd | ⟨hd, hid, hp⟩
   ·replace hd : d3145 = true := hd
    subst hd
    obtain ⟨L3141, L3142, Y3146, rk3147⟩ := hA
    replace L3141 : Lb F3095 f3148 τ3150 m132 1 m.nxt 1 [(.fn (.yield ly) [] [])] := L3141
    replace L3142 : Lb F3095 f3148 τ3150 m132 3 m7.nxt 1 [(.int .i64 a3091)] := L3142
    replace Y3146 : Yg n0 E s3144 F3095 f3148 τ3150 m132 := Y3146
    replace rk3147 : Rk F3095 f3148 τ3150 m132 2 (m4).nxt o3124 := rk3147
    exact hk3104 .ret ([], s3144, true) _ _ _ _ S3151 ⟨L3141, Y3146⟩ rk3147 hO3125 (.inl rfl)
   replace hd : d3145 = false := hd
   subst hd
   replace hp : pchoicesI_L1_xret = some r3143 := hp
   unfold pchoicesI_L1_xret at hp
   obtain ⟨L3141, L3142, Y3146, rk3147⟩ := hA
   replace L3141 : Lb F3095 f3148 τ3150 m132 1 m.nxt 1 [(.fn (.yield ly) [] [])] := L3141
   replace L3142 : Lb F3095 f3148 τ3150 m132 3 m7.nxt 1 [(.int .i64 a3091)] := L3142
   replace Y3146 : Yg n0 (YJ xs I r3143) s3144 F3095 f3148 τ3150 m132 := Y3146
   replace rk3147 : Rk F3095 f3148 τ3150 m132 2 (m4).nxt o3124 := rk3147
   exact hk3104 .ret (r3143, s3144, false) _ _ _ _ S3151 ⟨L3141, Y3146⟩ rk3147 hO3125 (.inr ⟨rfl, rfl, hp⟩)
 ·intro st f3441 τ3443 m133 S3444 s3442 hA hp
  obtain ⟨r3083, s3084, d3085⟩ := st
  obtain ⟨hdd, hp⟩ := hp
  replace hdd : d3085 = false := hdd
  subst hdd
  replace hp : pchoicesI_L0 fl w [] = some r3083 := hp
  obtain ⟨L3082, Y3086⟩ := hA
  replace L3082 : Lb F f3441 τ3443 m133 1 m.nxt 1 [(.fn (.yield ly) [] [])] := L3082
  replace Y3086 : Yg n0 (YJ xs I r3083) s3084 F f3441 τ3443 m133 := Y3086
  rw [pchoicesI_L0] at hp
  obtain rfl := Option.some.inj hp
  exact hq _ _ _ _ _ S3444 (.inl Y3086)
 ·intro id st _ _ _ _ _ _ hn; first | exact hn.elim | (cases hn)
 ·intro st f3087 τ3089 m134 S3090 s3088 hA hn
  obtain ⟨r3083, s3084, d3085⟩ := st
  rcases hn with hd | ⟨hd, hid, hp⟩
  ·replace hd : d3085 = true := hd
   subst hd
   obtain ⟨L3082, Y3086⟩ := hA
   replace L3082 : Lb F f3087 τ3089 m134 1 m.nxt 1 [(.fn (.yield ly) [] [])] := L3082
   replace Y3086 : Yg n0 E s3084 F f3087 τ3089 m134 := Y3086
   exact hq _ _ _ _ _ S3090 (.inr Y3086)
  replace hd : d3085 = false := hd
  subst hd
  replace hp : pchoicesI_L0_xret = some r3083 := hp
  unfold pchoicesI_L0_xret at hp
  obtain ⟨L3082, Y3086⟩ := hA
  replace L3082 : Lb F f3087 τ3089 m134 1 m.nxt 1 [(.fn (.yield ly) [] [])] := L3082
  replace Y3086 : Yg n0 (YJ xs I r3083) s3084 F f3087 τ3089 m134 := Y3086
  obtain rfl := Option.some.inj hp
  exact hq _ _ _ _ _ S3090 (.inl Y3086)
theorem s_choices {w : Wk} {fl : Fld} {ca101 ca102 ca103 ca104 : C} {m f : M} {Q : V → M → Prop} {rz : List Crs} (hS : Pre f m) (ha101 : Sl f ca101 w.s.Rules) (ha102 : Sl f ca102 w.s.Fields) (ha103 : Sl f ca103 w.s.Visits) (ha104 : Mi f ca104 w.damages) (hp : pchoices w fl = some rz) (hq : ∀ m' f' c0, Grw m f m' f' → It prog tbl f' c0 rz → Q (.c c0) m') : Wc prog tbl 120 [.agg 5 [(Il w.s.Last), ca101, ca102, ca103, ca104], .agg 7 [(Il fl.Crop), (Il fl.Week.Lo), (Il fl.Week.Hi), (Il fl.Damage.Lo), (Il fl.Damage.Hi), (Il fl.Old.Lo), (Il fl.Old.Hi)]] m Q := by
 have J := hS.st
 obtain ⟨N, _⟩ : ∃ τ : Nat → Nat, True := ⟨fun _ => 0, trivial⟩
 refine w120 ?_
 unfold pchoices at hp
 intro B j
 obtain ⟨l, n, D, o⟩ := J.blk j N 1
 intro O p
 obtain ⟨F, q, r, t⟩ := n.blk p l 2
 have u := o.k r
 obtain ⟨G, x, a, g⟩ := t.freeze q
 have y := u.k a
 obtain ⟨e, d, b, h⟩ := y.freeze x
 obtain ⟨z, A, hp⟩ := bsome hp
 have i : It prog tbl e ((C.fn (Fn.func 137) [] [(W.c (C0.ptr B.nxt 0)), (W.c (C0.ptr m.nxt 0))])) z := it_of d.fz d.fv fun P ly I E hc O S T Y hS hY Q hq => s_choicesI hc hS hY (g.sub b.fs) h (ha101.sub (Sub.trans a.fs b.fs)) (ha102.sub (Sub.trans a.fs b.fs)) (ha103.sub (Sub.trans a.fs b.fs)) (ha104.sub (Sub.trans a.fs b.fs)) A hq
 obtain rfl := Option.some.inj hp
 exact hq _ e (C.fn (Fn.func 137) [] [(W.c (C0.ptr B.nxt 0)), (W.c (C0.ptr m.nxt 0))]) d.grw i
theorem s_truthsI {w : Wk} {b0 : Nat} {field : Int} {b1 : Nat} {cb001 cb002 cb003 cb004 : C} {m f : M} {F : Fm} {n0 ly : Nat} {xs : List (List V)} {I : Nat → (Nat → Prop) → M → Prop} {E : (Nat → Prop) → M → Prop} {S1 : Nat → Prop} {Q : V → M → Prop} {rz : List Crs} {τ0 : Nat → Nat} (hc : Client prog tbl n0 ly xs I E) (S0 : St F f f m) (Y0 : Yg n0 (YJ xs I rz) S1 F f τ0 m) (hb0 : Bk f b0 5 [(.int .i64 w.s.Last), cb001, cb002, cb003, cb004]) (hb001 : Sl f cb001 w.s.Rules) (hb002 : Sl f cb002 w.s.Fields) (hb003 : Sl f cb003 w.s.Visits) (hb004 : Mi f cb004 w.damages) (hb1 : Bk f b1 1 [(.int .i64 field)]) (hp : ptruthsI w field = some rz) (hq : ∀ v m' f' τ' S', St F f f' m' → (Yg n0 (YJ xs I ([] : List Crs)) S' F f' τ' m' ∨ Yg n0 E S' F f' τ' m') → Q v m') : Wc prog tbl 119 [.c (.fn (.yield ly) [] []), .c (.ptr b0 0), .c (.ptr b1 0)] m Q := by
 refine c119 ?_
 unfold ptruthsI at hp
 intro m0 e3468
 obtain ⟨τ3471, S3469, k3470, L3472⟩ := S0.blk e3468 τ0 1
 have Y3473 := Y0.k k3470 (by decide)
 refine ⟨_, _, _, _, _, (hb0.sub S3469.sub).ra, trivial, trivial, _, (hb0.sub S3469.sub).rc rfl, _, (hb1.sub S3469.sub).rc rfl, ?_⟩
 obtain ⟨v3474, g3475, hp⟩ := bsome hp
 obtain ⟨n8, g3475i, g3475l, g3475⟩ := idx_some g3475
 obtain ⟨_, r3476⟩ := rd_Fld hb002 g3475
 refine ⟨n8, g3475i, (by first | exact g3475l | (rw [hb002.slLen]; exact g3475l)), _, _, _, _, _, _, _, (r3476 _ S3469.sub).1, ?_⟩
 obtain ⟨r3477, g3478, hp⟩ := bsome hp
 refine s_choices (w := w) (fl := v3474) S3469.pre hb001 hb002 hb003 hb004 g3478 fun m17 f3482 c3483 e3481 h3484 => ?_
 obtain ⟨S3479, k3480⟩ := S3469.callG e3481 τ3471
 have L3485 := L3472.k k3480 (by decide)
 have Y3486 := Y3473.k k3480 (by decide)
 refine ⟨_, rfl, ?_⟩
 refine range_st (α := Crs) S3479 h3484 (σ := (List Crs) × (Nat → Prop) × Bool) 2 (fun st bb => (False ∨ (st.2.1 bb))) (fun st gG gF gT gM => (Lb gG gF gT gM 1 m.nxt 1 [(.fn (.yield ly) [] [])]) ∧ (Yg n0 (YD xs I E st.2.2 st.1) st.2.1 gG gF gT gM)) (fun rr_ st => st.2.2 = false ∧ ptruthsI_L0 w field rr_ = some st.1) (fun ex st => (match ex with | .ret => st.2.2 = true ∨ (st.2.2 = false ∧ (0 : Nat) = 0 ∧ ptruthsI_L0_xret = some st.1) | _ => False)) (fun st => (Gud.and (Gud.lb L3485.bk.lt (by decide)) (Gud.yg Y3486.n (by decide)))) (st0 := (rz, S1, false)) (τ := τ3471) ⟨L3485, Y3486⟩ ⟨rfl, hp⟩ ?_ ?_ ?_ ?_
 ·intro a3496 q3497 st f3498 τ3499 m20 F3500 o3501 Ok3502 en3503 Kn3504 S3505 s3506 hA rk3507 hp he3508 hk3509
  obtain ⟨r3488, s3489, d3490⟩ := st
  obtain ⟨hdd, hp⟩ := hp
  replace hdd : d3490 = false := hdd
  subst hdd
  obtain ⟨L3487, Y3491⟩ := hA
  replace L3487 : Lb F3500 f3498 τ3499 m20 1 m.nxt 1 [(.fn (.yield ly) [] [])] := L3487
  replace Y3491 : Yg n0 (YJ xs I r3488) s3489 F3500 f3498 τ3499 m20 := Y3491
  replace hp : ptruthsI_L0 w field (a3496 :: q3497) = some r3488 := hp
  rw [ptruthsI_L0] at hp
  refine ⟨_, _, _, _, _, _, _, _, _, _, _, _, _, _, _, _, rfl, ?_⟩
  intro m39 e3510
  obtain ⟨τ3513, S3511, k3512, L3514⟩ := S3505.blk e3510 τ3499 3
  have L3515 := L3487.k k3512 (by decide)
  have Y3516 := Y3491.k k3512 (by decide)
  have rk3517 := rk3507.k k3512 (by decide)
  obtain ⟨m3521, e3520, S3518, k3519, L3522⟩ := L3514.sto S3511 [(.int .i64 a3496.t.Week), (.int .i64 a3496.t.Damage), (.int .i64 a3496.t.Old), (.int .i64 a3496.d.d0), (.int .i64 a3496.d.d1), (.int .i64 a3496.d.d2), (.int .i64 a3496.d.d3), (.int .i64 a3496.d.d4), (.int .i64 a3496.d.d5), (.int .i64 a3496.d.d6), (.int .i64 a3496.d.d7), (.int .i64 a3496.d.d8), (.int .i64 a3496.d.d9), (.int .i64 a3496.d.d10), (.int .i64 a3496.d.d11), (.int .i64 a3496.d.d12)]
  have L3523 := L3515.k k3519 (by decide)
  have Y3524 := Y3516.k k3519 (by decide)
  have rk3525 := rk3517.k k3519 (by decide)
  refine ⟨m3521, e3520, ?_⟩
  refine he3508 _ _ _ _ S3518 rk3525 fun m41 o3529 S3526 k3527 rk3528 hO3530 => ?_
  have L3531 := L3523.k k3527 (by decide)
  have L3532 := L3522.k k3527 (by decide)
  have Y3533 := Y3524.k k3527 (by decide)
  refine ⟨trivial, _, _, _, _, (hb0.sub (Sub.trans (Sub.trans k3480.fs s3506) S3526.sub)).rp (k := 0) (j := 4) rfl (by omega), _, (hb1.sub (Sub.trans (Sub.trans k3480.fs s3506) S3526.sub)).rc rfl, _, _, _, _, _, _, _, _, _, _, _, _, _, _, _, _, L3532.bk.ra, ?_⟩
  obtain ⟨r3534, g3535, hp⟩ := bsome hp
  refine s_allows (s := w.s) (field := field) (c := a3496) S3526.pre (hb001.sub (Sub.trans k3480.fs s3506)) (hb002.sub (Sub.trans k3480.fs s3506)) (hb003.sub (Sub.trans k3480.fs s3506)) g3535 fun m64 e3538 => ?_
  obtain ⟨S3536, k3537⟩ := S3526.call e3538 τ3513
  have L3539 := L3531.k k3537 (by decide)
  have L3540 := L3532.k k3537 (by decide)
  have Y3541 := Y3533.k k3537 (by decide)
  have rk3542 := rk3528.k k3537 (by decide)
  refine ⟨_, rfl, ?_⟩
  refine ifbb hp (fun q3543 hp => ?_) fun q3543 hp => ?_; rotate_left
  ·exact hk3509 .nrm (r3488, s3489, false) _ _ _ _ S3536 ⟨L3539, Y3541⟩ rk3542 hO3530 ⟨rfl, hp⟩
  refine ⟨_, L3539.bk.rc rfl, _, _, _, _, _, _, _, _, _, _, _, _, _, _, _, _, L3540.bk.ra, ?_⟩
  obtain ⟨r3544, hp3546, hz3545⟩ := bsome hp
  clear hp
  obtain rfl := Option.some.inj hz3545
  have hp := hp3546
  show Wy prog tbl ly (IV.encs (a3496 : Crs)) _ _
  refine Yg.yield hc S3536 Y3541 ?_ ?_
  ·intro m84 τ3547 s3551 S3548 k3549 Y3550
   have L3552 := L3539.k k3549 (by decide)
   have L3553 := L3540.k k3549 (by decide)
   have rk3554 := rk3542.k k3549 (by decide)
   refine ⟨_, rfl, ?_⟩
   refine ifB_f' ?_
   exact hk3509 .nrm (r3544, s3551, false) _ _ _ _ S3548 ⟨L3552, Y3550⟩ rk3554 hO3530 ⟨rfl, hp⟩
  ·intro m84 τ3555 s3559 S3556 k3557 Y3558
   have L3560 := L3539.k k3557 (by decide)
   have L3561 := L3540.k k3557 (by decide)
   have rk3562 := rk3542.k k3557 (by decide)
   refine ⟨_, rfl, ?_⟩
   refine ifB_t' ?_
   exact hk3509 .ret ([], s3559, true) _ _ _ _ S3556 ⟨L3560, Y3558⟩ rk3562 hO3530 (.inl rfl)
 ·intro st f3563 τ3565 m86 S3566 s3564 hA hp
  obtain ⟨r3488, s3489, d3490⟩ := st
  obtain ⟨hdd, hp⟩ := hp
  replace hdd : d3490 = false := hdd
  subst hdd
  replace hp : ptruthsI_L0 w field [] = some r3488 := hp
  obtain ⟨L3487, Y3491⟩ := hA
  replace L3487 : Lb F f3563 τ3565 m86 1 m.nxt 1 [(.fn (.yield ly) [] [])] := L3487
  replace Y3491 : Yg n0 (YJ xs I r3488) s3489 F f3563 τ3565 m86 := Y3491
  rw [ptruthsI_L0] at hp
  obtain rfl := Option.some.inj hp
  exact hq _ _ _ _ _ S3566 (.inl Y3491)
 ·intro id st _ _ _ _ _ _ hn; first | exact hn.elim | (cases hn)
 ·intro st f3492 τ3494 m87 S3495 s3493 hA hn
  obtain ⟨r3488, s3489, d3490⟩ := st
  rcases hn with hd | ⟨hd, hid, hp⟩
  ·replace hd : d3490 = true := hd
   subst hd
   obtain ⟨L3487, Y3491⟩ := hA
   replace L3487 : Lb F f3492 τ3494 m87 1 m.nxt 1 [(.fn (.yield ly) [] [])] := L3487
   replace Y3491 : Yg n0 E s3489 F f3492 τ3494 m87 := Y3491
   exact hq _ _ _ _ _ S3495 (.inr Y3491)
  replace hd : d3490 = false := hd
  subst hd
  replace hp : ptruthsI_L0_xret = some r3488 := hp
  unfold ptruthsI_L0_xret at hp
  obtain ⟨L3487, Y3491⟩ := hA
  replace L3487 : Lb F f3492 τ3494 m87 1 m.nxt 1 [(.fn (.yield ly) [] [])] := L3487
  replace Y3491 : Yg n0 (YJ xs I r3488) s3489 F f3492 τ3494 m87 := Y3491
  obtain rfl := Option.some.inj hp
  exact hq _ _ _ _ _ S3495 (.inl Y3491)
theorem s_truths {w : Wk} {field : Int} {ca101 ca102 ca103 ca104 : C} {m f : M} {Q : V → M → Prop} {rz : List Crs} (hS : Pre f m) (ha101 : Sl f ca101 w.s.Rules) (ha102 : Sl f ca102 w.s.Fields) (ha103 : Sl f ca103 w.s.Visits) (ha104 : Mi f ca104 w.damages) (hp : ptruths w field = some rz) (hq : ∀ m' f' c0, Grw m f m' f' → It prog tbl f' c0 rz → Q (.c c0) m') : Wc prog tbl 79 [.agg 5 [(Il w.s.Last), ca101, ca102, ca103, ca104], .c (Il field)] m Q := by
 have J := hS.st
 obtain ⟨N, _⟩ : ∃ τ : Nat → Nat, True := ⟨fun _ => 0, trivial⟩
 refine w79 ?_
 unfold ptruths at hp
 intro B j
 obtain ⟨l, n, D, o⟩ := J.blk j N 1
 intro O p
 obtain ⟨F, q, r, t⟩ := n.blk p l 2
 have u := o.k r
 obtain ⟨G, x, a, g⟩ := u.freeze q
 have y := t.k a
 obtain ⟨e, d, b, h⟩ := y.freeze x
 obtain ⟨z, A, hp⟩ := bsome hp
 have i : It prog tbl e ((C.fn (Fn.func 119) [] [(W.c (C0.ptr m.nxt 0)), (W.c (C0.ptr B.nxt 0))])) z := it_of d.fz d.fv fun P ly I E hc O S T Y hS hY Q hq => s_truthsI hc hS hY (g.sub b.fs) (ha101.sub (Sub.trans a.fs b.fs)) (ha102.sub (Sub.trans a.fs b.fs)) (ha103.sub (Sub.trans a.fs b.fs)) (ha104.sub (Sub.trans a.fs b.fs)) h A hq
 obtain rfl := Option.some.inj hp
 exact hq _ e (C.fn (Fn.func 119) [] [(W.c (C0.ptr m.nxt 0)), (W.c (C0.ptr B.nxt 0))]) d.grw i
theorem s_hasTruthOf {w : Wk} {field : Int} {ca101 ca102 ca103 ca104 : C} {m f : M} {Q : V → M → Prop} {rz : Bool} (hS : Pre f m) (ha101 : Sl f ca101 w.s.Rules) (ha102 : Sl f ca102 w.s.Fields) (ha103 : Sl f ca103 w.s.Visits) (ha104 : Mi f ca104 w.damages) (hp : phasTruthOf w field = some rz) (hq : ∀ m', Ext m m' → Q (.c (.bool rz)) m') : Wc prog tbl 126 [.agg 5 [(Il w.s.Last), ca101, ca102, ca103, ca104], .c (Il field)] m Q := by
 have S0 := hS.st
 obtain ⟨τ0, _⟩ : ∃ τ : Nat → Nat, True := ⟨fun _ => 0, trivial⟩
 refine w126 ?_
 unfold phasTruthOf at hp
 intro I J
 obtain ⟨N, O, Ba, P⟩ := S0.blk J τ0 1
 intro m1 S
 obtain ⟨e, g, T, Y⟩ := O.blk S N 2
 have h := P.k T
 refine ⟨_, _, _, _, _, h.bk.ra, ?_⟩
 obtain ⟨Ca, Z, hp⟩ := bsome hp
 refine s_truths (w := w) (field := field) g.pre ha101 ha102 ha103 ha104 Z fun m8 Da Ea aa ba => ?_
 obtain ⟨ca, i⟩ := g.callG aa e
 have j := h.k i
 have l := Y.k i
 refine ⟨_, rfl, ?_⟩
 refine range_st (α := Crs) ca ba (σ := Bool) 3 (fun st bb => (False ∨ False)) (fun st gG gF gT gM => (Lb gG gF gT gM 1 m.nxt 5 [(Il w.s.Last), ca101, ca102, ca103, ca104]) ∧ (Lb gG gF gT gM 2 I.nxt 1 [(.bool st)])) (fun rr_ st => phasTruthOf_L0 rr_ st = some rz) (fun ex st => (match ex with | .ret => (0 : Nat) = 0 ∧ phasTruthOf_L0_xret st = some rz | _ => False)) (fun st => (Gud.and (Gud.lb j.bk.lt (by decide)) (Gud.lb l.bk.lt (by decide)))) (st0 := (false)) (τ := e) ⟨j, l⟩ hp ?_ ?_ ?_ ?_
 ·intro da ea d n o va p Fa ya za Aa fa Ga hA z hp A B
  obtain ⟨b, a⟩ := hA
  replace b : Lb p n o va 1 m.nxt 5 [(Il w.s.Last), ca101, ca102, ca103, ca104] := b
  replace a : Lb p n o va 2 I.nxt 1 [(.bool d)] := a
  replace hp : phasTruthOf_L0 (da :: ea) d = some rz := hp
  rw [phasTruthOf_L0] at hp
  refine ⟨_, _, _, _, _, _, _, _, _, _, _, _, _, _, _, _, rfl, ?_⟩
  refine A _ _ _ _ fa z fun Na Ha ga q D F => ?_
  have ha := b.k q
  have ia := a.k q
  obtain ⟨ja, ka, la, r, ma⟩ := ia.sto ga [(.bool true)]
  have na := ha.k r
  have G := D.k r
  refine ⟨ja, ka, ?_⟩
  exact B .ret (true) _ _ _ _ la ⟨na, ma⟩ G F ⟨rfl, hp⟩
 ·intro d t u wa oa Ia hA hp
  replace hp : phasTruthOf_L0 [] d = some rz := hp
  obtain ⟨b, a⟩ := hA
  replace b : Lb (Fm.of m) t u wa 1 m.nxt 5 [(Il w.s.Last), ca101, ca102, ca103, ca104] := b
  replace a : Lb (Fm.of m) t u wa 2 I.nxt 1 [(.bool d)] := a
  rw [phasTruthOf_L0] at hp
  obtain ⟨pa, qa, sa, Ja, ta⟩ := a.sto oa [(.bool false)]
  refine ⟨pa, qa, ?_⟩
  refine ⟨_, ta.bk.rc rfl, ?_⟩
  obtain rfl := Option.some.inj hp
  exact hq _ sa.ext'
 ·intro id st _ _ _ _ _ _ hn; first | exact hn.elim | (cases hn)
 ·intro d x y xa ua Ka hA hn
  obtain ⟨hid, hp⟩ := hn
  replace hp : phasTruthOf_L0_xret d = some rz := hp
  unfold phasTruthOf_L0_xret at hp
  obtain ⟨b, a⟩ := hA
  replace b : Lb (Fm.of m) x y xa 1 m.nxt 5 [(Il w.s.Last), ca101, ca102, ca103, ca104] := b
  replace a : Lb (Fm.of m) x y xa 2 I.nxt 1 [(.bool d)] := a
  refine ⟨_, a.bk.rc rfl, ?_⟩
  obtain rfl := Option.some.inj hp
  exact hq _ ua.ext'
theorem s_hasTruth {w : Wk} {ca101 ca102 ca103 ca104 : C} {m f : M} {Q : V → M → Prop} {rz : Bool} (hS : Pre f m) (ha101 : Sl f ca101 w.s.Rules) (ha102 : Sl f ca102 w.s.Fields) (ha103 : Sl f ca103 w.s.Visits) (ha104 : Mi f ca104 w.damages) (hp : phasTruth w = some rz) (hq : ∀ m', Ext m m' → Q (.c (.bool rz)) m') : Wc prog tbl 92 [.agg 5 [(Il w.s.Last), ca101, ca102, ca103, ca104]] m Q := by
 have F := hS.st
 obtain ⟨G, _⟩ : ∃ τ : Nat → Nat, True := ⟨fun _ => 0, trivial⟩
 refine w92 ?_
 unfold phasTruth at hp
 intro N j
 obtain ⟨l, n, B, a⟩ := F.blk j G 1
 refine ⟨trivial, trivial, _, a.bk.rc rfl, ha102.isSl, ?_⟩
 intro I A
 have hgo : ∀ (d : Nat) (y : Bool) (h : Int) (i : M) (b : Nat → Nat), St (Fm.of m) f f i → Lb (Fm.of m) f b i 1 m.nxt 5 [(Il w.s.Last), ca101, ca102, ca103, ca104] → phasTruth_L0 w d h = some rz → I [.c (.bool y), .c (Il h)] i := by
  intro d
  induction d with
  | zero => intro y h i b e a hp; cases hp
  | succ d z =>
   intro y h i b e a hp
   refine A _ _ _ ?_
   rw [phasTruth_L0] at hp
   try rw [ha102.slLen]
   refine ifd hp (fun o hp => ?_) fun o hp => ?_; rotate_left
   ·obtain rfl := Option.some.inj hp
    exact hq _ e.ext'
   refine ⟨_, _, _, _, _, a.bk.ra, ?_⟩
   obtain ⟨D, p, hp⟩ := bsome hp
   refine s_hasTruthOf (w := w) (field := h) e.pre ha101 ha102 ha103 ha104 p fun J q => ?_
   obtain ⟨g, r⟩ := e.call q b
   have t := a.k r
   refine ⟨_, rfl, ?_⟩
   refine ifnb hp (fun u hp => ?_) fun u hp => ?_
   ·obtain rfl := Option.some.inj hp
    exact hq _ g.ext'
   refine gdi hp fun x hp => ?_
   exact z _ _ _ b g t hp
 exact hgo _ _ _ _ l n a hp
theorem s_wth {w : Wk} {visits : List Vis} {ca101 ca102 ca103 ca104 ca200 : C} {m f : M} {Q : V → M → Prop} {rz : Wk} (hS : Pre f m) (ha101 : Sl f ca101 w.s.Rules) (ha102 : Sl f ca102 w.s.Fields) (ha103 : Sl f ca103 w.s.Visits) (ha104 : Mi f ca104 w.damages) (ha200 : Sl f ca200 visits) (hp : pwth w visits = some rz) (hq : ∀ m' f' c1 c2 c3 c4, Grw m f m' f' → Sl f' c1 rz.s.Rules → Sl f' c2 rz.s.Fields → Sl f' c3 rz.s.Visits → Mi f' c4 rz.damages → Q (.agg 5 [(Il rz.s.Last), c1, c2, c3, c4]) m') : Wc prog tbl 91 [.agg 5 [(Il w.s.Last), ca101, ca102, ca103, ca104], .c ca200] m Q := by
 have F := hS.st
 obtain ⟨G, _⟩ : ∃ τ : Nat → Nat, True := ⟨fun _ => 0, trivial⟩
 refine w91 ?_
 unfold pwth at hp
 intro I b
 obtain ⟨d, e, A, g⟩ := F.blk b G 1
 intro J h
 obtain ⟨B, i, j, l⟩ := e.blk h d 2
 have n := g.k j
 refine ⟨trivial, trivial, ?_⟩
 obtain ⟨o, p, q, r, a⟩ := n.sto1 i 3 ca200 (by simp) rfl
 replace a : Lb _ _ _ _ _ _ _ [(Il w.s.Last), ca101, ca102, ca200, ca104] := a
 have t := l.k r
 refine ⟨o, p, ?_⟩
 refine ⟨_, _, _, _, _, a.bk.ra, ?_⟩
 obtain ⟨u, x, y, D, z⟩ := t.sto q [(Il w.s.Last), ca101, ca102, ca200, ca104]
 refine ⟨u, x, ?_⟩
 refine ⟨_, _, _, _, _, z.bk.ra, ?_⟩
 obtain rfl := Option.some.inj hp
 exact hq _ f ca101 ca102 ca200 ca104 y.grw ha101 ha102 ha200 ha104
theorem s_openTrue {s : Ssn} {ca101 ca102 ca103 : C} {m f : M} {Q : V → M → Prop} {rz : Wk × Int} (hS : Pre f m) (ha101 : Sl f ca101 s.Rules) (ha102 : Sl f ca102 s.Fields) (ha103 : Sl f ca103 s.Visits) (hp : popenTrue s = some rz) (hq : ∀ m' f' c1 c2 c3 c4, Grw m f m' f' → Sl f' c1 rz.1.s.Rules → Sl f' c2 rz.1.s.Fields → Sl f' c3 rz.1.s.Visits → Mi f' c4 rz.1.damages → Q (.tup [.agg 5 [(Il rz.1.s.Last), c1, c2, c3, c4], .c (Il rz.2)]) m') : Wc prog tbl 58 [.agg 4 [(Il s.Last), ca101, ca102, ca103]] m Q := by
 have S0 := hS.st
 obtain ⟨τ0, _⟩ : ∃ τ : Nat → Nat, True := ⟨fun _ => 0, trivial⟩
 refine w58 ?_
 unfold popenTrue at hp
 intro m0 D
 obtain ⟨F, G, Fa, I⟩ := S0.blk D τ0 1
 intro m1 J
 obtain ⟨a, j, N, O⟩ := G.blk J F 2
 have l := I.k N
 refine ⟨_, _, _, _, l.bk.ra, ?_⟩
 obtain ⟨Ga, P, hp⟩ := bsome hp
 refine s_check (s := s) j.pre ha101 ha102 ha103 P fun m7 S => ?_
 obtain ⟨b, n⟩ := j.call S a
 have T := l.k n
 have o := O.k n
 refine ⟨_, rfl, ?_⟩
 refine ifnd hp (fun Y hp => ?_) fun Y hp => ?_
 ·obtain ⟨Z, aa, ba, Ha, ca⟩ := o.sto b [(Il 0), .sl0, .sl0, .sl0, C.map0]
  refine ⟨Z, aa, ?_⟩
  refine ⟨_, _, _, _, _, ca.bk.ra, ?_⟩
  obtain rfl := Option.some.inj hp
  exact hq _ f .sl0 .sl0 .sl0 C.map0 ba.grw (Sl.nil _) (Sl.nil _) (Sl.nil _) (show Mi _ .map0 none from rfl)
 refine ⟨_, _, _, _, T.bk.ra, ?_⟩
 obtain ⟨d, da, hp⟩ := bsome hp
 refine s_open (s := s) b.pre ha101 ha102 ha103 da fun Na p e g h i ea q r t u => ?_
 obtain ⟨fa, ga⟩ := b.callG ea a
 have ha := o.k ga
 refine ⟨_, _, _, _, _, rfl, ?_⟩
 intro Oa ia
 obtain ⟨ja, ka, la, ma⟩ := fa.blk ia a 3
 have na := ha.k la
 obtain ⟨oa, pa, x, qa, y⟩ := ma.sto ka [(Il d.s.Last), e, g, h, i]
 have sa := na.k qa
 refine ⟨oa, pa, ?_⟩
 refine ⟨_, _, _, _, _, y.bk.ra, ?_⟩
 obtain ⟨Ia, ta, hp⟩ := bsome hp
 refine s_hasTruth (w := d) x.pre q r t u ta fun Pa ua => ?_
 obtain ⟨z, A⟩ := x.call ua ja
 have B := sa.k A
 have va := y.k A
 refine ⟨_, rfl, ?_⟩
 refine ifnb hp (fun wa hp => ?_) fun wa hp => ?_
 ·obtain ⟨xa, ya, za, Ja, Aa⟩ := B.sto z [(Il 0), .sl0, .sl0, .sl0, C.map0]
  refine ⟨xa, ya, ?_⟩
  refine ⟨_, _, _, _, _, Aa.bk.ra, ?_⟩
  obtain rfl := Option.some.inj hp
  exact hq _ p .sl0 .sl0 .sl0 C.map0 za.grw (Sl.nil _) (Sl.nil _) (Sl.nil _) (show Mi _ .map0 none from rfl)
 refine ⟨_, _, _, _, _, va.bk.ra, ?_⟩
 obtain ⟨Ba, Ca, Da, Ka, Ea⟩ := B.sto z [(Il d.s.Last), e, g, h, i]
 refine ⟨Ba, Ca, ?_⟩
 refine ⟨_, _, _, _, _, Ea.bk.ra, ?_⟩
 obtain rfl := Option.some.inj hp
 exact hq _ p e g h i Da.grw q r t u
theorem s_minimum {l : List Int} {ca100 : C} {m f : M} {Q : V → M → Prop} {rz : Int} (hS : Pre f m) (ha100 : Sl f ca100 l) (hp : pminimum l = some rz) (hq : ∀ m', Ext m m' → Q (.c (Il rz)) m') : Wc prog tbl 113 [.c ca100] m Q := by
 have z := hS.st
 obtain ⟨F, _⟩ : ∃ τ : Nat → Nat, True := ⟨fun _ => 0, trivial⟩
 refine w113 ?_
 unfold pminimum at hp
 refine ⟨ha100.isSl, ?_⟩
 try rw [ha100.slLen]
 refine ifd hp (fun p hp => ?_) fun p hp => ?_
 ·obtain rfl := Option.some.inj hp
  exact hq _ z.ext'
 obtain ⟨B, e, hp⟩ := bsome hp
 obtain ⟨G, j, h, e⟩ := idx_some e
 refine ⟨G, j, (by first | exact h | (rw [ha100.slLen]; exact h)), _, (ha100.rdI e z.sub), ha100.isSl, ?_⟩
 intro I A
 have hgo : ∀ (b : Nat) (q : Int) (r : Int) (s : M) (d : Nat → Nat), St (Fm.of m) f f s → pminimum_L0 l b q r = some rz → I [.c (Il q), .c (Il r)] s := by
  intro b
  induction b with
  | zero => intro q r s d a hp; cases hp
  | succ b n =>
   intro q r s d a hp
   refine A _ _ _ ?_
   rw [pminimum_L0] at hp
   try rw [ha100.slLen]
   refine ifd hp (fun t hp => ?_) fun t hp => ?_; rotate_left
   ·obtain rfl := Option.some.inj hp
    exact hq _ a.ext'
   obtain ⟨D, g, hp⟩ := bsome hp
   obtain ⟨J, o, i, g⟩ := idx_some g
   refine ⟨J, o, (by first | exact i | (rw [ha100.slLen]; exact i)), _, (ha100.rdI g a.sub), ?_⟩
   refine ifd hp (fun u hp => ?_) fun u hp => ?_
   ·refine gdi hp fun x hp => ?_
    exact n _ _ _ d a hp
   refine gdi hp fun y hp => ?_
   exact n _ _ _ d a hp
 exact hgo _ _ _ _ F z hp
theorem s_sMax {l : List Int} {ca100 : C} {m f : M} {Q : V → M → Prop} {rz : Int} (hS : Pre f m) (ha100 : Sl f ca100 l) (hp : psMax l = some rz) (hq : ∀ m', Ext m m' → Q (.c (Il rz)) m') : Wc prog tbl 114 [.c ca100] m Q := by
 have x := hS.st
 obtain ⟨B, _⟩ : ∃ τ : Nat → Nat, True := ⟨fun _ => 0, trivial⟩
 refine w114 ?_
 unfold psMax at hp
 refine ⟨ha100.isSl, ?_⟩
 try rw [ha100.slLen]
 refine ifd hp (fun o hp => ?_) fun o hp => ?_
 ·cases hp
 obtain ⟨z, d, hp⟩ := bsome hp
 obtain ⟨D, j, h, d⟩ := idx_some d
 refine ⟨D, j, (by first | exact h | (rw [ha100.slLen]; exact h)), _, (ha100.rdI d x.sub), ?_⟩
 intro F y
 have hgo : ∀ (a : Nat) (p : Int) (q : Int) (r : M) (e : Nat → Nat), St (Fm.of m) f f r → psMax_L0 l a p q = some rz → F [.c (Il p), .c (Il q)] r := by
  intro a
  induction a with
  | zero => intro p q r e b hp; cases hp
  | succ a u =>
   intro p q r e b hp
   refine y _ _ _ ?_
   rw [psMax_L0] at hp
   refine ⟨ha100.isSl, ?_⟩
   try rw [ha100.slLen]
   refine ifd hp (fun s hp => ?_) fun s hp => ?_; rotate_left
   ·obtain rfl := Option.some.inj hp
    exact hq _ b.ext'
   obtain ⟨A, g, hp⟩ := bsome hp
   obtain ⟨G, n, i, g⟩ := idx_some g
   refine ⟨G, n, (by first | exact i | (rw [ha100.slLen]; exact i)), _, (ha100.rdI g b.sub), ?_⟩
   refine gdi hp fun t hp => ?_
   exact u _ _ _ e b hp
 exact hgo _ _ _ _ B x hp
theorem s_span {w : Wk} {field : Int} {q : Qn} {ca101 ca102 ca103 ca104 ca300 : C} {m f : M} {Q : V → M → Prop} {rz : Rg} (hS : Pre f m) (ha101 : Sl f ca101 w.s.Rules) (ha102 : Sl f ca102 w.s.Fields) (ha103 : Sl f ca103 w.s.Visits) (ha104 : Mi f ca104 w.damages) (ha300 : Fv_Crs_Int f ca300 q.number) (hp : pspan w field q = some rz) (hq : ∀ m', Ext m m' → Q (.agg 2 [(Il rz.Lo), (Il rz.Hi)]) m') : Wc prog tbl 70 [.agg 5 [(Il w.s.Last), ca101, ca102, ca103, ca104], .c (Il field), .agg 1 [ca300]] m Q := by
 have S0 := hS.st
 obtain ⟨τ0, _⟩ : ∃ τ : Nat → Nat, True := ⟨fun _ => 0, trivial⟩
 refine w70 ?_
 unfold pspan at hp
 intro m0 Ca
 obtain ⟨Da, Ea, tc, Fa⟩ := S0.blk Ca τ0 1
 intro m1 Ga
 obtain ⟨Ha, Ia, Ja, Ka⟩ := Ea.blk Ga Da 2
 have La := Fa.k Ja
 intro m2 Ma
 obtain ⟨Na, Oa, aa, Pa⟩ := Ia.blk Ma Ha 3
 have Qa := La.k aa
 have Ra := Ka.k aa
 intro m3 Sa
 obtain ⟨ba, ca, J, Ta⟩ := Oa.blk Sa Na 4
 have da := Qa.k J
 have Ua := Ra.k J
 have Va := Pa.k J
 refine ⟨_, _, _, _, _, da.bk.ra, ?_⟩
 obtain ⟨uc, Wa, hp⟩ := bsome hp
 refine s_truths (w := w) (field := field) ca.pre ha101 ha102 ha103 ha104 Wa fun Fc vc wc Xa Ya => ?_
 obtain ⟨Za, A⟩ := ca.callG Xa ba
 have ea := da.k A
 have fa := Ua.k A
 have ga := Va.k A
 have ha := Ta.k A
 refine ⟨_, rfl, ?_⟩
 refine range_st (α := Crs) Za Ya (σ := (List Int) × C) 5 (fun st bb => (False ∨ (False ∨ (False ∨ (False ∨ (ownBlk st.2 bb)))))) (fun st gG gF gT gM => (Lb gG gF gT gM 1 m.nxt 5 [(Il w.s.Last), ca101, ca102, ca103, ca104]) ∧ (Lb gG gF gT gM 2 m0.nxt 1 [ca300]) ∧ (Lb gG gF gT gM 3 m1.nxt 2 [(Il 0), (Il 0)]) ∧ (Lb gG gF gT gM 4 m2.nxt 1 [st.2]) ∧ (Ow gG gF gT gM 6 st.2 st.1)) (fun rr_ st => pspan_L0 q rr_ st.1 = some rz) (fun ex st => False) (fun st => (Gud.and (Gud.lb ea.bk.lt (by decide)) (Gud.and (Gud.lb fa.bk.lt (by decide)) (Gud.and (Gud.lb ga.bk.lt (by decide)) (Gud.and (Gud.lb ha.bk.lt (by decide)) (Gud.ow (by decide))))))) (st0 := ([], .sl0)) (τ := ba) ⟨ea, fa, ga, ha, (Ow.nil _ _ _ _ _)⟩ hp ?_ ?_ ?_ ?_
 ·intro b ab st n o Y B xc pc qc sc cb db hA sa hp ta ua
  obtain ⟨g, D⟩ := st
  obtain ⟨p, r, i, h, e⟩ := hA
  replace p : Lb B n o Y 1 m.nxt 5 [(Il w.s.Last), ca101, ca102, ca103, ca104] := p
  replace r : Lb B n o Y 2 m0.nxt 1 [ca300] := r
  replace i : Lb B n o Y 3 m1.nxt 2 [(Il 0), (Il 0)] := i
  replace h : Lb B n o Y 4 m2.nxt 1 [D] := h
  replace e : Ow B n o Y 6 D g := e
  replace hp : pspan_L0 q (b :: ab) g = some rz := hp
  rw [pspan_L0] at hp
  refine ⟨_, _, _, _, _, _, _, _, _, _, _, _, _, _, _, _, rfl, ?_⟩
  intro Gc eb
  obtain ⟨fb, gb, u, hb⟩ := cb.blk eb o 7
  have ib := p.k u
  have jb := r.k u
  have kb := i.k u
  have mb := h.k u
  have e := e.k u
  have va := sa.k u
  obtain ⟨nb, ob, pb, x, qb⟩ := hb.sto gb [(Il b.t.Week), (Il b.t.Damage), (Il b.t.Old), (Il b.d.d0), (Il b.d.d1), (Il b.d.d2), (Il b.d.d3), (Il b.d.d4), (Il b.d.d5), (Il b.d.d6), (Il b.d.d7), (Il b.d.d8), (Il b.d.d9), (Il b.d.d10), (Il b.d.d11), (Il b.d.d12)]
  have rb := ib.k x
  have sb := jb.k x
  have tb := kb.k x
  have ub := mb.k x
  have e := e.k x
  have wa := va.k x
  refine ⟨nb, ob, ?_⟩
  refine ta _ _ _ _ pb wa fun Hc yc ia y xa ya => ?_
  have vb := rb.k y
  have ja := sb.k y
  have wb := tb.k y
  have ka := ub.k y
  have xb := qb.k y
  have e := e.k y
  refine ⟨_, ka.bk.rc rfl, trivial, _, ja.bk.rc rfl, _, _, _, _, _, _, _, _, _, _, _, _, _, _, _, _, xb.bk.ra, ?_⟩
  obtain ⟨N, yb, hp⟩ := bsome hp
  refine (ha300.sub (Sub.trans A.fs db)) _ _ _ _ _ (Sub.refl _) ia.pre  yb fun Ic zb => ?_
  obtain ⟨Ab, z⟩ := ia.call zb fb
  have Bb := vb.k z
  have Cb := ja.k z
  have Db := wb.k z
  have O := ka.k z
  have e := e.k z
  have za := xa.k z
  refine ⟨_, rfl, (by rw [show noFnC _ = true from e.noFn]; exact (O.bk.rc rfl)), ?_⟩
  obtain ⟨Eb, hp⟩ := gd_some hp
  intro Jc la
  refine ⟨(by rw [show noFnC _ = true from e.noFn]; exact (O.bk.ext (Bk.new la).2).rc rfl), ?_⟩
  obtain ⟨P, Fb, zc, Gb, Hb, F, S⟩ := e.app' ta75 Ab (a := N) (show Rp.rep (α := Int) n _ N from rfl) Eb la
  have Ib := Bb.k F
  have Jb := Cb.k F
  have Kb := Db.k F
  have Mb := O.k F
  have Aa := za.k F
  refine ⟨P, Fb, Gb, ?_⟩
  obtain ⟨Nb, Ob, Pb, G, Qb⟩ := Mb.sto Hb [P]
  have Rb := Ib.k G
  have Sb := Jb.k G
  have Tb := Kb.k G
  have S := S.k G
  have Ba := Aa.k G
  refine ⟨Nb, Ob, ?_⟩
  exact ua .nrm ((g ++ [N]), P) _ _ _ _ Pb ⟨Rb, Sb, Tb, Qb, S⟩ Ba ya hp
 ·intro st I j Z Ub Ac hA hp
  obtain ⟨g, D⟩ := st
  replace hp : pspan_L0 q [] g = some rz := hp
  obtain ⟨p, r, i, h, e⟩ := hA
  replace p : Lb (Fm.of m) I j Z 1 m.nxt 5 [(Il w.s.Last), ca101, ca102, ca103, ca104] := p
  replace r : Lb (Fm.of m) I j Z 2 m0.nxt 1 [ca300] := r
  replace i : Lb (Fm.of m) I j Z 3 m1.nxt 2 [(Il 0), (Il 0)] := i
  replace h : Lb (Fm.of m) I j Z 4 m2.nxt 1 [D] := h
  replace e : Ow (Fm.of m) I j Z 6 D g := e
  rw [pspan_L0] at hp
  refine ⟨_, h.bk.rc rfl, ?_⟩
  obtain ⟨Bc, ma, na, T⟩ := e.freeze Ub
  have Vb := i.k na
  have oa := h.k na
  obtain ⟨Wb, Xb, hp⟩ := bsome hp
  refine s_minimum (l := g) ma.pre T Xb fun Kc Yb => ?_
  obtain ⟨pa, qa⟩ := ma.call Yb j
  have Zb := Vb.k qa
  have ac := oa.k qa
  refine ⟨_, rfl, _, ac.bk.rc rfl, (by rw [show noFnC _ = true from T.noFn]; exact (oa.bk.rc rfl)), ?_⟩
  obtain ⟨bc, cc, hp⟩ := bsome hp
  refine s_sMax (l := g) pa.pre T cc fun Lc dc => ?_
  obtain ⟨ec, fc⟩ := pa.call dc j
  have gc := Zb.k fc
  refine ⟨_, rfl, ?_⟩
  obtain ⟨hc, ic, jc, Cc, kc⟩ := gc.sto ec [(Il Wb), (Il bc)]
  refine ⟨hc, ic, ?_⟩
  refine ⟨_, _, kc.bk.ra, ?_⟩
  obtain rfl := Option.some.inj hp
  exact hq _ jc.ext'
 ·intro id st _ _ _ _ _ _ hn; first | exact hn.elim | (cases hn)
 ·intro st _ _ _ _ _ _ hn; first | exact hn.elim | (cases hn)
theorem s_bound {w : Wk} {field : Int} {ca101 ca102 ca103 ca104 : C} {m f : M} {Q : V → M → Prop} {rz : Bnd} (hS : Pre f m) (ha101 : Sl f ca101 w.s.Rules) (ha102 : Sl f ca102 w.s.Fields) (ha103 : Sl f ca103 w.s.Visits) (ha104 : Mi f ca104 w.damages) (hp : pbound w field = some rz) (hq : ∀ m', Ext m m' → Q (.agg 8 [(Il rz.Week.Lo), (Il rz.Week.Hi), (Il rz.Damage.Lo), (Il rz.Damage.Hi), (Il rz.Old.Lo), (Il rz.Old.Hi), (Il rz.Harvest.Lo), (Il rz.Harvest.Hi)]) m') : Wc prog tbl 59 [.agg 5 [(Il w.s.Last), ca101, ca102, ca103, ca104], .c (Il field)] m Q := by
 have S0 := hS.st
 obtain ⟨τ0, _⟩ : ∃ τ : Nat → Nat, True := ⟨fun _ => 0, trivial⟩
 refine w59 ?_
 unfold pbound at hp
 intro m0 N
 obtain ⟨O, P, ua, S⟩ := S0.blk N τ0 1
 intro m1 T
 obtain ⟨e, n, Y, Z⟩ := P.blk T O 2
 have b := S.k Y
 refine ⟨_, _, _, _, _, b.bk.ra, ?_⟩
 have F : Fv_Crs_Int f ((C.fn (Fn.func 100) [] [])) (fun g => pcWeek g) := by
  intro f' m' g r Q hs hpre  hg hq
  exact s_cWeek hpre  hg hq
 obtain ⟨o, aa, hp⟩ := bsome hp
 refine s_span (w := w) (field := field) (q := ({ number := (fun g => pcWeek g) } : Qn)) n.pre ha101 ha102 ha103 ha104 F aa fun m8 ba => ?_
 obtain ⟨p, t⟩ := n.call ba e
 have h := b.k t
 have ca := Z.k t
 refine ⟨_, _, rfl, _, _, _, _, _, h.bk.ra, (by rw [show allS noFnC _ = true from (nf_cons rfl (nf_cons ha101.noFn (nf_cons ha102.noFn (nf_cons ha103.noFn (nf_cons ha104.noFn nf_nil)))))]; exact (b.bk.ra)), ?_⟩
 have G : Fv_Crs_Int f ((C.fn (Fn.func 101) [] [])) (fun i => pcDamage i) := by
  intro f' m' i r Q hs hpre  hg hq
  exact s_cDamage hpre  hg hq
 obtain ⟨u, da, hp⟩ := bsome hp
 refine s_span (w := w) (field := field) (q := ({ number := (fun i => pcDamage i) } : Qn)) p.pre ha101 ha102 ha103 ha104 G da fun ya ea => ?_
 obtain ⟨x, y⟩ := p.call ea e
 have l := h.k y
 have fa := ca.k y
 refine ⟨_, _, rfl, _, _, _, _, _, l.bk.ra, (by rw [show allS noFnC _ = true from (nf_cons rfl (nf_cons ha101.noFn (nf_cons ha102.noFn (nf_cons ha103.noFn (nf_cons ha104.noFn nf_nil)))))]; exact (h.bk.ra)), (by rw [show allS noFnC _ = true from (nf_cons rfl (nf_cons ha101.noFn (nf_cons ha102.noFn (nf_cons ha103.noFn (nf_cons ha104.noFn nf_nil)))))]; exact (b.bk.ra)), ?_⟩
 have I : Fv_Crs_Int f ((C.fn (Fn.func 102) [] [])) (fun j => pcOld j) := by
  intro f' m' j r Q hs hpre  hg hq
  exact s_cOld hpre  hg hq
 obtain ⟨z, ga, hp⟩ := bsome hp
 refine s_span (w := w) (field := field) (q := ({ number := (fun j => pcOld j) } : Qn)) x.pre ha101 ha102 ha103 ha104 I ga fun za ha => ?_
 obtain ⟨A, B⟩ := x.call ha e
 have ia := l.k B
 have ja := fa.k B
 refine ⟨_, _, rfl, _, _, _, _, _, ia.bk.ra, (by rw [show allS noFnC _ = true from (nf_cons rfl (nf_cons ha101.noFn (nf_cons ha102.noFn (nf_cons ha103.noFn (nf_cons ha104.noFn nf_nil)))))]; exact (l.bk.ra)), (by rw [show allS noFnC _ = true from (nf_cons rfl (nf_cons ha101.noFn (nf_cons ha102.noFn (nf_cons ha103.noFn (nf_cons ha104.noFn nf_nil)))))]; exact (h.bk.ra)), (by rw [show allS noFnC _ = true from (nf_cons rfl (nf_cons ha101.noFn (nf_cons ha102.noFn (nf_cons ha103.noFn (nf_cons ha104.noFn nf_nil)))))]; exact (b.bk.ra)), ?_⟩
 have J : Fv_Crs_Int f ((C.fn (Fn.methodOf 130 "hailstone/growth.harvest") [] [])) (fun a => pharvestD a.d) := by
  intro f' m' a r Q hs hpre hg hq
  show Wc prog tbl 74 [.agg 13 [(Il a.d.d0), (Il a.d.d1), (Il a.d.d2), (Il a.d.d3), (Il a.d.d4), (Il a.d.d5), (Il a.d.d6), (Il a.d.d7), (Il a.d.d8), (Il a.d.d9), (Il a.d.d10), (Il a.d.d11), (Il a.d.d12)]] m' Q
  exact s_harvestD hpre hg hq
 obtain ⟨D, ka, hp⟩ := bsome hp
 refine s_span (w := w) (field := field) (q := ({ number := (fun a => pharvestD a.d) } : Qn)) A.pre ha101 ha102 ha103 ha104 J ka fun Aa la => ?_
 obtain ⟨ma, na⟩ := A.call la e
 have oa := ja.k na
 refine ⟨_, _, rfl, ?_⟩
 obtain ⟨pa, qa, sa, va, ta⟩ := oa.sto ma [(Il o.Lo), (Il o.Hi), (Il u.Lo), (Il u.Hi), (Il z.Lo), (Il z.Hi), (Il D.Lo), (Il D.Hi)]
 refine ⟨pa, qa, ?_⟩
 refine ⟨_, _, _, _, _, _, _, _, ta.bk.ra, ?_⟩
 obtain rfl := Option.some.inj hp
 exact hq _ sa.ext'
theorem s_Bounds {s : Ssn} {ca101 ca102 ca103 : C} {m f : M} {Q : V → M → Prop} {rz : List Bnd × Int} (hS : Pre f m) (ha101 : Sl f ca101 s.Rules) (ha102 : Sl f ca102 s.Fields) (ha103 : Sl f ca103 s.Visits) (hp : pBounds s = some rz) (hq : ∀ m' f' c0, Grw m f m' f' → Sl f' c0 rz.1 → Q (.tup [.c c0, .c (Il rz.2)]) m') : Wc prog tbl 13 [.agg 4 [(Il s.Last), ca101, ca102, ca103]] m Q := by
 have S0 := hS.st
 obtain ⟨τ0, _⟩ : ∃ τ : Nat → Nat, True := ⟨fun _ => 0, trivial⟩
 refine w13 ?_
 unfold pBounds at hp
 intro m0 J
 obtain ⟨u, x, Ja, y⟩ := S0.blk J τ0 1
 refine ⟨_, _, _, _, y.bk.ra, ?_⟩
 obtain ⟨h, N, hp⟩ := bsome hp
 refine s_openTrue (s := s) x.pre ha101 ha102 ha103 N fun m6 b z A B D O P p S T => ?_
 obtain ⟨Y, Z⟩ := x.callG O u
 have aa := y.k Z
 refine ⟨_, _, _, _, _, _, rfl, ?_⟩
 intro Oa ba
 obtain ⟨ca, da, ea, fa⟩ := Y.blk ba u 2
 have ga := aa.k ea
 obtain ⟨ha, ia, F, ja, d⟩ := fa.sto da [(Il h.1.s.Last), z, A, B, D]
 have i := ga.k ja
 refine ⟨ha, ia, ?_⟩
 refine ifnd hp (fun ka hp => ?_) fun ka hp => ?_
 ·obtain rfl := Option.some.inj hp
  exact hq _ b .sl0 F.grw (Sl.nil _)
 refine ⟨trivial, trivial, _, d.bk.rc rfl, p.isSl, ?_⟩
 intro Ia Ha
 have hgo : ∀ (j : Nat) (r : C) (t : Int) (l : List Bnd) (o : M) (e : Nat → Nat), St (Fm.of m) f b o → Lb (Fm.of m) b e o 1 m.nxt 4 [(Il s.Last), ca101, ca102, ca103] → Lb (Fm.of m) b e o 2 m6.nxt 5 [(Il h.1.s.Last), z, A, B, D] → Ow (Fm.of m) b e o 3 r l → pBounds_L0 h j l t = some rz → Ia [.c r, .c (Il t)] o := by
  intro j
  induction j with
  | zero => intro r t l o e n i d g hp; cases hp
  | succ j la =>
   intro r t l o e n i d g hp
   refine Ha _ _ _ ?_
   rw [pBounds_L0] at hp
   try rw [p.slLen]
   refine ifd hp (fun ma hp => ?_) fun ma hp => ?_; rotate_left
   ·obtain ⟨na, oa, Ka, pa⟩ := g.freeze n
    obtain rfl := Option.some.inj hp
    exact hq _ na r oa.grw pa
   refine ⟨_, _, _, _, _, d.bk.ra, ?_⟩
   obtain ⟨G, qa, hp⟩ := bsome hp
   refine s_bound (w := h.1) (field := t) n.pre P p S T qa fun Pa sa => ?_
   obtain ⟨ta, q⟩ := n.call sa e
   have ua := i.k q
   have va := d.k q
   have g := g.k q
   refine ⟨_, _, _, _, _, _, _, _, rfl, ?_⟩
   obtain ⟨wa, hp⟩ := gd_some hp
   intro Qa xa
   obtain ⟨ya, za, Aa, Ba, Ca, I, Da⟩ := g.app' ta29 ta (a := G) (show Rp.rep (α := Bnd) b _ G from rfl) wa xa
   have Ea := ua.k I
   have Fa := va.k I
   refine ⟨ya, za, Ba, ?_⟩
   refine gdi hp fun Ga hp => ?_
   exact la _ _ _ _ Aa Ca Ea Fa Da hp
 exact hgo _ _ _ _ _ ca F i d (Ow.nil _ _ _ _ _) hp
theorem s_indexOf {l : List Int} {x : Int} {ca100 : C} {m f : M} {Q : V → M → Prop} {rz : Int} (hS : Pre f m) (ha100 : Sl f ca100 l) (hp : pindexOf l x = some rz) (hq : ∀ m', Ext m m' → Q (.c (Il rz)) m') : Wc prog tbl 141 [.c ca100, .c (Il x)] m Q := by
 have u := hS.st
 obtain ⟨y, _⟩ : ∃ τ : Nat → Nat, True := ⟨fun _ => 0, trivial⟩
 refine w141 ?_
 unfold pindexOf at hp
 refine ⟨ha100.isSl, ?_⟩
 intro z s
 have hgo : ∀ (b : Nat) (q : Int) (i : Int) (j : M) (d : Nat → Nat), St (Fm.of m) f f j → pindexOf_L0 l x b i = some rz → z [.c (Il q), .c (Il i)] j := by
  intro b
  induction b with
  | zero => intro q i j d a hp; cases hp
  | succ b r =>
   intro q i j d a hp
   refine s _ _ _ ?_
   rw [pindexOf_L0] at hp
   try rw [ha100.slLen]
   refine ifd hp (fun n hp => ?_) fun n hp => ?_; rotate_left
   ·obtain rfl := Option.some.inj hp
    exact hq _ a.ext'
   obtain ⟨t, e, hp⟩ := bsome hp
   obtain ⟨A, h, g, e⟩ := idx_some e
   refine ⟨A, h, (by first | exact g | (rw [ha100.slLen]; exact g)), _, (ha100.rdI e a.sub), ?_⟩
   refine ifd hp (fun o hp => ?_) fun o hp => ?_
   ·obtain rfl := Option.some.inj hp
    exact hq _ a.ext'
   refine gdi hp fun p hp => ?_
   exact r _ _ _ d a hp
 exact hgo _ _ _ _ y u hp
theorem s_contains {l : List Int} {x : Int} {ca100 : C} {m f : M} {Q : V → M → Prop} {rz : Bool} (hS : Pre f m) (ha100 : Sl f ca100 l) (hp : pcontains l x = some rz) (hq : ∀ m', Ext m m' → Q (.c (.bool rz)) m') : Wc prog tbl 129 [.c ca100, .c (Il x)] m Q := by
 have e := hS.st
 obtain ⟨i, _⟩ : ∃ τ : Nat → Nat, True := ⟨fun _ => 0, trivial⟩
 refine w129 ?_
 unfold pcontains at hp
 obtain ⟨g, a, hp⟩ := bsome hp
 refine s_indexOf (l := l) (x := x) e.pre ha100 a fun j b => ?_
 obtain ⟨d, h⟩ := e.call b i
 refine ⟨_, rfl, ?_⟩
 obtain rfl := Option.some.inj hp
 exact hq _ d.ext'
theorem s_canLeave {w : Wk} {list : List Int} {ca101 ca102 ca103 ca104 ca200 : C} {m f : M} {Q : V → M → Prop} {rz : Bool} (hS : Pre f m) (ha101 : Sl f ca101 w.s.Rules) (ha102 : Sl f ca102 w.s.Fields) (ha103 : Sl f ca103 w.s.Visits) (ha104 : Mi f ca104 w.damages) (ha200 : Sl f ca200 list) (hp : pcanLeave w list = some rz) (hq : ∀ m', Ext m m' → Q (.c (.bool rz)) m') : Wc prog tbl 94 [.agg 5 [(Il w.s.Last), ca101, ca102, ca103, ca104], .c ca200] m Q := by
 have S0 := hS.st
 obtain ⟨τ0, _⟩ : ∃ τ : Nat → Nat, True := ⟨fun _ => 0, trivial⟩
 refine w94 ?_
 unfold pcanLeave at hp
 intro m0 P
 obtain ⟨S, T, Ma, h⟩ := S0.blk P τ0 1
 refine ⟨trivial, trivial, _, h.bk.rc rfl, ha103.isSl, ?_⟩
 intro R2 La
 have hgo : ∀ (n : Nat) (Y : C) (J : Int) (j : List Vis) (I : M) (e : M) (g : Nat → Nat), St (Fm.of m) f e I → Sub f e → Lb (Fm.of m) e g I 1 m.nxt 5 [(Il w.s.Last), ca101, ca102, ca103, ca104] → Ow (Fm.of m) e g I 2 Y j → pcanLeave_L0 w list n j J = some rz → R2 [.c Y, .c (Il J)] I := by
  intro n
  induction n with
  | zero => intro Y J j I e g o b h d hp; cases hp
  | succ n N =>
   intro Y J j I e g o b h d hp
   refine La _ _ _ ?_
   rw [pcanLeave_L0] at hp
   try rw [ha103.slLen]
   refine ifd hp (fun Z hp => ?_) fun Z hp => ?_; rotate_left
   ·refine ⟨_, _, _, _, _, h.bk.ra, ?_⟩
    obtain ⟨Na, u, p, aa⟩ := d.freeze o
    obtain ⟨ba, ca, hp⟩ := bsome hp
    refine s_wth (w := w) (visits := j) u.pre (ha101.sub (Sub.trans b p.fs)) (ha102.sub (Sub.trans b p.fs)) (ha103.sub (Sub.trans b p.fs)) (ha104.sub (Sub.trans b p.fs)) aa ca fun bb Oa Pa Qa Ra Sa da ea fa ga ha => ?_
    obtain ⟨y, Ta⟩ := u.callG da g
    refine ⟨_, _, _, _, _, rfl, ?_⟩
    obtain ⟨Ua, ia, hp⟩ := bsome hp
    refine s_hasTruth (w := ba) y.pre ea fa ga ha ia fun cb ja => ?_
    obtain ⟨ka, Va⟩ := y.call ja g
    refine ⟨_, rfl, ?_⟩
    obtain rfl := Option.some.inj hp
    exact hq _ ka.ext'
   obtain ⟨i, q, hp⟩ := bsome hp
   obtain ⟨n6, O, t, q⟩ := idx_some q
   obtain ⟨_, la⟩ := rd_Vis ha103 q
   refine ⟨n6, O, (by first | exact t | (rw [ha103.slLen]; exact t)), _, _, _, _, (la _ (Sub.trans b o.sub)).1, ?_⟩
   intro db ma
   obtain ⟨z, na, A, oa⟩ := o.blk ma g 3
   have pa := h.k A
   have d := d.k A
   obtain ⟨qa, sa, B, D, ta⟩ := oa.sto na [(Il i.Field), (Il i.Week), (Il i.Seen.Lo), (Il i.Seen.Hi)]
   have ua := pa.k D
   have d := d.k D
   refine ⟨qa, sa, ?_⟩
   obtain ⟨Wa, va, hp⟩ := bsome hp
   refine s_contains (l := list) (x := J) B.pre (ha200.sub b) va fun eb wa => ?_
   obtain ⟨F, r⟩ := B.call wa z
   have G := ua.k r
   have xa := ta.k r
   have d := d.k r
   refine ⟨_, rfl, ?_⟩
   refine ifnb hp (fun ya hp => ?_) fun ya hp => ?_; rotate_left
   ·refine gdi hp fun za hp => ?_
    exact N _ _ _ _ e z F b G d hp
   refine ⟨_, _, _, _, xa.bk.ra, ?_⟩
   obtain ⟨Aa, hp⟩ := gd_some hp
   intro fb Ba
   obtain ⟨Ca, Da, Ea, Fa, Ga, Ha, Ia⟩ := d.app' ta34 F (a := i) (show Rp.rep (α := Vis) e _ i from rfl) Aa Ba
   have Ja := G.k Ha
   refine ⟨Ca, Da, Fa, ?_⟩
   refine gdi hp fun Ka hp => ?_
   exact N _ _ _ _ e Ea Ga b Ja Ia hp
 exact hgo _ _ _ _ _ f S T (Sub.refl _) h (Ow.nil _ _ _ _ _) hp
theorem s_Leave {s : Ssn} {ca101 ca102 ca103 : C} {m f : M} {Q : V → M → Prop} {rz : List Int × Int} (hS : Pre f m) (ha101 : Sl f ca101 s.Rules) (ha102 : Sl f ca102 s.Fields) (ha103 : Sl f ca103 s.Visits) (hp : pLeave s = some rz) (hq : ∀ m' f' c0, Grw m f m' f' → Sl f' c0 rz.1 → Q (.tup [.c c0, .c (Il rz.2)]) m') : Wc prog tbl 40 [.agg 4 [(Il s.Last), ca101, ca102, ca103]] m Q := by
 have S0 := hS.st
 obtain ⟨τ0, _⟩ : ∃ τ : Nat → Nat, True := ⟨fun _ => 0, trivial⟩
 refine w40 ?_
 unfold pLeave at hp
 intro m0 A
 obtain ⟨d, h, ga, i⟩ := S0.blk A τ0 1
 refine ⟨_, _, _, _, i.bk.ra, ?_⟩
 obtain ⟨ha, B, hp⟩ := bsome hp
 refine s_check (s := s) h.pre ha101 ha102 ha103 B fun m6 D => ?_
 obtain ⟨e, F⟩ := h.call D d
 have g := i.k F
 refine ⟨_, rfl, ?_⟩
 refine ifnd hp (fun G hp => ?_) fun G hp => ?_
 ·obtain rfl := Option.some.inj hp
  exact hq _ f .sl0 e.grw (Sl.nil _)
 refine ⟨trivial, _, g.bk.rc rfl, ha103.isSl, _, _, _, _, g.bk.ra, ?_⟩
 obtain ⟨a, I, hp⟩ := bsome hp
 refine s_open (s := s) e.pre ha101 ha102 ha103 I fun na J j l o p N q t u x => ?_
 obtain ⟨y, O⟩ := e.callG N d
 have P := g.k O
 refine ⟨_, _, _, _, _, rfl, ⟨ha103.isSl, rfl⟩, (by rw [show noFnC _ = true from ha103.noFn]; exact (P.bk.rc rfl)), ?_⟩
 obtain ⟨da, ea, fa⟩ : ∃ ws, mapO vW [.agg 5 [(Il a.s.Last), j, l, o, p]] = some ws ∧ mapS wV ws = [.agg 5 [(Il a.s.Last), j, l, o, p]] := (vWs_cons (vW_agg (nf_cons rfl (nf_cons q.noFn (nf_cons t.noFn (nf_cons u.noFn (nf_cons x.noFn nf_nil)))))) vWs_nil)
 rw [ea, optB_some]
 try rw [ha103.slLen]
 have z : Fv_LInt_Bool J ((C.fn (Fn.func 94) da [])) (fun b => pcanLeave a b) := by
  intro f' m' b ia r Q hs hpre S hg hq
  show Wc prog tbl 94 (appS (mapS wV da) _) m' Q
  rw [fa]
  exact s_canLeave hpre (q.sub hs) (t.sub hs) (u.sub hs) (x.sub hs) S hg hq
 obtain ⟨ja, T, hp⟩ := bsome hp
 refine s_shortest (n := (s.Visits.length : Int)) (passes := (fun b => pcanLeave a b)) y.pre z T fun oa Y Z aa ba => ?_
 obtain ⟨ca, ka⟩ := y.callG aa d
 refine ⟨_, rfl, ?_⟩
 obtain rfl := Option.some.inj hp
 exact hq _ Y Z ca.grw ba
theorem s_GrowthLeft {s : Ssn} {tried : Int} {ca101 ca102 ca103 : C} {m f : M} {Q : V → M → Prop} {rz : Bool} (hS : Pre f m) (ha101 : Sl f ca101 s.Rules) (ha102 : Sl f ca102 s.Fields) (ha103 : Sl f ca103 s.Visits) (hp : pGrowthLeft s tried = some rz) (hq : ∀ m', Ext m m' → Q (.c (.bool rz)) m') : Wc prog tbl 10 [.agg 4 [(Il s.Last), ca101, ca102, ca103], .c (.int .u8 tried)] m Q := by
 have S0 := hS.st
 obtain ⟨τ0, _⟩ : ∃ τ : Nat → Nat, True := ⟨fun _ => 0, trivial⟩
 refine w10 ?_
 unfold pGrowthLeft at hp
 intro m0 Fa
 obtain ⟨t, ba, kd, ca⟩ := S0.blk Fa τ0 1
 refine ⟨_, _, _, _, ca.bk.ra, ?_⟩
 obtain ⟨ld, Ga, hp⟩ := bsome hp
 refine s_lReady (s := s) ba.pre ha101 ha102 ha103 Ga fun m6 Ha => ?_
 obtain ⟨u, Ia⟩ := ba.call Ha t
 have da := ca.k Ia
 refine ⟨_, rfl, ?_⟩
 refine ifnb hp (fun Ja hp => ?_) fun Ja hp => ?_
 ·obtain ⟨md, Ka, hp⟩ := bsome hp
  refine s_awake u.pre  Ka fun m9 La => ?_
  obtain ⟨Ma, nd⟩ := u.call La t
  refine ⟨_, rfl, ?_⟩
  obtain rfl := Option.some.inj hp
  exact hq _ Ma.ext'
 refine ⟨_, _, _, _, da.bk.ra, ?_⟩
 obtain ⟨Na, Oa, hp⟩ := bsome hp
 refine s_lSeason (s := s) u.pre ha101 ha102 ha103 Oa fun qe od pd qd sd Pa Qa Ra Sa => ?_
 obtain ⟨ea, g⟩ := u.callG Pa t
 have Ta := da.k g
 refine ⟨_, _, _, _, rfl, ?_⟩
 obtain ⟨fa, Ua, hp⟩ := bsome hp
 refine s_Leave (s := Na) ea.pre Qa Ra Sa Ua fun re ga td Va i => ?_
 obtain ⟨ha, h⟩ := ea.callG Va t
 have l := Ta.k h
 refine ⟨_, _, rfl, ?_⟩
 refine ifnd hp (fun Wa hp => ?_) fun Wa hp => ?_
 ·obtain rfl := Option.some.inj hp
  exact hq _ ha.ext'
 intro cd bd
 have hgo : ∀ (x : Nat) (ya : Bool) (N : Int) (ia : Int) (O : M) (q : M) (e : Nat → Nat), St (Fm.of m) f q O → Sub ga q → Lb (Fm.of m) q e O 1 m.nxt 4 [(Il s.Last), ca101, ca102, ca103] → pGrowthLeft_L0 s tried fa x N ia = some rz → cd [.c (.bool ya), .c (Il N), .c (Il ia)] O := by
  intro x
  induction x with
  | zero => intro ya N ia O q e j d l hp; cases hp
  | succ x ja =>
   intro ya N ia O q e j d l hp
   refine bd _ _ _ _ ?_
   rw [pGrowthLeft_L0] at hp
   refine ⟨i.isSl, ?_⟩
   try rw [i.slLen]
   refine ifd hp (fun Xa hp => ?_) fun Xa hp => ?_
   ·obtain ⟨ud, y, hp⟩ := bsome hp
    obtain ⟨dd, za, P, y⟩ := idx_some y
    refine ⟨dd, za, (by first | exact P | (rw [i.slLen]; exact P)), _, (i.rdI y (Sub.trans d j.sub)), ?_⟩
    refine ifd hp (fun Ya hp => ?_) fun Ya hp => ?_
    ·obtain rfl := Option.some.inj hp
     exact hq _ j.ext'
    obtain ⟨vd, z, hp⟩ := bsome hp
    obtain ⟨ed, Aa, S, z⟩ := idx_some z
    refine ⟨ed, Aa, (by first | exact S | (rw [i.slLen]; exact S)), _, (i.rdI z (Sub.trans d j.sub)), trivial, _, l.bk.rc rfl, ha103.isSl, ?_⟩
    try rw [ha103.slLen]
    refine ifd hp (fun Za hp => ?_) fun Za hp => ?_
    ·obtain rfl := Option.some.inj hp
     exact hq _ j.ext'
    refine ifd hp (fun ab hp => ?_) fun ab hp => ?_; rotate_left
    ·obtain ⟨wd, A, hp⟩ := bsome hp
     obtain ⟨fd, Ba, T, A⟩ := idx_some A
     refine ⟨fd, Ba, (by first | exact T | (rw [i.slLen]; exact T)), _, (i.rdI A (Sub.trans d j.sub)), ?_⟩
     refine gdi hp fun bb hp => ?_
     refine gdi hp fun cb hp => ?_
     refine gdi hp fun db hp => ?_
     refine gdi hp fun eb hp => ?_
     refine gdi hp fun fb hp => ?_
     refine gdi hp fun gb hp => ?_
     refine gdi hp fun hb hp => ?_
     refine gdi hp fun ib hp => ?_
     refine gdi hp fun jb hp => ?_
     refine gdi hp fun kb hp => ?_
     exact ja _ _ _ _ q e j d l hp
    obtain ⟨xd, B, hp⟩ := bsome hp
    obtain ⟨hd, Ca, Y, B⟩ := idx_some B
    refine ⟨hd, Ca, (by first | exact Y | (rw [i.slLen]; exact Y)), _, (i.rdI B (Sub.trans d j.sub)), ?_⟩
    refine gdi hp fun mb hp => ?_
    obtain ⟨yd, D, hp⟩ := bsome hp
    obtain ⟨id, Da, Z, D⟩ := idx_some D
    refine ⟨id, Da, (by first | exact Z | (rw [i.slLen]; exact Z)), _, (i.rdI D (Sub.trans d j.sub)), ?_⟩
    refine ifd hp (fun nb hp => ?_) fun nb hp => ?_
    ·obtain rfl := Option.some.inj hp
     exact hq _ j.ext'
    obtain ⟨zd, F, hp⟩ := bsome hp
    obtain ⟨jd, Ea, aa, F⟩ := idx_some F
    refine ⟨jd, Ea, (by first | exact aa | (rw [i.slLen]; exact aa)), _, (i.rdI F (Sub.trans d j.sub)), ?_⟩
    refine gdi hp fun ob hp => ?_
    refine gdi hp fun pb hp => ?_
    refine gdi hp fun qb hp => ?_
    refine gdi hp fun rb hp => ?_
    refine gdi hp fun sb hp => ?_
    refine gdi hp fun tb hp => ?_
    refine gdi hp fun ub hp => ?_
    refine gdi hp fun vb hp => ?_
    refine gdi hp fun wb hp => ?_
    refine gdi hp fun xb hp => ?_
    exact ja _ _ _ _ q e j d l hp
   refine ⟨_, _, _, _, l.bk.ra, ?_⟩
   obtain ⟨ka, yb, hp⟩ := bsome hp
   refine s_rFull (s := s) j.pre (ha101.sub (Sub.trans (Sub.trans g.fs h.fs) d)) (ha102.sub (Sub.trans (Sub.trans g.fs h.fs) d)) (ha103.sub (Sub.trans (Sub.trans g.fs h.fs) d)) yb fun se zb => ?_
   obtain ⟨la, Ab⟩ := j.call zb e
   have G := l.k Ab
   refine ⟨_, rfl, ?_⟩
   refine gdi hp fun Bb hp => ?_
   refine gdi hp fun Cb hp => ?_
   refine gdi hp fun Db hp => ?_
   refine gdi hp fun Eb hp => ?_
   obtain ⟨Fb, hp⟩ := gd_some hp
   refine ⟨Fb, _, _, _, _, G.bk.ra, _, _, _, _, G.bk.ra, ?_⟩
   obtain ⟨ma, Gb, hp⟩ := bsome hp
   refine s_rFull (s := s) la.pre (ha101.sub (Sub.trans (Sub.trans g.fs h.fs) d)) (ha102.sub (Sub.trans (Sub.trans g.fs h.fs) d)) (ha103.sub (Sub.trans (Sub.trans g.fs h.fs) d)) Gb fun te Hb => ?_
   obtain ⟨na, Ib⟩ := la.call Hb e
   have oa := G.k Ib
   refine ⟨_, rfl, (by rw [show allS noFnC _ = true from (nf_cons rfl (nf_cons ha101.noFn (nf_cons ha102.noFn (nf_cons ha103.noFn nf_nil))))]; exact (oa.bk.ra)), ?_⟩
   refine gdi hp fun Jb hp => ?_
   refine gdi hp fun Kb hp => ?_
   refine gdi hp fun Mb hp => ?_
   refine gdi hp fun Nb hp => ?_
   refine gdi hp fun Ob hp => ?_
   obtain ⟨Pb, Qb, hp⟩ := bsome hp
   refine s_lSome (s := s) (bits := (((Nat.xor (Int.toNat ma) (Nat.land (Int.toNat ma) (Int.toNat N))) : Nat) : Int)) na.pre (ha101.sub (Sub.trans (Sub.trans g.fs h.fs) d)) (ha102.sub (Sub.trans (Sub.trans g.fs h.fs) d)) (ha103.sub (Sub.trans (Sub.trans g.fs h.fs) d)) Qb fun ue Ad Bd Cd Dd Rb Sb Tb Ub => ?_
   obtain ⟨pa, n⟩ := na.callG Rb e
   have Vb := oa.k n
   refine ⟨_, _, _, _, rfl, ?_⟩
   obtain ⟨Wb, Xb, hp⟩ := bsome hp
   refine s_lSeason (s := Pb) pa.pre Sb Tb Ub Xb fun ve Ed Fd Gd Hd Yb Zb ac bc => ?_
   obtain ⟨qa, o⟩ := pa.callG Yb e
   have cc := Vb.k o
   refine ⟨_, _, _, _, rfl, ?_⟩
   obtain ⟨Id, dc, hp⟩ := bsome hp
   refine s_Bounds (s := Wb) qa.pre Zb ac bc dc fun we Jd Ld ec Md => ?_
   obtain ⟨sa, p⟩ := qa.callG ec e
   have I := cc.k p
   refine ⟨_, _, rfl, _, _, _, _, I.bk.ra, _, _, _, _, I.bk.ra, ?_⟩
   obtain ⟨ta, fc, hp⟩ := bsome hp
   refine s_rFull (s := s) sa.pre (ha101.sub (Sub.trans (Sub.trans (Sub.trans (Sub.trans (Sub.trans g.fs h.fs) d) n.fs) o.fs) p.fs)) (ha102.sub (Sub.trans (Sub.trans (Sub.trans (Sub.trans (Sub.trans g.fs h.fs) d) n.fs) o.fs) p.fs)) (ha103.sub (Sub.trans (Sub.trans (Sub.trans (Sub.trans (Sub.trans g.fs h.fs) d) n.fs) o.fs) p.fs)) fc fun xe gc => ?_
   obtain ⟨ua, hc⟩ := sa.call gc e
   have ic := I.k hc
   refine ⟨_, rfl, (by rw [show allS noFnC _ = true from (nf_cons rfl (nf_cons ha101.noFn (nf_cons ha102.noFn (nf_cons ha103.noFn nf_nil))))]; exact (ic.bk.ra)), ?_⟩
   refine gdi hp fun jc hp => ?_
   refine gdi hp fun kc hp => ?_
   refine gdi hp fun lc hp => ?_
   refine gdi hp fun nc hp => ?_
   refine gdi hp fun oc hp => ?_
   obtain ⟨pc, qc, hp⟩ := bsome hp
   refine s_lSome (s := s) (bits := (((Nat.xor (Int.toNat ta) (Nat.land (Int.toNat ta) (Int.toNat (((Nat.land (Int.toNat (wrapZ .i64 tried)) (Int.toNat ka)) : Nat) : Int)))) : Nat) : Int)) ua.pre (ha101.sub (Sub.trans (Sub.trans (Sub.trans (Sub.trans (Sub.trans g.fs h.fs) d) n.fs) o.fs) p.fs)) (ha102.sub (Sub.trans (Sub.trans (Sub.trans (Sub.trans (Sub.trans g.fs h.fs) d) n.fs) o.fs) p.fs)) (ha103.sub (Sub.trans (Sub.trans (Sub.trans (Sub.trans (Sub.trans g.fs h.fs) d) n.fs) o.fs) p.fs)) qc fun ye Nd Od Pd Qd sc tc uc vc => ?_
   obtain ⟨va, wc⟩ := ua.callG sc e
   refine ⟨_, _, _, _, rfl, ?_⟩
   obtain ⟨xc, yc, hp⟩ := bsome hp
   refine s_lSeason (s := pc) va.pre tc uc vc yc fun ze Rd Sd Td Ud zc Ac Bc Cc => ?_
   obtain ⟨wa, Dc⟩ := va.callG zc e
   refine ⟨_, _, _, _, rfl, ?_⟩
   obtain ⟨Vd, Ec, hp⟩ := bsome hp
   refine s_Bounds (s := xc) wa.pre Ac Bc Cc Ec fun je Wd Xd Fc Yd => ?_
   obtain ⟨r, Gc⟩ := wa.callG Fc e
   refine ⟨_, _, rfl, ?_⟩
   refine ifd hp (fun Hc hp => ?_) fun Hc hp => ?_; rotate_left
   ·obtain rfl := Option.some.inj hp
    exact hq _ r.ext'
   refine ifd hp (fun Ic hp => ?_) fun Ic hp => ?_
   ·obtain ⟨Zd, Jc, hp⟩ := bsome hp
    refine s_awake r.pre  Jc fun ke Kc => ?_
    obtain ⟨Lc, ae⟩ := r.call Kc e
    refine ⟨_, rfl, ?_⟩
    obtain rfl := Option.some.inj hp
    exact hq _ Lc.ext'
   refine ifd hp (fun Nc hp => ?_) fun Nc hp => ?_; rotate_left
   ·obtain rfl := Option.some.inj hp
    exact hq _ r.ext'
   obtain ⟨Oc, Pc, hp⟩ := bsome hp
   refine s_rBits (bits := (((Nat.land (Int.toNat (wrapZ .i64 tried)) (Int.toNat ka)) : Nat) : Int)) r.pre  Pc fun me be ce Qc Rc => ?_
   obtain ⟨xa, Tc⟩ := r.callG Qc e
   refine ⟨_, rfl, ?_⟩
   obtain ⟨de, Uc, hp⟩ := bsome hp
   refine s_rShorter (a := Oc) (b := fa.1) xa.pre Rc (i.sub (Sub.trans (Sub.trans (Sub.trans (Sub.trans (Sub.trans (Sub.trans (Sub.trans d n.fs) o.fs) p.fs) wc.fs) Dc.fs) Gc.fs) Tc.fs)) Uc fun oe Vc => ?_
   obtain ⟨J, ee⟩ := xa.call Vc e
   refine ⟨_, rfl, ?_⟩
   refine ifnb hp (fun Xc hp => ?_) fun Xc hp => ?_; rotate_left
   ·obtain rfl := Option.some.inj hp
    exact hq _ J.ext'
   obtain ⟨fe, Yc, hp⟩ := bsome hp
   refine s_awake J.pre  Yc fun pe Zc => ?_
   obtain ⟨ad, ge⟩ := J.call Zc e
   refine ⟨_, rfl, ?_⟩
   obtain rfl := Option.some.inj hp
   exact hq _ ad.ext'
 exact hgo _ _ _ _ _ ga t ha (Sub.refl _) l hp
end
end Go.Proofs.YtmlaphekbnanjaaGreat

namespace Go.Proofs.YtmlaphekbnanjaaGreat
open _root_.Go.Proofs.Tryz
open Go.Abs Go.Abs.Grow
set_option maxRecDepth 100000
noncomputable section
def Wi (r : Rg) (lo hi : Int) : Prop := lo ≤ r.Lo ∧ r.Lo ≤ r.Hi ∧ r.Hi ≤ hi
def inR (r : Rg) (n : Int) : Prop := r.Lo ≤ n ∧ n ≤ r.Hi
def cnt (r : Rg) : Int := r.Hi - r.Lo + 1
def manyN (f : Fld) : Int := cnt f.Week * cnt f.Damage * cnt f.Old
structure VF (s : Ssn) (f : Fld) : Prop where
 crp : 0 ≤ f.Crop ∧ f.Crop < s.Rules.length
 wk : Wi f.Week 0 s.Last
 dm : Wi f.Damage 0 100
 old : Wi f.Old 0 100
def VV (s : Ssn) (v : Vis) : Prop := (0 ≤ v.Field ∧ v.Field < s.Fields.length) ∧ (0 ≤ v.Week ∧ v.Week ≤ s.Last) ∧ Wi v.Seen 0 100
def VRu (s : Ssn) (l : List Int) : Prop := (l.length : Int) = s.Last + 1 ∧ ∀ x ∈ l, 0 ≤ x ∧ x ≤ 100
def ManyS (s : Ssn) : Prop := 12 < s.Last ∨ 3 < s.Rules.length ∨ 3 < s.Fields.length ∨ 6 < s.Visits.length
structure VS0 (s : Ssn) : Prop where
 last : 0 ≤ s.Last
 rne : 0 < s.Rules.length
 fne : 0 < s.Fields.length
 rules : ∀ l ∈ s.Rules, VRu s l
 flds : ∀ f ∈ s.Fields, VF s f
 vis : ∀ v ∈ s.Visits, VV s v
def FewS (s : Ssn) : Prop := ∀ f ∈ s.Fields, manyN f ≤ 3000
open Classical in
def faultN (s : Ssn) : Int := if ManyS s then 3 else if VS0 s then (if FewS s then 0 else 3) else 1
structure VS (s : Ssn) : Prop extends VS0 s where
 many : ¬ ManyS s
 few : FewS s
theorem fault_zero {s : Ssn} : faultN s = 0 ↔ VS s := by
 unfold faultN
 split
 ·rename_i h; exact ⟨fun h => by omega, fun h' => absurd h h'.many⟩
 ·rename_i h
  split
  ·rename_i h2
   split
   ·rename_i h3; exact ⟨fun _ => ⟨h2, h, h3⟩, fun _ => rfl⟩
   ·rename_i h3; exact ⟨fun h => by omega, fun h' => absurd h'.few h3⟩
  ·rename_i h2; exact ⟨fun h => by omega, fun h' => absurd h'.toVS0 h2⟩
theorem not_many {s : Ssn} (h : ¬ ManyS s) : s.Last ≤ 12 ∧ s.Rules.length ≤ 3 ∧ s.Fields.length ≤ 3 ∧ s.Visits.length ≤ 6 := by
 unfold ManyS at h; omega
theorem In_ev {n lo hi : Int} : Ev (prIn n lo hi) (lo ≤ n ∧ n ≤ hi) := Ev.ite fun _ => Ev.dec Iff.rfl
theorem has_ev {r : Rg} {n : Int} : Ev (phas r n) (inR r n) := Ev.ite fun _ => Ev.dec Iff.rfl
theorem rWithin_ev {r : Rg} {lo hi : Int} : Ev (prWithin r lo hi) (Wi r lo hi) := Ev.ite fun _ => Ev.ite fun _ => Ev.dec Iff.rfl
theorem within_ev {r : Rg} {lo hi : Int} : Ev (pwithin r lo hi) (Wi r lo hi) := Ev.ite fun _ => Ev.ite fun _ => Ev.dec Iff.rfl
theorem isH_ev {n : Int} : Ev (pisHundredths n) (0 ≤ n ∧ n ≤ 100) := has_ev.ret
theorem hasField_ev {s : Ssn} (h : s.Fields.length ≤ 1000000) {n : Int} : Ev (phasField s n) (0 ≤ n ∧ n < s.Fields.length) := Ev.gd (fI (by omega)) (has_ev.ret.imp (by show 0 ≤ n ∧ n ≤ _ - 1 ↔ _; omega))
theorem hasWeek_ev {s : Ssn} {n : Int} : Ev (phasWeek s n) (0 ≤ n ∧ n ≤ s.Last) := has_ev.ret
theorem tooMany_ev {s : Ssn} : Ev (ptooMany s) (ManyS s) := by
 unfold ptooMany ManyS
 by_cases h1 : (12 : Int) < s.Last
 ·rw [if_pos h1]; exact Ev.tt (.inl h1)
 rw [if_neg h1]
 by_cases h2 : (3 : Int) < (s.Rules.length : Int)
 ·rw [if_pos h2]; exact Ev.tt (.inr (.inl (by omega)))
 rw [if_neg h2]
 by_cases h3 : (3 : Int) < (s.Fields.length : Int)
 ·rw [if_pos h3]; exact Ev.tt (.inr (.inr (.inl (by omega))))
 rw [if_neg h3]; exact Ev.dec (by omega)
theorem gI {l : List Int} {p : Int → Option Bool} : ∀ {d : Nat} {x : Int}, pindexI_L0 l p d x = gIdx l p d x
 | 0, _ => rfl
 | d + 1, x => by unfold pindexI_L0 gIdx; simp only [gI (d := d)]
theorem gL {l : List (List Int)} {p : List Int → Option Bool} : ∀ {d : Nat} {x : Int}, pindexL_L0 l p d x = gIdx l p d x
 | 0, _ => rfl
 | d + 1, x => by unfold pindexL_L0 gIdx; simp only [gL (d := d)]
theorem gF {l : List Fld} {p : Fld → Option Bool} : ∀ {d : Nat} {x : Int}, pindexF_L0 l p d x = gIdx l p d x
 | 0, _ => rfl
 | d + 1, x => by unfold pindexF_L0 gIdx; simp only [gF (d := d)]
theorem gV {l : List Vis} {p : Vis → Option Bool} : ∀ {d : Nat} {x : Int}, pindexV_L0 l p d x = gIdx l p d x
 | 0, _ => rfl
 | d + 1, x => by unfold pindexV_L0 gIdx; simp only [gV (d := d)]
theorem eachI_ev {l : List Int} {p : Int → Option Bool} {q : Int → Prop} (hp : ∀ a ∈ l, Ev (p a) (q a)) (hl : shrt l) : Ev (peachI l p) (∀ a ∈ l, q a) := Ev.each hp hl.lt gI
theorem eachL_ev {l : List (List Int)} {p : List Int → Option Bool} {q : List Int → Prop} (hp : ∀ a ∈ l, Ev (p a) (q a)) (hl : shrt l) : Ev (peachL l p) (∀ a ∈ l, q a) := Ev.each hp hl.lt gL
theorem eachF_ev {l : List Fld} {p : Fld → Option Bool} {q : Fld → Prop} (hp : ∀ a ∈ l, Ev (p a) (q a)) (hl : shrt l) : Ev (peachF l p) (∀ a ∈ l, q a) := Ev.each hp hl.lt gF
theorem eachV_ev {l : List Vis} {p : Vis → Option Bool} {q : Vis → Prop} (hp : ∀ a ∈ l, Ev (p a) (q a)) (hl : shrt l) : Ev (peachV l p) (∀ a ∈ l, q a) := Ev.each hp hl.lt gV
theorem cnt_rng {r : Rg} {lo hi : Int} (h : Wi r lo hi) : 1 ≤ cnt r ∧ cnt r ≤ hi - lo + 1 := by unfold Wi at h; unfold cnt; omega
theorem count_eq {r : Rg} (h : Wi r (-1000) 1000) : pcount r = some (cnt r) := by
 unfold Wi at h
 unfold pcount
 rw [gd_pos (fI (by omega)), gd_pos (fI (by omega))]; rfl
theorem rCount_eq {r : Rg} (h : Wi r (-1000) 1000) : prCount r = some (cnt r) := by
 unfold Wi at h
 unfold prCount
 rw [gd_pos (fI (by omega)), gd_pos (fI (by omega))]; rfl
theorem Wi.w {r : Rg} {lo hi : Int} (h : Wi r lo hi) (h1 : -1000 ≤ lo) (h2 : hi ≤ 1000) : Wi r (-1000) 1000 := by unfold Wi at h ⊢; omega
theorem mul_rng {a b A B : Int} (ha : 1 ≤ a ∧ a ≤ A) (hb : 1 ≤ b ∧ b ≤ B) : 1 ≤ a * b ∧ a * b ≤ A * B := by
 have h1 : 1 * 1 ≤ a * b := Int.mul_le_mul ha.1 hb.1 (by omega) (by omega)
 have h2 : a * b ≤ A * B := Int.mul_le_mul ha.2 hb.2 (by omega) (by omega)
 omega
theorem many_rng {s : Ssn} {f : Fld} (h : VF s f) (hl : s.Last ≤ 12) : (1 ≤ cnt f.Week ∧ cnt f.Week ≤ 13) ∧ (1 ≤ cnt f.Damage ∧ cnt f.Damage ≤ 101) ∧ (1 ≤ cnt f.Old ∧ cnt f.Old ≤ 101) ∧ (1 ≤ cnt f.Week * cnt f.Damage ∧ cnt f.Week * cnt f.Damage ≤ 1313) ∧ 1 ≤ manyN f ∧ manyN f ≤ 132613 := by
 have h1 := cnt_rng h.wk
 have h2 := cnt_rng h.dm
 have h3 := cnt_rng h.old
 have h4 := mul_rng (A := 13) (B := 101) (a := cnt f.Week) (b := cnt f.Damage) (by omega) (by omega)
 have h5 := mul_rng (A := 1313) (B := 101) (a := cnt f.Week * cnt f.Damage) (b := cnt f.Old) (by omega) (by omega)
 exact ⟨by omega, by omega, by omega, by omega, by unfold manyN; omega⟩
theorem rMany_eq {s : Ssn} {f : Fld} (h : VF s f) (hl : s.Last ≤ 12) : prMany f = some (manyN f) := by
 obtain ⟨h1, h2, h3, h4, h5⟩ := many_rng h hl
 unfold prMany
 unfold manyN at h5 ⊢
 rw [rCount_eq (h.wk.w (by omega) (by omega)), Option.bind_some, rCount_eq (h.dm.w (by omega) (by omega)), Option.bind_some, gd_pos (by omega), gd_pos (by omega), gd_pos (fI (by omega)), rCount_eq (h.old.w (by omega) (by omega)), Option.bind_some, gd_pos (by omega), gd_pos (by omega), gd_pos (fI (by omega))]
theorem hasFew_ev {s : Ssn} {f : Fld} (h : VF s f) (hl : s.Last ≤ 12) : Ev (phasFew f) (manyN f ≤ 3000) := by
 obtain ⟨h1, h2, h3, h4, h5⟩ := many_rng h hl
 unfold phasFew
 unfold manyN at h5 ⊢
 rw [count_eq (h.wk.w (by omega) (by omega)), Option.bind_some, count_eq (h.dm.w (by omega) (by omega)), Option.bind_some, gd_pos (by omega), gd_pos (by omega), gd_pos (fI (by omega)), count_eq (h.old.w (by omega) (by omega)), Option.bind_some, gd_pos (by omega), gd_pos (by omega), gd_pos (fI (by omega))]
 exact Ev.dec Iff.rfl
theorem validRule_ev {s : Ssn} (h : ¬ ManyS s) (h0 : 0 ≤ s.Last) {l : List Int} : Ev (pvalidRule s l) (VRu s l) := by
 obtain ⟨h1, _⟩ := not_many h
 exact Ev.gd (fI (by omega)) (Ev.ite fun hl => (eachI_ev (q := fun r => 0 ≤ r ∧ r ≤ 100) (fun _ _ => isH_ev) (fewS (n := 13) (by omega) (by omega))).ret)
theorem validField_ev {s : Ssn} (h : ¬ ManyS s) {f : Fld} : Ev (pvalidField s f) (VF s f) := by
 obtain ⟨_, h1, _⟩ := not_many h
 refine Ev.gd (fI (by omega)) ((Ev.and has_ev fun _ => Ev.and within_ev fun _ => Ev.and within_ev fun _ => within_ev.ret).imp ?_)
 exact ⟨fun ⟨a, b, c, d⟩ => ⟨by unfold inR at a; dsimp only at a; omega, b, c, d⟩, fun q => ⟨by have := q.crp; show 0 ≤ _ ∧ _ ≤ _ - 1; omega, q.wk, q.dm, q.old⟩⟩
theorem validVisit_ev {s : Ssn} (h : ¬ ManyS s) {v : Vis} : Ev (pvalidVisit s v) (VV s v) := by
 obtain ⟨_, _, h1, _⟩ := not_many h
 exact Ev.and (hasField_ev (by omega)) fun _ => Ev.and hasWeek_ev fun _ => within_ev.ret
theorem valid_ev {s : Ssn} (h : ¬ ManyS s) : Ev (pvalid s) (VS0 s) := by
 obtain ⟨h1, h2, h3, h4⟩ := not_many h
 refine (Ev.ite fun q1 => Ev.ite fun q2 => Ev.ite fun q3 => Ev.and (eachL_ev (fun _ _ => validRule_ev h q1) (fewS h2 (by omega))) fun _ => Ev.and (eachF_ev (fun _ _ => validField_ev h) (fewS h3 (by omega))) fun _ => (eachV_ev (fun _ _ => validVisit_ev h) (fewS h4 (by omega))).ret).imp ?_
 exact ⟨fun ⟨a, b, c, d, e, g⟩ => ⟨a, by omega, by omega, d, e, g⟩, fun q => ⟨q.last, by have := q.rne; omega, by have := q.fne; omega, q.rules, q.flds, q.vis⟩⟩
theorem check_eq {s : Ssn} : pcheck s = some (faultN s) := by
 unfold pcheck faultN
 refine tooMany_ev.pick (fun h => ?_) fun h => ?_
 ·rw [if_pos rfl, if_pos h]
 ·rw [if_neg (by simp), if_neg h]
  obtain ⟨h1, h2, h3, h4⟩ := not_many h
  refine (valid_ev h).pick (fun hv => ?_) fun hv => ?_
  ·rw [if_pos rfl, if_pos hv]
   refine (eachF_ev (q := fun f => manyN f ≤ 3000) (fun f hf => hasFew_ev (hv.flds f hf) h1) (fewS h3 (by omega))).pick (fun hf => ?_) fun hf => ?_
   ·rw [if_pos rfl, if_pos (show FewS s from hf)]
   ·rw [if_neg (by simp), if_neg (show ¬ FewS s from hf)]
  ·rw [if_neg (by simp), if_neg hv]
theorem rIsRule_ev {s : Ssn} (h : ¬ ManyS s) (h0 : 0 ≤ s.Last) {l : List Int} (hl : l.length ≤ 9223372036854775807) : Ev (prIsRule s l) (VRu s l) := by
 obtain ⟨h1, _⟩ := not_many h
 refine (Ev.loopE (l := l) (F := prIsRule_L0 s l) (ok := fun x => 0 ≤ x ∧ x ≤ 100) (fin := some (decide ((l.length : Int) = s.Last + 1))) (P := (l.length : Int) = s.Last + 1) (fun d k a ha => ?_) (fun d => ?_) (Nat.lt_succ_self _) fun _ => Ev.dec Iff.rfl).imp ⟨fun h => ⟨h.2, h.1⟩, fun h => ⟨h.2, h.1⟩⟩
 ·have hk := (List.getElem?_eq_some_iff.1 ha).1
  rw [prIsRule_L0, if_pos (by omega), idx_at ha, Option.bind_some]
  exact In_ev.step (by rw [if_pos rfl, gd_pos (fI (by omega))]) (by rw [if_neg (by simp)])
 ·rw [prIsRule_L0, if_neg (Int.lt_irrefl _), gd_pos (fI (by omega))]
open Classical in
theorem fault_L3 {s : Ssn} (h : ¬ ManyS s) (hv : VS0 s) : prFault_L3 s 1000000 0 = some (if FewS s then 0 else 3) := by
 obtain ⟨h1, h2, h3, h4⟩ := not_many h
 have key := loop_each (l := s.Fields) (F := prFault_L3 s) (ok := fun f => manyN f ≤ 3000) (bad := some 3) (fin := some 0) (fun d k f hf => by
  have hk := (List.getElem?_eq_some_iff.1 hf).1
  have hvf := hv.flds f (List.mem_of_getElem? hf)
  rw [prFault_L3, if_pos (by omega), idx_at hf, Option.bind_some, rMany_eq hvf h1, Option.bind_some]
  constructor
  ·intro hm; rw [if_neg (by omega), gd_pos (fI (by omega))]
  ·intro hm; rw [if_pos (by omega)]) (fun d => by rw [prFault_L3, if_neg (Int.lt_irrefl _)]) (d := 1000000) (by omega)
 by_cases hf : FewS s
 ·rw [if_pos hf]; exact key.1 hf
 ·rw [if_neg hf]; exact key.2 hf
theorem fault_L2 {s : Ssn} (h : ¬ ManyS s) {x : Int} : ((∀ v ∈ s.Visits, VV s v) → prFault_L2 s 1000000 x 0 = prFault_L3 s 1000000 0) ∧ (¬ (∀ v ∈ s.Visits, VV s v) → prFault_L2 s 1000000 x 0 = some 1) := by
 obtain ⟨h1, h2, h3, h4⟩ := not_many h
 refine loop_each (l := s.Visits) (F := fun d y => prFault_L2 s d x y) (fun d k v hg => ?_) (fun d => by rw [prFault_L2, if_neg (Int.lt_irrefl _)]) (by omega)
 have hk := (List.getElem?_eq_some_iff.1 hg).1
 rw [prFault_L2, if_pos (by omega), idx_at hg, Option.bind_some, gd_pos (fI (by omega))]
 have e : VV s v ↔ ((0 ≤ v.Field ∧ v.Field ≤ (s.Fields.length : Int) - 1) ∧ (0 ≤ v.Week ∧ v.Week ≤ s.Last) ∧ Wi v.Seen 0 100) := by unfold VV; rw [show (v.Field < (s.Fields.length : Int) ↔ v.Field ≤ (s.Fields.length : Int) - 1) by omega]
 rw [e]
 obtain ⟨b1, g1, g2⟩ := In_ev (n := v.Field) (lo := 0) (hi := (s.Fields.length : Int) - 1)
 obtain ⟨b2, g3, g4⟩ := In_ev (n := v.Week) (lo := 0) (hi := s.Last)
 obtain ⟨b3, g5, g6⟩ := rWithin_ev (r := v.Seen) (lo := 0) (hi := 100)
 rw [g1, g3, g5, ← g2, ← g4, ← g6]
 simp only [Option.bind_some]
 cases b1 <;> cases b2 <;> cases b3 <;> simp only [if_true, Bool.false_eq_true, if_false, and_false, and_true, not_true_eq_false, not_false_eq_true, false_implies, true_implies, and_self] <;> first | exact trivial | (rw [gd_pos (fI (by omega))])
theorem fault_L1 {s : Ssn} (h : ¬ ManyS s) {x : Int} : ((∀ f ∈ s.Fields, VF s f) → prFault_L1 s 1000000 x 0 = prFault_L2 s 1000000 x 0) ∧ (¬ (∀ f ∈ s.Fields, VF s f) → prFault_L1 s 1000000 x 0 = some 1) := by
 obtain ⟨h1, h2, h3, h4⟩ := not_many h
 refine loop_each (l := s.Fields) (F := fun d y => prFault_L1 s d x y) (fun d k f hg => ?_) (fun d => by rw [prFault_L1, if_neg (Int.lt_irrefl _)]) (by omega)
 have hk := (List.getElem?_eq_some_iff.1 hg).1
 rw [prFault_L1, if_pos (by omega), idx_at hg, Option.bind_some, gd_pos (fI (by omega))]
 have e : VF s f ↔ ((0 ≤ f.Crop ∧ f.Crop ≤ (s.Rules.length : Int) - 1) ∧ Wi f.Week 0 s.Last ∧ Wi f.Damage 0 100 ∧ Wi f.Old 0 100) := ⟨fun q => ⟨by have := q.crp; omega, q.wk, q.dm, q.old⟩, fun q => ⟨by have := q.1; omega, q.2.1, q.2.2.1, q.2.2.2⟩⟩
 rw [e]
 obtain ⟨b1, g1, g2⟩ := In_ev (n := f.Crop) (lo := 0) (hi := (s.Rules.length : Int) - 1)
 obtain ⟨b2, g3, g4⟩ := rWithin_ev (r := f.Week) (lo := 0) (hi := s.Last)
 obtain ⟨b3, g5, g6⟩ := rWithin_ev (r := f.Damage) (lo := 0) (hi := 100)
 obtain ⟨b4, g7, g8⟩ := rWithin_ev (r := f.Old) (lo := 0) (hi := 100)
 rw [g1, g3, g5, g7, ← g2, ← g4, ← g6, ← g8]
 simp only [Option.bind_some]
 cases b1 <;> cases b2 <;> cases b3 <;> cases b4 <;> simp only [if_true, Bool.false_eq_true, if_false, and_false, and_true, not_true_eq_false, not_false_eq_true, false_implies, true_implies, and_self] <;> first | exact trivial | (rw [gd_pos (fI (by omega))])
theorem rFault_eq {s : Ssn} (hR : ∀ l ∈ s.Rules, l.length ≤ maxLen) : prFault s = some (faultN s) := by
 unfold prFault faultN
 by_cases hm : ManyS s
 ·rw [if_pos hm]
  unfold ManyS at hm
  by_cases h1 : (12 : Int) < s.Last
  ·rw [if_pos h1]
  rw [if_neg h1]
  by_cases h2 : (3 : Int) < (s.Rules.length : Int)
  ·rw [if_pos h2]
  rw [if_neg h2]
  by_cases h3 : (3 : Int) < (s.Fields.length : Int)
  ·rw [if_pos h3]
  rw [if_neg h3, if_pos (by omega)]
 obtain ⟨h1, h2, h3, h4⟩ := not_many hm
 rw [if_neg hm, if_neg (by omega), if_neg (by omega), if_neg (by omega), if_neg (by omega)]
 by_cases q1 : s.Last < 0
 ·rw [if_pos q1, if_neg fun hv => by have := hv.last; omega]
 rw [if_neg q1]
 by_cases q2 : (s.Rules.length : Int) = 0
 ·rw [if_pos q2, if_neg fun hv => by have := hv.rne; omega]
 rw [if_neg q2]
 by_cases q3 : (s.Fields.length : Int) = 0
 ·rw [if_pos q3, if_neg fun hv => by have := hv.fne; omega]
 rw [if_neg q3]
 have key := loop_each (l := s.Rules) (F := fun d y => prFault_L0 s d 0 y) (ok := VRu s) (bad := some 1) (fin := prFault_L1 s 1000000 0 0) (fun d k l hg => by
  have hk := (List.getElem?_eq_some_iff.1 hg).1
  rw [prFault_L0, if_pos (by omega), idx_at hg, Option.bind_some]
  exact (rIsRule_ev hm (by omega) (l := l) (by have := hR l (List.mem_of_getElem? hg); unfold maxLen at this; omega)).step (by rw [if_pos rfl, gd_pos (fI (by omega))]) (by rw [if_neg (by simp)])) (fun d => by rw [prFault_L0, if_neg (Int.lt_irrefl _)]) (d := 1000000) (by omega)
 by_cases r1 : ∀ l ∈ s.Rules, VRu s l
 ·rw [key.1 r1]
  by_cases r2 : ∀ f ∈ s.Fields, VF s f
  ·rw [(fault_L1 hm).1 r2]
   by_cases r3 : ∀ v ∈ s.Visits, VV s v
   ·have hv : VS0 s := ⟨by omega, by omega, by omega, r1, r2, r3⟩
    rw [(fault_L2 hm).1 r3, fault_L3 hm hv, if_pos hv]
   ·rw [(fault_L2 hm).2 r3, if_neg fun hv => r3 hv.vis]
  ·rw [(fault_L1 hm).2 r2, if_neg fun hv => r2 hv.flds]
 ·rw [key.2 r1, if_neg fun hv => r1 hv.rules]
end
end Go.Proofs.YtmlaphekbnanjaaGreat

namespace Go.Proofs.YtmlaphekbnanjaaGreat
open _root_.Go.Proofs.Tryz
open Go.Abs Go.Abs.Grow
set_option maxRecDepth 100000
noncomputable section
def fldAt (s : Ssn) (k : Int) : Fld := (s.Fields[k.toNat]?).getD ⟨0, ⟨0, 0⟩, ⟨0, 0⟩, ⟨0, 0⟩⟩
def ruleOf (s : Ssn) (crop : Int) : List Int := (s.Rules[crop.toNat]?).getD []
def FieldOk (s : Ssn) (k : Int) : Prop := 0 ≤ k ∧ k < s.Fields.length
theorem fld_at {s : Ssn} {k : Int} (h : FieldOk s k) : idx s.Fields k = some (fldAt s k) ∧ fldAt s k ∈ s.Fields := by
 unfold FieldOk at h
 have hk : k.toNat < s.Fields.length := by omega
 have e := List.getElem?_eq_getElem hk
 have e2 : fldAt s k = s.Fields[k.toNat] := by unfold fldAt; rw [e]; rfl
 refine ⟨?_, by rw [e2]; exact List.getElem_mem hk⟩
 rw [show k = ((k.toNat : Nat) : Int) by omega, idx_nat]
 rw [show ((k.toNat : Nat) : Int) = k by omega, e2, e]
theorem VS0.vf {s : Ssn} (h : VS0 s) {k : Int} (hk : FieldOk s k) : VF s (fldAt s k) := h.flds _ (fld_at hk).2
theorem rule_at {s : Ssn} (h : VS0 s) {c : Int} (h0 : 0 ≤ c) (h1 : c < s.Rules.length) : idx s.Rules c = some (ruleOf s c) ∧ VRu s (ruleOf s c) := by
 have hk : c.toNat < s.Rules.length := by omega
 have e := List.getElem?_eq_getElem hk
 have e2 : ruleOf s c = s.Rules[c.toNat] := by unfold ruleOf; rw [e]; rfl
 refine ⟨?_, by rw [e2]; exact h.rules _ (List.getElem_mem hk)⟩
 rw [show c = ((c.toNat : Nat) : Int) by omega, idx_nat]
 rw [show ((c.toNat : Nat) : Int) = c by omega, e2, e]
theorem VRu.okR {s : Ssn} {l : List Int} (h : VRu s l) : okR l := h.2
theorem rule_idx {l : List Int} {n : Nat} (h : n < l.length) : idx l (n : Int) = some (l.getD n 0) := by
 rw [idx_nat, List.getD_eq_getElem?_getD, List.getElem?_eq_getElem h]; rfl
def dmg (s : Ssn) (crop : Int) (t : Trh) (w : Int) : Int := dmgN (ruleOf s crop) t.Week t.Damage w.toNat
def IsT (f : Fld) (t : Trh) : Prop := inR f.Week t.Week ∧ inR f.Damage t.Damage ∧ inR f.Old t.Old
theorem IsT.rng {s : Ssn} {f : Fld} {t : Trh} (h : IsT f t) (hf : VF s f) : (0 ≤ t.Week ∧ t.Week ≤ s.Last) ∧ (0 ≤ t.Damage ∧ t.Damage ≤ 100) ∧ (0 ≤ t.Old ∧ t.Old ≤ 100) := by
 obtain ⟨h1, h2, h3⟩ := h
 have a := hf.wk; have b := hf.dm; have c := hf.old
 unfold Wi at a b c; unfold inR at h1 h2 h3
 omega
theorem dmg_rng' {s : Ssn} (h : VS0 s) {c : Int} (h0 : 0 ≤ c) (h1 : c < s.Rules.length) {t : Trh} (hd : 0 ≤ t.Damage) (w : Int) : 0 ≤ dmg s c t w ∧ dmg s c t w ≤ t.Damage := dmg_rng (rule_at h h0 h1).2.okR hd _
def mkDm (g : Nat → Int) : Dm := ⟨g 0, g 1, g 2, g 3, g 4, g 5, g 6, g 7, g 8, g 9, g 10, g 11, g 12⟩
def dmL (d : Dm) : List Int := [d.d0, d.d1, d.d2, d.d3, d.d4, d.d5, d.d6, d.d7, d.d8, d.d9, d.d10, d.d11, d.d12]
theorem dmL_get (g : Nat → Int) {k : Nat} (h : k < 13) : (dmL (mkDm g))[k]? = some (g k) := by
 unfold dmL mkDm
 match k, h with
 | 0, _ => rfl
 | 1, _ => rfl
 | 2, _ => rfl
 | 3, _ => rfl
 | 4, _ => rfl
 | 5, _ => rfl
 | 6, _ => rfl
 | 7, _ => rfl
 | 8, _ => rfl
 | 9, _ => rfl
 | 10, _ => rfl
 | 11, _ => rfl
 | 12, _ => rfl
theorem sti_at {g : Nat → Int} {n j : Nat} {v : Int} (hv : v = g n) : sti (n : Int) j v (if j < n then g j else 0) = if j < n + 1 then g j else 0 := by
 unfold sti
 by_cases h : n = j
 ·subst h; rw [if_pos rfl, if_pos (by omega), hv]
 ·rw [if_neg (by omega)]
  by_cases h2 : j < n
  ·rw [if_pos h2, if_pos (by omega)]
  ·rw [if_neg h2, if_neg (by omega)]
theorem grow_go {s : Ssn} (h : VS0 s) (hl : s.Last ≤ 12) {p : Plt} (h0 : 0 ≤ p.crop) (h1 : p.crop < s.Rules.length) (ht : 0 ≤ p.t.Week) (hd : 0 ≤ p.t.Damage ∧ p.t.Damage ≤ 100) (g : Nat → Int) (hg : ∀ n, g n = dmgN (ruleOf s p.crop) p.t.Week p.t.Damage n) :
  ∀ (d n : Nat) (x : Int), n ≤ 13 → 13 - n < d → (x = if n = 0 then 0 else g (n - 1)) → pgrow_L0 s p d (if 0 < n then g 0 else 0) (if 1 < n then g 1 else 0) (if 2 < n then g 2 else 0) (if 3 < n then g 3 else 0) (if 4 < n then g 4 else 0) (if 5 < n then g 5 else 0) (if 6 < n then g 6 else 0) (if 7 < n then g 7 else 0) (if 8 < n then g 8 else 0) (if 9 < n then g 9 else 0) (if 10 < n then g 10 else 0) (if 11 < n then g 11 else 0) (if 12 < n then g 12 else 0) x (n : Int) = some (mkDm g)
 | 0, n, _, _, hn, _ => by omega
 | d + 1, n, x, hn, hd', hx => by
  obtain ⟨e1, e2⟩ := rule_at h h0 h1
  unfold pgrow_L0
  by_cases h13 : n = 13
  ·subst h13
   rw [if_neg (by omega)]
   rfl
  have hlt : n < 13 := by omega
  rw [if_pos (by omega)]
  have ih := fun y hy => grow_go h hl h0 h1 ht hd g hg d (n + 1) y (by omega) (by omega) hy
  have hgo : ∀ v, v = g n → pgrow_L0 s p d (sti (n : Int) 0 v (if 0 < n then g 0 else 0)) (sti (n : Int) 1 v (if 1 < n then g 1 else 0)) (sti (n : Int) 2 v (if 2 < n then g 2 else 0)) (sti (n : Int) 3 v (if 3 < n then g 3 else 0)) (sti (n : Int) 4 v (if 4 < n then g 4 else 0)) (sti (n : Int) 5 v (if 5 < n then g 5 else 0)) (sti (n : Int) 6 v (if 6 < n then g 6 else 0)) (sti (n : Int) 7 v (if 7 < n then g 7 else 0)) (sti (n : Int) 8 v (if 8 < n then g 8 else 0)) (sti (n : Int) 9 v (if 9 < n then g 9 else 0)) (sti (n : Int) 10 v (if 10 < n then g 10 else 0)) (sti (n : Int) 11 v (if 11 < n then g 11 else 0)) (sti (n : Int) 12 v (if 12 < n then g 12 else 0)) v ((n : Int) + 1) = some (mkDm g) := fun v hv => by
   simp only [sti_at hv]
   exact ih v (by rw [if_neg (by omega)]; exact hv)
  by_cases hw : (n : Int) = p.t.Week
  ·rw [if_pos hw, gd_pos (by omega), gd_pos (fI (by omega))]
   exact hgo _ (by rw [hg, dmg_at hw.symm])
  rw [if_neg hw]
  have hgn : g n = x - x * (ruleOf s p.crop).getD n 0 / 100 := by
   cases n with
   | zero =>
    rw [hg, hx, if_pos rfl]
    unfold dmgN
    rw [if_neg (fun hh => hw hh.symm)]; simp
   | succ n =>
    rw [hg, hx, if_neg (by omega), show n + 1 - 1 = n by omega, hg]
    show (if _ then _ else _) = _
    rw [if_neg (fun hh => hw hh.symm)]
  have hxr : 0 ≤ x ∧ x ≤ p.t.Damage := by
   rw [hx]
   split
   ·omega
   ·rw [hg]; exact dmg_rng e2.okR hd.1 _
  by_cases hlast : (n : Int) ≤ s.Last
  ·have hr := e2.okR.at n
   have hlen := e2.1
   have hm := Int.mul_nonneg hxr.1 hr.1
   have hm2 := Int.mul_le_mul hxr.2 hr.2 hr.1 hd.1
   have hs := step_rng hxr.1 hr.1 hr.2
   rw [if_pos hlast, e1, Option.bind_some, rule_idx (by omega), Option.bind_some, gd_pos hxr.1, gd_pos hr.1]
   generalize hy : (ruleOf s p.crop).getD n 0 = r at *
   generalize hz : x * r = z at *
   rw [gd_pos (fI (by omega)), gd_pos hm, gd_pos (by omega), gd_pos (fI (by omega)), gd_pos (fI (by omega)), gd_pos (by omega), gd_pos (fI (by omega))]
   exact hgo _ hgn.symm
  ·have hlen := e2.1
   rw [if_neg hlast, gd_pos (by omega), gd_pos (fI (by omega))]
   refine hgo _ ?_
   rw [hgn, List.getD_eq_getElem?_getD, List.getElem?_eq_none (by omega)]
   simp
def dmOf (s : Ssn) (crop : Int) (t : Trh) : Dm := mkDm (dmgN (ruleOf s crop) t.Week t.Damage)
theorem grow_eq {s : Ssn} (h : VS0 s) (hl : s.Last ≤ 12) {p : Plt} (h0 : 0 ≤ p.crop) (h1 : p.crop < s.Rules.length) (ht : 0 ≤ p.t.Week) (hd : 0 ≤ p.t.Damage ∧ p.t.Damage ≤ 100) : pgrow s p = some (dmOf s p.crop p.t) :=
 grow_go h hl h0 h1 ht hd _ (fun _ => rfl) 14 0 0 (by omega) (by omega) rfl
theorem dm_at {s : Ssn} {c : Int} {t : Trh} {w : Int} (hw : 0 ≤ w ∧ w ≤ 12) : idx (dmL (dmOf s c t)) w = some (dmg s c t w) := by
 rw [show w = ((w.toNat : Nat) : Int) by omega, idx_nat]
 exact dmL_get _ (by omega)
def harv (s : Ssn) (crop : Int) (t : Trh) : Int := dmg s crop t s.Last
theorem dm_12 {s : Ssn} (h : VS0 s) (hl : s.Last ≤ 12) {c : Int} (h0 : 0 ≤ c) (h1 : c < s.Rules.length) {t : Trh} (ht : t.Week ≤ s.Last) : dmg s c t 12 = harv s c t := by
 have hv := (rule_at h h0 h1).2.1
 have hla := h.last
 have := dmg_after (r := ruleOf s c) (w := t.Week) (d := t.Damage) (n := s.Last.toNat) (by omega) (by omega) (12 - s.Last.toNat)
 unfold harv dmg
 rw [← this]
 congr 1
 show (12 : Int).toNat = _
 have : (12 : Int).toNat = 12 := rfl
 omega
theorem harvestD_eq {s : Ssn} (h : VS0 s) (hl : s.Last ≤ 12) {c : Int} (h0 : 0 ≤ c) (h1 : c < s.Rules.length) {t : Trh} (ht : t.Week ≤ s.Last) : pharvestD (dmOf s c t) = some (harv s c t) := by
 unfold pharvestD
 have e : idx (dmL (dmOf s c t)) 12 = some (harv s c t) := by rw [dm_at (by omega), dm_12 h hl h0 h1 ht]
 have e' : idx [(dmOf s c t).d0, (dmOf s c t).d1, (dmOf s c t).d2, (dmOf s c t).d3, (dmOf s c t).d4, (dmOf s c t).d5, (dmOf s c t).d6, (dmOf s c t).d7, (dmOf s c t).d8, (dmOf s c t).d9, (dmOf s c t).d10, (dmOf s c t).d11, (dmOf s c t).d12] (12 : Int) = some (harv s c t) := e
 rw [e', Option.bind_some]
def seenN (s : Ssn) (crop : Int) (t : Trh) (w : Int) : Int := min (t.Old + dmg s crop t w) 100
theorem seen_eq {s : Ssn} (h : VS0 s) {c : Int} (h0 : 0 ≤ c) (h1 : c < s.Rules.length) {t : Trh} (hd : 0 ≤ t.Damage ∧ t.Damage ≤ 100) (ho : 0 ≤ t.Old ∧ t.Old ≤ 100) {w : Int} (hw : 0 ≤ w ∧ w ≤ 12) : pseen ⟨t, dmOf s c t⟩ w = some (seenN s c t w) := by
 have hr := dmg_rng' h h0 h1 (t := t) hd.1 w
 unfold pseen
 have e' : idx [(dmOf s c t).d0, (dmOf s c t).d1, (dmOf s c t).d2, (dmOf s c t).d3, (dmOf s c t).d4, (dmOf s c t).d5, (dmOf s c t).d6, (dmOf s c t).d7, (dmOf s c t).d8, (dmOf s c t).d9, (dmOf s c t).d10, (dmOf s c t).d11, (dmOf s c t).d12] w = some (dmg s c t w) := dm_at hw
 dsimp only
 rw [e', Option.bind_some, gd_pos (fI (by omega))]; rfl
end
end Go.Proofs.YtmlaphekbnanjaaGreat

