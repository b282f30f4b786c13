/- An evaluator of the code of a program, its soundness, what calls ask, memory, and what functions of the program do. Condition: none; a lemma text of this claim. -/
import Derived.Test.YtmlaphekbnanjaaGtG

namespace Go.Proofs.Ytmlaphekbnanjaa
open _root_.Go.Proofs.Try
open Go.Abs
set_option maxRecDepth 100000
noncomputable section
theorem w32 {a100 : Int} {a101 : Int} {a102 : Int} {a103 : Int} {a104 : Int} {a105 : Int} {a106 : Int} {a107 : Int} {a108 : Int} {a109 : Int} {a110 : Int} {a111 : Int} {a112 : Int} {a113 : Int} {a114 : Int} {a115 : Int} {a200 : Int} {m : M} {Q : V → M → Prop} (h :
 (∀ m0 : M, (m0 = (M.new m (AO.cells 16 [(Il a100), (Il a101), (Il a102), 
 (Il a103), (Il a104), (Il a105), (Il a106), 
 (Il a107), (Il a108), (Il a109), (Il a110), 
 (Il a111), (Il a112), (Il a113), (Il a114), 
 (Il a115)] false))) → isPt (C.ptr m.nxt 0) ∧ isPt (C.ptr m.nxt 0) ∧ ∃ x1, 
 ((ldC m0 (C.ptr m.nxt 2)) = (some (Il x1))) ∧ isPt (C.ptr m.nxt 0) ∧ isPt (C.ptr m.nxt 3) ∧ 
 ∃ n2 : Nat, (a200 = ((n2 : Nat) : Int)) ∧ (n2 < 13) ∧ ∃ x3, ((ldC m0 (C.ptr m.nxt (3 + (n2 * 1)))) = (some (Il x3))) ∧ 
 fitsP .i64 (x1 + x3) ∧ Q (V.c (Il (Min.min (x1 + x3) (100 : Int)))) m0)) : Wc prog tbl 32 [(V.agg 16 [(Il a100), (Il a101), (Il a102), (Il a103), (Il a104), (Il a105), (Il a106), (Il a107), (Il a108), (Il a109), (Il a110), (Il a111), (Il a112), (Il a113), (Il a114), (Il a115)]), (V.c (Il a200))] m Q :=
 wc_eq (n := 2) rfl (by kernel_rfl) (by kernel_rfl) h
theorem w36 {a100 : Int} {a101 : Int} {a102 : Int} {a103 : Int} {a104 : Int} {a105 : Int} {a106 : Int} {a107 : Int} {a108 : Int} {a109 : Int} {a110 : Int} {a111 : Int} {a112 : Int} {m : M} {Q : V → M → Prop} (h :
 (∀ m0 : M, (m0 = (M.new m (AO.cells 13 [(Il a100), (Il a101), (Il a102), 
 (Il a103), (Il a104), (Il a105), (Il a106), 
 (Il a107), (Il a108), (Il a109), (Il a110), 
 (Il a111), (Il a112)] false))) → isPt (C.ptr m.nxt 0) ∧ ∃ n1 : Nat, 
 ((12 : Int) = ((n1 : Nat) : Int)) ∧ (n1 < 13) ∧ ∃ x2, ((ldC m0 (C.ptr m.nxt (0 + (n1 * 1)))) = (some (Il x2))) ∧ 
 Q (V.c (Il x2)) m0)) : Wc prog tbl 36 [(V.agg 13 [(Il a100), (Il a101), (Il a102), (Il a103), (Il a104), (Il a105), (Il a106), (Il a107), (Il a108), (Il a109), (Il a110), (Il a111), (Il a112)])] m Q :=
 wc_eq (n := 1) rfl (by kernel_rfl) (by kernel_rfl) h
end
end Go.Proofs.Ytmlaphekbnanjaa

namespace Go.Proofs.Ytmlaphekbnanjaa
open _root_.Go.Proofs.Try
open Go.Abs
set_option maxRecDepth 100000
noncomputable section
def Fv_LInt_Bool (f : M) (x : C) (g : List Int → Option (Bool)) : Prop := ∀ (f' m : M) (a0 : List Int) (c0 : C) (r : Bool) (Q : V → M → Prop), Sub f f' → Pre f' m → Sl f' c0 a0 → g a0 = some r → (∀ m', Ext m m' → Q (.c (.bool r)) m') → callP prog tbl [.c c0] x m Q
theorem Fv_LInt_Bool.sub {f m : M} {x : C} {g : List Int → Option (Bool)} (h : Fv_LInt_Bool f x g) (s : Sub f m) : Fv_LInt_Bool m x g := fun f' m' a0 c0 r Q hs => h f' m' a0 c0 r Q (s.trans hs)
end
end Go.Proofs.Ytmlaphekbnanjaa

namespace Go.Proofs.Ytmlaphekbnanjaa
open _root_.Go.Proofs.Try
open Go.Abs
set_option maxRecDepth 100000
noncomputable section
def Fv_Int_Bool (f : M) (x : C) (g : Int → Option (Bool)) : Prop := ∀ (f' m : M) (a0 : Int) (r : Bool) (Q : V → M → Prop), Sub f f' → Pre f' m → g a0 = some r → (∀ m', Ext m m' → Q (.c (.bool r)) m') → callP prog tbl [.c (.int .i64 a0)] x m Q
theorem Fv_Int_Bool.sub {f m : M} {x : C} {g : Int → Option (Bool)} (h : Fv_Int_Bool f x g) (s : Sub f m) : Fv_Int_Bool m x g := fun f' m' a0 r Q hs => h f' m' a0 r Q (s.trans hs)
def Fv_Fld_Bool (f : M) (x : C) (g : Fld → Option (Bool)) : Prop := ∀ (f' m : M) (a0 : Fld) (r : Bool) (Q : V → M → Prop), Sub f f' → Pre f' m → g a0 = some r → (∀ m', Ext m m' → Q (.c (.bool r)) m') → callP prog tbl [.agg 7 [(.int .i64 a0.Crop), (.int .i64 a0.Week.Lo), (.int .i64 a0.Week.Hi), (.int .i64 a0.Damage.Lo), (.int .i64 a0.Damage.Hi), (.int .i64 a0.Old.Lo), (.int .i64 a0.Old.Hi)]] x m Q
theorem Fv_Fld_Bool.sub {f m : M} {x : C} {g : Fld → Option (Bool)} (h : Fv_Fld_Bool f x g) (s : Sub f m) : Fv_Fld_Bool m x g := fun f' m' a0 r Q hs => h f' m' a0 r Q (s.trans hs)
def Fv_Vis_Bool (f : M) (x : C) (g : Vis → Option (Bool)) : Prop := ∀ (f' m : M) (a0 : Vis) (r : Bool) (Q : V → M → Prop), Sub f f' → Pre f' m → g a0 = some r → (∀ m', Ext m m' → Q (.c (.bool r)) m') → callP prog tbl [.agg 4 [(.int .i64 a0.Field), (.int .i64 a0.Week), (.int .i64 a0.Seen.Lo), (.int .i64 a0.Seen.Hi)]] x m Q
theorem Fv_Vis_Bool.sub {f m : M} {x : C} {g : Vis → Option (Bool)} (h : Fv_Vis_Bool f x g) (s : Sub f m) : Fv_Vis_Bool m x g := fun f' m' a0 r Q hs => h f' m' a0 r Q (s.trans hs)
def Fv_Dm_Bool (f : M) (x : C) (g : Dm → Option (Bool)) : Prop := ∀ (f' m : M) (a0 : Dm) (r : Bool) (Q : V → M → Prop), Sub f f' → Pre f' m → g a0 = some r → (∀ m', Ext m m' → Q (.c (.bool r)) m') → callP prog tbl [.agg 13 [(.int .i64 a0.d0), (.int .i64 a0.d1), (.int .i64 a0.d2), (.int .i64 a0.d3), (.int .i64 a0.d4), (.int .i64 a0.d5), (.int .i64 a0.d6), (.int .i64 a0.d7), (.int .i64 a0.d8), (.int .i64 a0.d9), (.int .i64 a0.d10), (.int .i64 a0.d11), (.int .i64 a0.d12)]] x m Q
theorem Fv_Dm_Bool.sub {f m : M} {x : C} {g : Dm → Option (Bool)} (h : Fv_Dm_Bool f x g) (s : Sub f m) : Fv_Dm_Bool m x g := fun f' m' a0 r Q hs => h f' m' a0 r Q (s.trans hs)
def Fv_Crs_Int (f : M) (x : C) (g : Crs → Option (Int)) : Prop := ∀ (f' m : M) (a0 : Crs) (r : Int) (Q : V → M → Prop), Sub f f' → Pre f' m → g a0 = some r → (∀ m', Ext m m' → Q (.c (.int .i64 r)) m') → callP prog tbl [.agg 16 [(.int .i64 a0.t.Week), (.int .i64 a0.t.Damage), (.int .i64 a0.t.Old), (.int .i64 a0.d.d0), (.int .i64 a0.d.d1), (.int .i64 a0.d.d2), (.int .i64 a0.d.d3), (.int .i64 a0.d.d4), (.int .i64 a0.d.d5), (.int .i64 a0.d.d6), (.int .i64 a0.d.d7), (.int .i64 a0.d.d8), (.int .i64 a0.d.d9), (.int .i64 a0.d.d10), (.int .i64 a0.d.d11), (.int .i64 a0.d.d12)]] x m Q
theorem Fv_Crs_Int.sub {f m : M} {x : C} {g : Crs → Option (Int)} (h : Fv_Crs_Int f x g) (s : Sub f m) : Fv_Crs_Int m x g := fun f' m' a0 r Q hs => h f' m' a0 r Q (s.trans hs)
theorem kl3 : KL prog 3 Int := kl_int (k := .i64) (v := id) (by kernel_rfl) (by kernel_rfl) (fun _ => rfl) (fun _ h => h) fun _ _ => Iff.rfl
theorem kl87 : KL prog 87 Dm := kl_agg (n := 13) (ks := [.int .i64, .int .i64, .int .i64, .int .i64, .int .i64, .int .i64, .int .i64, .int .i64, .int .i64, .int .i64, .int .i64, .int .i64, .int .i64]) (by kernel_rfl) (by kernel_rfl) (cs := fun k => [.int .i64 k.d0, .int .i64 k.d1, .int .i64 k.d2, .int .i64 k.d3, .int .i64 k.d4, .int .i64 k.d5, .int .i64 k.d6, .int .i64 k.d7, .int .i64 k.d8, .int .i64 k.d9, .int .i64 k.d10, .int .i64 k.d11, .int .i64 k.d12]) (fun _ => rfl) fun a b fa fb => ⟨_, _, (eqKs_cons (eqK_i fa.1 fb.1) (eqKs_cons (eqK_i fa.2.1 fb.2.1) (eqKs_cons (eqK_i fa.2.2.1 fb.2.2.1) (eqKs_cons (eqK_i fa.2.2.2.1 fb.2.2.2.1) (eqKs_cons (eqK_i fa.2.2.2.2.1 fb.2.2.2.2.1) (eqKs_cons (eqK_i fa.2.2.2.2.2.1 fb.2.2.2.2.2.1) (eqKs_cons (eqK_i fa.2.2.2.2.2.2.1 fb.2.2.2.2.2.2.1) (eqKs_cons (eqK_i fa.2.2.2.2.2.2.2.1 fb.2.2.2.2.2.2.2.1) (eqKs_cons (eqK_i fa.2.2.2.2.2.2.2.2.1 fb.2.2.2.2.2.2.2.2.1) (eqKs_cons (eqK_i fa.2.2.2.2.2.2.2.2.2.1 fb.2.2.2.2.2.2.2.2.2.1) (eqKs_cons (eqK_i fa.2.2.2.2.2.2.2.2.2.2.1 fb.2.2.2.2.2.2.2.2.2.2.1) (eqKs_cons (eqK_i fa.2.2.2.2.2.2.2.2.2.2.2.1 fb.2.2.2.2.2.2.2.2.2.2.2.1) (eqKs_cons (eqK_i fa.2.2.2.2.2.2.2.2.2.2.2.2.1 fb.2.2.2.2.2.2.2.2.2.2.2.2.1) eqKs_nil))))))))))))), ⟨fun h => by obtain ⟨ad0, ad1, ad2, ad3, ad4, ad5, ad6, ad7, ad8, ad9, ad10, ad11, ad12⟩ := a; obtain ⟨bd0, bd1, bd2, bd3, bd4, bd5, bd6, bd7, bd8, bd9, bd10, bd11, bd12⟩ := b; simp_all, fun h => by subst h; exact ⟨rfl, rfl, rfl, rfl, rfl, rfl, rfl, rfl, rfl, rfl, rfl, rfl, rfl, trivial⟩⟩⟩
theorem kl138 : KL prog 138 Plt := kl_agg (n := 4) (ks := [.int .i64, .int .i64, .int .i64, .int .i64]) (by kernel_rfl) (by kernel_rfl) (cs := fun k => [.int .i64 k.t.Week, .int .i64 k.t.Damage, .int .i64 k.t.Old, .int .i64 k.crop]) (fun _ => rfl) fun a b fa fb => ⟨_, _, (eqKs_cons (eqK_i fa.1 fb.1) (eqKs_cons (eqK_i fa.2.1 fb.2.1) (eqKs_cons (eqK_i fa.2.2.1 fb.2.2.1) (eqKs_cons (eqK_i fa.2.2.2.1 fb.2.2.2.1) eqKs_nil)))), ⟨fun h => by obtain ⟨⟨atWeek, atDamage, atOld⟩, acrop⟩ := a; obtain ⟨⟨btWeek, btDamage, btOld⟩, bcrop⟩ := b; simp_all, fun h => by subst h; exact ⟨rfl, rfl, rfl, rfl, trivial⟩⟩⟩
theorem ta27 : TA prog 27 1 := ⟨39, by kernel_rfl, by kernel_rfl, by kernel_rfl⟩
theorem ta28 : TA prog 28 7 := ⟨53, by kernel_rfl, by kernel_rfl, by kernel_rfl⟩
theorem ta29 : TA prog 29 4 := ⟨46, by kernel_rfl, by kernel_rfl, by kernel_rfl⟩
theorem ta39 : TA prog 39 1 := ⟨3, by kernel_rfl, by kernel_rfl, by kernel_rfl⟩
theorem ta57 : TA prog 57 4 := ⟨62, by kernel_rfl, by kernel_rfl, by kernel_rfl⟩
theorem ta94 : TA prog 94 13 := ⟨87, by kernel_rfl, by kernel_rfl, by kernel_rfl⟩
theorem ta99 : TA prog 99 16 := ⟨89, by kernel_rfl, by kernel_rfl, by kernel_rfl⟩
theorem s_awake {m f : M} {Q : V → M → Prop} {rz : Bool} (_hS : Pre f m) (hp : pawake = some rz) (hq : ∀ m', Ext m m' → Q (.c (.bool rz)) m') : Wc prog tbl 21 [] m Q := by
 obtain rfl := Option.some.inj hp
 exact call_known (show findT tbl 21 = some true from rfl) (hq _ (.refl m))
theorem s_rIn {n : Int} {low : Int} {high : Int} {m f : M} {Q : V → M → Prop} {rz : Bool} (hS : Pre f m)  (hp : prIn n low high = some rz) (hq : ∀ m', Ext m m' → Q (.c (.bool rz)) m') : Wc prog tbl 25 [.c (Il n), .c (Il low), .c (Il high)] m Q := by
 have a := hS.st
 obtain ⟨d, _⟩ : ∃ τ : Nat → Nat, True := ⟨fun _ => 0, trivial⟩
 refine w25 ?_
 unfold prIn at hp
 refine ifd hp (fun b hp => ?_) fun b hp => ?_
 ·obtain rfl := Option.some.inj hp
  exact hq _ a.ext'
 obtain rfl := Option.some.inj hp
 exact hq _ a.ext'
theorem s_rWithin {r : Rg} {low : Int} {high : Int} {m f : M} {Q : V → M → Prop} {rz : Bool} (hS : Pre f m)  (hp : prWithin r low high = some rz) (hq : ∀ m', Ext m m' → Q (.c (.bool rz)) m') : Wc prog tbl 96 [.agg 2 [(Il r.Lo), (Il r.Hi)], .c (Il low), .c (Il high)] m Q := by
 have b := hS.st
 obtain ⟨d, _⟩ : ∃ τ : Nat → Nat, True := ⟨fun _ => 0, trivial⟩
 refine w96 ?_
 unfold prWithin at hp
 intro i e
 obtain ⟨j, S3, l, a⟩ := b.blk e d 1
 refine ⟨trivial, _, a.bk.rc rfl, ?_⟩
 refine ifd hp (fun g hp => ?_) fun g hp => ?_; rotate_left
 ·obtain rfl := Option.some.inj hp
  exact hq _ S3.ext'
 refine ⟨trivial, _, a.bk.rc rfl, trivial, _, a.bk.rc rfl, ?_⟩
 refine ifd hp (fun h hp => ?_) fun h hp => ?_; rotate_left
 ·obtain rfl := Option.some.inj hp
  exact hq _ S3.ext'
 refine ⟨trivial, _, a.bk.rc rfl, ?_⟩
 obtain rfl := Option.some.inj hp
 exact hq _ S3.ext'
theorem s_rCount {r : Rg} {m f : M} {Q : V → M → Prop} {rz : Int} (hS : Pre f m)  (hp : prCount r = some rz) (hq : ∀ m', Ext m m' → Q (.c (Il rz)) m') : Wc prog tbl 109 [.agg 2 [(Il r.Lo), (Il r.Hi)]] m Q := by
 have g := hS.st
 obtain ⟨h, _⟩ : ∃ τ : Nat → Nat, True := ⟨fun _ => 0, trivial⟩
 refine w109 ?_
 unfold prCount at hp
 intro n i
 obtain ⟨j, b, l, a⟩ := g.blk i h 1
 refine ⟨trivial, _, a.bk.rc rfl, trivial, _, a.bk.rc rfl, ?_⟩
 refine gdi hp fun d hp => ?_
 refine gdi hp fun e hp => ?_
 obtain rfl := Option.some.inj hp
 exact hq _ b.ext'
theorem s_rIsRule {s : Ssn} {l : List Int} {ca101 ca102 ca103 ca200 : C} {m f : M} {Q : V → M → Prop} {rz : Bool} (hS : Pre f m) (_ha101 : Sl f ca101 s.Rules) (_ha102 : Sl f ca102 s.Fields) (_ha103 : Sl f ca103 s.Visits) (ha200 : Sl f ca200 l) (hp : prIsRule s l = some rz) (hq : ∀ m', Ext m m' → Q (.c (.bool rz)) m') : Wc prog tbl 95 [.agg 4 [(Il s.Last), ca101, ca102, ca103], .c ca200] m Q := by
 have O := hS.st
 obtain ⟨P, _⟩ : ∃ τ : Nat → Nat, True := ⟨fun _ => 0, trivial⟩
 refine w95 ?_
 unfold prIsRule at hp
 intro m0 t
 obtain ⟨u, x, Y, a⟩ := O.blk t P 1
 intro S y
 have hgo : ∀ (e : Nat) (p : Bool) (j : Int) (g : M) (b : Nat → Nat), St (Fm.of m) f f g → Lb (Fm.of m) f b g 1 m.nxt 4 [(Il s.Last), ca101, ca102, ca103] → prIsRule_L0 s l e j = some rz → S [.c (.bool p), .c (Il j)] g := by
  intro e
  induction e with
  | zero => intro p j g b d a hp; cases hp
  | succ e q =>
   intro p j g b d a hp
   refine y _ _ _ ?_
   rw [prIsRule_L0] at hp
   refine ⟨ha200.isSl, ?_⟩
   try rw [ha200.slLen]
   refine ifd hp (fun z hp => ?_) fun z hp => ?_; rotate_left
   ·refine ⟨ha200.isSl, trivial, _, a.bk.rc rfl, ?_⟩
    refine gdi hp fun A hp => ?_
    try rw [ha200.slLen]
    obtain rfl := Option.some.inj hp
    exact hq _ d.ext'
   obtain ⟨B, h, hp⟩ := bsome hp
   obtain ⟨T, r, i, h⟩ := idx_some h
   refine ⟨T, r, (by first | exact i | (rw [ha200.slLen]; exact i)), _, (ha200.rdI h d.sub), ?_⟩
   obtain ⟨Z, D, hp⟩ := bsome hp
   refine s_rIn (n := B) (low := (0 : Int)) (high := (100 : Int)) d.pre  D fun m8 F => ?_
   obtain ⟨o, G⟩ := d.call F b
   have I := a.k G
   refine ⟨_, rfl, ?_⟩
   refine ifnb hp (fun J hp => ?_) fun J hp => ?_
   ·obtain rfl := Option.some.inj hp
    exact hq _ o.ext'
   refine gdi hp fun N hp => ?_
   exact q _ _ _ b o I hp
 exact hgo _ _ _ _ u x a hp
theorem s_rMany {fl : Fld} {m f : M} {Q : V → M → Prop} {rz : Int} (hS : Pre f m)  (hp : prMany fl = some rz) (hq : ∀ m', Ext m m' → Q (.c (Il rz)) m') : Wc prog tbl 94 [.agg 7 [(Il fl.Crop), (Il fl.Week.Lo), (Il fl.Week.Hi), (Il fl.Damage.Lo), (Il fl.Damage.Hi), (Il fl.Old.Lo), (Il fl.Old.Hi)]] m Q := by
 have I := hS.st
 obtain ⟨J, _⟩ : ∃ τ : Nat → Nat, True := ⟨fun _ => 0, trivial⟩
 refine w94 ?_
 unfold prMany at hp
 intro Z i
 obtain ⟨b, e, N, a⟩ := I.blk i J 1
 refine ⟨trivial, _, _, a.bk.rp (k := 1) (j := 2) rfl (by omega), ?_⟩
 obtain ⟨O, l, hp⟩ := bsome hp
 refine s_rCount (r := fl.Week) e.pre  l fun m4 n => ?_
 obtain ⟨g, o⟩ := e.call n b
 have d := a.k o
 refine ⟨_, rfl, trivial, _, _, d.bk.rp (k := 3) (j := 2) rfl (by omega), (a.bk.rp (k := 3) (j := 2) rfl (by omega)), ?_⟩
 obtain ⟨P, p, hp⟩ := bsome hp
 refine s_rCount (r := fl.Damage) g.pre  p fun m9 q => ?_
 obtain ⟨h, s⟩ := g.call q b
 have t := d.k s
 refine ⟨_, rfl, ?_⟩
 refine gdi hp fun u hp => ?_
 refine gdi hp fun x hp => ?_
 obtain ⟨y, hp⟩ := gd_some hp
 refine ⟨y, trivial, _, _, t.bk.rp (k := 5) (j := 2) rfl (by omega), (d.bk.rp (k := 5) (j := 2) rfl (by omega)), (a.bk.rp (k := 5) (j := 2) rfl (by omega)), ?_⟩
 obtain ⟨S, z, hp⟩ := bsome hp
 refine s_rCount (r := fl.Old) h.pre  z fun T A => ?_
 obtain ⟨B, Y⟩ := h.call A b
 refine ⟨_, rfl, ?_⟩
 refine gdi hp fun D hp => ?_
 refine gdi hp fun F hp => ?_
 refine gdi hp fun G hp => ?_
 obtain rfl := Option.some.inj hp
 exact hq _ B.ext'
theorem s_rFault {s : Ssn} {ca101 ca102 ca103 : C} {m f : M} {Q : V → M → Prop} {rz : Int} (hS : Pre f m) (ha101 : Sl f ca101 s.Rules) (ha102 : Sl f ca102 s.Fields) (ha103 : Sl f ca103 s.Visits) (hp : prFault s = some rz) (hq : ∀ m', Ext m m' → Q (.c (Il rz)) m') : Wc prog tbl 60 [.agg 4 [(Il s.Last), ca101, ca102, ca103]] m Q := by
 have S0 := hS.st
 obtain ⟨τ0, _⟩ : ∃ τ : Nat → Nat, True := ⟨fun _ => 0, trivial⟩
 refine w60 ?_
 unfold prFault at hp
 intro m0 gc
 obtain ⟨hc, e, Zc, a⟩ := S0.blk gc τ0 1
 refine ⟨trivial, _, a.bk.rc rfl, ?_⟩
 refine ifd hp (fun ic hp => ?_) fun ic hp => ?_
 ·obtain rfl := Option.some.inj hp
  exact hq _ e.ext'
 refine ⟨trivial, _, a.bk.rc rfl, ha101.isSl, ?_⟩
 try rw [ha101.slLen]
 refine ifd hp (fun jc hp => ?_) fun jc hp => ?_
 ·obtain rfl := Option.some.inj hp
  exact hq _ e.ext'
 refine ⟨trivial, _, a.bk.rc rfl, ha102.isSl, ?_⟩
 try rw [ha102.slLen]
 refine ifd hp (fun kc hp => ?_) fun kc hp => ?_
 ·obtain rfl := Option.some.inj hp
  exact hq _ e.ext'
 refine ⟨trivial, _, a.bk.rc rfl, ha103.isSl, ?_⟩
 try rw [ha103.slLen]
 refine ifd hp (fun lc hp => ?_) fun lc hp => ?_
 ·obtain rfl := Option.some.inj hp
  exact hq _ e.ext'
 refine ⟨trivial, _, a.bk.rc rfl, ?_⟩
 refine ifd hp (fun nc hp => ?_) fun nc hp => ?_
 ·obtain rfl := Option.some.inj hp
  exact hq _ e.ext'
 refine ⟨trivial, _, a.bk.rc rfl, ha101.isSl, ?_⟩
 try rw [ha101.slLen]
 refine ifd hp (fun oc hp => ?_) fun oc hp => ?_
 ·obtain rfl := Option.some.inj hp
  exact hq _ e.ext'
 refine ⟨trivial, _, a.bk.rc rfl, ha102.isSl, ?_⟩
 try rw [ha102.slLen]
 refine ifd hp (fun pc hp => ?_) fun pc hp => ?_
 ·obtain rfl := Option.some.inj hp
  exact hq _ e.ext'
 intro R8 qc
 have hgo : ∀ (T : Nat) (x9 : Int) (Y : Int) (y : M) (p : Nat → Nat), St (Fm.of m) f f y → Lb (Fm.of m) f p y 1 m.nxt 4 [(Il s.Last), ca101, ca102, ca103] → prFault_L0 s T x9 Y = some rz → R8 [.c (Il x9), .c (Il Y)] y := by
  intro T
  induction T with
  | zero => intro x9 Y y p z a hp; cases hp
  | succ T Qa =>
   intro x9 Y y p z a hp
   refine qc _ _ _ ?_
   rw [prFault_L0] at hp
   refine ⟨trivial, _, a.bk.rc rfl, ha101.isSl, ?_⟩
   try rw [ha101.slLen]
   refine ifd hp (fun sc hp => ?_) fun sc hp => ?_
   ·refine ⟨_, _, _, _, a.bk.ra, trivial, _, a.bk.rc rfl, ?_⟩
    obtain ⟨tc, ia, hp⟩ := bsome hp
    obtain ⟨uc, Ra, ja, ia⟩ := idx_some ia
    obtain ⟨ad, vc, wc⟩ := ha101.rdS ia
    refine ⟨uc, Ra, (by first | exact ja | (rw [ha101.slLen]; exact ja)), _, (vc _ z.sub), ?_⟩
    obtain ⟨bd, xc, hp⟩ := bsome hp
    refine s_rIsRule (s := s) (l := tc) z.pre ha101 ha102 ha103 wc xc fun cd yc => ?_
    obtain ⟨Pa, zc⟩ := z.call yc p
    have Ac := a.k zc
    refine ⟨_, rfl, ?_⟩
    refine ifnb hp (fun Bc hp => ?_) fun Bc hp => ?_
    ·obtain rfl := Option.some.inj hp
     exact hq _ Pa.ext'
    refine gdi hp fun Cc hp => ?_
    exact Qa _ _ _ p Pa Ac hp
   intro Dc Sa
   have hgo : ∀ (Z : Nat) (aa : Int) (ba : Int) (A : M) (B : Nat → Nat), St (Fm.of m) f f A → Lb (Fm.of m) f B A 1 m.nxt 4 [(Il s.Last), ca101, ca102, ca103] → prFault_L1 s Z aa ba = some rz → Dc [.c (Il aa), .c (Il ba)] A := by
    intro Z
    induction Z with
    | zero => intro aa ba A B ca a hp; cases hp
    | succ Z Ka =>
     intro aa ba A B ca a hp
     refine Sa _ _ _ ?_
     rw [prFault_L1] at hp
     refine ⟨trivial, _, a.bk.rc rfl, ha102.isSl, ?_⟩
     try rw [ha102.slLen]
     refine ifd hp (fun Ec hp => ?_) fun Ec hp => ?_
     ·refine ⟨trivial, _, a.bk.rc rfl, ?_⟩
      obtain ⟨b, ka, hp⟩ := bsome hp
      obtain ⟨Fc, Ta, la, ka⟩ := idx_some ka
      obtain ⟨_, Ua⟩ := rd_Fld ha102 ka
      refine ⟨Fc, Ta, (by first | exact la | (rw [ha102.slLen]; exact la)), _, _, _, _, _, _, _, (Ua _ ca.sub).1, ?_⟩
      intro dd Va
      obtain ⟨g, Wa, Xa, Ya⟩ := ca.blk Va B 2
      have Za := a.k Xa
      obtain ⟨ab, bb, ma, cb, na⟩ := Ya.sto Wa [(Il b.Crop), (Il b.Week.Lo), (Il b.Week.Hi), (Il b.Damage.Lo), (Il b.Damage.Hi), (Il b.Old.Lo), (Il b.Old.Hi)]
      have oa := Za.k cb
      refine ⟨ab, bb, ?_⟩
      refine ⟨trivial, _, na.bk.rc rfl, trivial, _, oa.bk.rc rfl, ha101.isSl, ?_⟩
      obtain ⟨pa, hp⟩ := gd_some hp
      refine ⟨(by first | exact pa | (rw [ha101.slLen]; exact pa)), ?_⟩
      try rw [ha101.slLen]
      obtain ⟨Oc, db, hp⟩ := bsome hp
      refine s_rIn (n := b.Crop) (low := (0 : Int)) (high := ((s.Rules.length : Int) - (1 : Int))) ma.pre  db fun ed eb => ?_
      obtain ⟨G, qa⟩ := ma.call eb g
      have sa := oa.k qa
      have ta := na.k qa
      refine ⟨_, rfl, ?_⟩
      refine ifnb hp (fun fb hp => ?_) fun fb hp => ?_
      ·obtain rfl := Option.some.inj hp
       exact hq _ G.ext'
      refine ⟨trivial, _, _, ta.bk.rp (k := 1) (j := 2) rfl (by omega), trivial, _, sa.bk.rc rfl, ?_⟩
      obtain ⟨Pc, gb, hp⟩ := bsome hp
      refine s_rWithin (r := b.Week) (low := (0 : Int)) (high := s.Last) G.pre  gb fun fd hb => ?_
      obtain ⟨I, ua⟩ := G.call hb g
      have ib := sa.k ua
      have va := ta.k ua
      refine ⟨_, rfl, ?_⟩
      refine ifnb hp (fun jb hp => ?_) fun jb hp => ?_
      ·obtain rfl := Option.some.inj hp
       exact hq _ I.ext'
      refine ⟨trivial, _, _, va.bk.rp (k := 3) (j := 2) rfl (by omega), ?_⟩
      obtain ⟨Qc, kb, hp⟩ := bsome hp
      refine s_rWithin (r := b.Damage) (low := (0 : Int)) (high := (100 : Int)) I.pre  kb fun hd mb => ?_
      obtain ⟨J, wa⟩ := I.call mb g
      have nb := ib.k wa
      have ob := va.k wa
      refine ⟨_, rfl, ?_⟩
      refine ifnb hp (fun pb hp => ?_) fun pb hp => ?_
      ·obtain rfl := Option.some.inj hp
       exact hq _ J.ext'
      refine ⟨trivial, _, _, ob.bk.rp (k := 5) (j := 2) rfl (by omega), ?_⟩
      obtain ⟨Rc, qb, hp⟩ := bsome hp
      refine s_rWithin (r := b.Old) (low := (0 : Int)) (high := (100 : Int)) J.pre  qb fun id rb => ?_
      obtain ⟨xa, sb⟩ := J.call rb g
      have tb := nb.k sb
      refine ⟨_, rfl, ?_⟩
      refine ifnb hp (fun ub hp => ?_) fun ub hp => ?_
      ·obtain rfl := Option.some.inj hp
       exact hq _ xa.ext'
      refine gdi hp fun vb hp => ?_
      exact Ka _ _ _ g xa tb hp
     intro Gc wb
     have hgo : ∀ (q : Nat) (da : Int) (ea : Int) (D : M) (h : Nat → Nat), St (Fm.of m) f f D → Lb (Fm.of m) f h D 1 m.nxt 4 [(Il s.Last), ca101, ca102, ca103] → prFault_L2 s q da ea = some rz → Gc [.c (Il da), .c (Il ea)] D := by
      intro q
      induction q with
      | zero => intro da ea D h t a hp; cases hp
      | succ q La =>
       intro da ea D h t a hp
       refine wb _ _ _ ?_
       rw [prFault_L2] at hp
       refine ⟨trivial, _, a.bk.rc rfl, ha103.isSl, ?_⟩
       try rw [ha103.slLen]
       refine ifd hp (fun xb hp => ?_) fun xb hp => ?_; rotate_left
       ·intro Hc yb
        have hgo : ∀ (u : Nat) (ya : Int) (fa : Int) (F : M) (i : Nat → Nat), St (Fm.of m) f f F → Lb (Fm.of m) f i F 1 m.nxt 4 [(Il s.Last), ca101, ca102, ca103] → prFault_L3 s u fa = some rz → Hc [.c (Il ya), .c (Il fa)] F := by
         intro u
         induction u with
         | zero => intro ya fa F i o a hp; cases hp
         | succ u Ma =>
          intro ya fa F i o a hp
          refine yb _ _ _ ?_
          rw [prFault_L3] at hp
          refine ⟨trivial, _, a.bk.rc rfl, ha102.isSl, ?_⟩
          try rw [ha102.slLen]
          refine ifd hp (fun zb hp => ?_) fun zb hp => ?_; rotate_left
          ·obtain rfl := Option.some.inj hp
           exact hq _ o.ext'
          refine ⟨trivial, _, a.bk.rc rfl, ?_⟩
          obtain ⟨Ab, N, hp⟩ := bsome hp
          obtain ⟨Ic, Na, ga, N⟩ := idx_some N
          obtain ⟨_, Bb⟩ := rd_Fld ha102 N
          refine ⟨Ic, Na, (by first | exact ga | (rw [ha102.slLen]; exact ga)), _, _, _, _, _, _, _, (Bb _ o.sub).1, ?_⟩
          obtain ⟨Tc, Cb, hp⟩ := bsome hp
          refine s_rMany (fl := Ab) o.pre  Cb fun Uc Db => ?_
          obtain ⟨za, Eb⟩ := o.call Db i
          have Fb := a.k Eb
          refine ⟨_, rfl, ?_⟩
          refine ifd hp (fun Gb hp => ?_) fun Gb hp => ?_
          ·obtain rfl := Option.some.inj hp
           exact hq _ za.ext'
          refine gdi hp fun Hb hp => ?_
          exact Ma _ _ _ i za Fb hp
        exact hgo _ _ _ _ h t a hp
       refine ⟨trivial, _, a.bk.rc rfl, ?_⟩
       obtain ⟨d, O, hp⟩ := bsome hp
       obtain ⟨Jc, Oa, ha, O⟩ := idx_some O
       obtain ⟨_, Ib⟩ := rd_Vis ha103 O
       refine ⟨Jc, Oa, (by first | exact ha | (rw [ha103.slLen]; exact ha)), _, _, _, _, (Ib _ t.sub).1, ?_⟩
       intro jd Jb
       obtain ⟨x, Kb, Mb, Nb⟩ := t.blk Jb h 3
       have Ob := a.k Mb
       obtain ⟨Pb, Qb, Aa, Rb, Ba⟩ := Nb.sto Kb [(Il d.Field), (Il d.Week), (Il d.Seen.Lo), (Il d.Seen.Hi)]
       have Ca := Ob.k Rb
       refine ⟨Pb, Qb, ?_⟩
       refine ⟨trivial, _, Ba.bk.rc rfl, trivial, _, Ca.bk.rc rfl, ha102.isSl, ?_⟩
       obtain ⟨Da, hp⟩ := gd_some hp
       refine ⟨(by first | exact Da | (rw [ha102.slLen]; exact Da)), ?_⟩
       try rw [ha102.slLen]
       obtain ⟨Vc, Sb, hp⟩ := bsome hp
       refine s_rIn (n := d.Field) (low := (0 : Int)) (high := ((s.Fields.length : Int) - (1 : Int))) Aa.pre  Sb fun kd Tb => ?_
       obtain ⟨P, Ea⟩ := Aa.call Tb x
       have Fa := Ca.k Ea
       have Ga := Ba.k Ea
       refine ⟨_, rfl, ?_⟩
       refine ifnb hp (fun Ub hp => ?_) fun Ub hp => ?_
       ·obtain rfl := Option.some.inj hp
        exact hq _ P.ext'
       refine ⟨trivial, _, Ga.bk.rc rfl, trivial, _, Fa.bk.rc rfl, ?_⟩
       obtain ⟨Xc, Vb, hp⟩ := bsome hp
       refine s_rIn (n := d.Week) (low := (0 : Int)) (high := s.Last) P.pre  Vb fun ld Wb => ?_
       obtain ⟨S, Ha⟩ := P.call Wb x
       have Xb := Fa.k Ha
       have Yb := Ga.k Ha
       refine ⟨_, rfl, ?_⟩
       refine ifnb hp (fun Zb hp => ?_) fun Zb hp => ?_
       ·obtain rfl := Option.some.inj hp
        exact hq _ S.ext'
       refine ⟨trivial, _, _, Yb.bk.rp (k := 2) (j := 2) rfl (by omega), ?_⟩
       obtain ⟨Yc, ac, hp⟩ := bsome hp
       refine s_rWithin (r := d.Seen) (low := (0 : Int)) (high := (100 : Int)) S.pre  ac fun md bc => ?_
       obtain ⟨Ia, cc⟩ := S.call bc x
       have dc := Xb.k cc
       refine ⟨_, rfl, ?_⟩
       refine ifnb hp (fun ec hp => ?_) fun ec hp => ?_
       ·obtain rfl := Option.some.inj hp
        exact hq _ Ia.ext'
       refine gdi hp fun fc hp => ?_
       exact La _ _ _ x Ia dc hp
     exact hgo _ _ _ _ B ca a hp
   exact hgo _ _ _ _ p z a hp
 exact hgo _ _ _ _ hc e a hp
theorem s_lList {l : List Int} {ca100 : C} {m f : M} {Q : V → M → Prop} {rz : List Int} (hS : Pre f m) (ha100 : Sl f ca100 l) (hp : plList l = some rz) (hq : ∀ m' f' c0, Grw m f m' f' → Sl f' c0 rz → Q (.c c0) m') : Wc prog tbl 61 [.c ca100] m Q := by
 have o := hS.st
 obtain ⟨p, _⟩ : ∃ τ : Nat → Nat, True := ⟨fun _ => 0, trivial⟩
 refine w61 ?_
 unfold plList at hp
 obtain ⟨b, hp⟩ := gd_some hp
 obtain ⟨a, d, q, e, g, r, h⟩ := (Ow.nil (α := Int) (Fm.of m) f p m 1).appL ta39 o ha100 b
 refine ⟨a, d, e, ?_⟩
 obtain ⟨i, j, s, n⟩ := h.freeze g
 obtain rfl := Option.some.inj hp
 exact hq _ i a j.grw n
theorem s_lTo {r : Rg} {m f : M} {Q : V → M → Prop} {rz : Rg} (hS : Pre f m)  (hp : plTo r = some rz) (hq : ∀ m', Ext m m' → Q (.agg 2 [(Il rz.Lo), (Il rz.Hi)]) m') : Wc prog tbl 62 [.agg 2 [(Il r.Lo), (Il r.Hi)]] m Q := by
 have q := hS.st
 obtain ⟨s, _⟩ : ∃ τ : Nat → Nat, True := ⟨fun _ => 0, trivial⟩
 refine w62 ?_
 unfold plTo at hp
 intro y b
 obtain ⟨c, d, t, e⟩ := q.blk b s 1
 intro z g
 obtain ⟨u, h, i, j⟩ := d.blk g c 2
 have a := e.k i
 refine ⟨trivial, _, a.bk.rc rfl, trivial, _, a.bk.rc rfl, ?_⟩
 obtain ⟨l, n, o, x, p⟩ := j.sto h [(Il r.Lo), (Il r.Hi)]
 refine ⟨l, n, ?_⟩
 refine ⟨_, _, p.bk.ra, ?_⟩
 obtain rfl := Option.some.inj hp
 exact hq _ o.ext'
theorem s_lSeason {s : Ssn} {ca101 ca102 ca103 : C} {m f : M} {Q : V → M → Prop} {rz : Ssn} (hS : Pre f m) (ha101 : Sl f ca101 s.Rules) (ha102 : Sl f ca102 s.Fields) (ha103 : Sl f ca103 s.Visits) (hp : plSeason s = some rz) (hq : ∀ m' f' c1 c2 c3, Grw m f m' f' → Sl f' c1 rz.Rules → Sl f' c2 rz.Fields → Sl f' c3 rz.Visits → Q (.agg 4 [(Il rz.Last), c1, c2, c3]) m') : Wc prog tbl 23 [.agg 4 [(Il s.Last), ca101, ca102, ca103]] m Q := by
 have S0 := hS.st
 obtain ⟨τ0, _⟩ : ∃ τ : Nat → Nat, True := ⟨fun _ => 0, trivial⟩
 refine w23 ?_
 unfold plSeason at hp
 intro m0 Hb
 obtain ⟨Ib, Jb, ze, Kb⟩ := S0.blk Hb τ0 1
 intro m1 Nb
 obtain ⟨Ob, Pb, Qb, Rb⟩ := Jb.blk Nb Ib 2
 have bb := Kb.k Qb
 refine ⟨trivial, _, bb.bk.rc rfl, ?_⟩
 intro m3 Sb
 obtain ⟨Tb, Ub, cb, Vb⟩ := Pb.blk Sb Ob 3
 have Wb := bb.k cb
 have Xb := Rb.k cb
 obtain ⟨Yb, Zb, ac, db, n⟩ := Vb.sto Ub [(Il s.Last), .sl0, .sl0, .sl0]
 have g := Wb.k db
 have o := Xb.k db
 refine ⟨Yb, Zb, ?_⟩
 intro R5 re
 have hgo : ∀ (ta : Nat) (x6 : Int) (p : C) (ea : C) (fa : C) (ga : Int) (D : List (List Int)) (ua : List Fld) (va : List Vis) (m7 : M) (e : M) (t : Nat → Nat), St (Fm.of m) f e m7 → Sub f e → Lb (Fm.of m) e t m7 1 m.nxt 4 [(Il s.Last), ca101, ca102, ca103] → Lb (Fm.of m) e t m7 2 m0.nxt 4 [(Il 0), .sl0, .sl0, .sl0] → Lb (Fm.of m) e t m7 3 m1.nxt 4 [(Il ga), p, ea, fa] → Ow (Fm.of m) e t m7 4 p D → Ow (Fm.of m) e t m7 5 ea ua → Ow (Fm.of m) e t m7 6 fa va → plSeason_L0 s ta ga D ua va x6 = some rz → R5 [.c (Il x6)] m7 := by
  intro ta
  induction ta with
  | zero => intro x6 p ea fa ga D ua va m7 e t ha F g o n b x y hp; cases hp
  | succ ta bc =>
   intro x6 p ea fa ga D ua va m7 e t ha F g o n b x y hp
   refine re _ _ ?_
   rw [plSeason_L0] at hp
   refine ⟨trivial, _, g.bk.rc rfl, ha101.isSl, ?_⟩
   try rw [ha101.slLen]
   refine ifd hp (fun cc hp => ?_) fun cc hp => ?_
   ·refine ⟨trivial, _, n.bk.rc rfl, trivial, _, g.bk.rc rfl, ?_⟩
    obtain ⟨dc, Ea, hp⟩ := bsome hp
    obtain ⟨se, Bb, Wa, Ea⟩ := idx_some Ea
    obtain ⟨Be, ec, fc⟩ := ha101.rdS Ea
    refine ⟨se, Bb, (by first | exact Wa | (rw [ha101.slLen]; exact Wa)), _, (ec _ (Sub.trans F ha.sub)), ?_⟩
    obtain ⟨eb, gc, hp⟩ := bsome hp
    refine s_lList (l := dc) ha.pre (fc.sub F) gc fun Fe fb Ce hc ic => ?_
    obtain ⟨jc, J⟩ := ha.callG hc t
    have kc := g.k J
    have lc := o.k J
    have Fa := n.k J
    have b := b.k J
    have x := x.k J
    have y := y.k J
    refine ⟨_, rfl, (by rw [show cmC _ = true from cmC_of (b.noFn)]; exact (Fa.bk.rc rfl)), ?_⟩
    obtain ⟨nc, hp⟩ := gd_some hp
    intro Ge gb
    refine ⟨(by rw [show cmC _ = true from cmC_of (b.noFn)]; exact (Fa.bk.ext (Bk.new gb).2).rc rfl), ?_⟩
    obtain ⟨Ga, oc, pc, qc, sc, ia, Ha⟩ := b.app' ta27 jc (a := eb) (show Rp.rep (α := List Int) fb _ eb from ⟨_, rfl, ic⟩) nc gb
    have tc := kc.k ia
    have uc := lc.k ia
    have vc := Fa.k ia
    have x := x.k ia
    have y := y.k ia
    refine ⟨Ga, oc, qc, ?_⟩
    refine ⟨trivial, ?_⟩
    obtain ⟨wc, xc, yc, ja, Ia⟩ := vc.sto1 sc 1 Ga (by simp) rfl
    replace Ia : Lb _ _ _ _ _ _ _ [(Il ga), Ga, ea, fa] := Ia
    have zc := tc.k ja
    have Ac := uc.k ja
    have x := x.k ja
    have y := y.k ja
    have Ha := Ha.k ja
    refine ⟨wc, xc, ?_⟩
    refine gdi hp fun Bc hp => ?_
    exact bc _ _ _ _ _ _ _ _ _ fb pc yc (Sub.trans F J.fs) zc Ac Ia Ha x y hp
   intro te Cc
   have hgo : ∀ (wa : Nat) (Xa : Int) (z : C) (ka : C) (la : Int) (T : List Fld) (xa : List Vis) (G : M) (u : Nat → Nat), St (Fm.of m) f e G → Lb (Fm.of m) e u G 1 m.nxt 4 [(Il s.Last), ca101, ca102, ca103] → Lb (Fm.of m) e u G 2 m0.nxt 4 [(Il 0), .sl0, .sl0, .sl0] → Lb (Fm.of m) e u G 3 m1.nxt 4 [(Il la), p, z, ka] → Ow (Fm.of m) e u G 5 z T → Ow (Fm.of m) e u G 6 ka xa → Ow (Fm.of m) e u G 4 p D → plSeason_L1 s D wa la T xa Xa = some rz → te [.c (Il Xa)] G := by
    intro wa
    induction wa with
    | zero => intro Xa z ka la T xa G u ya g o n d h b hp; cases hp
    | succ wa Cb =>
     intro Xa z ka la T xa G u ya g o n d h b hp
     refine Cc _ _ ?_
     rw [plSeason_L1] at hp
     refine ⟨trivial, _, g.bk.rc rfl, ha102.isSl, ?_⟩
     try rw [ha102.slLen]
     refine ifd hp (fun Dc hp => ?_) fun Dc hp => ?_
     ·refine ⟨trivial, _, g.bk.rc rfl, ?_⟩
      obtain ⟨q, Ja, hp⟩ := bsome hp
      obtain ⟨ue, Db, Ya, Ja⟩ := idx_some Ja
      obtain ⟨_, Ec⟩ := rd_Fld ha102 Ja
      refine ⟨ue, Db, (by first | exact Ya | (rw [ha102.slLen]; exact Ya)), _, _, _, _, _, _, _, (Ec _ (Sub.trans F ya.sub)).1, ?_⟩
      intro He Fc
      obtain ⟨Ka, Gc, Y, Hc⟩ := ya.blk Fc u 7
      have Ic := g.k Y
      have Jc := o.k Y
      have Kc := n.k Y
      have b := b.k Y
      have d := d.k Y
      have h := h.k Y
      obtain ⟨Lc, Nc, hb, Z, ma⟩ := Hc.sto Gc [(Il q.Crop), (Il q.Week.Lo), (Il q.Week.Hi), (Il q.Damage.Lo), (Il q.Damage.Hi), (Il q.Old.Lo), (Il q.Old.Hi)]
      have Oc := Ic.k Z
      have Pc := Jc.k Z
      have ib := Kc.k Z
      have b := b.k Z
      have d := d.k Z
      have h := h.k Z
      refine ⟨Lc, Nc, ?_⟩
      refine ⟨trivial, _, ib.bk.rc rfl, trivial, _, ma.bk.rc rfl, trivial, _, _, ma.bk.rp (k := 1) (j := 2) rfl (by omega), ?_⟩
      obtain ⟨jb, Qc, hp⟩ := bsome hp
      refine s_lTo (r := q.Week) hb.pre  Qc fun Ie Rc => ?_
      obtain ⟨kb, N⟩ := hb.call Rc Ka
      have Tc := Oc.k N
      have Uc := Pc.k N
      have mb := ib.k N
      have za := ma.k N
      have b := b.k N
      have d := d.k N
      have h := h.k N
      refine ⟨_, _, rfl, (za.bk.rc rfl), (by rw [show cmC _ = true from cmC_of (d.noFn)]; exact (mb.bk.rc rfl)), trivial, _, _, za.bk.rp (k := 3) (j := 2) rfl (by omega), (ma.bk.rp (k := 3) (j := 2) rfl (by omega)), ?_⟩
      obtain ⟨nb, Vc, hp⟩ := bsome hp
      refine s_lTo (r := q.Damage) kb.pre  Vc fun Je Xc => ?_
      obtain ⟨ob, O⟩ := kb.call Xc Ka
      have Yc := Tc.k O
      have Zc := Uc.k O
      have pb := mb.k O
      have La := za.k O
      have b := b.k O
      have d := d.k O
      have h := h.k O
      refine ⟨_, _, rfl, (La.bk.rc rfl), (by rw [show cmC _ = true from cmC_of (d.noFn)]; exact (pb.bk.rc rfl)), trivial, _, _, La.bk.rp (k := 5) (j := 2) rfl (by omega), (za.bk.rp (k := 5) (j := 2) rfl (by omega)), (ma.bk.rp (k := 5) (j := 2) rfl (by omega)), ?_⟩
      obtain ⟨qb, ad, hp⟩ := bsome hp
      refine s_lTo (r := q.Old) ob.pre  ad fun Ke bd => ?_
      obtain ⟨cd, P⟩ := ob.call bd Ka
      have dd := Yc.k P
      have ed := Zc.k P
      have Ma := pb.k P
      have fd := La.k P
      have b := b.k P
      have d := d.k P
      have h := h.k P
      refine ⟨_, _, rfl, (fd.bk.rc rfl), (by rw [show cmC _ = true from cmC_of (d.noFn)]; exact (Ma.bk.rc rfl)), ?_⟩
      obtain ⟨hd, hp⟩ := gd_some hp
      intro Me rb
      refine ⟨(by rw [show cmC _ = true from cmC_of (d.noFn)]; exact (Ma.bk.ext (Bk.new rb).2).rc rfl), ?_⟩
      obtain ⟨Na, id, jd, kd, ld, na, Oa⟩ := d.app' ta28 cd (a := ({ Crop := q.Crop, Week := jb, Damage := nb, Old := qb } : Fld)) (show Rp.rep (α := Fld) e _ ({ Crop := q.Crop, Week := jb, Damage := nb, Old := qb } : Fld) from rfl) hd rb
      have md := dd.k na
      have nd := ed.k na
      have od := Ma.k na
      have b := b.k na
      have h := h.k na
      refine ⟨Na, id, kd, ?_⟩
      refine ⟨trivial, ?_⟩
      obtain ⟨pd, qd, sd, oa, Pa⟩ := od.sto1 ld 2 Na (by simp) rfl
      replace Pa : Lb _ _ _ _ _ _ _ [(Il la), p, Na, ka] := Pa
      have td := md.k oa
      have ud := nd.k oa
      have b := b.k oa
      have h := h.k oa
      have Oa := Oa.k oa
      refine ⟨pd, qd, ?_⟩
      refine gdi hp fun vd hp => ?_
      exact Cb _ _ _ _ _ _ _ jd sd td ud Pa Oa h b hp
     intro ve wd
     have hgo : ∀ (Aa : Nat) (Za : Int) (aa : C) (ba : Int) (Ba : List Vis) (I : M) (A : Nat → Nat), St (Fm.of m) f e I → Lb (Fm.of m) e A I 1 m.nxt 4 [(Il s.Last), ca101, ca102, ca103] → Lb (Fm.of m) e A I 2 m0.nxt 4 [(Il 0), .sl0, .sl0, .sl0] → Lb (Fm.of m) e A I 3 m1.nxt 4 [(Il ba), p, z, aa] → Ow (Fm.of m) e A I 6 aa Ba → Ow (Fm.of m) e A I 4 p D → Ow (Fm.of m) e A I 5 z T → plSeason_L2 s D T Aa ba Ba Za = some rz → ve [.c (Il Za)] I := by
      intro Aa
      induction Aa with
      | zero => intro Za aa ba Ba I A Ca g o n i b d hp; cases hp
      | succ Aa Eb =>
       intro Za aa ba Ba I A Ca g o n i b d hp
       refine wd _ _ ?_
       rw [plSeason_L2] at hp
       refine ⟨trivial, _, g.bk.rc rfl, ha103.isSl, ?_⟩
       try rw [ha103.slLen]
       refine ifd hp (fun xd hp => ?_) fun xd hp => ?_; rotate_left
       ·refine ⟨_, _, _, _, n.bk.ra, ?_⟩
        obtain ⟨yd, zd, Ad, Qa, Bd⟩ := o.sto Ca [(Il ba), p, z, aa]
        have b := b.k Qa
        have d := d.k Qa
        have i := i.k Qa
        refine ⟨yd, zd, ?_⟩
        refine ⟨_, _, _, _, Bd.bk.ra, ?_⟩
        obtain ⟨De, Cd, sb, Dd⟩ := b.freeze Ad
        have d := d.k sb
        have i := i.k sb
        obtain ⟨Ee, Ed, tb, Fd⟩ := d.freeze Cd
        have i := i.k tb
        obtain ⟨Gd, Hd, ub, Id⟩ := i.freeze Ed
        obtain rfl := Option.some.inj hp
        exact hq _ Gd p z aa Hd.grw (Dd.sub (Sub.trans tb.fs ub.fs)) (Fd.sub ub.fs) Id
       refine ⟨trivial, _, g.bk.rc rfl, ?_⟩
       obtain ⟨B, Ra, hp⟩ := bsome hp
       obtain ⟨we, Fb, ab, Ra⟩ := idx_some Ra
       obtain ⟨_, Jd⟩ := rd_Vis ha103 Ra
       refine ⟨we, Fb, (by first | exact ab | (rw [ha103.slLen]; exact ab)), _, _, _, _, (Jd _ (Sub.trans F Ca.sub)).1, ?_⟩
       intro Ne Ld
       obtain ⟨Md, Nd, ca, Od⟩ := Ca.blk Ld A 8
       have Pd := g.k ca
       have Qd := o.k ca
       have Rd := n.k ca
       have b := b.k ca
       have d := d.k ca
       have i := i.k ca
       obtain ⟨Sd, Td, vb, da, Da⟩ := Od.sto Nd [(Il B.Field), (Il B.Week), (Il B.Seen.Lo), (Il B.Seen.Hi)]
       have Ud := Pd.k da
       have Vd := Qd.k da
       have wb := Rd.k da
       have b := b.k da
       have d := d.k da
       have i := i.k da
       refine ⟨Sd, Td, ?_⟩
       refine ⟨trivial, _, wb.bk.rc rfl, trivial, _, Da.bk.rc rfl, trivial, _, Da.bk.rc rfl, trivial, _, _, Da.bk.rp (k := 2) (j := 2) rfl (by omega), ?_⟩
       obtain ⟨xb, Wd, hp⟩ := bsome hp
       refine s_lTo (r := B.Seen) vb.pre  Wd fun Oe Xd => ?_
       obtain ⟨Yd, S⟩ := vb.call Xd Md
       have Zd := Ud.k S
       have ae := Vd.k S
       have Sa := wb.k S
       have yb := Da.k S
       have b := b.k S
       have d := d.k S
       have i := i.k S
       refine ⟨_, _, rfl, (yb.bk.rc rfl), (yb.bk.rc rfl), (by rw [show cmC _ = true from cmC_of (i.noFn)]; exact (Sa.bk.rc rfl)), ?_⟩
       obtain ⟨be, hp⟩ := gd_some hp
       intro Pe zb
       refine ⟨(by rw [show cmC _ = true from cmC_of (i.noFn)]; exact (Sa.bk.ext (Bk.new zb).2).rc rfl), ?_⟩
       obtain ⟨Ta, ce, de, ee, fe, pa, Ua⟩ := i.app' ta29 Yd (a := ({ Field := B.Field, Week := B.Week, Seen := xb } : Vis)) (show Rp.rep (α := Vis) e _ ({ Field := B.Field, Week := B.Week, Seen := xb } : Vis) from rfl) be zb
       have ge := Zd.k pa
       have he := ae.k pa
       have ie := Sa.k pa
       have b := b.k pa
       have d := d.k pa
       refine ⟨Ta, ce, ee, ?_⟩
       refine ⟨trivial, ?_⟩
       obtain ⟨je, ke, me, qa, Va⟩ := ie.sto1 fe 3 Ta (by simp) rfl
       replace Va : Lb _ _ _ _ _ _ _ [(Il ba), p, z, Ta] := Va
       have oe := ge.k qa
       have pe := he.k qa
       have b := b.k qa
       have d := d.k qa
       have Ua := Ua.k qa
       refine ⟨je, ke, ?_⟩
       refine gdi hp fun qe hp => ?_
       exact Eb _ _ _ _ _ de me oe pe Va Ua b d hp
     exact hgo _ _ _ _ _ _ u ya g o n h b d hp
   exact hgo _ _ _ _ _ _ _ _ t ha g o n x y b hp
 exact hgo _ _ _ _ _ _ _ _ _ _ f Tb ac (Sub.refl _) g o n (Ow.nil _ _ _ _ _) (Ow.nil _ _ _ _ _) (Ow.nil _ _ _ _ _) hp
theorem s_lThin {s : Ssn} {ca101 ca102 ca103 : C} {m f : M} {Q : V → M → Prop} {rz : Bool} (hS : Pre f m) (ha101 : Sl f ca101 s.Rules) (ha102 : Sl f ca102 s.Fields) (ha103 : Sl f ca103 s.Visits) (hp : plThin s = some rz) (hq : ∀ m', Ext m m' → Q (.c (.bool rz)) m') : Wc prog tbl 59 [.agg 4 [(Il s.Last), ca101, ca102, ca103]] m Q := by
 have S0 := hS.st
 obtain ⟨τ0, _⟩ : ∃ τ : Nat → Nat, True := ⟨fun _ => 0, trivial⟩
 refine w59 ?_
 unfold plThin at hp
 intro m0 I
 obtain ⟨J, i, za, a⟩ := S0.blk I τ0 1
 refine ⟨trivial, _, a.bk.rc rfl, ha101.isSl, ?_⟩
 try rw [ha101.slLen]
 refine ifd hp (fun N hp => ?_) fun N hp => ?_
 ·obtain rfl := Option.some.inj hp
  exact hq _ i.ext'
 refine ⟨trivial, _, a.bk.rc rfl, ha102.isSl, ?_⟩
 try rw [ha102.slLen]
 refine ifd hp (fun O hp => ?_) fun O hp => ?_
 ·obtain rfl := Option.some.inj hp
  exact hq _ i.ext'
 refine ⟨trivial, _, a.bk.rc rfl, ha103.isSl, ?_⟩
 try rw [ha103.slLen]
 refine ifd hp (fun P hp => ?_) fun P hp => ?_
 ·obtain rfl := Option.some.inj hp
  exact hq _ i.ext'
 intro R4 ta
 have hgo : ∀ (j : Nat) (B : Bool) (D : Int) (x : M) (d : Nat → Nat), St (Fm.of m) f f x → Lb (Fm.of m) f d x 1 m.nxt 4 [(Il s.Last), ca101, ca102, ca103] → plThin_L0 s j B D = some rz → R4 [.c (.bool B), .c (Il D)] x := by
  intro j
  induction j with
  | zero => intro B D x d e a hp; cases hp
  | succ j S =>
   intro B D x d e a hp
   refine ta _ _ _ ?_
   rw [plThin_L0] at hp
   refine ⟨trivial, _, a.bk.rc rfl, ha101.isSl, ?_⟩
   try rw [ha101.slLen]
   refine ifd hp (fun T hp => ?_) fun T hp => ?_
   ·refine ⟨trivial, _, a.bk.rc rfl, ?_⟩
    obtain ⟨Ba, o, hp⟩ := bsome hp
    obtain ⟨ua, F, q, o⟩ := idx_some o
    obtain ⟨Ca, Y, y⟩ := ha101.rdS o
    refine ⟨ua, F, (by first | exact q | (rw [ha101.slLen]; exact q)), _, (Y _ e.sub), y.isSl, ?_⟩
    try rw [y.slLen]
    refine ifd hp (fun Z hp => ?_) fun Z hp => ?_
    ·obtain rfl := Option.some.inj hp
     exact hq _ e.ext'
    refine gdi hp fun aa hp => ?_
    exact S _ _ _ d e a hp
   refine ⟨_, _, _, _, a.bk.ra, ?_⟩
   obtain ⟨ba, ca, hp⟩ := bsome hp
   refine s_rFault (s := s) e.pre ha101 ha102 ha103 ca fun Ea da => ?_
   obtain ⟨ea, fa⟩ := e.call da d
   have b := a.k fa
   refine ⟨_, rfl, ?_⟩
   intro va ga
   have hgo : ∀ (l : Nat) (z : Bool) (r : Int) (n : M) (g : Nat → Nat), St (Fm.of m) f f n → Lb (Fm.of m) f g n 1 m.nxt 4 [(Il s.Last), ca101, ca102, ca103] → plThin_L1 s ba l r = some rz → va [.c (.bool z), .c (Il r)] n := by
    intro l
    induction l with
    | zero => intro z r n g h b hp; cases hp
    | succ l t =>
     intro z r n g h b hp
     refine ga _ _ _ ?_
     rw [plThin_L1] at hp
     refine ⟨trivial, _, b.bk.rc rfl, ha102.isSl, ?_⟩
     try rw [ha102.slLen]
     refine ifd hp (fun ha hp => ?_) fun ha hp => ?_; rotate_left
     ·obtain rfl := Option.some.inj hp
      exact hq _ h.ext'
     refine ifnb hp (fun ia hp => ?_) fun ia hp => ?_; rotate_left
     ·refine gdi hp fun ja hp => ?_
      exact t _ _ _ g h b hp
     refine ⟨trivial, _, b.bk.rc rfl, ?_⟩
     obtain ⟨ka, p, hp⟩ := bsome hp
     obtain ⟨wa, G, u, p⟩ := idx_some p
     obtain ⟨_, la⟩ := rd_Fld ha102 p
     refine ⟨wa, G, (by first | exact u | (rw [ha102.slLen]; exact u)), _, _, _, _, _, _, _, (la _ h.sub).1, ?_⟩
     obtain ⟨Da, ma, hp⟩ := bsome hp
     refine s_rMany (fl := ka) h.pre  ma fun Fa na => ?_
     obtain ⟨A, oa⟩ := h.call na g
     have pa := b.k oa
     refine ⟨_, rfl, ?_⟩
     refine ifd hp (fun qa hp => ?_) fun qa hp => ?_
     ·obtain rfl := Option.some.inj hp
      exact hq _ A.ext'
     refine gdi hp fun sa hp => ?_
     exact t _ _ _ g A pa hp
   exact hgo _ _ _ _ d ea b hp
 exact hgo _ _ _ _ J i a hp
theorem s_lReady {s : Ssn} {ca101 ca102 ca103 : C} {m f : M} {Q : V → M → Prop} {rz : Bool} (hS : Pre f m) (ha101 : Sl f ca101 s.Rules) (ha102 : Sl f ca102 s.Fields) (ha103 : Sl f ca103 s.Visits) (hp : plReady s = some rz) (hq : ∀ m', Ext m m' → Q (.c (.bool rz)) m') : Wc prog tbl 22 [.agg 4 [(Il s.Last), ca101, ca102, ca103]] m Q := by
 have r := hS.st
 obtain ⟨t, _⟩ : ∃ τ : Nat → Nat, True := ⟨fun _ => 0, trivial⟩
 refine w22 ?_
 unfold plReady at hp
 intro B g
 obtain ⟨b, d, u, e⟩ := r.blk g t 1
 refine ⟨_, _, _, _, e.bk.ra, ?_⟩
 obtain ⟨x, h, hp⟩ := bsome hp
 refine s_lThin (s := s) d.pre ha101 ha102 ha103 h fun D i => ?_
 obtain ⟨a, j⟩ := d.call i b
 have l := e.k j
 refine ⟨_, rfl, ?_⟩
 refine ifbb hp (fun n hp => ?_) fun n hp => ?_; rotate_left
 ·obtain rfl := Option.some.inj hp
  exact hq _ a.ext'
 refine ⟨_, _, _, _, l.bk.ra, ?_⟩
 obtain ⟨y, o, hp⟩ := bsome hp
 refine s_rFault (s := s) a.pre ha101 ha102 ha103 o fun A p => ?_
 obtain ⟨q, z⟩ := a.call p b
 refine ⟨_, rfl, ?_⟩
 obtain rfl := Option.some.inj hp
 exact hq _ q.ext'
theorem s_has {r : Rg} {n : Int} {m f : M} {Q : V → M → Prop} {rz : Bool} (hS : Pre f m)  (hp : phas r n = some rz) (hq : ∀ m', Ext m m' → Q (.c (.bool rz)) m') : Wc prog tbl 65 [.agg 2 [(Il r.Lo), (Il r.Hi)], .c (Il n)] m Q := by
 have g := hS.st
 obtain ⟨h, _⟩ : ∃ τ : Nat → Nat, True := ⟨fun _ => 0, trivial⟩
 refine w65 ?_
 unfold phas at hp
 intro l d
 obtain ⟨i, a, j, b⟩ := g.blk d h 1
 refine ⟨trivial, _, b.bk.rc rfl, ?_⟩
 refine ifd hp (fun e hp => ?_) fun e hp => ?_; rotate_left
 ·obtain rfl := Option.some.inj hp
  exact hq _ a.ext'
 refine ⟨trivial, _, b.bk.rc rfl, ?_⟩
 obtain rfl := Option.some.inj hp
 exact hq _ a.ext'
theorem s_count {r : Rg} {m f : M} {Q : V → M → Prop} {rz : Int} (hS : Pre f m)  (hp : pcount r = some rz) (hq : ∀ m', Ext m m' → Q (.c (Il rz)) m') : Wc prog tbl 93 [.agg 2 [(Il r.Lo), (Il r.Hi)]] m Q := by
 have h := hS.st
 obtain ⟨i, _⟩ : ∃ τ : Nat → Nat, True := ⟨fun _ => 0, trivial⟩
 refine w93 ?_
 unfold pcount at hp
 intro n b
 obtain ⟨j, d, l, a⟩ := h.blk b i 1
 refine ⟨trivial, _, a.bk.rc rfl, trivial, _, a.bk.rc rfl, ?_⟩
 refine gdi hp fun e hp => ?_
 refine gdi hp fun g hp => ?_
 obtain rfl := Option.some.inj hp
 exact hq _ d.ext'
theorem s_within {r : Rg} {low : Int} {high : Int} {m f : M} {Q : V → M → Prop} {rz : Bool} (hS : Pre f m)  (hp : pwithin r low high = some rz) (hq : ∀ m', Ext m m' → Q (.c (.bool rz)) m') : Wc prog tbl 107 [.agg 2 [(Il r.Lo), (Il r.Hi)], .c (Il low), .c (Il high)] m Q := by
 have h := hS.st
 obtain ⟨i, _⟩ : ∃ τ : Nat → Nat, True := ⟨fun _ => 0, trivial⟩
 refine w107 ?_
 unfold pwithin at hp
 intro n d
 obtain ⟨j, b, l, a⟩ := h.blk d i 1
 refine ⟨trivial, _, a.bk.rc rfl, ?_⟩
 refine ifd hp (fun e hp => ?_) fun e hp => ?_; rotate_left
 ·obtain rfl := Option.some.inj hp
  exact hq _ b.ext'
 refine ⟨trivial, _, a.bk.rc rfl, trivial, _, a.bk.rc rfl, ?_⟩
 refine ifd hp (fun g hp => ?_) fun g hp => ?_; rotate_left
 ·obtain rfl := Option.some.inj hp
  exact hq _ b.ext'
 refine ⟨trivial, _, a.bk.rc rfl, ?_⟩
 obtain rfl := Option.some.inj hp
 exact hq _ b.ext'
theorem s_isHundredths {n : Int} {m f : M} {Q : V → M → Prop} {rz : Bool} (hS : Pre f m)  (hp : pisHundredths n = some rz) (hq : ∀ m', Ext m m' → Q (.c (.bool rz)) m') : Wc prog tbl 33 [.c (Il n)] m Q := by
 have e := hS.st
 obtain ⟨g, _⟩ : ∃ τ : Nat → Nat, True := ⟨fun _ => 0, trivial⟩
 refine w33 ?_
 unfold pisHundredths at hp
 obtain ⟨h, a, hp⟩ := bsome hp
 refine s_has (r := ({ Lo := (0 : Int), Hi := (100 : Int) } : Rg)) (n := n) e.pre  a fun j b => ?_
 obtain ⟨d, i⟩ := e.call b g
 refine ⟨_, rfl, ?_⟩
 obtain rfl := Option.some.inj hp
 exact hq _ d.ext'
theorem s_hasField {s : Ssn} {n : Int} {ca101 ca102 ca103 : C} {m f : M} {Q : V → M → Prop} {rz : Bool} (hS : Pre f m) (_ha101 : Sl f ca101 s.Rules) (ha102 : Sl f ca102 s.Fields) (_ha103 : Sl f ca103 s.Visits) (hp : phasField s n = some rz) (hq : ∀ m', Ext m m' → Q (.c (.bool rz)) m') : Wc prog tbl 64 [.agg 4 [(Il s.Last), ca101, ca102, ca103], .c (Il n)] m Q := by
 have l := hS.st
 obtain ⟨o, _⟩ : ∃ τ : Nat → Nat, True := ⟨fun _ => 0, trivial⟩
 refine w64 ?_
 unfold phasField at hp
 intro u d
 obtain ⟨e, a, p, g⟩ := l.blk d o 1
 refine ⟨trivial, _, g.bk.rc rfl, ha102.isSl, ?_⟩
 obtain ⟨b, hp⟩ := gd_some hp
 refine ⟨(by first | exact b | (rw [ha102.slLen]; exact b)), ?_⟩
 try rw [ha102.slLen]
 obtain ⟨q, h, hp⟩ := bsome hp
 refine s_has (r := ({ Lo := (0 : Int), Hi := ((s.Fields.length : Int) - (1 : Int)) } : Rg)) (n := n) a.pre  h fun x i => ?_
 obtain ⟨j, t⟩ := a.call i e
 refine ⟨_, rfl, ?_⟩
 obtain rfl := Option.some.inj hp
 exact hq _ j.ext'
theorem s_hasWeek {s : Ssn} {n : Int} {ca101 ca102 ca103 : C} {m f : M} {Q : V → M → Prop} {rz : Bool} (hS : Pre f m) (_ha101 : Sl f ca101 s.Rules) (_ha102 : Sl f ca102 s.Fields) (_ha103 : Sl f ca103 s.Visits) (hp : phasWeek s n = some rz) (hq : ∀ m', Ext m m' → Q (.c (.bool rz)) m') : Wc prog tbl 29 [.agg 4 [(Il s.Last), ca101, ca102, ca103], .c (Il n)] m Q := by
 have j := hS.st
 obtain ⟨l, _⟩ : ∃ τ : Nat → Nat, True := ⟨fun _ => 0, trivial⟩
 refine w29 ?_
 unfold phasWeek at hp
 intro t b
 obtain ⟨d, a, o, e⟩ := j.blk b l 1
 refine ⟨trivial, _, e.bk.rc rfl, ?_⟩
 obtain ⟨p, g, hp⟩ := bsome hp
 refine s_has (r := ({ Lo := (0 : Int), Hi := s.Last } : Rg)) (n := n) a.pre  g fun u h => ?_
 obtain ⟨i, q⟩ := a.call h d
 refine ⟨_, rfl, ?_⟩
 obtain rfl := Option.some.inj hp
 exact hq _ i.ext'
theorem s_tooMany {s : Ssn} {ca101 ca102 ca103 : C} {m f : M} {Q : V → M → Prop} {rz : Bool} (hS : Pre f m) (ha101 : Sl f ca101 s.Rules) (ha102 : Sl f ca102 s.Fields) (ha103 : Sl f ca103 s.Visits) (hp : ptooMany s = some rz) (hq : ∀ m', Ext m m' → Q (.c (.bool rz)) m') : Wc prog tbl 55 [.agg 4 [(Il s.Last), ca101, ca102, ca103]] m Q := by
 have i := hS.st
 obtain ⟨j, _⟩ : ∃ τ : Nat → Nat, True := ⟨fun _ => 0, trivial⟩
 refine w55 ?_
 unfold ptooMany at hp
 intro o d
 obtain ⟨l, a, n, b⟩ := i.blk d j 1
 refine ⟨trivial, _, b.bk.rc rfl, ?_⟩
 refine ifd hp (fun e hp => ?_) fun e hp => ?_
 ·obtain rfl := Option.some.inj hp
  exact hq _ a.ext'
 refine ⟨trivial, _, b.bk.rc rfl, ha101.isSl, ?_⟩
 try rw [ha101.slLen]
 refine ifd hp (fun g hp => ?_) fun g hp => ?_
 ·obtain rfl := Option.some.inj hp
  exact hq _ a.ext'
 refine ⟨trivial, _, b.bk.rc rfl, ha102.isSl, ?_⟩
 try rw [ha102.slLen]
 refine ifd hp (fun h hp => ?_) fun h hp => ?_
 ·obtain rfl := Option.some.inj hp
  exact hq _ a.ext'
 refine ⟨trivial, _, b.bk.rc rfl, ha103.isSl, ?_⟩
 try rw [ha103.slLen]
 obtain rfl := Option.some.inj hp
 exact hq _ a.ext'
theorem s_eachI1 {x : Int} {passes : Int → Option (Bool)} {b0 : Nat} {cb000 : C} {m f : M} {Q : V → M → Prop} {rz : Bool} (hS : Pre f m) (hb0 : Bk f b0 1 [cb000]) (hb000 : Fv_Int_Bool f cb000 passes) (hp : peachI1 x passes = some rz) (hq : ∀ m', Ext m m' → Q (.c (.bool rz)) m') : Wc prog tbl 113 [.c (Il x), .c (.ptr b0 0)] m Q := by
 have a := hS.st
 obtain ⟨g, _⟩ : ∃ τ : Nat → Nat, True := ⟨fun _ => 0, trivial⟩
 refine c113 ?_
 unfold peachI1 at hp
 refine ⟨_, (hb0.sub a.sub).rc rfl, ?_⟩
 obtain ⟨h, b, hp⟩ := bsome hp
 refine hb000 _ _ _ _ _ (Sub.refl _) a.pre  b fun j d => ?_
 obtain ⟨e, i⟩ := a.call d g
 refine ⟨_, rfl, ?_⟩
 obtain rfl := Option.some.inj hp
 exact hq _ e.ext'
theorem s_indexI {l : List Int} {p : Int → Option (Bool)} {ca100 ca200 : C} {m f : M} {Q : V → M → Prop} {rz : Int} (hS : Pre f m) (ha100 : Sl f ca100 l) (ha200 : Fv_Int_Bool f ca200 p) (hp : pindexI l p = some rz) (hq : ∀ m', Ext m m' → Q (.c (Il rz)) m') : Wc prog tbl 114 [.c ca100, .c ca200] m Q := by
 have z := hS.st
 obtain ⟨A, _⟩ : ∃ τ : Nat → Nat, True := ⟨fun _ => 0, trivial⟩
 refine w114 ?_
 unfold pindexI at hp
 refine ⟨ha100.isSl, ?_⟩
 intro B y
 have hgo : ∀ (b : Nat) (o : Int) (i : Int) (j : M) (d : Nat → Nat), St (Fm.of m) f f j → pindexI_L0 l p b i = some rz → B [.c (Il o), .c (Il i)] j := by
  intro b
  induction b with
  | zero => intro o i j d a hp; cases hp
  | succ b q =>
   intro o i j d a hp
   refine y _ _ _ ?_
   rw [pindexI_L0] at hp
   try rw [ha100.slLen]
   refine ifd hp (fun r hp => ?_) fun r hp => ?_; rotate_left
   ·obtain rfl := Option.some.inj hp
    exact hq _ a.ext'
   obtain ⟨D, e, hp⟩ := bsome hp
   obtain ⟨F, n, g, e⟩ := idx_some e
   refine ⟨F, n, (by first | exact g | (rw [ha100.slLen]; exact g)), _, (ha100.rdI e a.sub), ?_⟩
   obtain ⟨G, s, hp⟩ := bsome hp
   refine ha200 _ _ _ _ _ (Sub.refl _) a.pre  s fun J t => ?_
   obtain ⟨h, I⟩ := a.call t d
   refine ⟨_, rfl, ?_⟩
   refine ifbb hp (fun u hp => ?_) fun u hp => ?_
   ·obtain rfl := Option.some.inj hp
    exact hq _ h.ext'
   refine gdi hp fun x hp => ?_
   exact q _ _ _ d h hp
 exact hgo _ _ _ _ A z hp
theorem s_containsI {l : List Int} {p : Int → Option (Bool)} {ca100 ca200 : C} {m f : M} {Q : V → M → Prop} {rz : Bool} (hS : Pre f m) (ha100 : Sl f ca100 l) (ha200 : Fv_Int_Bool f ca200 p) (hp : pcontainsI l p = some rz) (hq : ∀ m', Ext m m' → Q (.c (.bool rz)) m') : Wc prog tbl 112 [.c ca100, .c ca200] m Q := by
 have e := hS.st
 obtain ⟨g, _⟩ : ∃ τ : Nat → Nat, True := ⟨fun _ => 0, trivial⟩
 refine w112 ?_
 unfold pcontainsI at hp
 obtain ⟨h, a, hp⟩ := bsome hp
 refine s_indexI (l := l) (p := p) e.pre ha100 ha200 a fun j b => ?_
 obtain ⟨d, i⟩ := e.call b g
 refine ⟨_, rfl, ?_⟩
 obtain rfl := Option.some.inj hp
 exact hq _ d.ext'
theorem s_eachI {l : List Int} {passes : Int → Option (Bool)} {ca100 ca200 : C} {m f : M} {Q : V → M → Prop} {rz : Bool} (hS : Pre f m) (ha100 : Sl f ca100 l) (ha200 : Fv_Int_Bool f ca200 passes) (hp : peachI l passes = some rz) (hq : ∀ m', Ext m m' → Q (.c (.bool rz)) m') : Wc prog tbl 106 [.c ca100, .c ca200] m Q := by
 have u := hS.st
 obtain ⟨x, _⟩ : ∃ τ : Nat → Nat, True := ⟨fun _ => 0, trivial⟩
 refine w106 ?_
 unfold peachI at hp
 intro B h
 obtain ⟨i, j, y, n⟩ := u.blk h x 1
 obtain ⟨o, b, d, e⟩ := n.freeze j
 have g : Fv_Int_Bool o ((C.fn (Fn.func 113) [] [(W.c (C0.ptr m.nxt 0))])) (fun a => peachI1 a passes) := by
  intro f' m' a r Q hs hpre  hg hq
  exact s_eachI1 hpre (e.sub hs) ((ha200.sub d.fs).sub hs) hg hq
 obtain ⟨z, q, hp⟩ := bsome hp
 refine s_containsI (l := l) (p := (fun a => peachI1 a passes)) b.pre (ha100.sub d.fs) g q fun D s => ?_
 obtain ⟨t, A⟩ := b.call s i
 refine ⟨_, rfl, ?_⟩
 obtain rfl := Option.some.inj hp
 exact hq _ t.ext'
theorem s_eachL1 {x : List Int} {passes : List Int → Option (Bool)} {b0 : Nat} {ca100 cb000 : C} {m f : M} {Q : V → M → Prop} {rz : Bool} (hS : Pre f m) (ha100 : Sl f ca100 x) (hb0 : Bk f b0 1 [cb000]) (hb000 : Fv_LInt_Bool f cb000 passes) (hp : peachL1 x passes = some rz) (hq : ∀ m', Ext m m' → Q (.c (.bool rz)) m') : Wc prog tbl 105 [.c ca100, .c (.ptr b0 0)] m Q := by
 have a := hS.st
 obtain ⟨g, _⟩ : ∃ τ : Nat → Nat, True := ⟨fun _ => 0, trivial⟩
 refine c105 ?_
 unfold peachL1 at hp
 refine ⟨_, (hb0.sub a.sub).rc rfl, ?_⟩
 obtain ⟨h, b, hp⟩ := bsome hp
 refine hb000 _ _ _ _ _ _ (Sub.refl _) a.pre ha100 b fun j d => ?_
 obtain ⟨e, i⟩ := a.call d g
 refine ⟨_, rfl, ?_⟩
 obtain rfl := Option.some.inj hp
 exact hq _ e.ext'
theorem s_indexL {l : List (List Int)} {p : List Int → Option (Bool)} {ca100 ca200 : C} {m f : M} {Q : V → M → Prop} {rz : Int} (hS : Pre f m) (ha100 : Sl f ca100 l) (ha200 : Fv_LInt_Bool f ca200 p) (hp : pindexL l p = some rz) (hq : ∀ m', Ext m m' → Q (.c (Il rz)) m') : Wc prog tbl 111 [.c ca100, .c ca200] m Q := by
 have B := hS.st
 obtain ⟨D, _⟩ : ∃ τ : Nat → Nat, True := ⟨fun _ => 0, trivial⟩
 refine w111 ?_
 unfold pindexL at hp
 refine ⟨ha100.isSl, ?_⟩
 intro F A
 have hgo : ∀ (b : Nat) (o : Int) (i : Int) (j : M) (d : Nat → Nat), St (Fm.of m) f f j → pindexL_L0 l p b i = some rz → F [.c (Il o), .c (Il i)] j := by
  intro b
  induction b with
  | zero => intro o i j d a hp; cases hp
  | succ b q =>
   intro o i j d a hp
   refine A _ _ _ ?_
   rw [pindexL_L0] at hp
   try rw [ha100.slLen]
   refine ifd hp (fun r hp => ?_) fun r hp => ?_; rotate_left
   ·obtain rfl := Option.some.inj hp
    exact hq _ a.ext'
   obtain ⟨G, e, hp⟩ := bsome hp
   obtain ⟨I, n, g, e⟩ := idx_some e
   obtain ⟨J, s, t⟩ := ha100.rdS e
   refine ⟨I, n, (by first | exact g | (rw [ha100.slLen]; exact g)), _, (s _ a.sub), ?_⟩
   obtain ⟨N, u, hp⟩ := bsome hp
   refine ha200 _ _ _ _ _ _ (Sub.refl _) a.pre t u fun P x => ?_
   obtain ⟨h, O⟩ := a.call x d
   refine ⟨_, rfl, ?_⟩
   refine ifbb hp (fun y hp => ?_) fun y hp => ?_
   ·obtain rfl := Option.some.inj hp
    exact hq _ h.ext'
   refine gdi hp fun z hp => ?_
   exact q _ _ _ d h hp
 exact hgo _ _ _ _ D B hp
theorem s_containsL {l : List (List Int)} {p : List Int → Option (Bool)} {ca100 ca200 : C} {m f : M} {Q : V → M → Prop} {rz : Bool} (hS : Pre f m) (ha100 : Sl f ca100 l) (ha200 : Fv_LInt_Bool f ca200 p) (hp : pcontainsL l p = some rz) (hq : ∀ m', Ext m m' → Q (.c (.bool rz)) m') : Wc prog tbl 104 [.c ca100, .c ca200] m Q := by
 have e := hS.st
 obtain ⟨g, _⟩ : ∃ τ : Nat → Nat, True := ⟨fun _ => 0, trivial⟩
 refine w104 ?_
 unfold pcontainsL at hp
 obtain ⟨h, a, hp⟩ := bsome hp
 refine s_indexL (l := l) (p := p) e.pre ha100 ha200 a fun j b => ?_
 obtain ⟨d, i⟩ := e.call b g
 refine ⟨_, rfl, ?_⟩
 obtain rfl := Option.some.inj hp
 exact hq _ d.ext'
theorem s_eachL {l : List (List Int)} {passes : List Int → Option (Bool)} {ca100 ca200 : C} {m f : M} {Q : V → M → Prop} {rz : Bool} (hS : Pre f m) (ha100 : Sl f ca100 l) (ha200 : Fv_LInt_Bool f ca200 passes) (hp : peachL l passes = some rz) (hq : ∀ m', Ext m m' → Q (.c (.bool rz)) m') : Wc prog tbl 87 [.c ca100, .c ca200] m Q := by
 have x := hS.st
 obtain ⟨y, _⟩ : ∃ τ : Nat → Nat, True := ⟨fun _ => 0, trivial⟩
 refine w87 ?_
 unfold peachL at hp
 intro F h
 obtain ⟨i, j, z, n⟩ := x.blk h y 1
 obtain ⟨o, b, d, e⟩ := n.freeze j
 have g : Fv_LInt_Bool o ((C.fn (Fn.func 105) [] [(W.c (C0.ptr m.nxt 0))])) (fun a => peachL1 a passes) := by
  intro f' m' a A r Q hs hpre q hg hq
  exact s_eachL1 hpre q (e.sub hs) ((ha200.sub d.fs).sub hs) hg hq
 obtain ⟨B, s, hp⟩ := bsome hp
 refine s_containsL (l := l) (p := (fun a => peachL1 a passes)) b.pre (ha100.sub d.fs) g s fun G t => ?_
 obtain ⟨u, D⟩ := b.call t i
 refine ⟨_, rfl, ?_⟩
 obtain rfl := Option.some.inj hp
 exact hq _ u.ext'
theorem s_eachF1 {x : Fld} {passes : Fld → Option (Bool)} {b0 : Nat} {cb000 : C} {m f : M} {Q : V → M → Prop} {rz : Bool} (hS : Pre f m) (hb0 : Bk f b0 1 [cb000]) (hb000 : Fv_Fld_Bool f cb000 passes) (hp : peachF1 x passes = some rz) (hq : ∀ m', Ext m m' → Q (.c (.bool rz)) m') : Wc prog tbl 92 [.agg 7 [(Il x.Crop), (Il x.Week.Lo), (Il x.Week.Hi), (Il x.Damage.Lo), (Il x.Damage.Hi), (Il x.Old.Lo), (Il x.Old.Hi)], .c (.ptr b0 0)] m Q := by
 have j := hS.st
 obtain ⟨l, _⟩ : ∃ τ : Nat → Nat, True := ⟨fun _ => 0, trivial⟩
 refine c92 ?_
 unfold peachF1 at hp
 intro r b
 obtain ⟨d, a, n, e⟩ := j.blk b l 1
 refine ⟨_, (hb0.sub a.sub).rc rfl, _, _, _, _, _, _, _, e.bk.ra, ?_⟩
 obtain ⟨o, g, hp⟩ := bsome hp
 refine hb000 _ _ _ _ _ (Sub.refl _) a.pre  g fun q h => ?_
 obtain ⟨i, p⟩ := a.call h d
 refine ⟨_, rfl, ?_⟩
 obtain rfl := Option.some.inj hp
 exact hq _ i.ext'
theorem s_indexF {l : List Fld} {p : Fld → Option (Bool)} {ca100 ca200 : C} {m f : M} {Q : V → M → Prop} {rz : Int} (hS : Pre f m) (ha100 : Sl f ca100 l) (ha200 : Fv_Fld_Bool f ca200 p) (hp : pindexF l p = some rz) (hq : ∀ m', Ext m m' → Q (.c (Il rz)) m') : Wc prog tbl 108 [.c ca100, .c ca200] m Q := by
 have A := hS.st
 obtain ⟨B, _⟩ : ∃ τ : Nat → Nat, True := ⟨fun _ => 0, trivial⟩
 refine w108 ?_
 unfold pindexF at hp
 refine ⟨ha100.isSl, ?_⟩
 intro D z
 have hgo : ∀ (b : Nat) (o : Int) (i : Int) (j : M) (d : Nat → Nat), St (Fm.of m) f f j → pindexF_L0 l p b i = some rz → D [.c (Il o), .c (Il i)] j := by
  intro b
  induction b with
  | zero => intro o i j d a hp; cases hp
  | succ b q =>
   intro o i j d a hp
   refine z _ _ _ ?_
   rw [pindexF_L0] at hp
   try rw [ha100.slLen]
   refine ifd hp (fun r hp => ?_) fun r hp => ?_; rotate_left
   ·obtain rfl := Option.some.inj hp
    exact hq _ a.ext'
   obtain ⟨F, e, hp⟩ := bsome hp
   obtain ⟨G, n, g, e⟩ := idx_some e
   obtain ⟨_, s⟩ := rd_Fld ha100 e
   refine ⟨G, n, (by first | exact g | (rw [ha100.slLen]; exact g)), _, _, _, _, _, _, _, (s _ a.sub).1, ?_⟩
   obtain ⟨I, t, hp⟩ := bsome hp
   refine ha200 _ _ _ _ _ (Sub.refl _) a.pre  t fun N u => ?_
   obtain ⟨h, J⟩ := a.call u d
   refine ⟨_, rfl, ?_⟩
   refine ifbb hp (fun x hp => ?_) fun x hp => ?_
   ·obtain rfl := Option.some.inj hp
    exact hq _ h.ext'
   refine gdi hp fun y hp => ?_
   exact q _ _ _ d h hp
 exact hgo _ _ _ _ B A hp
theorem s_containsF {l : List Fld} {p : Fld → Option (Bool)} {ca100 ca200 : C} {m f : M} {Q : V → M → Prop} {rz : Bool} (hS : Pre f m) (ha100 : Sl f ca100 l) (ha200 : Fv_Fld_Bool f ca200 p) (hp : pcontainsF l p = some rz) (hq : ∀ m', Ext m m' → Q (.c (.bool rz)) m') : Wc prog tbl 91 [.c ca100, .c ca200] m Q := by
 have e := hS.st
 obtain ⟨g, _⟩ : ∃ τ : Nat → Nat, True := ⟨fun _ => 0, trivial⟩
 refine w91 ?_
 unfold pcontainsF at hp
 obtain ⟨h, a, hp⟩ := bsome hp
 refine s_indexF (l := l) (p := p) e.pre ha100 ha200 a fun j b => ?_
 obtain ⟨d, i⟩ := e.call b g
 refine ⟨_, rfl, ?_⟩
 obtain rfl := Option.some.inj hp
 exact hq _ d.ext'
theorem s_eachF {l : List Fld} {passes : Fld → Option (Bool)} {ca100 ca200 : C} {m f : M} {Q : V → M → Prop} {rz : Bool} (hS : Pre f m) (ha100 : Sl f ca100 l) (ha200 : Fv_Fld_Bool f ca200 passes) (hp : peachF l passes = some rz) (hq : ∀ m', Ext m m' → Q (.c (.bool rz)) m') : Wc prog tbl 57 [.c ca100, .c ca200] m Q := by
 have u := hS.st
 obtain ⟨x, _⟩ : ∃ τ : Nat → Nat, True := ⟨fun _ => 0, trivial⟩
 refine w57 ?_
 unfold peachF at hp
 intro B h
 obtain ⟨i, j, y, n⟩ := u.blk h x 1
 obtain ⟨o, b, d, e⟩ := n.freeze j
 have g : Fv_Fld_Bool o ((C.fn (Fn.func 92) [] [(W.c (C0.ptr m.nxt 0))])) (fun a => peachF1 a passes) := by
  intro f' m' a r Q hs hpre  hg hq
  exact s_eachF1 hpre (e.sub hs) ((ha200.sub d.fs).sub hs) hg hq
 obtain ⟨z, q, hp⟩ := bsome hp
 refine s_containsF (l := l) (p := (fun a => peachF1 a passes)) b.pre (ha100.sub d.fs) g q fun D s => ?_
 obtain ⟨t, A⟩ := b.call s i
 refine ⟨_, rfl, ?_⟩
 obtain rfl := Option.some.inj hp
 exact hq _ t.ext'
theorem s_eachV1 {x : Vis} {passes : Vis → Option (Bool)} {b0 : Nat} {cb000 : C} {m f : M} {Q : V → M → Prop} {rz : Bool} (hS : Pre f m) (hb0 : Bk f b0 1 [cb000]) (hb000 : Fv_Vis_Bool f cb000 passes) (hp : peachV1 x passes = some rz) (hq : ∀ m', Ext m m' → Q (.c (.bool rz)) m') : Wc prog tbl 103 [.agg 4 [(Il x.Field), (Il x.Week), (Il x.Seen.Lo), (Il x.Seen.Hi)], .c (.ptr b0 0)] m Q := by
 have j := hS.st
 obtain ⟨l, _⟩ : ∃ τ : Nat → Nat, True := ⟨fun _ => 0, trivial⟩
 refine c103 ?_
 unfold peachV1 at hp
 intro q b
 obtain ⟨d, a, n, e⟩ := j.blk b l 1
 refine ⟨_, (hb0.sub a.sub).rc rfl, _, _, _, _, e.bk.ra, ?_⟩
 obtain ⟨o, g, hp⟩ := bsome hp
 refine hb000 _ _ _ _ _ (Sub.refl _) a.pre  g fun r h => ?_
 obtain ⟨i, p⟩ := a.call h d
 refine ⟨_, rfl, ?_⟩
 obtain rfl := Option.some.inj hp
 exact hq _ i.ext'
theorem s_indexV {l : List Vis} {p : Vis → Option (Bool)} {ca100 ca200 : C} {m f : M} {Q : V → M → Prop} {rz : Int} (hS : Pre f m) (ha100 : Sl f ca100 l) (ha200 : Fv_Vis_Bool f ca200 p) (hp : pindexV l p = some rz) (hq : ∀ m', Ext m m' → Q (.c (Il rz)) m') : Wc prog tbl 110 [.c ca100, .c ca200] m Q := by
 have A := hS.st
 obtain ⟨B, _⟩ : ∃ τ : Nat → Nat, True := ⟨fun _ => 0, trivial⟩
 refine w110 ?_
 unfold pindexV at hp
 refine ⟨ha100.isSl, ?_⟩
 intro D z
 have hgo : ∀ (b : Nat) (o : Int) (i : Int) (j : M) (d : Nat → Nat), St (Fm.of m) f f j → pindexV_L0 l p b i = some rz → D [.c (Il o), .c (Il i)] j := by
  intro b
  induction b with
  | zero => intro o i j d a hp; cases hp
  | succ b q =>
   intro o i j d a hp
   refine z _ _ _ ?_
   rw [pindexV_L0] at hp
   try rw [ha100.slLen]
   refine ifd hp (fun r hp => ?_) fun r hp => ?_; rotate_left
   ·obtain rfl := Option.some.inj hp
    exact hq _ a.ext'
   obtain ⟨F, e, hp⟩ := bsome hp
   obtain ⟨G, n, g, e⟩ := idx_some e
   obtain ⟨_, s⟩ := rd_Vis ha100 e
   refine ⟨G, n, (by first | exact g | (rw [ha100.slLen]; exact g)), _, _, _, _, (s _ a.sub).1, ?_⟩
   obtain ⟨I, t, hp⟩ := bsome hp
   refine ha200 _ _ _ _ _ (Sub.refl _) a.pre  t fun N u => ?_
   obtain ⟨h, J⟩ := a.call u d
   refine ⟨_, rfl, ?_⟩
   refine ifbb hp (fun x hp => ?_) fun x hp => ?_
   ·obtain rfl := Option.some.inj hp
    exact hq _ h.ext'
   refine gdi hp fun y hp => ?_
   exact q _ _ _ d h hp
 exact hgo _ _ _ _ B A hp
theorem s_containsV {l : List Vis} {p : Vis → Option (Bool)} {ca100 ca200 : C} {m f : M} {Q : V → M → Prop} {rz : Bool} (hS : Pre f m) (ha100 : Sl f ca100 l) (ha200 : Fv_Vis_Bool f ca200 p) (hp : pcontainsV l p = some rz) (hq : ∀ m', Ext m m' → Q (.c (.bool rz)) m') : Wc prog tbl 102 [.c ca100, .c ca200] m Q := by
 have e := hS.st
 obtain ⟨g, _⟩ : ∃ τ : Nat → Nat, True := ⟨fun _ => 0, trivial⟩
 refine w102 ?_
 unfold pcontainsV at hp
 obtain ⟨h, a, hp⟩ := bsome hp
 refine s_indexV (l := l) (p := p) e.pre ha100 ha200 a fun j b => ?_
 obtain ⟨d, i⟩ := e.call b g
 refine ⟨_, rfl, ?_⟩
 obtain rfl := Option.some.inj hp
 exact hq _ d.ext'
theorem s_eachV {l : List Vis} {passes : Vis → Option (Bool)} {ca100 ca200 : C} {m f : M} {Q : V → M → Prop} {rz : Bool} (hS : Pre f m) (ha100 : Sl f ca100 l) (ha200 : Fv_Vis_Bool f ca200 passes) (hp : peachV l passes = some rz) (hq : ∀ m', Ext m m' → Q (.c (.bool rz)) m') : Wc prog tbl 81 [.c ca100, .c ca200] m Q := by
 have u := hS.st
 obtain ⟨x, _⟩ : ∃ τ : Nat → Nat, True := ⟨fun _ => 0, trivial⟩
 refine w81 ?_
 unfold peachV at hp
 intro B h
 obtain ⟨i, j, y, n⟩ := u.blk h x 1
 obtain ⟨o, b, d, e⟩ := n.freeze j
 have g : Fv_Vis_Bool o ((C.fn (Fn.func 103) [] [(W.c (C0.ptr m.nxt 0))])) (fun a => peachV1 a passes) := by
  intro f' m' a r Q hs hpre  hg hq
  exact s_eachV1 hpre (e.sub hs) ((ha200.sub d.fs).sub hs) hg hq
 obtain ⟨z, q, hp⟩ := bsome hp
 refine s_containsV (l := l) (p := (fun a => peachV1 a passes)) b.pre (ha100.sub d.fs) g q fun D s => ?_
 obtain ⟨t, A⟩ := b.call s i
 refine ⟨_, rfl, ?_⟩
 obtain rfl := Option.some.inj hp
 exact hq _ t.ext'
theorem s_eachD1 {x : Dm} {passes : Dm → Option (Bool)} {b0 : Nat} {cb000 : C} {m f : M} {Q : V → M → Prop} {rz : Bool} (hS : Pre f m) (hb0 : Bk f b0 1 [cb000]) (hb000 : Fv_Dm_Bool f cb000 passes) (hp : peachD1 x passes = some rz) (hq : ∀ m', Ext m m' → Q (.c (.bool rz)) m') : Wc prog tbl 68 [.agg 13 [(Il x.d0), (Il x.d1), (Il x.d2), (Il x.d3), (Il x.d4), (Il x.d5), (Il x.d6), (Il x.d7), (Il x.d8), (Il x.d9), (Il x.d10), (Il x.d11), (Il x.d12)], .c (.ptr b0 0)] m Q := by
 have j := hS.st
 obtain ⟨l, _⟩ : ∃ τ : Nat → Nat, True := ⟨fun _ => 0, trivial⟩
 refine c68 ?_
 unfold peachD1 at hp
 intro r b
 obtain ⟨d, a, n, e⟩ := j.blk b l 1
 refine ⟨_, (hb0.sub a.sub).rc rfl, _, _, _, _, _, _, _, _, _, _, _, _, _, e.bk.ra, ?_⟩
 obtain ⟨o, g, hp⟩ := bsome hp
 refine hb000 _ _ _ _ _ (Sub.refl _) a.pre  g fun q h => ?_
 obtain ⟨i, p⟩ := a.call h d
 refine ⟨_, rfl, ?_⟩
 obtain rfl := Option.some.inj hp
 exact hq _ i.ext'
theorem s_indexD {l : List Dm} {p : Dm → Option (Bool)} {ca100 ca200 : C} {m f : M} {Q : V → M → Prop} {rz : Int} (hS : Pre f m) (ha100 : Sl f ca100 l) (ha200 : Fv_Dm_Bool f ca200 p) (hp : pindexD l p = some rz) (hq : ∀ m', Ext m m' → Q (.c (Il rz)) m') : Wc prog tbl 69 [.c ca100, .c ca200] m Q := by
 have A := hS.st
 obtain ⟨B, _⟩ : ∃ τ : Nat → Nat, True := ⟨fun _ => 0, trivial⟩
 refine w69 ?_
 unfold pindexD at hp
 refine ⟨ha100.isSl, ?_⟩
 intro D z
 have hgo : ∀ (b : Nat) (o : Int) (i : Int) (j : M) (d : Nat → Nat), St (Fm.of m) f f j → pindexD_L0 l p b i = some rz → D [.c (Il o), .c (Il i)] j := by
  intro b
  induction b with
  | zero => intro o i j d a hp; cases hp
  | succ b q =>
   intro o i j d a hp
   refine z _ _ _ ?_
   rw [pindexD_L0] at hp
   try rw [ha100.slLen]
   refine ifd hp (fun r hp => ?_) fun r hp => ?_; rotate_left
   ·obtain rfl := Option.some.inj hp
    exact hq _ a.ext'
   obtain ⟨F, e, hp⟩ := bsome hp
   obtain ⟨G, n, g, e⟩ := idx_some e
   obtain ⟨_, s⟩ := rd_Dm ha100 e
   refine ⟨G, n, (by first | exact g | (rw [ha100.slLen]; exact g)), _, _, _, _, _, _, _, _, _, _, _, _, _, (s _ a.sub).1, ?_⟩
   obtain ⟨I, t, hp⟩ := bsome hp
   refine ha200 _ _ _ _ _ (Sub.refl _) a.pre  t fun N u => ?_
   obtain ⟨h, J⟩ := a.call u d
   refine ⟨_, rfl, ?_⟩
   refine ifbb hp (fun x hp => ?_) fun x hp => ?_
   ·obtain rfl := Option.some.inj hp
    exact hq _ h.ext'
   refine gdi hp fun y hp => ?_
   exact q _ _ _ d h hp
 exact hgo _ _ _ _ B A hp
theorem s_containsD {l : List Dm} {p : Dm → Option (Bool)} {ca100 ca200 : C} {m f : M} {Q : V → M → Prop} {rz : Bool} (hS : Pre f m) (ha100 : Sl f ca100 l) (ha200 : Fv_Dm_Bool f ca200 p) (hp : pcontainsD l p = some rz) (hq : ∀ m', Ext m m' → Q (.c (.bool rz)) m') : Wc prog tbl 38 [.c ca100, .c ca200] m Q := by
 have e := hS.st
 obtain ⟨g, _⟩ : ∃ τ : Nat → Nat, True := ⟨fun _ => 0, trivial⟩
 refine w38 ?_
 unfold pcontainsD at hp
 obtain ⟨h, a, hp⟩ := bsome hp
 refine s_indexD (l := l) (p := p) e.pre ha100 ha200 a fun j b => ?_
 obtain ⟨d, i⟩ := e.call b g
 refine ⟨_, rfl, ?_⟩
 obtain rfl := Option.some.inj hp
 exact hq _ d.ext'
theorem s_eachD {l : List Dm} {passes : Dm → Option (Bool)} {ca100 ca200 : C} {m f : M} {Q : V → M → Prop} {rz : Bool} (hS : Pre f m) (ha100 : Sl f ca100 l) (ha200 : Fv_Dm_Bool f ca200 passes) (hp : peachD l passes = some rz) (hq : ∀ m', Ext m m' → Q (.c (.bool rz)) m') : Wc prog tbl 37 [.c ca100, .c ca200] m Q := by
 have u := hS.st
 obtain ⟨x, _⟩ : ∃ τ : Nat → Nat, True := ⟨fun _ => 0, trivial⟩
 refine w37 ?_
 unfold peachD at hp
 intro B h
 obtain ⟨i, j, y, n⟩ := u.blk h x 1
 obtain ⟨o, b, d, e⟩ := n.freeze j
 have g : Fv_Dm_Bool o ((C.fn (Fn.func 68) [] [(W.c (C0.ptr m.nxt 0))])) (fun a => peachD1 a passes) := by
  intro f' m' a r Q hs hpre  hg hq
  exact s_eachD1 hpre (e.sub hs) ((ha200.sub d.fs).sub hs) hg hq
 obtain ⟨z, q, hp⟩ := bsome hp
 refine s_containsD (l := l) (p := (fun a => peachD1 a passes)) b.pre (ha100.sub d.fs) g q fun D s => ?_
 obtain ⟨t, A⟩ := b.call s i
 refine ⟨_, rfl, ?_⟩
 obtain rfl := Option.some.inj hp
 exact hq _ t.ext'
theorem s_validRule {s : Ssn} {rule : List Int} {ca101 ca102 ca103 ca200 : C} {m f : M} {Q : V → M → Prop} {rz : Bool} (hS : Pre f m) (_ha101 : Sl f ca101 s.Rules) (_ha102 : Sl f ca102 s.Fields) (_ha103 : Sl f ca103 s.Visits) (ha200 : Sl f ca200 rule) (hp : pvalidRule s rule = some rz) (hq : ∀ m', Ext m m' → Q (.c (.bool rz)) m') : Wc prog tbl 88 [.agg 4 [(Il s.Last), ca101, ca102, ca103], .c ca200] m Q := by
 have q := hS.st
 obtain ⟨t, _⟩ : ∃ τ : Nat → Nat, True := ⟨fun _ => 0, trivial⟩
 refine w88 ?_
 unfold pvalidRule at hp
 intro z e
 obtain ⟨g, b, u, h⟩ := q.blk e t 1
 refine ⟨ha200.isSl, trivial, _, h.bk.rc rfl, ?_⟩
 refine gdi hp fun i hp => ?_
 try rw [ha200.slLen]
 refine ifd hp (fun j hp => ?_) fun j hp => ?_; rotate_left
 ·obtain rfl := Option.some.inj hp
  exact hq _ b.ext'
 have d : Fv_Int_Bool f ((C.fn (Fn.func 33) [] [])) (fun a => pisHundredths a) := by
  intro f' m' a r Q hs hpre  hg hq
  exact s_isHundredths hpre  hg hq
 obtain ⟨x, n, hp⟩ := bsome hp
 refine s_eachI (l := rule) (passes := (fun a => pisHundredths a)) b.pre ha200 d n fun A o => ?_
 obtain ⟨p, y⟩ := b.call o g
 refine ⟨_, rfl, ?_⟩
 obtain rfl := Option.some.inj hp
 exact hq _ p.ext'
theorem s_validField {s : Ssn} {fl : Fld} {ca101 ca102 ca103 : C} {m f : M} {Q : V → M → Prop} {rz : Bool} (hS : Pre f m) (ha101 : Sl f ca101 s.Rules) (_ha102 : Sl f ca102 s.Fields) (_ha103 : Sl f ca103 s.Visits) (hp : pvalidField s fl = some rz) (hq : ∀ m', Ext m m' → Q (.c (.bool rz)) m') : Wc prog tbl 89 [.agg 4 [(Il s.Last), ca101, ca102, ca103], .agg 7 [(Il fl.Crop), (Il fl.Week.Lo), (Il fl.Week.Hi), (Il fl.Damage.Lo), (Il fl.Damage.Hi), (Il fl.Old.Lo), (Il fl.Old.Hi)]] m Q := by
 have S0 := hS.st
 obtain ⟨τ0, _⟩ : ∃ τ : Nat → Nat, True := ⟨fun _ => 0, trivial⟩
 refine w89 ?_
 unfold pvalidField at hp
 intro m0 T
 obtain ⟨Y, Z, ka, aa⟩ := S0.blk T τ0 1
 intro m1 ba
 obtain ⟨a, q, ca, g⟩ := Z.blk ba Y 2
 have h := aa.k ca
 refine ⟨trivial, _, h.bk.rc rfl, ha101.isSl, ?_⟩
 obtain ⟨i, hp⟩ := gd_some hp
 refine ⟨(by first | exact i | (rw [ha101.slLen]; exact i)), trivial, _, g.bk.rc rfl, ?_⟩
 try rw [ha101.slLen]
 obtain ⟨da, t, hp⟩ := bsome hp
 refine s_has (r := ({ Lo := (0 : Int), Hi := ((s.Rules.length : Int) - (1 : Int)) } : Rg)) (n := fl.Crop) q.pre  t fun m5 u => ?_
 obtain ⟨b, l⟩ := q.call u a
 have x := h.k l
 have o := g.k l
 refine ⟨_, rfl, ?_⟩
 refine ifbb hp (fun y hp => ?_) fun y hp => ?_; rotate_left
 ·obtain rfl := Option.some.inj hp
  exact hq _ b.ext'
 refine ⟨trivial, _, _, o.bk.rp (k := 1) (j := 2) rfl (by omega), trivial, _, x.bk.rc rfl, ?_⟩
 obtain ⟨ea, z, hp⟩ := bsome hp
 refine s_within (r := fl.Week) (low := (0 : Int)) (high := s.Last) b.pre  z fun la A => ?_
 obtain ⟨d, B⟩ := b.call A a
 have p := o.k B
 refine ⟨_, rfl, ?_⟩
 refine ifbb hp (fun D hp => ?_) fun D hp => ?_; rotate_left
 ·obtain rfl := Option.some.inj hp
  exact hq _ d.ext'
 refine ⟨trivial, _, _, p.bk.rp (k := 3) (j := 2) rfl (by omega), ?_⟩
 obtain ⟨fa, F, hp⟩ := bsome hp
 refine s_within (r := fl.Damage) (low := (0 : Int)) (high := (100 : Int)) d.pre  F fun ma G => ?_
 obtain ⟨e, I⟩ := d.call G a
 have J := p.k I
 refine ⟨_, rfl, ?_⟩
 refine ifbb hp (fun N hp => ?_) fun N hp => ?_; rotate_left
 ·obtain rfl := Option.some.inj hp
  exact hq _ e.ext'
 refine ⟨trivial, _, _, J.bk.rp (k := 5) (j := 2) rfl (by omega), ?_⟩
 obtain ⟨ga, O, hp⟩ := bsome hp
 refine s_within (r := fl.Old) (low := (0 : Int)) (high := (100 : Int)) e.pre  O fun na P => ?_
 obtain ⟨S, ha⟩ := e.call P a
 refine ⟨_, rfl, ?_⟩
 obtain rfl := Option.some.inj hp
 exact hq _ S.ext'
theorem s_validVisit {s : Ssn} {v : Vis} {ca101 ca102 ca103 : C} {m f : M} {Q : V → M → Prop} {rz : Bool} (hS : Pre f m) (ha101 : Sl f ca101 s.Rules) (ha102 : Sl f ca102 s.Fields) (ha103 : Sl f ca103 s.Visits) (hp : pvalidVisit s v = some rz) (hq : ∀ m', Ext m m' → Q (.c (.bool rz)) m') : Wc prog tbl 90 [.agg 4 [(Il s.Last), ca101, ca102, ca103], .agg 4 [(Il v.Field), (Il v.Week), (Il v.Seen.Lo), (Il v.Seen.Hi)]] m Q := by
 have S0 := hS.st
 obtain ⟨τ0, _⟩ : ∃ τ : Nat → Nat, True := ⟨fun _ => 0, trivial⟩
 refine w90 ?_
 unfold pvalidVisit at hp
 intro m0 o
 obtain ⟨p, q, S, t⟩ := S0.blk o τ0 1
 intro m1 u
 obtain ⟨a, e, x, g⟩ := q.blk u p 2
 have h := t.k x
 refine ⟨_, _, _, _, h.bk.ra, trivial, _, g.bk.rc rfl, ?_⟩
 obtain ⟨T, y, hp⟩ := bsome hp
 refine s_hasField (s := s) (n := v.Field) e.pre ha101 ha102 ha103 y fun m8 z => ?_
 obtain ⟨b, i⟩ := e.call z a
 have A := h.k i
 have l := g.k i
 refine ⟨_, rfl, ?_⟩
 refine ifbb hp (fun B hp => ?_) fun B hp => ?_; rotate_left
 ·obtain rfl := Option.some.inj hp
  exact hq _ b.ext'
 refine ⟨_, _, _, _, A.bk.ra, trivial, _, l.bk.rc rfl, ?_⟩
 obtain ⟨Y, D, hp⟩ := bsome hp
 refine s_hasWeek (s := s) (n := v.Week) b.pre ha101 ha102 ha103 D fun da F => ?_
 obtain ⟨d, G⟩ := b.call F a
 have I := l.k G
 refine ⟨_, rfl, ?_⟩
 refine ifbb hp (fun J hp => ?_) fun J hp => ?_; rotate_left
 ·obtain rfl := Option.some.inj hp
  exact hq _ d.ext'
 refine ⟨trivial, _, _, I.bk.rp (k := 2) (j := 2) rfl (by omega), ?_⟩
 obtain ⟨Z, N, hp⟩ := bsome hp
 refine s_within (r := v.Seen) (low := (0 : Int)) (high := (100 : Int)) d.pre  N fun ea O => ?_
 obtain ⟨P, aa⟩ := d.call O a
 refine ⟨_, rfl, ?_⟩
 obtain rfl := Option.some.inj hp
 exact hq _ P.ext'
theorem s_hasFew {fl : Fld} {m f : M} {Q : V → M → Prop} {rz : Bool} (hS : Pre f m)  (hp : phasFew fl = some rz) (hq : ∀ m', Ext m m' → Q (.c (.bool rz)) m') : Wc prog tbl 58 [.agg 7 [(Il fl.Crop), (Il fl.Week.Lo), (Il fl.Week.Hi), (Il fl.Damage.Lo), (Il fl.Damage.Hi), (Il fl.Old.Lo), (Il fl.Old.Hi)]] m Q := by
 have S := hS.st
 obtain ⟨T, _⟩ : ∃ τ : Nat → Nat, True := ⟨fun _ => 0, trivial⟩
 refine w58 ?_
 unfold phasFew at hp
 intro Z i
 obtain ⟨b, e, I, a⟩ := S.blk i T 1
 refine ⟨trivial, _, _, a.bk.rp (k := 1) (j := 2) rfl (by omega), ?_⟩
 obtain ⟨J, l, hp⟩ := bsome hp
 refine s_count (r := fl.Week) e.pre  l fun m4 n => ?_
 obtain ⟨g, o⟩ := e.call n b
 have d := a.k o
 refine ⟨_, rfl, trivial, _, _, d.bk.rp (k := 3) (j := 2) rfl (by omega), (a.bk.rp (k := 3) (j := 2) rfl (by omega)), ?_⟩
 obtain ⟨N, p, hp⟩ := bsome hp
 refine s_count (r := fl.Damage) g.pre  p fun m9 q => ?_
 obtain ⟨h, s⟩ := g.call q b
 have t := d.k s
 refine ⟨_, rfl, ?_⟩
 refine gdi hp fun u hp => ?_
 refine gdi hp fun x hp => ?_
 obtain ⟨y, hp⟩ := gd_some hp
 refine ⟨y, trivial, _, _, t.bk.rp (k := 5) (j := 2) rfl (by omega), (d.bk.rp (k := 5) (j := 2) rfl (by omega)), (a.bk.rp (k := 5) (j := 2) rfl (by omega)), ?_⟩
 obtain ⟨O, z, hp⟩ := bsome hp
 refine s_count (r := fl.Old) h.pre  z fun Y A => ?_
 obtain ⟨B, P⟩ := h.call A b
 refine ⟨_, rfl, ?_⟩
 refine gdi hp fun D hp => ?_
 refine gdi hp fun F hp => ?_
 refine gdi hp fun G hp => ?_
 obtain rfl := Option.some.inj hp
 exact hq _ B.ext'
theorem s_isChoice {fl : Fld} {t : Trh} {m f : M} {Q : V → M → Prop} {rz : Bool} (hS : Pre f m)  (hp : pisChoice fl t = some rz) (hq : ∀ m', Ext m m' → Q (.c (.bool rz)) m') : Wc prog tbl 80 [.agg 7 [(Il fl.Crop), (Il fl.Week.Lo), (Il fl.Week.Hi), (Il fl.Damage.Lo), (Il fl.Damage.Hi), (Il fl.Old.Lo), (Il fl.Old.Hi)], .agg 3 [(Il t.Week), (Il t.Damage), (Il t.Old)]] m Q := by
 have S0 := hS.st
 obtain ⟨τ0, _⟩ : ∃ τ : Nat → Nat, True := ⟨fun _ => 0, trivial⟩
 refine w80 ?_
 unfold pisChoice at hp
 intro m0 q
 obtain ⟨s, u, T, x⟩ := S0.blk q τ0 1
 intro m1 y
 obtain ⟨a, e, z, g⟩ := u.blk y s 2
 have h := x.k z
 refine ⟨trivial, _, _, h.bk.rp (k := 1) (j := 2) rfl (by omega), trivial, _, g.bk.rc rfl, ?_⟩
 obtain ⟨Y, A, hp⟩ := bsome hp
 refine s_has (r := fl.Week) (n := t.Week) e.pre  A fun m6 B => ?_
 obtain ⟨b, i⟩ := e.call B a
 have l := h.k i
 have o := g.k i
 refine ⟨_, rfl, ?_⟩
 refine ifbb hp (fun D hp => ?_) fun D hp => ?_; rotate_left
 ·obtain rfl := Option.some.inj hp
  exact hq _ b.ext'
 refine ⟨trivial, _, _, l.bk.rp (k := 3) (j := 2) rfl (by omega), trivial, _, o.bk.rc rfl, ?_⟩
 obtain ⟨Z, F, hp⟩ := bsome hp
 refine s_has (r := fl.Damage) (n := t.Damage) b.pre  F fun ea G => ?_
 obtain ⟨d, p⟩ := b.call G a
 have I := l.k p
 have J := o.k p
 refine ⟨_, rfl, ?_⟩
 refine ifbb hp (fun N hp => ?_) fun N hp => ?_; rotate_left
 ·obtain rfl := Option.some.inj hp
  exact hq _ d.ext'
 refine ⟨trivial, _, _, I.bk.rp (k := 5) (j := 2) rfl (by omega), trivial, _, J.bk.rc rfl, ?_⟩
 obtain ⟨aa, O, hp⟩ := bsome hp
 refine s_has (r := fl.Old) (n := t.Old) d.pre  O fun fa P => ?_
 obtain ⟨S, ba⟩ := d.call P a
 refine ⟨_, rfl, ?_⟩
 obtain rfl := Option.some.inj hp
 exact hq _ S.ext'
theorem s_valid {s : Ssn} {ca101 ca102 ca103 : C} {m f : M} {Q : V → M → Prop} {rz : Bool} (hS : Pre f m) (ha101 : Sl f ca101 s.Rules) (ha102 : Sl f ca102 s.Fields) (ha103 : Sl f ca103 s.Visits) (hp : pvalid s = some rz) (hq : ∀ m', Ext m m' → Q (.c (.bool rz)) m') : Wc prog tbl 56 [.agg 4 [(Il s.Last), ca101, ca102, ca103]] m Q := by
 have S0 := hS.st
 obtain ⟨τ0, _⟩ : ∃ τ : Nat → Nat, True := ⟨fun _ => 0, trivial⟩
 refine w56 ?_
 unfold pvalid at hp
 intro m0 u
 obtain ⟨h, b, ha, a⟩ := S0.blk u τ0 1
 refine ⟨trivial, _, a.bk.rc rfl, ?_⟩
 refine ifd hp (fun x hp => ?_) fun x hp => ?_; rotate_left
 ·obtain rfl := Option.some.inj hp
  exact hq _ b.ext'
 refine ⟨trivial, _, a.bk.rc rfl, ha101.isSl, ?_⟩
 try rw [ha101.slLen]
 refine ifd hp (fun y hp => ?_) fun y hp => ?_; rotate_left
 ·obtain rfl := Option.some.inj hp
  exact hq _ b.ext'
 refine ⟨trivial, _, a.bk.rc rfl, ha102.isSl, ?_⟩
 try rw [ha102.slLen]
 refine ifd hp (fun z hp => ?_) fun z hp => ?_; rotate_left
 ·obtain rfl := Option.some.inj hp
  exact hq _ b.ext'
 refine ⟨trivial, _, a.bk.rc rfl, _, _, _, _, a.bk.ra, ?_⟩
 obtain ⟨l9, fa, ga⟩ : ∃ ws, mapO vW [.agg 4 [(Il s.Last), ca101, ca102, ca103]] = some ws ∧ mapS wV ws = [.agg 4 [(Il s.Last), ca101, ca102, ca103]] := (vWs_cons (vW_agg (nf_cons rfl (nf_cons ha101.noFn (nf_cons ha102.noFn (nf_cons ha103.noFn nf_nil))))) vWs_nil)
 rw [fa, optB_some]
 have p : Fv_LInt_Bool f ((C.fn (Fn.func 88) l9 [])) (fun d => pvalidRule s d) := by
  intro f' m' d ia r Q hs hpre A hg hq
  show Wc prog tbl 88 (appS (mapS wV l9) _) m' Q
  rw [ga]
  exact s_validRule hpre (ha101.sub hs) (ha102.sub hs) (ha103.sub hs) A hg hq
 obtain ⟨ja, B, hp⟩ := bsome hp
 refine s_eachL (l := s.Rules) (passes := (fun d => pvalidRule s d)) b.pre ha101 p B fun pa D => ?_
 obtain ⟨i, F⟩ := b.call D h
 have j := a.k F
 refine ⟨_, rfl, ?_⟩
 refine ifbb hp (fun G hp => ?_) fun G hp => ?_; rotate_left
 ·obtain rfl := Option.some.inj hp
  exact hq _ i.ext'
 refine ⟨trivial, _, j.bk.rc rfl, _, _, _, _, j.bk.ra, ?_⟩
 obtain ⟨Y, aa, ba⟩ : ∃ ws, mapO vW [.agg 4 [(Il s.Last), ca101, ca102, ca103]] = some ws ∧ mapS wV ws = [.agg 4 [(Il s.Last), ca101, ca102, ca103]] := (vWs_cons (vW_agg (nf_cons rfl (nf_cons ha101.noFn (nf_cons ha102.noFn (nf_cons ha103.noFn nf_nil))))) vWs_nil)
 rw [aa, optB_some]
 have q : Fv_Fld_Bool f ((C.fn (Fn.func 89) Y [])) (fun e => pvalidField s e) := by
  intro f' m' e r Q hs hpre  hg hq
  show Wc prog tbl 89 (appS (mapS wV Y) _) m' Q
  rw [ba]
  exact s_validField hpre (ha101.sub hs) (ha102.sub hs) (ha103.sub hs) hg hq
 obtain ⟨ka, I, hp⟩ := bsome hp
 refine s_eachF (l := s.Fields) (passes := (fun e => pvalidField s e)) i.pre ha102 q I fun qa J => ?_
 obtain ⟨n, N⟩ := i.call J h
 have o := j.k N
 refine ⟨_, rfl, ?_⟩
 refine ifbb hp (fun O hp => ?_) fun O hp => ?_; rotate_left
 ·obtain rfl := Option.some.inj hp
  exact hq _ n.ext'
 refine ⟨trivial, _, o.bk.rc rfl, _, _, _, _, o.bk.ra, ?_⟩
 obtain ⟨Z, ca, da⟩ : ∃ ws, mapO vW [.agg 4 [(Il s.Last), ca101, ca102, ca103]] = some ws ∧ mapS wV ws = [.agg 4 [(Il s.Last), ca101, ca102, ca103]] := (vWs_cons (vW_agg (nf_cons rfl (nf_cons ha101.noFn (nf_cons ha102.noFn (nf_cons ha103.noFn nf_nil))))) vWs_nil)
 rw [ca, optB_some]
 have t : Fv_Vis_Bool f ((C.fn (Fn.func 90) Z [])) (fun g => pvalidVisit s g) := by
  intro f' m' g r Q hs hpre  hg hq
  show Wc prog tbl 90 (appS (mapS wV Z) _) m' Q
  rw [da]
  exact s_validVisit hpre (ha101.sub hs) (ha102.sub hs) (ha103.sub hs) hg hq
 obtain ⟨la, P, hp⟩ := bsome hp
 refine s_eachV (l := s.Visits) (passes := (fun g => pvalidVisit s g)) n.pre ha103 t P fun sa S => ?_
 obtain ⟨T, ma⟩ := n.call S h
 refine ⟨_, rfl, ?_⟩
 obtain rfl := Option.some.inj hp
 exact hq _ T.ext'
theorem s_check {s : Ssn} {ca101 ca102 ca103 : C} {m f : M} {Q : V → M → Prop} {rz : Int} (hS : Pre f m) (ha101 : Sl f ca101 s.Rules) (ha102 : Sl f ca102 s.Fields) (ha103 : Sl f ca103 s.Visits) (hp : pcheck s = some rz) (hq : ∀ m', Ext m m' → Q (.c (Il rz)) m') : Wc prog tbl 20 [.agg 4 [(Il s.Last), ca101, ca102, ca103]] m Q := by
 have S := hS.st
 obtain ⟨T, _⟩ : ∃ τ : Nat → Nat, True := ⟨fun _ => 0, trivial⟩
 refine w20 ?_
 unfold pcheck at hp
 intro m0 o
 obtain ⟨b, g, I, h⟩ := S.blk o T 1
 refine ⟨_, _, _, _, h.bk.ra, ?_⟩
 obtain ⟨J, p, hp⟩ := bsome hp
 refine s_tooMany (s := s) g.pre ha101 ha102 ha103 p fun m6 q => ?_
 obtain ⟨d, t⟩ := g.call q b
 have i := h.k t
 refine ⟨_, rfl, ?_⟩
 refine ifbb hp (fun u hp => ?_) fun u hp => ?_
 ·obtain rfl := Option.some.inj hp
  exact hq _ d.ext'
 refine ⟨_, _, _, _, i.bk.ra, ?_⟩
 obtain ⟨N, x, hp⟩ := bsome hp
 refine s_valid (s := s) d.pre ha101 ha102 ha103 x fun Y y => ?_
 obtain ⟨e, z⟩ := d.call y b
 have A := i.k z
 refine ⟨_, rfl, ?_⟩
 refine ifnb hp (fun B hp => ?_) fun B hp => ?_
 ·obtain rfl := Option.some.inj hp
  exact hq _ e.ext'
 refine ⟨trivial, _, A.bk.rc rfl, ?_⟩
 have n : Fv_Fld_Bool f ((C.fn (Fn.func 58) [] [])) (fun a => phasFew a) := by
  intro f' m' a r Q hs hpre  hg hq
  exact s_hasFew hpre  hg hq
 obtain ⟨O, D, hp⟩ := bsome hp
 refine s_eachF (l := s.Fields) (passes := (fun a => phasFew a)) e.pre ha102 n D fun Z F => ?_
 obtain ⟨j, P⟩ := e.call F b
 refine ⟨_, rfl, ?_⟩
 refine ifnb hp (fun G hp => ?_) fun G hp => ?_
 ·obtain rfl := Option.some.inj hp
  exact hq _ j.ext'
 obtain rfl := Option.some.inj hp
 exact hq _ j.ext'
theorem s_grow {s : Ssn} {p : Plt} {ca101 ca102 ca103 : C} {m f : M} {Q : V → M → Prop} {rz : Dm} (hS : Pre f m) (ha101 : Sl f ca101 s.Rules) (_ha102 : Sl f ca102 s.Fields) (_ha103 : Sl f ca103 s.Visits) (hp : pgrow s p = some rz) (hq : ∀ m', Ext m m' → Q (.agg 13 [(Il rz.d0), (Il rz.d1), (Il rz.d2), (Il rz.d3), (Il rz.d4), (Il rz.d5), (Il rz.d6), (Il rz.d7), (Il rz.d8), (Il rz.d9), (Il rz.d10), (Il rz.d11), (Il rz.d12)]) m') : Wc prog tbl 78 [.agg 4 [(Il s.Last), ca101, ca102, ca103], .agg 4 [(Il p.t.Week), (Il p.t.Damage), (Il p.t.Old), (Il p.crop)]] m Q := by
 have S0 := hS.st
 obtain ⟨τ0, _⟩ : ∃ τ : Nat → Nat, True := ⟨fun _ => 0, trivial⟩
 refine w78 ?_
 unfold pgrow at hp
 intro m0 qa
 obtain ⟨sa, ta, Fb, ua⟩ := S0.blk qa τ0 1
 intro m1 va
 obtain ⟨wa, xa, ya, za⟩ := ta.blk va sa 2
 have Aa := ua.k ya
 intro m2 Ba
 obtain ⟨Ca, Da, ma, Ea⟩ := xa.blk Ba wa 3
 have Fa := Aa.k ma
 have Ga := za.k ma
 intro m3 Ha
 obtain ⟨Ia, Ja, N, F⟩ := Da.blk Ha Ca 4
 have D := Fa.k N
 have A := Ga.k N
 have G := Ea.k N
 intro R4 zb
 have hgo : ∀ (J : Nat) (a : Int) (x6 : Int) (b : Int) (e : Int) (g : Int) (h : Int) (i : Int) (j : Int) (n : Int) (o : Int) (q : Int) (r : Int) (u : Int) (x : Int) (y : Int) (z : Int) (m8 : M) (B : Nat → Nat), St (Fm.of m) f f m8 → Lb (Fm.of m) f B m8 1 m.nxt 4 [(Il s.Last), ca101, ca102, ca103] → Lb (Fm.of m) f B m8 2 m0.nxt 4 [(Il p.t.Week), (Il p.t.Damage), (Il p.t.Old), (Il p.crop)] → Lb (Fm.of m) f B m8 3 m1.nxt 13 [(Il 0), (Il 0), (Il 0), (Il 0), (Il 0), (Il 0), (Il 0), (Il 0), (Il 0), (Il 0), (Il 0), (Il 0), (Il 0)] → Lb (Fm.of m) f B m8 4 m2.nxt 13 [(Il e), (Il g), (Il h), (Il i), (Il j), (Il n), (Il o), (Il q), (Il r), (Il u), (Il x), (Il y), (Il z)] → pgrow_L0 s p J e g h i j n o q r u x y z a b = some rz → R4 [.c (Il a), .c (Il x6), .c (Il b)] m8 := by
  intro J
  induction J with
  | zero => intro a x6 b e g h i j n o q r u x y z m8 B I D A G F hp; cases hp
  | succ J la =>
   intro a x6 b e g h i j n o q r u x y z m8 B I D A G F hp
   refine zb _ _ _ _ ?_
   rw [pgrow_L0] at hp
   refine ifd hp (fun Ka hp => ?_) fun Ka hp => ?_; rotate_left
   ·refine ⟨_, _, _, _, _, _, _, _, _, _, _, _, _, F.bk.ra, ?_⟩
    obtain ⟨La, Ma, Na, Gb, Oa⟩ := G.sto I [(Il e), (Il g), (Il h), (Il i), (Il j), (Il n), (Il o), (Il q), (Il r), (Il u), (Il x), (Il y), (Il z)]
    refine ⟨La, Ma, ?_⟩
    refine ⟨_, _, _, _, _, _, _, _, _, _, _, _, _, Oa.bk.ra, ?_⟩
    obtain rfl := Option.some.inj hp
    exact hq _ Na.ext'
   refine ⟨trivial, trivial, _, A.bk.rc rfl, ?_⟩
   refine ifd hp (fun Pa hp => ?_) fun Pa hp => ?_
   ·refine ⟨trivial, trivial, _, A.bk.rc rfl, trivial, ?_⟩
    obtain ⟨Qa, hp⟩ := gd_some hp
    obtain ⟨Ab, da, ea⟩ := arr_no Qa
    refine ⟨Ab, da, ea, ?_⟩
    obtain ⟨Ra, Sa, Ta, O, P⟩ := F.sta I (pre := []) (post := []) (l := ([e, g, h, i, j, n, o, q, r, u, x, y, z] : List Int)) (enc := (C.int .i64)) rfl rfl da ea p.t.Damage
    replace P : Lb _ _ _ _ _ _ _ [(Il (sti b 0 p.t.Damage e)), (Il (sti b 1 p.t.Damage g)), (Il (sti b 2 p.t.Damage h)), (Il (sti b 3 p.t.Damage i)), (Il (sti b 4 p.t.Damage j)), (Il (sti b 5 p.t.Damage n)), (Il (sti b 6 p.t.Damage o)), (Il (sti b 7 p.t.Damage q)), (Il (sti b 8 p.t.Damage r)), (Il (sti b 9 p.t.Damage u)), (Il (sti b 10 p.t.Damage x)), (Il (sti b 11 p.t.Damage y)), (Il (sti b 12 p.t.Damage z))] := P
    have Ua := D.k O
    have Va := A.k O
    have Wa := G.k O
    refine ⟨Ra, Sa, ?_⟩
    refine gdi hp fun Xa hp => ?_
    exact la _ _ _ _ _ _ _ _ _ _ _ _ _ _ _ _ _ B Ta Ua Va Wa P hp
   refine ⟨trivial, _, D.bk.rc rfl, ?_⟩
   refine ifd hp (fun Ya hp => ?_) fun Ya hp => ?_; rotate_left
   ·refine ⟨trivial, ?_⟩
    obtain ⟨Za, hp⟩ := gd_some hp
    obtain ⟨Bb, fa, ga⟩ := arr_no Za
    refine ⟨Bb, fa, ga, ?_⟩
    obtain ⟨ab, bb, cb, S, T⟩ := F.sta I (pre := []) (post := []) (l := ([e, g, h, i, j, n, o, q, r, u, x, y, z] : List Int)) (enc := (C.int .i64)) rfl rfl fa ga a
    replace T : Lb _ _ _ _ _ _ _ [(Il (sti b 0 a e)), (Il (sti b 1 a g)), (Il (sti b 2 a h)), (Il (sti b 3 a i)), (Il (sti b 4 a j)), (Il (sti b 5 a n)), (Il (sti b 6 a o)), (Il (sti b 7 a q)), (Il (sti b 8 a r)), (Il (sti b 9 a u)), (Il (sti b 10 a x)), (Il (sti b 11 a y)), (Il (sti b 12 a z))] := T
    have db := D.k S
    have eb := A.k S
    have fb := G.k S
    refine ⟨ab, bb, ?_⟩
    refine gdi hp fun gb hp => ?_
    exact la _ _ _ _ _ _ _ _ _ _ _ _ _ _ _ _ _ B cb db eb fb T hp
   refine ⟨trivial, _, D.bk.rc rfl, trivial, _, A.bk.rc rfl, ?_⟩
   obtain ⟨Hb, Y, hp⟩ := bsome hp
   obtain ⟨Cb, oa, ha, Y⟩ := idx_some Y
   obtain ⟨Ib, hb, na⟩ := ha101.rdS Y
   refine ⟨Cb, oa, (by first | exact ha | (rw [ha101.slLen]; exact ha)), _, (hb _ I.sub), ?_⟩
   obtain ⟨d, Z, hp⟩ := bsome hp
   obtain ⟨Db, pa, ia, Z⟩ := idx_some Z
   refine ⟨Db, pa, (by first | exact ia | (rw [na.slLen]; exact ia)), _, (na.rdI Z I.sub), ?_⟩
   refine gdi hp fun ib hp => ?_
   refine gdi hp fun jb hp => ?_
   refine gdi hp fun kb hp => ?_
   refine gdi hp fun mb hp => ?_
   refine gdi hp fun nb hp => ?_
   refine gdi hp fun ob hp => ?_
   obtain ⟨pb, hp⟩ := gd_some hp
   refine ⟨pb, trivial, ?_⟩
   obtain ⟨qb, hp⟩ := gd_some hp
   obtain ⟨Eb, ja, ka⟩ := arr_no qb
   refine ⟨Eb, ja, ka, ?_⟩
   obtain ⟨rb, sb, tb, aa, ba⟩ := F.sta I (pre := []) (post := []) (l := ([e, g, h, i, j, n, o, q, r, u, x, y, z] : List Int)) (enc := (C.int .i64)) rfl rfl ja ka ((a - ((a * d) / (100 : Int))))
   replace ba : Lb _ _ _ _ _ _ _ [(Il (sti b 0 (a - ((a * d) / (100 : Int))) e)), (Il (sti b 1 (a - ((a * d) / (100 : Int))) g)), (Il (sti b 2 (a - ((a * d) / (100 : Int))) h)), (Il (sti b 3 (a - ((a * d) / (100 : Int))) i)), (Il (sti b 4 (a - ((a * d) / (100 : Int))) j)), (Il (sti b 5 (a - ((a * d) / (100 : Int))) n)), (Il (sti b 6 (a - ((a * d) / (100 : Int))) o)), (Il (sti b 7 (a - ((a * d) / (100 : Int))) q)), (Il (sti b 8 (a - ((a * d) / (100 : Int))) r)), (Il (sti b 9 (a - ((a * d) / (100 : Int))) u)), (Il (sti b 10 (a - ((a * d) / (100 : Int))) x)), (Il (sti b 11 (a - ((a * d) / (100 : Int))) y)), (Il (sti b 12 (a - ((a * d) / (100 : Int))) z))] := ba
   have ub := D.k aa
   have vb := A.k aa
   have wb := G.k aa
   refine ⟨rb, sb, ?_⟩
   refine gdi hp fun xb hp => ?_
   exact la _ _ _ _ _ _ _ _ _ _ _ _ _ _ _ _ _ B tb ub vb wb ba hp
 exact hgo _ _ _ _ _ _ _ _ _ _ _ _ _ _ _ _ _ _ Ia Ja D A G F hp
theorem s_follow {s : Ssn} {field : Int} {t : Trh} {ca101 ca102 ca103 : C} {m f : M} {Q : V → M → Prop} {rz : Crs × Bool} (hS : Pre f m) (ha101 : Sl f ca101 s.Rules) (ha102 : Sl f ca102 s.Fields) (ha103 : Sl f ca103 s.Visits) (hp : pfollow s field t = some rz) (hq : ∀ m', Ext m m' → Q (.tup [.agg 16 [(Il rz.1.t.Week), (Il rz.1.t.Damage), (Il rz.1.t.Old), (Il rz.1.d.d0), (Il rz.1.d.d1), (Il rz.1.d.d2), (Il rz.1.d.d3), (Il rz.1.d.d4), (Il rz.1.d.d5), (Il rz.1.d.d6), (Il rz.1.d.d7), (Il rz.1.d.d8), (Il rz.1.d.d9), (Il rz.1.d.d10), (Il rz.1.d.d11), (Il rz.1.d.d12)], .c (.bool rz.2)]) m') : Wc prog tbl 48 [.agg 4 [(Il s.Last), ca101, ca102, ca103], .c (Il field), .agg 3 [(Il t.Week), (Il t.Damage), (Il t.Old)]] m Q := by
 have S0 := hS.st
 obtain ⟨τ0, _⟩ : ∃ τ : Nat → Nat, True := ⟨fun _ => 0, trivial⟩
 refine w48 ?_
 unfold pfollow at hp
 intro m0 T
 obtain ⟨Y, Z, Wa, aa⟩ := S0.blk T τ0 1
 intro m1 ba
 obtain ⟨ca, da, ea, fa⟩ := Z.blk ba Y 2
 have ga := aa.k ea
 intro m2 ha
 obtain ⟨b, y, z, ia⟩ := da.blk ha ca 3
 have A := ga.k z
 have ja := fa.k z
 refine ⟨_, _, _, _, A.bk.ra, ?_⟩
 obtain ⟨Xa, ka, hp⟩ := bsome hp
 refine s_check (s := s) y.pre ha101 ha102 ha103 ka fun m8 la => ?_
 obtain ⟨i, j⟩ := y.call la b
 have B := A.k j
 have ma := ja.k j
 have D := ia.k j
 refine ⟨_, rfl, ?_⟩
 refine ifnd hp (fun na hp => ?_) fun na hp => ?_
 ·obtain ⟨oa, pa, qa, Ya, sa⟩ := D.sto i [(Il 0), (Il 0), (Il 0), (Il 0), (Il 0), (Il 0), (Il 0), (Il 0), (Il 0), (Il 0), (Il 0), (Il 0), (Il 0), (Il 0), (Il 0), (Il 0)]
  refine ⟨oa, pa, ?_⟩
  refine ⟨_, _, _, _, _, _, _, _, _, _, _, _, _, _, _, _, sa.bk.ra, ?_⟩
  obtain rfl := Option.some.inj hp
  exact hq _ qa.ext'
 refine ⟨_, _, _, _, B.bk.ra, ?_⟩
 obtain ⟨Za, ta, hp⟩ := bsome hp
 refine s_hasField (s := s) (n := field) i.pre ha101 ha102 ha103 ta fun gb ua => ?_
 obtain ⟨e, l⟩ := i.call ua b
 have F := B.k l
 have G := ma.k l
 have I := D.k l
 refine ⟨_, rfl, ?_⟩
 refine ifnb hp (fun va hp => ?_) fun va hp => ?_
 ·obtain ⟨wa, xa, ya, ab, za⟩ := I.sto e [(Il 0), (Il 0), (Il 0), (Il 0), (Il 0), (Il 0), (Il 0), (Il 0), (Il 0), (Il 0), (Il 0), (Il 0), (Il 0), (Il 0), (Il 0), (Il 0)]
  refine ⟨wa, xa, ?_⟩
  refine ⟨_, _, _, _, _, _, _, _, _, _, _, _, _, _, _, _, za.bk.ra, ?_⟩
  obtain rfl := Option.some.inj hp
  exact hq _ ya.ext'
 refine ⟨trivial, _, F.bk.rc rfl, ?_⟩
 obtain ⟨Aa, o, hp⟩ := bsome hp
 obtain ⟨Ua, P, u, o⟩ := idx_some o
 obtain ⟨_, Ba⟩ := rd_Fld ha102 o
 refine ⟨Ua, P, (by first | exact u | (rw [ha102.slLen]; exact u)), _, _, _, _, _, _, _, (Ba _ e.sub).1, _, _, _, G.bk.ra, ?_⟩
 obtain ⟨bb, Ca, hp⟩ := bsome hp
 refine s_isChoice (fl := Aa) (t := t) e.pre  Ca fun hb Da => ?_
 obtain ⟨g, q⟩ := e.call Da b
 have J := F.k q
 have r := G.k q
 have N := I.k q
 refine ⟨_, rfl, ?_⟩
 refine ifnb hp (fun Ea hp => ?_) fun Ea hp => ?_
 ·obtain ⟨Fa, Ga, Ha, cb, Ia⟩ := N.sto g [(Il 0), (Il 0), (Il 0), (Il 0), (Il 0), (Il 0), (Il 0), (Il 0), (Il 0), (Il 0), (Il 0), (Il 0), (Il 0), (Il 0), (Il 0), (Il 0)]
  refine ⟨Fa, Ga, ?_⟩
  refine ⟨_, _, _, _, _, _, _, _, _, _, _, _, _, _, _, _, Ia.bk.ra, ?_⟩
  obtain rfl := Option.some.inj hp
  exact hq _ Ha.ext'
 refine ⟨_, _, _, r.bk.ra, _, _, _, _, J.bk.ra, _, _, _, r.bk.ra, trivial, _, J.bk.rc rfl, ?_⟩
 obtain ⟨Ja, h, hp⟩ := bsome hp
 obtain ⟨Va, S, x, h⟩ := idx_some h
 obtain ⟨_, Ka⟩ := rd_Fld ha102 h
 refine ⟨Va, S, (by first | exact x | (rw [ha102.slLen]; exact x)), (ha102.isPt h _), _, ((Ka _ g.sub).2.1 0 _ rfl), ?_⟩
 obtain ⟨a, La, hp⟩ := bsome hp
 refine s_grow (s := s) (p := ({ t := t, crop := Ja.Crop } : Plt)) g.pre ha101 ha102 ha103 La fun ib Ma => ?_
 obtain ⟨Na, O⟩ := g.call Ma b
 have Oa := r.k O
 have Pa := N.k O
 refine ⟨_, _, _, _, _, _, _, _, _, _, _, _, _, rfl, (Oa.bk.ra), ?_⟩
 obtain ⟨Qa, Ra, Sa, db, Ta⟩ := Pa.sto Na [(Il t.Week), (Il t.Damage), (Il t.Old), (Il a.d0), (Il a.d1), (Il a.d2), (Il a.d3), (Il a.d4), (Il a.d5), (Il a.d6), (Il a.d7), (Il a.d8), (Il a.d9), (Il a.d10), (Il a.d11), (Il a.d12)]
 refine ⟨Qa, Ra, ?_⟩
 refine ⟨_, _, _, _, _, _, _, _, _, _, _, _, _, _, _, _, Ta.bk.ra, ?_⟩
 obtain rfl := Option.some.inj hp
 exact hq _ Sa.ext'
theorem s_harvestD {d : Dm} {m f : M} {Q : V → M → Prop} {rz : Int} (hS : Pre f m)  (hp : pharvestD d = some rz) (hq : ∀ m', Ext m m' → Q (.c (Il rz)) m') : Wc prog tbl 36 [.agg 13 [(Il d.d0), (Il d.d1), (Il d.d2), (Il d.d3), (Il d.d4), (Il d.d5), (Il d.d6), (Il d.d7), (Il d.d8), (Il d.d9), (Il d.d10), (Il d.d11), (Il d.d12)]] m Q := by
 have p := hS.st
 obtain ⟨q, _⟩ : ∃ τ : Nat → Nat, True := ⟨fun _ => 0, trivial⟩
 refine w36 ?_
 unfold pharvestD at hp
 intro s g
 obtain ⟨j, h, n, i⟩ := p.blk g q 1
 refine ⟨trivial, ?_⟩
 obtain ⟨o, a, hp⟩ := bsome hp
 obtain ⟨r, b, e, a⟩ := idx_some a
 refine ⟨r, b, e, _, (i.bk.rc (arr_at (l := ([d.d0, d.d1, d.d2, d.d3, d.d4, d.d5, d.d6, d.d7, d.d8, d.d9, d.d10, d.d11, d.d12] : List Int)) (enc := (C.int .i64)) 0 rfl a)), ?_⟩
 obtain rfl := Option.some.inj hp
 exact hq _ h.ext'
theorem s_seen {c : Crs} {week : Int} {m f : M} {Q : V → M → Prop} {rz : Int} (hS : Pre f m)  (hp : pseen c week = some rz) (hq : ∀ m', Ext m m' → Q (.c (Il rz)) m') : Wc prog tbl 32 [.agg 16 [(Il c.t.Week), (Il c.t.Damage), (Il c.t.Old), (Il c.d.d0), (Il c.d.d1), (Il c.d.d2), (Il c.d.d3), (Il c.d.d4), (Il c.d.d5), (Il c.d.d6), (Il c.d.d7), (Il c.d.d8), (Il c.d.d9), (Il c.d.d10), (Il c.d.d11), (Il c.d.d12)], .c (Il week)] m Q := by
 have q := hS.st
 obtain ⟨r, _⟩ : ∃ τ : Nat → Nat, True := ⟨fun _ => 0, trivial⟩
 refine w32 ?_
 unfold pseen at hp
 intro u h
 obtain ⟨n, i, o, b⟩ := q.blk h r 1
 refine ⟨trivial, trivial, _, b.bk.rc rfl, trivial, trivial, ?_⟩
 obtain ⟨p, a, hp⟩ := bsome hp
 obtain ⟨s, e, g, a⟩ := idx_some a
 refine ⟨s, e, g, _, (b.bk.rc (arr_at (l := ([c.d.d0, c.d.d1, c.d.d2, c.d.d3, c.d.d4, c.d.d5, c.d.d6, c.d.d7, c.d.d8, c.d.d9, c.d.d10, c.d.d11, c.d.d12] : List Int)) (enc := (C.int .i64)) 3 rfl a)), ?_⟩
 refine gdi hp fun j hp => ?_
 obtain rfl := Option.some.inj hp
 exact hq _ i.ext'
theorem s_Harvest {s : Ssn} {field : Int} {t : Trh} {ca101 ca102 ca103 : C} {m f : M} {Q : V → M → Prop} {rz : Int} (hS : Pre f m) (ha101 : Sl f ca101 s.Rules) (ha102 : Sl f ca102 s.Fields) (ha103 : Sl f ca103 s.Visits) (hp : pHarvest s field t = some rz) (hq : ∀ m', Ext m m' → Q (.c (Il rz)) m') : Wc prog tbl 15 [.agg 4 [(Il s.Last), ca101, ca102, ca103], .c (Il field), .agg 3 [(Il t.Week), (Il t.Damage), (Il t.Old)]] m Q := by
 have S0 := hS.st
 obtain ⟨τ0, _⟩ : ∃ τ : Nat → Nat, True := ⟨fun _ => 0, trivial⟩
 refine w15 ?_
 unfold pHarvest at hp
 intro m0 h
 obtain ⟨i, l, S, n⟩ := S0.blk h τ0 1
 intro m1 o
 obtain ⟨e, g, p, q⟩ := l.blk o i 2
 have r := n.k p
 refine ⟨_, _, _, _, r.bk.ra, _, _, _, q.bk.ra, ?_⟩
 obtain ⟨a, u, hp⟩ := bsome hp
 refine s_follow (s := s) (field := field) (t := t) g.pre ha101 ha102 ha103 u fun ea x => ?_
 obtain ⟨y, T⟩ := g.call x e
 refine ⟨_, _, _, _, _, _, _, _, _, _, _, _, _, _, _, _, _, rfl, ?_⟩
 intro fa z
 obtain ⟨A, B, Y, D⟩ := y.blk z e 3
 obtain ⟨F, G, b, Z, I⟩ := D.sto B [(Il a.1.t.Week), (Il a.1.t.Damage), (Il a.1.t.Old), (Il a.1.d.d0), (Il a.1.d.d1), (Il a.1.d.d2), (Il a.1.d.d3), (Il a.1.d.d4), (Il a.1.d.d5), (Il a.1.d.d6), (Il a.1.d.d7), (Il a.1.d.d8), (Il a.1.d.d9), (Il a.1.d.d10), (Il a.1.d.d11), (Il a.1.d.d12)]
 refine ⟨F, G, ?_⟩
 refine ifnb hp (fun J hp => ?_) fun J hp => ?_
 ·obtain rfl := Option.some.inj hp
  exact hq _ b.ext'
 refine ⟨trivial, _, _, _, _, _, _, _, _, _, _, _, _, _, I.bk.rp (k := 3) (j := 13) rfl (by omega), ?_⟩
 obtain ⟨aa, N, hp⟩ := bsome hp
 refine s_harvestD (d := a.1.d) b.pre  N fun ga O => ?_
 obtain ⟨P, ba⟩ := b.call O A
 refine ⟨_, rfl, ?_⟩
 obtain rfl := Option.some.inj hp
 exact hq _ P.ext'
theorem s_allows1 {v : Vis} {field : Int} {b0 : Nat} {c : Crs} {b1 : Nat} {m f : M} {Q : V → M → Prop} {rz : Bool} (hS : Pre f m) (hb0 : Bk f b0 1 [(Il field)]) (hb1 : Bk f b1 16 [(Il c.t.Week), (Il c.t.Damage), (Il c.t.Old), (Il c.d.d0), (Il c.d.d1), (Il c.d.d2), (Il c.d.d3), (Il c.d.d4), (Il c.d.d5), (Il c.d.d6), (Il c.d.d7), (Il c.d.d8), (Il c.d.d9), (Il c.d.d10), (Il c.d.d11), (Il c.d.d12)]) (hp : pallows1 v field c = some rz) (hq : ∀ m', Ext m m' → Q (.c (.bool rz)) m') : Wc prog tbl 82 [.agg 4 [(Il v.Field), (Il v.Week), (Il v.Seen.Lo), (Il v.Seen.Hi)], .c (.ptr b0 0), .c (.ptr b1 0)] m Q := by
 have D := hS.st
 obtain ⟨F, _⟩ : ∃ τ : Nat → Nat, True := ⟨fun _ => 0, trivial⟩
 refine c82 ?_
 unfold pallows1 at hp
 intro J h
 obtain ⟨e, a, z, b⟩ := D.blk h F 1
 refine ⟨trivial, _, b.bk.rc rfl, _, (hb0.sub a.sub).rc rfl, ?_⟩
 refine ifnd hp (fun i hp => ?_) fun i hp => ?_
 ·obtain rfl := Option.some.inj hp
  exact hq _ a.ext'
 refine ⟨trivial, _, _, b.bk.rp (k := 2) (j := 2) rfl (by omega), _, _, _, _, _, _, _, _, _, _, _, _, _, _, _, _, (hb1.sub a.sub).ra, trivial, _, b.bk.rc rfl, ?_⟩
 obtain ⟨l, o, hp⟩ := bsome hp
 refine s_seen (c := c) (week := v.Week) a.pre  o fun G p => ?_
 obtain ⟨g, q⟩ := a.call p e
 have s := b.k q
 refine ⟨_, rfl, (s.bk.rp (k := 2) (j := 2) rfl (by omega)), ?_⟩
 obtain ⟨A, u, hp⟩ := bsome hp
 refine s_has (r := v.Seen) (n := l) g.pre  u fun I x => ?_
 obtain ⟨y, B⟩ := g.call x e
 refine ⟨_, rfl, ?_⟩
 obtain rfl := Option.some.inj hp
 exact hq _ y.ext'
theorem s_allows {s : Ssn} {field : Int} {c : Crs} {ca101 ca102 ca103 : C} {m f : M} {Q : V → M → Prop} {rz : Bool} (hS : Pre f m) (_ha101 : Sl f ca101 s.Rules) (_ha102 : Sl f ca102 s.Fields) (ha103 : Sl f ca103 s.Visits) (hp : pallows s field c = some rz) (hq : ∀ m', Ext m m' → Q (.c (.bool rz)) m') : Wc prog tbl 49 [.agg 4 [(Il s.Last), ca101, ca102, ca103], .c (Il field), .agg 16 [(Il c.t.Week), (Il c.t.Damage), (Il c.t.Old), (Il c.d.d0), (Il c.d.d1), (Il c.d.d2), (Il c.d.d3), (Il c.d.d4), (Il c.d.d5), (Il c.d.d6), (Il c.d.d7), (Il c.d.d8), (Il c.d.d9), (Il c.d.d10), (Il c.d.d11), (Il c.d.d12)]] m Q := by
 have S0 := hS.st
 obtain ⟨τ0, _⟩ : ∃ τ : Nat → Nat, True := ⟨fun _ => 0, trivial⟩
 refine w49 ?_
 unfold pallows at hp
 intro m0 o
 obtain ⟨p, q, ba, u⟩ := S0.blk o τ0 1
 intro m1 x
 obtain ⟨y, z, A, B⟩ := q.blk x p 2
 have D := u.k A
 intro m2 F
 obtain ⟨G, I, b, J⟩ := z.blk F y 3
 have N := D.k b
 have O := B.k b
 refine ⟨trivial, _, N.bk.rc rfl, ?_⟩
 obtain ⟨ca, P, e, i⟩ := O.freeze I
 have S := J.k e
 obtain ⟨T, g, h, j⟩ := S.freeze P
 have n : Fv_Vis_Bool T ((C.fn (Fn.func 82) [] [(W.c (C0.ptr m0.nxt 0)), (W.c (C0.ptr m1.nxt 0))])) (fun a => pallows1 a field c) := by
  intro f' m' a r Q hs hpre  hg hq
  exact s_allows1 hpre ((i.sub h.fs).sub hs) (j.sub hs) hg hq
 obtain ⟨da, Y, hp⟩ := bsome hp
 refine s_eachV (l := s.Visits) (passes := (fun a => pallows1 a field c)) g.pre (ha103.sub (Sub.trans e.fs h.fs)) n Y fun m5 Z => ?_
 obtain ⟨aa, ea⟩ := g.call Z G
 refine ⟨_, rfl, ?_⟩
 obtain rfl := Option.some.inj hp
 exact hq _ aa.ext'
theorem s_numbersI {r : Rg} {b0 : Nat} {m f : M} {F : Fm} {n0 ly : Nat} {xs : List (List V)} {I : Nat → (Nat → Prop) → M → Prop} {E : (Nat → Prop) → M → Prop} {S1 : Nat → Prop} {Q : V → M → Prop} {rz : List Int} {τ0 : Nat → Nat} (hc : Client prog tbl n0 ly xs I E) (S0 : St F f f m) (Y0 : Yg n0 (YJ xs I rz) S1 F f τ0 m) (hb0 : Bk f b0 2 [(.int .i64 r.Lo), (.int .i64 r.Hi)]) (hp : pnumbersI r = some rz) (hq : ∀ v m' f' τ' S', St F f f' m' → (Yg n0 (YJ xs I ([] : List Int)) S' F f' τ' m' ∨ Yg n0 E S' F f' τ' m') → Q v m') : Wc prog tbl 100 [.c (.fn (.yield ly) [] []), .c (.ptr b0 0)] m Q := by
 refine c100 ?_
 unfold pnumbersI at hp
 refine ⟨_, _, (hb0.sub S0.sub).ra, ?_⟩
 obtain ⟨r1547, g1548, hp⟩ := bsome hp
 refine s_count (r := r) S0.pre  g1548 fun m3 e1551 => ?_
 obtain ⟨S1549, k1550⟩ := S0.call e1551 τ0
 have Y1552 := Y0.k k1550 (by decide)
 refine ⟨_, rfl, ?_⟩
 intro R5 hR5
 have hgo : ∀ (d1558 : Nat) (x6 : Int) (r1555 : List Int) (s1556 : Nat → Prop) (m7 : M) (τ1554 : Nat → Nat), St F f f m7 → Yg n0 (YJ xs I r1555) s1556 F f τ1554 m7 → pnumbersI_L0 r r1547 d1558 x6 = some r1555 → R5 [.c (.int .i64 x6)] m7 := by
  intro d1558
  induction d1558 with
  | zero => intro x6 r1555 s1556 m7 τ1554 S1553 Y1557 hp; cases hp
  | succ d1558 ihR5 =>
   intro x6 r1555 s1556 m7 τ1554 S1553 Y1557 hp
   refine hR5 _ _ ?_
   rw [pnumbersI_L0] at hp
   refine ifd hp (fun q1559 hp => ?_) fun q1559 hp => ?_; rotate_left
   ·obtain rfl := Option.some.inj hp
    exact hq _ _ _ _ _ S1553 (.inl Y1557)
   refine ⟨trivial, _, (hb0.sub S1553.sub).rc rfl, ?_⟩
   obtain ⟨g1560, hp⟩ := gd_some hp
   refine ⟨g1560, ?_⟩
   obtain ⟨r1561, hp1563, hz1562⟩ := bsome hp
   clear hp
   obtain rfl := Option.some.inj hz1562
   have hp := hp1563
   show Wy prog tbl ly (IV.encs ((r.Lo + x6) : Int)) _ _
   refine Yg.yield hc S1553 Y1557 ?_ ?_
   ·intro m10 τ1564 s1568 S1565 k1566 Y1567
    refine ⟨_, rfl, ?_⟩
    refine ifB_f' ?_
    obtain ⟨g1569, hp⟩ := gd_some hp
    refine ⟨g1569, ?_⟩
    exact ihR5 _ _ _ _ τ1564 S1565 Y1567 hp
   ·intro m10 τ1570 s1574 S1571 k1572 Y1573
    refine ⟨_, rfl, ?_⟩
    refine ifB_t' ?_
    exact hq _ _ _ _ _ S1571 (.inr Y1573)
 exact hgo _ _ _ _ _ τ0 S1549 Y1552 hp
theorem s_numbers {r : Rg} {m f : M} {Q : V → M → Prop} {rz : List Int} (hS : Pre f m)  (hp : pnumbers r = some rz) (hq : ∀ m' f' c0, Grw m f m' f' → It prog tbl f' c0 rz → Q (.c c0) m') : Wc prog tbl 76 [.agg 2 [(Il r.Lo), (Il r.Hi)]] m Q := by
 have q := hS.st
 obtain ⟨s, _⟩ : ∃ τ : Nat → Nat, True := ⟨fun _ => 0, trivial⟩
 refine w76 ?_
 unfold pnumbers at hp
 intro t g
 obtain ⟨n, h, o, i⟩ := q.blk g s 1
 obtain ⟨b, a, p, d⟩ := i.freeze h
 obtain ⟨j, l, hp⟩ := bsome hp
 have e : It prog tbl b ((C.fn (Fn.func 100) [] [(W.c (C0.ptr m.nxt 0))])) j := it_of a.fz a.fv fun u ly I E hc x y z A hS hY Q hq => s_numbersI hc hS hY d l hq
 obtain rfl := Option.some.inj hp
 exact hq _ b (C.fn (Fn.func 100) [] [(W.c (C0.ptr m.nxt 0))]) a.grw e
theorem s_plant {fl : Fld} {week : Int} {damage : Int} {m f : M} {Q : V → M → Prop} {rz : Plt} (hS : Pre f m)  (hp : pplant fl week damage = some rz) (hq : ∀ m', Ext m m' → Q (.agg 4 [(Il rz.t.Week), (Il rz.t.Damage), (Il rz.t.Old), (Il rz.crop)]) m') : Wc prog tbl 77 [.agg 7 [(Il fl.Crop), (Il fl.Week.Lo), (Il fl.Week.Hi), (Il fl.Damage.Lo), (Il fl.Damage.Hi), (Il fl.Old.Lo), (Il fl.Old.Hi)], .c (Il week), .c (Il damage)] m Q := by
 have x := hS.st
 obtain ⟨y, _⟩ : ∃ τ : Nat → Nat, True := ⟨fun _ => 0, trivial⟩
 refine w77 ?_
 unfold pplant at hp
 intro z a
 obtain ⟨b, d, r, e⟩ := x.blk a y 1
 intro A g
 obtain ⟨s, h, i, j⟩ := d.blk g b 2
 have l := e.k i
 refine ⟨trivial, _, l.bk.rc rfl, ?_⟩
 obtain ⟨n, o, p, u, q⟩ := j.sto h [(Il week), (Il damage), (Il 0), (Il fl.Crop)]
 refine ⟨n, o, ?_⟩
 refine ⟨_, _, _, _, q.bk.ra, ?_⟩
 obtain rfl := Option.some.inj hp
 exact hq _ p.ext'
theorem s_open {s : Ssn} {ca101 ca102 ca103 : C} {m f : M} {Q : V → M → Prop} {rz : Wk} (hS : Pre f m) (ha101 : Sl f ca101 s.Rules) (ha102 : Sl f ca102 s.Fields) (ha103 : Sl f ca103 s.Visits) (hp : popen s = some rz) (hq : ∀ m' f' c1 c2 c3 c4, Grw m f m' f' → Sl f' c1 rz.s.Rules → Sl f' c2 rz.s.Fields → Sl f' c3 rz.s.Visits → Mi f' c4 rz.damages → Q (.agg 5 [(Il rz.s.Last), c1, c2, c3, c4]) m') : Wc prog tbl 46 [.agg 4 [(Il s.Last), ca101, ca102, ca103]] m Q := by
 have S0 := hS.st
 obtain ⟨τ0, _⟩ : ∃ τ : Nat → Nat, True := ⟨fun _ => 0, trivial⟩
 refine w46 ?_
 unfold popen at hp
 intro m0 Zb
 obtain ⟨ac, bc, af, cc⟩ := S0.blk Zb τ0 1
 intro O dc
 obtain ⟨ec, fc, gc, hc⟩ := bc.blk dc ac 2
 have Ua := cc.k gc
 refine ⟨_, _, _, _, Ua.bk.ra, ?_⟩
 intro m6 ic
 obtain ⟨jc, kc, Va, lc⟩ := Mo.new (K := Plt) (V' := Dm) fc ic ec 3
 have nc := Ua.k Va
 have oc := hc.k Va
 intro m7 pc
 obtain ⟨qc, sc, Ga, tc⟩ := kc.blk pc jc 4
 have uc := nc.k Ga
 have vc := oc.k Ga
 have wc := lc.k Ga
 obtain ⟨xc, yc, zc, Ha, sa⟩ := tc.sto sc [(Il s.Last), ca101, ca102, ca103, (.map O.nxt)]
 have ta := uc.k Ha
 have ua := vc.k Ha
 have va := wc.k Ha
 refine ⟨xc, yc, ?_⟩
 refine ⟨trivial, _, ta.bk.rc rfl, ha102.isSl, ?_⟩
 intro Se Re
 have hgo : ∀ (h : Nat) (qa : Int) (wa : Option (Plt → Option (Dm))) (D : M) (G : M) (P : Nat → Nat), St (Fm.of m) f G D → Sub f G → Lb (Fm.of m) G P D 1 m.nxt 4 [(Il s.Last), ca101, ca102, ca103] → Lb (Fm.of m) G P D 2 m0.nxt 5 [(Il 0), .sl0, .sl0, .sl0, C.map0] → Lb (Fm.of m) G P D 4 m6.nxt 5 [(Il s.Last), ca101, ca102, ca103, (.map O.nxt)] → Mo (Fm.of m) G P D 3 (.map O.nxt) wa → popen_L0 s h wa qa = some rz → Se [.c (Il qa)] D := by
  intro h
  induction h with
  | zero => intro qa wa D G P Aa e ta ua sa va hp; cases hp
  | succ h Ac =>
   intro qa wa D G P Aa e ta ua sa va hp
   refine Re _ _ ?_
   rw [popen_L0] at hp
   try rw [ha102.slLen]
   refine ifd hp (fun Bc hp => ?_) fun Bc hp => ?_; rotate_left
   ·refine ⟨_, _, _, _, _, sa.bk.ra, ?_⟩
    obtain ⟨Cc, Dc, Ec, Fc, Gc⟩ := ua.sto Aa [(Il s.Last), ca101, ca102, ca103, (.map O.nxt)]
    have Hc := va.k Fc
    refine ⟨Cc, Dc, ?_⟩
    refine ⟨_, _, _, _, _, Gc.bk.ra, ?_⟩
    obtain ⟨Ic, Jc, Ia, yb⟩ := Hc.freeze Ec
    obtain rfl := Option.some.inj hp
    exact hq _ Ic ca101 ca102 ca103 (.map O.nxt) Jc.grw (ha101.sub (Sub.trans e Ia.fs)) (ha102.sub (Sub.trans e Ia.fs)) (ha103.sub (Sub.trans e Ia.fs)) yb
   obtain ⟨a, Ja, hp⟩ := bsome hp
   obtain ⟨Te, zb, Qa, Ja⟩ := idx_some Ja
   obtain ⟨_, Kc⟩ := rd_Fld ha102 Ja
   refine ⟨Te, zb, (by first | exact Qa | (rw [ha102.slLen]; exact Qa)), _, _, _, _, _, _, _, (Kc _ (Sub.trans e Aa.sub)).1, ?_⟩
   intro rf Lc
   obtain ⟨Wa, Nc, Ba, Oc⟩ := Aa.blk Lc P 5
   have Pc := ta.k Ba
   have Qc := ua.k Ba
   have Rc := sa.k Ba
   have Tc := va.k Ba
   obtain ⟨Uc, Vc, Xa, Ca, Ya⟩ := Oc.sto Nc [(Il a.Crop), (Il a.Week.Lo), (Il a.Week.Hi), (Il a.Damage.Lo), (Il a.Damage.Hi), (Il a.Old.Lo), (Il a.Old.Hi)]
   have Xc := Pc.k Ca
   have Yc := Qc.k Ca
   have Zc := Rc.k Ca
   have ad := Tc.k Ca
   refine ⟨Uc, Vc, ?_⟩
   refine ⟨trivial, _, _, Ya.bk.rp (k := 1) (j := 2) rfl (by omega), ?_⟩
   obtain ⟨bf, bd, hp⟩ := bsome hp
   refine s_numbers (r := a.Week) Xa.pre  bd fun Ab cf df cd dd => ?_
   obtain ⟨ed, u⟩ := Xa.callG cd Wa
   have Za := Xc.k u
   have ab := Yc.k u
   have cb := Zc.k u
   have db := Ya.k u
   have eb := ad.k u
   refine ⟨_, rfl, ?_⟩
   refine range_st (α := Int) ed dd (σ := (Option (Plt → Option (Dm)))) 6 (fun st bb => (False ∨ (False ∨ (False ∨ (False ∨ False))))) (fun st gG gF gT gM => (Lb gG gF gT gM 1 m.nxt 4 [(Il s.Last), ca101, ca102, ca103]) ∧ (Lb gG gF gT gM 2 m0.nxt 5 [(Il 0), .sl0, .sl0, .sl0, C.map0]) ∧ (Lb gG gF gT gM 4 m6.nxt 5 [(Il s.Last), ca101, ca102, ca103, (.map O.nxt)]) ∧ (Lb gG gF gT gM 5 D.nxt 7 [(Il a.Crop), (Il a.Week.Lo), (Il a.Week.Hi), (Il a.Damage.Lo), (Il a.Damage.Hi), (Il a.Old.Lo), (Il a.Old.Hi)]) ∧ (Mo gG gF gT gM 3 (.map O.nxt) st)) (fun rr_ st => popen_L1 s qa a (popen_L0 s h) rr_ st = some rz) (fun ex st => (match ex with | .ret => (0 : Nat) = 0 ∧ popen_L1_xret s st = some rz | _ => False)) (fun st => (Gud.and (Gud.lb Za.bk.lt (by decide)) (Gud.and (Gud.lb ab.bk.lt (by decide)) (Gud.and (Gud.lb cb.bk.lt (by decide)) (Gud.and (Gud.lb db.bk.lt (by decide)) (Gud.mo eb.lt (by decide))))))) (st0 := (wa)) (τ := Wa) ⟨Za, ab, cb, db, eb⟩ hp ?_ ?_ ?_ ?_
   ·intro x Da y xa ha za d ef Ue Ve We fd Ka hA Bb hp Cb Db
    obtain ⟨i, g, l, z, n⟩ := hA
    replace i : Lb d xa ha za 1 m.nxt 4 [(Il s.Last), ca101, ca102, ca103] := i
    replace g : Lb d xa ha za 2 m0.nxt 5 [(Il 0), .sl0, .sl0, .sl0, C.map0] := g
    replace l : Lb d xa ha za 4 m6.nxt 5 [(Il s.Last), ca101, ca102, ca103, (.map O.nxt)] := l
    replace z : Lb d xa ha za 5 D.nxt 7 [(Il a.Crop), (Il a.Week.Lo), (Il a.Week.Hi), (Il a.Damage.Lo), (Il a.Damage.Hi), (Il a.Old.Lo), (Il a.Old.Hi)] := z
    replace n : Mo d xa ha za 3 (.map O.nxt) y := n
    replace hp : popen_L1 s qa a (popen_L0 s h) (x :: Da) y = some rz := hp
    rw [popen_L1] at hp
    refine ⟨_, rfl, ?_⟩
    intro sf hd
    obtain ⟨fb, jd, ia, kd⟩ := fd.blk hd ha 7
    have ld := i.k ia
    have md := g.k ia
    have nd := l.k ia
    have od := z.k ia
    have pd := n.k ia
    have Eb := Bb.k ia
    obtain ⟨qd, sd, td, ja, ud⟩ := kd.sto jd [(Il x)]
    have vd := ld.k ja
    have wd := md.k ja
    have xd := nd.k ja
    have yd := od.k ja
    have zd := pd.k ja
    have Fb := Eb.k ja
    refine ⟨qd, sd, ?_⟩
    refine Cb _ _ _ _ td Fb fun tf La gb ka Gb Hb => ?_
    have Ad := vd.k ka
    have Bd := wd.k ka
    have Cd := xd.k ka
    have hb := yd.k ka
    have Dd := ud.k ka
    have Ed := zd.k ka
    refine ⟨trivial, _, _, hb.bk.rp (k := 3) (j := 2) rfl (by omega), ?_⟩
    obtain ⟨gf, Fd, hp⟩ := bsome hp
    refine s_numbers (r := a.Damage) gb.pre  Fd fun uf hf jf Gd Hd => ?_
    obtain ⟨Id, o⟩ := gb.callG Gd fb
    have ib := Ad.k o
    have jb := Bd.k o
    have kb := Cd.k o
    have mb := hb.k o
    have nb := Dd.k o
    have ob := Ed.k o
    have Ra := Gb.k o
    refine ⟨_, rfl, ?_⟩
    refine range_st (α := Int) Id Hd (σ := (Option (Plt → Option (Dm)))) 8 (fun st bb => (False ∨ (False ∨ (False ∨ (False ∨ (False ∨ (False ∨ False))))))) (fun st gG gF gT gM => (Lb gG gF gT gM 1 m.nxt 4 [(Il s.Last), ca101, ca102, ca103]) ∧ (Lb gG gF gT gM 2 m0.nxt 5 [(Il 0), .sl0, .sl0, .sl0, C.map0]) ∧ (Lb gG gF gT gM 4 m6.nxt 5 [(Il s.Last), ca101, ca102, ca103, (.map O.nxt)]) ∧ (Lb gG gF gT gM 5 D.nxt 7 [(Il a.Crop), (Il a.Week.Lo), (Il a.Week.Hi), (Il a.Damage.Lo), (Il a.Damage.Hi), (Il a.Old.Lo), (Il a.Old.Hi)]) ∧ (Lb gG gF gT gM 7 za.nxt 1 [(Il x)]) ∧ (Mo gG gF gT gM 3 (.map O.nxt) st) ∧ (Rk gG gF gT gM 6 (Ab).nxt La)) (fun rr_ st => popen_L2 s a x ((popen_L1 s qa a (popen_L0 s h) Da)) rr_ st = some rz) (fun ex st => False) (fun st => (Gud.and (Gud.lb ib.bk.lt (by decide)) (Gud.and (Gud.lb jb.bk.lt (by decide)) (Gud.and (Gud.lb kb.bk.lt (by decide)) (Gud.and (Gud.lb mb.bk.lt (by decide)) (Gud.and (Gud.lb nb.bk.lt (by decide)) (Gud.and (Gud.mo ob.lt (by decide)) (Gud.rk Ra.lt (by decide))))))))) (st0 := (y)) (τ := fb) ⟨ib, jb, kb, mb, nb, ob, Ra⟩ hp ?_ ?_ ?_ ?_
    ·intro pb Jd la S A Ea T kf Xe Ye Ze Ld Ma hA Ib hp Jb Kb
     obtain ⟨Y, Z, aa, ba, ma, ca, F⟩ := hA
     replace Y : Lb T S A Ea 1 m.nxt 4 [(Il s.Last), ca101, ca102, ca103] := Y
     replace Z : Lb T S A Ea 2 m0.nxt 5 [(Il 0), .sl0, .sl0, .sl0, C.map0] := Z
     replace aa : Lb T S A Ea 4 m6.nxt 5 [(Il s.Last), ca101, ca102, ca103, (.map O.nxt)] := aa
     replace ba : Lb T S A Ea 5 D.nxt 7 [(Il a.Crop), (Il a.Week.Lo), (Il a.Week.Hi), (Il a.Damage.Lo), (Il a.Damage.Hi), (Il a.Old.Lo), (Il a.Old.Hi)] := ba
     replace ma : Lb T S A Ea 7 za.nxt 1 [(Il x)] := ma
     replace ca : Mo T S A Ea 3 (.map O.nxt) la := ca
     replace F : Rk T S A Ea 6 (Ab).nxt La := F
     replace hp : popen_L2 s a x ((popen_L1 s qa a (popen_L0 s h) Da)) (pb :: Jd) la = some rz := hp
     rw [popen_L2] at hp
     refine ⟨_, rfl, ?_⟩
     refine Jb _ _ _ _ Ld Ib fun wf lf qb da Mb Nb => ?_
     have Md := Y.k da
     have Nd := Z.k da
     have Od := aa.k da
     have rb := ba.k da
     have sb := ma.k da
     have Pd := ca.k da
     have Ob := F.k da
     refine ⟨_, _, _, _, _, _, _, rb.bk.ra, _, sb.bk.rc rfl, ?_⟩
     obtain ⟨q, Qd, hp⟩ := bsome hp
     refine s_plant (fl := a) (week := x) (damage := pb) qb.pre  Qd fun xf Rd => ?_
     obtain ⟨Sd, I⟩ := qb.call Rd A
     have Td := Md.k I
     have Ud := Nd.k I
     have Vd := Od.k I
     have Wd := rb.k I
     have Xd := sb.k I
     have Yd := Pd.k I
     have Pb := Mb.k I
     have Qb := Ob.k I
     refine ⟨_, _, _, _, rfl, ?_⟩
     intro yf Zd
     obtain ⟨ae, be, J, ce⟩ := Sd.blk Zd A 9
     have de := Td.k J
     have ee := Ud.k J
     have fe := Vd.k J
     have ge := Wd.k J
     have he := Xd.k J
     have ie := Yd.k J
     have Rb := Pb.k J
     have Sb := Qb.k J
     obtain ⟨je, ke, tb, N, Na⟩ := ce.sto be [(Il q.t.Week), (Il q.t.Damage), (Il q.t.Old), (Il q.crop)]
     have ub := de.k N
     have me := ee.k N
     have vb := fe.k N
     have oe := ge.k N
     have pe := he.k N
     have qe := ie.k N
     have Tb := Rb.k N
     have Ub := Sb.k N
     refine ⟨je, ke, ?_⟩
     refine ⟨trivial, _, vb.bk.rc rfl, _, _, _, _, Na.bk.ra, _, _, _, _, ub.bk.ra, _, _, _, _, Na.bk.ra, ?_⟩
     obtain ⟨b, re, hp⟩ := bsome hp
     refine s_grow (s := s) (p := q) tb.pre (ha101.sub (Sub.trans (Sub.trans (Sub.trans (Sub.trans e u.fs) Ka) o.fs) Ma)) (ha102.sub (Sub.trans (Sub.trans (Sub.trans (Sub.trans e u.fs) Ka) o.fs) Ma)) (ha103.sub (Sub.trans (Sub.trans (Sub.trans (Sub.trans e u.fs) Ka) o.fs) Ma)) re fun zf se => ?_
     obtain ⟨te, B⟩ := tb.call se ae
     have ue := ub.k B
     have ve := me.k B
     have wb := vb.k B
     have we := oe.k B
     have xe := pe.k B
     have ye := Na.k B
     have xb := qe.k B
     have Vb := Tb.k B
     have Wb := Ub.k B
     refine ⟨_, _, _, _, _, _, _, _, _, _, _, _, _, rfl, (ye.bk.ra), (by rw [show cmC _ = true from cmC_of (xb.mi.noFn)]; exact (wb.bk.rc rfl)), ?_⟩
     obtain ⟨ze, hp⟩ := gd_some hp
     obtain ⟨Ae, Be, hp⟩ := bsome hp
     obtain ⟨Ce, De, Ee, ea, Fe⟩ := Mo.up kl138 te xb (k := q) ze (v := b) Be (kv := .agg 4 [(Il q.t.Week), (Il q.t.Damage), (Il q.t.Old), (Il q.crop)]) (yv := .agg 13 [(Il b.d0), (Il b.d1), (Il b.d2), (Il b.d3), (Il b.d4), (Il b.d5), (Il b.d6), (Il b.d7), (Il b.d8), (Il b.d9), (Il b.d10), (Il b.d11), (Il b.d12)]) rfl rfl
     have Ge := ue.k ea
     have He := ve.k ea
     have Ie := wb.k ea
     have Je := we.k ea
     have Ke := xe.k ea
     have Xb := Vb.k ea
     have Yb := Wb.k ea
     refine ⟨Ce, De, ?_⟩
     exact Kb .nrm (Ae) _ _ _ _ Ee ⟨Ge, He, Ie, Je, Ke, Fe, Yb⟩ Xb Nb hp
    ·intro la fa ga Fa Me mf hA hp
     replace hp : popen_L2 s a x ((popen_L1 s qa a (popen_L0 s h) Da)) [] la = some rz := hp
     obtain ⟨Y, Z, aa, ba, ma, ca, F⟩ := hA
     replace Y : Lb d fa ga Fa 1 m.nxt 4 [(Il s.Last), ca101, ca102, ca103] := Y
     replace Z : Lb d fa ga Fa 2 m0.nxt 5 [(Il 0), .sl0, .sl0, .sl0, C.map0] := Z
     replace aa : Lb d fa ga Fa 4 m6.nxt 5 [(Il s.Last), ca101, ca102, ca103, (.map O.nxt)] := aa
     replace ba : Lb d fa ga Fa 5 D.nxt 7 [(Il a.Crop), (Il a.Week.Lo), (Il a.Week.Hi), (Il a.Damage.Lo), (Il a.Damage.Hi), (Il a.Old.Lo), (Il a.Old.Hi)] := ba
     replace ma : Lb d fa ga Fa 7 za.nxt 1 [(Il x)] := ma
     replace ca : Mo d fa ga Fa 3 (.map O.nxt) la := ca
     replace F : Rk d fa ga Fa 6 (Ab).nxt La := F
     rw [popen_L2] at hp
     exact Db .nrm (la) _ _ _ _ Me ⟨Y, Z, aa, ba, ca⟩ F Hb hp
    ·intro id st _ _ _ _ _ _ hn; first | exact hn.elim | (cases hn)
    ·intro st _ _ _ _ _ _ hn; first | exact hn.elim | (cases hn)
   ·intro y na oa Sa Ne Oe hA hp
    replace hp : popen_L1 s qa a (popen_L0 s h) [] y = some rz := hp
    obtain ⟨i, g, l, z, n⟩ := hA
    replace i : Lb (Fm.of m) na oa Sa 1 m.nxt 4 [(Il s.Last), ca101, ca102, ca103] := i
    replace g : Lb (Fm.of m) na oa Sa 2 m0.nxt 5 [(Il 0), .sl0, .sl0, .sl0, C.map0] := g
    replace l : Lb (Fm.of m) na oa Sa 4 m6.nxt 5 [(Il s.Last), ca101, ca102, ca103, (.map O.nxt)] := l
    replace z : Lb (Fm.of m) na oa Sa 5 D.nxt 7 [(Il a.Crop), (Il a.Week.Lo), (Il a.Week.Hi), (Il a.Damage.Lo), (Il a.Damage.Hi), (Il a.Old.Lo), (Il a.Old.Hi)] := z
    replace n : Mo (Fm.of m) na oa Sa 3 (.map O.nxt) y := n
    rw [popen_L1] at hp
    refine gdi hp fun Pe hp => ?_
    exact Ac _ _ _ na oa Ne (Sub.trans (Sub.trans e u.fs) Oe) i g l n hp
   ·intro id st _ _ _ _ _ _ hn; first | exact hn.elim | (cases hn)
   ·intro y pa ya Ta Qe nf hA hn
    obtain ⟨hid, hp⟩ := hn
    replace hp : popen_L1_xret s y = some rz := hp
    unfold popen_L1_xret at hp
    obtain ⟨i, g, l, z, n⟩ := hA
    replace i : Lb (Fm.of m) pa ya Ta 1 m.nxt 4 [(Il s.Last), ca101, ca102, ca103] := i
    replace g : Lb (Fm.of m) pa ya Ta 2 m0.nxt 5 [(Il 0), .sl0, .sl0, .sl0, C.map0] := g
    replace l : Lb (Fm.of m) pa ya Ta 4 m6.nxt 5 [(Il s.Last), ca101, ca102, ca103, (.map O.nxt)] := l
    replace z : Lb (Fm.of m) pa ya Ta 5 D.nxt 7 [(Il a.Crop), (Il a.Week.Lo), (Il a.Week.Hi), (Il a.Damage.Lo), (Il a.Damage.Hi), (Il a.Old.Lo), (Il a.Old.Hi)] := z
    replace n : Mo (Fm.of m) pa ya Ta 3 (.map O.nxt) y := n
    refine ⟨_, _, _, _, _, g.bk.ra, ?_⟩
    obtain rfl := Option.some.inj hp
    exact hq _ pa .sl0 .sl0 .sl0 C.map0 Qe.grw (Sl.nil _) (Sl.nil _) (Sl.nil _) (show Mi _ .map0 none from rfl)
 exact hgo _ _ _ _ f qc zc (Sub.refl _) ta ua sa va hp
theorem s_choicesI {fl : Fld} {b0 : Nat} {w : Wk} {b1 : Nat} {cb101 cb102 cb103 cb104 : C} {m f : M} {F : Fm} {n0 ly : Nat} {xs : List (List V)} {I : Nat → (Nat → Prop) → M → Prop} {E : (Nat → Prop) → M → Prop} {S1 : Nat → Prop} {Q : V → M → Prop} {rz : List Crs} {τ0 : Nat → Nat} (hc : Client prog tbl n0 ly xs I E) (S0 : St F f f m) (Y0 : Yg n0 (YJ xs I rz) S1 F f τ0 m) (hb0 : Bk f b0 7 [(.int .i64 fl.Crop), (.int .i64 fl.Week.Lo), (.int .i64 fl.Week.Hi), (.int .i64 fl.Damage.Lo), (.int .i64 fl.Damage.Hi), (.int .i64 fl.Old.Lo), (.int .i64 fl.Old.Hi)]) (hb1 : Bk f b1 5 [(.int .i64 w.s.Last), cb101, cb102, cb103, cb104]) (hb101 : Sl f cb101 w.s.Rules) (hb102 : Sl f cb102 w.s.Fields) (hb103 : Sl f cb103 w.s.Visits) (hb104 : Mi f cb104 w.damages) (hp : pchoicesI fl w = some rz) (hq : ∀ v m' f' τ' S', St F f f' m' → (Yg n0 (YJ xs I ([] : List Crs)) S' F f' τ' m' ∨ Yg n0 E S' F f' τ' m') → Q v m') : Wc prog tbl 97 [.c (.fn (.yield ly) [] []), .c (.ptr b0 0), .c (.ptr b1 0)] m Q := by
 refine c97 ?_
 unfold pchoicesI at hp
 intro m0 e1877
 obtain ⟨τ1880, S1878, k1879, L1881⟩ := S0.blk e1877 τ0 1
 have Y1882 := Y0.k k1879 (by decide)
 refine ⟨trivial, _, _, (hb0.sub S1878.sub).rp (k := 1) (j := 2) rfl (by omega), ?_⟩
 obtain ⟨r1883, g1884, hp⟩ := bsome hp
 refine s_numbers (r := fl.Week) S1878.pre  g1884 fun m4 f1888 c1889 e1887 h1890 => ?_
 obtain ⟨S1885, k1886⟩ := S1878.callG e1887 τ1880
 have L1891 := L1881.k k1886 (by decide)
 have Y1892 := Y1882.k k1886 (by decide)
 refine ⟨_, rfl, ?_⟩
 refine range_st (α := Int) S1885 h1890 (σ := (List Crs) × (Nat → Prop) × Bool) 2 (fun st bb => (False ∨ (st.2.1 bb))) (fun st gG gF gT gM => (Lb gG gF gT gM 1 m.nxt 1 [(.fn (.yield ly) [] [])]) ∧ (Yg n0 (YD xs I E st.2.2 st.1) st.2.1 gG gF gT gM)) (fun rr_ st => st.2.2 = false ∧ pchoicesI_L0 fl w rr_ = some st.1) (fun ex st => (match ex with | .ret => st.2.2 = true ∨ (st.2.2 = false ∧ (0 : Nat) = 0 ∧ pchoicesI_L0_xret = some st.1) | _ => False)) (fun st => (Gud.and (Gud.lb L1891.bk.lt (by decide)) (Gud.yg Y1892.n (by decide)))) (st0 := (rz, S1, false)) (τ := τ1880) ⟨L1891, Y1892⟩ ⟨rfl, hp⟩ ?_ ?_ ?_ ?_
 ·intro a1902 q1903 st f1904 τ1905 m7 F1906 o1907 Ok1908 en1909 Kn1910 S1911 s1912 hA rk1913 hp he1914 hk1915
  obtain ⟨r1894, s1895, d1896⟩ := st
  obtain ⟨hdd, hp⟩ := hp
  replace hdd : d1896 = false := hdd
  subst hdd
  obtain ⟨L1893, Y1897⟩ := hA
  replace L1893 : Lb F1906 f1904 τ1905 m7 1 m.nxt 1 [(.fn (.yield ly) [] [])] := L1893
  replace Y1897 : Yg n0 (YJ xs I r1894) s1895 F1906 f1904 τ1905 m7 := Y1897
  replace hp : pchoicesI_L0 fl w (a1902 :: q1903) = some r1894 := hp
  rw [pchoicesI_L0] at hp
  refine ⟨_, rfl, ?_⟩
  intro m11 e1916
  obtain ⟨τ1919, S1917, k1918, L1920⟩ := S1911.blk e1916 τ1905 3
  have L1921 := L1893.k k1918 (by decide)
  have Y1922 := Y1897.k k1918 (by decide)
  have rk1923 := rk1913.k k1918 (by decide)
  obtain ⟨m1927, e1926, S1924, k1925, L1928⟩ := L1920.sto S1917 [(.int .i64 a1902)]
  have L1929 := L1921.k k1925 (by decide)
  have Y1930 := Y1922.k k1925 (by decide)
  have rk1931 := rk1923.k k1925 (by decide)
  refine ⟨m1927, e1926, ?_⟩
  refine he1914 _ _ _ _ S1924 rk1931 fun m13 o1935 S1932 k1933 rk1934 hO1936 => ?_
  have L1937 := L1929.k k1933 (by decide)
  have L1938 := L1928.k k1933 (by decide)
  have Y1939 := Y1930.k k1933 (by decide)
  refine ⟨trivial, _, _, (hb0.sub (Sub.trans (Sub.trans k1886.fs s1912) S1932.sub)).rp (k := 3) (j := 2) rfl (by omega), ?_⟩
  obtain ⟨r1940, g1941, hp⟩ := bsome hp
  refine s_numbers (r := fl.Damage) S1932.pre  g1941 fun m17 f1945 c1946 e1944 h1947 => ?_
  obtain ⟨S1942, k1943⟩ := S1932.callG e1944 τ1919
  have L1948 := L1937.k k1943 (by decide)
  have L1949 := L1938.k k1943 (by decide)
  have Y1950 := Y1939.k k1943 (by decide)
  have rk1951 := rk1934.k k1943 (by decide)
  refine ⟨_, rfl, ?_⟩
  refine range_st (α := Int) S1942 h1947 (σ := (List Crs) × (Nat → Prop) × Bool) 4 (fun st bb => (False ∨ (False ∨ ((st.2.1 bb) ∨ False)))) (fun st gG gF gT gM => (Lb gG gF gT gM 1 m.nxt 1 [(.fn (.yield ly) [] [])]) ∧ (Lb gG gF gT gM 3 m7.nxt 1 [(.int .i64 a1902)]) ∧ (Yg n0 (YD xs I E st.2.2 st.1) st.2.1 gG gF gT gM) ∧ (Rk gG gF gT gM 2 (m4).nxt o1935)) (fun rr_ st => st.2.2 = false ∧ pchoicesI_L1 fl w a1902 ((pchoicesI_L0 fl w q1903)) rr_ = some st.1) (fun ex st => (match ex with | .ret => st.2.2 = true ∨ (st.2.2 = false ∧ (0 : Nat) = 0 ∧ pchoicesI_L1_xret = some st.1) | _ => False)) (fun st => (Gud.and (Gud.lb L1948.bk.lt (by decide)) (Gud.and (Gud.lb L1949.bk.lt (by decide)) (Gud.and (Gud.yg Y1950.n (by decide)) (Gud.rk rk1951.lt (by decide)))))) (st0 := (r1894, s1895, false)) (τ := τ1919) ⟨L1948, L1949, Y1950, rk1951⟩ ⟨rfl, hp⟩ ?_ ?_ ?_ ?_
  ·intro a1963 q1964 st f1965 τ1966 m20 F1967 o1968 Ok1969 en1970 Kn1971 S1972 s1973 hA rk1974 hp he1975 hk1976
   obtain ⟨r1954, s1955, d1956⟩ := st
   obtain ⟨hdd, hp⟩ := hp
   replace hdd : d1956 = false := hdd
   subst hdd
   obtain ⟨L1952, L1953, Y1957, rk1958⟩ := hA
   replace L1952 : Lb F1967 f1965 τ1966 m20 1 m.nxt 1 [(.fn (.yield ly) [] [])] := L1952
   replace L1953 : Lb F1967 f1965 τ1966 m20 3 m7.nxt 1 [(.int .i64 a1902)] := L1953
   replace Y1957 : Yg n0 (YJ xs I r1954) s1955 F1967 f1965 τ1966 m20 := Y1957
   replace rk1958 : Rk F1967 f1965 τ1966 m20 2 (m4).nxt o1935 := rk1958
   replace hp : pchoicesI_L1 fl w a1902 ((pchoicesI_L0 fl w q1903)) (a1963 :: q1964) = some r1954 := hp
   rw [pchoicesI_L1] at hp
   refine ⟨_, rfl, ?_⟩
   intro m24 e1977
   obtain ⟨τ1980, S1978, k1979, L1981⟩ := S1972.blk e1977 τ1966 5
   have L1982 := L1952.k k1979 (by decide)
   have L1983 := L1953.k k1979 (by decide)
   have Y1984 := Y1957.k k1979 (by decide)
   have rk1985 := rk1974.k k1979 (by decide)
   have rk1986 := rk1958.k k1979 (by decide)
   obtain ⟨m1990, e1989, S1987, k1988, L1991⟩ := L1981.sto S1978 [(.int .i64 a1963)]
   have L1992 := L1982.k k1988 (by decide)
   have L1993 := L1983.k k1988 (by decide)
   have Y1994 := Y1984.k k1988 (by decide)
   have rk1995 := rk1985.k k1988 (by decide)
   have rk1996 := rk1986.k k1988 (by decide)
   refine ⟨m1990, e1989, ?_⟩
   refine he1975 _ _ _ _ S1987 rk1995 fun m26 o2000 S1997 k1998 rk1999 hO2001 => ?_
   have L2002 := L1992.k k1998 (by decide)
   have L2003 := L1993.k k1998 (by decide)
   have L2004 := L1991.k k1998 (by decide)
   have Y2005 := Y1994.k k1998 (by decide)
   have rk2006 := rk1996.k k1998 (by decide)
   intro m27 e2007
   obtain ⟨τ2010, S2008, k2009, hz2011⟩ := S1997.growK e2007 τ1980 6
   have L2012 := L2002.k k2009 (by decide)
   have L2013 := L2003.k k2009 (by decide)
   have L2014 := L2004.k k2009 (by decide)
   have Y2015 := Y2005.k k2009 (by decide)
   have rk2016 := rk1999.k k2009 (by decide)
   have rk2017 := rk2006.k k2009 (by decide)
   have Z2018 := hz2011 0 (by decide)
   refine ⟨trivial, _, (hb1.sub (Sub.trans (Sub.trans (Sub.trans (Sub.trans k1886.fs s1912) k1943.fs) s1973) S2008.sub)).rc rfl, _, _, _, _, _, _, _, (hb0.sub (Sub.trans (Sub.trans (Sub.trans (Sub.trans k1886.fs s1912) k1943.fs) s1973) S2008.sub)).ra, _, L2013.bk.rc rfl, _, L2014.bk.rc rfl, ?_⟩
   obtain ⟨r2019, g2020, hp⟩ := bsome hp
   refine s_plant (fl := fl) (week := a1902) (damage := a1963) S2008.pre  g2020 fun m39 e2023 => ?_
   obtain ⟨S2021, k2022⟩ := S2008.call e2023 τ2010
   have L2024 := L2012.k k2022 (by decide)
   have L2025 := L2013.k k2022 (by decide)
   have L2026 := L2014.k k2022 (by decide)
   have Z2027 := Z2018.k k2022 (by decide)
   have Y2028 := Y2015.k k2022 (by decide)
   have rk2029 := rk2016.k k2022 (by decide)
   have rk2030 := rk2017.k k2022 (by decide)
   refine ⟨_, _, _, _, rfl, (by rw [show cmC _ = true from cmC_of (hb104.noFn)]; exact ((hb1.sub (Sub.trans (Sub.trans (Sub.trans (Sub.trans k1886.fs s1912) k1943.fs) s1973) S2021.sub)).rc rfl)), ?_⟩
   obtain ⟨g2031, hp⟩ := gd_some hp
   refine ⟨_, (Mi.sub (hb104.sub (Sub.trans (Sub.trans (Sub.trans k1886.fs s1912) k1943.fs) s1973)) S2021.sub).mi.lk kl138 (k := r2019) g2031 rfl, ?_⟩
   cases hv2032 : (mget w.damages r2019) with
   | none =>
    rw [mcase_none hv2032] at hp
    refine ⟨fun _ => ?_, fun u hu => (by cases hu)⟩
    intro m45 e2034
    obtain ⟨S2035, k2036, L2037⟩ := Z2027.set S2021 e2034
    have L2038 := L2024.k k2036 (by decide)
    have L2039 := L2025.k k2036 (by decide)
    have L2040 := L2026.k k2036 (by decide)
    have Y2041 := Y2028.k k2036 (by decide)
    have rk2042 := rk2029.k k2036 (by decide)
    have rk2043 := rk2030.k k2036 (by decide)
    refine ⟨⟨_, (Mi.sub (hb104.sub (Sub.trans (Sub.trans (Sub.trans k1886.fs s1912) k1943.fs) s1973)) S2035.sub).mi.lk kl138 (k := r2019) g2031 rfl, (by rw [hv2032]; rfl), rfl⟩, (L2040.bk.rc rfl), (L2039.bk.rc rfl), ((hb0.sub (Sub.trans (Sub.trans (Sub.trans (Sub.trans k1886.fs s1912) k1943.fs) s1973) S2035.sub)).ra), (by rw [show cmC _ = true from cmC_of (hb104.noFn)]; exact ((hb1.sub (Sub.trans (Sub.trans (Sub.trans (Sub.trans k1886.fs s1912) k1943.fs) s1973) S2035.sub)).rc rfl)), ?_⟩
    obtain ⟨m2047, e2046, S2044, k2045, L2048⟩ := L2037.sto S2035 [(.int .i64 (0 : Int)), (.int .i64 (0 : Int)), (.int .i64 (0 : Int)), (.int .i64 (0 : Int)), (.int .i64 (0 : Int)), (.int .i64 (0 : Int)), (.int .i64 (0 : Int)), (.int .i64 (0 : Int)), (.int .i64 (0 : Int)), (.int .i64 (0 : Int)), (.int .i64 (0 : Int)), (.int .i64 (0 : Int)), (.int .i64 (0 : Int))]
    have L2049 := L2038.k k2045 (by decide)
    have L2050 := L2039.k k2045 (by decide)
    have L2051 := L2040.k k2045 (by decide)
    have Y2052 := Y2041.k k2045 (by decide)
    have rk2053 := rk2042.k k2045 (by decide)
    have rk2054 := rk2043.k k2045 (by decide)
    refine ⟨m2047, e2046, ?_⟩
    refine ⟨trivial, _, _, (hb0.sub (Sub.trans (Sub.trans (Sub.trans (Sub.trans k1886.fs s1912) k1943.fs) s1973) S2044.sub)).rp (k := 5) (j := 2) rfl (by omega), ?_⟩
    obtain ⟨r2055, g2056, hp⟩ := bsome hp
    refine s_numbers (r := fl.Old) S2044.pre  g2056 fun m52 f2060 c2061 e2059 h2062 => ?_
    obtain ⟨S2057, k2058⟩ := S2044.callG e2059 τ2010
    have L2063 := L2049.k k2058 (by decide)
    have L2064 := L2050.k k2058 (by decide)
    have L2065 := L2051.k k2058 (by decide)
    have L2066 := L2048.k k2058 (by decide)
    have Y2067 := Y2052.k k2058 (by decide)
    have rk2068 := rk2053.k k2058 (by decide)
    have rk2069 := rk2054.k k2058 (by decide)
    refine ⟨_, rfl, ?_⟩
    refine range_st (α := Int) S2057 h2062 (σ := (List Crs) × (Nat → Prop) × Bool) 7 (fun st bb => (False ∨ (False ∨ (False ∨ (False ∨ ((st.2.1 bb) ∨ (False ∨ False))))))) (fun st gG gF gT gM => (Lb gG gF gT gM 1 m.nxt 1 [(.fn (.yield ly) [] [])]) ∧ (Lb gG gF gT gM 3 m7.nxt 1 [(.int .i64 a1902)]) ∧ (Lb gG gF gT gM 5 m20.nxt 1 [(.int .i64 a1963)]) ∧ (Lb gG gF gT gM 6 (m26.nxt + 0) 13 [(.int .i64 (0 : Int)), (.int .i64 (0 : Int)), (.int .i64 (0 : Int)), (.int .i64 (0 : Int)), (.int .i64 (0 : Int)), (.int .i64 (0 : Int)), (.int .i64 (0 : Int)), (.int .i64 (0 : Int)), (.int .i64 (0 : Int)), (.int .i64 (0 : Int)), (.int .i64 (0 : Int)), (.int .i64 (0 : Int)), (.int .i64 (0 : Int))]) ∧ (Yg n0 (YD xs I E st.2.2 st.1) st.2.1 gG gF gT gM) ∧ (Rk gG gF gT gM 2 (m4).nxt o1935) ∧ (Rk gG gF gT gM 4 (m17).nxt o2000)) (fun rr_ st => st.2.2 = false ∧ pchoicesI_L2 a1902 a1963 ((pchoicesI_L1 fl w a1902 ((pchoicesI_L0 fl w q1903)) q1964)) rr_ = some st.1) (fun ex st => (match ex with | .ret => st.2.2 = true ∨ (st.2.2 = false ∧ (0 : Nat) = 0 ∧ pchoicesI_L2_xret = some st.1) | _ => False)) (fun st => (Gud.and (Gud.lb L2063.bk.lt (by decide)) (Gud.and (Gud.lb L2064.bk.lt (by decide)) (Gud.and (Gud.lb L2065.bk.lt (by decide)) (Gud.and (Gud.lb L2066.bk.lt (by decide)) (Gud.and (Gud.yg Y2067.n (by decide)) (Gud.and (Gud.rk rk2069.lt (by decide)) (Gud.rk rk2068.lt (by decide))))))))) (st0 := (r1954, s1955, false)) (τ := τ2010) ⟨L2063, L2064, L2065, L2066, Y2067, rk2069, rk2068⟩ ⟨rfl, hp⟩ ?_ ?_ ?_ ?_
    ·intro a2084 q2085 st f2086 τ2087 m55 F2088 o2089 Ok2090 en2091 Kn2092 S2093 s2094 hA rk2095 hp he2096 hk2097
     obtain ⟨r2074, s2075, d2076⟩ := st
     obtain ⟨hdd, hp⟩ := hp
     replace hdd : d2076 = false := hdd
     subst hdd
     obtain ⟨L2070, L2071, L2072, L2073, Y2077, rk2078, rk2079⟩ := hA
     replace L2070 : Lb F2088 f2086 τ2087 m55 1 m.nxt 1 [(.fn (.yield ly) [] [])] := L2070
     replace L2071 : Lb F2088 f2086 τ2087 m55 3 m7.nxt 1 [(.int .i64 a1902)] := L2071
     replace L2072 : Lb F2088 f2086 τ2087 m55 5 m20.nxt 1 [(.int .i64 a1963)] := L2072
     replace L2073 : Lb F2088 f2086 τ2087 m55 6 (m26.nxt + 0) 13 [(.int .i64 (0 : Int)), (.int .i64 (0 : Int)), (.int .i64 (0 : Int)), (.int .i64 (0 : Int)), (.int .i64 (0 : Int)), (.int .i64 (0 : Int)), (.int .i64 (0 : Int)), (.int .i64 (0 : Int)), (.int .i64 (0 : Int)), (.int .i64 (0 : Int)), (.int .i64 (0 : Int)), (.int .i64 (0 : Int)), (.int .i64 (0 : Int))] := L2073
     replace Y2077 : Yg n0 (YJ xs I r2074) s2075 F2088 f2086 τ2087 m55 := Y2077
     replace rk2078 : Rk F2088 f2086 τ2087 m55 2 (m4).nxt o1935 := rk2078
     replace rk2079 : Rk F2088 f2086 τ2087 m55 4 (m17).nxt o2000 := rk2079
     replace hp : pchoicesI_L2 a1902 a1963 ((pchoicesI_L1 fl w a1902 ((pchoicesI_L0 fl w q1903)) q1964)) (a2084 :: q2085) = some r2074 := hp
     rw [pchoicesI_L2] at hp
     refine ⟨_, rfl, ?_⟩
     refine he2096 _ _ _ _ S2093 rk2095 fun m59 o2101 S2098 k2099 rk2100 hO2102 => ?_
     have L2103 := L2070.k k2099 (by decide)
     have L2104 := L2071.k k2099 (by decide)
     have L2105 := L2072.k k2099 (by decide)
     have L2106 := L2073.k k2099 (by decide)
     have Y2107 := Y2077.k k2099 (by decide)
     have rk2108 := rk2078.k k2099 (by decide)
     have rk2109 := rk2079.k k2099 (by decide)
     refine ⟨_, L2103.bk.rc rfl, _, L2104.bk.rc rfl, _, L2105.bk.rc rfl, _, _, _, _, _, _, _, _, _, _, _, _, _, L2106.bk.ra, ?_⟩
     obtain ⟨r2110, hp2112, hz2111⟩ := bsome hp
     clear hp
     obtain rfl := Option.some.inj hz2111
     have hp := hp2112
     show Wy prog tbl ly (IV.encs (({ t := ({ Week := a1902, Damage := a1963, Old := a2084 } : Trh), d := ({ d0 := (0 : Int), d1 := (0 : Int), d2 := (0 : Int), d3 := (0 : Int), d4 := (0 : Int), d5 := (0 : Int), d6 := (0 : Int), d7 := (0 : Int), d8 := (0 : Int), d9 := (0 : Int), d10 := (0 : Int), d11 := (0 : Int), d12 := (0 : Int) } : Dm) } : Crs) : Crs)) _ _
     refine Yg.yield hc S2098 Y2107 ?_ ?_
     ·intro m77 τ2113 s2117 S2114 k2115 Y2116
      have L2118 := L2103.k k2115 (by decide)
      have L2119 := L2104.k k2115 (by decide)
      have L2120 := L2105.k k2115 (by decide)
      have L2121 := L2106.k k2115 (by decide)
      have rk2122 := rk2100.k k2115 (by decide)
      have rk2123 := rk2108.k k2115 (by decide)
      have rk2124 := rk2109.k k2115 (by decide)
      refine ⟨_, rfl, ?_⟩
      refine ifB_f' ?_
      exact hk2097 .nrm (r2110, s2117, false) _ _ _ _ S2114 ⟨L2118, L2119, L2120, L2121, Y2116, rk2123, rk2124⟩ rk2122 hO2102 ⟨rfl, hp⟩
     ·intro m77 τ2125 s2129 S2126 k2127 Y2128
      have L2130 := L2103.k k2127 (by decide)
      have L2131 := L2104.k k2127 (by decide)
      have L2132 := L2105.k k2127 (by decide)
      have L2133 := L2106.k k2127 (by decide)
      have rk2134 := rk2100.k k2127 (by decide)
      have rk2135 := rk2108.k k2127 (by decide)
      have rk2136 := rk2109.k k2127 (by decide)
      refine ⟨_, rfl, ?_⟩
      refine ifB_t' ?_
      exact hk2097 .ret ([], s2129, true) _ _ _ _ S2126 ⟨L2130, L2131, L2132, L2133, Y2128, rk2135, rk2136⟩ rk2134 hO2102 (.inl rfl)
    ·intro st f2137 τ2139 m79 S2140 s2138 hA hp
     obtain ⟨r2074, s2075, d2076⟩ := st
     obtain ⟨hdd, hp⟩ := hp
     replace hdd : d2076 = false := hdd
     subst hdd
     replace hp : pchoicesI_L2 a1902 a1963 ((pchoicesI_L1 fl w a1902 ((pchoicesI_L0 fl w q1903)) q1964)) [] = some r2074 := hp
     obtain ⟨L2070, L2071, L2072, L2073, Y2077, rk2078, rk2079⟩ := hA
     replace L2070 : Lb F1967 f2137 τ2139 m79 1 m.nxt 1 [(.fn (.yield ly) [] [])] := L2070
     replace L2071 : Lb F1967 f2137 τ2139 m79 3 m7.nxt 1 [(.int .i64 a1902)] := L2071
     replace L2072 : Lb F1967 f2137 τ2139 m79 5 m20.nxt 1 [(.int .i64 a1963)] := L2072
     replace L2073 : Lb F1967 f2137 τ2139 m79 6 (m26.nxt + 0) 13 [(.int .i64 (0 : Int)), (.int .i64 (0 : Int)), (.int .i64 (0 : Int)), (.int .i64 (0 : Int)), (.int .i64 (0 : Int)), (.int .i64 (0 : Int)), (.int .i64 (0 : Int)), (.int .i64 (0 : Int)), (.int .i64 (0 : Int)), (.int .i64 (0 : Int)), (.int .i64 (0 : Int)), (.int .i64 (0 : Int)), (.int .i64 (0 : Int))] := L2073
     replace Y2077 : Yg n0 (YJ xs I r2074) s2075 F1967 f2137 τ2139 m79 := Y2077
     replace rk2078 : Rk F1967 f2137 τ2139 m79 2 (m4).nxt o1935 := rk2078
     replace rk2079 : Rk F1967 f2137 τ2139 m79 4 (m17).nxt o2000 := rk2079
     rw [pchoicesI_L2] at hp
     exact hk1976 .nrm (r2074, s2075, false) _ _ _ _ S2140 ⟨L2070, L2071, Y2077, rk2078⟩ rk2079 hO2001 ⟨rfl, hp⟩
    ·intro id st _ _ _ _ _ _ hn; first | exact hn.elim | (cases hn)
    ·intro st f2080 τ2082 m80 S2083 s2081 hA hn
     obtain ⟨r2074, s2075, d2076⟩ := st
     rcases hn with hd | ⟨hd, hid, hp⟩
     ·replace hd : d2076 = true := hd
      subst hd
      obtain ⟨L2070, L2071, L2072, L2073, Y2077, rk2078, rk2079⟩ := hA
      replace L2070 : Lb F1967 f2080 τ2082 m80 1 m.nxt 1 [(.fn (.yield ly) [] [])] := L2070
      replace L2071 : Lb F1967 f2080 τ2082 m80 3 m7.nxt 1 [(.int .i64 a1902)] := L2071
      replace L2072 : Lb F1967 f2080 τ2082 m80 5 m20.nxt 1 [(.int .i64 a1963)] := L2072
      replace L2073 : Lb F1967 f2080 τ2082 m80 6 (m26.nxt + 0) 13 [(.int .i64 (0 : Int)), (.int .i64 (0 : Int)), (.int .i64 (0 : Int)), (.int .i64 (0 : Int)), (.int .i64 (0 : Int)), (.int .i64 (0 : Int)), (.int .i64 (0 : Int)), (.int .i64 (0 : Int)), (.int .i64 (0 : Int)), (.int .i64 (0 : Int)), (.int .i64 (0 : Int)), (.int .i64 (0 : Int)), (.int .i64 (0 : Int))] := L2073
      replace Y2077 : Yg n0 E s2075 F1967 f2080 τ2082 m80 := Y2077
      replace rk2078 : Rk F1967 f2080 τ2082 m80 2 (m4).nxt o1935 := rk2078
      replace rk2079 : Rk F1967 f2080 τ2082 m80 4 (m17).nxt o2000 := rk2079
      exact hk1976 .ret ([], s2075, true) _ _ _ _ S2083 ⟨L2070, L2071, Y2077, rk2078⟩ rk2079 hO2001 (.inl rfl)
     replace hd : d2076 = false := hd
     subst hd
     replace hp : pchoicesI_L2_xret = some r2074 := hp
     unfold pchoicesI_L2_xret at hp
     obtain ⟨L2070, L2071, L2072, L2073, Y2077, rk2078, rk2079⟩ := hA
     replace L2070 : Lb F1967 f2080 τ2082 m80 1 m.nxt 1 [(.fn (.yield ly) [] [])] := L2070
     replace L2071 : Lb F1967 f2080 τ2082 m80 3 m7.nxt 1 [(.int .i64 a1902)] := L2071
     replace L2072 : Lb F1967 f2080 τ2082 m80 5 m20.nxt 1 [(.int .i64 a1963)] := L2072
     replace L2073 : Lb F1967 f2080 τ2082 m80 6 (m26.nxt + 0) 13 [(.int .i64 (0 : Int)), (.int .i64 (0 : Int)), (.int .i64 (0 : Int)), (.int .i64 (0 : Int)), (.int .i64 (0 : Int)), (.int .i64 (0 : Int)), (.int .i64 (0 : Int)), (.int .i64 (0 : Int)), (.int .i64 (0 : Int)), (.int .i64 (0 : Int)), (.int .i64 (0 : Int)), (.int .i64 (0 : Int)), (.int .i64 (0 : Int))] := L2073
     replace Y2077 : Yg n0 (YJ xs I r2074) s2075 F1967 f2080 τ2082 m80 := Y2077
     replace rk2078 : Rk F1967 f2080 τ2082 m80 2 (m4).nxt o1935 := rk2078
     replace rk2079 : Rk F1967 f2080 τ2082 m80 4 (m17).nxt o2000 := rk2079
     exact hk1976 .ret (r2074, s2075, false) _ _ _ _ S2083 ⟨L2070, L2071, Y2077, rk2078⟩ rk2079 hO2001 (.inr ⟨rfl, rfl, hp⟩)
   | some w2033 =>
    rw [mcase_some hv2032] at hp
    refine ⟨fun h => (by cases h), fun u hu => ?_⟩
    obtain rfl := Option.some.inj hu
    refine ⟨_, _, _, _, _, _, _, _, _, _, _, _, _, rfl, ?_⟩
    intro m95 e2141
    obtain ⟨S2142, k2143, L2144⟩ := Z2027.set S2021 e2141
    have L2145 := L2024.k k2143 (by decide)
    have L2146 := L2025.k k2143 (by decide)
    have L2147 := L2026.k k2143 (by decide)
    have Y2148 := Y2028.k k2143 (by decide)
    have rk2149 := rk2029.k k2143 (by decide)
    have rk2150 := rk2030.k k2143 (by decide)
    refine ⟨⟨_, (Mi.sub (hb104.sub (Sub.trans (Sub.trans (Sub.trans k1886.fs s1912) k1943.fs) s1973)) S2142.sub).mi.lk kl138 (k := r2019) g2031 rfl, (by rw [hv2032]; rfl), rfl⟩, (L2147.bk.rc rfl), (L2146.bk.rc rfl), ((hb0.sub (Sub.trans (Sub.trans (Sub.trans (Sub.trans k1886.fs s1912) k1943.fs) s1973) S2142.sub)).ra), (by rw [show cmC _ = true from cmC_of (hb104.noFn)]; exact ((hb1.sub (Sub.trans (Sub.trans (Sub.trans (Sub.trans k1886.fs s1912) k1943.fs) s1973) S2142.sub)).rc rfl)), ?_⟩
    obtain ⟨m2154, e2153, S2151, k2152, L2155⟩ := L2144.sto S2142 [(.int .i64 w2033.d0), (.int .i64 w2033.d1), (.int .i64 w2033.d2), (.int .i64 w2033.d3), (.int .i64 w2033.d4), (.int .i64 w2033.d5), (.int .i64 w2033.d6), (.int .i64 w2033.d7), (.int .i64 w2033.d8), (.int .i64 w2033.d9), (.int .i64 w2033.d10), (.int .i64 w2033.d11), (.int .i64 w2033.d12)]
    have L2156 := L2145.k k2152 (by decide)
    have L2157 := L2146.k k2152 (by decide)
    have L2158 := L2147.k k2152 (by decide)
    have Y2159 := Y2148.k k2152 (by decide)
    have rk2160 := rk2149.k k2152 (by decide)
    have rk2161 := rk2150.k k2152 (by decide)
    refine ⟨m2154, e2153, ?_⟩
    refine ⟨trivial, _, _, (hb0.sub (Sub.trans (Sub.trans (Sub.trans (Sub.trans k1886.fs s1912) k1943.fs) s1973) S2151.sub)).rp (k := 5) (j := 2) rfl (by omega), ?_⟩
    obtain ⟨r2162, g2163, hp⟩ := bsome hp
    refine s_numbers (r := fl.Old) S2151.pre  g2163 fun m102 f2167 c2168 e2166 h2169 => ?_
    obtain ⟨S2164, k2165⟩ := S2151.callG e2166 τ2010
    have L2170 := L2156.k k2165 (by decide)
    have L2171 := L2157.k k2165 (by decide)
    have L2172 := L2158.k k2165 (by decide)
    have L2173 := L2155.k k2165 (by decide)
    have Y2174 := Y2159.k k2165 (by decide)
    have rk2175 := rk2160.k k2165 (by decide)
    have rk2176 := rk2161.k k2165 (by decide)
    refine ⟨_, rfl, ?_⟩
    refine range_st (α := Int) S2164 h2169 (σ := (List Crs) × (Nat → Prop) × Bool) 8 (fun st bb => (False ∨ (False ∨ (False ∨ (False ∨ ((st.2.1 bb) ∨ (False ∨ False))))))) (fun st gG gF gT gM => (Lb gG gF gT gM 1 m.nxt 1 [(.fn (.yield ly) [] [])]) ∧ (Lb gG gF gT gM 3 m7.nxt 1 [(.int .i64 a1902)]) ∧ (Lb gG gF gT gM 5 m20.nxt 1 [(.int .i64 a1963)]) ∧ (Lb gG gF gT gM 6 (m26.nxt + 0) 13 [(.int .i64 w2033.d0), (.int .i64 w2033.d1), (.int .i64 w2033.d2), (.int .i64 w2033.d3), (.int .i64 w2033.d4), (.int .i64 w2033.d5), (.int .i64 w2033.d6), (.int .i64 w2033.d7), (.int .i64 w2033.d8), (.int .i64 w2033.d9), (.int .i64 w2033.d10), (.int .i64 w2033.d11), (.int .i64 w2033.d12)]) ∧ (Yg n0 (YD xs I E st.2.2 st.1) st.2.1 gG gF gT gM) ∧ (Rk gG gF gT gM 2 (m4).nxt o1935) ∧ (Rk gG gF gT gM 4 (m17).nxt o2000)) (fun rr_ st => st.2.2 = false ∧ pchoicesI_L3 a1902 a1963 w2033 ((pchoicesI_L1 fl w a1902 ((pchoicesI_L0 fl w q1903)) q1964)) rr_ = some st.1) (fun ex st => (match ex with | .ret => st.2.2 = true ∨ (st.2.2 = false ∧ (0 : Nat) = 0 ∧ pchoicesI_L3_xret = some st.1) | _ => False)) (fun st => (Gud.and (Gud.lb L2170.bk.lt (by decide)) (Gud.and (Gud.lb L2171.bk.lt (by decide)) (Gud.and (Gud.lb L2172.bk.lt (by decide)) (Gud.and (Gud.lb L2173.bk.lt (by decide)) (Gud.and (Gud.yg Y2174.n (by decide)) (Gud.and (Gud.rk rk2176.lt (by decide)) (Gud.rk rk2175.lt (by decide))))))))) (st0 := (r1954, s1955, false)) (τ := τ2010) ⟨L2170, L2171, L2172, L2173, Y2174, rk2176, rk2175⟩ ⟨rfl, hp⟩ ?_ ?_ ?_ ?_
    ·intro a2191 q2192 st f2193 τ2194 m105 F2195 o2196 Ok2197 en2198 Kn2199 S2200 s2201 hA rk2202 hp he2203 hk2204
     obtain ⟨r2181, s2182, d2183⟩ := st
     obtain ⟨hdd, hp⟩ := hp
     replace hdd : d2183 = false := hdd
     subst hdd
     obtain ⟨L2177, L2178, L2179, L2180, Y2184, rk2185, rk2186⟩ := hA
     replace L2177 : Lb F2195 f2193 τ2194 m105 1 m.nxt 1 [(.fn (.yield ly) [] [])] := L2177
     replace L2178 : Lb F2195 f2193 τ2194 m105 3 m7.nxt 1 [(.int .i64 a1902)] := L2178
     replace L2179 : Lb F2195 f2193 τ2194 m105 5 m20.nxt 1 [(.int .i64 a1963)] := L2179
     replace L2180 : Lb F2195 f2193 τ2194 m105 6 (m26.nxt + 0) 13 [(.int .i64 w2033.d0), (.int .i64 w2033.d1), (.int .i64 w2033.d2), (.int .i64 w2033.d3), (.int .i64 w2033.d4), (.int .i64 w2033.d5), (.int .i64 w2033.d6), (.int .i64 w2033.d7), (.int .i64 w2033.d8), (.int .i64 w2033.d9), (.int .i64 w2033.d10), (.int .i64 w2033.d11), (.int .i64 w2033.d12)] := L2180
     replace Y2184 : Yg n0 (YJ xs I r2181) s2182 F2195 f2193 τ2194 m105 := Y2184
     replace rk2185 : Rk F2195 f2193 τ2194 m105 2 (m4).nxt o1935 := rk2185
     replace rk2186 : Rk F2195 f2193 τ2194 m105 4 (m17).nxt o2000 := rk2186
     replace hp : pchoicesI_L3 a1902 a1963 w2033 ((pchoicesI_L1 fl w a1902 ((pchoicesI_L0 fl w q1903)) q1964)) (a2191 :: q2192) = some r2181 := hp
     rw [pchoicesI_L3] at hp
     refine ⟨_, rfl, ?_⟩
     refine he2203 _ _ _ _ S2200 rk2202 fun m109 o2208 S2205 k2206 rk2207 hO2209 => ?_
     have L2210 := L2177.k k2206 (by decide)
     have L2211 := L2178.k k2206 (by decide)
     have L2212 := L2179.k k2206 (by decide)
     have L2213 := L2180.k k2206 (by decide)
     have Y2214 := Y2184.k k2206 (by decide)
     have rk2215 := rk2185.k k2206 (by decide)
     have rk2216 := rk2186.k k2206 (by decide)
     refine ⟨_, L2210.bk.rc rfl, _, L2211.bk.rc rfl, _, L2212.bk.rc rfl, _, _, _, _, _, _, _, _, _, _, _, _, _, L2213.bk.ra, ?_⟩
     obtain ⟨r2217, hp2219, hz2218⟩ := bsome hp
     clear hp
     obtain rfl := Option.some.inj hz2218
     have hp := hp2219
     show Wy prog tbl ly (IV.encs (({ t := ({ Week := a1902, Damage := a1963, Old := a2191 } : Trh), d := w2033 } : Crs) : Crs)) _ _
     refine Yg.yield hc S2205 Y2214 ?_ ?_
     ·intro m127 τ2220 s2224 S2221 k2222 Y2223
      have L2225 := L2210.k k2222 (by decide)
      have L2226 := L2211.k k2222 (by decide)
      have L2227 := L2212.k k2222 (by decide)
      have L2228 := L2213.k k2222 (by decide)
      have rk2229 := rk2207.k k2222 (by decide)
      have rk2230 := rk2215.k k2222 (by decide)
      have rk2231 := rk2216.k k2222 (by decide)
      refine ⟨_, rfl, ?_⟩
      refine ifB_f' ?_
      exact hk2204 .nrm (r2217, s2224, false) _ _ _ _ S2221 ⟨L2225, L2226, L2227, L2228, Y2223, rk2230, rk2231⟩ rk2229 hO2209 ⟨rfl, hp⟩
     ·intro m127 τ2232 s2236 S2233 k2234 Y2235
      have L2237 := L2210.k k2234 (by decide)
      have L2238 := L2211.k k2234 (by decide)
      have L2239 := L2212.k k2234 (by decide)
      have L2240 := L2213.k k2234 (by decide)
      have rk2241 := rk2207.k k2234 (by decide)
      have rk2242 := rk2215.k k2234 (by decide)
      have rk2243 := rk2216.k k2234 (by decide)
      refine ⟨_, rfl, ?_⟩
      refine ifB_t' ?_
      exact hk2204 .ret ([], s2236, true) _ _ _ _ S2233 ⟨L2237, L2238, L2239, L2240, Y2235, rk2242, rk2243⟩ rk2241 hO2209 (.inl rfl)
    ·intro st f2244 τ2246 m129 S2247 s2245 hA hp
     obtain ⟨r2181, s2182, d2183⟩ := st
     obtain ⟨hdd, hp⟩ := hp
     replace hdd : d2183 = false := hdd
     subst hdd
     replace hp : pchoicesI_L3 a1902 a1963 w2033 ((pchoicesI_L1 fl w a1902 ((pchoicesI_L0 fl w q1903)) q1964)) [] = some r2181 := hp
     obtain ⟨L2177, L2178, L2179, L2180, Y2184, rk2185, rk2186⟩ := hA
     replace L2177 : Lb F1967 f2244 τ2246 m129 1 m.nxt 1 [(.fn (.yield ly) [] [])] := L2177
     replace L2178 : Lb F1967 f2244 τ2246 m129 3 m7.nxt 1 [(.int .i64 a1902)] := L2178
     replace L2179 : Lb F1967 f2244 τ2246 m129 5 m20.nxt 1 [(.int .i64 a1963)] := L2179
     replace L2180 : Lb F1967 f2244 τ2246 m129 6 (m26.nxt + 0) 13 [(.int .i64 w2033.d0), (.int .i64 w2033.d1), (.int .i64 w2033.d2), (.int .i64 w2033.d3), (.int .i64 w2033.d4), (.int .i64 w2033.d5), (.int .i64 w2033.d6), (.int .i64 w2033.d7), (.int .i64 w2033.d8), (.int .i64 w2033.d9), (.int .i64 w2033.d10), (.int .i64 w2033.d11), (.int .i64 w2033.d12)] := L2180
     replace Y2184 : Yg n0 (YJ xs I r2181) s2182 F1967 f2244 τ2246 m129 := Y2184
     replace rk2185 : Rk F1967 f2244 τ2246 m129 2 (m4).nxt o1935 := rk2185
     replace rk2186 : Rk F1967 f2244 τ2246 m129 4 (m17).nxt o2000 := rk2186
     rw [pchoicesI_L3] at hp
     exact hk1976 .nrm (r2181, s2182, false) _ _ _ _ S2247 ⟨L2177, L2178, Y2184, rk2185⟩ rk2186 hO2001 ⟨rfl, hp⟩
    ·intro id st _ _ _ _ _ _ hn; first | exact hn.elim | (cases hn)
    ·intro st f2187 τ2189 m130 S2190 s2188 hA hn
     obtain ⟨r2181, s2182, d2183⟩ := st
     rcases hn with hd | ⟨hd, hid, hp⟩
     ·replace hd : d2183 = true := hd
      subst hd
      obtain ⟨L2177, L2178, L2179, L2180, Y2184, rk2185, rk2186⟩ := hA
      replace L2177 : Lb F1967 f2187 τ2189 m130 1 m.nxt 1 [(.fn (.yield ly) [] [])] := L2177
      replace L2178 : Lb F1967 f2187 τ2189 m130 3 m7.nxt 1 [(.int .i64 a1902)] := L2178
      replace L2179 : Lb F1967 f2187 τ2189 m130 5 m20.nxt 1 [(.int .i64 a1963)] := L2179
      replace L2180 : Lb F1967 f2187 τ2189 m130 6 (m26.nxt + 0) 13 [(.int .i64 w2033.d0), (.int .i64 w2033.d1), (.int .i64 w2033.d2), (.int .i64 w2033.d3), (.int .i64 w2033.d4), (.int .i64 w2033.d5), (.int .i64 w2033.d6), (.int .i64 w2033.d7), (.int .i64 w2033.d8), (.int .i64 w2033.d9), (.int .i64 w2033.d10), (.int .i64 w2033.d11), (.int .i64 w2033.d12)] := L2180
      replace Y2184 : Yg n0 E s2182 F1967 f2187 τ2189 m130 := Y2184
      replace rk2185 : Rk F1967 f2187 τ2189 m130 2 (m4).nxt o1935 := rk2185
      replace rk2186 : Rk F1967 f2187 τ2189 m130 4 (m17).nxt o2000 := rk2186
      exact hk1976 .ret ([], s2182, true) _ _ _ _ S2190 ⟨L2177, L2178, Y2184, rk2185⟩ rk2186 hO2001 (.inl rfl)
     replace hd : d2183 = false := hd
     subst hd
     replace hp : pchoicesI_L3_xret = some r2181 := hp
     unfold pchoicesI_L3_xret at hp
     obtain ⟨L2177, L2178, L2179, L2180, Y2184, rk2185, rk2186⟩ := hA
     replace L2177 : Lb F1967 f2187 τ2189 m130 1 m.nxt 1 [(.fn (.yield ly) [] [])] := L2177
     replace L2178 : Lb F1967 f2187 τ2189 m130 3 m7.nxt 1 [(.int .i64 a1902)] := L2178
     replace L2179 : Lb F1967 f2187 τ2189 m130 5 m20.nxt 1 [(.int .i64 a1963)] := L2179
     replace L2180 : Lb F1967 f2187 τ2189 m130 6 (m26.nxt + 0) 13 [(.int .i64 w2033.d0), (.int .i64 w2033.d1), (.int .i64 w2033.d2), (.int .i64 w2033.d3), (.int .i64 w2033.d4), (.int .i64 w2033.d5), (.int .i64 w2033.d6), (.int .i64 w2033.d7), (.int .i64 w2033.d8), (.int .i64 w2033.d9), (.int .i64 w2033.d10), (.int .i64 w2033.d11), (.int .i64 w2033.d12)] := L2180
     replace Y2184 : Yg n0 (YJ xs I r2181) s2182 F1967 f2187 τ2189 m130 := Y2184
     replace rk2185 : Rk F1967 f2187 τ2189 m130 2 (m4).nxt o1935 := rk2185
     replace rk2186 : Rk F1967 f2187 τ2189 m130 4 (m17).nxt o2000 := rk2186
     exact hk1976 .ret (r2181, s2182, false) _ _ _ _ S2190 ⟨L2177, L2178, Y2184, rk2185⟩ rk2186 hO2001 (.inr ⟨rfl, rfl, hp⟩)
  ·intro st f2248 τ2250 m131 S2251 s2249 hA hp
   obtain ⟨r1954, s1955, d1956⟩ := st
   obtain ⟨hdd, hp⟩ := hp
   replace hdd : d1956 = false := hdd
   subst hdd
   replace hp : pchoicesI_L1 fl w a1902 ((pchoicesI_L0 fl w q1903)) [] = some r1954 := hp
   obtain ⟨L1952, L1953, Y1957, rk1958⟩ := hA
   replace L1952 : Lb F1906 f2248 τ2250 m131 1 m.nxt 1 [(.fn (.yield ly) [] [])] := L1952
   replace L1953 : Lb F1906 f2248 τ2250 m131 3 m7.nxt 1 [(.int .i64 a1902)] := L1953
   replace Y1957 : Yg n0 (YJ xs I r1954) s1955 F1906 f2248 τ2250 m131 := Y1957
   replace rk1958 : Rk F1906 f2248 τ2250 m131 2 (m4).nxt o1935 := rk1958
   rw [pchoicesI_L1] at hp
   exact hk1915 .nrm (r1954, s1955, false) _ _ _ _ S2251 ⟨L1952, Y1957⟩ rk1958 hO1936 ⟨rfl, hp⟩
  ·intro id st _ _ _ _ _ _ hn; first | exact hn.elim | (cases hn)
  ·intro st f1959 τ1961 m132 S1962 s1960 hA hn
   obtain ⟨r1954, s1955, d1956⟩ := st
   rcases hn with hd | ⟨hd, hid, hp⟩
   ·replace hd : d1956 = true := hd
    subst hd
    obtain ⟨L1952, L1953, Y1957, rk1958⟩ := hA
    replace L1952 : Lb F1906 f1959 τ1961 m132 1 m.nxt 1 [(.fn (.yield ly) [] [])] := L1952
    replace L1953 : Lb F1906 f1959 τ1961 m132 3 m7.nxt 1 [(.int .i64 a1902)] := L1953
    replace Y1957 : Yg n0 E s1955 F1906 f1959 τ1961 m132 := Y1957
    replace rk1958 : Rk F1906 f1959 τ1961 m132 2 (m4).nxt o1935 := rk1958
    exact hk1915 .ret ([], s1955, true) _ _ _ _ S1962 ⟨L1952, Y1957⟩ rk1958 hO1936 (.inl rfl)
   replace hd : d1956 = false := hd
   subst hd
   replace hp : pchoicesI_L1_xret = some r1954 := hp
   unfold pchoicesI_L1_xret at hp
   obtain ⟨L1952, L1953, Y1957, rk1958⟩ := hA
   replace L1952 : Lb F1906 f1959 τ1961 m132 1 m.nxt 1 [(.fn (.yield ly) [] [])] := L1952
   replace L1953 : Lb F1906 f1959 τ1961 m132 3 m7.nxt 1 [(.int .i64 a1902)] := L1953
   replace Y1957 : Yg n0 (YJ xs I r1954) s1955 F1906 f1959 τ1961 m132 := Y1957
   replace rk1958 : Rk F1906 f1959 τ1961 m132 2 (m4).nxt o1935 := rk1958
   exact hk1915 .ret (r1954, s1955, false) _ _ _ _ S1962 ⟨L1952, Y1957⟩ rk1958 hO1936 (.inr ⟨rfl, rfl, hp⟩)
 ·intro st f2252 τ2254 m133 S2255 s2253 hA hp
  obtain ⟨r1894, s1895, d1896⟩ := st
  obtain ⟨hdd, hp⟩ := hp
  replace hdd : d1896 = false := hdd
  subst hdd
  replace hp : pchoicesI_L0 fl w [] = some r1894 := hp
  obtain ⟨L1893, Y1897⟩ := hA
  replace L1893 : Lb F f2252 τ2254 m133 1 m.nxt 1 [(.fn (.yield ly) [] [])] := L1893
  replace Y1897 : Yg n0 (YJ xs I r1894) s1895 F f2252 τ2254 m133 := Y1897
  rw [pchoicesI_L0] at hp
  obtain rfl := Option.some.inj hp
  exact hq _ _ _ _ _ S2255 (.inl Y1897)
 ·intro id st _ _ _ _ _ _ hn; first | exact hn.elim | (cases hn)
 ·intro st f1898 τ1900 m134 S1901 s1899 hA hn
  obtain ⟨r1894, s1895, d1896⟩ := st
  rcases hn with hd | ⟨hd, hid, hp⟩
  ·replace hd : d1896 = true := hd
   subst hd
   obtain ⟨L1893, Y1897⟩ := hA
   replace L1893 : Lb F f1898 τ1900 m134 1 m.nxt 1 [(.fn (.yield ly) [] [])] := L1893
   replace Y1897 : Yg n0 E s1895 F f1898 τ1900 m134 := Y1897
   exact hq _ _ _ _ _ S1901 (.inr Y1897)
  replace hd : d1896 = false := hd
  subst hd
  replace hp : pchoicesI_L0_xret = some r1894 := hp
  unfold pchoicesI_L0_xret at hp
  obtain ⟨L1893, Y1897⟩ := hA
  replace L1893 : Lb F f1898 τ1900 m134 1 m.nxt 1 [(.fn (.yield ly) [] [])] := L1893
  replace Y1897 : Yg n0 (YJ xs I r1894) s1895 F f1898 τ1900 m134 := Y1897
  obtain rfl := Option.some.inj hp
  exact hq _ _ _ _ _ S1901 (.inl Y1897)
theorem s_choices {w : Wk} {fl : Fld} {ca101 ca102 ca103 ca104 : C} {m f : M} {Q : V → M → Prop} {rz : List Crs} (hS : Pre f m) (ha101 : Sl f ca101 w.s.Rules) (ha102 : Sl f ca102 w.s.Fields) (ha103 : Sl f ca103 w.s.Visits) (ha104 : Mi f ca104 w.damages) (hp : pchoices w fl = some rz) (hq : ∀ m' f' c0, Grw m f m' f' → It prog tbl f' c0 rz → Q (.c c0) m') : Wc prog tbl 72 [.agg 5 [(Il w.s.Last), ca101, ca102, ca103, ca104], .agg 7 [(Il fl.Crop), (Il fl.Week.Lo), (Il fl.Week.Hi), (Il fl.Damage.Lo), (Il fl.Damage.Hi), (Il fl.Old.Lo), (Il fl.Old.Hi)]] m Q := by
 have J := hS.st
 obtain ⟨N, _⟩ : ∃ τ : Nat → Nat, True := ⟨fun _ => 0, trivial⟩
 refine w72 ?_
 unfold pchoices at hp
 intro B j
 obtain ⟨l, n, D, o⟩ := J.blk j N 1
 intro O p
 obtain ⟨F, q, r, t⟩ := n.blk p l 2
 have u := o.k r
 obtain ⟨G, x, a, g⟩ := t.freeze q
 have y := u.k a
 obtain ⟨e, d, b, h⟩ := y.freeze x
 obtain ⟨z, A, hp⟩ := bsome hp
 have i : It prog tbl e ((C.fn (Fn.func 97) [] [(W.c (C0.ptr B.nxt 0)), (W.c (C0.ptr m.nxt 0))])) z := it_of d.fz d.fv fun P ly I E hc O S T Y hS hY Q hq => s_choicesI hc hS hY (g.sub b.fs) h (ha101.sub (Sub.trans a.fs b.fs)) (ha102.sub (Sub.trans a.fs b.fs)) (ha103.sub (Sub.trans a.fs b.fs)) (ha104.sub (Sub.trans a.fs b.fs)) A hq
 obtain rfl := Option.some.inj hp
 exact hq _ e (C.fn (Fn.func 97) [] [(W.c (C0.ptr B.nxt 0)), (W.c (C0.ptr m.nxt 0))]) d.grw i
theorem s_truthsI {w : Wk} {b0 : Nat} {field : Int} {b1 : Nat} {cb001 cb002 cb003 cb004 : C} {m f : M} {F : Fm} {n0 ly : Nat} {xs : List (List V)} {I : Nat → (Nat → Prop) → M → Prop} {E : (Nat → Prop) → M → Prop} {S1 : Nat → Prop} {Q : V → M → Prop} {rz : List Crs} {τ0 : Nat → Nat} (hc : Client prog tbl n0 ly xs I E) (S0 : St F f f m) (Y0 : Yg n0 (YJ xs I rz) S1 F f τ0 m) (hb0 : Bk f b0 5 [(.int .i64 w.s.Last), cb001, cb002, cb003, cb004]) (hb001 : Sl f cb001 w.s.Rules) (hb002 : Sl f cb002 w.s.Fields) (hb003 : Sl f cb003 w.s.Visits) (hb004 : Mi f cb004 w.damages) (hb1 : Bk f b1 1 [(.int .i64 field)]) (hp : ptruthsI w field = some rz) (hq : ∀ v m' f' τ' S', St F f f' m' → (Yg n0 (YJ xs I ([] : List Crs)) S' F f' τ' m' ∨ Yg n0 E S' F f' τ' m') → Q v m') : Wc prog tbl 71 [.c (.fn (.yield ly) [] []), .c (.ptr b0 0), .c (.ptr b1 0)] m Q := by
 refine c71 ?_
 unfold ptruthsI at hp
 intro m0 e2279
 obtain ⟨τ2282, S2280, k2281, L2283⟩ := S0.blk e2279 τ0 1
 have Y2284 := Y0.k k2281 (by decide)
 refine ⟨_, _, _, _, _, (hb0.sub S2280.sub).ra, trivial, trivial, _, (hb0.sub S2280.sub).rc rfl, _, (hb1.sub S2280.sub).rc rfl, ?_⟩
 obtain ⟨v2285, g2286, hp⟩ := bsome hp
 obtain ⟨n8, g2286i, g2286l, g2286⟩ := idx_some g2286
 obtain ⟨_, r2287⟩ := rd_Fld hb002 g2286
 refine ⟨n8, g2286i, (by first | exact g2286l | (rw [hb002.slLen]; exact g2286l)), _, _, _, _, _, _, _, (r2287 _ S2280.sub).1, ?_⟩
 obtain ⟨r2288, g2289, hp⟩ := bsome hp
 refine s_choices (w := w) (fl := v2285) S2280.pre hb001 hb002 hb003 hb004 g2289 fun m17 f2293 c2294 e2292 h2295 => ?_
 obtain ⟨S2290, k2291⟩ := S2280.callG e2292 τ2282
 have L2296 := L2283.k k2291 (by decide)
 have Y2297 := Y2284.k k2291 (by decide)
 refine ⟨_, rfl, ?_⟩
 refine range_st (α := Crs) S2290 h2295 (σ := (List Crs) × (Nat → Prop) × Bool) 2 (fun st bb => (False ∨ (st.2.1 bb))) (fun st gG gF gT gM => (Lb gG gF gT gM 1 m.nxt 1 [(.fn (.yield ly) [] [])]) ∧ (Yg n0 (YD xs I E st.2.2 st.1) st.2.1 gG gF gT gM)) (fun rr_ st => st.2.2 = false ∧ ptruthsI_L0 w field rr_ = some st.1) (fun ex st => (match ex with | .ret => st.2.2 = true ∨ (st.2.2 = false ∧ (0 : Nat) = 0 ∧ ptruthsI_L0_xret = some st.1) | _ => False)) (fun st => (Gud.and (Gud.lb L2296.bk.lt (by decide)) (Gud.yg Y2297.n (by decide)))) (st0 := (rz, S1, false)) (τ := τ2282) ⟨L2296, Y2297⟩ ⟨rfl, hp⟩ ?_ ?_ ?_ ?_
 ·intro a2307 q2308 st f2309 τ2310 m20 F2311 o2312 Ok2313 en2314 Kn2315 S2316 s2317 hA rk2318 hp he2319 hk2320
  obtain ⟨r2299, s2300, d2301⟩ := st
  obtain ⟨hdd, hp⟩ := hp
  replace hdd : d2301 = false := hdd
  subst hdd
  obtain ⟨L2298, Y2302⟩ := hA
  replace L2298 : Lb F2311 f2309 τ2310 m20 1 m.nxt 1 [(.fn (.yield ly) [] [])] := L2298
  replace Y2302 : Yg n0 (YJ xs I r2299) s2300 F2311 f2309 τ2310 m20 := Y2302
  replace hp : ptruthsI_L0 w field (a2307 :: q2308) = some r2299 := hp
  rw [ptruthsI_L0] at hp
  refine ⟨_, _, _, _, _, _, _, _, _, _, _, _, _, _, _, _, rfl, ?_⟩
  intro m39 e2321
  obtain ⟨τ2324, S2322, k2323, L2325⟩ := S2316.blk e2321 τ2310 3
  have L2326 := L2298.k k2323 (by decide)
  have Y2327 := Y2302.k k2323 (by decide)
  have rk2328 := rk2318.k k2323 (by decide)
  obtain ⟨m2332, e2331, S2329, k2330, L2333⟩ := L2325.sto S2322 [(.int .i64 a2307.t.Week), (.int .i64 a2307.t.Damage), (.int .i64 a2307.t.Old), (.int .i64 a2307.d.d0), (.int .i64 a2307.d.d1), (.int .i64 a2307.d.d2), (.int .i64 a2307.d.d3), (.int .i64 a2307.d.d4), (.int .i64 a2307.d.d5), (.int .i64 a2307.d.d6), (.int .i64 a2307.d.d7), (.int .i64 a2307.d.d8), (.int .i64 a2307.d.d9), (.int .i64 a2307.d.d10), (.int .i64 a2307.d.d11), (.int .i64 a2307.d.d12)]
  have L2334 := L2326.k k2330 (by decide)
  have Y2335 := Y2327.k k2330 (by decide)
  have rk2336 := rk2328.k k2330 (by decide)
  refine ⟨m2332, e2331, ?_⟩
  refine he2319 _ _ _ _ S2329 rk2336 fun m41 o2340 S2337 k2338 rk2339 hO2341 => ?_
  have L2342 := L2334.k k2338 (by decide)
  have L2343 := L2333.k k2338 (by decide)
  have Y2344 := Y2335.k k2338 (by decide)
  refine ⟨trivial, _, _, _, _, (hb0.sub (Sub.trans (Sub.trans k2291.fs s2317) S2337.sub)).rp (k := 0) (j := 4) rfl (by omega), _, (hb1.sub (Sub.trans (Sub.trans k2291.fs s2317) S2337.sub)).rc rfl, _, _, _, _, _, _, _, _, _, _, _, _, _, _, _, _, L2343.bk.ra, ?_⟩
  obtain ⟨r2345, g2346, hp⟩ := bsome hp
  refine s_allows (s := w.s) (field := field) (c := a2307) S2337.pre (hb001.sub (Sub.trans k2291.fs s2317)) (hb002.sub (Sub.trans k2291.fs s2317)) (hb003.sub (Sub.trans k2291.fs s2317)) g2346 fun m64 e2349 => ?_
  obtain ⟨S2347, k2348⟩ := S2337.call e2349 τ2324
  have L2350 := L2342.k k2348 (by decide)
  have L2351 := L2343.k k2348 (by decide)
  have Y2352 := Y2344.k k2348 (by decide)
  have rk2353 := rk2339.k k2348 (by decide)
  refine ⟨_, rfl, ?_⟩
  refine ifbb hp (fun q2354 hp => ?_) fun q2354 hp => ?_; rotate_left
  ·exact hk2320 .nrm (r2299, s2300, false) _ _ _ _ S2347 ⟨L2350, Y2352⟩ rk2353 hO2341 ⟨rfl, hp⟩
  refine ⟨_, L2350.bk.rc rfl, _, _, _, _, _, _, _, _, _, _, _, _, _, _, _, _, L2351.bk.ra, ?_⟩
  obtain ⟨r2355, hp2357, hz2356⟩ := bsome hp
  clear hp
  obtain rfl := Option.some.inj hz2356
  have hp := hp2357
  show Wy prog tbl ly (IV.encs (a2307 : Crs)) _ _
  refine Yg.yield hc S2347 Y2352 ?_ ?_
  ·intro m84 τ2358 s2362 S2359 k2360 Y2361
   have L2363 := L2350.k k2360 (by decide)
   have L2364 := L2351.k k2360 (by decide)
   have rk2365 := rk2353.k k2360 (by decide)
   refine ⟨_, rfl, ?_⟩
   refine ifB_f' ?_
   exact hk2320 .nrm (r2355, s2362, false) _ _ _ _ S2359 ⟨L2363, Y2361⟩ rk2365 hO2341 ⟨rfl, hp⟩
  ·intro m84 τ2366 s2370 S2367 k2368 Y2369
   have L2371 := L2350.k k2368 (by decide)
   have L2372 := L2351.k k2368 (by decide)
   have rk2373 := rk2353.k k2368 (by decide)
   refine ⟨_, rfl, ?_⟩
   refine ifB_t' ?_
   exact hk2320 .ret ([], s2370, true) _ _ _ _ S2367 ⟨L2371, Y2369⟩ rk2373 hO2341 (.inl rfl)
 ·intro st f2374 τ2376 m86 S2377 s2375 hA hp
  obtain ⟨r2299, s2300, d2301⟩ := st
  obtain ⟨hdd, hp⟩ := hp
  replace hdd : d2301 = false := hdd
  subst hdd
  replace hp : ptruthsI_L0 w field [] = some r2299 := hp
  obtain ⟨L2298, Y2302⟩ := hA
  replace L2298 : Lb F f2374 τ2376 m86 1 m.nxt 1 [(.fn (.yield ly) [] [])] := L2298
  replace Y2302 : Yg n0 (YJ xs I r2299) s2300 F f2374 τ2376 m86 := Y2302
  rw [ptruthsI_L0] at hp
  obtain rfl := Option.some.inj hp
  exact hq _ _ _ _ _ S2377 (.inl Y2302)
 ·intro id st _ _ _ _ _ _ hn; first | exact hn.elim | (cases hn)
 ·intro st f2303 τ2305 m87 S2306 s2304 hA hn
  obtain ⟨r2299, s2300, d2301⟩ := st
  rcases hn with hd | ⟨hd, hid, hp⟩
  ·replace hd : d2301 = true := hd
   subst hd
   obtain ⟨L2298, Y2302⟩ := hA
   replace L2298 : Lb F f2303 τ2305 m87 1 m.nxt 1 [(.fn (.yield ly) [] [])] := L2298
   replace Y2302 : Yg n0 E s2300 F f2303 τ2305 m87 := Y2302
   exact hq _ _ _ _ _ S2306 (.inr Y2302)
  replace hd : d2301 = false := hd
  subst hd
  replace hp : ptruthsI_L0_xret = some r2299 := hp
  unfold ptruthsI_L0_xret at hp
  obtain ⟨L2298, Y2302⟩ := hA
  replace L2298 : Lb F f2303 τ2305 m87 1 m.nxt 1 [(.fn (.yield ly) [] [])] := L2298
  replace Y2302 : Yg n0 (YJ xs I r2299) s2300 F f2303 τ2305 m87 := Y2302
  obtain rfl := Option.some.inj hp
  exact hq _ _ _ _ _ S2306 (.inl Y2302)
theorem s_truths {w : Wk} {field : Int} {ca101 ca102 ca103 ca104 : C} {m f : M} {Q : V → M → Prop} {rz : List Crs} (hS : Pre f m) (ha101 : Sl f ca101 w.s.Rules) (ha102 : Sl f ca102 w.s.Fields) (ha103 : Sl f ca103 w.s.Visits) (ha104 : Mi f ca104 w.damages) (hp : ptruths w field = some rz) (hq : ∀ m' f' c0, Grw m f m' f' → It prog tbl f' c0 rz → Q (.c c0) m') : Wc prog tbl 40 [.agg 5 [(Il w.s.Last), ca101, ca102, ca103, ca104], .c (Il field)] m Q := by
 have J := hS.st
 obtain ⟨N, _⟩ : ∃ τ : Nat → Nat, True := ⟨fun _ => 0, trivial⟩
 refine w40 ?_
 unfold ptruths at hp
 intro B j
 obtain ⟨l, n, D, o⟩ := J.blk j N 1
 intro O p
 obtain ⟨F, q, r, t⟩ := n.blk p l 2
 have u := o.k r
 obtain ⟨G, x, a, g⟩ := u.freeze q
 have y := t.k a
 obtain ⟨e, d, b, h⟩ := y.freeze x
 obtain ⟨z, A, hp⟩ := bsome hp
 have i : It prog tbl e ((C.fn (Fn.func 71) [] [(W.c (C0.ptr m.nxt 0)), (W.c (C0.ptr B.nxt 0))])) z := it_of d.fz d.fv fun P ly I E hc O S T Y hS hY Q hq => s_truthsI hc hS hY (g.sub b.fs) (ha101.sub (Sub.trans a.fs b.fs)) (ha102.sub (Sub.trans a.fs b.fs)) (ha103.sub (Sub.trans a.fs b.fs)) (ha104.sub (Sub.trans a.fs b.fs)) h A hq
 obtain rfl := Option.some.inj hp
 exact hq _ e (C.fn (Fn.func 71) [] [(W.c (C0.ptr m.nxt 0)), (W.c (C0.ptr B.nxt 0))]) d.grw i
theorem s_hasTruthOf {w : Wk} {field : Int} {ca101 ca102 ca103 ca104 : C} {m f : M} {Q : V → M → Prop} {rz : Bool} (hS : Pre f m) (ha101 : Sl f ca101 w.s.Rules) (ha102 : Sl f ca102 w.s.Fields) (ha103 : Sl f ca103 w.s.Visits) (ha104 : Mi f ca104 w.damages) (hp : phasTruthOf w field = some rz) (hq : ∀ m', Ext m m' → Q (.c (.bool rz)) m') : Wc prog tbl 86 [.agg 5 [(Il w.s.Last), ca101, ca102, ca103, ca104], .c (Il field)] m Q := by
 have S0 := hS.st
 obtain ⟨τ0, _⟩ : ∃ τ : Nat → Nat, True := ⟨fun _ => 0, trivial⟩
 refine w86 ?_
 unfold phasTruthOf at hp
 intro I J
 obtain ⟨N, O, Ba, P⟩ := S0.blk J τ0 1
 intro m1 S
 obtain ⟨e, g, T, Y⟩ := O.blk S N 2
 have h := P.k T
 refine ⟨_, _, _, _, _, h.bk.ra, ?_⟩
 obtain ⟨Ca, Z, hp⟩ := bsome hp
 refine s_truths (w := w) (field := field) g.pre ha101 ha102 ha103 ha104 Z fun m8 Da Ea aa ba => ?_
 obtain ⟨ca, i⟩ := g.callG aa e
 have j := h.k i
 have l := Y.k i
 refine ⟨_, rfl, ?_⟩
 refine range_st (α := Crs) ca ba (σ := Bool) 3 (fun st bb => (False ∨ False)) (fun st gG gF gT gM => (Lb gG gF gT gM 1 m.nxt 5 [(Il w.s.Last), ca101, ca102, ca103, ca104]) ∧ (Lb gG gF gT gM 2 I.nxt 1 [(.bool st)])) (fun rr_ st => phasTruthOf_L0 rr_ st = some rz) (fun ex st => (match ex with | .ret => (0 : Nat) = 0 ∧ phasTruthOf_L0_xret st = some rz | _ => False)) (fun st => (Gud.and (Gud.lb j.bk.lt (by decide)) (Gud.lb l.bk.lt (by decide)))) (st0 := (false)) (τ := e) ⟨j, l⟩ hp ?_ ?_ ?_ ?_
 ·intro da ea d n o va p Fa ya za Aa fa Ga hA z hp A B
  obtain ⟨b, a⟩ := hA
  replace b : Lb p n o va 1 m.nxt 5 [(Il w.s.Last), ca101, ca102, ca103, ca104] := b
  replace a : Lb p n o va 2 I.nxt 1 [(.bool d)] := a
  replace hp : phasTruthOf_L0 (da :: ea) d = some rz := hp
  rw [phasTruthOf_L0] at hp
  refine ⟨_, _, _, _, _, _, _, _, _, _, _, _, _, _, _, _, rfl, ?_⟩
  refine A _ _ _ _ fa z fun Na Ha ga q D F => ?_
  have ha := b.k q
  have ia := a.k q
  obtain ⟨ja, ka, la, r, ma⟩ := ia.sto ga [(.bool true)]
  have na := ha.k r
  have G := D.k r
  refine ⟨ja, ka, ?_⟩
  exact B .ret (true) _ _ _ _ la ⟨na, ma⟩ G F ⟨rfl, hp⟩
 ·intro d t u wa oa Ia hA hp
  replace hp : phasTruthOf_L0 [] d = some rz := hp
  obtain ⟨b, a⟩ := hA
  replace b : Lb (Fm.of m) t u wa 1 m.nxt 5 [(Il w.s.Last), ca101, ca102, ca103, ca104] := b
  replace a : Lb (Fm.of m) t u wa 2 I.nxt 1 [(.bool d)] := a
  rw [phasTruthOf_L0] at hp
  obtain ⟨pa, qa, sa, Ja, ta⟩ := a.sto oa [(.bool false)]
  refine ⟨pa, qa, ?_⟩
  refine ⟨_, ta.bk.rc rfl, ?_⟩
  obtain rfl := Option.some.inj hp
  exact hq _ sa.ext'
 ·intro id st _ _ _ _ _ _ hn; first | exact hn.elim | (cases hn)
 ·intro d x y xa ua Ka hA hn
  obtain ⟨hid, hp⟩ := hn
  replace hp : phasTruthOf_L0_xret d = some rz := hp
  unfold phasTruthOf_L0_xret at hp
  obtain ⟨b, a⟩ := hA
  replace b : Lb (Fm.of m) x y xa 1 m.nxt 5 [(Il w.s.Last), ca101, ca102, ca103, ca104] := b
  replace a : Lb (Fm.of m) x y xa 2 I.nxt 1 [(.bool d)] := a
  refine ⟨_, a.bk.rc rfl, ?_⟩
  obtain rfl := Option.some.inj hp
  exact hq _ ua.ext'
theorem s_hasTruth {w : Wk} {ca101 ca102 ca103 ca104 : C} {m f : M} {Q : V → M → Prop} {rz : Bool} (hS : Pre f m) (ha101 : Sl f ca101 w.s.Rules) (ha102 : Sl f ca102 w.s.Fields) (ha103 : Sl f ca103 w.s.Visits) (ha104 : Mi f ca104 w.damages) (hp : phasTruth w = some rz) (hq : ∀ m', Ext m m' → Q (.c (.bool rz)) m') : Wc prog tbl 54 [.agg 5 [(Il w.s.Last), ca101, ca102, ca103, ca104]] m Q := by
 have F := hS.st
 obtain ⟨G, _⟩ : ∃ τ : Nat → Nat, True := ⟨fun _ => 0, trivial⟩
 refine w54 ?_
 unfold phasTruth at hp
 intro N j
 obtain ⟨l, n, B, a⟩ := F.blk j G 1
 refine ⟨trivial, trivial, _, a.bk.rc rfl, ha102.isSl, ?_⟩
 intro I A
 have hgo : ∀ (d : Nat) (y : Bool) (h : Int) (i : M) (b : Nat → Nat), St (Fm.of m) f f i → Lb (Fm.of m) f b i 1 m.nxt 5 [(Il w.s.Last), ca101, ca102, ca103, ca104] → phasTruth_L0 w d h = some rz → I [.c (.bool y), .c (Il h)] i := by
  intro d
  induction d with
  | zero => intro y h i b e a hp; cases hp
  | succ d z =>
   intro y h i b e a hp
   refine A _ _ _ ?_
   rw [phasTruth_L0] at hp
   try rw [ha102.slLen]
   refine ifd hp (fun o hp => ?_) fun o hp => ?_; rotate_left
   ·obtain rfl := Option.some.inj hp
    exact hq _ e.ext'
   refine ⟨_, _, _, _, _, a.bk.ra, ?_⟩
   obtain ⟨D, p, hp⟩ := bsome hp
   refine s_hasTruthOf (w := w) (field := h) e.pre ha101 ha102 ha103 ha104 p fun J q => ?_
   obtain ⟨g, r⟩ := e.call q b
   have t := a.k r
   refine ⟨_, rfl, ?_⟩
   refine ifnb hp (fun u hp => ?_) fun u hp => ?_
   ·obtain rfl := Option.some.inj hp
    exact hq _ g.ext'
   refine gdi hp fun x hp => ?_
   exact z _ _ _ b g t hp
 exact hgo _ _ _ _ l n a hp
theorem s_openTrue {s : Ssn} {ca101 ca102 ca103 : C} {m f : M} {Q : V → M → Prop} {rz : Wk × Int} (hS : Pre f m) (ha101 : Sl f ca101 s.Rules) (ha102 : Sl f ca102 s.Fields) (ha103 : Sl f ca103 s.Visits) (hp : popenTrue s = some rz) (hq : ∀ m' f' c1 c2 c3 c4, Grw m f m' f' → Sl f' c1 rz.1.s.Rules → Sl f' c2 rz.1.s.Fields → Sl f' c3 rz.1.s.Visits → Mi f' c4 rz.1.damages → Q (.tup [.agg 5 [(Il rz.1.s.Last), c1, c2, c3, c4], .c (Il rz.2)]) m') : Wc prog tbl 50 [.agg 4 [(Il s.Last), ca101, ca102, ca103]] m Q := by
 have S0 := hS.st
 obtain ⟨τ0, _⟩ : ∃ τ : Nat → Nat, True := ⟨fun _ => 0, trivial⟩
 refine w50 ?_
 unfold popenTrue at hp
 intro m0 D
 obtain ⟨F, G, Fa, I⟩ := S0.blk D τ0 1
 intro m1 J
 obtain ⟨a, j, N, O⟩ := G.blk J F 2
 have l := I.k N
 refine ⟨_, _, _, _, l.bk.ra, ?_⟩
 obtain ⟨Ga, P, hp⟩ := bsome hp
 refine s_check (s := s) j.pre ha101 ha102 ha103 P fun m7 S => ?_
 obtain ⟨b, n⟩ := j.call S a
 have T := l.k n
 have o := O.k n
 refine ⟨_, rfl, ?_⟩
 refine ifnd hp (fun Y hp => ?_) fun Y hp => ?_
 ·obtain ⟨Z, aa, ba, Ha, ca⟩ := o.sto b [(Il 0), .sl0, .sl0, .sl0, C.map0]
  refine ⟨Z, aa, ?_⟩
  refine ⟨_, _, _, _, _, ca.bk.ra, ?_⟩
  obtain rfl := Option.some.inj hp
  exact hq _ f .sl0 .sl0 .sl0 C.map0 ba.grw (Sl.nil _) (Sl.nil _) (Sl.nil _) (show Mi _ .map0 none from rfl)
 refine ⟨_, _, _, _, T.bk.ra, ?_⟩
 obtain ⟨d, da, hp⟩ := bsome hp
 refine s_open (s := s) b.pre ha101 ha102 ha103 da fun Na p e g h i ea q r t u => ?_
 obtain ⟨fa, ga⟩ := b.callG ea a
 have ha := o.k ga
 refine ⟨_, _, _, _, _, rfl, ?_⟩
 intro Oa ia
 obtain ⟨ja, ka, la, ma⟩ := fa.blk ia a 3
 have na := ha.k la
 obtain ⟨oa, pa, x, qa, y⟩ := ma.sto ka [(Il d.s.Last), e, g, h, i]
 have sa := na.k qa
 refine ⟨oa, pa, ?_⟩
 refine ⟨_, _, _, _, _, y.bk.ra, ?_⟩
 obtain ⟨Ia, ta, hp⟩ := bsome hp
 refine s_hasTruth (w := d) x.pre q r t u ta fun Pa ua => ?_
 obtain ⟨z, A⟩ := x.call ua ja
 have B := sa.k A
 have va := y.k A
 refine ⟨_, rfl, ?_⟩
 refine ifnb hp (fun wa hp => ?_) fun wa hp => ?_
 ·obtain ⟨xa, ya, za, Ja, Aa⟩ := B.sto z [(Il 0), .sl0, .sl0, .sl0, C.map0]
  refine ⟨xa, ya, ?_⟩
  refine ⟨_, _, _, _, _, Aa.bk.ra, ?_⟩
  obtain rfl := Option.some.inj hp
  exact hq _ p .sl0 .sl0 .sl0 C.map0 za.grw (Sl.nil _) (Sl.nil _) (Sl.nil _) (show Mi _ .map0 none from rfl)
 refine ⟨_, _, _, _, _, va.bk.ra, ?_⟩
 obtain ⟨Ba, Ca, Da, Ka, Ea⟩ := B.sto z [(Il d.s.Last), e, g, h, i]
 refine ⟨Ba, Ca, ?_⟩
 refine ⟨_, _, _, _, _, Ea.bk.ra, ?_⟩
 obtain rfl := Option.some.inj hp
 exact hq _ p e g h i Da.grw q r t u
theorem s_openAsked {s : Ssn} {field : Int} {known : Bool} {ca101 ca102 ca103 : C} {m f : M} {Q : V → M → Prop} {rz : Wk × Int} (hS : Pre f m) (ha101 : Sl f ca101 s.Rules) (ha102 : Sl f ca102 s.Fields) (ha103 : Sl f ca103 s.Visits) (hp : popenAsked s field known = some rz) (hq : ∀ m' f' c1 c2 c3 c4, Grw m f m' f' → Sl f' c1 rz.1.s.Rules → Sl f' c2 rz.1.s.Fields → Sl f' c3 rz.1.s.Visits → Mi f' c4 rz.1.damages → Q (.tup [.agg 5 [(Il rz.1.s.Last), c1, c2, c3, c4], .c (Il rz.2)]) m') : Wc prog tbl 28 [.agg 4 [(Il s.Last), ca101, ca102, ca103], .c (Il field), .c (.bool known)] m Q := by
 have S0 := hS.st
 obtain ⟨τ0, _⟩ : ∃ τ : Nat → Nat, True := ⟨fun _ => 0, trivial⟩
 refine w28 ?_
 unfold popenAsked at hp
 intro m0 u
 obtain ⟨x, y, za, z⟩ := S0.blk u τ0 1
 intro m1 A
 obtain ⟨b, g, B, D⟩ := y.blk A x 2
 have h := z.k B
 refine ⟨_, _, _, _, h.bk.ra, ?_⟩
 obtain ⟨Aa, F, hp⟩ := bsome hp
 refine s_check (s := s) g.pre ha101 ha102 ha103 F fun m7 G => ?_
 obtain ⟨d, i⟩ := g.call G b
 have j := h.k i
 have l := D.k i
 refine ⟨_, rfl, ?_⟩
 refine ifnd hp (fun I hp => ?_) fun I hp => ?_
 ·obtain ⟨J, N, O, Ba, P⟩ := l.sto d [(Il 0), .sl0, .sl0, .sl0, C.map0]
  refine ⟨J, N, ?_⟩
  refine ⟨_, _, _, _, _, P.bk.ra, ?_⟩
  obtain rfl := Option.some.inj hp
  exact hq _ f .sl0 .sl0 .sl0 C.map0 O.grw (Sl.nil _) (Sl.nil _) (Sl.nil _) (show Mi _ .map0 none from rfl)
 refine ⟨_, _, _, _, j.bk.ra, ?_⟩
 obtain ⟨Ca, S, hp⟩ := bsome hp
 refine s_hasField (s := s) (n := field) d.pre ha101 ha102 ha103 S fun Ia T => ?_
 obtain ⟨a, o⟩ := d.call T b
 have Y := j.k o
 have e := l.k o
 refine ⟨_, rfl, ?_⟩
 refine ifnb hp (fun Z hp => ?_) fun Z hp => ?_
 ·obtain ⟨aa, ba, ca, Da, da⟩ := e.sto a [(Il 0), .sl0, .sl0, .sl0, C.map0]
  refine ⟨aa, ba, ?_⟩
  refine ⟨_, _, _, _, _, da.bk.ra, ?_⟩
  obtain rfl := Option.some.inj hp
  exact hq _ f .sl0 .sl0 .sl0 C.map0 ca.grw (Sl.nil _) (Sl.nil _) (Sl.nil _) (show Mi _ .map0 none from rfl)
 refine ifnb hp (fun ea hp => ?_) fun ea hp => ?_
 ·obtain ⟨fa, ga, ha, Ea, ia⟩ := e.sto a [(Il 0), .sl0, .sl0, .sl0, C.map0]
  refine ⟨fa, ga, ?_⟩
  refine ⟨_, _, _, _, _, ia.bk.ra, ?_⟩
  obtain rfl := Option.some.inj hp
  exact hq _ f .sl0 .sl0 .sl0 C.map0 ha.grw (Sl.nil _) (Sl.nil _) (Sl.nil _) (show Mi _ .map0 none from rfl)
 refine ⟨_, _, _, _, Y.bk.ra, ?_⟩
 obtain ⟨ja, ka, hp⟩ := bsome hp
 refine s_openTrue (s := s) a.pre ha101 ha102 ha103 ka fun Ja la p q r t ma na oa pa qa => ?_
 obtain ⟨sa, ta⟩ := a.callG ma b
 have ua := e.k ta
 refine ⟨_, _, _, _, _, _, rfl, ?_⟩
 obtain ⟨va, wa, xa, Fa, ya⟩ := ua.sto sa [(Il ja.1.s.Last), p, q, r, t]
 refine ⟨va, wa, ?_⟩
 refine ⟨_, _, _, _, _, ya.bk.ra, ?_⟩
 obtain rfl := Option.some.inj hp
 exact hq _ la p q r t xa.grw na oa pa qa
theorem s_minimum {l : List Int} {ca100 : C} {m f : M} {Q : V → M → Prop} {rz : Int} (hS : Pre f m) (ha100 : Sl f ca100 l) (hp : pminimum l = some rz) (hq : ∀ m', Ext m m' → Q (.c (Il rz)) m') : Wc prog tbl 66 [.c ca100] m Q := by
 have z := hS.st
 obtain ⟨F, _⟩ : ∃ τ : Nat → Nat, True := ⟨fun _ => 0, trivial⟩
 refine w66 ?_
 unfold pminimum at hp
 refine ⟨ha100.isSl, ?_⟩
 try rw [ha100.slLen]
 refine ifd hp (fun p hp => ?_) fun p hp => ?_
 ·obtain rfl := Option.some.inj hp
  exact hq _ z.ext'
 obtain ⟨B, e, hp⟩ := bsome hp
 obtain ⟨G, j, h, e⟩ := idx_some e
 refine ⟨G, j, (by first | exact h | (rw [ha100.slLen]; exact h)), _, (ha100.rdI e z.sub), ha100.isSl, ?_⟩
 intro I A
 have hgo : ∀ (b : Nat) (q : Int) (r : Int) (s : M) (d : Nat → Nat), St (Fm.of m) f f s → pminimum_L0 l b q r = some rz → I [.c (Il q), .c (Il r)] s := by
  intro b
  induction b with
  | zero => intro q r s d a hp; cases hp
  | succ b n =>
   intro q r s d a hp
   refine A _ _ _ ?_
   rw [pminimum_L0] at hp
   try rw [ha100.slLen]
   refine ifd hp (fun t hp => ?_) fun t hp => ?_; rotate_left
   ·obtain rfl := Option.some.inj hp
    exact hq _ a.ext'
   obtain ⟨D, g, hp⟩ := bsome hp
   obtain ⟨J, o, i, g⟩ := idx_some g
   refine ⟨J, o, (by first | exact i | (rw [ha100.slLen]; exact i)), _, (ha100.rdI g a.sub), ?_⟩
   refine ifd hp (fun u hp => ?_) fun u hp => ?_
   ·refine gdi hp fun x hp => ?_
    exact n _ _ _ d a hp
   refine gdi hp fun y hp => ?_
   exact n _ _ _ d a hp
 exact hgo _ _ _ _ F z hp
theorem s_sMax {l : List Int} {ca100 : C} {m f : M} {Q : V → M → Prop} {rz : Int} (hS : Pre f m) (ha100 : Sl f ca100 l) (hp : psMax l = some rz) (hq : ∀ m', Ext m m' → Q (.c (Il rz)) m') : Wc prog tbl 67 [.c ca100] m Q := by
 have x := hS.st
 obtain ⟨B, _⟩ : ∃ τ : Nat → Nat, True := ⟨fun _ => 0, trivial⟩
 refine w67 ?_
 unfold psMax at hp
 refine ⟨ha100.isSl, ?_⟩
 try rw [ha100.slLen]
 refine ifd hp (fun o hp => ?_) fun o hp => ?_
 ·cases hp
 obtain ⟨z, d, hp⟩ := bsome hp
 obtain ⟨D, j, h, d⟩ := idx_some d
 refine ⟨D, j, (by first | exact h | (rw [ha100.slLen]; exact h)), _, (ha100.rdI d x.sub), ?_⟩
 intro F y
 have hgo : ∀ (a : Nat) (p : Int) (q : Int) (r : M) (e : Nat → Nat), St (Fm.of m) f f r → psMax_L0 l a p q = some rz → F [.c (Il p), .c (Il q)] r := by
  intro a
  induction a with
  | zero => intro p q r e b hp; cases hp
  | succ a u =>
   intro p q r e b hp
   refine y _ _ _ ?_
   rw [psMax_L0] at hp
   refine ⟨ha100.isSl, ?_⟩
   try rw [ha100.slLen]
   refine ifd hp (fun s hp => ?_) fun s hp => ?_; rotate_left
   ·obtain rfl := Option.some.inj hp
    exact hq _ b.ext'
   obtain ⟨A, g, hp⟩ := bsome hp
   obtain ⟨G, n, i, g⟩ := idx_some g
   refine ⟨G, n, (by first | exact i | (rw [ha100.slLen]; exact i)), _, (ha100.rdI g b.sub), ?_⟩
   refine gdi hp fun t hp => ?_
   exact u _ _ _ e b hp
 exact hgo _ _ _ _ B x hp
theorem s_span {w : Wk} {field : Int} {q : Qn} {ca101 ca102 ca103 ca104 ca300 : C} {m f : M} {Q : V → M → Prop} {rz : Rg} (hS : Pre f m) (ha101 : Sl f ca101 w.s.Rules) (ha102 : Sl f ca102 w.s.Fields) (ha103 : Sl f ca103 w.s.Visits) (ha104 : Mi f ca104 w.damages) (ha300 : Fv_Crs_Int f ca300 q.number) (hp : pspan w field q = some rz) (hq : ∀ m', Ext m m' → Q (.agg 2 [(Il rz.Lo), (Il rz.Hi)]) m') : Wc prog tbl 30 [.agg 5 [(Il w.s.Last), ca101, ca102, ca103, ca104], .c (Il field), .agg 1 [ca300]] m Q := by
 have S0 := hS.st
 obtain ⟨τ0, _⟩ : ∃ τ : Nat → Nat, True := ⟨fun _ => 0, trivial⟩
 refine w30 ?_
 unfold pspan at hp
 intro m0 Ca
 obtain ⟨Da, Ea, tc, Fa⟩ := S0.blk Ca τ0 1
 intro m1 Ga
 obtain ⟨Ha, Ia, Ja, Ka⟩ := Ea.blk Ga Da 2
 have La := Fa.k Ja
 intro m2 Ma
 obtain ⟨Na, Oa, aa, Pa⟩ := Ia.blk Ma Ha 3
 have Qa := La.k aa
 have Ra := Ka.k aa
 intro m3 Sa
 obtain ⟨ba, ca, J, Ta⟩ := Oa.blk Sa Na 4
 have da := Qa.k J
 have Ua := Ra.k J
 have Va := Pa.k J
 refine ⟨_, _, _, _, _, da.bk.ra, ?_⟩
 obtain ⟨uc, Wa, hp⟩ := bsome hp
 refine s_truths (w := w) (field := field) ca.pre ha101 ha102 ha103 ha104 Wa fun Fc vc wc Xa Ya => ?_
 obtain ⟨Za, A⟩ := ca.callG Xa ba
 have ea := da.k A
 have fa := Ua.k A
 have ga := Va.k A
 have ha := Ta.k A
 refine ⟨_, rfl, ?_⟩
 refine range_st (α := Crs) Za Ya (σ := (List Int) × C) 5 (fun st bb => (False ∨ (False ∨ (False ∨ (False ∨ (ownBlk st.2 bb)))))) (fun st gG gF gT gM => (Lb gG gF gT gM 1 m.nxt 5 [(Il w.s.Last), ca101, ca102, ca103, ca104]) ∧ (Lb gG gF gT gM 2 m0.nxt 1 [ca300]) ∧ (Lb gG gF gT gM 3 m1.nxt 2 [(Il 0), (Il 0)]) ∧ (Lb gG gF gT gM 4 m2.nxt 1 [st.2]) ∧ (Ow gG gF gT gM 6 st.2 st.1)) (fun rr_ st => pspan_L0 q rr_ st.1 = some rz) (fun ex st => False) (fun st => (Gud.and (Gud.lb ea.bk.lt (by decide)) (Gud.and (Gud.lb fa.bk.lt (by decide)) (Gud.and (Gud.lb ga.bk.lt (by decide)) (Gud.and (Gud.lb ha.bk.lt (by decide)) (Gud.ow (by decide))))))) (st0 := ([], .sl0)) (τ := ba) ⟨ea, fa, ga, ha, (Ow.nil _ _ _ _ _)⟩ hp ?_ ?_ ?_ ?_
 ·intro b ab st n o Y B xc pc qc sc cb db hA sa hp ta ua
  obtain ⟨g, D⟩ := st
  obtain ⟨p, r, i, h, e⟩ := hA
  replace p : Lb B n o Y 1 m.nxt 5 [(Il w.s.Last), ca101, ca102, ca103, ca104] := p
  replace r : Lb B n o Y 2 m0.nxt 1 [ca300] := r
  replace i : Lb B n o Y 3 m1.nxt 2 [(Il 0), (Il 0)] := i
  replace h : Lb B n o Y 4 m2.nxt 1 [D] := h
  replace e : Ow B n o Y 6 D g := e
  replace hp : pspan_L0 q (b :: ab) g = some rz := hp
  rw [pspan_L0] at hp
  refine ⟨_, _, _, _, _, _, _, _, _, _, _, _, _, _, _, _, rfl, ?_⟩
  intro Gc eb
  obtain ⟨fb, gb, u, hb⟩ := cb.blk eb o 7
  have ib := p.k u
  have jb := r.k u
  have kb := i.k u
  have mb := h.k u
  have e := e.k u
  have va := sa.k u
  obtain ⟨nb, ob, pb, x, qb⟩ := hb.sto gb [(Il b.t.Week), (Il b.t.Damage), (Il b.t.Old), (Il b.d.d0), (Il b.d.d1), (Il b.d.d2), (Il b.d.d3), (Il b.d.d4), (Il b.d.d5), (Il b.d.d6), (Il b.d.d7), (Il b.d.d8), (Il b.d.d9), (Il b.d.d10), (Il b.d.d11), (Il b.d.d12)]
  have rb := ib.k x
  have sb := jb.k x
  have tb := kb.k x
  have ub := mb.k x
  have e := e.k x
  have wa := va.k x
  refine ⟨nb, ob, ?_⟩
  refine ta _ _ _ _ pb wa fun Hc yc ia y xa ya => ?_
  have vb := rb.k y
  have ja := sb.k y
  have wb := tb.k y
  have ka := ub.k y
  have xb := qb.k y
  have e := e.k y
  refine ⟨_, ka.bk.rc rfl, trivial, _, ja.bk.rc rfl, _, _, _, _, _, _, _, _, _, _, _, _, _, _, _, _, xb.bk.ra, ?_⟩
  obtain ⟨N, yb, hp⟩ := bsome hp
  refine (ha300.sub (Sub.trans A.fs db)) _ _ _ _ _ (Sub.refl _) ia.pre  yb fun Ic zb => ?_
  obtain ⟨Ab, z⟩ := ia.call zb fb
  have Bb := vb.k z
  have Cb := ja.k z
  have Db := wb.k z
  have O := ka.k z
  have e := e.k z
  have za := xa.k z
  refine ⟨_, rfl, (by rw [show cmC _ = true from cmC_of (e.noFn)]; exact (O.bk.rc rfl)), ?_⟩
  obtain ⟨Eb, hp⟩ := gd_some hp
  intro Jc la
  refine ⟨(by rw [show cmC _ = true from cmC_of (e.noFn)]; exact (O.bk.ext (Bk.new la).2).rc rfl), ?_⟩
  obtain ⟨P, Fb, zc, Gb, Hb, F, S⟩ := e.app' ta39 Ab (a := N) (show Rp.rep (α := Int) n _ N from rfl) Eb la
  have Ib := Bb.k F
  have Jb := Cb.k F
  have Kb := Db.k F
  have Mb := O.k F
  have Aa := za.k F
  refine ⟨P, Fb, Gb, ?_⟩
  obtain ⟨Nb, Ob, Pb, G, Qb⟩ := Mb.sto Hb [P]
  have Rb := Ib.k G
  have Sb := Jb.k G
  have Tb := Kb.k G
  have S := S.k G
  have Ba := Aa.k G
  refine ⟨Nb, Ob, ?_⟩
  exact ua .nrm ((g ++ [N]), P) _ _ _ _ Pb ⟨Rb, Sb, Tb, Qb, S⟩ Ba ya hp
 ·intro st I j Z Ub Ac hA hp
  obtain ⟨g, D⟩ := st
  replace hp : pspan_L0 q [] g = some rz := hp
  obtain ⟨p, r, i, h, e⟩ := hA
  replace p : Lb (Fm.of m) I j Z 1 m.nxt 5 [(Il w.s.Last), ca101, ca102, ca103, ca104] := p
  replace r : Lb (Fm.of m) I j Z 2 m0.nxt 1 [ca300] := r
  replace i : Lb (Fm.of m) I j Z 3 m1.nxt 2 [(Il 0), (Il 0)] := i
  replace h : Lb (Fm.of m) I j Z 4 m2.nxt 1 [D] := h
  replace e : Ow (Fm.of m) I j Z 6 D g := e
  rw [pspan_L0] at hp
  refine ⟨_, h.bk.rc rfl, ?_⟩
  obtain ⟨Bc, ma, na, T⟩ := e.freeze Ub
  have Vb := i.k na
  have oa := h.k na
  obtain ⟨Wb, Xb, hp⟩ := bsome hp
  refine s_minimum (l := g) ma.pre T Xb fun Kc Yb => ?_
  obtain ⟨pa, qa⟩ := ma.call Yb j
  have Zb := Vb.k qa
  have ac := oa.k qa
  refine ⟨_, rfl, _, ac.bk.rc rfl, (by rw [show cmC _ = true from cmC_of (T.noFn)]; exact (oa.bk.rc rfl)), ?_⟩
  obtain ⟨bc, cc, hp⟩ := bsome hp
  refine s_sMax (l := g) pa.pre T cc fun Lc dc => ?_
  obtain ⟨ec, fc⟩ := pa.call dc j
  have gc := Zb.k fc
  refine ⟨_, rfl, ?_⟩
  obtain ⟨hc, ic, jc, Cc, kc⟩ := gc.sto ec [(Il Wb), (Il bc)]
  refine ⟨hc, ic, ?_⟩
  refine ⟨_, _, kc.bk.ra, ?_⟩
  obtain rfl := Option.some.inj hp
  exact hq _ jc.ext'
 ·intro id st _ _ _ _ _ _ hn; first | exact hn.elim | (cases hn)
 ·intro st _ _ _ _ _ _ hn; first | exact hn.elim | (cases hn)
theorem s_seen1 {c : Crs} {week : Int} {b0 : Nat} {m f : M} {Q : V → M → Prop} {rz : Int} (hS : Pre f m) (hb0 : Bk f b0 1 [(Il week)]) (hp : pseen1 c week = some rz) (hq : ∀ m', Ext m m' → Q (.c (Il rz)) m') : Wc prog tbl 31 [.agg 16 [(Il c.t.Week), (Il c.t.Damage), (Il c.t.Old), (Il c.d.d0), (Il c.d.d1), (Il c.d.d2), (Il c.d.d3), (Il c.d.d4), (Il c.d.d5), (Il c.d.d6), (Il c.d.d7), (Il c.d.d8), (Il c.d.d9), (Il c.d.d10), (Il c.d.d11), (Il c.d.d12)], .c (.ptr b0 0)] m Q := by
 have p := hS.st
 obtain ⟨q, _⟩ : ∃ τ : Nat → Nat, True := ⟨fun _ => 0, trivial⟩
 refine c31 ?_
 unfold pseen1 at hp
 intro s b
 obtain ⟨e, a, l, g⟩ := p.blk b q 1
 refine ⟨_, _, _, _, _, _, _, _, _, _, _, _, _, _, _, _, g.bk.ra, _, (hb0.sub a.sub).rc rfl, ?_⟩
 obtain ⟨n, h, hp⟩ := bsome hp
 refine s_seen (c := c) (week := week) a.pre  h fun r i => ?_
 obtain ⟨j, o⟩ := a.call i e
 refine ⟨_, rfl, ?_⟩
 obtain rfl := Option.some.inj hp
 exact hq _ j.ext'
theorem s_Seen {s : Ssn} {field : Int} {week : Int} {ca101 ca102 ca103 : C} {m f : M} {Q : V → M → Prop} {rz : Rg × Int} (hS : Pre f m) (ha101 : Sl f ca101 s.Rules) (ha102 : Sl f ca102 s.Fields) (ha103 : Sl f ca103 s.Visits) (hp : pSeen s field week = some rz) (hq : ∀ m', Ext m m' → Q (.tup [.agg 2 [(Il rz.1.Lo), (Il rz.1.Hi)], .c (Il rz.2)]) m') : Wc prog tbl 9 [.agg 4 [(Il s.Last), ca101, ca102, ca103], .c (Il field), .c (Il week)] m Q := by
 have S0 := hS.st
 obtain ⟨τ0, _⟩ : ∃ τ : Nat → Nat, True := ⟨fun _ => 0, trivial⟩
 refine w9 ?_
 unfold pSeen at hp
 intro m0 O
 obtain ⟨P, S, hb, T⟩ := S0.blk O τ0 1
 intro m1 Y
 obtain ⟨Z, aa, ba, ca⟩ := S.blk Y P 2
 have da := T.k ba
 intro m2 ea
 obtain ⟨fa, ga, l, ha⟩ := aa.blk ea Z 3
 have ia := da.k l
 have ja := ca.k l
 intro m3 ka
 obtain ⟨g, o, h, I⟩ := ga.growK ka fa 4
 have i := ia.k h
 have p := ja.k h
 have la := ha.k h
 have ma := I 0 (by decide)
 refine ⟨_, _, _, _, i.bk.ra, _, _, _, _, i.bk.ra, _, p.bk.rc rfl, ?_⟩
 obtain ⟨na, oa, hp⟩ := bsome hp
 refine s_hasWeek (s := s) (n := week) o.pre ha101 ha102 ha103 oa fun pb pa => ?_
 obtain ⟨t, b⟩ := o.call pa g
 have u := i.k b
 have qa := p.k b
 have sa := la.k b
 have ta := ma.k b
 refine ⟨_, rfl, (by rw [show allS cmC _ = true from cmL_of (nf_cons rfl (nf_cons ha101.noFn (nf_cons ha102.noFn (nf_cons ha103.noFn nf_nil))))]; exact (u.bk.ra)), ?_⟩
 obtain ⟨x, ua, hp⟩ := bsome hp
 refine s_openAsked (s := s) (field := field) (known := na) t.pre ha101 ha102 ha103 ua fun qb ib va wa xa ya za Aa Ba Ca Da => ?_
 obtain ⟨Ea, d⟩ := t.callG za g
 have Fa := u.k d
 have Ga := qa.k d
 have Ha := sa.k d
 have Ia := ta.k d
 refine ⟨_, _, _, _, _, _, rfl, ?_⟩
 intro rb Ja
 obtain ⟨Ka, j, La⟩ := Ia.set Ea Ja
 have y := Fa.k j
 have z := Ga.k j
 have Ma := Ha.k j
 refine ⟨(z.bk.rc rfl), (by rw [show allS cmC _ = true from cmL_of (nf_cons rfl (nf_cons ha101.noFn (nf_cons ha102.noFn (nf_cons ha103.noFn nf_nil))))]; exact (y.bk.ra)), (by rw [show allS cmC _ = true from cmL_of (nf_cons rfl (nf_cons ha101.noFn (nf_cons ha102.noFn (nf_cons ha103.noFn nf_nil))))]; exact (y.bk.ra)), ?_⟩
 obtain ⟨Na, Oa, A, B, Pa⟩ := La.sto Ka [(Il x.1.s.Last), va, wa, xa, ya]
 have Qa := z.k B
 have D := Ma.k B
 refine ⟨Na, Oa, ?_⟩
 refine ifnd hp (fun Ra hp => ?_) fun Ra hp => ?_
 ·obtain ⟨Sa, Ta, Ua, jb, Va⟩ := D.sto A [(Il 0), (Il 0)]
  refine ⟨Sa, Ta, ?_⟩
  refine ⟨_, _, Va.bk.ra, ?_⟩
  obtain rfl := Option.some.inj hp
  exact hq _ Ua.ext'
 refine ⟨_, _, _, _, _, Pa.bk.ra, ?_⟩
 obtain ⟨Wa, F, a, J⟩ := Qa.freeze A
 have Xa := D.k a
 have N : Fv_Crs_Int Wa ((C.fn (Fn.func 31) [] [(W.c (C0.ptr m0.nxt 0))])) (fun e => pseen1 e week) := by
  intro f' m' e r Q hs hpre  hg hq
  exact s_seen1 hpre (J.sub hs) hg hq
 obtain ⟨G, Ya, hp⟩ := bsome hp
 refine s_span (w := x.1) (field := field) (q := ({ number := (fun e => pseen1 e week) } : Qn)) F.pre (Aa.sub a.fs) (Ba.sub a.fs) (Ca.sub a.fs) (Da.sub a.fs) N Ya fun sb Za => ?_
 obtain ⟨ab, bb⟩ := F.call Za g
 have cb := Xa.k bb
 refine ⟨_, _, rfl, ?_⟩
 obtain ⟨db, eb, fb, kb, gb⟩ := cb.sto ab [(Il G.Lo), (Il G.Hi)]
 refine ⟨db, eb, ?_⟩
 refine ⟨_, _, gb.bk.ra, ?_⟩
 obtain rfl := Option.some.inj hp
 exact hq _ fb.ext'
theorem s_appendSeq {seq : List Crs} {ca200 : C} {m f : M} {Q : V → M → Prop} {rz : List Crs} (hS : Pre f m) (ha200 : It prog tbl f ca200 seq) (hp : pappendSeq seq = some rz) (hq : ∀ m' f' c0, Grw m f m' f' → Sl f' c0 rz → Q (.c c0) m') : Wc prog tbl 70 [.c .sl0, .c ca200] m Q := by
 have S0 := hS.st
 obtain ⟨τ0, _⟩ : ∃ τ : Nat → Nat, True := ⟨fun _ => 0, trivial⟩
 refine w70 ?_
 unfold pappendSeq at hp
 intro m0 T
 obtain ⟨Y, Z, Ha, s⟩ := S0.blk T τ0 1
 refine range_st (α := Crs) Z ha200 (σ := (List Crs) × C) 2 (fun st bb => (False ∨ (ownBlk st.2 bb))) (fun st gG gF gT gM => (Lb gG gF gT gM 1 m.nxt 1 [st.2]) ∧ (Ow gG gF gT gM 3 st.2 st.1)) (fun rr_ st => pappendSeq_L0 rr_ st.1 = some rz) (fun ex st => False) (fun st => (Gud.and (Gud.lb s.bk.lt (by decide)) (Gud.ow (by decide)))) (st0 := ([], .sl0)) (τ := Y) ⟨s, (Ow.nil _ _ _ _ _)⟩ hp ?_ ?_ ?_ ?_
 ·intro b aa st j l m2 u Ia Ea Fa Ga ba Ja hA D hp F G
  obtain ⟨h, i⟩ := st
  obtain ⟨g, e⟩ := hA
  replace g : Lb u j l m2 1 m.nxt 1 [i] := g
  replace e : Ow u j l m2 3 i h := e
  replace hp : pappendSeq_L0 (b :: aa) h = some rz := hp
  rw [pappendSeq_L0] at hp
  refine ⟨_, _, _, _, _, _, _, _, _, _, _, _, _, _, _, _, rfl, ?_⟩
  intro Ra ca
  obtain ⟨Ka, da, n, ea⟩ := ba.blk ca l 4
  have fa := g.k n
  have e := e.k n
  have I := D.k n
  obtain ⟨ga, ha, ia, o, ja⟩ := ea.sto da [(Il b.t.Week), (Il b.t.Damage), (Il b.t.Old), (Il b.d.d0), (Il b.d.d1), (Il b.d.d2), (Il b.d.d3), (Il b.d.d4), (Il b.d.d5), (Il b.d.d6), (Il b.d.d7), (Il b.d.d8), (Il b.d.d9), (Il b.d.d10), (Il b.d.d11), (Il b.d.d12)]
  have ka := fa.k o
  have e := e.k o
  have J := I.k o
  refine ⟨ga, ha, ?_⟩
  refine F _ _ _ _ ia J fun Sa La la p N O => ?_
  have x := ka.k p
  have ma := ja.k p
  have e := e.k p
  refine ⟨_, x.bk.rc rfl, _, _, _, _, _, _, _, _, _, _, _, _, _, _, _, _, ma.bk.ra, ?_⟩
  obtain ⟨na, hp⟩ := gd_some hp
  intro Ta oa
  obtain ⟨q, pa, Ma, qa, sa, y, r⟩ := e.app' ta99 la (a := b) (show Rp.rep (α := Crs) j _ b from rfl) na oa
  have ta := x.k y
  have P := N.k y
  refine ⟨q, pa, qa, ?_⟩
  obtain ⟨ua, va, wa, z, xa⟩ := ta.sto sa [q]
  have r := r.k z
  have S := P.k z
  refine ⟨ua, va, ?_⟩
  exact G .nrm ((h ++ [b]), q) _ _ _ _ wa ⟨xa, r⟩ S O hp
 ·intro st A B Ca ya Na hA hp
  obtain ⟨h, i⟩ := st
  replace hp : pappendSeq_L0 [] h = some rz := hp
  obtain ⟨g, e⟩ := hA
  replace g : Lb (Fm.of m) A B Ca 1 m.nxt 1 [i] := g
  replace e : Ow (Fm.of m) A B Ca 3 i h := e
  rw [pappendSeq_L0] at hp
  refine ⟨_, g.bk.rc rfl, ?_⟩
  obtain ⟨za, Aa, Oa, Ba⟩ := e.freeze ya
  obtain rfl := Option.some.inj hp
  exact hq _ za i Aa.grw Ba
 ·intro id st _ _ _ _ _ _ hn; first | exact hn.elim | (cases hn)
 ·intro st _ _ _ _ _ _ hn; first | exact hn.elim | (cases hn)
theorem s_collect {seq : List Crs} {ca100 : C} {m f : M} {Q : V → M → Prop} {rz : List Crs} (hS : Pre f m) (ha100 : It prog tbl f ca100 seq) (hp : pcollect seq = some rz) (hq : ∀ m' f' c0, Grw m f m' f' → Sl f' c0 rz → Q (.c c0) m') : Wc prog tbl 39 [.c ca100] m Q := by
 have i := hS.st
 obtain ⟨n, _⟩ : ∃ τ : Nat → Nat, True := ⟨fun _ => 0, trivial⟩
 refine w39 ?_
 unfold pcollect at hp
 obtain ⟨j, a, hp⟩ := bsome hp
 refine s_appendSeq (seq := seq) i.pre ha100 a fun o b d e g => ?_
 obtain ⟨h, l⟩ := i.callG e n
 refine ⟨_, rfl, ?_⟩
 obtain rfl := Option.some.inj hp
 exact hq _ b d h.grw g
theorem s_outcomes {w : Wk} {field : Int} {ca101 ca102 ca103 ca104 : C} {m f : M} {Q : V → M → Prop} {rz : List Dm} (hS : Pre f m) (ha101 : Sl f ca101 w.s.Rules) (ha102 : Sl f ca102 w.s.Fields) (ha103 : Sl f ca103 w.s.Visits) (ha104 : Mi f ca104 w.damages) (hp : poutcomes w field = some rz) (hq : ∀ m' f' c0, Grw m f m' f' → Sl f' c0 rz → Q (.c c0) m') : Wc prog tbl 34 [.agg 5 [(Il w.s.Last), ca101, ca102, ca103, ca104], .c (Il field)] m Q := by
 have S0 := hS.st
 obtain ⟨τ0, _⟩ : ∃ τ : Nat → Nat, True := ⟨fun _ => 0, trivial⟩
 refine w34 ?_
 unfold poutcomes at hp
 intro m0 Na
 obtain ⟨Oa, Pa, qd, Qa⟩ := S0.blk Na τ0 1
 intro m1 Ra
 obtain ⟨Sa, Ta, Ua, Va⟩ := Pa.blk Ra Oa 2
 have Wa := Qa.k Ua
 intro m2 Xa
 obtain ⟨Ya, Za, sa, ab⟩ := Mo.new (K := Dm) (V' := Bool) Ta Xa Sa 3
 have cb := Wa.k sa
 have db := Va.k sa
 intro m3 eb
 obtain ⟨ta, fb, ia, gb⟩ := Za.blk eb Ya 4
 have hb := cb.k ia
 have ib := db.k ia
 have jb := ab.k ia
 obtain ⟨kb, mb, ua, ja, nb⟩ := gb.sto fb [(.map m1.nxt)]
 have va := hb.k ja
 have ob := ib.k ja
 have pb := jb.k ja
 refine ⟨kb, mb, ?_⟩
 refine ⟨_, _, _, _, _, va.bk.ra, ?_⟩
 obtain ⟨sd, qb, hp⟩ := bsome hp
 refine s_truths (w := w) (field := field) ua.pre ha101 ha102 ha103 ha104 qb fun Hd td ud rb sb => ?_
 obtain ⟨tb, ca⟩ := ua.callG rb ta
 have wa := va.k ca
 have xa := ob.k ca
 have ya := nb.k ca
 have za := pb.k ca
 refine ⟨_, rfl, ?_⟩
 refine range_st (α := Crs) tb sb (σ := (List Dm) × C × (Option (Dm → Option (Bool)))) 5 (fun st bb => (False ∨ (False ∨ ((ownBlk st.2.1 bb) ∨ (False ∨ False))))) (fun st gG gF gT gM => (Lb gG gF gT gM 1 m.nxt 5 [(Il w.s.Last), ca101, ca102, ca103, ca104]) ∧ (Lb gG gF gT gM 2 m0.nxt 1 [st.2.1]) ∧ (Ow gG gF gT gM 6 st.2.1 st.1) ∧ (Lb gG gF gT gM 4 m2.nxt 1 [(.map m1.nxt)]) ∧ (Mo gG gF gT gM 3 (.map m1.nxt) st.2.2)) (fun rr_ st => poutcomes_L0 rr_ st.1 st.2.2 = some rz) (fun ex st => False) (fun st => (Gud.and (Gud.lb wa.bk.lt (by decide)) (Gud.and (Gud.lb xa.bk.lt (by decide)) (Gud.and (Gud.ow (by decide)) (Gud.and (Gud.lb ya.bk.lt (by decide)) (Gud.mo za.lt (by decide))))))) (st0 := ([], .sl0, (some fun _ => none : Option (Dm → Option (Bool))))) (τ := ta) ⟨wa, xa, (Ow.nil _ _ _ _ _), ya, za⟩ hp ?_ ?_ ?_ ?_
 ·intro b ub st i o oa J vd nd od pd vb wd hA Ca hp Da ea
  obtain ⟨g, l, p⟩ := st
  obtain ⟨q, n, e, r, x⟩ := hA
  replace q : Lb J i o oa 1 m.nxt 5 [(Il w.s.Last), ca101, ca102, ca103, ca104] := q
  replace n : Lb J i o oa 2 m0.nxt 1 [l] := n
  replace e : Ow J i o oa 6 l g := e
  replace r : Lb J i o oa 4 m2.nxt 1 [(.map m1.nxt)] := r
  replace x : Mo J i o oa 3 (.map m1.nxt) p := x
  replace hp : poutcomes_L0 (b :: ub) g p = some rz := hp
  rw [poutcomes_L0] at hp
  refine ⟨_, _, _, _, _, _, _, _, _, _, _, _, _, _, _, _, rfl, ?_⟩
  intro Id wb
  obtain ⟨xd, xb, y, yb⟩ := vb.blk wb o 7
  have zb := q.k y
  have Ab := n.k y
  have Bb := r.k y
  have Cb := x.k y
  have e := e.k y
  have Ea := Ca.k y
  obtain ⟨Db, Eb, Fb, z, Gb⟩ := yb.sto xb [(Il b.t.Week), (Il b.t.Damage), (Il b.t.Old), (Il b.d.d0), (Il b.d.d1), (Il b.d.d2), (Il b.d.d3), (Il b.d.d4), (Il b.d.d5), (Il b.d.d6), (Il b.d.d7), (Il b.d.d8), (Il b.d.d9), (Il b.d.d10), (Il b.d.d11), (Il b.d.d12)]
  have Hb := zb.k z
  have Ib := Ab.k z
  have Jb := Bb.k z
  have Kb := Cb.k z
  have e := e.k z
  have Fa := Ea.k z
  refine ⟨Db, Eb, ?_⟩
  refine Da _ _ _ _ Fb Fa fun Jd yd ka A fa ga => ?_
  have la := Hb.k A
  have N := Ib.k A
  have O := Jb.k A
  have B := Gb.k A
  have da := Kb.k A
  have e := e.k A
  refine ⟨_, O.bk.rc rfl, trivial, _, _, _, _, _, _, _, _, _, _, _, _, _, B.bk.rp (k := 3) (j := 13) rfl (by omega), ?_⟩
  obtain ⟨Mb, hp⟩ := gd_some hp
  refine ⟨_, da.mi.lk kl87 (k := b.d) Mb rfl, ?_⟩
  cases pa : (mget p b.d) with
  | none =>
   rw [mcase_none pa] at hp
   refine ⟨fun _ => ?_, fun u hu => (by cases hu)⟩
   refine ⟨_, N.bk.rc rfl, trivial, _, _, _, _, _, _, _, _, _, _, _, _, _, B.bk.rp (k := 3) (j := 13) rfl (by omega), ?_⟩
   obtain ⟨Nb, hp⟩ := gd_some hp
   intro Ld Ob
   obtain ⟨ma, Pb, zd, Qb, Rb, D, P⟩ := e.app' ta94 ka (a := b.d) (show Rp.rep (α := Dm) i _ b.d from rfl) Nb Ob
   have Sb := la.k D
   have Tb := N.k D
   have Ub := O.k D
   have Vb := B.k D
   have Wb := da.k D
   have Ga := fa.k D
   refine ⟨ma, Pb, Qb, ?_⟩
   obtain ⟨Xb, Yb, Zb, F, ac⟩ := Tb.sto Rb [ma]
   have bc := Sb.k F
   have Aa := Ub.k F
   have cc := Vb.k F
   have dc := Wb.k F
   have P := P.k F
   have Ha := Ga.k F
   refine ⟨Xb, Yb, ?_⟩
   refine ⟨_, Aa.bk.rc rfl, trivial, _, _, _, _, _, _, _, _, _, _, _, _, _, cc.bk.rp (k := 3) (j := 13) rfl (by omega), ?_⟩
   obtain ⟨ec, hp⟩ := gd_some hp
   obtain ⟨fc, gc, hp⟩ := bsome hp
   obtain ⟨hc, ic, jc, S, kc⟩ := Mo.up kl87 Zb dc (k := b.d) ec (v := true) gc (kv := .agg 13 [(Il b.d.d0), (Il b.d.d1), (Il b.d.d2), (Il b.d.d3), (Il b.d.d4), (Il b.d.d5), (Il b.d.d6), (Il b.d.d7), (Il b.d.d8), (Il b.d.d9), (Il b.d.d10), (Il b.d.d11), (Il b.d.d12)]) (yv := .c (.bool true)) rfl rfl
   have lc := bc.k S
   have nc := ac.k S
   have oc := Aa.k S
   have P := P.k S
   have Ia := Ha.k S
   refine ⟨hc, ic, ?_⟩
   exact ea .nrm ((g ++ [b.d]), ma, fc) _ _ _ _ jc ⟨lc, nc, P, oc, kc⟩ Ia ga hp
  | some Ad =>
   rw [mcase_some pa] at hp
   refine ⟨fun h => (by cases h), fun u hu => ?_⟩
   obtain rfl := Option.some.inj hu
   refine ⟨_, rfl, ?_⟩
   refine ifnb hp (fun pc hp => ?_) fun pc hp => ?_; rotate_left
   ·refine ⟨_, O.bk.rc rfl, trivial, _, _, _, _, _, _, _, _, _, _, _, _, _, B.bk.rp (k := 3) (j := 13) rfl (by omega), ?_⟩
    obtain ⟨qc, hp⟩ := gd_some hp
    obtain ⟨sc, tc, hp⟩ := bsome hp
    obtain ⟨uc, vc, wc, T, xc⟩ := Mo.up kl87 ka da (k := b.d) qc (v := true) tc (kv := .agg 13 [(Il b.d.d0), (Il b.d.d1), (Il b.d.d2), (Il b.d.d3), (Il b.d.d4), (Il b.d.d5), (Il b.d.d6), (Il b.d.d7), (Il b.d.d8), (Il b.d.d9), (Il b.d.d10), (Il b.d.d11), (Il b.d.d12)]) (yv := .c (.bool true)) rfl rfl
    have yc := la.k T
    have zc := N.k T
    have Ac := O.k T
    have e := e.k T
    have Ja := fa.k T
    refine ⟨uc, vc, ?_⟩
    exact ea .nrm (g, l, sc) _ _ _ _ wc ⟨yc, zc, e, Ac, xc⟩ Ja ga hp
   refine ⟨_, N.bk.rc rfl, trivial, _, _, _, _, _, _, _, _, _, _, _, _, _, B.bk.rp (k := 3) (j := 13) rfl (by omega), ?_⟩
   obtain ⟨Bc, hp⟩ := gd_some hp
   intro Gd Cc
   obtain ⟨na, Dc, Bd, Ec, Fc, G, Y⟩ := e.app' ta94 ka (a := b.d) (show Rp.rep (α := Dm) i _ b.d from rfl) Bc Cc
   have Gc := la.k G
   have Hc := N.k G
   have Ic := O.k G
   have Jc := B.k G
   have Kc := da.k G
   have Ka := fa.k G
   refine ⟨na, Dc, Ec, ?_⟩
   obtain ⟨Lc, Nc, Oc, I, Pc⟩ := Hc.sto Fc [na]
   have Qc := Gc.k I
   have Ba := Ic.k I
   have Rc := Jc.k I
   have Tc := Kc.k I
   have Y := Y.k I
   have La := Ka.k I
   refine ⟨Lc, Nc, ?_⟩
   refine ⟨_, Ba.bk.rc rfl, trivial, _, _, _, _, _, _, _, _, _, _, _, _, _, Rc.bk.rp (k := 3) (j := 13) rfl (by omega), ?_⟩
   obtain ⟨Uc, hp⟩ := gd_some hp
   obtain ⟨Vc, Xc, hp⟩ := bsome hp
   obtain ⟨Yc, Zc, ad, Z, bd⟩ := Mo.up kl87 Oc Tc (k := b.d) Uc (v := true) Xc (kv := .agg 13 [(Il b.d.d0), (Il b.d.d1), (Il b.d.d2), (Il b.d.d3), (Il b.d.d4), (Il b.d.d5), (Il b.d.d6), (Il b.d.d7), (Il b.d.d8), (Il b.d.d9), (Il b.d.d10), (Il b.d.d11), (Il b.d.d12)]) (yv := .c (.bool true)) rfl rfl
   have cd := Qc.k Z
   have dd := Pc.k Z
   have ed := Ba.k Z
   have Y := Y.k Z
   have Ma := La.k Z
   refine ⟨Yc, Zc, ?_⟩
   exact ea .nrm ((g ++ [b.d]), na, Vc) _ _ _ _ ad ⟨cd, dd, Y, ed, bd⟩ Ma ga hp
 ·intro st aa ba ha fd Cd hA hp
  obtain ⟨g, l, p⟩ := st
  replace hp : poutcomes_L0 [] g p = some rz := hp
  obtain ⟨q, n, e, r, x⟩ := hA
  replace q : Lb (Fm.of m) aa ba ha 1 m.nxt 5 [(Il w.s.Last), ca101, ca102, ca103, ca104] := q
  replace n : Lb (Fm.of m) aa ba ha 2 m0.nxt 1 [l] := n
  replace e : Ow (Fm.of m) aa ba ha 6 l g := e
  replace r : Lb (Fm.of m) aa ba ha 4 m2.nxt 1 [(.map m1.nxt)] := r
  replace x : Mo (Fm.of m) aa ba ha 3 (.map m1.nxt) p := x
  rw [poutcomes_L0] at hp
  refine ⟨_, n.bk.rc rfl, ?_⟩
  obtain ⟨hd, jd, Dd, kd⟩ := e.freeze fd
  obtain rfl := Option.some.inj hp
  exact hq _ hd l jd.grw kd
 ·intro id st _ _ _ _ _ _ hn; first | exact hn.elim | (cases hn)
 ·intro st _ _ _ _ _ _ hn; first | exact hn.elim | (cases hn)
theorem s_verdict1 {d : Dm} {limit : Int} {b0 : Nat} {m f : M} {Q : V → M → Prop} {rz : Bool} (hS : Pre f m) (hb0 : Bk f b0 1 [(Il limit)]) (hp : pverdict1 d limit = some rz) (hq : ∀ m', Ext m m' → Q (.c (.bool rz)) m') : Wc prog tbl 35 [.agg 13 [(Il d.d0), (Il d.d1), (Il d.d2), (Il d.d3), (Il d.d4), (Il d.d5), (Il d.d6), (Il d.d7), (Il d.d8), (Il d.d9), (Il d.d10), (Il d.d11), (Il d.d12)], .c (.ptr b0 0)] m Q := by
 have p := hS.st
 obtain ⟨q, _⟩ : ∃ τ : Nat → Nat, True := ⟨fun _ => 0, trivial⟩
 refine c35 ?_
 unfold pverdict1 at hp
 intro s e
 obtain ⟨g, a, l, h⟩ := p.blk e q 1
 refine ⟨_, _, _, _, _, _, _, _, _, _, _, _, _, h.bk.ra, ?_⟩
 obtain ⟨n, i, hp⟩ := bsome hp
 refine s_harvestD (d := d) a.pre  i fun r j => ?_
 obtain ⟨b, o⟩ := a.call j g
 refine ⟨_, rfl, _, (hb0.sub b.sub).rc rfl, ((hb0.sub a.sub).rc rfl), ?_⟩
 obtain rfl := Option.some.inj hp
 exact hq _ b.ext'
theorem s_Verdict {s : Ssn} {field : Int} {limit : Int} {ca101 ca102 ca103 : C} {m f : M} {Q : V → M → Prop} {rz : Int × Int} (hS : Pre f m) (ha101 : Sl f ca101 s.Rules) (ha102 : Sl f ca102 s.Fields) (ha103 : Sl f ca103 s.Visits) (hp : pVerdict s field limit = some rz) (hq : ∀ m', Ext m m' → Q (.tup [.c (Il rz.1), .c (Il rz.2)]) m') : Wc prog tbl 11 [.agg 4 [(Il s.Last), ca101, ca102, ca103], .c (Il field), .c (Il limit)] m Q := by
 have S0 := hS.st
 obtain ⟨τ0, _⟩ : ∃ τ : Nat → Nat, True := ⟨fun _ => 0, trivial⟩
 refine w11 ?_
 unfold pVerdict at hp
 intro m0 T
 obtain ⟨Y, Z, Za, aa⟩ := S0.blk T τ0 1
 intro m1 ba
 obtain ⟨ca, da, ea, fa⟩ := Z.blk ba Y 2
 have ga := aa.k ea
 intro m2 ha
 obtain ⟨a, o, q, O⟩ := da.growK ha ca 3
 have t := ga.k q
 have u := fa.k q
 have ia := O 0 (by decide)
 refine ⟨_, _, _, _, t.bk.ra, _, u.bk.rc rfl, ?_⟩
 obtain ⟨ja, ka, hp⟩ := bsome hp
 refine s_isHundredths (n := limit) o.pre  ka fun m9 la => ?_
 obtain ⟨x, e⟩ := o.call la a
 have y := t.k e
 have ma := u.k e
 have na := ia.k e
 refine ⟨_, rfl, (by rw [show allS cmC _ = true from cmL_of (nf_cons rfl (nf_cons ha101.noFn (nf_cons ha102.noFn (nf_cons ha103.noFn nf_nil))))]; exact (y.bk.ra)), ?_⟩
 obtain ⟨z, oa, hp⟩ := bsome hp
 refine s_openAsked (s := s) (field := field) (known := ja) x.pre ha101 ha102 ha103 oa fun jb ab pa qa sa ta ua va wa xa ya => ?_
 obtain ⟨za, g⟩ := x.callG ua a
 have Aa := y.k g
 have Ba := ma.k g
 have Ca := na.k g
 refine ⟨_, _, _, _, _, _, rfl, ?_⟩
 intro kb Da
 obtain ⟨Ea, A, Fa⟩ := Ca.set za Da
 have Ga := Aa.k A
 have B := Ba.k A
 refine ⟨(B.bk.rc rfl), (by rw [show allS cmC _ = true from cmL_of (nf_cons rfl (nf_cons ha101.noFn (nf_cons ha102.noFn (nf_cons ha103.noFn nf_nil))))]; exact (Ga.bk.ra)), ?_⟩
 obtain ⟨Ha, Ia, h, Ja, Ka⟩ := Fa.sto Ea [(Il z.1.s.Last), pa, qa, sa, ta]
 have La := B.k Ja
 refine ⟨Ha, Ia, ?_⟩
 refine ifnd hp (fun Ma hp => ?_) fun Ma hp => ?_
 ·obtain rfl := Option.some.inj hp
  exact hq _ h.ext'
 refine ⟨_, _, _, _, _, Ka.bk.ra, ?_⟩
 obtain ⟨D, Na, hp⟩ := bsome hp
 refine s_outcomes (w := z.1) (field := field) h.pre va wa xa ya Na fun mb bb cb Oa F => ?_
 obtain ⟨Pa, Qa⟩ := h.callG Oa a
 have Ra := La.k Qa
 refine ⟨_, rfl, ?_⟩
 obtain ⟨G, I, J, j⟩ := Ra.freeze Pa
 have P : Fv_Dm_Bool G ((C.fn (Fn.func 35) [] [(W.c (C0.ptr m0.nxt 0))])) (fun b => pverdict1 b limit) := by
  intro f' m' b r Q hs hpre  hg hq
  exact s_verdict1 hpre (j.sub hs) hg hq
 obtain ⟨db, Sa, hp⟩ := bsome hp
 refine s_eachD (l := D) (passes := (fun b => pverdict1 b limit)) I.pre (F.sub J.fs) P Sa fun nb Ta => ?_
 obtain ⟨i, eb⟩ := I.call Ta a
 refine ⟨_, rfl, ?_⟩
 refine ifbb hp (fun Ua hp => ?_) fun Ua hp => ?_
 ·obtain rfl := Option.some.inj hp
  exact hq _ i.ext'
 have S : Fv_Dm_Bool G ((C.fn (Fn.func 35) [] [(W.c (C0.ptr m0.nxt 0))])) (fun d => pverdict1 d limit) := by
  intro f' m' d r Q hs hpre  hg hq
  exact s_verdict1 hpre (j.sub hs) hg hq
 obtain ⟨fb, Va, hp⟩ := bsome hp
 refine s_containsD (l := D) (p := (fun d => pverdict1 d limit)) i.pre (F.sub J.fs) S Va fun ob Wa => ?_
 obtain ⟨N, gb⟩ := i.call Wa a
 refine ⟨_, rfl, ?_⟩
 refine ifnb hp (fun Xa hp => ?_) fun Xa hp => ?_
 ·obtain rfl := Option.some.inj hp
  exact hq _ N.ext'
 obtain rfl := Option.some.inj hp
 exact hq _ N.ext'
theorem s_decides {all : List Crs} {week : Int} {limit : Int} {ca100 : C} {m f : M} {Q : V → M → Prop} {rz : Bool} (hS : Pre f m) (ha100 : Sl f ca100 all) (hp : pdecides all week limit = some rz) (hq : ∀ m', Ext m m' → Q (.c (.bool rz)) m') : Wc prog tbl 52 [.c ca100, .c (Il week), .c (Il limit)] m Q := by
 have S0 := hS.st
 obtain ⟨τ0, _⟩ : ∃ τ : Nat → Nat, True := ⟨fun _ => 0, trivial⟩
 refine w52 ?_
 unfold pdecides at hp
 intro m0 T
 obtain ⟨Y, Z, Ua, i⟩ := Mo.new (K := Int) (V' := Bool) S0 T τ0 1
 refine ⟨ha100.isSl, ?_⟩
 intro R1 Ta
 have hgo : ∀ (l : Nat) (b2 : Bool) (x3 : Int) (e : Option (Int → Option (Bool))) (O : M) (n : Nat → Nat), St (Fm.of m) f f O → Mo (Fm.of m) f n O 1 (.map m.nxt) e → pdecides_L0 all week limit l e x3 = some rz → R1 [.c (.bool b2), .c (Il x3)] O := by
  intro l
  induction l with
  | zero => intro b2 x3 e O n o i hp; cases hp
  | succ l P =>
   intro b2 x3 e O n o i hp
   refine Ta _ _ _ ?_
   rw [pdecides_L0] at hp
   try rw [ha100.slLen]
   refine ifd hp (fun ba hp => ?_) fun ba hp => ?_; rotate_left
   ·obtain rfl := Option.some.inj hp
    exact hq _ o.ext'
   obtain ⟨a, q, hp⟩ := bsome hp
   obtain ⟨n5, S, s, q⟩ := idx_some q
   obtain ⟨_, ca⟩ := rd_Crs ha100 q
   refine ⟨n5, S, (by first | exact s | (rw [ha100.slLen]; exact s)), _, _, _, _, _, _, _, _, _, _, _, _, _, _, _, _, (ca _ o.sub).1, ?_⟩
   intro eb da
   obtain ⟨b, ea, fa, ga⟩ := o.blk da n 2
   have ha := i.k fa
   obtain ⟨ia, ja, y, ka, z⟩ := ga.sto ea [(Il a.t.Week), (Il a.t.Damage), (Il a.t.Old), (Il a.d.d0), (Il a.d.d1), (Il a.d.d2), (Il a.d.d3), (Il a.d.d4), (Il a.d.d5), (Il a.d.d6), (Il a.d.d7), (Il a.d.d8), (Il a.d.d9), (Il a.d.d10), (Il a.d.d11), (Il a.d.d12)]
   have la := ha.k ka
   refine ⟨ia, ja, ?_⟩
   refine ⟨trivial, _, _, _, _, _, _, _, _, _, _, _, _, _, z.bk.rp (k := 3) (j := 13) rfl (by omega), ?_⟩
   obtain ⟨p, ma, hp⟩ := bsome hp
   refine s_harvestD (d := a.d) y.pre  ma fun fb na => ?_
   obtain ⟨A, B⟩ := y.call na b
   have D := z.k B
   have oa := la.k B
   refine ⟨_, rfl, _, _, _, _, _, _, _, _, _, _, _, _, _, _, _, _, D.bk.ra, ?_⟩
   obtain ⟨F, pa, hp⟩ := bsome hp
   refine s_seen (c := a) (week := week) A.pre  pa fun gb qa => ?_
   obtain ⟨g, G⟩ := A.call qa b
   have I := D.k G
   have r := oa.k G
   refine ⟨_, rfl, ?_⟩
   obtain ⟨sa, hp⟩ := gd_some hp
   refine ⟨_, r.mi.lk kl3 (k := F) sa rfl, ?_⟩
   cases x : (mget e F) with
   | none =>
    rw [mcase_none x] at hp
    refine ⟨fun _ => ?_, fun u hu => (by cases hu)⟩
    refine ⟨_, _, _, _, _, _, _, _, _, _, _, _, _, _, _, _, I.bk.ra, ?_⟩
    obtain ⟨J, ta, hp⟩ := bsome hp
    refine s_seen (c := a) (week := week) g.pre  ta fun hb ua => ?_
    obtain ⟨va, wa⟩ := g.call ua b
    have xa := r.k wa
    refine ⟨_, rfl, ?_⟩
    obtain ⟨ya, hp⟩ := gd_some hp
    obtain ⟨Va, za, hp⟩ := bsome hp
    obtain ⟨Aa, Ba, Ca, Wa, Da⟩ := Mo.up kl3 va xa (k := J) ya (v := (decide (limit < p))) za (kv := .c (Il J)) (yv := .c (.bool (decide (limit < p)))) rfl rfl
    refine ⟨Aa, Ba, ?_⟩
    refine gdi hp fun Ea hp => ?_
    exact P _ _ _ _ b Ca Da hp
   | some Xa =>
    rw [mcase_some x] at hp
    refine ⟨fun h => (by cases h), fun u hu => ?_⟩
    obtain rfl := Option.some.inj hu
    refine ⟨_, rfl, ?_⟩
    refine ifnb hp (fun Fa hp => ?_) fun Fa hp => ?_
    ·obtain rfl := Option.some.inj hp
     exact hq _ g.ext'
    refine ⟨_, _, _, _, _, _, _, _, _, _, _, _, _, _, _, _, I.bk.ra, ?_⟩
    obtain ⟨N, Ga, hp⟩ := bsome hp
    refine s_seen (c := a) (week := week) g.pre  Ga fun ib Ha => ?_
    obtain ⟨Ia, Ja⟩ := g.call Ha b
    have Ka := r.k Ja
    refine ⟨_, rfl, ?_⟩
    obtain ⟨La, hp⟩ := gd_some hp
    obtain ⟨Ya, Ma, hp⟩ := bsome hp
    obtain ⟨Na, Oa, Pa, Za, Qa⟩ := Mo.up kl3 Ia Ka (k := N) La (v := (decide (limit < p))) Ma (kv := .c (Il N)) (yv := .c (.bool (decide (limit < p)))) rfl rfl
    refine ⟨Na, Oa, ?_⟩
    refine gdi hp fun Ra hp => ?_
    exact P _ _ _ _ b Pa Qa hp
 exact hgo _ _ _ _ _ Y Z i hp
theorem s_Decides {s : Ssn} {field : Int} {limit : Int} {ca101 ca102 ca103 : C} {m f : M} {Q : V → M → Prop} {rz : List Int × Int} (hS : Pre f m) (ha101 : Sl f ca101 s.Rules) (ha102 : Sl f ca102 s.Fields) (ha103 : Sl f ca103 s.Visits) (hp : pDecides s field limit = some rz) (hq : ∀ m' f' c0, Grw m f m' f' → Sl f' c0 rz.1 → Q (.tup [.c c0, .c (Il rz.2)]) m') : Wc prog tbl 18 [.agg 4 [(Il s.Last), ca101, ca102, ca103], .c (Il field), .c (Il limit)] m Q := by
 have S0 := hS.st
 obtain ⟨τ0, _⟩ : ∃ τ : Nat → Nat, True := ⟨fun _ => 0, trivial⟩
 refine w18 ?_
 unfold pDecides at hp
 intro m0 ga
 obtain ⟨ha, ia, sb, ja⟩ := S0.blk ga τ0 1
 intro m1 ka
 obtain ⟨e, y, la, fa⟩ := ia.growK ka ha 2
 have z := ja.k la
 have ma := fa 0 (by decide)
 refine ⟨_, _, _, _, z.bk.ra, ?_⟩
 obtain ⟨na, oa, hp⟩ := bsome hp
 refine s_isHundredths (n := limit) y.pre  oa fun m7 pa => ?_
 obtain ⟨A, B⟩ := y.call pa e
 have D := z.k B
 have qa := ma.k B
 refine ⟨_, rfl, (by rw [show allS cmC _ = true from cmL_of (nf_cons rfl (nf_cons ha101.noFn (nf_cons ha102.noFn (nf_cons ha103.noFn nf_nil))))]; exact (D.bk.ra)), ?_⟩
 obtain ⟨r, sa, hp⟩ := bsome hp
 refine s_openAsked (s := s) (field := field) (known := na) A.pre ha101 ha102 ha103 sa fun Bb ta F G I J ua va wa xa ya => ?_
 obtain ⟨za, N⟩ := A.callG ua e
 have Aa := D.k N
 have Ba := qa.k N
 refine ⟨_, _, _, _, _, _, rfl, ?_⟩
 intro Cb Ca
 obtain ⟨Da, Ea, Fa⟩ := Ba.set za Ca
 have O := Aa.k Ea
 refine ⟨(by rw [show allS cmC _ = true from cmL_of (nf_cons rfl (nf_cons ha101.noFn (nf_cons ha102.noFn (nf_cons ha103.noFn nf_nil))))]; exact (O.bk.ra)), ?_⟩
 obtain ⟨Ga, Ha, t, Ia, P⟩ := Fa.sto Da [(Il r.1.s.Last), F, G, I, J]
 have Ja := O.k Ia
 refine ⟨Ga, Ha, ?_⟩
 refine ifnd hp (fun Ka hp => ?_) fun Ka hp => ?_
 ·obtain rfl := Option.some.inj hp
  exact hq _ ta .sl0 t.grw (Sl.nil _)
 refine ⟨_, _, _, _, _, P.bk.ra, ?_⟩
 obtain ⟨La, Ma, hp⟩ := bsome hp
 refine s_truths (w := r.1) (field := field) t.pre va wa xa ya Ma fun Db tb ub Na Oa => ?_
 obtain ⟨S, T⟩ := t.callG Na e
 have Pa := Ja.k T
 have Qa := P.k T
 refine ⟨_, rfl, ?_⟩
 obtain ⟨Y, Ra, hp⟩ := bsome hp
 refine s_collect (seq := La) S.pre Oa Ra fun Eb g vb Sa Ta => ?_
 obtain ⟨Ua, Z⟩ := S.callG Sa e
 have h := Pa.k Z
 have i := Qa.k Z
 refine ⟨_, rfl, trivial, _, h.bk.rc rfl, ?_⟩
 refine gdi hp fun Va hp => ?_
 intro rb qb
 have hgo : ∀ (j : Nat) (x : C) (p : Int) (l : List Int) (q : M) (b : Nat → Nat), St (Fm.of m) f g q → Lb (Fm.of m) g b q 1 m.nxt 4 [(Il s.Last), ca101, ca102, ca103] → Lb (Fm.of m) g b q 2 (m0.nxt + 0) 5 [(Il r.1.s.Last), F, G, I, J] → Ow (Fm.of m) g b q 3 x l → pDecides_L0 s limit Y j l p = some rz → rb [.c x, .c (Il p)] q := by
  intro j
  induction j with
  | zero => intro x p l q b o h i d hp; cases hp
  | succ j aa =>
   intro x p l q b o h i d hp
   refine qb _ _ _ ?_
   rw [pDecides_L0] at hp
   refine ifd hp (fun Wa hp => ?_) fun Wa hp => ?_; rotate_left
   ·obtain ⟨Xa, Ya, wb, Za⟩ := d.freeze o
    obtain rfl := Option.some.inj hp
    exact hq _ Xa x Ya.grw Za
   obtain ⟨xb, ab, hp⟩ := bsome hp
   refine s_decides (all := Y) (week := p) (limit := limit) o.pre Ta ab fun Fb bb => ?_
   obtain ⟨ba, u⟩ := o.call bb b
   have ca := h.k u
   have da := i.k u
   have d := d.k u
   refine ⟨_, rfl, ?_⟩
   refine ifbb hp (fun cb hp => ?_) fun cb hp => ?_; rotate_left
   ·refine gdi hp fun db hp => ?_
    exact aa _ _ _ _ b ba ca da d hp
   obtain ⟨eb, hp⟩ := gd_some hp
   intro Gb fb
   obtain ⟨gb, hb, ib, jb, kb, ea, mb⟩ := d.app' ta39 ba (a := p) (show Rp.rep (α := Int) g _ p from rfl) eb fb
   have nb := ca.k ea
   have ob := da.k ea
   refine ⟨gb, hb, jb, ?_⟩
   refine gdi hp fun pb hp => ?_
   exact aa _ _ _ _ ib kb nb ob mb hp
 exact hgo _ _ _ _ _ e Ua h i (Ow.nil _ _ _ _ _) hp
end
end Go.Proofs.Ytmlaphekbnanjaa

