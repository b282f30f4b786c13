/- What functions of the program ask and do. Condition: none; a lemma text of this claim. -/
import Derived.Test.YtbhdgedghfibcaaPjB

namespace Go.Proofs.Ytbhdgedghfibcaa
open _root_.Go.Proofs.Try
open Go.Abs
set_option maxRecDepth 100000
noncomputable section
def Fv_Tf_Bool (f : M) (x : C) (g : Tf → Option (Bool)) : Prop := ∀ (f' m : M) (a0 : Tf) (c0 c1 c2 : C) (r : Bool) (Q : V → M → Prop), Sub f f' → Pre f' m → Sl f' c0 a0.Weeks → Sl f' c1 a0.Counts → Sl f' c2 a0.Rates → g a0 = some r → (∀ m', Ext m m' → Q (.c (.bool r)) m') → callP prog tbl [.agg 6 [(.int .i64 a0.From), (.bool a0.Whole), (.int .i64 a0.Least), c0, c1, c2]] x m Q
theorem Fv_Tf_Bool.sub {f m : M} {x : C} {g : Tf → Option (Bool)} (h : Fv_Tf_Bool f x g) (s : Sub f m) : Fv_Tf_Bool m x g := fun f' m' a0 c0 c1 c2 r Q hs => h f' m' a0 c0 c1 c2 r Q (s.trans hs)
def Fv_Clm_Bool (f : M) (x : C) (g : Clm → Option (Bool)) : Prop := ∀ (f' m : M) (a0 : Clm) (r : Bool) (Q : V → M → Prop), Sub f f' → Pre f' m → g a0 = some r → (∀ m', Ext m m' → Q (.c (.bool r)) m') → callP prog tbl [.agg 6 [(.int .i64 a0.Crop), (.int .i64 a0.Value), (.int .i64 a0.Day.Lo), (.int .i64 a0.Day.Hi), (.int .i64 a0.Count.Lo), (.int .i64 a0.Count.Hi)]] x m Q
theorem Fv_Clm_Bool.sub {f m : M} {x : C} {g : Clm → Option (Bool)} (h : Fv_Clm_Bool f x g) (s : Sub f m) : Fv_Clm_Bool m x g := fun f' m' a0 r Q hs => h f' m' a0 r Q (s.trans hs)
def Fv_Int_Bool (f : M) (x : C) (g : Int → Option (Bool)) : Prop := ∀ (f' m : M) (a0 : Int) (r : Bool) (Q : V → M → Prop), Sub f f' → Pre f' m → g a0 = some r → (∀ m', Ext m m' → Q (.c (.bool r)) m') → callP prog tbl [.c (.int .i64 a0)] x m Q
theorem Fv_Int_Bool.sub {f m : M} {x : C} {g : Int → Option (Bool)} (h : Fv_Int_Bool f x g) (s : Sub f m) : Fv_Int_Bool m x g := fun f' m' a0 r Q hs => h f' m' a0 r Q (s.trans hs)
def Fv_LInt_Bool (f : M) (x : C) (g : List Int → Option (Bool)) : Prop := ∀ (f' m : M) (a0 : List Int) (c0 : C) (r : Bool) (Q : V → M → Prop), Sub f f' → Pre f' m → Sl f' c0 a0 → g a0 = some r → (∀ m', Ext m m' → Q (.c (.bool r)) m') → callP prog tbl [.c c0] x m Q
theorem Fv_LInt_Bool.sub {f m : M} {x : C} {g : List Int → Option (Bool)} (h : Fv_LInt_Bool f x g) (s : Sub f m) : Fv_LInt_Bool m x g := fun f' m' a0 c0 r Q hs => h f' m' a0 c0 r Q (s.trans hs)
def Fv_LLInt_Bool (f : M) (x : C) (g : List (List Int) → Option (Bool)) : Prop := ∀ (f' m : M) (a0 : List (List Int)) (c0 : C) (r : Bool) (Q : V → M → Prop), Sub f f' → Pre f' m → Sl f' c0 a0 → g a0 = some r → (∀ m', Ext m m' → Q (.c (.bool r)) m') → callP prog tbl [.c c0] x m Q
theorem Fv_LLInt_Bool.sub {f m : M} {x : C} {g : List (List Int) → Option (Bool)} (h : Fv_LLInt_Bool f x g) (s : Sub f m) : Fv_LLInt_Bool m x g := fun f' m' a0 c0 r Q hs => h f' m' a0 c0 r Q (s.trans hs)
def Fv_Tf_Int_Int (f : M) (x : C) (g : Tf → Int → Option (Int)) : Prop := ∀ (f' m : M) (a0 : Tf) (a1 : Int) (c0 c1 c2 : C) (r : Int) (Q : V → M → Prop), Sub f f' → Pre f' m → Sl f' c0 a0.Weeks → Sl f' c1 a0.Counts → Sl f' c2 a0.Rates → g a0 a1 = some r → (∀ m', Ext m m' → Q (.c (.int .i64 r)) m') → callP prog tbl [.agg 6 [(.int .i64 a0.From), (.bool a0.Whole), (.int .i64 a0.Least), c0, c1, c2], .c (.int .i64 a1)] x m Q
theorem Fv_Tf_Int_Int.sub {f m : M} {x : C} {g : Tf → Int → Option (Int)} (h : Fv_Tf_Int_Int f x g) (s : Sub f m) : Fv_Tf_Int_Int m x g := fun f' m' a0 a1 c0 c1 c2 r Q hs => h f' m' a0 a1 c0 c1 c2 r Q (s.trans hs)
def Fw_Tr_Tr_Int (mc : C) (f : M) (x : C) (g : Tr → Tr → (Option (Ht → Option (Int))) → Option (Int × Option (Ht → Option (Int)))) : Prop := ∀ (f' m : M) (a0 : Tr) (a1 : Tr) (M0 : Option (Ht → Option (Int))) (r : Int × Option (Ht → Option (Int))) (Q : V → M → Prop), Sub f f' → Pre f' m → Mc f' m mc M0 → g a0 a1 M0 = some r → (∀ m', ExtB mc m m' → Mi m' mc r.2 → Q (.c (.int .i64 r.1)) m') → callP prog tbl [.agg 2 [(.int .i64 a0.Day), (.int .i64 a0.Count)], .agg 2 [(.int .i64 a1.Day), (.int .i64 a1.Count)]] x m Q
theorem Fw_Tr_Tr_Int.sub {mc : C} {f m : M} {x : C} {g : Tr → Tr → (Option (Ht → Option (Int))) → Option (Int × Option (Ht → Option (Int)))} (h : Fw_Tr_Tr_Int mc f x g) (s : Sub f m) : Fw_Tr_Tr_Int mc m x g := fun f' m' a0 a1 M0 r Q hs => h f' m' a0 a1 M0 r Q (s.trans hs)
theorem kl103 : KL prog 103 Ht := kl_agg (n := 3) (ks := [.int .i64, .int .i64, .int .i64]) (by kernel_rfl) (by kernel_rfl) (cs := fun k => [.int .i64 k.Day, .int .i64 k.Count, .int .i64 k.crop]) (fun _ => rfl) fun a b fa fb => ⟨_, _, (eqKs_cons (eqK_i fa.1 fb.1) (eqKs_cons (eqK_i fa.2.1 fb.2.1) (eqKs_cons (eqK_i fa.2.2.1 fb.2.2.1) eqKs_nil))), ⟨fun h => by cases a; cases b; simp_all, fun h => by subst h; exact ⟨rfl, rfl, rfl, trivial⟩⟩⟩
theorem ta28 : TA prog 28 6 := ⟨76, by kernel_rfl, by kernel_rfl, by kernel_rfl⟩
theorem ta73 : TA prog 73 1 := ⟨3, by kernel_rfl, by kernel_rfl, by kernel_rfl⟩
theorem ta74 : TA prog 74 1 := ⟨77, by kernel_rfl, by kernel_rfl, by kernel_rfl⟩
theorem ta77 : TA prog 77 1 := ⟨73, by kernel_rfl, by kernel_rfl, by kernel_rfl⟩
theorem ta110 : TA prog 110 2 := ⟨47, by kernel_rfl, by kernel_rfl, by kernel_rfl⟩
theorem s_awake {m f : M} {Q : V → M → Prop} {rz : Bool} (hS : Pre f m) (hp : pawake = some rz) (hq : ∀ m', Ext m m' → Q (.c (.bool rz)) m') : Wc prog tbl 17 [] m Q := by
  obtain rfl := Option.some.inj hp
  exact call_known (show findT tbl 17 = some true from rfl) (hq _ (.refl m))
theorem s_rIn {n : Int} {low : Int} {high : Int} {m f : M} {Q : V → M → Prop} {rz : Bool} (hS : Pre f m)  (hp : prIn n low high = some rz) (hq : ∀ m', Ext m m' → Q (.c (.bool rz)) m') : Wc prog tbl 22 [.c (.int .i64 n), .c (.int .i64 low), .c (.int .i64 high)] m Q := by
  have S0 := hS.st
  obtain ⟨τ0, _⟩ : ∃ τ : Nat → Nat, True := ⟨fun _ => 0, trivial⟩
  refine w22 ?_
  unfold prIn at hp
  rw [ifB_dec]
  refine ⟨fun q1 => ?_, fun q1 => ?_⟩
  · skip
    rw [if_pos q1] at hp
    obtain rfl := Option.some.inj hp
    exact hq _ S0.ext'
  · skip
    rw [if_neg q1] at hp
    obtain rfl := Option.some.inj hp
    exact hq _ S0.ext'
theorem s_rRises {l : List Int} {most : Int} {ca100 : C} {m f : M} {Q : V → M → Prop} {rz : Bool} (hS : Pre f m) (ha100 : Sl f ca100 l) (hp : prRises l most = some rz) (hq : ∀ m', Ext m m' → Q (.c (.bool rz)) m') : Wc prog tbl 101 [.c ca100, .c (.int .i64 most)] m Q := by
  have S0 := hS.st
  obtain ⟨τ0, _⟩ : ∃ τ : Nat → Nat, True := ⟨fun _ => 0, trivial⟩
  refine w101 ?_
  unfold prRises at hp
  intro R0 hR0
  have hgo : ∀ (d4 : Nat) (b1 : Bool) (x2 : Int) (m3 : M) (τ3 : Nat → Nat), St (Fm.of m) f f m3 → prRises_L0 l most d4 x2 = some rz → R0 [.c (.bool b1), .c (.int .i64 x2)] m3 := by
    intro d4
    induction d4 with
    | zero => intro b1 x2 m3 τ3 S2 hp; cases hp
    | succ d4 ihR0 =>
      intro b1 x2 m3 τ3 S2 hp
      refine hR0 _ _ _ ?_
      rw [prRises_L0] at hp
      refine ⟨ha100.isSl, ?_⟩
      try rw [ha100.slLen]
      rw [ifB_dec]
      refine ⟨fun q5 => ?_, fun q5 => ?_⟩
      · skip
        rw [if_pos q5] at hp
        obtain ⟨x6, g7, hp⟩ := bsome hp
        obtain ⟨n4, g7i, g7l, g7⟩ := idx_some g7
        refine ⟨n4, g7i, (by first | exact g7l | (rw [ha100.slLen]; exact g7l)), _, (ha100.rdI g7 S2.sub), ?_⟩
        obtain ⟨r8, g9, hp⟩ := bsome hp
        refine s_rIn (n := x6) (low := (0 : Int)) (high := most) S2.pre  g9 fun m7 e12 => ?_
        obtain ⟨S10, k11⟩ := S2.call e12 τ3
        refine ⟨_, rfl, ?_⟩
        rw [ifB_iff]
        refine ⟨fun q13 => ?_, fun q13 => ?_⟩
        · skip
          rw [bif_neg (nb_f q13)] at hp
          obtain rfl := Option.some.inj hp
          exact hq _ S10.ext'
        · skip
          rw [if_pos (nb_t q13)] at hp
          rw [ifB_dec]
          refine ⟨fun q14 => ?_, fun q14 => ?_⟩
          · skip
            rw [if_pos q14] at hp
            obtain ⟨x15, g16, hp⟩ := bsome hp
            obtain ⟨n9, g16i, g16l, g16⟩ := idx_some g16
            refine ⟨n9, g16i, (by first | exact g16l | (rw [ha100.slLen]; exact g16l)), _, (ha100.rdI g16 S10.sub), ?_⟩
            obtain ⟨g17, hp⟩ := gd_some hp
            refine ⟨g17, ?_⟩
            obtain ⟨x18, g19, hp⟩ := bsome hp
            obtain ⟨n11, g19i, g19l, g19⟩ := idx_some g19
            refine ⟨n11, g19i, (by first | exact g19l | (rw [ha100.slLen]; exact g19l)), _, (ha100.rdI g19 S10.sub), ?_⟩
            rw [ifB_dec]
            refine ⟨fun q20 => ?_, fun q20 => ?_⟩
            · skip
              rw [if_pos q20] at hp
              obtain rfl := Option.some.inj hp
              exact hq _ S10.ext'
            · skip
              rw [if_neg q20] at hp
              obtain ⟨g21, hp⟩ := gd_some hp
              refine ⟨g21, ?_⟩
              exact ihR0 _ _ _ τ3 S10 hp
          · skip
            rw [if_neg q14] at hp
            obtain ⟨g22, hp⟩ := gd_some hp
            refine ⟨g22, ?_⟩
            exact ihR0 _ _ _ τ3 S10 hp
      · skip
        rw [if_neg q5] at hp
        refine ⟨ha100.isSl, ?_⟩
        try rw [ha100.slLen]
        rw [ifB_dec]
        refine ⟨fun q23 => ?_, fun q23 => ?_⟩
        · skip
          rw [if_pos q23] at hp
          obtain ⟨x24, g25, hp⟩ := bsome hp
          obtain ⟨n13, g25i, g25l, g25⟩ := idx_some g25
          refine ⟨n13, g25i, (by first | exact g25l | (rw [ha100.slLen]; exact g25l)), _, (ha100.rdI g25 S2.sub), ?_⟩
          obtain rfl := Option.some.inj hp
          exact hq _ S2.ext'
        · skip
          rw [if_neg q23] at hp
          obtain rfl := Option.some.inj hp
          exact hq _ S2.ext'
  exact hgo _ _ _ _ τ0 S0 hp
theorem s_rIsTariff {t : Tf} {ca103 ca104 ca105 : C} {m f : M} {Q : V → M → Prop} {rz : Bool} (hS : Pre f m) (ha103 : Sl f ca103 t.Weeks) (ha104 : Sl f ca104 t.Counts) (ha105 : Sl f ca105 t.Rates) (hp : prIsTariff t = some rz) (hq : ∀ m', Ext m m' → Q (.c (.bool rz)) m') : Wc prog tbl 81 [.agg 6 [(.int .i64 t.From), (.bool t.Whole), (.int .i64 t.Least), ca103, ca104, ca105]] m Q := by
  have S0 := hS.st
  obtain ⟨τ0, _⟩ : ∃ τ : Nat → Nat, True := ⟨fun _ => 0, trivial⟩
  refine w81 ?_
  unfold prIsTariff at hp
  intro m0 e26
  obtain ⟨τ29, S27, k28, L30⟩ := S0.blk e26 τ0 1
  refine ⟨trivial, _, L30.bk.rc rfl, ?_⟩
  obtain ⟨r31, g32, hp⟩ := bsome hp
  refine s_rIn (n := t.From) (low := (0 : Int)) (high := (120 : Int)) S27.pre  g32 fun m3 e35 => ?_
  obtain ⟨S33, k34⟩ := S27.call e35 τ29
  have L36 := L30.k k34 (by decide)
  refine ⟨_, rfl, ?_⟩
  rw [ifB_iff]
  refine ⟨fun q37 => ?_, fun q37 => ?_⟩
  · skip
    rw [bif_neg (nb_f q37)] at hp
    obtain rfl := Option.some.inj hp
    exact hq _ S33.ext'
  · skip
    rw [if_pos (nb_t q37)] at hp
    refine ⟨trivial, _, L36.bk.rc rfl, ?_⟩
    obtain ⟨r38, g39, hp⟩ := bsome hp
    refine s_rIn (n := t.Least) (low := (0 : Int)) (high := (100 : Int)) S33.pre  g39 fun m7 e42 => ?_
    obtain ⟨S40, k41⟩ := S33.call e42 τ29
    have L43 := L36.k k41 (by decide)
    refine ⟨_, rfl, ?_⟩
    rw [ifB_iff]
    refine ⟨fun q44 => ?_, fun q44 => ?_⟩
    · skip
      rw [bif_neg (nb_f q44)] at hp
      obtain rfl := Option.some.inj hp
      exact hq _ S40.ext'
    · skip
      rw [if_pos (nb_t q44)] at hp
      refine ⟨trivial, _, L43.bk.rc rfl, ?_⟩
      obtain ⟨r45, g46, hp⟩ := bsome hp
      refine s_rRises (l := t.Weeks) (most := (120 : Int)) S40.pre ha103 g46 fun m11 e49 => ?_
      obtain ⟨S47, k48⟩ := S40.call e49 τ29
      have L50 := L43.k k48 (by decide)
      refine ⟨_, rfl, ?_⟩
      rw [ifB_iff]
      refine ⟨fun q51 => ?_, fun q51 => ?_⟩
      · skip
        rw [bif_neg (nb_f q51)] at hp
        obtain rfl := Option.some.inj hp
        exact hq _ S47.ext'
      · skip
        rw [if_pos (nb_t q51)] at hp
        refine ⟨trivial, _, L50.bk.rc rfl, ?_⟩
        obtain ⟨r52, g53, hp⟩ := bsome hp
        refine s_rRises (l := t.Counts) (most := (100 : Int)) S47.pre ha104 g53 fun m15 e56 => ?_
        obtain ⟨S54, k55⟩ := S47.call e56 τ29
        have L57 := L50.k k55 (by decide)
        refine ⟨_, rfl, ?_⟩
        rw [ifB_iff]
        refine ⟨fun q58 => ?_, fun q58 => ?_⟩
        · skip
          rw [bif_neg (nb_f q58)] at hp
          obtain rfl := Option.some.inj hp
          exact hq _ S54.ext'
        · skip
          rw [if_pos (nb_t q58)] at hp
          refine ⟨trivial, _, L57.bk.rc rfl, trivial, _, L57.bk.rc rfl, ha104.isSl, ?_⟩
          obtain ⟨g59, hp⟩ := gd_some hp
          refine ⟨(by first | exact g59 | (rw [ha104.slLen]; exact g59)), ?_⟩
          obtain ⟨x60, g61, hp⟩ := bsome hp
          obtain ⟨n19, g61i, g61l, g61⟩ := idx_some g61
          refine ⟨n19, (by first | exact g61i | (rw [ha104.slLen]; exact g61i)), (by first | exact g61l | (rw [ha104.slLen]; exact g61l)), _, (ha104.rdI g61 S54.sub), ?_⟩
          rw [ifB_ndec]
          refine ⟨fun q62 => ?_, fun q62 => ?_⟩
          · skip
            rw [if_neg q62] at hp
            obtain rfl := Option.some.inj hp
            exact hq _ S54.ext'
          · skip
            rw [if_pos q62] at hp
            refine ⟨trivial, _, L57.bk.rc rfl, ha105.isSl, ?_⟩
            try rw [ha105.slLen]
            rw [ifB_dec]
            refine ⟨fun q63 => ?_, fun q63 => ?_⟩
            · skip
              rw [if_pos q63] at hp
              obtain rfl := Option.some.inj hp
              exact hq _ S54.ext'
            · skip
              rw [if_neg q63] at hp
              intro R22 hR22
              have hgo : ∀ (d66 : Nat) (b23 : Bool) (b24 : Bool) (b25 : Bool) (x26 : Int) (m27 : M) (τ65 : Nat → Nat), St (Fm.of m) f f m27 → Lb (Fm.of m) f τ65 m27 1 m.nxt 6 [(.int .i64 t.From), (.bool t.Whole), (.int .i64 t.Least), ca103, ca104, ca105] → prIsTariff_L0 t d66 b23 x26 = some rz → R22 [.c (.bool b23), .c (.bool b24), .c (.bool b25), .c (.int .i64 x26)] m27 := by
                intro d66
                induction d66 with
                | zero => intro b23 b24 b25 x26 m27 τ65 S64 L57 hp; cases hp
                | succ d66 ihR22 =>
                  intro b23 b24 b25 x26 m27 τ65 S64 L57 hp
                  refine hR22 _ _ _ _ _ ?_
                  rw [prIsTariff_L0] at hp
                  refine ⟨trivial, _, L57.bk.rc rfl, ha105.isSl, ?_⟩
                  try rw [ha105.slLen]
                  rw [ifB_dec]
                  refine ⟨fun q67 => ?_, fun q67 => ?_⟩
                  · skip
                    rw [if_pos q67] at hp
                    refine ⟨trivial, _, L57.bk.rc rfl, ?_⟩
                    obtain ⟨v68, g69, hp⟩ := bsome hp
                    obtain ⟨n30, g69i, g69l, g69⟩ := idx_some g69
                    obtain ⟨c70, r71, h72⟩ := ha105.rdS g69
                    refine ⟨n30, g69i, (by first | exact g69l | (rw [ha105.slLen]; exact g69l)), _, (r71 _ S64.sub), h72.isSl, trivial, _, L57.bk.rc rfl, ha103.isSl, ?_⟩
                    try rw [h72.slLen]
                    try rw [ha103.slLen]
                    rw [ifB_ndec]
                    refine ⟨fun q73 => ?_, fun q73 => ?_⟩
                    · skip
                      rw [if_neg q73] at hp
                      obtain rfl := Option.some.inj hp
                      exact hq _ S64.ext'
                    · skip
                      rw [if_pos q73] at hp
                      intro R33 hR33
                      have hgo : ∀ (d76 : Nat) (b34 : Bool) (b35 : Bool) (x36 : Int) (m37 : M) (τ75 : Nat → Nat), St (Fm.of m) f f m37 → Lb (Fm.of m) f τ75 m37 1 m.nxt 6 [(.int .i64 t.From), (.bool t.Whole), (.int .i64 t.Least), ca103, ca104, ca105] → prIsTariff_L1 t x26 (prIsTariff_L0 t d66) d76 b34 x36 = some rz → R33 [.c (.bool b34), .c (.bool b35), .c (.int .i64 x36)] m37 := by
                        intro d76
                        induction d76 with
                        | zero => intro b34 b35 x36 m37 τ75 S74 L57 hp; cases hp
                        | succ d76 ihR33 =>
                          intro b34 b35 x36 m37 τ75 S74 L57 hp
                          refine hR33 _ _ _ _ ?_
                          rw [prIsTariff_L1] at hp
                          refine ⟨trivial, _, L57.bk.rc rfl, ha103.isSl, ?_⟩
                          try rw [ha103.slLen]
                          rw [ifB_dec]
                          refine ⟨fun q77 => ?_, fun q77 => ?_⟩
                          · skip
                            rw [if_pos q77] at hp
                            refine ⟨trivial, _, L57.bk.rc rfl, ?_⟩
                            obtain ⟨v78, g79, hp⟩ := bsome hp
                            obtain ⟨n40, g79i, g79l, g79⟩ := idx_some g79
                            obtain ⟨c80, r81, h82⟩ := ha105.rdS g79
                            refine ⟨n40, g79i, (by first | exact g79l | (rw [ha105.slLen]; exact g79l)), _, (r81 _ S74.sub), ?_⟩
                            obtain ⟨v83, g84, hp⟩ := bsome hp
                            obtain ⟨n42, g84i, g84l, g84⟩ := idx_some g84
                            obtain ⟨c85, r86, h87⟩ := h82.rdS g84
                            refine ⟨n42, g84i, (by first | exact g84l | (rw [h82.slLen]; exact g84l)), _, (r86 _ S74.sub), h87.isSl, trivial, _, L57.bk.rc rfl, ha104.isSl, ?_⟩
                            try rw [h87.slLen]
                            try rw [ha104.slLen]
                            rw [ifB_ndec]
                            refine ⟨fun q88 => ?_, fun q88 => ?_⟩
                            · skip
                              rw [if_neg q88] at hp
                              obtain rfl := Option.some.inj hp
                              exact hq _ S74.ext'
                            · skip
                              rw [if_pos q88] at hp
                              intro R45 hR45
                              have hgo : ∀ (d91 : Nat) (b46 : Bool) (x47 : Int) (m48 : M) (τ90 : Nat → Nat), St (Fm.of m) f f m48 → Lb (Fm.of m) f τ90 m48 1 m.nxt 6 [(.int .i64 t.From), (.bool t.Whole), (.int .i64 t.Least), ca103, ca104, ca105] → prIsTariff_L2 t x26 x36 (prIsTariff_L1 t x26 (prIsTariff_L0 t d66) d76) d91 b46 x47 = some rz → R45 [.c (.bool b46), .c (.int .i64 x47)] m48 := by
                                intro d91
                                induction d91 with
                                | zero => intro b46 x47 m48 τ90 S89 L57 hp; cases hp
                                | succ d91 ihR45 =>
                                  intro b46 x47 m48 τ90 S89 L57 hp
                                  refine hR45 _ _ _ ?_
                                  rw [prIsTariff_L2] at hp
                                  refine ⟨trivial, _, L57.bk.rc rfl, ha104.isSl, ?_⟩
                                  try rw [ha104.slLen]
                                  rw [ifB_dec]
                                  refine ⟨fun q92 => ?_, fun q92 => ?_⟩
                                  · skip
                                    rw [if_pos q92] at hp
                                    refine ⟨trivial, _, L57.bk.rc rfl, ?_⟩
                                    obtain ⟨v93, g94, hp⟩ := bsome hp
                                    obtain ⟨n51, g94i, g94l, g94⟩ := idx_some g94
                                    obtain ⟨c95, r96, h97⟩ := ha105.rdS g94
                                    refine ⟨n51, g94i, (by first | exact g94l | (rw [ha105.slLen]; exact g94l)), _, (r96 _ S89.sub), ?_⟩
                                    obtain ⟨v98, g99, hp⟩ := bsome hp
                                    obtain ⟨n53, g99i, g99l, g99⟩ := idx_some g99
                                    obtain ⟨c100, r101, h102⟩ := h97.rdS g99
                                    refine ⟨n53, g99i, (by first | exact g99l | (rw [h97.slLen]; exact g99l)), _, (r101 _ S89.sub), ?_⟩
                                    obtain ⟨x103, g104, hp⟩ := bsome hp
                                    obtain ⟨n55, g104i, g104l, g104⟩ := idx_some g104
                                    refine ⟨n55, g104i, (by first | exact g104l | (rw [h102.slLen]; exact g104l)), _, (h102.rdI g104 S89.sub), ?_⟩
                                    obtain ⟨r105, g106, hp⟩ := bsome hp
                                    refine s_rIn (n := x103) (low := (0 : Int)) (high := (100 : Int)) S89.pre  g106 fun m58 e109 => ?_
                                    obtain ⟨S107, k108⟩ := S89.call e109 τ90
                                    have L110 := L57.k k108 (by decide)
                                    refine ⟨_, rfl, ?_⟩
                                    rw [ifB_iff]
                                    refine ⟨fun q111 => ?_, fun q111 => ?_⟩
                                    · skip
                                      rw [bif_neg (nb_f q111)] at hp
                                      obtain rfl := Option.some.inj hp
                                      exact hq _ S107.ext'
                                    · skip
                                      rw [if_pos (nb_t q111)] at hp
                                      obtain ⟨g112, hp⟩ := gd_some hp
                                      refine ⟨g112, ?_⟩
                                      exact ihR45 _ _ _ τ90 S107 L110 hp
                                  · skip
                                    rw [if_neg q92] at hp
                                    obtain ⟨g113, hp⟩ := gd_some hp
                                    refine ⟨g113, ?_⟩
                                    exact ihR33 _ _ _ _ τ90 S89 L57 hp
                              exact hgo _ _ _ _ τ75 S74 L57 hp
                          · skip
                            rw [if_neg q77] at hp
                            obtain ⟨g114, hp⟩ := gd_some hp
                            refine ⟨g114, ?_⟩
                            exact ihR22 _ _ _ _ _ τ75 S74 L57 hp
                      exact hgo _ _ _ _ _ τ65 S64 L57 hp
                  · skip
                    rw [if_neg q67] at hp
                    obtain rfl := Option.some.inj hp
                    exact hq _ S64.ext'
              exact hgo _ _ _ _ _ _ τ29 S54 L57 hp
theorem s_rFault {l : List Tf} {ca100 : C} {m f : M} {Q : V → M → Prop} {rz : Int} (hS : Pre f m) (ha100 : Sl f ca100 l) (hp : prFault l = some rz) (hq : ∀ m', Ext m m' → Q (.c (.int .i64 rz)) m') : Wc prog tbl 59 [.c ca100] m Q := by
  have S0 := hS.st
  obtain ⟨τ0, _⟩ : ∃ τ : Nat → Nat, True := ⟨fun _ => 0, trivial⟩
  refine w59 ?_
  unfold prFault at hp
  refine ⟨ha100.isSl, ?_⟩
  try rw [ha100.slLen]
  rw [ifB_dec]
  refine ⟨fun q115 => ?_, fun q115 => ?_⟩
  · skip
    rw [if_pos q115] at hp
    obtain rfl := Option.some.inj hp
    exact hq _ S0.ext'
  · skip
    rw [if_neg q115] at hp
    intro R0 hR0
    have hgo : ∀ (d118 : Nat) (x1 : Int) (x2 : Int) (m3 : M) (τ117 : Nat → Nat), St (Fm.of m) f f m3 → prFault_L0 l d118 x1 x2 = some rz → R0 [.c (.int .i64 x1), .c (.int .i64 x2)] m3 := by
      intro d118
      induction d118 with
      | zero => intro x1 x2 m3 τ117 S116 hp; cases hp
      | succ d118 ihR0 =>
        intro x1 x2 m3 τ117 S116 hp
        refine hR0 _ _ _ ?_
        rw [prFault_L0] at hp
        refine ⟨ha100.isSl, ?_⟩
        try rw [ha100.slLen]
        rw [ifB_dec]
        refine ⟨fun q119 => ?_, fun q119 => ?_⟩
        · skip
          rw [if_pos q119] at hp
          obtain ⟨v120, g121, hp⟩ := bsome hp
          obtain ⟨n4, g121i, g121l, g121⟩ := idx_some g121
          obtain ⟨c122, c124, c126, r128, h123, h125, h127⟩ := rd_Tf ha100 g121
          refine ⟨n4, g121i, (by first | exact g121l | (rw [ha100.slLen]; exact g121l)), (ha100.isPt g121 _), _, ((r128 _ S116.sub).2.1 3 _ rfl), h123.isSl, ?_⟩
          try rw [h123.slLen]
          rw [ifB_dec]
          refine ⟨fun q129 => ?_, fun q129 => ?_⟩
          · skip
            rw [if_pos q129] at hp
            obtain rfl := Option.some.inj hp
            exact hq _ S116.ext'
          · skip
            rw [if_neg q129] at hp
            obtain ⟨v130, g131, hp⟩ := bsome hp
            obtain ⟨n6, g131i, g131l, g131⟩ := idx_some g131
            obtain ⟨c132, c134, c136, r138, h133, h135, h137⟩ := rd_Tf ha100 g131
            refine ⟨n6, g131i, (by first | exact g131l | (rw [ha100.slLen]; exact g131l)), (ha100.isPt g131 _), _, ((r138 _ S116.sub).2.1 4 _ rfl), h135.isSl, ?_⟩
            try rw [h135.slLen]
            rw [ifB_dec]
            refine ⟨fun q139 => ?_, fun q139 => ?_⟩
            · skip
              rw [if_pos q139] at hp
              obtain rfl := Option.some.inj hp
              exact hq _ S116.ext'
            · skip
              rw [if_neg q139] at hp
              obtain ⟨v140, g141, hp⟩ := bsome hp
              obtain ⟨n8, g141i, g141l, g141⟩ := idx_some g141
              obtain ⟨c142, c144, c146, r148, h143, h145, h147⟩ := rd_Tf ha100 g141
              refine ⟨n8, g141i, (by first | exact g141l | (rw [ha100.slLen]; exact g141l)), (ha100.isPt g141 _), _, ((r148 _ S116.sub).2.1 5 _ rfl), h147.isSl, ?_⟩
              try rw [h147.slLen]
              rw [ifB_dec]
              refine ⟨fun q149 => ?_, fun q149 => ?_⟩
              · skip
                rw [if_pos q149] at hp
                obtain rfl := Option.some.inj hp
                exact hq _ S116.ext'
              · skip
                rw [if_neg q149] at hp
                obtain ⟨g150, hp⟩ := gd_some hp
                refine ⟨g150, ?_⟩
                exact ihR0 _ _ _ τ117 S116 hp
        · skip
          rw [if_neg q119] at hp
          intro R10 hR10
          have hgo : ∀ (d153 : Nat) (x11 : Int) (x12 : Int) (m13 : M) (τ152 : Nat → Nat), St (Fm.of m) f f m13 → prFault_L1 l d153 x12 = some rz → R10 [.c (.int .i64 x11), .c (.int .i64 x12)] m13 := by
            intro d153
            induction d153 with
            | zero => intro x11 x12 m13 τ152 S151 hp; cases hp
            | succ d153 ihR10 =>
              intro x11 x12 m13 τ152 S151 hp
              refine hR10 _ _ _ ?_
              rw [prFault_L1] at hp
              refine ⟨ha100.isSl, ?_⟩
              try rw [ha100.slLen]
              rw [ifB_dec]
              refine ⟨fun q154 => ?_, fun q154 => ?_⟩
              · skip
                rw [if_pos q154] at hp
                obtain ⟨v155, g156, hp⟩ := bsome hp
                obtain ⟨n14, g156i, g156l, g156⟩ := idx_some g156
                obtain ⟨c157, c159, c161, r163, h158, h160, h162⟩ := rd_Tf ha100 g156
                refine ⟨n14, g156i, (by first | exact g156l | (rw [ha100.slLen]; exact g156l)), _, _, _, _, _, _, (r163 _ S151.sub).1, ?_⟩
                obtain ⟨r164, g165, hp⟩ := bsome hp
                refine s_rIsTariff (t := v155) S151.pre h158 h160 h162 g165 fun m22 e168 => ?_
                obtain ⟨S166, k167⟩ := S151.call e168 τ152
                refine ⟨_, rfl, ?_⟩
                rw [ifB_iff]
                refine ⟨fun q169 => ?_, fun q169 => ?_⟩
                · skip
                  rw [bif_neg (nb_f q169)] at hp
                  obtain rfl := Option.some.inj hp
                  exact hq _ S166.ext'
                · skip
                  rw [if_pos (nb_t q169)] at hp
                  obtain ⟨v170, g171, hp⟩ := bsome hp
                  obtain ⟨n24, g171i, g171l, g171⟩ := idx_some g171
                  obtain ⟨c172, c174, c176, r178, h173, h175, h177⟩ := rd_Tf ha100 g171
                  refine ⟨n24, g171i, (by first | exact g171l | (rw [ha100.slLen]; exact g171l)), (ha100.isPt g171 _), _, ((r178 _ S166.sub).2.1 5 _ rfl), h177.isSl, ?_⟩
                  obtain ⟨v179, g180, hp⟩ := bsome hp
                  obtain ⟨n26, g180i, g180l, g180⟩ := idx_some g180
                  obtain ⟨c181, c183, c185, r187, h182, h184, h186⟩ := rd_Tf ha100 g180
                  refine ⟨n26, g180i, (by first | exact g180l | (rw [ha100.slLen]; exact g180l)), (ha100.isPt g180 _), _, ((r187 _ S166.sub).2.1 5 _ rfl), h186.isSl, ?_⟩
                  try rw [h177.slLen]
                  try rw [h186.slLen]
                  rw [ifB_ndec]
                  refine ⟨fun q188 => ?_, fun q188 => ?_⟩
                  · skip
                    rw [if_neg q188] at hp
                    obtain rfl := Option.some.inj hp
                    exact hq _ S166.ext'
                  · skip
                    rw [if_pos q188] at hp
                    rw [ifB_dec]
                    refine ⟨fun q189 => ?_, fun q189 => ?_⟩
                    · skip
                      rw [if_pos q189] at hp
                      obtain ⟨v190, g191, hp⟩ := bsome hp
                      obtain ⟨n28, g191i, g191l, g191⟩ := idx_some g191
                      obtain ⟨c192, c194, c196, r198, h193, h195, h197⟩ := rd_Tf ha100 g191
                      refine ⟨n28, g191i, (by first | exact g191l | (rw [ha100.slLen]; exact g191l)), (ha100.isPt g191 _), _, ((r198 _ S166.sub).2.1 0 _ rfl), ?_⟩
                      rw [ifB_ndec]
                      refine ⟨fun q199 => ?_, fun q199 => ?_⟩
                      · skip
                        rw [if_neg q199] at hp
                        obtain rfl := Option.some.inj hp
                        exact hq _ S166.ext'
                      · skip
                        rw [if_pos q199] at hp
                        rw [ifB_dec]
                        refine ⟨fun q200 => ?_, fun q200 => ?_⟩
                        · skip
                          rw [if_pos q200] at hp
                          obtain ⟨v201, g202, hp⟩ := bsome hp
                          obtain ⟨n30, g202i, g202l, g202⟩ := idx_some g202
                          obtain ⟨c203, c205, c207, r209, h204, h206, h208⟩ := rd_Tf ha100 g202
                          refine ⟨n30, g202i, (by first | exact g202l | (rw [ha100.slLen]; exact g202l)), (ha100.isPt g202 _), _, ((r209 _ S166.sub).2.1 0 _ rfl), ?_⟩
                          obtain ⟨g210, hp⟩ := gd_some hp
                          refine ⟨g210, ?_⟩
                          obtain ⟨v211, g212, hp⟩ := bsome hp
                          obtain ⟨n32, g212i, g212l, g212⟩ := idx_some g212
                          obtain ⟨c213, c215, c217, r219, h214, h216, h218⟩ := rd_Tf ha100 g212
                          refine ⟨n32, g212i, (by first | exact g212l | (rw [ha100.slLen]; exact g212l)), (ha100.isPt g212 _), _, ((r219 _ S166.sub).2.1 0 _ rfl), ?_⟩
                          rw [ifB_dec]
                          refine ⟨fun q220 => ?_, fun q220 => ?_⟩
                          · skip
                            rw [if_pos q220] at hp
                            obtain rfl := Option.some.inj hp
                            exact hq _ S166.ext'
                          · skip
                            rw [if_neg q220] at hp
                            obtain ⟨g221, hp⟩ := gd_some hp
                            refine ⟨g221, ?_⟩
                            exact ihR10 _ _ _ τ152 S166 hp
                        · skip
                          rw [if_neg q200] at hp
                          obtain ⟨g222, hp⟩ := gd_some hp
                          refine ⟨g222, ?_⟩
                          exact ihR10 _ _ _ τ152 S166 hp
                    · skip
                      rw [if_neg q189] at hp
                      rw [ifB_dec]
                      refine ⟨fun q223 => ?_, fun q223 => ?_⟩
                      · skip
                        rw [if_pos q223] at hp
                        obtain ⟨v224, g225, hp⟩ := bsome hp
                        obtain ⟨n34, g225i, g225l, g225⟩ := idx_some g225
                        obtain ⟨c226, c228, c230, r232, h227, h229, h231⟩ := rd_Tf ha100 g225
                        refine ⟨n34, g225i, (by first | exact g225l | (rw [ha100.slLen]; exact g225l)), (ha100.isPt g225 _), _, ((r232 _ S166.sub).2.1 0 _ rfl), ?_⟩
                        obtain ⟨g233, hp⟩ := gd_some hp
                        refine ⟨g233, ?_⟩
                        obtain ⟨v234, g235, hp⟩ := bsome hp
                        obtain ⟨n36, g235i, g235l, g235⟩ := idx_some g235
                        obtain ⟨c236, c238, c240, r242, h237, h239, h241⟩ := rd_Tf ha100 g235
                        refine ⟨n36, g235i, (by first | exact g235l | (rw [ha100.slLen]; exact g235l)), (ha100.isPt g235 _), _, ((r242 _ S166.sub).2.1 0 _ rfl), ?_⟩
                        rw [ifB_dec]
                        refine ⟨fun q243 => ?_, fun q243 => ?_⟩
                        · skip
                          rw [if_pos q243] at hp
                          obtain rfl := Option.some.inj hp
                          exact hq _ S166.ext'
                        · skip
                          rw [if_neg q243] at hp
                          obtain ⟨g244, hp⟩ := gd_some hp
                          refine ⟨g244, ?_⟩
                          exact ihR10 _ _ _ τ152 S166 hp
                      · skip
                        rw [if_neg q223] at hp
                        obtain ⟨g245, hp⟩ := gd_some hp
                        refine ⟨g245, ?_⟩
                        exact ihR10 _ _ _ τ152 S166 hp
              · skip
                rw [if_neg q154] at hp
                refine ⟨ha100.isSl, ?_⟩
                try rw [ha100.slLen]
                rw [ifB_dec]
                refine ⟨fun q246 => ?_, fun q246 => ?_⟩
                · skip
                  rw [if_pos q246] at hp
                  obtain rfl := Option.some.inj hp
                  exact hq _ S151.ext'
                · skip
                  rw [if_neg q246] at hp
                  obtain rfl := Option.some.inj hp
                  exact hq _ S151.ext'
          exact hgo _ _ _ _ τ117 S116 hp
    exact hgo _ _ _ _ τ0 S0 hp
theorem s_rLast {l : List Int} {n : Int} {ca100 : C} {m f : M} {Q : V → M → Prop} {rz : Int} (hS : Pre f m) (ha100 : Sl f ca100 l) (hp : prLast l n = some rz) (hq : ∀ m', Ext m m' → Q (.c (.int .i64 rz)) m') : Wc prog tbl 52 [.c ca100, .c (.int .i64 n)] m Q := by
  have S0 := hS.st
  obtain ⟨τ0, _⟩ : ∃ τ : Nat → Nat, True := ⟨fun _ => 0, trivial⟩
  refine w52 ?_
  unfold prLast at hp
  intro R0 hR0
  have hgo : ∀ (d249 : Nat) (x1 : Int) (m2 : M) (τ248 : Nat → Nat), St (Fm.of m) f f m2 → prLast_L0 l n d249 x1 = some rz → R0 [.c (.int .i64 x1)] m2 := by
    intro d249
    induction d249 with
    | zero => intro x1 m2 τ248 S247 hp; cases hp
    | succ d249 ihR0 =>
      intro x1 m2 τ248 S247 hp
      refine hR0 _ _ ?_
      rw [prLast_L0] at hp
      obtain ⟨g250, hp⟩ := gd_some hp
      refine ⟨g250, ha100.isSl, ?_⟩
      try rw [ha100.slLen]
      rw [ifB_dec]
      refine ⟨fun q251 => ?_, fun q251 => ?_⟩
      · skip
        rw [if_pos q251] at hp
        obtain ⟨g252, hp⟩ := gd_some hp
        refine ⟨g252, ?_⟩
        obtain ⟨x253, g254, hp⟩ := bsome hp
        obtain ⟨n3, g254i, g254l, g254⟩ := idx_some g254
        refine ⟨n3, g254i, (by first | exact g254l | (rw [ha100.slLen]; exact g254l)), _, (ha100.rdI g254 S247.sub), ?_⟩
        rw [ifB_dec]
        refine ⟨fun q255 => ?_, fun q255 => ?_⟩
        · skip
          rw [if_pos q255] at hp
          obtain ⟨g256, hp⟩ := gd_some hp
          refine ⟨g256, ?_⟩
          exact ihR0 _ _ τ248 S247 hp
        · skip
          rw [if_neg q255] at hp
          obtain rfl := Option.some.inj hp
          exact hq _ S247.ext'
      · skip
        rw [if_neg q251] at hp
        obtain rfl := Option.some.inj hp
        exact hq _ S247.ext'
  exact hgo _ _ _ τ0 S0 hp
theorem s_rOf {l : List Tf} {day : Int} {ca100 : C} {m f : M} {Q : V → M → Prop} {rz : Tf} (hS : Pre f m) (ha100 : Sl f ca100 l) (hp : prOf l day = some rz) (hq : ∀ m' f' c3 c4 c5, Grw m f m' f' → Sl f' c3 rz.Weeks → Sl f' c4 rz.Counts → Sl f' c5 rz.Rates → Q (.agg 6 [(.int .i64 rz.From), (.bool rz.Whole), (.int .i64 rz.Least), c3, c4, c5]) m') : Wc prog tbl 50 [.c ca100, .c (.int .i64 day)] m Q := by
  have S0 := hS.st
  obtain ⟨τ0, _⟩ : ∃ τ : Nat → Nat, True := ⟨fun _ => 0, trivial⟩
  refine w50 ?_
  unfold prOf at hp
  intro m0 e257
  obtain ⟨τ260, S258, k259, L261⟩ := S0.blk e257 τ0 1
  intro R1 hR1
  have hgo : ∀ (d266 : Nat) (c2 : C) (x3 : Int) (l264 : List Int) (m4 : M) (τ263 : Nat → Nat), St (Fm.of m) f f m4 → Lb (Fm.of m) f τ263 m4 1 m.nxt 6 [(.int .i64 (0 : Int)), (.bool false), (.int .i64 (0 : Int)), .sl0, .sl0, .sl0] → Ow (Fm.of m) f τ263 m4 2 c2 l264 → prOf_L0 l day d266 l264 x3 = some rz → R1 [.c c2, .c (.int .i64 x3)] m4 := by
    intro d266
    induction d266 with
    | zero => intro c2 x3 l264 m4 τ263 S262 L261 o265 hp; cases hp
    | succ d266 ihR1 =>
      intro c2 x3 l264 m4 τ263 S262 L261 o265 hp
      refine hR1 _ _ _ ?_
      rw [prOf_L0] at hp
      refine ⟨ha100.isSl, ?_⟩
      try rw [ha100.slLen]
      rw [ifB_dec]
      refine ⟨fun q267 => ?_, fun q267 => ?_⟩
      · skip
        rw [if_pos q267] at hp
        obtain ⟨v268, g269, hp⟩ := bsome hp
        obtain ⟨n5, g269i, g269l, g269⟩ := idx_some g269
        obtain ⟨c270, c272, c274, r276, h271, h273, h275⟩ := rd_Tf ha100 g269
        refine ⟨n5, g269i, (by first | exact g269l | (rw [ha100.slLen]; exact g269l)), (ha100.isPt g269 _), _, ((r276 _ S262.sub).2.1 0 _ rfl), ?_⟩
        obtain ⟨g285, hp⟩ := gd_some hp
        intro m7 e277
        obtain ⟨c281, m282, τ280, a283, S278, k279, o284⟩ := o265.app' ta73 S262 (a := v268.From) (show Rp.rep (α := Int) f _ v268.From from rfl) g285 e277
        have L286 := L261.k k279 (by decide)
        refine ⟨c281, m282, a283, ?_⟩
        obtain ⟨g287, hp⟩ := gd_some hp
        refine ⟨g287, ?_⟩
        exact ihR1 _ _ _ _ τ280 S278 L286 o284 hp
      · skip
        rw [if_neg q267] at hp
        obtain ⟨f288, S289, k290, h291⟩ := o265.freeze S262
        have L292 := L261.k k290 (by decide)
        obtain ⟨r293, g294, hp⟩ := bsome hp
        refine s_rLast (l := l264) (n := day) S289.pre h291 g294 fun m11 e297 => ?_
        obtain ⟨S295, k296⟩ := S289.call e297 τ263
        have L298 := L292.k k296 (by decide)
        have o299 := o265.k k296.old (by decide)
        refine ⟨_, rfl, ?_⟩
        obtain ⟨v300, g301, hp⟩ := bsome hp
        obtain ⟨n13, g301i, g301l, g301⟩ := idx_some g301
        obtain ⟨c302, c304, c306, r308, h303, h305, h307⟩ := rd_Tf ha100 g301
        refine ⟨n13, g301i, (by first | exact g301l | (rw [ha100.slLen]; exact g301l)), _, _, _, _, _, _, (r308 _ (Sub.trans k290.fs S295.sub)).1, ?_⟩
        obtain ⟨m312, e311, S309, k310, L313⟩ := L298.sto S295 [(.int .i64 v300.From), (.bool v300.Whole), (.int .i64 v300.Least), c302, c304, c306]
        have o314 := o299.k k310.old (by decide)
        refine ⟨m312, e311, ?_⟩
        refine ⟨_, _, _, _, _, _, L313.bk.ra, ?_⟩
        obtain rfl := Option.some.inj hp
        exact hq _ f288 c302 c304 c306 S309.grw (h303.sub k290.fs) (h305.sub k290.fs) (h307.sub k290.fs)
  exact hgo _ _ _ _ _ τ260 S258 L261 (Ow.nil _ _ _ _ _) hp
theorem s_rLoss {t : Tf} {crop : Int} {day : Int} {count : Int} {ca103 ca104 ca105 : C} {m f : M} {Q : V → M → Prop} {rz : Int} (hS : Pre f m) (ha103 : Sl f ca103 t.Weeks) (ha104 : Sl f ca104 t.Counts) (ha105 : Sl f ca105 t.Rates) (hp : prLoss t crop day count = some rz) (hq : ∀ m', Ext m m' → Q (.c (.int .i64 rz)) m') : Wc prog tbl 62 [.agg 6 [(.int .i64 t.From), (.bool t.Whole), (.int .i64 t.Least), ca103, ca104, ca105], .c (.int .i64 crop), .c (.int .i64 day), .c (.int .i64 count)] m Q := by
  have S0 := hS.st
  obtain ⟨τ0, _⟩ : ∃ τ : Nat → Nat, True := ⟨fun _ => 0, trivial⟩
  refine w62 ?_
  unfold prLoss at hp
  intro m0 e315
  obtain ⟨τ318, S316, k317, L319⟩ := S0.blk e315 τ0 1
  refine ⟨trivial, _, L319.bk.rc rfl, ?_⟩
  obtain ⟨v320, g321, hp⟩ := bsome hp
  obtain ⟨n2, g321i, g321l, g321⟩ := idx_some g321
  obtain ⟨c322, r323, h324⟩ := ha105.rdS g321
  refine ⟨n2, g321i, (by first | exact g321l | (rw [ha105.slLen]; exact g321l)), _, (r323 _ S316.sub), trivial, _, L319.bk.rc rfl, ?_⟩
  obtain ⟨r325, g326, hp⟩ := bsome hp
  refine s_rLast (l := t.Weeks) (n := day) S316.pre ha103 g326 fun m6 e329 => ?_
  obtain ⟨S327, k328⟩ := S316.call e329 τ318
  have L330 := L319.k k328 (by decide)
  refine ⟨_, rfl, (by rw [show noFnC _ = true from h324.noFn]; exact (r323 _ S327.sub)), (by rw [show noFnC _ = true from ha105.noFn]; exact (L330.bk.rc rfl)), ?_⟩
  obtain ⟨v331, g332, hp⟩ := bsome hp
  obtain ⟨n8, g332i, g332l, g332⟩ := idx_some g332
  obtain ⟨c333, r334, h335⟩ := h324.rdS g332
  refine ⟨n8, g332i, (by first | exact g332l | (rw [h324.slLen]; exact g332l)), _, (r334 _ S327.sub), trivial, _, L330.bk.rc rfl, ?_⟩
  obtain ⟨r336, g337, hp⟩ := bsome hp
  refine s_rLast (l := t.Counts) (n := count) S327.pre ha104 g337 fun m12 e340 => ?_
  obtain ⟨S338, k339⟩ := S327.call e340 τ318
  have L341 := L330.k k339 (by decide)
  refine ⟨_, rfl, trivial, _, L341.bk.rc rfl, ?_⟩
  obtain ⟨x342, g343, hp⟩ := bsome hp
  obtain ⟨n15, g343i, g343l, g343⟩ := idx_some g343
  refine ⟨n15, g343i, (by first | exact g343l | (rw [ha104.slLen]; exact g343l)), _, (ha104.rdI g343 S338.sub), ?_⟩
  rw [ifB_dec]
  refine ⟨fun q344 => ?_, fun q344 => ?_⟩
  · skip
    rw [if_pos q344] at hp
    obtain ⟨x345, g346, hp⟩ := bsome hp
    obtain ⟨n17, g346i, g346l, g346⟩ := idx_some g346
    refine ⟨n17, g346i, (by first | exact g346l | (rw [h335.slLen]; exact g346l)), _, (h335.rdI g346 S338.sub), ?_⟩
    obtain rfl := Option.some.inj hp
    exact hq _ S338.ext'
  · skip
    rw [if_neg q344] at hp
    refine ⟨trivial, _, L341.bk.rc rfl, ?_⟩
    obtain ⟨g347, hp⟩ := gd_some hp
    refine ⟨g347, ?_⟩
    obtain ⟨x348, g349, hp⟩ := bsome hp
    obtain ⟨n20, g349i, g349l, g349⟩ := idx_some g349
    refine ⟨n20, g349i, (by first | exact g349l | (rw [ha104.slLen]; exact g349l)), _, (ha104.rdI g349 S338.sub), ?_⟩
    obtain ⟨x350, g351, hp⟩ := bsome hp
    obtain ⟨n22, g351i, g351l, g351⟩ := idx_some g351
    refine ⟨n22, g351i, (by first | exact g351l | (rw [h335.slLen]; exact g351l)), _, (h335.rdI g351 S338.sub), ?_⟩
    obtain ⟨g352, hp⟩ := gd_some hp
    refine ⟨g352, ?_⟩
    obtain ⟨g353, hp⟩ := gd_some hp
    refine ⟨g353, ?_⟩
    obtain ⟨g354, hp⟩ := gd_some hp
    refine ⟨g354, ?_⟩
    obtain ⟨g355, hp⟩ := gd_some hp
    refine ⟨g355, ?_⟩
    obtain ⟨g356, hp⟩ := gd_some hp
    refine ⟨g356, ?_⟩
    obtain ⟨x357, g358, hp⟩ := bsome hp
    obtain ⟨n24, g358i, g358l, g358⟩ := idx_some g358
    refine ⟨n24, g358i, (by first | exact g358l | (rw [h335.slLen]; exact g358l)), _, (h335.rdI g358 S338.sub), ?_⟩
    obtain ⟨g359, hp⟩ := gd_some hp
    refine ⟨g359, ?_⟩
    obtain ⟨g360, hp⟩ := gd_some hp
    refine ⟨g360, ?_⟩
    obtain ⟨g361, hp⟩ := gd_some hp
    refine ⟨g361, ?_⟩
    obtain ⟨g362, hp⟩ := gd_some hp
    refine ⟨g362, ?_⟩
    obtain ⟨g363, hp⟩ := gd_some hp
    refine ⟨g363, ?_⟩
    obtain ⟨g364, hp⟩ := gd_some hp
    refine ⟨g364, ?_⟩
    obtain ⟨g365, hp⟩ := gd_some hp
    refine ⟨g365, ?_⟩
    obtain ⟨g366, hp⟩ := gd_some hp
    refine ⟨g366, ?_⟩
    obtain ⟨g367, hp⟩ := gd_some hp
    refine ⟨g367, ?_⟩
    obtain rfl := Option.some.inj hp
    exact hq _ S338.ext'
theorem s_rPart {l : List Tf} {crop : Int} {day : Int} {count : Int} {ca100 : C} {m f : M} {Q : V → M → Prop} {rz : Int} (hS : Pre f m) (ha100 : Sl f ca100 l) (hp : prPart l crop day count = some rz) (hq : ∀ m', Ext m m' → Q (.c (.int .i64 rz)) m') : Wc prog tbl 24 [.c ca100, .c (.int .i64 crop), .c (.int .i64 day), .c (.int .i64 count)] m Q := by
  have S0 := hS.st
  obtain ⟨τ0, _⟩ : ∃ τ : Nat → Nat, True := ⟨fun _ => 0, trivial⟩
  refine w24 ?_
  unfold prPart at hp
  obtain ⟨r368, g369, hp⟩ := bsome hp
  refine s_rOf (l := l) (day := day) S0.pre ha100 g369 fun m1 f373 c374 c376 c378 e372 h375 h377 h379 => ?_
  obtain ⟨S370, k371⟩ := S0.callG e372 τ0
  refine ⟨_, _, _, _, _, _, rfl, ?_⟩
  intro m8 e380
  obtain ⟨τ383, S381, k382, L384⟩ := S370.blk e380 τ0 1
  obtain ⟨m388, e387, S385, k386, L389⟩ := L384.sto S381 [(.int .i64 r368.From), (.bool r368.Whole), (.int .i64 r368.Least), c374, c376, c378]
  refine ⟨m388, e387, ?_⟩
  refine ⟨_, _, _, _, _, _, L389.bk.ra, ?_⟩
  obtain ⟨r390, g391, hp⟩ := bsome hp
  refine s_rLoss (t := r368) (crop := crop) (day := day) (count := count) S385.pre h375 h377 h379 g391 fun m17 e394 => ?_
  obtain ⟨S392, k393⟩ := S385.call e394 τ383
  have L395 := L389.k k393 (by decide)
  refine ⟨_, rfl, trivial, _, L395.bk.rc rfl, ?_⟩
  rw [ifB_dec]
  refine ⟨fun q396 => ?_, fun q396 => ?_⟩
  · skip
    rw [if_pos q396] at hp
    obtain rfl := Option.some.inj hp
    exact hq _ S392.ext'
  · skip
    rw [if_neg q396] at hp
    refine ⟨trivial, _, L395.bk.rc rfl, ?_⟩
    rw [ifB_iff]
    refine ⟨fun q397 => ?_, fun q397 => ?_⟩
    · skip
      rw [if_pos q397] at hp
      obtain rfl := Option.some.inj hp
      exact hq _ S392.ext'
    · skip
      rw [bif_neg q397] at hp
      refine ⟨trivial, _, L395.bk.rc rfl, ?_⟩
      obtain ⟨g398, hp⟩ := gd_some hp
      refine ⟨g398, ?_⟩
      obtain rfl := Option.some.inj hp
      exact hq _ S392.ext'
theorem s_rCrops {l : List Tf} {ca100 : C} {m f : M} {Q : V → M → Prop} {rz : Int} (hS : Pre f m) (ha100 : Sl f ca100 l) (hp : prCrops l = some rz) (hq : ∀ m', Ext m m' → Q (.c (.int .i64 rz)) m') : Wc prog tbl 23 [.c ca100] m Q := by
  have S0 := hS.st
  obtain ⟨τ0, _⟩ : ∃ τ : Nat → Nat, True := ⟨fun _ => 0, trivial⟩
  refine w23 ?_
  unfold prCrops at hp
  obtain ⟨v399, g400, hp⟩ := bsome hp
  obtain ⟨n0, g400i, g400l, g400⟩ := idx_some g400
  obtain ⟨c401, c403, c405, r407, h402, h404, h406⟩ := rd_Tf ha100 g400
  refine ⟨n0, g400i, (by first | exact g400l | (rw [ha100.slLen]; exact g400l)), (ha100.isPt g400 _), _, ((r407 _ S0.sub).2.1 5 _ rfl), h406.isSl, ?_⟩
  try rw [h406.slLen]
  obtain rfl := Option.some.inj hp
  exact hq _ S0.ext'
theorem s_rIsClaim {l : List Tf} {c : Clm} {ca100 : C} {m f : M} {Q : V → M → Prop} {rz : Bool} (hS : Pre f m) (ha100 : Sl f ca100 l) (hp : prIsClaim l c = some rz) (hq : ∀ m', Ext m m' → Q (.c (.bool rz)) m') : Wc prog tbl 66 [.c ca100, .agg 6 [(.int .i64 c.Crop), (.int .i64 c.Value), (.int .i64 c.Day.Lo), (.int .i64 c.Day.Hi), (.int .i64 c.Count.Lo), (.int .i64 c.Count.Hi)]] m Q := by
  have S0 := hS.st
  obtain ⟨τ0, _⟩ : ∃ τ : Nat → Nat, True := ⟨fun _ => 0, trivial⟩
  refine w66 ?_
  unfold prIsClaim at hp
  intro m0 e408
  obtain ⟨τ411, S409, k410, L412⟩ := S0.blk e408 τ0 1
  refine ⟨trivial, _, L412.bk.rc rfl, ?_⟩
  obtain ⟨r413, g414, hp⟩ := bsome hp
  refine s_rCrops (l := l) S409.pre ha100 g414 fun m3 e417 => ?_
  obtain ⟨S415, k416⟩ := S409.call e417 τ411
  have L418 := L412.k k416 (by decide)
  refine ⟨_, rfl, (L418.bk.rc rfl), ?_⟩
  obtain ⟨g419, hp⟩ := gd_some hp
  refine ⟨g419, ?_⟩
  obtain ⟨r420, g421, hp⟩ := bsome hp
  refine s_rIn (n := c.Crop) (low := (0 : Int)) (high := (r413 - (1 : Int))) S415.pre  g421 fun m6 e424 => ?_
  obtain ⟨S422, k423⟩ := S415.call e424 τ411
  have L425 := L418.k k423 (by decide)
  refine ⟨_, rfl, ?_⟩
  rw [ifB_iff]
  refine ⟨fun q426 => ?_, fun q426 => ?_⟩
  · skip
    rw [if_pos q426] at hp
    refine ⟨trivial, _, L425.bk.rc rfl, ?_⟩
    obtain ⟨r427, g428, hp⟩ := bsome hp
    refine s_rIn (n := c.Value) (low := (0 : Int)) (high := (100000 : Int)) S422.pre  g428 fun m10 e431 => ?_
    obtain ⟨S429, k430⟩ := S422.call e431 τ411
    have L432 := L425.k k430 (by decide)
    refine ⟨_, rfl, ?_⟩
    rw [ifB_iff]
    refine ⟨fun q433 => ?_, fun q433 => ?_⟩
    · skip
      rw [if_pos q433] at hp
      refine ⟨trivial, trivial, _, L432.bk.rc rfl, ?_⟩
      rw [ifB_dec]
      refine ⟨fun q434 => ?_, fun q434 => ?_⟩
      · skip
        rw [if_pos q434] at hp
        refine ⟨trivial, trivial, _, L432.bk.rc rfl, trivial, trivial, _, L432.bk.rc rfl, ?_⟩
        rw [ifB_dec]
        refine ⟨fun q435 => ?_, fun q435 => ?_⟩
        · skip
          rw [if_pos q435] at hp
          refine ⟨trivial, trivial, _, L432.bk.rc rfl, ?_⟩
          rw [ifB_dec]
          refine ⟨fun q436 => ?_, fun q436 => ?_⟩
          · skip
            rw [if_pos q436] at hp
            refine ⟨trivial, trivial, _, L432.bk.rc rfl, trivial, trivial, _, L432.bk.rc rfl, ?_⟩
            obtain ⟨g437, hp⟩ := gd_some hp
            refine ⟨g437, ?_⟩
            rw [ifB_dec]
            refine ⟨fun q438 => ?_, fun q438 => ?_⟩
            · skip
              rw [if_pos q438] at hp
              refine ⟨trivial, trivial, _, L432.bk.rc rfl, ?_⟩
              rw [ifB_dec]
              refine ⟨fun q439 => ?_, fun q439 => ?_⟩
              · skip
                rw [if_pos q439] at hp
                refine ⟨trivial, trivial, _, L432.bk.rc rfl, trivial, trivial, _, L432.bk.rc rfl, ?_⟩
                rw [ifB_dec]
                refine ⟨fun q440 => ?_, fun q440 => ?_⟩
                · skip
                  rw [if_pos q440] at hp
                  refine ⟨trivial, trivial, _, L432.bk.rc rfl, ?_⟩
                  obtain rfl := Option.some.inj hp
                  exact hq _ S429.ext'
                · skip
                  rw [if_neg q440] at hp
                  obtain rfl := Option.some.inj hp
                  exact hq _ S429.ext'
              · skip
                rw [if_neg q439] at hp
                obtain rfl := Option.some.inj hp
                exact hq _ S429.ext'
            · skip
              rw [if_neg q438] at hp
              obtain rfl := Option.some.inj hp
              exact hq _ S429.ext'
          · skip
            rw [if_neg q436] at hp
            obtain rfl := Option.some.inj hp
            exact hq _ S429.ext'
        · skip
          rw [if_neg q435] at hp
          obtain rfl := Option.some.inj hp
          exact hq _ S429.ext'
      · skip
        rw [if_neg q434] at hp
        obtain rfl := Option.some.inj hp
        exact hq _ S429.ext'
    · skip
      rw [bif_neg q433] at hp
      obtain rfl := Option.some.inj hp
      exact hq _ S429.ext'
  · skip
    rw [bif_neg q426] at hp
    obtain rfl := Option.some.inj hp
    exact hq _ S422.ext'
theorem s_rPay {l : List Tf} {c : Clm} {t : Tr} {ca100 : C} {m f : M} {Q : V → M → Prop} {rz : Int} (hS : Pre f m) (ha100 : Sl f ca100 l) (hp : prPay l c t = some rz) (hq : ∀ m', Ext m m' → Q (.c (.int .i64 rz)) m') : Wc prog tbl 31 [.c ca100, .agg 6 [(.int .i64 c.Crop), (.int .i64 c.Value), (.int .i64 c.Day.Lo), (.int .i64 c.Day.Hi), (.int .i64 c.Count.Lo), (.int .i64 c.Count.Hi)], .agg 2 [(.int .i64 t.Day), (.int .i64 t.Count)]] m Q := by
  have S0 := hS.st
  obtain ⟨τ0, _⟩ : ∃ τ : Nat → Nat, True := ⟨fun _ => 0, trivial⟩
  refine w31 ?_
  unfold prPay at hp
  intro m0 e467
  obtain ⟨τ470, S468, k469, L471⟩ := S0.blk e467 τ0 1
  intro m1 e472
  obtain ⟨τ475, S473, k474, L476⟩ := S468.blk e472 τ470 2
  have L477 := L471.k k474 (by decide)
  refine ⟨trivial, _, L477.bk.rc rfl, trivial, _, L477.bk.rc rfl, trivial, _, L476.bk.rc rfl, trivial, _, L476.bk.rc rfl, ?_⟩
  obtain ⟨r478, g479, hp⟩ := bsome hp
  refine s_rPart (l := l) (crop := c.Crop) (day := t.Day) (count := t.Count) S473.pre ha100 g479 fun m7 e482 => ?_
  obtain ⟨S480, k481⟩ := S473.call e482 τ475
  have L483 := L477.k k481 (by decide)
  have L484 := L476.k k481 (by decide)
  refine ⟨_, rfl, (L483.bk.rc rfl), ?_⟩
  obtain ⟨g485, hp⟩ := gd_some hp
  refine ⟨g485, ?_⟩
  obtain ⟨g486, hp⟩ := gd_some hp
  refine ⟨g486, ?_⟩
  obtain ⟨g487, hp⟩ := gd_some hp
  refine ⟨g487, ?_⟩
  obtain ⟨g488, hp⟩ := gd_some hp
  refine ⟨g488, ?_⟩
  obtain ⟨g489, hp⟩ := gd_some hp
  refine ⟨g489, ?_⟩
  obtain ⟨g490, hp⟩ := gd_some hp
  refine ⟨g490, ?_⟩
  obtain rfl := Option.some.inj hp
  exact hq _ S480.ext'
theorem s_rBounds {l : List Tf} {c : Clm} {ca100 : C} {m f : M} {Q : V → M → Prop} {rz : Rg × Tr × Tr} (hS : Pre f m) (ha100 : Sl f ca100 l) (hp : prBounds l c = some rz) (hq : ∀ m', Ext m m' → Q (.tup [.agg 2 [(.int .i64 rz.1.Lo), (.int .i64 rz.1.Hi)], .agg 2 [(.int .i64 rz.2.1.Day), (.int .i64 rz.2.1.Count)], .agg 2 [(.int .i64 rz.2.2.Day), (.int .i64 rz.2.2.Count)]]) m') : Wc prog tbl 35 [.c ca100, .agg 6 [(.int .i64 c.Crop), (.int .i64 c.Value), (.int .i64 c.Day.Lo), (.int .i64 c.Day.Hi), (.int .i64 c.Count.Lo), (.int .i64 c.Count.Hi)]] m Q := by
  have S0 := hS.st
  obtain ⟨τ0, _⟩ : ∃ τ : Nat → Nat, True := ⟨fun _ => 0, trivial⟩
  refine w35 ?_
  unfold prBounds at hp
  intro m0 e491
  obtain ⟨τ494, S492, k493, L495⟩ := S0.blk e491 τ0 1
  intro m1 e496
  obtain ⟨τ499, S497, k498, L500⟩ := S492.blk e496 τ494 2
  have L501 := L495.k k498 (by decide)
  intro m2 e502
  obtain ⟨τ505, S503, k504, L506⟩ := S497.blk e502 τ499 3
  have L507 := L501.k k504 (by decide)
  have L508 := L500.k k504 (by decide)
  intro m3 e509
  obtain ⟨τ512, S510, k511, L513⟩ := S503.blk e509 τ505 4
  have L514 := L507.k k511 (by decide)
  have L515 := L508.k k511 (by decide)
  have L516 := L506.k k511 (by decide)
  intro m4 e517
  obtain ⟨τ520, S518, k519, L521⟩ := S510.blk e517 τ512 5
  have L522 := L514.k k519 (by decide)
  have L523 := L515.k k519 (by decide)
  have L524 := L516.k k519 (by decide)
  have L525 := L513.k k519 (by decide)
  obtain ⟨m529, e528, S526, k527, L530⟩ := L521.sto S518 [(.int .i64 (1099511627776 : Int)), (.int .i64 (-1 : Int))]
  have L531 := L522.k k527 (by decide)
  have L532 := L523.k k527 (by decide)
  have L533 := L524.k k527 (by decide)
  have L534 := L525.k k527 (by decide)
  refine ⟨m529, e528, ?_⟩
  intro m6 e535
  obtain ⟨τ538, S536, k537, L539⟩ := S526.blk e535 τ520 6
  have L540 := L531.k k537 (by decide)
  have L541 := L532.k k537 (by decide)
  have L542 := L533.k k537 (by decide)
  have L543 := L534.k k537 (by decide)
  have L544 := L530.k k537 (by decide)
  intro m7 e545
  obtain ⟨τ548, S546, k547, L549⟩ := S536.blk e545 τ538 7
  have L550 := L540.k k547 (by decide)
  have L551 := L541.k k547 (by decide)
  have L552 := L542.k k547 (by decide)
  have L553 := L543.k k547 (by decide)
  have L554 := L544.k k547 (by decide)
  have L555 := L539.k k547 (by decide)
  refine ⟨trivial, trivial, _, L550.bk.rc rfl, ?_⟩
  intro R9 hR9
  have hgo : ∀ (d564 : Nat) (x10 : Int) (y558 : Int) (y559 : Int) (y560 : Int) (y561 : Int) (y562 : Int) (y563 : Int) (m11 : M) (τ557 : Nat → Nat), St (Fm.of m) f f m11 → Lb (Fm.of m) f τ557 m11 1 m.nxt 6 [(.int .i64 c.Crop), (.int .i64 c.Value), (.int .i64 c.Day.Lo), (.int .i64 c.Day.Hi), (.int .i64 c.Count.Lo), (.int .i64 c.Count.Hi)] → Lb (Fm.of m) f τ557 m11 2 m0.nxt 2 [(.int .i64 (0 : Int)), (.int .i64 (0 : Int))] → Lb (Fm.of m) f τ557 m11 3 m1.nxt 2 [(.int .i64 (0 : Int)), (.int .i64 (0 : Int))] → Lb (Fm.of m) f τ557 m11 4 m2.nxt 2 [(.int .i64 (0 : Int)), (.int .i64 (0 : Int))] → Lb (Fm.of m) f τ557 m11 5 m3.nxt 2 [(.int .i64 y558), (.int .i64 y559)] → Lb (Fm.of m) f τ557 m11 6 m529.nxt 2 [(.int .i64 y560), (.int .i64 y561)] → Lb (Fm.of m) f τ557 m11 7 m6.nxt 2 [(.int .i64 y562), (.int .i64 y563)] → prBounds_L0 l c d564 y558 y559 y560 y561 y562 y563 x10 = some rz → R9 [.c (.int .i64 x10)] m11 := by
    intro d564
    induction d564 with
    | zero => intro x10 y558 y559 y560 y561 y562 y563 m11 τ557 S556 L550 L551 L552 L553 L554 L555 L549 hp; cases hp
    | succ d564 ihR9 =>
      intro x10 y558 y559 y560 y561 y562 y563 m11 τ557 S556 L550 L551 L552 L553 L554 L555 L549 hp
      refine hR9 _ _ ?_
      rw [prBounds_L0] at hp
      refine ⟨trivial, trivial, _, L550.bk.rc rfl, ?_⟩
      rw [ifB_dec]
      refine ⟨fun q565 => ?_, fun q565 => ?_⟩
      · skip
        rw [if_pos q565] at hp
        refine ⟨trivial, trivial, _, L550.bk.rc rfl, ?_⟩
        intro R14 hR14
        have hgo : ∀ (d574 : Nat) (x15 : Int) (y568 : Int) (y569 : Int) (y570 : Int) (y571 : Int) (y572 : Int) (y573 : Int) (m16 : M) (τ567 : Nat → Nat), St (Fm.of m) f f m16 → Lb (Fm.of m) f τ567 m16 1 m.nxt 6 [(.int .i64 c.Crop), (.int .i64 c.Value), (.int .i64 c.Day.Lo), (.int .i64 c.Day.Hi), (.int .i64 c.Count.Lo), (.int .i64 c.Count.Hi)] → Lb (Fm.of m) f τ567 m16 2 m0.nxt 2 [(.int .i64 (0 : Int)), (.int .i64 (0 : Int))] → Lb (Fm.of m) f τ567 m16 3 m1.nxt 2 [(.int .i64 (0 : Int)), (.int .i64 (0 : Int))] → Lb (Fm.of m) f τ567 m16 4 m2.nxt 2 [(.int .i64 (0 : Int)), (.int .i64 (0 : Int))] → Lb (Fm.of m) f τ567 m16 5 m3.nxt 2 [(.int .i64 y568), (.int .i64 y569)] → Lb (Fm.of m) f τ567 m16 6 m529.nxt 2 [(.int .i64 y570), (.int .i64 y571)] → Lb (Fm.of m) f τ567 m16 7 m6.nxt 2 [(.int .i64 y572), (.int .i64 y573)] → prBounds_L1 l c x10 (prBounds_L0 l c d564) d574 y568 y569 y570 y571 y572 y573 x15 = some rz → R14 [.c (.int .i64 x15)] m16 := by
          intro d574
          induction d574 with
          | zero => intro x15 y568 y569 y570 y571 y572 y573 m16 τ567 S566 L550 L551 L552 L553 L554 L555 L549 hp; cases hp
          | succ d574 ihR14 =>
            intro x15 y568 y569 y570 y571 y572 y573 m16 τ567 S566 L550 L551 L552 L553 L554 L555 L549 hp
            refine hR14 _ _ ?_
            rw [prBounds_L1] at hp
            refine ⟨trivial, trivial, _, L550.bk.rc rfl, ?_⟩
            rw [ifB_dec]
            refine ⟨fun q575 => ?_, fun q575 => ?_⟩
            · skip
              rw [if_pos q575] at hp
              intro m18 e576
              obtain ⟨τ579, S577, k578, L580⟩ := S566.blk e576 τ567 8
              have L581 := L550.k k578 (by decide)
              have L582 := L551.k k578 (by decide)
              have L583 := L552.k k578 (by decide)
              have L584 := L553.k k578 (by decide)
              have L585 := L554.k k578 (by decide)
              have L586 := L555.k k578 (by decide)
              have L587 := L549.k k578 (by decide)
              obtain ⟨m591, e590, S588, k589, L592⟩ := L580.sto S577 [(.int .i64 x10), (.int .i64 x15)]
              have L593 := L581.k k589 (by decide)
              have L594 := L582.k k589 (by decide)
              have L595 := L583.k k589 (by decide)
              have L596 := L584.k k589 (by decide)
              have L597 := L585.k k589 (by decide)
              have L598 := L586.k k589 (by decide)
              have L599 := L587.k k589 (by decide)
              refine ⟨m591, e590, ?_⟩
              refine ⟨_, _, _, _, _, _, L593.bk.ra, _, _, L592.bk.ra, ?_⟩
              obtain ⟨r600, g601, hp⟩ := bsome hp
              refine s_rPay (l := l) (c := c) (t := ({ Day := x10, Count := x15 } : Tr)) S588.pre ha100 g601 fun m29 e604 => ?_
              obtain ⟨S602, k603⟩ := S588.call e604 τ579
              have L605 := L593.k k603 (by decide)
              have L606 := L594.k k603 (by decide)
              have L607 := L595.k k603 (by decide)
              have L608 := L596.k k603 (by decide)
              have L609 := L597.k k603 (by decide)
              have L610 := L598.k k603 (by decide)
              have L611 := L599.k k603 (by decide)
              have L612 := L592.k k603 (by decide)
              refine ⟨_, rfl, trivial, _, L609.bk.rc rfl, ?_⟩
              rw [ifB_dec]
              refine ⟨fun q613 => ?_, fun q613 => ?_⟩
              · skip
                rw [if_pos q613] at hp
                refine ⟨_, _, L612.bk.ra, trivial, ?_⟩
                obtain ⟨m617, e616, S614, k615, L618⟩ := L609.sto1 S602 0 (.int .i64 r600) (by simp) rfl
                replace L618 : Lb _ _ _ _ _ _ _ [(.int .i64 r600), (.int .i64 y569)] := L618
                have L619 := L605.k k615 (by decide)
                have L620 := L606.k k615 (by decide)
                have L621 := L607.k k615 (by decide)
                have L622 := L608.k k615 (by decide)
                have L623 := L610.k k615 (by decide)
                have L624 := L611.k k615 (by decide)
                have L625 := L612.k k615 (by decide)
                refine ⟨m617, e616, ?_⟩
                refine ⟨(L625.bk.ra), ?_⟩
                obtain ⟨m629, e628, S626, k627, L630⟩ := L623.sto S614 [(.int .i64 x10), (.int .i64 x15)]
                have L631 := L619.k k627 (by decide)
                have L632 := L620.k k627 (by decide)
                have L633 := L621.k k627 (by decide)
                have L634 := L622.k k627 (by decide)
                have L635 := L618.k k627 (by decide)
                have L636 := L624.k k627 (by decide)
                have L637 := L625.k k627 (by decide)
                refine ⟨m629, e628, ?_⟩
                refine ⟨trivial, _, L635.bk.rc rfl, ?_⟩
                rw [ifB_dec]
                refine ⟨fun q638 => ?_, fun q638 => ?_⟩
                · skip
                  rw [if_pos q638] at hp
                  refine ⟨_, _, L637.bk.ra, trivial, ?_⟩
                  obtain ⟨m642, e641, S639, k640, L643⟩ := L635.sto1 S626 1 (.int .i64 r600) (by simp) rfl
                  replace L643 : Lb _ _ _ _ _ _ _ [(.int .i64 r600), (.int .i64 r600)] := L643
                  have L644 := L631.k k640 (by decide)
                  have L645 := L632.k k640 (by decide)
                  have L646 := L633.k k640 (by decide)
                  have L647 := L634.k k640 (by decide)
                  have L648 := L630.k k640 (by decide)
                  have L649 := L636.k k640 (by decide)
                  have L650 := L637.k k640 (by decide)
                  refine ⟨m642, e641, ?_⟩
                  refine ⟨(L650.bk.ra), ?_⟩
                  obtain ⟨m654, e653, S651, k652, L655⟩ := L649.sto S639 [(.int .i64 x10), (.int .i64 x15)]
                  have L656 := L644.k k652 (by decide)
                  have L657 := L645.k k652 (by decide)
                  have L658 := L646.k k652 (by decide)
                  have L659 := L647.k k652 (by decide)
                  have L660 := L643.k k652 (by decide)
                  have L661 := L648.k k652 (by decide)
                  have L662 := L650.k k652 (by decide)
                  refine ⟨m654, e653, ?_⟩
                  obtain ⟨g663, hp⟩ := gd_some hp
                  refine ⟨g663, ?_⟩
                  exact ihR14 _ _ _ _ _ _ _ _ τ579 S651 L656 L657 L658 L659 L660 L661 L655 hp
                · skip
                  rw [if_neg q638] at hp
                  obtain ⟨g664, hp⟩ := gd_some hp
                  refine ⟨g664, ?_⟩
                  exact ihR14 _ _ _ _ _ _ _ _ τ579 S626 L631 L632 L633 L634 L635 L630 L636 hp
              · skip
                rw [if_neg q613] at hp
                refine ⟨trivial, _, L609.bk.rc rfl, ?_⟩
                rw [ifB_dec]
                refine ⟨fun q665 => ?_, fun q665 => ?_⟩
                · skip
                  rw [if_pos q665] at hp
                  refine ⟨_, _, L612.bk.ra, trivial, ?_⟩
                  obtain ⟨m669, e668, S666, k667, L670⟩ := L609.sto1 S602 1 (.int .i64 r600) (by simp) rfl
                  replace L670 : Lb _ _ _ _ _ _ _ [(.int .i64 y568), (.int .i64 r600)] := L670
                  have L671 := L605.k k667 (by decide)
                  have L672 := L606.k k667 (by decide)
                  have L673 := L607.k k667 (by decide)
                  have L674 := L608.k k667 (by decide)
                  have L675 := L610.k k667 (by decide)
                  have L676 := L611.k k667 (by decide)
                  have L677 := L612.k k667 (by decide)
                  refine ⟨m669, e668, ?_⟩
                  refine ⟨(L677.bk.ra), ?_⟩
                  obtain ⟨m681, e680, S678, k679, L682⟩ := L676.sto S666 [(.int .i64 x10), (.int .i64 x15)]
                  have L683 := L671.k k679 (by decide)
                  have L684 := L672.k k679 (by decide)
                  have L685 := L673.k k679 (by decide)
                  have L686 := L674.k k679 (by decide)
                  have L687 := L670.k k679 (by decide)
                  have L688 := L675.k k679 (by decide)
                  have L689 := L677.k k679 (by decide)
                  refine ⟨m681, e680, ?_⟩
                  obtain ⟨g690, hp⟩ := gd_some hp
                  refine ⟨g690, ?_⟩
                  exact ihR14 _ _ _ _ _ _ _ _ τ579 S678 L683 L684 L685 L686 L687 L688 L682 hp
                · skip
                  rw [if_neg q665] at hp
                  obtain ⟨g691, hp⟩ := gd_some hp
                  refine ⟨g691, ?_⟩
                  exact ihR14 _ _ _ _ _ _ _ _ τ579 S602 L605 L606 L607 L608 L609 L610 L611 hp
            · skip
              rw [if_neg q575] at hp
              obtain ⟨g692, hp⟩ := gd_some hp
              refine ⟨g692, ?_⟩
              exact ihR9 _ _ _ _ _ _ _ _ τ567 S566 L550 L551 L552 L553 L554 L555 L549 hp
        exact hgo _ _ _ _ _ _ _ _ _ τ557 S556 L550 L551 L552 L553 L554 L555 L549 hp
      · skip
        rw [if_neg q565] at hp
        refine ⟨_, _, L554.bk.ra, _, _, L555.bk.ra, _, _, L549.bk.ra, ?_⟩
        obtain ⟨m696, e695, S693, k694, L697⟩ := L551.sto S556 [(.int .i64 y558), (.int .i64 y559)]
        have L698 := L550.k k694 (by decide)
        have L699 := L552.k k694 (by decide)
        have L700 := L553.k k694 (by decide)
        have L701 := L554.k k694 (by decide)
        have L702 := L555.k k694 (by decide)
        have L703 := L549.k k694 (by decide)
        refine ⟨m696, e695, ?_⟩
        refine ⟨(L703.bk.ra), (L702.bk.ra), ?_⟩
        obtain ⟨m707, e706, S704, k705, L708⟩ := L699.sto S693 [(.int .i64 y560), (.int .i64 y561)]
        have L709 := L698.k k705 (by decide)
        have L710 := L697.k k705 (by decide)
        have L711 := L700.k k705 (by decide)
        have L712 := L701.k k705 (by decide)
        have L713 := L702.k k705 (by decide)
        have L714 := L703.k k705 (by decide)
        refine ⟨m707, e706, ?_⟩
        refine ⟨(L714.bk.ra), ?_⟩
        obtain ⟨m718, e717, S715, k716, L719⟩ := L711.sto S704 [(.int .i64 y562), (.int .i64 y563)]
        have L720 := L709.k k716 (by decide)
        have L721 := L710.k k716 (by decide)
        have L722 := L708.k k716 (by decide)
        have L723 := L712.k k716 (by decide)
        have L724 := L713.k k716 (by decide)
        have L725 := L714.k k716 (by decide)
        refine ⟨m718, e717, ?_⟩
        refine ⟨_, _, L721.bk.ra, _, _, L722.bk.ra, _, _, L719.bk.ra, ?_⟩
        obtain rfl := Option.some.inj hp
        exact hq _ S715.ext'
  exact hgo _ _ _ _ _ _ _ _ _ τ548 S546 L550 L551 L552 L553 L554 L555 L549 hp
theorem s_rVerdict {r : Rg} {m f : M} {Q : V → M → Prop} {rz : Int} (hS : Pre f m)  (hp : prVerdict r = some rz) (hq : ∀ m', Ext m m' → Q (.c (.int .i64 rz)) m') : Wc prog tbl 37 [.agg 2 [(.int .i64 r.Lo), (.int .i64 r.Hi)]] m Q := by
  have S0 := hS.st
  obtain ⟨τ0, _⟩ : ∃ τ : Nat → Nat, True := ⟨fun _ => 0, trivial⟩
  refine w37 ?_
  unfold prVerdict at hp
  intro m0 e726
  obtain ⟨τ729, S727, k728, L730⟩ := S0.blk e726 τ0 1
  refine ⟨trivial, _, L730.bk.rc rfl, ?_⟩
  rw [ifB_dec]
  refine ⟨fun q731 => ?_, fun q731 => ?_⟩
  · skip
    rw [if_pos q731] at hp
    obtain rfl := Option.some.inj hp
    exact hq _ S727.ext'
  · skip
    rw [if_neg q731] at hp
    refine ⟨trivial, _, L730.bk.rc rfl, ?_⟩
    rw [ifB_dec]
    refine ⟨fun q732 => ?_, fun q732 => ?_⟩
    · skip
      rw [if_pos q732] at hp
      obtain rfl := Option.some.inj hp
      exact hq _ S727.ext'
    · skip
      rw [if_neg q732] at hp
      obtain rfl := Option.some.inj hp
      exact hq _ S727.ext'
theorem s_lTo {r : Rg} {m f : M} {Q : V → M → Prop} {rz : Rg} (hS : Pre f m)  (hp : plTo r = some rz) (hq : ∀ m', Ext m m' → Q (.agg 2 [(.int .i64 rz.Lo), (.int .i64 rz.Hi)]) m') : Wc prog tbl 36 [.agg 2 [(.int .i64 r.Lo), (.int .i64 r.Hi)]] m Q := by
  have S0 := hS.st
  obtain ⟨τ0, _⟩ : ∃ τ : Nat → Nat, True := ⟨fun _ => 0, trivial⟩
  refine w36 ?_
  unfold plTo at hp
  intro m0 e778
  obtain ⟨τ781, S779, k780, L782⟩ := S0.blk e778 τ0 1
  intro m1 e783
  obtain ⟨τ786, S784, k785, L787⟩ := S779.blk e783 τ781 2
  have L788 := L782.k k785 (by decide)
  refine ⟨trivial, _, L788.bk.rc rfl, trivial, _, L788.bk.rc rfl, ?_⟩
  obtain ⟨m792, e791, S789, k790, L793⟩ := L787.sto S784 [(.int .i64 r.Lo), (.int .i64 r.Hi)]
  have L794 := L788.k k790 (by decide)
  refine ⟨m792, e791, ?_⟩
  refine ⟨_, _, L793.bk.ra, ?_⟩
  obtain rfl := Option.some.inj hp
  exact hq _ S789.ext'
theorem s_lClaim {c : Clm} {m f : M} {Q : V → M → Prop} {rz : Clm} (hS : Pre f m)  (hp : plClaim c = some rz) (hq : ∀ m', Ext m m' → Q (.agg 6 [(.int .i64 rz.Crop), (.int .i64 rz.Value), (.int .i64 rz.Day.Lo), (.int .i64 rz.Day.Hi), (.int .i64 rz.Count.Lo), (.int .i64 rz.Count.Hi)]) m') : Wc prog tbl 26 [.agg 6 [(.int .i64 c.Crop), (.int .i64 c.Value), (.int .i64 c.Day.Lo), (.int .i64 c.Day.Hi), (.int .i64 c.Count.Lo), (.int .i64 c.Count.Hi)]] m Q := by
  have S0 := hS.st
  obtain ⟨τ0, _⟩ : ∃ τ : Nat → Nat, True := ⟨fun _ => 0, trivial⟩
  refine w26 ?_
  unfold plClaim at hp
  intro m0 e795
  obtain ⟨τ798, S796, k797, L799⟩ := S0.blk e795 τ0 1
  intro m1 e800
  obtain ⟨τ803, S801, k802, L804⟩ := S796.blk e800 τ798 2
  have L805 := L799.k k802 (by decide)
  refine ⟨trivial, _, L805.bk.rc rfl, trivial, _, L805.bk.rc rfl, trivial, _, _, L805.bk.rp (k := 2) (j := 2) rfl (by omega), ?_⟩
  obtain ⟨r806, g807, hp⟩ := bsome hp
  refine s_lTo (r := c.Day) S801.pre  g807 fun m7 e810 => ?_
  obtain ⟨S808, k809⟩ := S801.call e810 τ803
  have L811 := L805.k k809 (by decide)
  have L812 := L804.k k809 (by decide)
  refine ⟨_, _, rfl, (L811.bk.rc rfl), (L811.bk.rc rfl), trivial, _, _, L811.bk.rp (k := 4) (j := 2) rfl (by omega), (L805.bk.rp (k := 4) (j := 2) rfl (by omega)), ?_⟩
  obtain ⟨r813, g814, hp⟩ := bsome hp
  refine s_lTo (r := c.Count) S808.pre  g814 fun m13 e817 => ?_
  obtain ⟨S815, k816⟩ := S808.call e817 τ803
  have L818 := L811.k k816 (by decide)
  have L819 := L812.k k816 (by decide)
  refine ⟨_, _, rfl, (L818.bk.rc rfl), (L818.bk.rc rfl), ?_⟩
  obtain ⟨m823, e822, S820, k821, L824⟩ := L819.sto S815 [(.int .i64 c.Crop), (.int .i64 c.Value), (.int .i64 r806.Lo), (.int .i64 r806.Hi), (.int .i64 r813.Lo), (.int .i64 r813.Hi)]
  have L825 := L818.k k821 (by decide)
  refine ⟨m823, e822, ?_⟩
  refine ⟨_, _, _, _, _, _, L824.bk.ra, ?_⟩
  obtain rfl := Option.some.inj hp
  exact hq _ S820.ext'
theorem s_lTruth {t : Tr} {m f : M} {Q : V → M → Prop} {rz : Tr} (hS : Pre f m)  (hp : plTruth t = some rz) (hq : ∀ m', Ext m m' → Q (.agg 2 [(.int .i64 rz.Day), (.int .i64 rz.Count)]) m') : Wc prog tbl 27 [.agg 2 [(.int .i64 t.Day), (.int .i64 t.Count)]] m Q := by
  have S0 := hS.st
  obtain ⟨τ0, _⟩ : ∃ τ : Nat → Nat, True := ⟨fun _ => 0, trivial⟩
  refine w27 ?_
  unfold plTruth at hp
  intro m0 e826
  obtain ⟨τ829, S827, k828, L830⟩ := S0.blk e826 τ0 1
  intro m1 e831
  obtain ⟨τ834, S832, k833, L835⟩ := S827.blk e831 τ829 2
  have L836 := L830.k k833 (by decide)
  refine ⟨trivial, _, L836.bk.rc rfl, trivial, _, L836.bk.rc rfl, ?_⟩
  obtain ⟨m840, e839, S837, k838, L841⟩ := L835.sto S832 [(.int .i64 t.Day), (.int .i64 t.Count)]
  have L842 := L836.k k838 (by decide)
  refine ⟨m840, e839, ?_⟩
  refine ⟨_, _, L841.bk.ra, ?_⟩
  obtain rfl := Option.some.inj hp
  exact hq _ S837.ext'
theorem s_lList {l : List Int} {ca100 : C} {m f : M} {Q : V → M → Prop} {rz : List Int} (hS : Pre f m) (ha100 : Sl f ca100 l) (hp : plList l = some rz) (hq : ∀ m' f' c0, Grw m f m' f' → Sl f' c0 rz → Q (.c c0) m') : Wc prog tbl 58 [.c ca100] m Q := by
  have S0 := hS.st
  obtain ⟨τ0, _⟩ : ∃ τ : Nat → Nat, True := ⟨fun _ => 0, trivial⟩
  refine w58 ?_
  unfold plList at hp
  intro m0 e843
  obtain ⟨τ846, S844, k845, o847⟩ := Ow.lit0 (α := Int) S0 τ0 1 e843
  obtain ⟨g855, hp⟩ := gd_some hp
  obtain ⟨c851, m852, τ850, a853, S848, k849, o854⟩ := o847.appL ta73 S844 ha100 g855
  refine ⟨c851, m852, a853, ?_⟩
  obtain ⟨f856, S857, k858, h859⟩ := o854.freeze S848
  obtain rfl := Option.some.inj hp
  exact hq _ f856 c851 S857.grw h859
theorem s_lThin {l : List Tf} {ca100 : C} {m f : M} {Q : V → M → Prop} {rz : Bool} (hS : Pre f m) (ha100 : Sl f ca100 l) (hp : plThin l = some rz) (hq : ∀ m', Ext m m' → Q (.c (.bool rz)) m') : Wc prog tbl 16 [.c ca100] m Q := by
  have S0 := hS.st
  obtain ⟨τ0, _⟩ : ∃ τ : Nat → Nat, True := ⟨fun _ => 0, trivial⟩
  refine w16 ?_
  unfold plThin at hp
  refine ⟨ha100.isSl, ?_⟩
  try rw [ha100.slLen]
  rw [ifB_dec]
  refine ⟨fun q888 => ?_, fun q888 => ?_⟩
  · skip
    rw [if_pos q888] at hp
    obtain rfl := Option.some.inj hp
    exact hq _ S0.ext'
  · skip
    rw [if_neg q888] at hp
    intro R0 hR0
    have hgo : ∀ (d891 : Nat) (b1 : Bool) (b2 : Bool) (b3 : Bool) (x4 : Int) (m5 : M) (τ890 : Nat → Nat), St (Fm.of m) f f m5 → plThin_L0 l d891 b1 x4 = some rz → R0 [.c (.bool b1), .c (.bool b2), .c (.bool b3), .c (.int .i64 x4)] m5 := by
      intro d891
      induction d891 with
      | zero => intro b1 b2 b3 x4 m5 τ890 S889 hp; cases hp
      | succ d891 ihR0 =>
        intro b1 b2 b3 x4 m5 τ890 S889 hp
        refine hR0 _ _ _ _ _ ?_
        rw [plThin_L0] at hp
        refine ⟨ha100.isSl, ?_⟩
        try rw [ha100.slLen]
        rw [ifB_dec]
        refine ⟨fun q892 => ?_, fun q892 => ?_⟩
        · skip
          rw [if_pos q892] at hp
          obtain ⟨v893, g894, hp⟩ := bsome hp
          obtain ⟨n6, g894i, g894l, g894⟩ := idx_some g894
          obtain ⟨c895, c897, c899, r901, h896, h898, h900⟩ := rd_Tf ha100 g894
          refine ⟨n6, g894i, (by first | exact g894l | (rw [ha100.slLen]; exact g894l)), (ha100.isPt g894 _), _, ((r901 _ S889.sub).2.1 3 _ rfl), h896.isSl, ?_⟩
          try rw [h896.slLen]
          rw [ifB_dec]
          refine ⟨fun q902 => ?_, fun q902 => ?_⟩
          · skip
            rw [if_pos q902] at hp
            obtain rfl := Option.some.inj hp
            exact hq _ S889.ext'
          · skip
            rw [if_neg q902] at hp
            obtain ⟨v903, g904, hp⟩ := bsome hp
            obtain ⟨n8, g904i, g904l, g904⟩ := idx_some g904
            obtain ⟨c905, c907, c909, r911, h906, h908, h910⟩ := rd_Tf ha100 g904
            refine ⟨n8, g904i, (by first | exact g904l | (rw [ha100.slLen]; exact g904l)), (ha100.isPt g904 _), _, ((r911 _ S889.sub).2.1 4 _ rfl), h908.isSl, ?_⟩
            try rw [h908.slLen]
            rw [ifB_dec]
            refine ⟨fun q912 => ?_, fun q912 => ?_⟩
            · skip
              rw [if_pos q912] at hp
              obtain rfl := Option.some.inj hp
              exact hq _ S889.ext'
            · skip
              rw [if_neg q912] at hp
              obtain ⟨v913, g914, hp⟩ := bsome hp
              obtain ⟨n10, g914i, g914l, g914⟩ := idx_some g914
              obtain ⟨c915, c917, c919, r921, h916, h918, h920⟩ := rd_Tf ha100 g914
              refine ⟨n10, g914i, (by first | exact g914l | (rw [ha100.slLen]; exact g914l)), (ha100.isPt g914 _), _, ((r921 _ S889.sub).2.1 5 _ rfl), h920.isSl, ?_⟩
              try rw [h920.slLen]
              rw [ifB_dec]
              refine ⟨fun q922 => ?_, fun q922 => ?_⟩
              · skip
                rw [if_pos q922] at hp
                obtain rfl := Option.some.inj hp
                exact hq _ S889.ext'
              · skip
                rw [if_neg q922] at hp
                intro R12 hR12
                have hgo : ∀ (d925 : Nat) (b13 : Bool) (b14 : Bool) (x15 : Int) (m16 : M) (τ924 : Nat → Nat), St (Fm.of m) f f m16 → plThin_L1 l x4 (plThin_L0 l d891) d925 b13 x15 = some rz → R12 [.c (.bool b13), .c (.bool b14), .c (.int .i64 x15)] m16 := by
                  intro d925
                  induction d925 with
                  | zero => intro b13 b14 x15 m16 τ924 S923 hp; cases hp
                  | succ d925 ihR12 =>
                    intro b13 b14 x15 m16 τ924 S923 hp
                    refine hR12 _ _ _ _ ?_
                    rw [plThin_L1] at hp
                    obtain ⟨v926, g927, hp⟩ := bsome hp
                    obtain ⟨n17, g927i, g927l, g927⟩ := idx_some g927
                    obtain ⟨c928, c930, c932, r934, h929, h931, h933⟩ := rd_Tf ha100 g927
                    refine ⟨n17, g927i, (by first | exact g927l | (rw [ha100.slLen]; exact g927l)), (ha100.isPt g927 _), _, ((r934 _ S923.sub).2.1 5 _ rfl), h933.isSl, ?_⟩
                    try rw [h933.slLen]
                    rw [ifB_dec]
                    refine ⟨fun q935 => ?_, fun q935 => ?_⟩
                    · skip
                      rw [if_pos q935] at hp
                      obtain ⟨v936, g937, hp⟩ := bsome hp
                      obtain ⟨n19, g937i, g937l, g937⟩ := idx_some g937
                      obtain ⟨c938, c940, c942, r944, h939, h941, h943⟩ := rd_Tf ha100 g937
                      refine ⟨n19, g937i, (by first | exact g937l | (rw [ha100.slLen]; exact g937l)), (ha100.isPt g937 _), _, ((r944 _ S923.sub).2.1 5 _ rfl), ?_⟩
                      obtain ⟨v945, g946, hp⟩ := bsome hp
                      obtain ⟨n21, g946i, g946l, g946⟩ := idx_some g946
                      obtain ⟨c947, r948, h949⟩ := h943.rdS g946
                      refine ⟨n21, g946i, (by first | exact g946l | (rw [h943.slLen]; exact g946l)), _, (r948 _ S923.sub), h949.isSl, ?_⟩
                      try rw [h949.slLen]
                      rw [ifB_dec]
                      refine ⟨fun q950 => ?_, fun q950 => ?_⟩
                      · skip
                        rw [if_pos q950] at hp
                        obtain rfl := Option.some.inj hp
                        exact hq _ S923.ext'
                      · skip
                        rw [if_neg q950] at hp
                        intro R23 hR23
                        have hgo : ∀ (d953 : Nat) (b24 : Bool) (x25 : Int) (m26 : M) (τ952 : Nat → Nat), St (Fm.of m) f f m26 → plThin_L2 l x4 x15 (plThin_L1 l x4 (plThin_L0 l d891) d925) d953 b24 x25 = some rz → R23 [.c (.bool b24), .c (.int .i64 x25)] m26 := by
                          intro d953
                          induction d953 with
                          | zero => intro b24 x25 m26 τ952 S951 hp; cases hp
                          | succ d953 ihR23 =>
                            intro b24 x25 m26 τ952 S951 hp
                            refine hR23 _ _ _ ?_
                            rw [plThin_L2] at hp
                            obtain ⟨v954, g955, hp⟩ := bsome hp
                            obtain ⟨n27, g955i, g955l, g955⟩ := idx_some g955
                            obtain ⟨c956, c958, c960, r962, h957, h959, h961⟩ := rd_Tf ha100 g955
                            refine ⟨n27, g955i, (by first | exact g955l | (rw [ha100.slLen]; exact g955l)), (ha100.isPt g955 _), _, ((r962 _ S951.sub).2.1 5 _ rfl), ?_⟩
                            obtain ⟨v963, g964, hp⟩ := bsome hp
                            obtain ⟨n29, g964i, g964l, g964⟩ := idx_some g964
                            obtain ⟨c965, r966, h967⟩ := h961.rdS g964
                            refine ⟨n29, g964i, (by first | exact g964l | (rw [h961.slLen]; exact g964l)), _, (r966 _ S951.sub), h967.isSl, ?_⟩
                            try rw [h967.slLen]
                            rw [ifB_dec]
                            refine ⟨fun q968 => ?_, fun q968 => ?_⟩
                            · skip
                              rw [if_pos q968] at hp
                              obtain ⟨v969, g970, hp⟩ := bsome hp
                              obtain ⟨n31, g970i, g970l, g970⟩ := idx_some g970
                              obtain ⟨c971, c973, c975, r977, h972, h974, h976⟩ := rd_Tf ha100 g970
                              refine ⟨n31, g970i, (by first | exact g970l | (rw [ha100.slLen]; exact g970l)), (ha100.isPt g970 _), _, ((r977 _ S951.sub).2.1 5 _ rfl), ?_⟩
                              obtain ⟨v978, g979, hp⟩ := bsome hp
                              obtain ⟨n33, g979i, g979l, g979⟩ := idx_some g979
                              obtain ⟨c980, r981, h982⟩ := h976.rdS g979
                              refine ⟨n33, g979i, (by first | exact g979l | (rw [h976.slLen]; exact g979l)), _, (r981 _ S951.sub), ?_⟩
                              obtain ⟨v983, g984, hp⟩ := bsome hp
                              obtain ⟨n35, g984i, g984l, g984⟩ := idx_some g984
                              obtain ⟨c985, r986, h987⟩ := h982.rdS g984
                              refine ⟨n35, g984i, (by first | exact g984l | (rw [h982.slLen]; exact g984l)), _, (r986 _ S951.sub), h987.isSl, ?_⟩
                              try rw [h987.slLen]
                              rw [ifB_dec]
                              refine ⟨fun q988 => ?_, fun q988 => ?_⟩
                              · skip
                                rw [if_pos q988] at hp
                                obtain rfl := Option.some.inj hp
                                exact hq _ S951.ext'
                              · skip
                                rw [if_neg q988] at hp
                                obtain ⟨g989, hp⟩ := gd_some hp
                                refine ⟨g989, ?_⟩
                                exact ihR23 _ _ _ τ952 S951 hp
                            · skip
                              rw [if_neg q968] at hp
                              obtain ⟨g990, hp⟩ := gd_some hp
                              refine ⟨g990, ?_⟩
                              exact ihR12 _ _ _ _ τ952 S951 hp
                        exact hgo _ _ _ _ τ924 S923 hp
                    · skip
                      rw [if_neg q935] at hp
                      obtain ⟨g991, hp⟩ := gd_some hp
                      refine ⟨g991, ?_⟩
                      exact ihR0 _ _ _ _ _ τ924 S923 hp
                exact hgo _ _ _ _ _ τ890 S889 hp
        · skip
          rw [if_neg q892] at hp
          obtain rfl := Option.some.inj hp
          exact hq _ S889.ext'
    exact hgo _ _ _ _ _ _ τ0 S0 hp
theorem s_lFault {l : List Tf} {ca100 : C} {m f : M} {Q : V → M → Prop} {rz : Int} (hS : Pre f m) (ha100 : Sl f ca100 l) (hp : plFault l = some rz) (hq : ∀ m', Ext m m' → Q (.c (.int .i64 rz)) m') : Wc prog tbl 20 [.c ca100] m Q := by
  have S0 := hS.st
  obtain ⟨τ0, _⟩ : ∃ τ : Nat → Nat, True := ⟨fun _ => 0, trivial⟩
  refine w20 ?_
  unfold plFault at hp
  obtain ⟨r992, g993, hp⟩ := bsome hp
  refine s_rFault (l := l) S0.pre ha100 g993 fun m1 e996 => ?_
  obtain ⟨S994, k995⟩ := S0.call e996 τ0
  refine ⟨_, rfl, ?_⟩
  obtain rfl := Option.some.inj hp
  exact hq _ S994.ext'
theorem s_lClaimed {l : List Tf} {c : Clm} {ca100 : C} {m f : M} {Q : V → M → Prop} {rz : Int} (hS : Pre f m) (ha100 : Sl f ca100 l) (hp : plClaimed l c = some rz) (hq : ∀ m', Ext m m' → Q (.c (.int .i64 rz)) m') : Wc prog tbl 29 [.c ca100, .agg 6 [(.int .i64 c.Crop), (.int .i64 c.Value), (.int .i64 c.Day.Lo), (.int .i64 c.Day.Hi), (.int .i64 c.Count.Lo), (.int .i64 c.Count.Hi)]] m Q := by
  have S0 := hS.st
  obtain ⟨τ0, _⟩ : ∃ τ : Nat → Nat, True := ⟨fun _ => 0, trivial⟩
  refine w29 ?_
  unfold plClaimed at hp
  intro m0 e997
  obtain ⟨τ1000, S998, k999, L1001⟩ := S0.blk e997 τ0 1
  obtain ⟨r1002, g1003, hp⟩ := bsome hp
  refine s_lFault (l := l) S998.pre ha100 g1003 fun m2 e1006 => ?_
  obtain ⟨S1004, k1005⟩ := S998.call e1006 τ1000
  have L1007 := L1001.k k1005 (by decide)
  refine ⟨_, rfl, ?_⟩
  rw [ifB_ndec]
  refine ⟨fun q1008 => ?_, fun q1008 => ?_⟩
  · skip
    rw [if_neg q1008] at hp
    obtain rfl := Option.some.inj hp
    exact hq _ S1004.ext'
  · skip
    rw [if_pos q1008] at hp
    refine ⟨_, _, _, _, _, _, L1007.bk.ra, ?_⟩
    obtain ⟨r1009, g1010, hp⟩ := bsome hp
    refine s_rIsClaim (l := l) (c := c) S1004.pre ha100 g1010 fun m11 e1013 => ?_
    obtain ⟨S1011, k1012⟩ := S1004.call e1013 τ1000
    have L1014 := L1007.k k1012 (by decide)
    refine ⟨_, rfl, ?_⟩
    rw [ifB_iff]
    refine ⟨fun q1015 => ?_, fun q1015 => ?_⟩
    · skip
      rw [bif_neg (nb_f q1015)] at hp
      obtain rfl := Option.some.inj hp
      exact hq _ S1011.ext'
    · skip
      rw [if_pos (nb_t q1015)] at hp
      obtain rfl := Option.some.inj hp
      exact hq _ S1011.ext'
theorem s_has {r : Rg} {n : Int} {m f : M} {Q : V → M → Prop} {rz : Bool} (hS : Pre f m)  (hp : phas r n = some rz) (hq : ∀ m', Ext m m' → Q (.c (.bool rz)) m') : Wc prog tbl 78 [.agg 2 [(.int .i64 r.Lo), (.int .i64 r.Hi)], .c (.int .i64 n)] m Q := by
  have S0 := hS.st
  obtain ⟨τ0, _⟩ : ∃ τ : Nat → Nat, True := ⟨fun _ => 0, trivial⟩
  refine w78 ?_
  unfold phas at hp
  intro m0 e1084
  obtain ⟨τ1087, S1085, k1086, L1088⟩ := S0.blk e1084 τ0 1
  refine ⟨trivial, _, L1088.bk.rc rfl, ?_⟩
  rw [ifB_dec]
  refine ⟨fun q1089 => ?_, fun q1089 => ?_⟩
  · skip
    rw [if_pos q1089] at hp
    refine ⟨trivial, _, L1088.bk.rc rfl, ?_⟩
    obtain rfl := Option.some.inj hp
    exact hq _ S1085.ext'
  · skip
    rw [if_neg q1089] at hp
    obtain rfl := Option.some.inj hp
    exact hq _ S1085.ext'
theorem s_isIndex {n : Int} {size : Int} {m f : M} {Q : V → M → Prop} {rz : Bool} (hS : Pre f m)  (hp : pisIndex n size = some rz) (hq : ∀ m', Ext m m' → Q (.c (.bool rz)) m') : Wc prog tbl 77 [.c (.int .i64 n), .c (.int .i64 size)] m Q := by
  have S0 := hS.st
  obtain ⟨τ0, _⟩ : ∃ τ : Nat → Nat, True := ⟨fun _ => 0, trivial⟩
  refine w77 ?_
  unfold pisIndex at hp
  obtain ⟨g1090, hp⟩ := gd_some hp
  refine ⟨g1090, ?_⟩
  obtain ⟨r1091, g1092, hp⟩ := bsome hp
  refine s_has (r := ({ Lo := (0 : Int), Hi := (size - (1 : Int)) } : Rg)) (n := n) S0.pre  g1092 fun m1 e1095 => ?_
  obtain ⟨S1093, k1094⟩ := S0.call e1095 τ0
  refine ⟨_, rfl, ?_⟩
  obtain rfl := Option.some.inj hp
  exact hq _ S1093.ext'
theorem s_isDay {n : Int} {m f : M} {Q : V → M → Prop} {rz : Bool} (hS : Pre f m)  (hp : pisDay n = some rz) (hq : ∀ m', Ext m m' → Q (.c (.bool rz)) m') : Wc prog tbl 55 [.c (.int .i64 n)] m Q := by
  have S0 := hS.st
  obtain ⟨τ0, _⟩ : ∃ τ : Nat → Nat, True := ⟨fun _ => 0, trivial⟩
  refine w55 ?_
  unfold pisDay at hp
  obtain ⟨r1096, g1097, hp⟩ := bsome hp
  refine s_has (r := ({ Lo := (0 : Int), Hi := (120 : Int) } : Rg)) (n := n) S0.pre  g1097 fun m1 e1100 => ?_
  obtain ⟨S1098, k1099⟩ := S0.call e1100 τ0
  refine ⟨_, rfl, ?_⟩
  obtain rfl := Option.some.inj hp
  exact hq _ S1098.ext'
theorem s_isCount {n : Int} {m f : M} {Q : V → M → Prop} {rz : Bool} (hS : Pre f m)  (hp : pisCount n = some rz) (hq : ∀ m', Ext m m' → Q (.c (.bool rz)) m') : Wc prog tbl 56 [.c (.int .i64 n)] m Q := by
  have S0 := hS.st
  obtain ⟨τ0, _⟩ : ∃ τ : Nat → Nat, True := ⟨fun _ => 0, trivial⟩
  refine w56 ?_
  unfold pisCount at hp
  obtain ⟨r1101, g1102, hp⟩ := bsome hp
  refine s_has (r := ({ Lo := (0 : Int), Hi := (100 : Int) } : Rg)) (n := n) S0.pre  g1102 fun m1 e1105 => ?_
  obtain ⟨S1103, k1104⟩ := S0.call e1105 τ0
  refine ⟨_, rfl, ?_⟩
  obtain rfl := Option.some.inj hp
  exact hq _ S1103.ext'
theorem s_isHundredths {n : Int} {m f : M} {Q : V → M → Prop} {rz : Bool} (hS : Pre f m)  (hp : pisHundredths n = some rz) (hq : ∀ m', Ext m m' → Q (.c (.bool rz)) m') : Wc prog tbl 105 [.c (.int .i64 n)] m Q := by
  have S0 := hS.st
  obtain ⟨τ0, _⟩ : ∃ τ : Nat → Nat, True := ⟨fun _ => 0, trivial⟩
  refine w105 ?_
  unfold pisHundredths at hp
  obtain ⟨r1106, g1107, hp⟩ := bsome hp
  refine s_has (r := ({ Lo := (0 : Int), Hi := (100 : Int) } : Rg)) (n := n) S0.pre  g1107 fun m1 e1110 => ?_
  obtain ⟨S1108, k1109⟩ := S0.call e1110 τ0
  refine ⟨_, rfl, ?_⟩
  obtain rfl := Option.some.inj hp
  exact hq _ S1108.ext'
theorem s_rises {l : List Int} {ca100 : C} {m f : M} {Q : V → M → Prop} {rz : Bool} (hS : Pre f m) (ha100 : Sl f ca100 l) (hp : prises l = some rz) (hq : ∀ m', Ext m m' → Q (.c (.bool rz)) m') : Wc prog tbl 86 [.c ca100] m Q := by
  have S0 := hS.st
  obtain ⟨τ0, _⟩ : ∃ τ : Nat → Nat, True := ⟨fun _ => 0, trivial⟩
  refine w86 ?_
  unfold prises at hp
  refine ⟨ha100.isSl, ?_⟩
  intro R0 hR0
  have hgo : ∀ (d1113 : Nat) (b1 : Bool) (x2 : Int) (m3 : M) (τ1112 : Nat → Nat), St (Fm.of m) f f m3 → prises_L0 l d1113 x2 = some rz → R0 [.c (.bool b1), .c (.int .i64 x2)] m3 := by
    intro d1113
    induction d1113 with
    | zero => intro b1 x2 m3 τ1112 S1111 hp; cases hp
    | succ d1113 ihR0 =>
      intro b1 x2 m3 τ1112 S1111 hp
      refine hR0 _ _ _ ?_
      rw [prises_L0] at hp
      try rw [ha100.slLen]
      rw [ifB_dec]
      refine ⟨fun q1114 => ?_, fun q1114 => ?_⟩
      · skip
        rw [if_pos q1114] at hp
        obtain ⟨x1115, g1116, hp⟩ := bsome hp
        obtain ⟨n4, g1116i, g1116l, g1116⟩ := idx_some g1116
        refine ⟨n4, g1116i, (by first | exact g1116l | (rw [ha100.slLen]; exact g1116l)), _, (ha100.rdI g1116 S1111.sub), ?_⟩
        rw [ifB_dec]
        refine ⟨fun q1117 => ?_, fun q1117 => ?_⟩
        · skip
          rw [if_pos q1117] at hp
          obtain ⟨g1118, hp⟩ := gd_some hp
          refine ⟨g1118, ?_⟩
          obtain ⟨x1119, g1120, hp⟩ := bsome hp
          obtain ⟨n6, g1120i, g1120l, g1120⟩ := idx_some g1120
          refine ⟨n6, g1120i, (by first | exact g1120l | (rw [ha100.slLen]; exact g1120l)), _, (ha100.rdI g1120 S1111.sub), ?_⟩
          rw [ifB_dec]
          refine ⟨fun q1121 => ?_, fun q1121 => ?_⟩
          · skip
            rw [if_pos q1121] at hp
            obtain rfl := Option.some.inj hp
            exact hq _ S1111.ext'
          · skip
            rw [if_neg q1121] at hp
            obtain ⟨g1122, hp⟩ := gd_some hp
            refine ⟨g1122, ?_⟩
            exact ihR0 _ _ _ τ1112 S1111 hp
        · skip
          rw [if_neg q1117] at hp
          obtain ⟨g1123, hp⟩ := gd_some hp
          refine ⟨g1123, ?_⟩
          exact ihR0 _ _ _ τ1112 S1111 hp
      · skip
        rw [if_neg q1114] at hp
        refine ⟨ha100.isSl, ?_⟩
        try rw [ha100.slLen]
        rw [ifB_dec]
        refine ⟨fun q1124 => ?_, fun q1124 => ?_⟩
        · skip
          rw [if_pos q1124] at hp
          obtain ⟨x1125, g1126, hp⟩ := bsome hp
          obtain ⟨n8, g1126i, g1126l, g1126⟩ := idx_some g1126
          refine ⟨n8, g1126i, (by first | exact g1126l | (rw [ha100.slLen]; exact g1126l)), _, (ha100.rdI g1126 S1111.sub), ?_⟩
          obtain rfl := Option.some.inj hp
          exact hq _ S1111.ext'
        · skip
          rw [if_neg q1124] at hp
          obtain rfl := Option.some.inj hp
          exact hq _ S1111.ext'
  exact hgo _ _ _ _ τ0 S0 hp
theorem s_froms {l : List Tf} {ca100 : C} {m f : M} {Q : V → M → Prop} {rz : List Int} (hS : Pre f m) (ha100 : Sl f ca100 l) (hp : pfroms l = some rz) (hq : ∀ m' f' c0, Grw m f m' f' → Sl f' c0 rz → Q (.c c0) m') : Wc prog tbl 87 [.c ca100] m Q := by
  have S0 := hS.st
  obtain ⟨τ0, _⟩ : ∃ τ : Nat → Nat, True := ⟨fun _ => 0, trivial⟩
  refine w87 ?_
  unfold pfroms at hp
  refine ⟨ha100.isSl, ?_⟩
  intro R0 hR0
  have hgo : ∀ (d1131 : Nat) (c1 : C) (x2 : Int) (l1129 : List Int) (m3 : M) (τ1128 : Nat → Nat), St (Fm.of m) f f m3 → Ow (Fm.of m) f τ1128 m3 1 c1 l1129 → pfroms_L0 l d1131 l1129 x2 = some rz → R0 [.c c1, .c (.int .i64 x2)] m3 := by
    intro d1131
    induction d1131 with
    | zero => intro c1 x2 l1129 m3 τ1128 S1127 o1130 hp; cases hp
    | succ d1131 ihR0 =>
      intro c1 x2 l1129 m3 τ1128 S1127 o1130 hp
      refine hR0 _ _ _ ?_
      rw [pfroms_L0] at hp
      try rw [ha100.slLen]
      rw [ifB_dec]
      refine ⟨fun q1132 => ?_, fun q1132 => ?_⟩
      · skip
        rw [if_pos q1132] at hp
        obtain ⟨v1133, g1134, hp⟩ := bsome hp
        obtain ⟨n4, g1134i, g1134l, g1134⟩ := idx_some g1134
        obtain ⟨c1135, c1137, c1139, r1141, h1136, h1138, h1140⟩ := rd_Tf ha100 g1134
        refine ⟨n4, g1134i, (by first | exact g1134l | (rw [ha100.slLen]; exact g1134l)), _, _, _, _, _, _, (r1141 _ S1127.sub).1, ?_⟩
        intro m11 e1142
        obtain ⟨τ1145, S1143, k1144, L1146⟩ := S1127.blk e1142 τ1128 2
        have o1130 := o1130.k k1144 (by decide)
        obtain ⟨m1150, e1149, S1147, k1148, L1151⟩ := L1146.sto S1143 [(.int .i64 v1133.From), (.bool v1133.Whole), (.int .i64 v1133.Least), c1135, c1137, c1139]
        have o1130 := o1130.k k1148 (by decide)
        refine ⟨m1150, e1149, ?_⟩
        refine ⟨trivial, _, L1151.bk.rc rfl, ?_⟩
        obtain ⟨g1160, hp⟩ := gd_some hp
        intro m14 e1152
        obtain ⟨c1156, m1157, τ1155, a1158, S1153, k1154, o1159⟩ := o1130.app' ta73 S1147 (a := v1133.From) (show Rp.rep (α := Int) f _ v1133.From from rfl) g1160 e1152
        have L1161 := L1151.k k1154 (by decide)
        refine ⟨c1156, m1157, a1158, ?_⟩
        obtain ⟨g1162, hp⟩ := gd_some hp
        refine ⟨g1162, ?_⟩
        exact ihR0 _ _ _ _ τ1155 S1153 o1159 hp
      · skip
        rw [if_neg q1132] at hp
        obtain ⟨f1163, S1164, k1165, h1166⟩ := o1130.freeze S1127
        obtain rfl := Option.some.inj hp
        exact hq _ f1163 c1 S1164.grw h1166
  exact hgo _ _ _ _ _ τ0 S0 (Ow.nil _ _ _ _ _) hp
theorem s_sameCrops {l : List Tf} {t : Tf} {ca100 ca203 ca204 ca205 : C} {m f : M} {Q : V → M → Prop} {rz : Bool} (hS : Pre f m) (ha100 : Sl f ca100 l) (ha203 : Sl f ca203 t.Weeks) (ha204 : Sl f ca204 t.Counts) (ha205 : Sl f ca205 t.Rates) (hp : psameCrops l t = some rz) (hq : ∀ m', Ext m m' → Q (.c (.bool rz)) m') : Wc prog tbl 88 [.c ca100, .agg 6 [(.int .i64 t.From), (.bool t.Whole), (.int .i64 t.Least), ca203, ca204, ca205]] m Q := by
  have S0 := hS.st
  obtain ⟨τ0, _⟩ : ∃ τ : Nat → Nat, True := ⟨fun _ => 0, trivial⟩
  refine w88 ?_
  unfold psameCrops at hp
  intro m0 e1167
  obtain ⟨τ1170, S1168, k1169, L1171⟩ := S0.blk e1167 τ0 1
  refine ⟨trivial, _, L1171.bk.rc rfl, ha205.isSl, ?_⟩
  obtain ⟨v1172, g1173, hp⟩ := bsome hp
  obtain ⟨n2, g1173i, g1173l, g1173⟩ := idx_some g1173
  obtain ⟨c1174, c1176, c1178, r1180, h1175, h1177, h1179⟩ := rd_Tf ha100 g1173
  refine ⟨n2, g1173i, (by first | exact g1173l | (rw [ha100.slLen]; exact g1173l)), (ha100.isPt g1173 _), _, ((r1180 _ S1168.sub).2.1 5 _ rfl), h1179.isSl, ?_⟩
  try rw [ha205.slLen]
  try rw [h1179.slLen]
  obtain rfl := Option.some.inj hp
  exact hq _ S1168.ext'
theorem s_hasCrop {l : List Tf} {n : Int} {ca100 : C} {m f : M} {Q : V → M → Prop} {rz : Bool} (hS : Pre f m) (ha100 : Sl f ca100 l) (hp : phasCrop l n = some rz) (hq : ∀ m', Ext m m' → Q (.c (.bool rz)) m') : Wc prog tbl 54 [.c ca100, .c (.int .i64 n)] m Q := by
  have S0 := hS.st
  obtain ⟨τ0, _⟩ : ∃ τ : Nat → Nat, True := ⟨fun _ => 0, trivial⟩
  refine w54 ?_
  unfold phasCrop at hp
  obtain ⟨v1181, g1182, hp⟩ := bsome hp
  obtain ⟨n0, g1182i, g1182l, g1182⟩ := idx_some g1182
  obtain ⟨c1183, c1185, c1187, r1189, h1184, h1186, h1188⟩ := rd_Tf ha100 g1182
  refine ⟨n0, g1182i, (by first | exact g1182l | (rw [ha100.slLen]; exact g1182l)), (ha100.isPt g1182 _), _, ((r1189 _ S0.sub).2.1 5 _ rfl), h1188.isSl, ?_⟩
  try rw [h1188.slLen]
  obtain ⟨r1190, g1191, hp⟩ := bsome hp
  refine s_isIndex (n := n) (size := (v1181.Rates.length : Int)) S0.pre  g1191 fun m3 e1194 => ?_
  obtain ⟨S1192, k1193⟩ := S0.call e1194 τ0
  refine ⟨_, rfl, ?_⟩
  obtain rfl := Option.some.inj hp
  exact hq _ S1192.ext'
theorem s_tfTooMany {t : Tf} {ca103 ca104 ca105 : C} {m f : M} {Q : V → M → Prop} {rz : Bool} (hS : Pre f m) (ha103 : Sl f ca103 t.Weeks) (ha104 : Sl f ca104 t.Counts) (ha105 : Sl f ca105 t.Rates) (hp : ptfTooMany t = some rz) (hq : ∀ m', Ext m m' → Q (.c (.bool rz)) m') : Wc prog tbl 83 [.agg 6 [(.int .i64 t.From), (.bool t.Whole), (.int .i64 t.Least), ca103, ca104, ca105]] m Q := by
  have S0 := hS.st
  obtain ⟨τ0, _⟩ : ∃ τ : Nat → Nat, True := ⟨fun _ => 0, trivial⟩
  refine w83 ?_
  unfold ptfTooMany at hp
  intro m0 e1195
  obtain ⟨τ1198, S1196, k1197, L1199⟩ := S0.blk e1195 τ0 1
  refine ⟨trivial, _, L1199.bk.rc rfl, ha103.isSl, ?_⟩
  try rw [ha103.slLen]
  rw [ifB_dec]
  refine ⟨fun q1200 => ?_, fun q1200 => ?_⟩
  · skip
    rw [if_pos q1200] at hp
    obtain rfl := Option.some.inj hp
    exact hq _ S1196.ext'
  · skip
    rw [if_neg q1200] at hp
    refine ⟨trivial, _, L1199.bk.rc rfl, ha104.isSl, ?_⟩
    try rw [ha104.slLen]
    rw [ifB_dec]
    refine ⟨fun q1201 => ?_, fun q1201 => ?_⟩
    · skip
      rw [if_pos q1201] at hp
      obtain rfl := Option.some.inj hp
      exact hq _ S1196.ext'
    · skip
      rw [if_neg q1201] at hp
      refine ⟨trivial, _, L1199.bk.rc rfl, ha105.isSl, ?_⟩
      try rw [ha105.slLen]
      obtain rfl := Option.some.inj hp
      exact hq _ S1196.ext'
theorem s_isNaN {x : Int} {m f : M} {Q : V → M → Prop} {rz : Bool} (hS : Pre f m)  (hp : pisNaN x = some rz) (hq : ∀ m', Ext m m' → Q (.c (.bool rz)) m') : Wc prog tbl 95 [.c (.int .i64 x)] m Q := by
  have S0 := hS.st
  obtain ⟨τ0, _⟩ : ∃ τ : Nat → Nat, True := ⟨fun _ => 0, trivial⟩
  refine w95 ?_
  unfold pisNaN at hp
  obtain rfl := Option.some.inj hp
  exact hq _ S0.ext'
theorem s_sNaN {x : Int} {m f : M} {Q : V → M → Prop} {rz : Bool} (hS : Pre f m)  (hp : psNaN x = some rz) (hq : ∀ m', Ext m m' → Q (.c (.bool rz)) m') : Wc prog tbl 130 [.c (.int .i64 x)] m Q := by
  have S0 := hS.st
  obtain ⟨τ0, _⟩ : ∃ τ : Nat → Nat, True := ⟨fun _ => 0, trivial⟩
  refine w130 ?_
  unfold psNaN at hp
  obtain rfl := Option.some.inj hp
  exact hq _ S0.ext'
theorem s_less {x : Int} {y : Int} {m f : M} {Q : V → M → Prop} {rz : Bool} (hS : Pre f m)  (hp : pless x y = some rz) (hq : ∀ m', Ext m m' → Q (.c (.bool rz)) m') : Wc prog tbl 129 [.c (.int .i64 x), .c (.int .i64 y)] m Q := by
  have S0 := hS.st
  obtain ⟨τ0, _⟩ : ∃ τ : Nat → Nat, True := ⟨fun _ => 0, trivial⟩
  refine w129 ?_
  unfold pless at hp
  obtain ⟨r1228, g1229, hp⟩ := bsome hp
  refine s_isNaN (x := x) S0.pre  g1229 fun m1 e1232 => ?_
  obtain ⟨S1230, k1231⟩ := S0.call e1232 τ0
  refine ⟨_, rfl, ?_⟩
  rw [ifB_iff]
  refine ⟨fun q1233 => ?_, fun q1233 => ?_⟩
  · skip
    rw [if_pos q1233] at hp
    obtain ⟨r1234, g1235, hp⟩ := bsome hp
    refine s_isNaN (x := y) S1230.pre  g1235 fun m4 e1238 => ?_
    obtain ⟨S1236, k1237⟩ := S1230.call e1238 τ0
    refine ⟨_, rfl, ?_⟩
    rw [ifB_iff]
    refine ⟨fun q1239 => ?_, fun q1239 => ?_⟩
    · skip
      rw [bif_neg (nb_f q1239)] at hp
      obtain rfl := Option.some.inj hp
      exact hq _ S1236.ext'
    · skip
      rw [if_pos (nb_t q1239)] at hp
      obtain rfl := Option.some.inj hp
      exact hq _ S1236.ext'
  · skip
    rw [bif_neg q1233] at hp
    obtain rfl := Option.some.inj hp
    exact hq _ S1230.ext'
theorem s_compare {x : Int} {y : Int} {m f : M} {Q : V → M → Prop} {rz : Int} (hS : Pre f m)  (hp : pcompare x y = some rz) (hq : ∀ m', Ext m m' → Q (.c (.int .i64 rz)) m') : Wc prog tbl 71 [.c (.int .i64 x), .c (.int .i64 y)] m Q := by
  have S0 := hS.st
  obtain ⟨τ0, _⟩ : ∃ τ : Nat → Nat, True := ⟨fun _ => 0, trivial⟩
  refine w71 ?_
  unfold pcompare at hp
  obtain ⟨r1240, g1241, hp⟩ := bsome hp
  refine s_isNaN (x := x) S0.pre  g1241 fun m1 e1244 => ?_
  obtain ⟨S1242, k1243⟩ := S0.call e1244 τ0
  refine ⟨_, rfl, ?_⟩
  obtain ⟨r1245, g1246, hp⟩ := bsome hp
  refine s_isNaN (x := y) S1242.pre  g1246 fun m4 e1249 => ?_
  obtain ⟨S1247, k1248⟩ := S1242.call e1249 τ0
  refine ⟨_, rfl, ?_⟩
  rw [ifB_iff]
  refine ⟨fun q1250 => ?_, fun q1250 => ?_⟩
  · skip
    rw [if_pos q1250] at hp
    rw [ifB_iff]
    refine ⟨fun q1251 => ?_, fun q1251 => ?_⟩
    · skip
      rw [if_pos q1251] at hp
      obtain rfl := Option.some.inj hp
      exact hq _ S1247.ext'
    · skip
      rw [bif_neg q1251] at hp
      obtain rfl := Option.some.inj hp
      exact hq _ S1247.ext'
  · skip
    rw [bif_neg q1250] at hp
    rw [ifB_iff]
    refine ⟨fun q1252 => ?_, fun q1252 => ?_⟩
    · skip
      rw [if_pos q1252] at hp
      obtain rfl := Option.some.inj hp
      exact hq _ S1247.ext'
    · skip
      rw [bif_neg q1252] at hp
      rw [ifB_dec]
      refine ⟨fun q1253 => ?_, fun q1253 => ?_⟩
      · skip
        rw [if_pos q1253] at hp
        obtain rfl := Option.some.inj hp
        exact hq _ S1247.ext'
      · skip
        rw [if_neg q1253] at hp
        rw [ifB_dec]
        refine ⟨fun q1254 => ?_, fun q1254 => ?_⟩
        · skip
          rw [if_pos q1254] at hp
          obtain rfl := Option.some.inj hp
          exact hq _ S1247.ext'
        · skip
          rw [if_neg q1254] at hp
          obtain rfl := Option.some.inj hp
          exact hq _ S1247.ext'
theorem s_bsearch {l : List Int} {x : Int} {ca100 : C} {m f : M} {Q : V → M → Prop} {rz : Int × Bool} (hS : Pre f m) (ha100 : Sl f ca100 l) (hp : pbsearch l x = some rz) (hq : ∀ m', Ext m m' → Q (.tup [.c (.int .i64 rz.1), .c (.bool rz.2)]) m') : Wc prog tbl 116 [.c ca100, .c (.int .i64 x)] m Q := by
  have S0 := hS.st
  obtain ⟨τ0, _⟩ : ∃ τ : Nat → Nat, True := ⟨fun _ => 0, trivial⟩
  refine w116 ?_
  unfold pbsearch at hp
  refine ⟨ha100.isSl, ?_⟩
  intro R0 hR0
  try rw [ha100.slLen]
  have hgo : ∀ (d1257 : Nat) (x1 : Int) (x2 : Int) (m3 : M) (τ1256 : Nat → Nat), St (Fm.of m) f f m3 → pbsearch_L0 l x d1257 x1 x2 = some rz → R0 [.c (.int .i64 x1), .c (.int .i64 x2)] m3 := by
    intro d1257
    induction d1257 with
    | zero => intro x1 x2 m3 τ1256 S1255 hp; cases hp
    | succ d1257 ihR0 =>
      intro x1 x2 m3 τ1256 S1255 hp
      refine hR0 _ _ _ ?_
      rw [pbsearch_L0] at hp
      rw [ifB_dec]
      refine ⟨fun q1258 => ?_, fun q1258 => ?_⟩
      · skip
        rw [if_pos q1258] at hp
        obtain ⟨g1259, hp⟩ := gd_some hp
        refine ⟨g1259, ?_⟩
        obtain ⟨g1260, hp⟩ := gd_some hp
        refine ⟨g1260, ?_⟩
        obtain ⟨g1261, hp⟩ := gd_some hp
        refine ⟨g1261, ?_⟩
        obtain ⟨g1262, hp⟩ := gd_some hp
        refine ⟨g1262, ?_⟩
        obtain ⟨g1263, hp⟩ := gd_some hp
        refine ⟨g1263, ?_⟩
        obtain ⟨x1264, g1265, hp⟩ := bsome hp
        obtain ⟨n4, g1265i, g1265l, g1265⟩ := idx_some g1265
        refine ⟨n4, g1265i, (by first | exact g1265l | (rw [ha100.slLen]; exact g1265l)), _, (ha100.rdI g1265 S1255.sub), ?_⟩
        obtain ⟨r1266, g1267, hp⟩ := bsome hp
        refine s_less (x := x1264) (y := x) S1255.pre  g1267 fun m7 e1270 => ?_
        obtain ⟨S1268, k1269⟩ := S1255.call e1270 τ1256
        refine ⟨_, rfl, ?_⟩
        rw [ifB_iff]
        refine ⟨fun q1271 => ?_, fun q1271 => ?_⟩
        · skip
          rw [if_pos q1271] at hp
          obtain ⟨g1272, hp⟩ := gd_some hp
          refine ⟨g1272, ?_⟩
          exact ihR0 _ _ _ τ1256 S1268 hp
        · skip
          rw [bif_neg q1271] at hp
          exact ihR0 _ _ _ τ1256 S1268 hp
      · skip
        rw [if_neg q1258] at hp
        try rw [ha100.slLen]
        rw [ifB_dec]
        refine ⟨fun q1273 => ?_, fun q1273 => ?_⟩
        · skip
          rw [if_pos q1273] at hp
          obtain ⟨x1274, g1275, hp⟩ := bsome hp
          obtain ⟨n9, g1275i, g1275l, g1275⟩ := idx_some g1275
          refine ⟨n9, g1275i, (by first | exact g1275l | (rw [ha100.slLen]; exact g1275l)), _, (ha100.rdI g1275 S1255.sub), ?_⟩
          rw [ifB_dec]
          refine ⟨fun q1276 => ?_, fun q1276 => ?_⟩
          · skip
            rw [if_pos q1276] at hp
            obtain rfl := Option.some.inj hp
            exact hq _ S1255.ext'
          · skip
            rw [if_neg q1276] at hp
            obtain ⟨x1277, g1278, hp⟩ := bsome hp
            obtain ⟨n11, g1278i, g1278l, g1278⟩ := idx_some g1278
            refine ⟨n11, g1278i, (by first | exact g1278l | (rw [ha100.slLen]; exact g1278l)), _, (ha100.rdI g1278 S1255.sub), ?_⟩
            obtain ⟨r1279, g1280, hp⟩ := bsome hp
            refine s_sNaN (x := x1277) S1255.pre  g1280 fun m14 e1283 => ?_
            obtain ⟨S1281, k1282⟩ := S1255.call e1283 τ1256
            refine ⟨_, rfl, ?_⟩
            rw [ifB_iff]
            refine ⟨fun q1284 => ?_, fun q1284 => ?_⟩
            · skip
              rw [if_pos q1284] at hp
              obtain ⟨r1285, g1286, hp⟩ := bsome hp
              refine s_sNaN (x := x) S1281.pre  g1286 fun m17 e1289 => ?_
              obtain ⟨S1287, k1288⟩ := S1281.call e1289 τ1256
              refine ⟨_, rfl, ?_⟩
              obtain rfl := Option.some.inj hp
              exact hq _ S1287.ext'
            · skip
              rw [bif_neg q1284] at hp
              obtain rfl := Option.some.inj hp
              exact hq _ S1281.ext'
        · skip
          rw [if_neg q1273] at hp
          obtain rfl := Option.some.inj hp
          exact hq _ S1255.ext'
  exact hgo _ _ _ _ τ0 S0 hp
theorem s_last {days : List Int} {day : Int} {ca100 : C} {m f : M} {Q : V → M → Prop} {rz : Int} (hS : Pre f m) (ha100 : Sl f ca100 days) (hp : plast days day = some rz) (hq : ∀ m', Ext m m' → Q (.c (.int .i64 rz)) m') : Wc prog tbl 98 [.c ca100, .c (.int .i64 day)] m Q := by
  have S0 := hS.st
  obtain ⟨τ0, _⟩ : ∃ τ : Nat → Nat, True := ⟨fun _ => 0, trivial⟩
  refine w98 ?_
  unfold plast at hp
  obtain ⟨g1290, hp⟩ := gd_some hp
  refine ⟨g1290, ?_⟩
  obtain ⟨r1291, g1292, hp⟩ := bsome hp
  refine s_bsearch (l := days) (x := (day + (1 : Int))) S0.pre ha100 g1292 fun m1 e1295 => ?_
  obtain ⟨S1293, k1294⟩ := S0.call e1295 τ0
  refine ⟨_, _, rfl, ?_⟩
  obtain ⟨g1296, hp⟩ := gd_some hp
  refine ⟨g1296, ?_⟩
  obtain rfl := Option.some.inj hp
  exact hq _ S1293.ext'
theorem s_tfOf {l : List Tf} {day : Int} {ca100 : C} {m f : M} {Q : V → M → Prop} {rz : Tf} (hS : Pre f m) (ha100 : Sl f ca100 l) (hp : ptfOf l day = some rz) (hq : ∀ m' f' c3 c4 c5, Grw m f m' f' → Sl f' c3 rz.Weeks → Sl f' c4 rz.Counts → Sl f' c5 rz.Rates → Q (.agg 6 [(.int .i64 rz.From), (.bool rz.Whole), (.int .i64 rz.Least), c3, c4, c5]) m') : Wc prog tbl 79 [.c ca100, .c (.int .i64 day)] m Q := by
  have S0 := hS.st
  obtain ⟨τ0, _⟩ : ∃ τ : Nat → Nat, True := ⟨fun _ => 0, trivial⟩
  refine w79 ?_
  unfold ptfOf at hp
  intro m0 e1297
  obtain ⟨τ1300, S1298, k1299, L1301⟩ := S0.blk e1297 τ0 1
  obtain ⟨r1302, g1303, hp⟩ := bsome hp
  refine s_froms (l := l) S1298.pre ha100 g1303 fun m2 f1307 c1308 e1306 h1309 => ?_
  obtain ⟨S1304, k1305⟩ := S1298.callG e1306 τ1300
  have L1310 := L1301.k k1305 (by decide)
  refine ⟨_, rfl, ?_⟩
  obtain ⟨r1311, g1312, hp⟩ := bsome hp
  refine s_last (days := r1302) (day := day) S1304.pre h1309 g1312 fun m5 e1315 => ?_
  obtain ⟨S1313, k1314⟩ := S1304.call e1315 τ1300
  have L1316 := L1310.k k1314 (by decide)
  refine ⟨_, rfl, ?_⟩
  obtain ⟨v1317, g1318, hp⟩ := bsome hp
  obtain ⟨n7, g1318i, g1318l, g1318⟩ := idx_some g1318
  obtain ⟨c1319, c1321, c1323, r1325, h1320, h1322, h1324⟩ := rd_Tf ha100 g1318
  refine ⟨n7, g1318i, (by first | exact g1318l | (rw [ha100.slLen]; exact g1318l)), _, _, _, _, _, _, (r1325 _ (Sub.trans k1305.fs S1313.sub)).1, ?_⟩
  obtain ⟨m1329, e1328, S1326, k1327, L1330⟩ := L1316.sto S1313 [(.int .i64 v1317.From), (.bool v1317.Whole), (.int .i64 v1317.Least), c1319, c1321, c1323]
  refine ⟨m1329, e1328, ?_⟩
  refine ⟨_, _, _, _, _, _, L1330.bk.ra, ?_⟩
  obtain rfl := Option.some.inj hp
  exact hq _ f1307 c1319 c1321 c1323 S1326.grw (h1320.sub k1305.fs) (h1322.sub k1305.fs) (h1324.sub k1305.fs)
theorem s_whole {t : Tf} {loss : Int} {ca103 ca104 ca105 : C} {m f : M} {Q : V → M → Prop} {rz : Int} (hS : Pre f m) (ha103 : Sl f ca103 t.Weeks) (ha104 : Sl f ca104 t.Counts) (ha105 : Sl f ca105 t.Rates) (hp : pwhole t loss = some rz) (hq : ∀ m', Ext m m' → Q (.c (.int .i64 rz)) m') : Wc prog tbl 117 [.agg 6 [(.int .i64 t.From), (.bool t.Whole), (.int .i64 t.Least), ca103, ca104, ca105], .c (.int .i64 loss)] m Q := by
  have S0 := hS.st
  obtain ⟨τ0, _⟩ : ∃ τ : Nat → Nat, True := ⟨fun _ => 0, trivial⟩
  refine w117 ?_
  unfold pwhole at hp
  intro m0 e1331
  obtain ⟨τ1334, S1332, k1333, L1335⟩ := S0.blk e1331 τ0 1
  obtain rfl := Option.some.inj hp
  exact hq _ S1332.ext'
theorem s_aboveLeast {t : Tf} {loss : Int} {ca103 ca104 ca105 : C} {m f : M} {Q : V → M → Prop} {rz : Int} (hS : Pre f m) (ha103 : Sl f ca103 t.Weeks) (ha104 : Sl f ca104 t.Counts) (ha105 : Sl f ca105 t.Rates) (hp : paboveLeast t loss = some rz) (hq : ∀ m', Ext m m' → Q (.c (.int .i64 rz)) m') : Wc prog tbl 118 [.agg 6 [(.int .i64 t.From), (.bool t.Whole), (.int .i64 t.Least), ca103, ca104, ca105], .c (.int .i64 loss)] m Q := by
  have S0 := hS.st
  obtain ⟨τ0, _⟩ : ∃ τ : Nat → Nat, True := ⟨fun _ => 0, trivial⟩
  refine w118 ?_
  unfold paboveLeast at hp
  intro m0 e1336
  obtain ⟨τ1339, S1337, k1338, L1340⟩ := S0.blk e1336 τ0 1
  refine ⟨trivial, _, L1340.bk.rc rfl, ?_⟩
  obtain ⟨g1341, hp⟩ := gd_some hp
  refine ⟨g1341, ?_⟩
  obtain rfl := Option.some.inj hp
  exact hq _ S1337.ext'
theorem s_loss {t : Tf} {h : Ht} {ca103 ca104 ca105 : C} {m f : M} {Q : V → M → Prop} {rz : Int} (hS : Pre f m) (ha103 : Sl f ca103 t.Weeks) (ha104 : Sl f ca104 t.Counts) (ha105 : Sl f ca105 t.Rates) (hp : ploss t h = some rz) (hq : ∀ m', Ext m m' → Q (.c (.int .i64 rz)) m') : Wc prog tbl 99 [.agg 6 [(.int .i64 t.From), (.bool t.Whole), (.int .i64 t.Least), ca103, ca104, ca105], .agg 3 [(.int .i64 h.Day), (.int .i64 h.Count), (.int .i64 h.crop)]] m Q := by
  have S0 := hS.st
  obtain ⟨τ0, _⟩ : ∃ τ : Nat → Nat, True := ⟨fun _ => 0, trivial⟩
  refine w99 ?_
  unfold ploss at hp
  intro m0 e1342
  obtain ⟨τ1345, S1343, k1344, L1346⟩ := S0.blk e1342 τ0 1
  intro m1 e1347
  obtain ⟨τ1350, S1348, k1349, L1351⟩ := S1343.blk e1347 τ1345 2
  have L1352 := L1346.k k1349 (by decide)
  refine ⟨trivial, _, L1352.bk.rc rfl, trivial, _, L1351.bk.rc rfl, ?_⟩
  obtain ⟨v1353, g1354, hp⟩ := bsome hp
  obtain ⟨n4, g1354i, g1354l, g1354⟩ := idx_some g1354
  obtain ⟨c1355, r1356, h1357⟩ := ha105.rdS g1354
  refine ⟨n4, g1354i, (by first | exact g1354l | (rw [ha105.slLen]; exact g1354l)), _, (r1356 _ S1348.sub), trivial, _, L1352.bk.rc rfl, trivial, trivial, _, L1351.bk.rc rfl, ?_⟩
  obtain ⟨r1358, g1359, hp⟩ := bsome hp
  refine s_last (days := t.Weeks) (day := h.Day) S1348.pre ha103 g1359 fun m9 e1362 => ?_
  obtain ⟨S1360, k1361⟩ := S1348.call e1362 τ1350
  have L1363 := L1352.k k1361 (by decide)
  have L1364 := L1351.k k1361 (by decide)
  refine ⟨_, rfl, (by rw [show noFnC _ = true from h1357.noFn]; exact (r1356 _ S1360.sub)), (L1364.bk.rc rfl), (by rw [show noFnC _ = true from ha105.noFn]; exact (L1363.bk.rc rfl)), ?_⟩
  obtain ⟨v1365, g1366, hp⟩ := bsome hp
  obtain ⟨n11, g1366i, g1366l, g1366⟩ := idx_some g1366
  obtain ⟨c1367, r1368, h1369⟩ := h1357.rdS g1366
  refine ⟨n11, g1366i, (by first | exact g1366l | (rw [h1357.slLen]; exact g1366l)), _, (r1368 _ S1360.sub), trivial, _, L1363.bk.rc rfl, trivial, trivial, _, L1364.bk.rc rfl, ?_⟩
  obtain ⟨r1370, g1371, hp⟩ := bsome hp
  refine s_bsearch (l := t.Counts) (x := h.Count) S1360.pre ha104 g1371 fun m16 e1374 => ?_
  obtain ⟨S1372, k1373⟩ := S1360.call e1374 τ1350
  have L1375 := L1363.k k1373 (by decide)
  have L1376 := L1364.k k1373 (by decide)
  refine ⟨_, _, rfl, ?_⟩
  rw [ifB_iff]
  refine ⟨fun q1377 => ?_, fun q1377 => ?_⟩
  · skip
    rw [if_pos q1377] at hp
    obtain ⟨x1378, g1379, hp⟩ := bsome hp
    obtain ⟨n19, g1379i, g1379l, g1379⟩ := idx_some g1379
    refine ⟨n19, g1379i, (by first | exact g1379l | (rw [h1369.slLen]; exact g1379l)), _, (h1369.rdI g1379 S1372.sub), ?_⟩
    obtain rfl := Option.some.inj hp
    exact hq _ S1372.ext'
  · skip
    rw [bif_neg q1377] at hp
    refine ⟨trivial, _, L1375.bk.rc rfl, ?_⟩
    obtain ⟨g1380, hp⟩ := gd_some hp
    refine ⟨g1380, ?_⟩
    obtain ⟨x1381, g1382, hp⟩ := bsome hp
    obtain ⟨n22, g1382i, g1382l, g1382⟩ := idx_some g1382
    refine ⟨n22, g1382i, (by first | exact g1382l | (rw [ha104.slLen]; exact g1382l)), _, (ha104.rdI g1382 S1372.sub), trivial, _, L1375.bk.rc rfl, ?_⟩
    obtain ⟨x1383, g1384, hp⟩ := bsome hp
    obtain ⟨n25, g1384i, g1384l, g1384⟩ := idx_some g1384
    refine ⟨n25, g1384i, (by first | exact g1384l | (rw [ha104.slLen]; exact g1384l)), _, (ha104.rdI g1384 S1372.sub), ?_⟩
    obtain ⟨g1385, hp⟩ := gd_some hp
    refine ⟨g1385, ?_⟩
    obtain ⟨x1386, g1387, hp⟩ := bsome hp
    obtain ⟨n27, g1387i, g1387l, g1387⟩ := idx_some g1387
    refine ⟨n27, g1387i, (by first | exact g1387l | (rw [h1369.slLen]; exact g1387l)), _, (h1369.rdI g1387 S1372.sub), trivial, trivial, _, L1376.bk.rc rfl, ?_⟩
    obtain ⟨g1388, hp⟩ := gd_some hp
    refine ⟨g1388, ?_⟩
    obtain ⟨g1389, hp⟩ := gd_some hp
    refine ⟨g1389, ?_⟩
    obtain ⟨g1390, hp⟩ := gd_some hp
    refine ⟨g1390, ?_⟩
    obtain ⟨g1391, hp⟩ := gd_some hp
    refine ⟨g1391, ?_⟩
    obtain ⟨x1392, g1393, hp⟩ := bsome hp
    obtain ⟨n30, g1393i, g1393l, g1393⟩ := idx_some g1393
    refine ⟨n30, g1393i, (by first | exact g1393l | (rw [h1369.slLen]; exact g1393l)), _, (h1369.rdI g1393 S1372.sub), trivial, trivial, _, L1376.bk.rc rfl, ?_⟩
    obtain ⟨g1394, hp⟩ := gd_some hp
    refine ⟨g1394, ?_⟩
    obtain ⟨g1395, hp⟩ := gd_some hp
    refine ⟨g1395, ?_⟩
    obtain ⟨g1396, hp⟩ := gd_some hp
    refine ⟨g1396, ?_⟩
    obtain ⟨g1397, hp⟩ := gd_some hp
    refine ⟨g1397, ?_⟩
    obtain ⟨g1398, hp⟩ := gd_some hp
    refine ⟨g1398, ?_⟩
    obtain ⟨g1399, hp⟩ := gd_some hp
    refine ⟨g1399, ?_⟩
    obtain ⟨g1400, hp⟩ := gd_some hp
    refine ⟨g1400, ?_⟩
    obtain ⟨g1401, hp⟩ := gd_some hp
    refine ⟨g1401, ?_⟩
    obtain ⟨g1402, hp⟩ := gd_some hp
    refine ⟨g1402, ?_⟩
    obtain rfl := Option.some.inj hp
    exact hq _ S1372.ext'
theorem s_minimum {l : List Int} {ca100 : C} {m f : M} {Q : V → M → Prop} {rz : Int} (hS : Pre f m) (ha100 : Sl f ca100 l) (hp : pminimum l = some rz) (hq : ∀ m', Ext m m' → Q (.c (.int .i64 rz)) m') : Wc prog tbl 91 [.c ca100] m Q := by
  have S0 := hS.st
  obtain ⟨τ0, _⟩ : ∃ τ : Nat → Nat, True := ⟨fun _ => 0, trivial⟩
  refine w91 ?_
  unfold pminimum at hp
  refine ⟨ha100.isSl, ?_⟩
  try rw [ha100.slLen]
  rw [ifB_dec]
  refine ⟨fun q1403 => ?_, fun q1403 => ?_⟩
  · skip
    rw [if_pos q1403] at hp
    obtain rfl := Option.some.inj hp
    exact hq _ S0.ext'
  · skip
    rw [if_neg q1403] at hp
    obtain ⟨x1404, g1405, hp⟩ := bsome hp
    obtain ⟨n0, g1405i, g1405l, g1405⟩ := idx_some g1405
    refine ⟨n0, g1405i, (by first | exact g1405l | (rw [ha100.slLen]; exact g1405l)), _, (ha100.rdI g1405 S0.sub), ha100.isSl, ?_⟩
    intro R2 hR2
    have hgo : ∀ (d1408 : Nat) (x3 : Int) (x4 : Int) (m5 : M) (τ1407 : Nat → Nat), St (Fm.of m) f f m5 → pminimum_L0 l d1408 x3 x4 = some rz → R2 [.c (.int .i64 x3), .c (.int .i64 x4)] m5 := by
      intro d1408
      induction d1408 with
      | zero => intro x3 x4 m5 τ1407 S1406 hp; cases hp
      | succ d1408 ihR2 =>
        intro x3 x4 m5 τ1407 S1406 hp
        refine hR2 _ _ _ ?_
        rw [pminimum_L0] at hp
        try rw [ha100.slLen]
        rw [ifB_dec]
        refine ⟨fun q1409 => ?_, fun q1409 => ?_⟩
        · skip
          rw [if_pos q1409] at hp
          obtain ⟨x1410, g1411, hp⟩ := bsome hp
          obtain ⟨n6, g1411i, g1411l, g1411⟩ := idx_some g1411
          refine ⟨n6, g1411i, (by first | exact g1411l | (rw [ha100.slLen]; exact g1411l)), _, (ha100.rdI g1411 S1406.sub), ?_⟩
          rw [ifB_dec]
          refine ⟨fun q1412 => ?_, fun q1412 => ?_⟩
          · skip
            rw [if_pos q1412] at hp
            obtain ⟨g1413, hp⟩ := gd_some hp
            refine ⟨g1413, ?_⟩
            exact ihR2 _ _ _ τ1407 S1406 hp
          · skip
            rw [if_neg q1412] at hp
            obtain ⟨g1414, hp⟩ := gd_some hp
            refine ⟨g1414, ?_⟩
            exact ihR2 _ _ _ τ1407 S1406 hp
        · skip
          rw [if_neg q1409] at hp
          obtain rfl := Option.some.inj hp
          exact hq _ S1406.ext'
    exact hgo _ _ _ _ τ0 S0 hp
theorem s_sMax {l : List Int} {ca100 : C} {m f : M} {Q : V → M → Prop} {rz : Int} (hS : Pre f m) (ha100 : Sl f ca100 l) (hp : psMax l = some rz) (hq : ∀ m', Ext m m' → Q (.c (.int .i64 rz)) m') : Wc prog tbl 92 [.c ca100] m Q := by
  have S0 := hS.st
  obtain ⟨τ0, _⟩ : ∃ τ : Nat → Nat, True := ⟨fun _ => 0, trivial⟩
  refine w92 ?_
  unfold psMax at hp
  refine ⟨ha100.isSl, ?_⟩
  try rw [ha100.slLen]
  rw [ifB_dec]
  refine ⟨fun q1415 => ?_, fun q1415 => ?_⟩
  · skip
    rw [if_pos q1415] at hp
    cases hp
  · skip
    rw [if_neg q1415] at hp
    obtain ⟨x1416, g1417, hp⟩ := bsome hp
    obtain ⟨n0, g1417i, g1417l, g1417⟩ := idx_some g1417
    refine ⟨n0, g1417i, (by first | exact g1417l | (rw [ha100.slLen]; exact g1417l)), _, (ha100.rdI g1417 S0.sub), ?_⟩
    intro R2 hR2
    have hgo : ∀ (d1420 : Nat) (x3 : Int) (x4 : Int) (m5 : M) (τ1419 : Nat → Nat), St (Fm.of m) f f m5 → psMax_L0 l d1420 x3 x4 = some rz → R2 [.c (.int .i64 x3), .c (.int .i64 x4)] m5 := by
      intro d1420
      induction d1420 with
      | zero => intro x3 x4 m5 τ1419 S1418 hp; cases hp
      | succ d1420 ihR2 =>
        intro x3 x4 m5 τ1419 S1418 hp
        refine hR2 _ _ _ ?_
        rw [psMax_L0] at hp
        refine ⟨ha100.isSl, ?_⟩
        try rw [ha100.slLen]
        rw [ifB_dec]
        refine ⟨fun q1421 => ?_, fun q1421 => ?_⟩
        · skip
          rw [if_pos q1421] at hp
          obtain ⟨x1422, g1423, hp⟩ := bsome hp
          obtain ⟨n6, g1423i, g1423l, g1423⟩ := idx_some g1423
          refine ⟨n6, g1423i, (by first | exact g1423l | (rw [ha100.slLen]; exact g1423l)), _, (ha100.rdI g1423 S1418.sub), ?_⟩
          obtain ⟨g1424, hp⟩ := gd_some hp
          refine ⟨g1424, ?_⟩
          exact ihR2 _ _ _ τ1419 S1418 hp
        · skip
          rw [if_neg q1421] at hp
          obtain rfl := Option.some.inj hp
          exact hq _ S1418.ext'
    exact hgo _ _ _ _ τ0 S0 hp
theorem s_eachTf1 {x : Tf} {passes : Tf → Option (Bool)} {b0 : Nat} {ca103 ca104 ca105 cb000 : C} {m f : M} {Q : V → M → Prop} {rz : Bool} (hS : Pre f m) (ha103 : Sl f ca103 x.Weeks) (ha104 : Sl f ca104 x.Counts) (ha105 : Sl f ca105 x.Rates) (hb0 : Bk f b0 1 [cb000]) (hb000 : Fv_Tf_Bool f cb000 passes) (hp : peachTf1 x passes = some rz) (hq : ∀ m', Ext m m' → Q (.c (.bool rz)) m') : Wc prog tbl 104 [.agg 6 [(.int .i64 x.From), (.bool x.Whole), (.int .i64 x.Least), ca103, ca104, ca105], .c (.ptr b0 0)] m Q := by
  have S0 := hS.st
  obtain ⟨τ0, _⟩ : ∃ τ : Nat → Nat, True := ⟨fun _ => 0, trivial⟩
  refine c104 ?_
  unfold peachTf1 at hp
  intro m0 e1425
  obtain ⟨τ1428, S1426, k1427, L1429⟩ := S0.blk e1425 τ0 1
  refine ⟨_, (hb0.sub S1426.sub).rc rfl, _, _, _, _, _, _, L1429.bk.ra, ?_⟩
  obtain ⟨r1430, g1431, hp⟩ := bsome hp
  refine hb000 _ _ _ _ _ _ _ _ (Sub.refl _) S1426.pre ha103 ha104 ha105 g1431 fun m9 e1434 => ?_
  obtain ⟨S1432, k1433⟩ := S1426.call e1434 τ1428
  have L1435 := L1429.k k1433 (by decide)
  refine ⟨_, rfl, ?_⟩
  obtain rfl := Option.some.inj hp
  exact hq _ S1432.ext'
theorem s_indexTf {l : List Tf} {p : Tf → Option (Bool)} {ca100 ca200 : C} {m f : M} {Q : V → M → Prop} {rz : Int} (hS : Pre f m) (ha100 : Sl f ca100 l) (ha200 : Fv_Tf_Bool f ca200 p) (hp : pindexTf l p = some rz) (hq : ∀ m', Ext m m' → Q (.c (.int .i64 rz)) m') : Wc prog tbl 119 [.c ca100, .c ca200] m Q := by
  have S0 := hS.st
  obtain ⟨τ0, _⟩ : ∃ τ : Nat → Nat, True := ⟨fun _ => 0, trivial⟩
  refine w119 ?_
  unfold pindexTf at hp
  refine ⟨ha100.isSl, ?_⟩
  intro R0 hR0
  have hgo : ∀ (d1438 : Nat) (x1 : Int) (x2 : Int) (m3 : M) (τ1437 : Nat → Nat), St (Fm.of m) f f m3 → pindexTf_L0 l p d1438 x2 = some rz → R0 [.c (.int .i64 x1), .c (.int .i64 x2)] m3 := by
    intro d1438
    induction d1438 with
    | zero => intro x1 x2 m3 τ1437 S1436 hp; cases hp
    | succ d1438 ihR0 =>
      intro x1 x2 m3 τ1437 S1436 hp
      refine hR0 _ _ _ ?_
      rw [pindexTf_L0] at hp
      try rw [ha100.slLen]
      rw [ifB_dec]
      refine ⟨fun q1439 => ?_, fun q1439 => ?_⟩
      · skip
        rw [if_pos q1439] at hp
        obtain ⟨v1440, g1441, hp⟩ := bsome hp
        obtain ⟨n4, g1441i, g1441l, g1441⟩ := idx_some g1441
        obtain ⟨c1442, c1444, c1446, r1448, h1443, h1445, h1447⟩ := rd_Tf ha100 g1441
        refine ⟨n4, g1441i, (by first | exact g1441l | (rw [ha100.slLen]; exact g1441l)), _, _, _, _, _, _, (r1448 _ S1436.sub).1, ?_⟩
        obtain ⟨r1449, g1450, hp⟩ := bsome hp
        refine ha200 _ _ _ _ _ _ _ _ (Sub.refl _) S1436.pre h1443 h1445 h1447 g1450 fun m12 e1453 => ?_
        obtain ⟨S1451, k1452⟩ := S1436.call e1453 τ1437
        refine ⟨_, rfl, ?_⟩
        rw [ifB_iff]
        refine ⟨fun q1454 => ?_, fun q1454 => ?_⟩
        · skip
          rw [if_pos q1454] at hp
          obtain rfl := Option.some.inj hp
          exact hq _ S1451.ext'
        · skip
          rw [bif_neg q1454] at hp
          obtain ⟨g1455, hp⟩ := gd_some hp
          refine ⟨g1455, ?_⟩
          exact ihR0 _ _ _ τ1437 S1451 hp
      · skip
        rw [if_neg q1439] at hp
        obtain rfl := Option.some.inj hp
        exact hq _ S1436.ext'
  exact hgo _ _ _ _ τ0 S0 hp
theorem s_containsTf {l : List Tf} {p : Tf → Option (Bool)} {ca100 ca200 : C} {m f : M} {Q : V → M → Prop} {rz : Bool} (hS : Pre f m) (ha100 : Sl f ca100 l) (ha200 : Fv_Tf_Bool f ca200 p) (hp : pcontainsTf l p = some rz) (hq : ∀ m', Ext m m' → Q (.c (.bool rz)) m') : Wc prog tbl 103 [.c ca100, .c ca200] m Q := by
  have S0 := hS.st
  obtain ⟨τ0, _⟩ : ∃ τ : Nat → Nat, True := ⟨fun _ => 0, trivial⟩
  refine w103 ?_
  unfold pcontainsTf at hp
  obtain ⟨r1456, g1457, hp⟩ := bsome hp
  refine s_indexTf (l := l) (p := p) S0.pre ha100 ha200 g1457 fun m1 e1460 => ?_
  obtain ⟨S1458, k1459⟩ := S0.call e1460 τ0
  refine ⟨_, rfl, ?_⟩
  obtain rfl := Option.some.inj hp
  exact hq _ S1458.ext'
theorem s_eachTf {l : List Tf} {passes : Tf → Option (Bool)} {ca100 ca200 : C} {m f : M} {Q : V → M → Prop} {rz : Bool} (hS : Pre f m) (ha100 : Sl f ca100 l) (ha200 : Fv_Tf_Bool f ca200 passes) (hp : peachTf l passes = some rz) (hq : ∀ m', Ext m m' → Q (.c (.bool rz)) m') : Wc prog tbl 84 [.c ca100, .c ca200] m Q := by
  have S0 := hS.st
  obtain ⟨τ0, _⟩ : ∃ τ : Nat → Nat, True := ⟨fun _ => 0, trivial⟩
  refine w84 ?_
  unfold peachTf at hp
  intro m0 e1461
  obtain ⟨τ1464, S1462, k1463, L1465⟩ := S0.blk e1461 τ0 1
  obtain ⟨f1466, S1467, k1468, hb1469⟩ := L1465.freeze S1462
  have hF1477 : Fv_Tf_Bool f1466 ((C.fn (Fn.func 104) [] [(W.c (C0.ptr m.nxt 0))])) (fun a1470 => peachTf1 a1470 passes) := by
    intro f' m' a1470 c1471 c1473 c1475 r Q hs hpre h1472 h1474 h1476 hg hq
    exact s_eachTf1 hpre h1472 h1474 h1476 (hb1469.sub hs) ((ha200.sub k1468.fs).sub hs) hg hq
  obtain ⟨r1478, g1479, hp⟩ := bsome hp
  refine s_containsTf (l := l) (p := (fun a1470 => peachTf1 a1470 passes)) S1467.pre (ha100.sub k1468.fs) hF1477 g1479 fun m2 e1482 => ?_
  obtain ⟨S1480, k1481⟩ := S1467.call e1482 τ1464
  refine ⟨_, rfl, ?_⟩
  obtain rfl := Option.some.inj hp
  exact hq _ S1480.ext'
theorem s_indexTfs {l : List Tf} {p : Tf → Option (Bool)} {ca100 ca200 : C} {m f : M} {Q : V → M → Prop} {rz : Int} (hS : Pre f m) (ha100 : Sl f ca100 l) (ha200 : Fv_Tf_Bool f ca200 p) (hp : pindexTfs l p = some rz) (hq : ∀ m', Ext m m' → Q (.c (.int .i64 rz)) m') : Wc prog tbl 102 [.c ca100, .c ca200] m Q := by
  have S0 := hS.st
  obtain ⟨τ0, _⟩ : ∃ τ : Nat → Nat, True := ⟨fun _ => 0, trivial⟩
  refine w102 ?_
  unfold pindexTfs at hp
  refine ⟨ha100.isSl, ?_⟩
  intro R0 hR0
  have hgo : ∀ (d1485 : Nat) (x1 : Int) (x2 : Int) (m3 : M) (τ1484 : Nat → Nat), St (Fm.of m) f f m3 → pindexTfs_L0 l p d1485 x2 = some rz → R0 [.c (.int .i64 x1), .c (.int .i64 x2)] m3 := by
    intro d1485
    induction d1485 with
    | zero => intro x1 x2 m3 τ1484 S1483 hp; cases hp
    | succ d1485 ihR0 =>
      intro x1 x2 m3 τ1484 S1483 hp
      refine hR0 _ _ _ ?_
      rw [pindexTfs_L0] at hp
      try rw [ha100.slLen]
      rw [ifB_dec]
      refine ⟨fun q1486 => ?_, fun q1486 => ?_⟩
      · skip
        rw [if_pos q1486] at hp
        obtain ⟨v1487, g1488, hp⟩ := bsome hp
        obtain ⟨n4, g1488i, g1488l, g1488⟩ := idx_some g1488
        obtain ⟨c1489, c1491, c1493, r1495, h1490, h1492, h1494⟩ := rd_Tf ha100 g1488
        refine ⟨n4, g1488i, (by first | exact g1488l | (rw [ha100.slLen]; exact g1488l)), _, _, _, _, _, _, (r1495 _ S1483.sub).1, ?_⟩
        obtain ⟨r1496, g1497, hp⟩ := bsome hp
        refine ha200 _ _ _ _ _ _ _ _ (Sub.refl _) S1483.pre h1490 h1492 h1494 g1497 fun m12 e1500 => ?_
        obtain ⟨S1498, k1499⟩ := S1483.call e1500 τ1484
        refine ⟨_, rfl, ?_⟩
        rw [ifB_iff]
        refine ⟨fun q1501 => ?_, fun q1501 => ?_⟩
        · skip
          rw [if_pos q1501] at hp
          obtain rfl := Option.some.inj hp
          exact hq _ S1498.ext'
        · skip
          rw [bif_neg q1501] at hp
          obtain ⟨g1502, hp⟩ := gd_some hp
          refine ⟨g1502, ?_⟩
          exact ihR0 _ _ _ τ1484 S1498 hp
      · skip
        rw [if_neg q1486] at hp
        obtain rfl := Option.some.inj hp
        exact hq _ S1483.ext'
  exact hgo _ _ _ _ τ0 S0 hp
theorem s_containsTfs {l : List Tf} {p : Tf → Option (Bool)} {ca100 ca200 : C} {m f : M} {Q : V → M → Prop} {rz : Bool} (hS : Pre f m) (ha100 : Sl f ca100 l) (ha200 : Fv_Tf_Bool f ca200 p) (hp : pcontainsTfs l p = some rz) (hq : ∀ m', Ext m m' → Q (.c (.bool rz)) m') : Wc prog tbl 82 [.c ca100, .c ca200] m Q := by
  have S0 := hS.st
  obtain ⟨τ0, _⟩ : ∃ τ : Nat → Nat, True := ⟨fun _ => 0, trivial⟩
  refine w82 ?_
  unfold pcontainsTfs at hp
  obtain ⟨r1503, g1504, hp⟩ := bsome hp
  refine s_indexTfs (l := l) (p := p) S0.pre ha100 ha200 g1504 fun m1 e1507 => ?_
  obtain ⟨S1505, k1506⟩ := S0.call e1507 τ0
  refine ⟨_, rfl, ?_⟩
  obtain rfl := Option.some.inj hp
  exact hq _ S1505.ext'
theorem s_eachCl1 {x : Clm} {passes : Clm → Option (Bool)} {b0 : Nat} {cb000 : C} {m f : M} {Q : V → M → Prop} {rz : Bool} (hS : Pre f m) (hb0 : Bk f b0 1 [cb000]) (hb000 : Fv_Clm_Bool f cb000 passes) (hp : peachCl1 x passes = some rz) (hq : ∀ m', Ext m m' → Q (.c (.bool rz)) m') : Wc prog tbl 110 [.agg 6 [(.int .i64 x.Crop), (.int .i64 x.Value), (.int .i64 x.Day.Lo), (.int .i64 x.Day.Hi), (.int .i64 x.Count.Lo), (.int .i64 x.Count.Hi)], .c (.ptr b0 0)] m Q := by
  have S0 := hS.st
  obtain ⟨τ0, _⟩ : ∃ τ : Nat → Nat, True := ⟨fun _ => 0, trivial⟩
  refine c110 ?_
  unfold peachCl1 at hp
  intro m0 e1508
  obtain ⟨τ1511, S1509, k1510, L1512⟩ := S0.blk e1508 τ0 1
  refine ⟨_, (hb0.sub S1509.sub).rc rfl, _, _, _, _, _, _, L1512.bk.ra, ?_⟩
  obtain ⟨r1513, g1514, hp⟩ := bsome hp
  refine hb000 _ _ _ _ _ (Sub.refl _) S1509.pre  g1514 fun m9 e1517 => ?_
  obtain ⟨S1515, k1516⟩ := S1509.call e1517 τ1511
  have L1518 := L1512.k k1516 (by decide)
  refine ⟨_, rfl, ?_⟩
  obtain rfl := Option.some.inj hp
  exact hq _ S1515.ext'
theorem s_indexCl {l : List Clm} {p : Clm → Option (Bool)} {ca100 ca200 : C} {m f : M} {Q : V → M → Prop} {rz : Int} (hS : Pre f m) (ha100 : Sl f ca100 l) (ha200 : Fv_Clm_Bool f ca200 p) (hp : pindexCl l p = some rz) (hq : ∀ m', Ext m m' → Q (.c (.int .i64 rz)) m') : Wc prog tbl 126 [.c ca100, .c ca200] m Q := by
  have S0 := hS.st
  obtain ⟨τ0, _⟩ : ∃ τ : Nat → Nat, True := ⟨fun _ => 0, trivial⟩
  refine w126 ?_
  unfold pindexCl at hp
  refine ⟨ha100.isSl, ?_⟩
  intro R0 hR0
  have hgo : ∀ (d1521 : Nat) (x1 : Int) (x2 : Int) (m3 : M) (τ1520 : Nat → Nat), St (Fm.of m) f f m3 → pindexCl_L0 l p d1521 x2 = some rz → R0 [.c (.int .i64 x1), .c (.int .i64 x2)] m3 := by
    intro d1521
    induction d1521 with
    | zero => intro x1 x2 m3 τ1520 S1519 hp; cases hp
    | succ d1521 ihR0 =>
      intro x1 x2 m3 τ1520 S1519 hp
      refine hR0 _ _ _ ?_
      rw [pindexCl_L0] at hp
      try rw [ha100.slLen]
      rw [ifB_dec]
      refine ⟨fun q1522 => ?_, fun q1522 => ?_⟩
      · skip
        rw [if_pos q1522] at hp
        obtain ⟨v1523, g1524, hp⟩ := bsome hp
        obtain ⟨n4, g1524i, g1524l, g1524⟩ := idx_some g1524
        obtain ⟨_, r1525⟩ := rd_Clm ha100 g1524
        refine ⟨n4, g1524i, (by first | exact g1524l | (rw [ha100.slLen]; exact g1524l)), _, _, _, _, _, _, (r1525 _ S1519.sub).1, ?_⟩
        obtain ⟨r1526, g1527, hp⟩ := bsome hp
        refine ha200 _ _ _ _ _ (Sub.refl _) S1519.pre  g1527 fun m12 e1530 => ?_
        obtain ⟨S1528, k1529⟩ := S1519.call e1530 τ1520
        refine ⟨_, rfl, ?_⟩
        rw [ifB_iff]
        refine ⟨fun q1531 => ?_, fun q1531 => ?_⟩
        · skip
          rw [if_pos q1531] at hp
          obtain rfl := Option.some.inj hp
          exact hq _ S1528.ext'
        · skip
          rw [bif_neg q1531] at hp
          obtain ⟨g1532, hp⟩ := gd_some hp
          refine ⟨g1532, ?_⟩
          exact ihR0 _ _ _ τ1520 S1528 hp
      · skip
        rw [if_neg q1522] at hp
        obtain rfl := Option.some.inj hp
        exact hq _ S1519.ext'
  exact hgo _ _ _ _ τ0 S0 hp
theorem s_containsCl {l : List Clm} {p : Clm → Option (Bool)} {ca100 ca200 : C} {m f : M} {Q : V → M → Prop} {rz : Bool} (hS : Pre f m) (ha100 : Sl f ca100 l) (ha200 : Fv_Clm_Bool f ca200 p) (hp : pcontainsCl l p = some rz) (hq : ∀ m', Ext m m' → Q (.c (.bool rz)) m') : Wc prog tbl 109 [.c ca100, .c ca200] m Q := by
  have S0 := hS.st
  obtain ⟨τ0, _⟩ : ∃ τ : Nat → Nat, True := ⟨fun _ => 0, trivial⟩
  refine w109 ?_
  unfold pcontainsCl at hp
  obtain ⟨r1533, g1534, hp⟩ := bsome hp
  refine s_indexCl (l := l) (p := p) S0.pre ha100 ha200 g1534 fun m1 e1537 => ?_
  obtain ⟨S1535, k1536⟩ := S0.call e1537 τ0
  refine ⟨_, rfl, ?_⟩
  obtain rfl := Option.some.inj hp
  exact hq _ S1535.ext'
theorem s_eachCl {l : List Clm} {passes : Clm → Option (Bool)} {ca100 ca200 : C} {m f : M} {Q : V → M → Prop} {rz : Bool} (hS : Pre f m) (ha100 : Sl f ca100 l) (ha200 : Fv_Clm_Bool f ca200 passes) (hp : peachCl l passes = some rz) (hq : ∀ m', Ext m m' → Q (.c (.bool rz)) m') : Wc prog tbl 89 [.c ca100, .c ca200] m Q := by
  have S0 := hS.st
  obtain ⟨τ0, _⟩ : ∃ τ : Nat → Nat, True := ⟨fun _ => 0, trivial⟩
  refine w89 ?_
  unfold peachCl at hp
  intro m0 e1538
  obtain ⟨τ1541, S1539, k1540, L1542⟩ := S0.blk e1538 τ0 1
  obtain ⟨f1543, S1544, k1545, hb1546⟩ := L1542.freeze S1539
  have hF1548 : Fv_Clm_Bool f1543 ((C.fn (Fn.func 110) [] [(W.c (C0.ptr m.nxt 0))])) (fun a1547 => peachCl1 a1547 passes) := by
    intro f' m' a1547 r Q hs hpre  hg hq
    exact s_eachCl1 hpre (hb1546.sub hs) ((ha200.sub k1545.fs).sub hs) hg hq
  obtain ⟨r1549, g1550, hp⟩ := bsome hp
  refine s_containsCl (l := l) (p := (fun a1547 => peachCl1 a1547 passes)) S1544.pre (ha100.sub k1545.fs) hF1548 g1550 fun m2 e1553 => ?_
  obtain ⟨S1551, k1552⟩ := S1544.call e1553 τ1541
  refine ⟨_, rfl, ?_⟩
  obtain rfl := Option.some.inj hp
  exact hq _ S1551.ext'
theorem s_eachI1 {x : Int} {passes : Int → Option (Bool)} {b0 : Nat} {cb000 : C} {m f : M} {Q : V → M → Prop} {rz : Bool} (hS : Pre f m) (hb0 : Bk f b0 1 [cb000]) (hb000 : Fv_Int_Bool f cb000 passes) (hp : peachI1 x passes = some rz) (hq : ∀ m', Ext m m' → Q (.c (.bool rz)) m') : Wc prog tbl 121 [.c (.int .i64 x), .c (.ptr b0 0)] m Q := by
  have S0 := hS.st
  obtain ⟨τ0, _⟩ : ∃ τ : Nat → Nat, True := ⟨fun _ => 0, trivial⟩
  refine c121 ?_
  unfold peachI1 at hp
  refine ⟨_, (hb0.sub S0.sub).rc rfl, ?_⟩
  obtain ⟨r1554, g1555, hp⟩ := bsome hp
  refine hb000 _ _ _ _ _ (Sub.refl _) S0.pre  g1555 fun m2 e1558 => ?_
  obtain ⟨S1556, k1557⟩ := S0.call e1558 τ0
  refine ⟨_, rfl, ?_⟩
  obtain rfl := Option.some.inj hp
  exact hq _ S1556.ext'
theorem s_indexI {l : List Int} {p : Int → Option (Bool)} {ca100 ca200 : C} {m f : M} {Q : V → M → Prop} {rz : Int} (hS : Pre f m) (ha100 : Sl f ca100 l) (ha200 : Fv_Int_Bool f ca200 p) (hp : pindexI l p = some rz) (hq : ∀ m', Ext m m' → Q (.c (.int .i64 rz)) m') : Wc prog tbl 131 [.c ca100, .c ca200] m Q := by
  have S0 := hS.st
  obtain ⟨τ0, _⟩ : ∃ τ : Nat → Nat, True := ⟨fun _ => 0, trivial⟩
  refine w131 ?_
  unfold pindexI at hp
  refine ⟨ha100.isSl, ?_⟩
  intro R0 hR0
  have hgo : ∀ (d1561 : Nat) (x1 : Int) (x2 : Int) (m3 : M) (τ1560 : Nat → Nat), St (Fm.of m) f f m3 → pindexI_L0 l p d1561 x2 = some rz → R0 [.c (.int .i64 x1), .c (.int .i64 x2)] m3 := by
    intro d1561
    induction d1561 with
    | zero => intro x1 x2 m3 τ1560 S1559 hp; cases hp
    | succ d1561 ihR0 =>
      intro x1 x2 m3 τ1560 S1559 hp
      refine hR0 _ _ _ ?_
      rw [pindexI_L0] at hp
      try rw [ha100.slLen]
      rw [ifB_dec]
      refine ⟨fun q1562 => ?_, fun q1562 => ?_⟩
      · skip
        rw [if_pos q1562] at hp
        obtain ⟨x1563, g1564, hp⟩ := bsome hp
        obtain ⟨n4, g1564i, g1564l, g1564⟩ := idx_some g1564
        refine ⟨n4, g1564i, (by first | exact g1564l | (rw [ha100.slLen]; exact g1564l)), _, (ha100.rdI g1564 S1559.sub), ?_⟩
        obtain ⟨r1565, g1566, hp⟩ := bsome hp
        refine ha200 _ _ _ _ _ (Sub.refl _) S1559.pre  g1566 fun m7 e1569 => ?_
        obtain ⟨S1567, k1568⟩ := S1559.call e1569 τ1560
        refine ⟨_, rfl, ?_⟩
        rw [ifB_iff]
        refine ⟨fun q1570 => ?_, fun q1570 => ?_⟩
        · skip
          rw [if_pos q1570] at hp
          obtain rfl := Option.some.inj hp
          exact hq _ S1567.ext'
        · skip
          rw [bif_neg q1570] at hp
          obtain ⟨g1571, hp⟩ := gd_some hp
          refine ⟨g1571, ?_⟩
          exact ihR0 _ _ _ τ1560 S1567 hp
      · skip
        rw [if_neg q1562] at hp
        obtain rfl := Option.some.inj hp
        exact hq _ S1559.ext'
  exact hgo _ _ _ _ τ0 S0 hp
theorem s_containsI {l : List Int} {p : Int → Option (Bool)} {ca100 ca200 : C} {m f : M} {Q : V → M → Prop} {rz : Bool} (hS : Pre f m) (ha100 : Sl f ca100 l) (ha200 : Fv_Int_Bool f ca200 p) (hp : pcontainsI l p = some rz) (hq : ∀ m', Ext m m' → Q (.c (.bool rz)) m') : Wc prog tbl 120 [.c ca100, .c ca200] m Q := by
  have S0 := hS.st
  obtain ⟨τ0, _⟩ : ∃ τ : Nat → Nat, True := ⟨fun _ => 0, trivial⟩
  refine w120 ?_
  unfold pcontainsI at hp
  obtain ⟨r1572, g1573, hp⟩ := bsome hp
  refine s_indexI (l := l) (p := p) S0.pre ha100 ha200 g1573 fun m1 e1576 => ?_
  obtain ⟨S1574, k1575⟩ := S0.call e1576 τ0
  refine ⟨_, rfl, ?_⟩
  obtain rfl := Option.some.inj hp
  exact hq _ S1574.ext'
theorem s_eachI {l : List Int} {passes : Int → Option (Bool)} {ca100 ca200 : C} {m f : M} {Q : V → M → Prop} {rz : Bool} (hS : Pre f m) (ha100 : Sl f ca100 l) (ha200 : Fv_Int_Bool f ca200 passes) (hp : peachI l passes = some rz) (hq : ∀ m', Ext m m' → Q (.c (.bool rz)) m') : Wc prog tbl 106 [.c ca100, .c ca200] m Q := by
  have S0 := hS.st
  obtain ⟨τ0, _⟩ : ∃ τ : Nat → Nat, True := ⟨fun _ => 0, trivial⟩
  refine w106 ?_
  unfold peachI at hp
  intro m0 e1577
  obtain ⟨τ1580, S1578, k1579, L1581⟩ := S0.blk e1577 τ0 1
  obtain ⟨f1582, S1583, k1584, hb1585⟩ := L1581.freeze S1578
  have hF1587 : Fv_Int_Bool f1582 ((C.fn (Fn.func 121) [] [(W.c (C0.ptr m.nxt 0))])) (fun a1586 => peachI1 a1586 passes) := by
    intro f' m' a1586 r Q hs hpre  hg hq
    exact s_eachI1 hpre (hb1585.sub hs) ((ha200.sub k1584.fs).sub hs) hg hq
  obtain ⟨r1588, g1589, hp⟩ := bsome hp
  refine s_containsI (l := l) (p := (fun a1586 => peachI1 a1586 passes)) S1583.pre (ha100.sub k1584.fs) hF1587 g1589 fun m2 e1592 => ?_
  obtain ⟨S1590, k1591⟩ := S1583.call e1592 τ1580
  refine ⟨_, rfl, ?_⟩
  obtain rfl := Option.some.inj hp
  exact hq _ S1590.ext'
theorem s_eachL1 {x : List Int} {passes : List Int → Option (Bool)} {b0 : Nat} {ca100 cb000 : C} {m f : M} {Q : V → M → Prop} {rz : Bool} (hS : Pre f m) (ha100 : Sl f ca100 x) (hb0 : Bk f b0 1 [cb000]) (hb000 : Fv_LInt_Bool f cb000 passes) (hp : peachL1 x passes = some rz) (hq : ∀ m', Ext m m' → Q (.c (.bool rz)) m') : Wc prog tbl 134 [.c ca100, .c (.ptr b0 0)] m Q := by
  have S0 := hS.st
  obtain ⟨τ0, _⟩ : ∃ τ : Nat → Nat, True := ⟨fun _ => 0, trivial⟩
  refine c134 ?_
  unfold peachL1 at hp
  refine ⟨_, (hb0.sub S0.sub).rc rfl, ?_⟩
  obtain ⟨r1593, g1594, hp⟩ := bsome hp
  refine hb000 _ _ _ _ _ _ (Sub.refl _) S0.pre ha100 g1594 fun m2 e1597 => ?_
  obtain ⟨S1595, k1596⟩ := S0.call e1597 τ0
  refine ⟨_, rfl, ?_⟩
  obtain rfl := Option.some.inj hp
  exact hq _ S1595.ext'
theorem s_indexL {l : List (List Int)} {p : List Int → Option (Bool)} {ca100 ca200 : C} {m f : M} {Q : V → M → Prop} {rz : Int} (hS : Pre f m) (ha100 : Sl f ca100 l) (ha200 : Fv_LInt_Bool f ca200 p) (hp : pindexL l p = some rz) (hq : ∀ m', Ext m m' → Q (.c (.int .i64 rz)) m') : Wc prog tbl 135 [.c ca100, .c ca200] m Q := by
  have S0 := hS.st
  obtain ⟨τ0, _⟩ : ∃ τ : Nat → Nat, True := ⟨fun _ => 0, trivial⟩
  refine w135 ?_
  unfold pindexL at hp
  refine ⟨ha100.isSl, ?_⟩
  intro R0 hR0
  have hgo : ∀ (d1600 : Nat) (x1 : Int) (x2 : Int) (m3 : M) (τ1599 : Nat → Nat), St (Fm.of m) f f m3 → pindexL_L0 l p d1600 x2 = some rz → R0 [.c (.int .i64 x1), .c (.int .i64 x2)] m3 := by
    intro d1600
    induction d1600 with
    | zero => intro x1 x2 m3 τ1599 S1598 hp; cases hp
    | succ d1600 ihR0 =>
      intro x1 x2 m3 τ1599 S1598 hp
      refine hR0 _ _ _ ?_
      rw [pindexL_L0] at hp
      try rw [ha100.slLen]
      rw [ifB_dec]
      refine ⟨fun q1601 => ?_, fun q1601 => ?_⟩
      · skip
        rw [if_pos q1601] at hp
        obtain ⟨v1602, g1603, hp⟩ := bsome hp
        obtain ⟨n4, g1603i, g1603l, g1603⟩ := idx_some g1603
        obtain ⟨c1604, r1605, h1606⟩ := ha100.rdS g1603
        refine ⟨n4, g1603i, (by first | exact g1603l | (rw [ha100.slLen]; exact g1603l)), _, (r1605 _ S1598.sub), ?_⟩
        obtain ⟨r1607, g1608, hp⟩ := bsome hp
        refine ha200 _ _ _ _ _ _ (Sub.refl _) S1598.pre h1606 g1608 fun m7 e1611 => ?_
        obtain ⟨S1609, k1610⟩ := S1598.call e1611 τ1599
        refine ⟨_, rfl, ?_⟩
        rw [ifB_iff]
        refine ⟨fun q1612 => ?_, fun q1612 => ?_⟩
        · skip
          rw [if_pos q1612] at hp
          obtain rfl := Option.some.inj hp
          exact hq _ S1609.ext'
        · skip
          rw [bif_neg q1612] at hp
          obtain ⟨g1613, hp⟩ := gd_some hp
          refine ⟨g1613, ?_⟩
          exact ihR0 _ _ _ τ1599 S1609 hp
      · skip
        rw [if_neg q1601] at hp
        obtain rfl := Option.some.inj hp
        exact hq _ S1598.ext'
  exact hgo _ _ _ _ τ0 S0 hp
theorem s_containsL {l : List (List Int)} {p : List Int → Option (Bool)} {ca100 ca200 : C} {m f : M} {Q : V → M → Prop} {rz : Bool} (hS : Pre f m) (ha100 : Sl f ca100 l) (ha200 : Fv_LInt_Bool f ca200 p) (hp : pcontainsL l p = some rz) (hq : ∀ m', Ext m m' → Q (.c (.bool rz)) m') : Wc prog tbl 133 [.c ca100, .c ca200] m Q := by
  have S0 := hS.st
  obtain ⟨τ0, _⟩ : ∃ τ : Nat → Nat, True := ⟨fun _ => 0, trivial⟩
  refine w133 ?_
  unfold pcontainsL at hp
  obtain ⟨r1614, g1615, hp⟩ := bsome hp
  refine s_indexL (l := l) (p := p) S0.pre ha100 ha200 g1615 fun m1 e1618 => ?_
  obtain ⟨S1616, k1617⟩ := S0.call e1618 τ0
  refine ⟨_, rfl, ?_⟩
  obtain rfl := Option.some.inj hp
  exact hq _ S1616.ext'
theorem s_eachL {l : List (List Int)} {passes : List Int → Option (Bool)} {ca100 ca200 : C} {m f : M} {Q : V → M → Prop} {rz : Bool} (hS : Pre f m) (ha100 : Sl f ca100 l) (ha200 : Fv_LInt_Bool f ca200 passes) (hp : peachL l passes = some rz) (hq : ∀ m', Ext m m' → Q (.c (.bool rz)) m') : Wc prog tbl 124 [.c ca100, .c ca200] m Q := by
  have S0 := hS.st
  obtain ⟨τ0, _⟩ : ∃ τ : Nat → Nat, True := ⟨fun _ => 0, trivial⟩
  refine w124 ?_
  unfold peachL at hp
  intro m0 e1619
  obtain ⟨τ1622, S1620, k1621, L1623⟩ := S0.blk e1619 τ0 1
  obtain ⟨f1624, S1625, k1626, hb1627⟩ := L1623.freeze S1620
  have hF1631 : Fv_LInt_Bool f1624 ((C.fn (Fn.func 134) [] [(W.c (C0.ptr m.nxt 0))])) (fun a1628 => peachL1 a1628 passes) := by
    intro f' m' a1628 c1629 r Q hs hpre h1630 hg hq
    exact s_eachL1 hpre h1630 (hb1627.sub hs) ((ha200.sub k1626.fs).sub hs) hg hq
  obtain ⟨r1632, g1633, hp⟩ := bsome hp
  refine s_containsL (l := l) (p := (fun a1628 => peachL1 a1628 passes)) S1625.pre (ha100.sub k1626.fs) hF1631 g1633 fun m2 e1636 => ?_
  obtain ⟨S1634, k1635⟩ := S1625.call e1636 τ1622
  refine ⟨_, rfl, ?_⟩
  obtain rfl := Option.some.inj hp
  exact hq _ S1634.ext'
theorem s_eachLL1 {x : List (List Int)} {passes : List (List Int) → Option (Bool)} {b0 : Nat} {ca100 cb000 : C} {m f : M} {Q : V → M → Prop} {rz : Bool} (hS : Pre f m) (ha100 : Sl f ca100 x) (hb0 : Bk f b0 1 [cb000]) (hb000 : Fv_LLInt_Bool f cb000 passes) (hp : peachLL1 x passes = some rz) (hq : ∀ m', Ext m m' → Q (.c (.bool rz)) m') : Wc prog tbl 123 [.c ca100, .c (.ptr b0 0)] m Q := by
  have S0 := hS.st
  obtain ⟨τ0, _⟩ : ∃ τ : Nat → Nat, True := ⟨fun _ => 0, trivial⟩
  refine c123 ?_
  unfold peachLL1 at hp
  refine ⟨_, (hb0.sub S0.sub).rc rfl, ?_⟩
  obtain ⟨r1637, g1638, hp⟩ := bsome hp
  refine hb000 _ _ _ _ _ _ (Sub.refl _) S0.pre ha100 g1638 fun m2 e1641 => ?_
  obtain ⟨S1639, k1640⟩ := S0.call e1641 τ0
  refine ⟨_, rfl, ?_⟩
  obtain rfl := Option.some.inj hp
  exact hq _ S1639.ext'
theorem s_indexLL {l : List (List (List Int))} {p : List (List Int) → Option (Bool)} {ca100 ca200 : C} {m f : M} {Q : V → M → Prop} {rz : Int} (hS : Pre f m) (ha100 : Sl f ca100 l) (ha200 : Fv_LLInt_Bool f ca200 p) (hp : pindexLL l p = some rz) (hq : ∀ m', Ext m m' → Q (.c (.int .i64 rz)) m') : Wc prog tbl 132 [.c ca100, .c ca200] m Q := by
  have S0 := hS.st
  obtain ⟨τ0, _⟩ : ∃ τ : Nat → Nat, True := ⟨fun _ => 0, trivial⟩
  refine w132 ?_
  unfold pindexLL at hp
  refine ⟨ha100.isSl, ?_⟩
  intro R0 hR0
  have hgo : ∀ (d1644 : Nat) (x1 : Int) (x2 : Int) (m3 : M) (τ1643 : Nat → Nat), St (Fm.of m) f f m3 → pindexLL_L0 l p d1644 x2 = some rz → R0 [.c (.int .i64 x1), .c (.int .i64 x2)] m3 := by
    intro d1644
    induction d1644 with
    | zero => intro x1 x2 m3 τ1643 S1642 hp; cases hp
    | succ d1644 ihR0 =>
      intro x1 x2 m3 τ1643 S1642 hp
      refine hR0 _ _ _ ?_
      rw [pindexLL_L0] at hp
      try rw [ha100.slLen]
      rw [ifB_dec]
      refine ⟨fun q1645 => ?_, fun q1645 => ?_⟩
      · skip
        rw [if_pos q1645] at hp
        obtain ⟨v1646, g1647, hp⟩ := bsome hp
        obtain ⟨n4, g1647i, g1647l, g1647⟩ := idx_some g1647
        obtain ⟨c1648, r1649, h1650⟩ := ha100.rdS g1647
        refine ⟨n4, g1647i, (by first | exact g1647l | (rw [ha100.slLen]; exact g1647l)), _, (r1649 _ S1642.sub), ?_⟩
        obtain ⟨r1651, g1652, hp⟩ := bsome hp
        refine ha200 _ _ _ _ _ _ (Sub.refl _) S1642.pre h1650 g1652 fun m7 e1655 => ?_
        obtain ⟨S1653, k1654⟩ := S1642.call e1655 τ1643
        refine ⟨_, rfl, ?_⟩
        rw [ifB_iff]
        refine ⟨fun q1656 => ?_, fun q1656 => ?_⟩
        · skip
          rw [if_pos q1656] at hp
          obtain rfl := Option.some.inj hp
          exact hq _ S1653.ext'
        · skip
          rw [bif_neg q1656] at hp
          obtain ⟨g1657, hp⟩ := gd_some hp
          refine ⟨g1657, ?_⟩
          exact ihR0 _ _ _ τ1643 S1653 hp
      · skip
        rw [if_neg q1645] at hp
        obtain rfl := Option.some.inj hp
        exact hq _ S1642.ext'
  exact hgo _ _ _ _ τ0 S0 hp
theorem s_containsLL {l : List (List (List Int))} {p : List (List Int) → Option (Bool)} {ca100 ca200 : C} {m f : M} {Q : V → M → Prop} {rz : Bool} (hS : Pre f m) (ha100 : Sl f ca100 l) (ha200 : Fv_LLInt_Bool f ca200 p) (hp : pcontainsLL l p = some rz) (hq : ∀ m', Ext m m' → Q (.c (.bool rz)) m') : Wc prog tbl 122 [.c ca100, .c ca200] m Q := by
  have S0 := hS.st
  obtain ⟨τ0, _⟩ : ∃ τ : Nat → Nat, True := ⟨fun _ => 0, trivial⟩
  refine w122 ?_
  unfold pcontainsLL at hp
  obtain ⟨r1658, g1659, hp⟩ := bsome hp
  refine s_indexLL (l := l) (p := p) S0.pre ha100 ha200 g1659 fun m1 e1662 => ?_
  obtain ⟨S1660, k1661⟩ := S0.call e1662 τ0
  refine ⟨_, rfl, ?_⟩
  obtain rfl := Option.some.inj hp
  exact hq _ S1660.ext'
theorem s_eachLL {l : List (List (List Int))} {passes : List (List Int) → Option (Bool)} {ca100 ca200 : C} {m f : M} {Q : V → M → Prop} {rz : Bool} (hS : Pre f m) (ha100 : Sl f ca100 l) (ha200 : Fv_LLInt_Bool f ca200 passes) (hp : peachLL l passes = some rz) (hq : ∀ m', Ext m m' → Q (.c (.bool rz)) m') : Wc prog tbl 107 [.c ca100, .c ca200] m Q := by
  have S0 := hS.st
  obtain ⟨τ0, _⟩ : ∃ τ : Nat → Nat, True := ⟨fun _ => 0, trivial⟩
  refine w107 ?_
  unfold peachLL at hp
  intro m0 e1663
  obtain ⟨τ1666, S1664, k1665, L1667⟩ := S0.blk e1663 τ0 1
  obtain ⟨f1668, S1669, k1670, hb1671⟩ := L1667.freeze S1664
  have hF1675 : Fv_LLInt_Bool f1668 ((C.fn (Fn.func 123) [] [(W.c (C0.ptr m.nxt 0))])) (fun a1672 => peachLL1 a1672 passes) := by
    intro f' m' a1672 c1673 r Q hs hpre h1674 hg hq
    exact s_eachLL1 hpre h1674 (hb1671.sub hs) ((ha200.sub k1670.fs).sub hs) hg hq
  obtain ⟨r1676, g1677, hp⟩ := bsome hp
  refine s_containsLL (l := l) (p := (fun a1672 => peachLL1 a1672 passes)) S1669.pre (ha100.sub k1670.fs) hF1675 g1677 fun m2 e1680 => ?_
  obtain ⟨S1678, k1679⟩ := S1669.call e1680 τ1666
  refine ⟨_, rfl, ?_⟩
  obtain rfl := Option.some.inj hp
  exact hq _ S1678.ext'
theorem s_within {r : Rg} {passes : Int → Option (Bool)} {ca200 : C} {m f : M} {Q : V → M → Prop} {rz : Bool} (hS : Pre f m) (ha200 : Fv_Int_Bool f ca200 passes) (hp : pwithin r passes = some rz) (hq : ∀ m', Ext m m' → Q (.c (.bool rz)) m') : Wc prog tbl 111 [.agg 2 [(.int .i64 r.Lo), (.int .i64 r.Hi)], .c ca200] m Q := by
  have S0 := hS.st
  obtain ⟨τ0, _⟩ : ∃ τ : Nat → Nat, True := ⟨fun _ => 0, trivial⟩
  refine w111 ?_
  unfold pwithin at hp
  intro m0 e1681
  obtain ⟨τ1684, S1682, k1683, L1685⟩ := S0.blk e1681 τ0 1
  refine ⟨trivial, _, L1685.bk.rc rfl, trivial, _, L1685.bk.rc rfl, ?_⟩
  rw [ifB_dec]
  refine ⟨fun q1686 => ?_, fun q1686 => ?_⟩
  · skip
    rw [if_pos q1686] at hp
    refine ⟨trivial, _, L1685.bk.rc rfl, ?_⟩
    obtain ⟨r1687, g1688, hp⟩ := bsome hp
    refine ha200 _ _ _ _ _ (Sub.refl _) S1682.pre  g1688 fun m5 e1691 => ?_
    obtain ⟨S1689, k1690⟩ := S1682.call e1691 τ1684
    have L1692 := L1685.k k1690 (by decide)
    refine ⟨_, rfl, ?_⟩
    rw [ifB_iff]
    refine ⟨fun q1693 => ?_, fun q1693 => ?_⟩
    · skip
      rw [if_pos q1693] at hp
      refine ⟨trivial, _, L1692.bk.rc rfl, ?_⟩
      obtain ⟨r1694, g1695, hp⟩ := bsome hp
      refine ha200 _ _ _ _ _ (Sub.refl _) S1689.pre  g1695 fun m9 e1698 => ?_
      obtain ⟨S1696, k1697⟩ := S1689.call e1698 τ1684
      have L1699 := L1692.k k1697 (by decide)
      refine ⟨_, rfl, ?_⟩
      obtain rfl := Option.some.inj hp
      exact hq _ S1696.ext'
    · skip
      rw [bif_neg q1693] at hp
      obtain rfl := Option.some.inj hp
      exact hq _ S1689.ext'
  · skip
    rw [if_neg q1686] at hp
    obtain rfl := Option.some.inj hp
    exact hq _ S1682.ext'
theorem s_validWeek {t : Tf} {rates : List Int} {ca103 ca104 ca105 ca200 : C} {m f : M} {Q : V → M → Prop} {rz : Bool} (hS : Pre f m) (ha103 : Sl f ca103 t.Weeks) (ha104 : Sl f ca104 t.Counts) (ha105 : Sl f ca105 t.Rates) (ha200 : Sl f ca200 rates) (hp : pvalidWeek t rates = some rz) (hq : ∀ m', Ext m m' → Q (.c (.bool rz)) m') : Wc prog tbl 125 [.agg 6 [(.int .i64 t.From), (.bool t.Whole), (.int .i64 t.Least), ca103, ca104, ca105], .c ca200] m Q := by
  have S0 := hS.st
  obtain ⟨τ0, _⟩ : ∃ τ : Nat → Nat, True := ⟨fun _ => 0, trivial⟩
  refine w125 ?_
  unfold pvalidWeek at hp
  intro m0 e1700
  obtain ⟨τ1703, S1701, k1702, L1704⟩ := S0.blk e1700 τ0 1
  refine ⟨ha200.isSl, trivial, _, L1704.bk.rc rfl, ha104.isSl, ?_⟩
  try rw [ha200.slLen]
  try rw [ha104.slLen]
  rw [ifB_dec]
  refine ⟨fun q1705 => ?_, fun q1705 => ?_⟩
  · skip
    rw [if_pos q1705] at hp
    have hF1707 : Fv_Int_Bool f ((C.fn (Fn.func 105) [] [])) (fun a1706 => pisHundredths a1706) := by
      intro f' m' a1706 r Q hs hpre  hg hq
      exact s_isHundredths hpre  hg hq
    obtain ⟨r1708, g1709, hp⟩ := bsome hp
    refine s_eachI (l := rates) (passes := (fun a1706 => pisHundredths a1706)) S1701.pre ha200 hF1707 g1709 fun m3 e1712 => ?_
    obtain ⟨S1710, k1711⟩ := S1701.call e1712 τ1703
    have L1713 := L1704.k k1711 (by decide)
    refine ⟨_, rfl, ?_⟩
    obtain rfl := Option.some.inj hp
    exact hq _ S1710.ext'
  · skip
    rw [if_neg q1705] at hp
    obtain rfl := Option.some.inj hp
    exact hq _ S1701.ext'
theorem s_validCrop {t : Tf} {weeks : List (List Int)} {ca103 ca104 ca105 ca200 : C} {m f : M} {Q : V → M → Prop} {rz : Bool} (hS : Pre f m) (ha103 : Sl f ca103 t.Weeks) (ha104 : Sl f ca104 t.Counts) (ha105 : Sl f ca105 t.Rates) (ha200 : Sl f ca200 weeks) (hp : pvalidCrop t weeks = some rz) (hq : ∀ m', Ext m m' → Q (.c (.bool rz)) m') : Wc prog tbl 108 [.agg 6 [(.int .i64 t.From), (.bool t.Whole), (.int .i64 t.Least), ca103, ca104, ca105], .c ca200] m Q := by
  have S0 := hS.st
  obtain ⟨τ0, _⟩ : ∃ τ : Nat → Nat, True := ⟨fun _ => 0, trivial⟩
  refine w108 ?_
  unfold pvalidCrop at hp
  intro m0 e1714
  obtain ⟨τ1717, S1715, k1716, L1718⟩ := S0.blk e1714 τ0 1
  refine ⟨ha200.isSl, trivial, _, L1718.bk.rc rfl, ha103.isSl, ?_⟩
  try rw [ha200.slLen]
  try rw [ha103.slLen]
  rw [ifB_dec]
  refine ⟨fun q1719 => ?_, fun q1719 => ?_⟩
  · skip
    rw [if_pos q1719] at hp
    refine ⟨_, _, _, _, _, _, L1718.bk.ra, ?_⟩
    obtain ⟨l8, wl8, el8⟩ : ∃ ws, mapO vW [.agg 6 [(.int .i64 t.From), (.bool t.Whole), (.int .i64 t.Least), ca103, ca104, ca105]] = some ws ∧ mapS wV ws = [.agg 6 [(.int .i64 t.From), (.bool t.Whole), (.int .i64 t.Least), ca103, ca104, ca105]] := (vWs_cons (vW_agg (nf_cons rfl (nf_cons rfl (nf_cons rfl (nf_cons ha103.noFn (nf_cons ha104.noFn (nf_cons ha105.noFn nf_nil))))))) vWs_nil)
    rw [wl8, optB_some]
    have hF1723 : Fv_LInt_Bool f ((C.fn (Fn.func 125) l8 [])) (fun a1720 => pvalidWeek t a1720) := by
      intro f' m' a1720 c1721 r Q hs hpre h1722 hg hq
      show Wc prog tbl 125 (appS (mapS wV l8) _) m' Q
      rw [el8]
      exact s_validWeek hpre (ha103.sub hs) (ha104.sub hs) (ha105.sub hs) h1722 hg hq
    obtain ⟨r1724, g1725, hp⟩ := bsome hp
    refine s_eachL (l := weeks) (passes := (fun a1720 => pvalidWeek t a1720)) S1715.pre ha200 hF1723 g1725 fun m10 e1728 => ?_
    obtain ⟨S1726, k1727⟩ := S1715.call e1728 τ1717
    have L1729 := L1718.k k1727 (by decide)
    refine ⟨_, rfl, ?_⟩
    obtain rfl := Option.some.inj hp
    exact hq _ S1726.ext'
  · skip
    rw [if_neg q1719] at hp
    obtain rfl := Option.some.inj hp
    exact hq _ S1715.ext'
theorem s_tfValid {t : Tf} {ca103 ca104 ca105 : C} {m f : M} {Q : V → M → Prop} {rz : Bool} (hS : Pre f m) (ha103 : Sl f ca103 t.Weeks) (ha104 : Sl f ca104 t.Counts) (ha105 : Sl f ca105 t.Rates) (hp : ptfValid t = some rz) (hq : ∀ m', Ext m m' → Q (.c (.bool rz)) m') : Wc prog tbl 85 [.agg 6 [(.int .i64 t.From), (.bool t.Whole), (.int .i64 t.Least), ca103, ca104, ca105]] m Q := by
  have S0 := hS.st
  obtain ⟨τ0, _⟩ : ∃ τ : Nat → Nat, True := ⟨fun _ => 0, trivial⟩
  refine w85 ?_
  unfold ptfValid at hp
  intro m0 e1730
  obtain ⟨τ1733, S1731, k1732, L1734⟩ := S0.blk e1730 τ0 1
  refine ⟨trivial, _, L1734.bk.rc rfl, ?_⟩
  obtain ⟨r1735, g1736, hp⟩ := bsome hp
  refine s_isDay (n := t.From) S1731.pre  g1736 fun m3 e1739 => ?_
  obtain ⟨S1737, k1738⟩ := S1731.call e1739 τ1733
  have L1740 := L1734.k k1738 (by decide)
  refine ⟨_, rfl, ?_⟩
  rw [ifB_iff]
  refine ⟨fun q1741 => ?_, fun q1741 => ?_⟩
  · skip
    rw [if_pos q1741] at hp
    refine ⟨trivial, _, L1740.bk.rc rfl, ?_⟩
    obtain ⟨r1742, g1743, hp⟩ := bsome hp
    refine s_isHundredths (n := t.Least) S1737.pre  g1743 fun m7 e1746 => ?_
    obtain ⟨S1744, k1745⟩ := S1737.call e1746 τ1733
    have L1747 := L1740.k k1745 (by decide)
    refine ⟨_, rfl, ?_⟩
    rw [ifB_iff]
    refine ⟨fun q1748 => ?_, fun q1748 => ?_⟩
    · skip
      rw [if_pos q1748] at hp
      refine ⟨trivial, _, L1747.bk.rc rfl, ?_⟩
      obtain ⟨r1749, g1750, hp⟩ := bsome hp
      refine s_rises (l := t.Weeks) S1744.pre ha103 g1750 fun m11 e1753 => ?_
      obtain ⟨S1751, k1752⟩ := S1744.call e1753 τ1733
      have L1754 := L1747.k k1752 (by decide)
      refine ⟨_, rfl, ?_⟩
      rw [ifB_iff]
      refine ⟨fun q1755 => ?_, fun q1755 => ?_⟩
      · skip
        rw [if_pos q1755] at hp
        refine ⟨trivial, _, L1754.bk.rc rfl, ?_⟩
        have hF1757 : Fv_Int_Bool f ((C.fn (Fn.func 55) [] [])) (fun a1756 => pisDay a1756) := by
          intro f' m' a1756 r Q hs hpre  hg hq
          exact s_isDay hpre  hg hq
        obtain ⟨r1758, g1759, hp⟩ := bsome hp
        refine s_eachI (l := t.Weeks) (passes := (fun a1756 => pisDay a1756)) S1751.pre ha103 hF1757 g1759 fun m15 e1762 => ?_
        obtain ⟨S1760, k1761⟩ := S1751.call e1762 τ1733
        have L1763 := L1754.k k1761 (by decide)
        refine ⟨_, rfl, ?_⟩
        rw [ifB_iff]
        refine ⟨fun q1764 => ?_, fun q1764 => ?_⟩
        · skip
          rw [if_pos q1764] at hp
          refine ⟨trivial, _, L1763.bk.rc rfl, ?_⟩
          obtain ⟨r1765, g1766, hp⟩ := bsome hp
          refine s_rises (l := t.Counts) S1760.pre ha104 g1766 fun m19 e1769 => ?_
          obtain ⟨S1767, k1768⟩ := S1760.call e1769 τ1733
          have L1770 := L1763.k k1768 (by decide)
          refine ⟨_, rfl, ?_⟩
          rw [ifB_iff]
          refine ⟨fun q1771 => ?_, fun q1771 => ?_⟩
          · skip
            rw [if_pos q1771] at hp
            refine ⟨trivial, _, L1770.bk.rc rfl, trivial, _, L1770.bk.rc rfl, ha104.isSl, ?_⟩
            obtain ⟨g1772, hp⟩ := gd_some hp
            refine ⟨(by first | exact g1772 | (rw [ha104.slLen]; exact g1772)), ?_⟩
            obtain ⟨x1773, g1774, hp⟩ := bsome hp
            obtain ⟨n23, g1774i, g1774l, g1774⟩ := idx_some g1774
            refine ⟨n23, (by first | exact g1774i | (rw [ha104.slLen]; exact g1774i)), (by first | exact g1774l | (rw [ha104.slLen]; exact g1774l)), _, (ha104.rdI g1774 S1767.sub), ?_⟩
            rw [ifB_dec]
            refine ⟨fun q1775 => ?_, fun q1775 => ?_⟩
            · skip
              rw [if_pos q1775] at hp
              refine ⟨trivial, _, L1770.bk.rc rfl, ha105.isSl, ?_⟩
              try rw [ha105.slLen]
              rw [ifB_dec]
              refine ⟨fun q1776 => ?_, fun q1776 => ?_⟩
              · skip
                rw [if_pos q1776] at hp
                refine ⟨trivial, _, L1770.bk.rc rfl, _, _, _, _, _, _, L1770.bk.ra, ?_⟩
                obtain ⟨l33, wl33, el33⟩ : ∃ ws, mapO vW [.agg 6 [(.int .i64 t.From), (.bool t.Whole), (.int .i64 t.Least), ca103, ca104, ca105]] = some ws ∧ mapS wV ws = [.agg 6 [(.int .i64 t.From), (.bool t.Whole), (.int .i64 t.Least), ca103, ca104, ca105]] := (vWs_cons (vW_agg (nf_cons rfl (nf_cons rfl (nf_cons rfl (nf_cons ha103.noFn (nf_cons ha104.noFn (nf_cons ha105.noFn nf_nil))))))) vWs_nil)
                rw [wl33, optB_some]
                have hF1780 : Fv_LLInt_Bool f ((C.fn (Fn.func 108) l33 [])) (fun a1777 => pvalidCrop t a1777) := by
                  intro f' m' a1777 c1778 r Q hs hpre h1779 hg hq
                  show Wc prog tbl 108 (appS (mapS wV l33) _) m' Q
                  rw [el33]
                  exact s_validCrop hpre (ha103.sub hs) (ha104.sub hs) (ha105.sub hs) h1779 hg hq
                obtain ⟨r1781, g1782, hp⟩ := bsome hp
                refine s_eachLL (l := t.Rates) (passes := (fun a1777 => pvalidCrop t a1777)) S1767.pre ha105 hF1780 g1782 fun m35 e1785 => ?_
                obtain ⟨S1783, k1784⟩ := S1767.call e1785 τ1733
                have L1786 := L1770.k k1784 (by decide)
                refine ⟨_, rfl, ?_⟩
                obtain rfl := Option.some.inj hp
                exact hq _ S1783.ext'
              · skip
                rw [if_neg q1776] at hp
                obtain rfl := Option.some.inj hp
                exact hq _ S1767.ext'
            · skip
              rw [if_neg q1775] at hp
              obtain rfl := Option.some.inj hp
              exact hq _ S1767.ext'
          · skip
            rw [bif_neg q1771] at hp
            obtain rfl := Option.some.inj hp
            exact hq _ S1767.ext'
        · skip
          rw [bif_neg q1764] at hp
          obtain rfl := Option.some.inj hp
          exact hq _ S1760.ext'
      · skip
        rw [bif_neg q1755] at hp
        obtain rfl := Option.some.inj hp
        exact hq _ S1751.ext'
    · skip
      rw [bif_neg q1748] at hp
      obtain rfl := Option.some.inj hp
      exact hq _ S1744.ext'
  · skip
    rw [bif_neg q1741] at hp
    obtain rfl := Option.some.inj hp
    exact hq _ S1737.ext'
theorem s_tooMany {l : List Tf} {ca100 : C} {m f : M} {Q : V → M → Prop} {rz : Bool} (hS : Pre f m) (ha100 : Sl f ca100 l) (hp : ptooMany l = some rz) (hq : ∀ m', Ext m m' → Q (.c (.bool rz)) m') : Wc prog tbl 60 [.c ca100] m Q := by
  have S0 := hS.st
  obtain ⟨τ0, _⟩ : ∃ τ : Nat → Nat, True := ⟨fun _ => 0, trivial⟩
  refine w60 ?_
  unfold ptooMany at hp
  refine ⟨ha100.isSl, ?_⟩
  try rw [ha100.slLen]
  rw [ifB_dec]
  refine ⟨fun q1787 => ?_, fun q1787 => ?_⟩
  · skip
    rw [if_pos q1787] at hp
    obtain rfl := Option.some.inj hp
    exact hq _ S0.ext'
  · skip
    rw [if_neg q1787] at hp
    have hF1795 : Fv_Tf_Bool f ((C.fn (Fn.func 83) [] [])) (fun a1788 => ptfTooMany a1788) := by
      intro f' m' a1788 c1789 c1791 c1793 r Q hs hpre h1790 h1792 h1794 hg hq
      exact s_tfTooMany hpre h1790 h1792 h1794 hg hq
    obtain ⟨r1796, g1797, hp⟩ := bsome hp
    refine s_containsTfs (l := l) (p := (fun a1788 => ptfTooMany a1788)) S0.pre ha100 hF1795 g1797 fun m1 e1800 => ?_
    obtain ⟨S1798, k1799⟩ := S0.call e1800 τ0
    refine ⟨_, rfl, ?_⟩
    obtain rfl := Option.some.inj hp
    exact hq _ S1798.ext'
theorem s_tfsValid {l : List Tf} {ca100 : C} {m f : M} {Q : V → M → Prop} {rz : Bool} (hS : Pre f m) (ha100 : Sl f ca100 l) (hp : ptfsValid l = some rz) (hq : ∀ m', Ext m m' → Q (.c (.bool rz)) m') : Wc prog tbl 61 [.c ca100] m Q := by
  have S0 := hS.st
  obtain ⟨τ0, _⟩ : ∃ τ : Nat → Nat, True := ⟨fun _ => 0, trivial⟩
  refine w61 ?_
  unfold ptfsValid at hp
  have hF1808 : Fv_Tf_Bool f ((C.fn (Fn.func 85) [] [])) (fun a1801 => ptfValid a1801) := by
    intro f' m' a1801 c1802 c1804 c1806 r Q hs hpre h1803 h1805 h1807 hg hq
    exact s_tfValid hpre h1803 h1805 h1807 hg hq
  obtain ⟨r1809, g1810, hp⟩ := bsome hp
  refine s_eachTf (l := l) (passes := (fun a1801 => ptfValid a1801)) S0.pre ha100 hF1808 g1810 fun m1 e1813 => ?_
  obtain ⟨S1811, k1812⟩ := S0.call e1813 τ0
  refine ⟨_, rfl, ?_⟩
  rw [ifB_iff]
  refine ⟨fun q1814 => ?_, fun q1814 => ?_⟩
  · skip
    rw [if_pos q1814] at hp
    obtain ⟨r1815, g1816, hp⟩ := bsome hp
    refine s_froms (l := l) S1811.pre ha100 g1816 fun m4 f1820 c1821 e1819 h1822 => ?_
    obtain ⟨S1817, k1818⟩ := S1811.callG e1819 τ0
    refine ⟨_, rfl, ?_⟩
    obtain ⟨r1823, g1824, hp⟩ := bsome hp
    refine s_rises (l := r1815) S1817.pre h1822 g1824 fun m7 e1827 => ?_
    obtain ⟨S1825, k1826⟩ := S1817.call e1827 τ0
    refine ⟨_, rfl, ?_⟩
    rw [ifB_iff]
    refine ⟨fun q1828 => ?_, fun q1828 => ?_⟩
    · skip
      rw [if_pos q1828] at hp
      obtain ⟨l9, wl9, el9⟩ : ∃ ws, mapO vW [.c ca100] = some ws ∧ mapS wV ws = [.c ca100] := (vWs_cons (vW_c ha100.noFn) vWs_nil)
      rw [wl9, optB_some]
      have hF1836 : Fv_Tf_Bool f1820 ((C.fn (Fn.func 88) l9 [])) (fun a1829 => psameCrops l a1829) := by
        intro f' m' a1829 c1830 c1832 c1834 r Q hs hpre h1831 h1833 h1835 hg hq
        show Wc prog tbl 88 (appS (mapS wV l9) _) m' Q
        rw [el9]
        exact s_sameCrops hpre ((ha100.sub k1818.fs).sub hs) h1831 h1833 h1835 hg hq
      obtain ⟨r1837, g1838, hp⟩ := bsome hp
      refine s_eachTf (l := l) (passes := (fun a1829 => psameCrops l a1829)) S1825.pre (ha100.sub k1818.fs) hF1836 g1838 fun m11 e1841 => ?_
      obtain ⟨S1839, k1840⟩ := S1825.call e1841 τ0
      refine ⟨_, rfl, ?_⟩
      obtain rfl := Option.some.inj hp
      exact hq _ S1839.ext'
    · skip
      rw [bif_neg q1828] at hp
      obtain rfl := Option.some.inj hp
      exact hq _ S1825.ext'
  · skip
    rw [bif_neg q1814] at hp
    obtain rfl := Option.some.inj hp
    exact hq _ S1811.ext'
theorem s_validClaim {l : List Tf} {c : Clm} {ca100 : C} {m f : M} {Q : V → M → Prop} {rz : Bool} (hS : Pre f m) (ha100 : Sl f ca100 l) (hp : pvalidClaim l c = some rz) (hq : ∀ m', Ext m m' → Q (.c (.bool rz)) m') : Wc prog tbl 90 [.c ca100, .agg 6 [(.int .i64 c.Crop), (.int .i64 c.Value), (.int .i64 c.Day.Lo), (.int .i64 c.Day.Hi), (.int .i64 c.Count.Lo), (.int .i64 c.Count.Hi)]] m Q := by
  have S0 := hS.st
  obtain ⟨τ0, _⟩ : ∃ τ : Nat → Nat, True := ⟨fun _ => 0, trivial⟩
  refine w90 ?_
  unfold pvalidClaim at hp
  intro m0 e1842
  obtain ⟨τ1845, S1843, k1844, L1846⟩ := S0.blk e1842 τ0 1
  refine ⟨trivial, _, L1846.bk.rc rfl, ?_⟩
  obtain ⟨r1847, g1848, hp⟩ := bsome hp
  refine s_hasCrop (l := l) (n := c.Crop) S1843.pre ha100 g1848 fun m3 e1851 => ?_
  obtain ⟨S1849, k1850⟩ := S1843.call e1851 τ1845
  have L1852 := L1846.k k1850 (by decide)
  refine ⟨_, rfl, ?_⟩
  rw [ifB_iff]
  refine ⟨fun q1853 => ?_, fun q1853 => ?_⟩
  · skip
    rw [if_pos q1853] at hp
    refine ⟨trivial, _, L1852.bk.rc rfl, ?_⟩
    obtain ⟨r1854, g1855, hp⟩ := bsome hp
    refine s_has (r := ({ Lo := (0 : Int), Hi := (100000 : Int) } : Rg)) (n := c.Value) S1849.pre  g1855 fun m7 e1858 => ?_
    obtain ⟨S1856, k1857⟩ := S1849.call e1858 τ1845
    have L1859 := L1852.k k1857 (by decide)
    refine ⟨_, rfl, ?_⟩
    rw [ifB_iff]
    refine ⟨fun q1860 => ?_, fun q1860 => ?_⟩
    · skip
      rw [if_pos q1860] at hp
      refine ⟨trivial, _, _, L1859.bk.rp (k := 2) (j := 2) rfl (by omega), ?_⟩
      have hF1862 : Fv_Int_Bool f ((C.fn (Fn.func 55) [] [])) (fun a1861 => pisDay a1861) := by
        intro f' m' a1861 r Q hs hpre  hg hq
        exact s_isDay hpre  hg hq
      obtain ⟨r1863, g1864, hp⟩ := bsome hp
      refine s_within (r := c.Day) (passes := (fun a1861 => pisDay a1861)) S1856.pre hF1862 g1864 fun m12 e1867 => ?_
      obtain ⟨S1865, k1866⟩ := S1856.call e1867 τ1845
      have L1868 := L1859.k k1866 (by decide)
      refine ⟨_, rfl, ?_⟩
      rw [ifB_iff]
      refine ⟨fun q1869 => ?_, fun q1869 => ?_⟩
      · skip
        rw [if_pos q1869] at hp
        refine ⟨trivial, trivial, _, L1868.bk.rc rfl, trivial, trivial, _, L1868.bk.rc rfl, ?_⟩
        obtain ⟨g1870, hp⟩ := gd_some hp
        refine ⟨g1870, ?_⟩
        rw [ifB_dec]
        refine ⟨fun q1871 => ?_, fun q1871 => ?_⟩
        · skip
          rw [if_pos q1871] at hp
          refine ⟨trivial, _, _, L1868.bk.rp (k := 4) (j := 2) rfl (by omega), ?_⟩
          have hF1873 : Fv_Int_Bool f ((C.fn (Fn.func 56) [] [])) (fun a1872 => pisCount a1872) := by
            intro f' m' a1872 r Q hs hpre  hg hq
            exact s_isCount hpre  hg hq
          obtain ⟨r1874, g1875, hp⟩ := bsome hp
          refine s_within (r := c.Count) (passes := (fun a1872 => pisCount a1872)) S1865.pre hF1873 g1875 fun m19 e1878 => ?_
          obtain ⟨S1876, k1877⟩ := S1865.call e1878 τ1845
          have L1879 := L1868.k k1877 (by decide)
          refine ⟨_, rfl, ?_⟩
          obtain rfl := Option.some.inj hp
          exact hq _ S1876.ext'
        · skip
          rw [if_neg q1871] at hp
          obtain rfl := Option.some.inj hp
          exact hq _ S1865.ext'
      · skip
        rw [bif_neg q1869] at hp
        obtain rfl := Option.some.inj hp
        exact hq _ S1865.ext'
    · skip
      rw [bif_neg q1860] at hp
      obtain rfl := Option.some.inj hp
      exact hq _ S1856.ext'
  · skip
    rw [bif_neg q1853] at hp
    obtain rfl := Option.some.inj hp
    exact hq _ S1849.ext'
theorem s_check {l : List Tf} {ca100 : C} {m f : M} {Q : V → M → Prop} {rz : Int} (hS : Pre f m) (ha100 : Sl f ca100 l) (hp : pcheck l = some rz) (hq : ∀ m', Ext m m' → Q (.c (.int .i64 rz)) m') : Wc prog tbl 21 [.c ca100] m Q := by
  have S0 := hS.st
  obtain ⟨τ0, _⟩ : ∃ τ : Nat → Nat, True := ⟨fun _ => 0, trivial⟩
  refine w21 ?_
  unfold pcheck at hp
  obtain ⟨r1880, g1881, hp⟩ := bsome hp
  refine s_tooMany (l := l) S0.pre ha100 g1881 fun m1 e1884 => ?_
  obtain ⟨S1882, k1883⟩ := S0.call e1884 τ0
  refine ⟨_, rfl, ?_⟩
  rw [ifB_iff]
  refine ⟨fun q1885 => ?_, fun q1885 => ?_⟩
  · skip
    rw [if_pos q1885] at hp
    obtain rfl := Option.some.inj hp
    exact hq _ S1882.ext'
  · skip
    rw [bif_neg q1885] at hp
    obtain ⟨r1886, g1887, hp⟩ := bsome hp
    refine s_tfsValid (l := l) S1882.pre ha100 g1887 fun m4 e1890 => ?_
    obtain ⟨S1888, k1889⟩ := S1882.call e1890 τ0
    refine ⟨_, rfl, ?_⟩
    rw [ifB_iff]
    refine ⟨fun q1891 => ?_, fun q1891 => ?_⟩
    · skip
      rw [bif_neg (nb_f q1891)] at hp
      obtain rfl := Option.some.inj hp
      exact hq _ S1888.ext'
    · skip
      rw [if_pos (nb_t q1891)] at hp
      obtain rfl := Option.some.inj hp
      exact hq _ S1888.ext'
theorem s_manner {t : Tf} {ca103 ca104 ca105 : C} {m f : M} {Q : V → M → Prop} {rz : Mnr} (hS : Pre f m) (ha103 : Sl f ca103 t.Weeks) (ha104 : Sl f ca104 t.Counts) (ha105 : Sl f ca105 t.Rates) (hp : pmanner t = some rz) (hq : ∀ m' f' c0, Grw m f m' f' → Fv_Tf_Int_Int f' c0 rz.paid → Q (.agg 1 [c0]) m') : Wc prog tbl 100 [.agg 6 [(.int .i64 t.From), (.bool t.Whole), (.int .i64 t.Least), ca103, ca104, ca105]] m Q := by
  have S0 := hS.st
  obtain ⟨τ0, _⟩ : ∃ τ : Nat → Nat, True := ⟨fun _ => 0, trivial⟩
  refine w100 ?_
  unfold pmanner at hp
  intro m0 e1918
  obtain ⟨τ1921, S1919, k1920, L1922⟩ := S0.blk e1918 τ0 1
  intro m1 e1923
  obtain ⟨τ1926, S1924, k1925, L1927⟩ := S1919.blk e1923 τ1921 2
  have L1928 := L1922.k k1925 (by decide)
  refine ⟨trivial, _, L1928.bk.rc rfl, ?_⟩
  rw [ifB_iff]
  refine ⟨fun q1929 => ?_, fun q1929 => ?_⟩
  · skip
    rw [if_pos q1929] at hp
    obtain ⟨m1933, e1932, S1930, k1931, L1934⟩ := L1927.sto S1924 [(C.fn (Fn.func 117) [] [])]
    have L1935 := L1928.k k1931 (by decide)
    refine ⟨m1933, e1932, ?_⟩
    refine ⟨_, L1934.bk.ra, ?_⟩
    have hF1944 : Fv_Tf_Int_Int f ((C.fn (Fn.func 117) [] [])) (fun a1936 a1937 => pwhole a1936 a1937) := by
      intro f' m' a1936 a1937 c1938 c1940 c1942 r Q hs hpre h1939 h1941 h1943 hg hq
      exact s_whole hpre h1939 h1941 h1943 hg hq
    obtain rfl := Option.some.inj hp
    exact hq _ f (C.fn (Fn.func 117) [] []) S1930.grw hF1944
  · skip
    rw [bif_neg q1929] at hp
    obtain ⟨m1948, e1947, S1945, k1946, L1949⟩ := L1927.sto S1924 [(C.fn (Fn.func 118) [] [])]
    have L1950 := L1928.k k1946 (by decide)
    refine ⟨m1948, e1947, ?_⟩
    refine ⟨_, L1949.bk.ra, ?_⟩
    have hF1959 : Fv_Tf_Int_Int f ((C.fn (Fn.func 118) [] [])) (fun a1951 a1952 => paboveLeast a1951 a1952) := by
      intro f' m' a1951 a1952 c1953 c1955 c1957 r Q hs hpre h1954 h1956 h1958 hg hq
      exact s_aboveLeast hpre h1954 h1956 h1958 hg hq
    obtain rfl := Option.some.inj hp
    exact hq _ f (C.fn (Fn.func 118) [] []) S1945.grw hF1959
theorem s_tfPart {t : Tf} {h : Ht} {ca103 ca104 ca105 : C} {m f : M} {Q : V → M → Prop} {rz : Int} (hS : Pre f m) (ha103 : Sl f ca103 t.Weeks) (ha104 : Sl f ca104 t.Counts) (ha105 : Sl f ca105 t.Rates) (hp : ptfPart t h = some rz) (hq : ∀ m', Ext m m' → Q (.c (.int .i64 rz)) m') : Wc prog tbl 80 [.agg 6 [(.int .i64 t.From), (.bool t.Whole), (.int .i64 t.Least), ca103, ca104, ca105], .agg 3 [(.int .i64 h.Day), (.int .i64 h.Count), (.int .i64 h.crop)]] m Q := by
  have S0 := hS.st
  obtain ⟨τ0, _⟩ : ∃ τ : Nat → Nat, True := ⟨fun _ => 0, trivial⟩
  refine w80 ?_
  unfold ptfPart at hp
  intro m0 e1960
  obtain ⟨τ1963, S1961, k1962, L1964⟩ := S0.blk e1960 τ0 1
  intro m1 e1965
  obtain ⟨τ1968, S1966, k1967, L1969⟩ := S1961.blk e1965 τ1963 2
  have L1970 := L1964.k k1967 (by decide)
  refine ⟨_, _, _, _, _, _, L1970.bk.ra, _, _, _, L1969.bk.ra, ?_⟩
  obtain ⟨r1971, g1972, hp⟩ := bsome hp
  refine s_loss (t := t) (h := h) S1966.pre ha103 ha104 ha105 g1972 fun m12 e1975 => ?_
  obtain ⟨S1973, k1974⟩ := S1966.call e1975 τ1968
  have L1976 := L1970.k k1974 (by decide)
  have L1977 := L1969.k k1974 (by decide)
  refine ⟨_, rfl, trivial, _, L1976.bk.rc rfl, ?_⟩
  rw [ifB_dec]
  refine ⟨fun q1978 => ?_, fun q1978 => ?_⟩
  · skip
    rw [if_pos q1978] at hp
    obtain rfl := Option.some.inj hp
    exact hq _ S1973.ext'
  · skip
    rw [if_neg q1978] at hp
    refine ⟨_, _, _, _, _, _, L1976.bk.ra, ?_⟩
    obtain ⟨r1979, g1980, hp⟩ := bsome hp
    refine s_manner (t := t) S1973.pre ha103 ha104 ha105 g1980 fun m22 f1984 c1985 e1983 h1986 => ?_
    obtain ⟨S1981, k1982⟩ := S1973.callG e1983 τ1968
    have L1987 := L1976.k k1982 (by decide)
    have L1988 := L1977.k k1982 (by decide)
    refine ⟨_, rfl, _, _, _, _, _, _, L1987.bk.ra, (by rw [show allS noFnC _ = true from (nf_cons rfl (nf_cons rfl (nf_cons rfl (nf_cons ha103.noFn (nf_cons ha104.noFn (nf_cons ha105.noFn nf_nil))))))]; exact (L1976.bk.ra)), ?_⟩
    obtain ⟨r1989, g1990, hp⟩ := bsome hp
    refine h1986 _ _ _ _ _ _ _ _ _ (Sub.refl _) S1981.pre (ha103.sub k1982.fs) (ha104.sub k1982.fs) (ha105.sub k1982.fs) g1990 fun m31 e1993 => ?_
    obtain ⟨S1991, k1992⟩ := S1981.call e1993 τ1968
    have L1994 := L1987.k k1992 (by decide)
    have L1995 := L1988.k k1992 (by decide)
    refine ⟨_, rfl, ?_⟩
    obtain rfl := Option.some.inj hp
    exact hq _ S1991.ext'
theorem s_open {l : List Tf} {ca100 : C} {m f : M} {Q : V → M → Prop} {rz : Wk × Int} (hS : Pre f m) (ha100 : Sl f ca100 l) (hp : popen l = some rz) (hq : ∀ m' f' c0 c1, Grw m f m' f' → Sl f' c0 rz.1.tariffs → Mn m f' m' c1 rz.1.parts → Q (.tup [.agg 2 [c0, c1], .c (.int .i64 rz.2)]) m') : Wc prog tbl 53 [.c ca100] m Q := by
  have S0 := hS.st
  obtain ⟨τ0, _⟩ : ∃ τ : Nat → Nat, True := ⟨fun _ => 0, trivial⟩
  refine w53 ?_
  unfold popen at hp
  intro m0 e1996
  obtain ⟨τ1999, S1997, k1998, L2000⟩ := S0.blk e1996 τ0 1
  obtain ⟨r2001, g2002, hp⟩ := bsome hp
  refine s_check (l := l) S1997.pre ha100 g2002 fun m2 e2005 => ?_
  obtain ⟨S2003, k2004⟩ := S1997.call e2005 τ1999
  have L2006 := L2000.k k2004 (by decide)
  refine ⟨_, rfl, ?_⟩
  rw [ifB_ndec]
  refine ⟨fun q2007 => ?_, fun q2007 => ?_⟩
  · skip
    rw [if_neg q2007] at hp
    obtain ⟨m2011, e2010, S2008, k2009, L2012⟩ := L2006.sto S2003 [.sl0, C.map0]
    refine ⟨m2011, e2010, ?_⟩
    refine ⟨_, _, L2012.bk.ra, ?_⟩
    obtain rfl := Option.some.inj hp
    exact hq _ f .sl0 .map0 S2008.grw (Sl.nil _) (Mo.nil _ _ τ1999 _ 0).mn
  · skip
    rw [if_pos q2007] at hp
    intro m7 e2013
    obtain ⟨τ2016, S2014, k2015, M2017⟩ := Mo.new (K := Ht) (V' := Int) S2003 e2013 τ1999 2
    have L2018 := L2006.k k2015 (by decide)
    obtain ⟨m2022, e2021, S2019, k2020, L2023⟩ := L2018.sto S2014 [ca100, (.map m2.nxt)]
    have M2024 := M2017.k k2020 (by decide)
    refine ⟨m2022, e2021, ?_⟩
    refine ⟨_, _, L2023.bk.ra, ?_⟩
    obtain rfl := Option.some.inj hp
    exact hq _ f ca100 (.map m2.nxt) S2019.grw ha100 M2024.mn
theorem s_openFor {l : List Tf} {claims : List Clm} {ca100 ca200 : C} {m f : M} {Q : V → M → Prop} {rz : Wk × Int} (hS : Pre f m) (ha100 : Sl f ca100 l) (ha200 : Sl f ca200 claims) (hp : popenFor l claims = some rz) (hq : ∀ m' f' c0 c1, Grw m f m' f' → Sl f' c0 rz.1.tariffs → Mn m f' m' c1 rz.1.parts → Q (.tup [.agg 2 [c0, c1], .c (.int .i64 rz.2)]) m') : Wc prog tbl 63 [.c ca100, .c ca200] m Q := by
  have S0 := hS.st
  obtain ⟨τ0, _⟩ : ∃ τ : Nat → Nat, True := ⟨fun _ => 0, trivial⟩
  refine w63 ?_
  unfold popenFor at hp
  intro m0 e2025
  obtain ⟨τ2028, S2026, k2027, L2029⟩ := S0.blk e2025 τ0 1
  obtain ⟨r2030, g2031, hp⟩ := bsome hp
  refine s_open (l := l) S2026.pre ha100 g2031 fun m2 f2035 c2036 c2038 e2034 h2037 h2039 => ?_
  obtain ⟨τ2040, S2032, k2033, M2041⟩ := S2026.callN e2034 h2039 τ2028 2
  have L2042 := L2029.k k2033 (by decide)
  refine ⟨_, _, _, rfl, ?_⟩
  intro m6 e2043
  obtain ⟨τ2046, S2044, k2045, L2047⟩ := S2032.blk e2043 τ2040 3
  have L2048 := L2042.k k2045 (by decide)
  have M2049 := M2041.k k2045 (by decide)
  obtain ⟨m2053, e2052, S2050, k2051, L2054⟩ := L2047.sto S2044 [c2036, c2038]
  have L2055 := L2048.k k2051 (by decide)
  have M2056 := M2049.k k2051 (by decide)
  refine ⟨m2053, e2052, ?_⟩
  rw [ifB_ndec]
  refine ⟨fun q2057 => ?_, fun q2057 => ?_⟩
  · skip
    rw [if_neg q2057] at hp
    obtain ⟨m2061, e2060, S2058, k2059, L2062⟩ := L2055.sto S2050 [.sl0, C.map0]
    have L2063 := L2054.k k2059 (by decide)
    have M2064 := M2056.k k2059 (by decide)
    refine ⟨m2061, e2060, ?_⟩
    refine ⟨_, _, L2062.bk.ra, ?_⟩
    obtain rfl := Option.some.inj hp
    exact hq _ f2035 .sl0 .map0 S2058.grw (Sl.nil _) (Mo.nil _ _ τ2046 _ 0).mn
  · skip
    rw [if_pos q2057] at hp
    refine ⟨ha200.isSl, ?_⟩
    try rw [ha200.slLen]
    rw [ifB_dec]
    refine ⟨fun q2065 => ?_, fun q2065 => ?_⟩
    · skip
      rw [if_pos q2065] at hp
      obtain ⟨m2069, e2068, S2066, k2067, L2070⟩ := L2055.sto S2050 [.sl0, C.map0]
      have L2071 := L2054.k k2067 (by decide)
      have M2072 := M2056.k k2067 (by decide)
      refine ⟨m2069, e2068, ?_⟩
      refine ⟨_, _, L2070.bk.ra, ?_⟩
      obtain rfl := Option.some.inj hp
      exact hq _ f2035 .sl0 .map0 S2066.grw (Sl.nil _) (Mo.nil _ _ τ2046 _ 0).mn
    · skip
      rw [if_neg q2065] at hp
      refine ⟨trivial, _, L2054.bk.rc rfl, ?_⟩
      obtain ⟨l15, wl15, el15⟩ : ∃ ws, mapO vW [.c c2036] = some ws ∧ mapS wV ws = [.c c2036] := (vWs_cons (vW_c h2037.noFn) vWs_nil)
      rw [wl15, optB_some]
      have hF2074 : Fv_Clm_Bool f2035 ((C.fn (Fn.func 90) l15 [])) (fun a2073 => pvalidClaim r2030.1.tariffs a2073) := by
        intro f' m' a2073 r Q hs hpre  hg hq
        show Wc prog tbl 90 (appS (mapS wV l15) _) m' Q
        rw [el15]
        exact s_validClaim hpre (h2037.sub hs) hg hq
      obtain ⟨r2075, g2076, hp⟩ := bsome hp
      refine s_eachCl (l := claims) (passes := (fun a2073 => pvalidClaim r2030.1.tariffs a2073)) S2050.pre (ha200.sub k2033.fs) hF2074 g2076 fun m17 e2079 => ?_
      obtain ⟨S2077, k2078⟩ := S2050.call e2079 τ2046
      have L2080 := L2055.k k2078 (by decide)
      have L2081 := L2054.k k2078 (by decide)
      have M2082 := M2056.k k2078 (by decide)
      refine ⟨_, rfl, ?_⟩
      rw [ifB_iff]
      refine ⟨fun q2083 => ?_, fun q2083 => ?_⟩
      · skip
        rw [bif_neg (nb_f q2083)] at hp
        obtain ⟨m2087, e2086, S2084, k2085, L2088⟩ := L2080.sto S2077 [.sl0, C.map0]
        have L2089 := L2081.k k2085 (by decide)
        have M2090 := M2082.k k2085 (by decide)
        refine ⟨m2087, e2086, ?_⟩
        refine ⟨_, _, L2088.bk.ra, ?_⟩
        obtain rfl := Option.some.inj hp
        exact hq _ f2035 .sl0 .map0 S2084.grw (Sl.nil _) (Mo.nil _ _ τ2046 _ 0).mn
      · skip
        rw [if_pos (nb_t q2083)] at hp
        refine ⟨_, _, L2081.bk.ra, ?_⟩
        obtain ⟨m2094, e2093, S2091, k2092, L2095⟩ := L2080.sto S2077 [c2036, c2038]
        have L2096 := L2081.k k2092 (by decide)
        have M2097 := M2082.k k2092 (by decide)
        refine ⟨m2094, e2093, ?_⟩
        refine ⟨_, _, L2095.bk.ra, ?_⟩
        obtain rfl := Option.some.inj hp
        exact hq _ f2035 c2036 c2038 S2091.grw h2037 M2097.mn
theorem s_part {w : Wk} {h : Ht} {ca100 ca101 : C} {m f : M} {Q : V → M → Prop} {rz : Int × Option (Ht → Option (Int))} (hS : Pre f m) (ha100 : Sl f ca100 w.tariffs) (ha101 : Mc f m ca101 w.parts) (hp : ppart w h = some rz) (hq : ∀ m', ExtB ca101 m m' → Mi m' ca101 rz.2 → Q (.c (.int .i64 rz.1)) m') : Wc prog tbl 57 [.agg 2 [ca100, ca101], .agg 3 [(.int .i64 h.Day), (.int .i64 h.Count), (.int .i64 h.crop)]] m Q := by
  have S0 := hS.stM ha101
  obtain ⟨τ0, M0⟩ : ∃ τ, Mo (Fm.mp m ca101) f τ m 1 ca101 w.parts := ⟨_, ha101.mo 1⟩
  refine w57 ?_
  unfold ppart at hp
  intro m0 e2098
  obtain ⟨τ2101, S2099, k2100, L2102⟩ := S0.blk e2098 τ0 2
  have M2103 := M0.k k2100 (by decide)
  intro m1 e2104
  obtain ⟨τ2107, S2105, k2106, L2108⟩ := S2099.blk e2104 τ2101 3
  have L2109 := L2102.k k2106 (by decide)
  have M2110 := M2103.k k2106 (by decide)
  refine ⟨trivial, _, L2109.bk.rc rfl, _, _, _, L2108.bk.ra, ?_⟩
  obtain ⟨g2111, hp⟩ := gd_some hp
  refine ⟨_, M2110.mi.lk kl103 (k := h) g2111 rfl, ?_⟩
  cases hv2112 : (mget w.parts h) with
  | none =>
    rw [mcase_none hv2112] at hp
    refine ⟨fun _ => ?_, fun u hu => (by cases hu)⟩
    refine ⟨trivial, _, L2109.bk.rc rfl, trivial, trivial, _, L2108.bk.rc rfl, ?_⟩
    obtain ⟨r2114, g2115, hp⟩ := bsome hp
    refine s_tfOf (l := w.tariffs) (day := h.Day) S2105.pre ha100 g2115 fun m10 f2119 c2120 c2122 c2124 e2118 h2121 h2123 h2125 => ?_
    obtain ⟨S2116, k2117⟩ := S2105.callG e2118 τ2107
    have L2126 := L2109.k k2117 (by decide)
    have L2127 := L2108.k k2117 (by decide)
    have M2128 := M2110.k k2117 (by decide)
    refine ⟨_, _, _, _, _, _, rfl, _, _, _, L2127.bk.ra, (L2108.bk.ra), ?_⟩
    obtain ⟨r2129, g2130, hp⟩ := bsome hp
    refine s_tfPart (t := r2114) (h := h) S2116.pre h2121 h2123 h2125 g2130 fun m21 e2133 => ?_
    obtain ⟨S2131, k2132⟩ := S2116.call e2133 τ2107
    have L2134 := L2126.k k2132 (by decide)
    have L2135 := L2127.k k2132 (by decide)
    have M2136 := M2128.k k2132 (by decide)
    refine ⟨_, rfl, trivial, _, L2134.bk.rc rfl, _, _, _, L2135.bk.ra, ?_⟩
    obtain ⟨g2137, hp⟩ := gd_some hp
    obtain ⟨w2138, g2139, hp⟩ := bsome hp
    obtain ⟨m2140, e2141, S2142, k2143, M2144⟩ := Mo.up kl103 S2131 M2136 (k := h) g2137 (v := r2129) g2139 (kv := .agg 3 [(.int .i64 h.Day), (.int .i64 h.Count), (.int .i64 h.crop)]) (yv := .c (.int .i64 r2129)) rfl rfl
    have L2145 := L2134.k k2143 (by decide)
    have L2146 := L2135.k k2143 (by decide)
    refine ⟨m2140, e2141, ?_⟩
    obtain rfl := Option.some.inj hp
    exact hq _ S2142.extB M2144.mi
  | some w2113 =>
    rw [mcase_some hv2112] at hp
    refine ⟨fun h => (by cases h), fun u hu => ?_⟩
    obtain rfl := Option.some.inj hu
    refine ⟨_, rfl, ?_⟩
    obtain rfl := Option.some.inj hp
    exact hq _ S2105.extB M2110.mi
theorem s_payment {w : Wk} {c : Clm} {t : Tr} {ca100 ca101 : C} {m f : M} {Q : V → M → Prop} {rz : Int × Option (Ht → Option (Int))} (hS : Pre f m) (ha100 : Sl f ca100 w.tariffs) (ha101 : Mc f m ca101 w.parts) (hp : ppayment w c t = some rz) (hq : ∀ m', ExtB ca101 m m' → Mi m' ca101 rz.2 → Q (.c (.int .i64 rz.1)) m') : Wc prog tbl 65 [.agg 2 [ca100, ca101], .agg 6 [(.int .i64 c.Crop), (.int .i64 c.Value), (.int .i64 c.Day.Lo), (.int .i64 c.Day.Hi), (.int .i64 c.Count.Lo), (.int .i64 c.Count.Hi)], .agg 2 [(.int .i64 t.Day), (.int .i64 t.Count)]] m Q := by
  have S0 := hS.stM ha101
  obtain ⟨τ0, M0⟩ : ∃ τ, Mo (Fm.mp m ca101) f τ m 1 ca101 w.parts := ⟨_, ha101.mo 1⟩
  refine w65 ?_
  unfold ppayment at hp
  intro m0 e2147
  obtain ⟨τ2150, S2148, k2149, L2151⟩ := S0.blk e2147 τ0 2
  have M2152 := M0.k k2149 (by decide)
  intro m1 e2153
  obtain ⟨τ2156, S2154, k2155, L2157⟩ := S2148.blk e2153 τ2150 3
  have L2158 := L2151.k k2155 (by decide)
  have M2159 := M2152.k k2155 (by decide)
  intro m2 e2160
  obtain ⟨τ2163, S2161, k2162, L2164⟩ := S2154.blk e2160 τ2156 4
  have L2165 := L2158.k k2162 (by decide)
  have L2166 := L2157.k k2162 (by decide)
  have M2167 := M2159.k k2162 (by decide)
  refine ⟨trivial, _, L2166.bk.rc rfl, _, _, L2165.bk.ra, _, _, L2164.bk.ra, trivial, _, L2166.bk.rc rfl, ?_⟩
  obtain ⟨r2168, g2169, hp⟩ := bsome hp
  refine s_part (w := w) (h := ({ Day := t.Day, Count := t.Count, crop := c.Crop } : Ht)) S2161.pre ha100 (M2167.mc S2161) g2169 fun m10 e2172 hM2173 => ?_
  obtain ⟨S2170, k2171, M2174⟩ := S2161.callM M2167 e2172 hM2173
  have L2175 := L2165.k k2171 (by decide)
  have L2176 := L2166.k k2171 (by decide)
  have L2177 := L2164.k k2171 (by decide)
  refine ⟨_, rfl, (L2176.bk.rc rfl), ?_⟩
  obtain ⟨g2178, hp⟩ := gd_some hp
  refine ⟨g2178, ?_⟩
  obtain ⟨g2179, hp⟩ := gd_some hp
  refine ⟨g2179, ?_⟩
  obtain ⟨g2180, hp⟩ := gd_some hp
  refine ⟨g2180, ?_⟩
  obtain ⟨g2181, hp⟩ := gd_some hp
  refine ⟨g2181, ?_⟩
  obtain ⟨g2182, hp⟩ := gd_some hp
  refine ⟨g2182, ?_⟩
  obtain ⟨g2183, hp⟩ := gd_some hp
  refine ⟨g2183, ?_⟩
  obtain rfl := Option.some.inj hp
  exact hq _ S2170.extB M2174.mi
theorem s_truthsI {c : Clm} {b0 : Nat} {m f : M} {F : Fm} {n0 ly : Nat} {xs : List (List V)} {I : Nat → (Nat → Prop) → M → Prop} {E : (Nat → Prop) → M → Prop} {S1 : Nat → Prop} {Q : V → M → Prop} {rz : List Tr} {τ0 : Nat → Nat} (hc : Client prog tbl n0 ly xs I E) (S0 : St F f f m) (Y0 : Yg n0 (YJ xs I rz) S1 F f τ0 m) (hb0 : Bk f b0 6 [(.int .i64 c.Crop), (.int .i64 c.Value), (.int .i64 c.Day.Lo), (.int .i64 c.Day.Hi), (.int .i64 c.Count.Lo), (.int .i64 c.Count.Hi)]) (hp : ptruthsI c = some rz) (hq : ∀ v m' f' τ' S', St F f f' m' → (Yg n0 (YJ xs I ([] : List Tr)) S' F f' τ' m' ∨ Yg n0 E S' F f' τ' m') → Q v m') : Wc prog tbl 94 [.c (.fn (.yield ly) [] []), .c (.ptr b0 0)] m Q := by
  refine c94 ?_
  unfold ptruthsI at hp
  refine ⟨trivial, trivial, _, (hb0.sub S0.sub).rc rfl, ?_⟩
  intro R1 hR1
  have hgo : ∀ (d2189 : Nat) (x2 : Int) (r2186 : List Tr) (s2187 : Nat → Prop) (m3 : M) (τ2185 : Nat → Nat), St F f f m3 → Yg n0 (YJ xs I r2186) s2187 F f τ2185 m3 → ptruthsI_L0 c d2189 x2 = some r2186 → R1 [.c (.int .i64 x2)] m3 := by
    intro d2189
    induction d2189 with
    | zero => intro x2 r2186 s2187 m3 τ2185 S2184 Y2188 hp; cases hp
    | succ d2189 ihR1 =>
      intro x2 r2186 s2187 m3 τ2185 S2184 Y2188 hp
      refine hR1 _ _ ?_
      rw [ptruthsI_L0] at hp
      refine ⟨trivial, trivial, _, (hb0.sub S2184.sub).rc rfl, ?_⟩
      rw [ifB_dec]
      refine ⟨fun q2190 => ?_, fun q2190 => ?_⟩
      · skip
        rw [if_pos q2190] at hp
        refine ⟨trivial, trivial, _, (hb0.sub S2184.sub).rc rfl, ?_⟩
        intro R6 hR6
        have hgo : ∀ (d2196 : Nat) (x7 : Int) (r2193 : List Tr) (s2194 : Nat → Prop) (m8 : M) (τ2192 : Nat → Nat), St F f f m8 → Yg n0 (YJ xs I r2193) s2194 F f τ2192 m8 → ptruthsI_L1 c x2 (ptruthsI_L0 c d2189) d2196 x7 = some r2193 → R6 [.c (.int .i64 x7)] m8 := by
          intro d2196
          induction d2196 with
          | zero => intro x7 r2193 s2194 m8 τ2192 S2191 Y2195 hp; cases hp
          | succ d2196 ihR6 =>
            intro x7 r2193 s2194 m8 τ2192 S2191 Y2195 hp
            refine hR6 _ _ ?_
            rw [ptruthsI_L1] at hp
            refine ⟨trivial, trivial, _, (hb0.sub S2191.sub).rc rfl, ?_⟩
            rw [ifB_dec]
            refine ⟨fun q2197 => ?_, fun q2197 => ?_⟩
            · skip
              rw [if_pos q2197] at hp
              obtain ⟨r2198, hp2200, hz2199⟩ := bsome hp
              clear hp
              obtain rfl := Option.some.inj hz2199
              have hp := hp2200
              show Wy prog tbl ly (IV.encs (({ Day := x2, Count := x7 } : Tr) : Tr)) _ _
              refine Yg.yield hc S2191 Y2195 ?_ ?_
              · intro m11 τ2201 s2205 S2202 k2203 Y2204
                refine ⟨_, rfl, ?_⟩
                refine ifB_f' ?_
                obtain ⟨g2206, hp⟩ := gd_some hp
                refine ⟨g2206, ?_⟩
                exact ihR6 _ _ _ _ τ2201 S2202 Y2204 hp
              · intro m11 τ2207 s2211 S2208 k2209 Y2210
                refine ⟨_, rfl, ?_⟩
                refine ifB_t' ?_
                exact hq _ _ _ _ _ S2208 (.inr Y2210)
            · skip
              rw [if_neg q2197] at hp
              obtain ⟨g2212, hp⟩ := gd_some hp
              refine ⟨g2212, ?_⟩
              exact ihR1 _ _ _ _ τ2192 S2191 Y2195 hp
        exact hgo _ _ _ _ _ τ2185 S2184 Y2188 hp
      · skip
        rw [if_neg q2190] at hp
        obtain rfl := Option.some.inj hp
        exact hq _ _ _ _ _ S2184 (.inl Y2188)
  exact hgo _ _ _ _ _ τ0 S0 Y0 hp
theorem s_truths {c : Clm} {m f : M} {Q : V → M → Prop} {rz : List Tr} (hS : Pre f m)  (hp : ptruths c = some rz) (hq : ∀ m' f' c0, Grw m f m' f' → It prog tbl f' c0 rz → Q (.c c0) m') : Wc prog tbl 69 [.agg 6 [(.int .i64 c.Crop), (.int .i64 c.Value), (.int .i64 c.Day.Lo), (.int .i64 c.Day.Hi), (.int .i64 c.Count.Lo), (.int .i64 c.Count.Hi)]] m Q := by
  have S0 := hS.st
  obtain ⟨τ0, _⟩ : ∃ τ : Nat → Nat, True := ⟨fun _ => 0, trivial⟩
  refine w69 ?_
  unfold ptruths at hp
  intro m0 e2213
  obtain ⟨τ2216, S2214, k2215, L2217⟩ := S0.blk e2213 τ0 1
  obtain ⟨f2218, S2219, k2220, hb2221⟩ := L2217.freeze S2214
  obtain ⟨l2222, g2223, hp⟩ := bsome hp
  have hI2224 : It prog tbl f2218 ((C.fn (Fn.func 94) [] [(W.c (C0.ptr m.nxt 0))])) l2222 := it_of S2219.fz S2219.fv fun n0 ly I E hc m1 F1 S1 τ1 hS hY Q hq => s_truthsI hc hS hY hb2221 g2223 hq
  obtain rfl := Option.some.inj hp
  exact hq _ f2218 (C.fn (Fn.func 94) [] [(W.c (C0.ptr m.nxt 0))]) S2219.grw hI2224
theorem s_appendSeq {seq : List Tr} {ca200 : C} {m f : M} {Q : V → M → Prop} {rz : List Tr} (hS : Pre f m) (ha200 : It prog tbl f ca200 seq) (hp : pappendSeq seq = some rz) (hq : ∀ m' f' c0, Grw m f m' f' → Sl f' c0 rz → Q (.c c0) m') : Wc prog tbl 93 [.c .sl0, .c ca200] m Q := by
  have S0 := hS.st
  obtain ⟨τ0, _⟩ : ∃ τ : Nat → Nat, True := ⟨fun _ => 0, trivial⟩
  refine w93 ?_
  unfold pappendSeq at hp
  intro m0 e2225
  obtain ⟨τ2228, S2226, k2227, L2229⟩ := S0.blk e2225 τ0 1
  refine range_st (α := Tr) S2226 ha200 (σ := (List Tr) × C) 2 (fun st bb => (False ∨ (ownBlk st.2 bb))) (fun st gG gF gT gM => (Lb gG gF gT gM 1 m.nxt 1 [st.2]) ∧ (Ow gG gF gT gM 3 st.2 st.1)) (fun rr_ st => pappendSeq_L0 rr_ st.1 = some rz) (fun ex st => False) (fun st => (Gud.and (Gud.lb L2229.bk.lt (by decide)) (Gud.ow (by decide)))) (st0 := ([], .sl0)) (τ := τ2228) ⟨L2229, (Ow.nil _ _ _ _ _)⟩ hp ?_ ?_ ?_ ?_
  · intro a2234 q2235 st f2236 τ2237 m2 F2238 o2239 Ok2240 en2241 Kn2242 S2243 s2244 hA rk2245 hp he2246 hk2247
    obtain ⟨y2230, c2231⟩ := st
    obtain ⟨L2233, o2232⟩ := hA
    replace L2233 : Lb F2238 f2236 τ2237 m2 1 m.nxt 1 [c2231] := L2233
    replace o2232 : Ow F2238 f2236 τ2237 m2 3 c2231 y2230 := o2232
    replace hp : pappendSeq_L0 (a2234 :: q2235) y2230 = some rz := hp
    rw [pappendSeq_L0] at hp
    refine ⟨_, _, rfl, ?_⟩
    intro m7 e2248
    obtain ⟨τ2251, S2249, k2250, L2252⟩ := S2243.blk e2248 τ2237 4
    have L2253 := L2233.k k2250 (by decide)
    have o2232 := o2232.k k2250 (by decide)
    have rk2254 := rk2245.k k2250 (by decide)
    obtain ⟨m2258, e2257, S2255, k2256, L2259⟩ := L2252.sto S2249 [(.int .i64 a2234.Day), (.int .i64 a2234.Count)]
    have L2260 := L2253.k k2256 (by decide)
    have o2232 := o2232.k k2256 (by decide)
    have rk2261 := rk2254.k k2256 (by decide)
    refine ⟨m2258, e2257, ?_⟩
    refine he2246 _ _ _ _ S2255 rk2261 fun m9 o2265 S2262 k2263 rk2264 hO2266 => ?_
    have L2267 := L2260.k k2263 (by decide)
    have L2268 := L2259.k k2263 (by decide)
    have o2232 := o2232.k k2263 (by decide)
    refine ⟨_, L2267.bk.rc rfl, _, _, L2268.bk.ra, ?_⟩
    obtain ⟨g2277, hp⟩ := gd_some hp
    intro m13 e2269
    obtain ⟨c2273, m2274, τ2272, a2275, S2270, k2271, o2276⟩ := o2232.app' ta110 S2262 (a := a2234) (show Rp.rep (α := Tr) f2236 _ a2234 from rfl) g2277 e2269
    have L2278 := L2267.k k2271 (by decide)
    have L2279 := L2268.k k2271 (by decide)
    have rk2280 := rk2264.k k2271 (by decide)
    refine ⟨c2273, m2274, a2275, ?_⟩
    obtain ⟨m2284, e2283, S2281, k2282, L2285⟩ := L2278.sto S2270 [c2273]
    have L2286 := L2279.k k2282 (by decide)
    have o2276 := o2276.k k2282 (by decide)
    have rk2287 := rk2280.k k2282 (by decide)
    refine ⟨m2284, e2283, ?_⟩
    exact hk2247 .nrm ((y2230 ++ [a2234]), c2273) _ _ _ _ S2281 ⟨L2285, o2276⟩ rk2287 hO2266 hp
  · intro st f2288 τ2290 m17 S2291 s2289 hA hp
    obtain ⟨y2230, c2231⟩ := st
    replace hp : pappendSeq_L0 [] y2230 = some rz := hp
    obtain ⟨L2233, o2232⟩ := hA
    replace L2233 : Lb (Fm.of m) f2288 τ2290 m17 1 m.nxt 1 [c2231] := L2233
    replace o2232 : Ow (Fm.of m) f2288 τ2290 m17 3 c2231 y2230 := o2232
    rw [pappendSeq_L0] at hp
    refine ⟨_, L2233.bk.rc rfl, ?_⟩
    obtain ⟨f2292, S2293, k2294, h2295⟩ := o2232.freeze S2291
    have L2296 := L2233.k k2294 (by decide)
    obtain rfl := Option.some.inj hp
    exact hq _ f2292 c2231 S2293.grw h2295
  · intro id st _ _ _ _ _ _ hn; first | exact hn.elim | (cases hn)
  · intro st _ _ _ _ _ _ hn; first | exact hn.elim | (cases hn)
theorem s_collect {seq : List Tr} {ca100 : C} {m f : M} {Q : V → M → Prop} {rz : List Tr} (hS : Pre f m) (ha100 : It prog tbl f ca100 seq) (hp : pcollect seq = some rz) (hq : ∀ m' f' c0, Grw m f m' f' → Sl f' c0 rz → Q (.c c0) m') : Wc prog tbl 68 [.c ca100] m Q := by
  have S0 := hS.st
  obtain ⟨τ0, _⟩ : ∃ τ : Nat → Nat, True := ⟨fun _ => 0, trivial⟩
  refine w68 ?_
  unfold pcollect at hp
  obtain ⟨r2297, g2298, hp⟩ := bsome hp
  refine s_appendSeq (seq := seq) S0.pre ha100 g2298 fun m1 f2302 c2303 e2301 h2304 => ?_
  obtain ⟨S2299, k2300⟩ := S0.callG e2301 τ0
  refine ⟨_, rfl, ?_⟩
  obtain rfl := Option.some.inj hp
  exact hq _ f2302 c2303 S2299.grw h2304
theorem s_bounds {w : Wk} {c : Clm} {ca100 ca101 : C} {m f : M} {Q : V → M → Prop} {rz : Rg × Option (Ht → Option (Int))} (hS : Pre f m) (ha100 : Sl f ca100 w.tariffs) (ha101 : Mc f m ca101 w.parts) (hp : pbounds w c = some rz) (hq : ∀ m', ExtB ca101 m m' → Mi m' ca101 rz.2 → Q (.agg 2 [(.int .i64 rz.1.Lo), (.int .i64 rz.1.Hi)]) m') : Wc prog tbl 67 [.agg 2 [ca100, ca101], .agg 6 [(.int .i64 c.Crop), (.int .i64 c.Value), (.int .i64 c.Day.Lo), (.int .i64 c.Day.Hi), (.int .i64 c.Count.Lo), (.int .i64 c.Count.Hi)]] m Q := by
  have S0 := hS.stM ha101
  obtain ⟨τ0, M0⟩ : ∃ τ, Mo (Fm.mp m ca101) f τ m 1 ca101 w.parts := ⟨_, ha101.mo 1⟩
  refine w67 ?_
  unfold pbounds at hp
  intro m0 e2305
  obtain ⟨τ2308, S2306, k2307, L2309⟩ := S0.blk e2305 τ0 2
  have M2310 := M0.k k2307 (by decide)
  intro m1 e2311
  obtain ⟨τ2314, S2312, k2313, L2315⟩ := S2306.blk e2311 τ2308 3
  have L2316 := L2309.k k2313 (by decide)
  have M2317 := M2310.k k2313 (by decide)
  intro m2 e2318
  obtain ⟨τ2321, S2319, k2320, L2322⟩ := S2312.blk e2318 τ2314 4
  have L2323 := L2316.k k2320 (by decide)
  have L2324 := L2315.k k2320 (by decide)
  have M2325 := M2317.k k2320 (by decide)
  intro m3 e2326
  obtain ⟨τ2329, S2327, k2328, L2330⟩ := S2319.blk e2326 τ2321 5
  have L2331 := L2323.k k2328 (by decide)
  have L2332 := L2324.k k2328 (by decide)
  have L2333 := L2322.k k2328 (by decide)
  have M2334 := M2325.k k2328 (by decide)
  refine ⟨_, _, _, _, _, _, L2332.bk.ra, ?_⟩
  obtain ⟨r2335, g2336, hp⟩ := bsome hp
  refine s_truths (c := c) S2327.pre  g2336 fun m11 f2340 c2341 e2339 h2342 => ?_
  obtain ⟨S2337, k2338⟩ := S2327.callG e2339 τ2329
  have L2343 := L2331.k k2338 (by decide)
  have L2344 := L2332.k k2338 (by decide)
  have L2345 := L2333.k k2338 (by decide)
  have L2346 := L2330.k k2338 (by decide)
  have M2347 := M2334.k k2338 (by decide)
  refine ⟨_, rfl, ?_⟩
  refine range_st (α := Tr) S2337 h2342 (σ := (List Int) × C × (Option (Ht → Option (Int)))) 6 (fun st bb => (False ∨ (False ∨ (False ∨ (False ∨ ((ownBlk st.2.1 bb) ∨ False)))))) (fun st gG gF gT gM => (Lb gG gF gT gM 2 m.nxt 2 [ca100, ca101]) ∧ (Lb gG gF gT gM 3 m0.nxt 6 [(.int .i64 c.Crop), (.int .i64 c.Value), (.int .i64 c.Day.Lo), (.int .i64 c.Day.Hi), (.int .i64 c.Count.Lo), (.int .i64 c.Count.Hi)]) ∧ (Lb gG gF gT gM 4 m1.nxt 2 [(.int .i64 (0 : Int)), (.int .i64 (0 : Int))]) ∧ (Lb gG gF gT gM 5 m2.nxt 1 [st.2.1]) ∧ (Ow gG gF gT gM 7 st.2.1 st.1) ∧ (Mo gG gF gT gM 1 ca101 st.2.2)) (fun rr_ st => pbounds_L0 w c rr_ st.1 st.2.2 = some rz) (fun ex st => False) (fun st => (Gud.and (Gud.lb L2343.bk.lt (by decide)) (Gud.and (Gud.lb L2344.bk.lt (by decide)) (Gud.and (Gud.lb L2345.bk.lt (by decide)) (Gud.and (Gud.lb L2346.bk.lt (by decide)) (Gud.and (Gud.ow (by decide)) (Gud.mo M2347.lt (by decide)))))))) (st0 := ([], .sl0, w.parts)) (τ := τ2329) ⟨L2343, L2344, L2345, L2346, (Ow.nil _ _ _ _ _), M2347⟩ hp ?_ ?_ ?_ ?_
  · intro a2357 q2358 st f2359 τ2360 m14 F2361 o2362 Ok2363 en2364 Kn2365 S2366 s2367 hA rk2368 hp he2369 hk2370
    obtain ⟨y2351, c2352, w2355⟩ := st
    obtain ⟨L2348, L2349, L2350, L2354, o2353, M2356⟩ := hA
    replace L2348 : Lb F2361 f2359 τ2360 m14 2 m.nxt 2 [ca100, ca101] := L2348
    replace L2349 : Lb F2361 f2359 τ2360 m14 3 m0.nxt 6 [(.int .i64 c.Crop), (.int .i64 c.Value), (.int .i64 c.Day.Lo), (.int .i64 c.Day.Hi), (.int .i64 c.Count.Lo), (.int .i64 c.Count.Hi)] := L2349
    replace L2350 : Lb F2361 f2359 τ2360 m14 4 m1.nxt 2 [(.int .i64 (0 : Int)), (.int .i64 (0 : Int))] := L2350
    replace L2354 : Lb F2361 f2359 τ2360 m14 5 m2.nxt 1 [c2352] := L2354
    replace o2353 : Ow F2361 f2359 τ2360 m14 7 c2352 y2351 := o2353
    replace M2356 : Mo F2361 f2359 τ2360 m14 1 ca101 w2355 := M2356
    replace hp : pbounds_L0 w c (a2357 :: q2358) y2351 w2355 = some rz := hp
    rw [pbounds_L0] at hp
    refine ⟨_, _, rfl, ?_⟩
    intro m19 e2371
    obtain ⟨τ2374, S2372, k2373, L2375⟩ := S2366.blk e2371 τ2360 8
    have L2376 := L2348.k k2373 (by decide)
    have L2377 := L2349.k k2373 (by decide)
    have L2378 := L2350.k k2373 (by decide)
    have L2379 := L2354.k k2373 (by decide)
    have M2380 := M2356.k k2373 (by decide)
    have o2353 := o2353.k k2373 (by decide)
    have rk2381 := rk2368.k k2373 (by decide)
    obtain ⟨m2385, e2384, S2382, k2383, L2386⟩ := L2375.sto S2372 [(.int .i64 a2357.Day), (.int .i64 a2357.Count)]
    have L2387 := L2376.k k2383 (by decide)
    have L2388 := L2377.k k2383 (by decide)
    have L2389 := L2378.k k2383 (by decide)
    have L2390 := L2379.k k2383 (by decide)
    have M2391 := M2380.k k2383 (by decide)
    have o2353 := o2353.k k2383 (by decide)
    have rk2392 := rk2381.k k2383 (by decide)
    refine ⟨m2385, e2384, ?_⟩
    refine he2369 _ _ _ _ S2382 rk2392 fun m21 o2396 S2393 k2394 rk2395 hO2397 => ?_
    have L2398 := L2387.k k2394 (by decide)
    have L2399 := L2388.k k2394 (by decide)
    have L2400 := L2389.k k2394 (by decide)
    have L2401 := L2390.k k2394 (by decide)
    have L2402 := L2386.k k2394 (by decide)
    have M2403 := M2391.k k2394 (by decide)
    have o2353 := o2353.k k2394 (by decide)
    refine ⟨_, L2401.bk.rc rfl, _, _, L2398.bk.ra, _, _, _, _, _, _, L2399.bk.ra, _, _, L2402.bk.ra, ?_⟩
    obtain ⟨r2404, g2405, hp⟩ := bsome hp
    refine s_payment (w := ({ tariffs := w.tariffs, parts := w2355 } : Wk)) (c := c) (t := a2357) S2393.pre (ha100.sub (Sub.trans k2338.fs s2367)) (M2403.mc S2393) g2405 fun m34 e2408 hM2409 => ?_
    obtain ⟨S2406, k2407, M2410⟩ := S2393.callM M2403 e2408 hM2409
    have L2411 := L2398.k k2407 (by decide)
    have L2412 := L2399.k k2407 (by decide)
    have L2413 := L2400.k k2407 (by decide)
    have L2414 := L2401.k k2407 (by decide)
    have L2415 := L2402.k k2407 (by decide)
    have o2353 := o2353.k k2407 (by decide)
    have rk2416 := rk2395.k k2407 (by decide)
    refine ⟨_, rfl, (by rw [show noFnC _ = true from o2353.noFn]; exact (L2414.bk.rc rfl)), ?_⟩
    obtain ⟨g2425, hp⟩ := gd_some hp
    intro m36 e2417
    refine ⟨(by rw [show noFnC _ = true from o2353.noFn]; exact (L2414.bk.ext (Bk.new e2417).2).rc rfl), ?_⟩
    obtain ⟨c2421, m2422, τ2420, a2423, S2418, k2419, o2424⟩ := o2353.app' ta73 S2406 (a := r2404.1) (show Rp.rep (α := Int) f2359 _ r2404.1 from rfl) g2425 e2417
    have L2426 := L2411.k k2419 (by decide)
    have L2427 := L2412.k k2419 (by decide)
    have L2428 := L2413.k k2419 (by decide)
    have L2429 := L2414.k k2419 (by decide)
    have L2430 := L2415.k k2419 (by decide)
    have M2431 := M2410.k k2419 (by decide)
    have rk2432 := rk2416.k k2419 (by decide)
    refine ⟨c2421, m2422, a2423, ?_⟩
    obtain ⟨m2436, e2435, S2433, k2434, L2437⟩ := L2429.sto S2418 [c2421]
    have L2438 := L2426.k k2434 (by decide)
    have L2439 := L2427.k k2434 (by decide)
    have L2440 := L2428.k k2434 (by decide)
    have L2441 := L2430.k k2434 (by decide)
    have M2442 := M2431.k k2434 (by decide)
    have o2424 := o2424.k k2434 (by decide)
    have rk2443 := rk2432.k k2434 (by decide)
    refine ⟨m2436, e2435, ?_⟩
    exact hk2370 .nrm ((y2351 ++ [r2404.1]), c2421, r2404.2) _ _ _ _ S2433 ⟨L2438, L2439, L2440, L2437, o2424, M2442⟩ rk2443 hO2397 hp
  · intro st f2444 τ2446 m40 S2447 s2445 hA hp
    obtain ⟨y2351, c2352, w2355⟩ := st
    replace hp : pbounds_L0 w c [] y2351 w2355 = some rz := hp
    obtain ⟨L2348, L2349, L2350, L2354, o2353, M2356⟩ := hA
    replace L2348 : Lb (Fm.mp m ca101) f2444 τ2446 m40 2 m.nxt 2 [ca100, ca101] := L2348
    replace L2349 : Lb (Fm.mp m ca101) f2444 τ2446 m40 3 m0.nxt 6 [(.int .i64 c.Crop), (.int .i64 c.Value), (.int .i64 c.Day.Lo), (.int .i64 c.Day.Hi), (.int .i64 c.Count.Lo), (.int .i64 c.Count.Hi)] := L2349
    replace L2350 : Lb (Fm.mp m ca101) f2444 τ2446 m40 4 m1.nxt 2 [(.int .i64 (0 : Int)), (.int .i64 (0 : Int))] := L2350
    replace L2354 : Lb (Fm.mp m ca101) f2444 τ2446 m40 5 m2.nxt 1 [c2352] := L2354
    replace o2353 : Ow (Fm.mp m ca101) f2444 τ2446 m40 7 c2352 y2351 := o2353
    replace M2356 : Mo (Fm.mp m ca101) f2444 τ2446 m40 1 ca101 w2355 := M2356
    rw [pbounds_L0] at hp
    refine ⟨_, L2354.bk.rc rfl, ?_⟩
    obtain ⟨f2448, S2449, k2450, h2451⟩ := o2353.freeze S2447
    have L2452 := L2348.k k2450 (by decide)
    have L2453 := L2349.k k2450 (by decide)
    have L2454 := L2350.k k2450 (by decide)
    have L2455 := L2354.k k2450 (by decide)
    have M2456 := M2356.k k2450 (by decide)
    obtain ⟨r2457, g2458, hp⟩ := bsome hp
    refine s_minimum (l := y2351) S2449.pre h2451 g2458 fun m43 e2461 => ?_
    obtain ⟨S2459, k2460⟩ := S2449.call e2461 τ2446
    have L2462 := L2452.k k2460 (by decide)
    have L2463 := L2453.k k2460 (by decide)
    have L2464 := L2454.k k2460 (by decide)
    have L2465 := L2455.k k2460 (by decide)
    have M2466 := M2456.k k2460 (by decide)
    have o2467 := o2353.k k2460.old (by decide)
    refine ⟨_, rfl, _, L2465.bk.rc rfl, (by rw [show noFnC _ = true from h2451.noFn]; exact (L2455.bk.rc rfl)), ?_⟩
    obtain ⟨r2468, g2469, hp⟩ := bsome hp
    refine s_sMax (l := y2351) S2459.pre h2451 g2469 fun m47 e2472 => ?_
    obtain ⟨S2470, k2471⟩ := S2459.call e2472 τ2446
    have L2473 := L2462.k k2471 (by decide)
    have L2474 := L2463.k k2471 (by decide)
    have L2475 := L2464.k k2471 (by decide)
    have L2476 := L2465.k k2471 (by decide)
    have M2477 := M2466.k k2471 (by decide)
    have o2478 := o2467.k k2471.old (by decide)
    refine ⟨_, rfl, ?_⟩
    obtain ⟨m2482, e2481, S2479, k2480, L2483⟩ := L2475.sto S2470 [(.int .i64 r2457), (.int .i64 r2468)]
    have L2484 := L2473.k k2480 (by decide)
    have L2485 := L2474.k k2480 (by decide)
    have L2486 := L2476.k k2480 (by decide)
    have M2487 := M2477.k k2480 (by decide)
    have o2488 := o2478.k k2480.old (by decide)
    refine ⟨m2482, e2481, ?_⟩
    refine ⟨_, _, L2483.bk.ra, ?_⟩
    obtain rfl := Option.some.inj hp
    exact hq _ S2479.extB M2487.mi
  · intro id st _ _ _ _ _ _ hn; first | exact hn.elim | (cases hn)
  · intro st _ _ _ _ _ _ hn; first | exact hn.elim | (cases hn)
theorem s_show1 {t : Tr} {u : Tr} {w : Wk} {b0 : Nat} {c : Clm} {b1 : Nat} {cb000 cb001 : C} {m f : M} {Q : V → M → Prop} {rz : Int × Option (Ht → Option (Int))} (hS : Pre f m) (hb0 : Bk f b0 2 [cb000, cb001]) (hb000 : Sl f cb000 w.tariffs) (hb001 : Mc f m cb001 w.parts) (hb1 : Bk f b1 6 [(.int .i64 c.Crop), (.int .i64 c.Value), (.int .i64 c.Day.Lo), (.int .i64 c.Day.Hi), (.int .i64 c.Count.Lo), (.int .i64 c.Count.Hi)]) (hp : pshow1 t u w c = some rz) (hq : ∀ m', ExtB cb001 m m' → Mi m' cb001 rz.2 → Q (.c (.int .i64 rz.1)) m') : Wc prog tbl 70 [.agg 2 [(.int .i64 t.Day), (.int .i64 t.Count)], .agg 2 [(.int .i64 u.Day), (.int .i64 u.Count)], .c (.ptr b0 0), .c (.ptr b1 0)] m Q := by
  have S0 := hS.stM hb001
  obtain ⟨τ0, M0⟩ : ∃ τ, Mo (Fm.mp m cb001) f τ m 1 cb001 w.parts := ⟨_, hb001.mo 1⟩
  refine c70 ?_
  unfold pshow1 at hp
  intro m0 e2489
  obtain ⟨τ2492, S2490, k2491, L2493⟩ := S0.blk e2489 τ0 2
  have M2494 := M0.k k2491 (by decide)
  intro m1 e2495
  obtain ⟨τ2498, S2496, k2497, L2499⟩ := S2490.blk e2495 τ2492 3
  have L2500 := L2493.k k2497 (by decide)
  have M2501 := M2494.k k2497 (by decide)
  refine ⟨_, _, (hb0.sub S2496.sub).ra, _, _, _, _, _, _, (hb1.sub S2496.sub).ra, _, _, L2500.bk.ra, ?_⟩
  obtain ⟨r2502, g2503, hp⟩ := bsome hp
  refine s_payment (w := w) (c := c) (t := t) S2496.pre hb000 (M2501.mc S2496) g2503 fun m13 e2506 hM2507 => ?_
  obtain ⟨S2504, k2505, M2508⟩ := S2496.callM M2501 e2506 hM2507
  have L2509 := L2500.k k2505 (by decide)
  have L2510 := L2499.k k2505 (by decide)
  refine ⟨_, rfl, _, _, (hb0.sub S2504.sub).ra, (by rw [show allS noFnC _ = true from (nf_cons hb000.noFn (nf_cons M2508.mi.noFn nf_nil))]; exact ((hb0.sub S2496.sub).ra)), _, _, _, _, _, _, (hb1.sub S2504.sub).ra, ((hb1.sub S2496.sub).ra), _, _, L2510.bk.ra, (L2499.bk.ra), ?_⟩
  obtain ⟨r2511, g2512, hp⟩ := bsome hp
  refine s_payment (w := ({ tariffs := w.tariffs, parts := r2502.2 } : Wk)) (c := c) (t := u) S2504.pre hb000 (M2508.mc S2504) g2512 fun m26 e2515 hM2516 => ?_
  obtain ⟨S2513, k2514, M2517⟩ := S2504.callM M2508 e2515 hM2516
  have L2518 := L2509.k k2514 (by decide)
  have L2519 := L2510.k k2514 (by decide)
  refine ⟨_, rfl, ?_⟩
  obtain ⟨r2520, g2521, hp⟩ := bsome hp
  refine s_compare (x := r2502.1) (y := r2511.1) S2513.pre  g2521 fun m29 e2524 => ?_
  obtain ⟨S2522, k2523⟩ := S2513.call e2524 τ2498
  have L2525 := L2518.k k2523 (by decide)
  have L2526 := L2519.k k2523 (by decide)
  have M2527 := M2517.k k2523 (by decide)
  refine ⟨_, rfl, ?_⟩
  obtain rfl := Option.some.inj hp
  exact hq _ S2522.extB M2527.mi
theorem s_maxFunc {l : List Tr} {cmp : Tr → Tr → (Option (Ht → Option (Int))) → Option (Int × Option (Ht → Option (Int)))} {Mp : Option (Ht → Option (Int))} {ca100 ca200 mc : C} {m f : M} {Q : V → M → Prop} {rz : Tr × Option (Ht → Option (Int))} (hS : Pre f m) (ha100 : Sl f ca100 l) (hMp : Mc f m mc Mp) (ha200 : Fw_Tr_Tr_Int mc f ca200 cmp) (hp : pmaxFunc l cmp Mp = some rz) (hq : ∀ m', ExtB mc m m' → Mi m' mc rz.2 → Q (.agg 2 [(.int .i64 rz.1.Day), (.int .i64 rz.1.Count)]) m') : Wc prog tbl 72 [.c ca100, .c ca200] m Q := by
  have S0 := hS.stM hMp
  obtain ⟨τ0, M0⟩ : ∃ τ, Mo (Fm.mp m mc) f τ m 1 mc Mp := ⟨_, hMp.mo 1⟩
  refine w72 ?_
  unfold pmaxFunc at hp
  intro m0 e2528
  obtain ⟨τ2531, S2529, k2530, L2532⟩ := S0.blk e2528 τ0 2
  have M2533 := M0.k k2530 (by decide)
  refine ⟨ha100.isSl, ?_⟩
  try rw [ha100.slLen]
  rw [ifB_dec]
  refine ⟨fun q2534 => ?_, fun q2534 => ?_⟩
  · skip
    rw [if_pos q2534] at hp
    cases hp
  · skip
    rw [if_neg q2534] at hp
    obtain ⟨v2535, g2536, hp⟩ := bsome hp
    obtain ⟨n1, g2536i, g2536l, g2536⟩ := idx_some g2536
    obtain ⟨_, r2537⟩ := rd_Tr ha100 g2536
    refine ⟨n1, g2536i, (by first | exact g2536l | (rw [ha100.slLen]; exact g2536l)), _, _, (r2537 _ S2529.sub).1, ?_⟩
    intro m4 e2538
    obtain ⟨τ2541, S2539, k2540, L2542⟩ := S2529.blk e2538 τ2531 3
    have L2543 := L2532.k k2540 (by decide)
    have M2544 := M2533.k k2540 (by decide)
    obtain ⟨m2548, e2547, S2545, k2546, L2549⟩ := L2542.sto S2539 [(.int .i64 v2535.Day), (.int .i64 v2535.Count)]
    have L2550 := L2543.k k2546 (by decide)
    have M2551 := M2544.k k2546 (by decide)
    refine ⟨m2548, e2547, ?_⟩
    intro R6 hR6
    have hgo : ∀ (d2557 : Nat) (x7 : Int) (y2554 : Int) (y2555 : Int) (w2556 : Option (Ht → Option (Int))) (m8 : M) (τ2553 : Nat → Nat), St (Fm.mp m mc) f f m8 → Lb (Fm.mp m mc) f τ2553 m8 2 m.nxt 2 [(.int .i64 (0 : Int)), (.int .i64 (0 : Int))] → Lb (Fm.mp m mc) f τ2553 m8 3 m0.nxt 2 [(.int .i64 y2554), (.int .i64 y2555)] → Mo (Fm.mp m mc) f τ2553 m8 1 mc w2556 → pmaxFunc_L0 l cmp d2557 y2554 y2555 w2556 x7 = some rz → R6 [.c (.int .i64 x7)] m8 := by
      intro d2557
      induction d2557 with
      | zero => intro x7 y2554 y2555 w2556 m8 τ2553 S2552 L2550 L2549 M2551 hp; cases hp
      | succ d2557 ihR6 =>
        intro x7 y2554 y2555 w2556 m8 τ2553 S2552 L2550 L2549 M2551 hp
        refine hR6 _ _ ?_
        rw [pmaxFunc_L0] at hp
        refine ⟨ha100.isSl, ?_⟩
        try rw [ha100.slLen]
        rw [ifB_dec]
        refine ⟨fun q2558 => ?_, fun q2558 => ?_⟩
        · skip
          rw [if_pos q2558] at hp
          obtain ⟨v2559, g2560, hp⟩ := bsome hp
          obtain ⟨n9, g2560i, g2560l, g2560⟩ := idx_some g2560
          obtain ⟨_, r2561⟩ := rd_Tr ha100 g2560
          refine ⟨n9, g2560i, (by first | exact g2560l | (rw [ha100.slLen]; exact g2560l)), _, _, (r2561 _ S2552.sub).1, _, _, L2549.bk.ra, ?_⟩
          obtain ⟨r2562, g2563, hp⟩ := bsome hp
          refine ha200 _ _ _ _ _ _ _ (Sub.refl _) S2552.pre  (M2551.mc S2552) g2563 fun m15 e2566 hM2567 => ?_
          obtain ⟨S2564, k2565, M2568⟩ := S2552.callM M2551 e2566 hM2567
          have L2569 := L2550.k k2565 (by decide)
          have L2570 := L2549.k k2565 (by decide)
          refine ⟨_, rfl, ?_⟩
          rw [ifB_dec]
          refine ⟨fun q2571 => ?_, fun q2571 => ?_⟩
          · skip
            rw [if_pos q2571] at hp
            obtain ⟨v2572, g2573, hp⟩ := bsome hp
            obtain ⟨n17, g2573i, g2573l, g2573⟩ := idx_some g2573
            obtain ⟨_, r2574⟩ := rd_Tr ha100 g2573
            refine ⟨n17, g2573i, (by first | exact g2573l | (rw [ha100.slLen]; exact g2573l)), _, _, (r2574 _ S2564.sub).1, ?_⟩
            obtain ⟨m2578, e2577, S2575, k2576, L2579⟩ := L2570.sto S2564 [(.int .i64 v2572.Day), (.int .i64 v2572.Count)]
            have L2580 := L2569.k k2576 (by decide)
            have M2581 := M2568.k k2576 (by decide)
            refine ⟨m2578, e2577, ?_⟩
            obtain ⟨g2582, hp⟩ := gd_some hp
            refine ⟨g2582, ?_⟩
            exact ihR6 _ _ _ _ _ τ2553 S2575 L2580 L2579 M2581 hp
          · skip
            rw [if_neg q2571] at hp
            obtain ⟨g2583, hp⟩ := gd_some hp
            refine ⟨g2583, ?_⟩
            exact ihR6 _ _ _ _ _ τ2553 S2564 L2569 L2570 M2568 hp
        · skip
          rw [if_neg q2558] at hp
          refine ⟨_, _, L2549.bk.ra, ?_⟩
          obtain ⟨m2587, e2586, S2584, k2585, L2588⟩ := L2550.sto S2552 [(.int .i64 y2554), (.int .i64 y2555)]
          have L2589 := L2549.k k2585 (by decide)
          have M2590 := M2551.k k2585 (by decide)
          refine ⟨m2587, e2586, ?_⟩
          refine ⟨_, _, L2588.bk.ra, ?_⟩
          obtain rfl := Option.some.inj hp
          exact hq _ S2584.extB M2590.mi
    exact hgo _ _ _ _ _ _ τ2541 S2545 L2550 L2549 M2551 hp
theorem s_minFunc {l : List Tr} {cmp : Tr → Tr → (Option (Ht → Option (Int))) → Option (Int × Option (Ht → Option (Int)))} {Mp : Option (Ht → Option (Int))} {ca100 ca200 mc : C} {m f : M} {Q : V → M → Prop} {rz : Tr × Option (Ht → Option (Int))} (hS : Pre f m) (ha100 : Sl f ca100 l) (hMp : Mc f m mc Mp) (ha200 : Fw_Tr_Tr_Int mc f ca200 cmp) (hp : pminFunc l cmp Mp = some rz) (hq : ∀ m', ExtB mc m m' → Mi m' mc rz.2 → Q (.agg 2 [(.int .i64 rz.1.Day), (.int .i64 rz.1.Count)]) m') : Wc prog tbl 73 [.c ca100, .c ca200] m Q := by
  have S0 := hS.stM hMp
  obtain ⟨τ0, M0⟩ : ∃ τ, Mo (Fm.mp m mc) f τ m 1 mc Mp := ⟨_, hMp.mo 1⟩
  refine w73 ?_
  unfold pminFunc at hp
  intro m0 e2591
  obtain ⟨τ2594, S2592, k2593, L2595⟩ := S0.blk e2591 τ0 2
  have M2596 := M0.k k2593 (by decide)
  refine ⟨ha100.isSl, ?_⟩
  try rw [ha100.slLen]
  rw [ifB_dec]
  refine ⟨fun q2597 => ?_, fun q2597 => ?_⟩
  · skip
    rw [if_pos q2597] at hp
    cases hp
  · skip
    rw [if_neg q2597] at hp
    obtain ⟨v2598, g2599, hp⟩ := bsome hp
    obtain ⟨n1, g2599i, g2599l, g2599⟩ := idx_some g2599
    obtain ⟨_, r2600⟩ := rd_Tr ha100 g2599
    refine ⟨n1, g2599i, (by first | exact g2599l | (rw [ha100.slLen]; exact g2599l)), _, _, (r2600 _ S2592.sub).1, ?_⟩
    intro m4 e2601
    obtain ⟨τ2604, S2602, k2603, L2605⟩ := S2592.blk e2601 τ2594 3
    have L2606 := L2595.k k2603 (by decide)
    have M2607 := M2596.k k2603 (by decide)
    obtain ⟨m2611, e2610, S2608, k2609, L2612⟩ := L2605.sto S2602 [(.int .i64 v2598.Day), (.int .i64 v2598.Count)]
    have L2613 := L2606.k k2609 (by decide)
    have M2614 := M2607.k k2609 (by decide)
    refine ⟨m2611, e2610, ?_⟩
    intro R6 hR6
    have hgo : ∀ (d2620 : Nat) (x7 : Int) (y2617 : Int) (y2618 : Int) (w2619 : Option (Ht → Option (Int))) (m8 : M) (τ2616 : Nat → Nat), St (Fm.mp m mc) f f m8 → Lb (Fm.mp m mc) f τ2616 m8 2 m.nxt 2 [(.int .i64 (0 : Int)), (.int .i64 (0 : Int))] → Lb (Fm.mp m mc) f τ2616 m8 3 m0.nxt 2 [(.int .i64 y2617), (.int .i64 y2618)] → Mo (Fm.mp m mc) f τ2616 m8 1 mc w2619 → pminFunc_L0 l cmp d2620 y2617 y2618 w2619 x7 = some rz → R6 [.c (.int .i64 x7)] m8 := by
      intro d2620
      induction d2620 with
      | zero => intro x7 y2617 y2618 w2619 m8 τ2616 S2615 L2613 L2612 M2614 hp; cases hp
      | succ d2620 ihR6 =>
        intro x7 y2617 y2618 w2619 m8 τ2616 S2615 L2613 L2612 M2614 hp
        refine hR6 _ _ ?_
        rw [pminFunc_L0] at hp
        refine ⟨ha100.isSl, ?_⟩
        try rw [ha100.slLen]
        rw [ifB_dec]
        refine ⟨fun q2621 => ?_, fun q2621 => ?_⟩
        · skip
          rw [if_pos q2621] at hp
          obtain ⟨v2622, g2623, hp⟩ := bsome hp
          obtain ⟨n9, g2623i, g2623l, g2623⟩ := idx_some g2623
          obtain ⟨_, r2624⟩ := rd_Tr ha100 g2623
          refine ⟨n9, g2623i, (by first | exact g2623l | (rw [ha100.slLen]; exact g2623l)), _, _, (r2624 _ S2615.sub).1, _, _, L2612.bk.ra, ?_⟩
          obtain ⟨r2625, g2626, hp⟩ := bsome hp
          refine ha200 _ _ _ _ _ _ _ (Sub.refl _) S2615.pre  (M2614.mc S2615) g2626 fun m15 e2629 hM2630 => ?_
          obtain ⟨S2627, k2628, M2631⟩ := S2615.callM M2614 e2629 hM2630
          have L2632 := L2613.k k2628 (by decide)
          have L2633 := L2612.k k2628 (by decide)
          refine ⟨_, rfl, ?_⟩
          rw [ifB_dec]
          refine ⟨fun q2634 => ?_, fun q2634 => ?_⟩
          · skip
            rw [if_pos q2634] at hp
            obtain ⟨v2635, g2636, hp⟩ := bsome hp
            obtain ⟨n17, g2636i, g2636l, g2636⟩ := idx_some g2636
            obtain ⟨_, r2637⟩ := rd_Tr ha100 g2636
            refine ⟨n17, g2636i, (by first | exact g2636l | (rw [ha100.slLen]; exact g2636l)), _, _, (r2637 _ S2627.sub).1, ?_⟩
            obtain ⟨m2641, e2640, S2638, k2639, L2642⟩ := L2633.sto S2627 [(.int .i64 v2635.Day), (.int .i64 v2635.Count)]
            have L2643 := L2632.k k2639 (by decide)
            have M2644 := M2631.k k2639 (by decide)
            refine ⟨m2641, e2640, ?_⟩
            obtain ⟨g2645, hp⟩ := gd_some hp
            refine ⟨g2645, ?_⟩
            exact ihR6 _ _ _ _ _ τ2616 S2638 L2643 L2642 M2644 hp
          · skip
            rw [if_neg q2634] at hp
            obtain ⟨g2646, hp⟩ := gd_some hp
            refine ⟨g2646, ?_⟩
            exact ihR6 _ _ _ _ _ τ2616 S2627 L2632 L2633 M2631 hp
        · skip
          rw [if_neg q2621] at hp
          refine ⟨_, _, L2612.bk.ra, ?_⟩
          obtain ⟨m2650, e2649, S2647, k2648, L2651⟩ := L2613.sto S2615 [(.int .i64 y2617), (.int .i64 y2618)]
          have L2652 := L2612.k k2648 (by decide)
          have M2653 := M2614.k k2648 (by decide)
          refine ⟨m2650, e2649, ?_⟩
          refine ⟨_, _, L2651.bk.ra, ?_⟩
          obtain rfl := Option.some.inj hp
          exact hq _ S2647.extB M2653.mi
    exact hgo _ _ _ _ _ _ τ2604 S2608 L2613 L2612 M2614 hp
theorem s_Show {l : List Tf} {c : Clm} {high : Bool} {ca100 : C} {m f : M} {Q : V → M → Prop} {rz : Tr × Int} (hS : Pre f m) (ha100 : Sl f ca100 l) (hp : pShow l c high = some rz) (hq : ∀ m', Ext m m' → Q (.tup [.agg 2 [(.int .i64 rz.1.Day), (.int .i64 rz.1.Count)], .c (.int .i64 rz.2)]) m') : Wc prog tbl 33 [.c ca100, .agg 6 [(.int .i64 c.Crop), (.int .i64 c.Value), (.int .i64 c.Day.Lo), (.int .i64 c.Day.Hi), (.int .i64 c.Count.Lo), (.int .i64 c.Count.Hi)], .c (.bool high)] m Q := by
  have S0 := hS.st
  obtain ⟨τ0, _⟩ : ∃ τ : Nat → Nat, True := ⟨fun _ => 0, trivial⟩
  refine w33 ?_
  unfold pShow at hp
  intro m0 e2654
  obtain ⟨τ2657, S2655, k2656, L2658⟩ := S0.blk e2654 τ0 1
  intro m1 e2659
  obtain ⟨τ2662, S2660, k2661, L2663⟩ := S2655.blk e2659 τ2657 2
  have L2664 := L2658.k k2661 (by decide)
  refine ⟨_, _, _, _, _, _, L2664.bk.ra, ?_⟩
  intro m8 e2665
  obtain ⟨τ2668, S2666, k2667, L2669⟩ := S2660.blk e2665 τ2662 3
  have L2670 := L2664.k k2667 (by decide)
  have L2671 := L2663.k k2667 (by decide)
  obtain ⟨f2672, S2673, k2674, hb2675⟩ := L2669.freeze S2666
  have L2676 := L2670.k k2674 (by decide)
  have L2677 := L2671.k k2674 (by decide)
  have h2678 : Sl f2672 (C.sl m1.nxt 0 1 0 (Option.some 1)) ([c] : List Clm) := Bk.sl (l := ([c] : List Clm)) hb2675 (⟨[(.int .i64 c.Crop), (.int .i64 c.Value), (.int .i64 c.Day.Lo), (.int .i64 c.Day.Hi), (.int .i64 c.Count.Lo), (.int .i64 c.Count.Hi)], _, rfl, rfl, rfl⟩) rfl rfl _
  obtain ⟨r2679, g2680, hp⟩ := bsome hp
  refine s_openFor (l := l) (claims := ([c] : List Clm)) S2673.pre (ha100.sub k2674.fs) h2678 g2680 fun m10 f2684 c2685 c2687 e2683 h2686 h2688 => ?_
  obtain ⟨τ2689, S2681, k2682, M2690⟩ := S2673.callN e2683 h2688 τ2668 4
  have L2691 := L2676.k k2682 (by decide)
  have L2692 := L2677.k k2682 (by decide)
  refine ⟨_, _, _, rfl, ?_⟩
  intro m14 e2693
  obtain ⟨τ2696, S2694, k2695, L2697⟩ := S2681.blk e2693 τ2689 5
  have L2698 := L2691.k k2695 (by decide)
  have L2699 := L2692.k k2695 (by decide)
  have M2700 := M2690.k k2695 (by decide)
  obtain ⟨m2704, e2703, S2701, k2702, L2705⟩ := L2697.sto S2694 [c2685, c2687]
  have L2706 := L2698.k k2702 (by decide)
  have L2707 := L2699.k k2702 (by decide)
  have M2708 := M2700.k k2702 (by decide)
  refine ⟨m2704, e2703, ?_⟩
  rw [ifB_ndec]
  refine ⟨fun q2709 => ?_, fun q2709 => ?_⟩
  · skip
    rw [if_neg q2709] at hp
    obtain ⟨m2713, e2712, S2710, k2711, L2714⟩ := L2707.sto S2701 [(.int .i64 (0 : Int)), (.int .i64 (0 : Int))]
    have L2715 := L2706.k k2711 (by decide)
    have L2716 := L2705.k k2711 (by decide)
    have M2717 := M2708.k k2711 (by decide)
    refine ⟨m2713, e2712, ?_⟩
    refine ⟨_, _, L2714.bk.ra, ?_⟩
    obtain rfl := Option.some.inj hp
    exact hq _ S2710.ext'
  · skip
    rw [if_pos q2709] at hp
    refine ⟨_, _, _, _, _, _, L2706.bk.ra, ?_⟩
    obtain ⟨r2718, g2719, hp⟩ := bsome hp
    refine s_truths (c := c) S2701.pre  g2719 fun m26 f2723 c2724 e2722 h2725 => ?_
    obtain ⟨S2720, k2721⟩ := S2701.callG e2722 τ2696
    have L2726 := L2706.k k2721 (by decide)
    have L2727 := L2707.k k2721 (by decide)
    have L2728 := L2705.k k2721 (by decide)
    have M2729 := M2708.k k2721 (by decide)
    refine ⟨_, rfl, ?_⟩
    obtain ⟨r2730, g2731, hp⟩ := bsome hp
    refine s_collect (seq := r2718) S2720.pre h2725 g2731 fun m29 f2735 c2736 e2734 h2737 => ?_
    obtain ⟨S2732, k2733⟩ := S2720.callG e2734 τ2696
    have L2738 := L2726.k k2733 (by decide)
    have L2739 := L2727.k k2733 (by decide)
    have L2740 := L2728.k k2733 (by decide)
    have M2741 := M2729.k k2733 (by decide)
    refine ⟨_, rfl, ?_⟩
    rw [ifB_iff]
    refine ⟨fun q2742 => ?_, fun q2742 => ?_⟩
    · skip
      rw [if_pos q2742] at hp
      obtain ⟨f2743, S2744, k2745, hb2746⟩ := L2740.freeze S2732
      have L2747 := L2738.k k2745 (by decide)
      have L2748 := L2739.k k2745 (by decide)
      have M2749 := M2741.k k2745 (by decide)
      obtain ⟨f2750, S2751, k2752, hb2753⟩ := L2747.freeze S2744
      have L2754 := L2748.k k2752 (by decide)
      have M2755 := M2749.k k2752 (by decide)
      have hF2758 : Fw_Tr_Tr_Int c2687 f2750 ((C.fn (Fn.func 70) [] [(W.c (C0.ptr m10.nxt 0)), (W.c (C0.ptr m.nxt 0))])) (fun a2756 a2757 M_ => pshow1 a2756 a2757 ({ tariffs := r2679.1.tariffs, parts := M_ } : Wk) c) := by
        intro f' m' a2756 a2757 M_ r Q hs hpre  hMc hg hq
        exact s_show1 (t := a2756) (u := a2757) (w := ({ tariffs := r2679.1.tariffs, parts := M_ } : Wk)) (c := c) hpre ((hb2746.sub k2752.fs).sub hs) ((h2686.sub (Sub.trans (Sub.trans (Sub.trans k2721.fs k2733.fs) k2745.fs) k2752.fs)).sub hs) hMc (hb2753.sub hs) hg hq
      obtain ⟨r2759, g2760, hp⟩ := bsome hp
      refine s_maxFunc (l := r2730) (cmp := (fun a2756 a2757 M_ => pshow1 a2756 a2757 ({ tariffs := r2679.1.tariffs, parts := M_ } : Wk) c)) (Mp := r2679.1.parts) S2751.pre (h2737.sub (Sub.trans k2745.fs k2752.fs)) (M2755.mc S2751) hF2758 g2760 fun m32 e2763 hM2764 => ?_
      obtain ⟨S2761, k2762, M2765⟩ := S2751.callM M2755 e2763 hM2764
      have L2766 := L2754.k k2762 (by decide)
      refine ⟨_, _, rfl, ?_⟩
      obtain ⟨m2770, e2769, S2767, k2768, L2771⟩ := L2766.sto S2761 [(.int .i64 r2759.1.Day), (.int .i64 r2759.1.Count)]
      have M2772 := M2765.k k2768 (by decide)
      refine ⟨m2770, e2769, ?_⟩
      refine ⟨_, _, L2771.bk.ra, ?_⟩
      obtain rfl := Option.some.inj hp
      exact hq _ S2767.ext'
    · skip
      rw [bif_neg q2742] at hp
      obtain ⟨f2773, S2774, k2775, hb2776⟩ := L2740.freeze S2732
      have L2777 := L2738.k k2775 (by decide)
      have L2778 := L2739.k k2775 (by decide)
      have M2779 := M2741.k k2775 (by decide)
      obtain ⟨f2780, S2781, k2782, hb2783⟩ := L2777.freeze S2774
      have L2784 := L2778.k k2782 (by decide)
      have M2785 := M2779.k k2782 (by decide)
      have hF2788 : Fw_Tr_Tr_Int c2687 f2780 ((C.fn (Fn.func 70) [] [(W.c (C0.ptr m10.nxt 0)), (W.c (C0.ptr m.nxt 0))])) (fun a2786 a2787 M_ => pshow1 a2786 a2787 ({ tariffs := r2679.1.tariffs, parts := M_ } : Wk) c) := by
        intro f' m' a2786 a2787 M_ r Q hs hpre  hMc hg hq
        exact s_show1 (t := a2786) (u := a2787) (w := ({ tariffs := r2679.1.tariffs, parts := M_ } : Wk)) (c := c) hpre ((hb2776.sub k2782.fs).sub hs) ((h2686.sub (Sub.trans (Sub.trans (Sub.trans k2721.fs k2733.fs) k2775.fs) k2782.fs)).sub hs) hMc (hb2783.sub hs) hg hq
      obtain ⟨r2789, g2790, hp⟩ := bsome hp
      refine s_minFunc (l := r2730) (cmp := (fun a2786 a2787 M_ => pshow1 a2786 a2787 ({ tariffs := r2679.1.tariffs, parts := M_ } : Wk) c)) (Mp := r2679.1.parts) S2781.pre (h2737.sub (Sub.trans k2775.fs k2782.fs)) (M2785.mc S2781) hF2788 g2790 fun m39 e2793 hM2794 => ?_
      obtain ⟨S2791, k2792, M2795⟩ := S2781.callM M2785 e2793 hM2794
      have L2796 := L2784.k k2792 (by decide)
      refine ⟨_, _, rfl, ?_⟩
      obtain ⟨m2800, e2799, S2797, k2798, L2801⟩ := L2796.sto S2791 [(.int .i64 r2789.1.Day), (.int .i64 r2789.1.Count)]
      have M2802 := M2795.k k2798 (by decide)
      refine ⟨m2800, e2799, ?_⟩
      refine ⟨_, _, L2801.bk.ra, ?_⟩
      obtain rfl := Option.some.inj hp
      exact hq _ S2797.ext'
theorem s_Bounds {l : List Tf} {c : Clm} {ca100 : C} {m f : M} {Q : V → M → Prop} {rz : Rg × Int} (hS : Pre f m) (ha100 : Sl f ca100 l) (hp : pBounds l c = some rz) (hq : ∀ m', Ext m m' → Q (.tup [.agg 2 [(.int .i64 rz.1.Lo), (.int .i64 rz.1.Hi)], .c (.int .i64 rz.2)]) m') : Wc prog tbl 32 [.c ca100, .agg 6 [(.int .i64 c.Crop), (.int .i64 c.Value), (.int .i64 c.Day.Lo), (.int .i64 c.Day.Hi), (.int .i64 c.Count.Lo), (.int .i64 c.Count.Hi)]] m Q := by
  have S0 := hS.st
  obtain ⟨τ0, _⟩ : ∃ τ : Nat → Nat, True := ⟨fun _ => 0, trivial⟩
  refine w32 ?_
  unfold pBounds at hp
  intro m0 e2803
  obtain ⟨τ2806, S2804, k2805, L2807⟩ := S0.blk e2803 τ0 1
  intro m1 e2808
  obtain ⟨τ2811, S2809, k2810, L2812⟩ := S2804.blk e2808 τ2806 2
  have L2813 := L2807.k k2810 (by decide)
  refine ⟨_, _, _, _, _, _, L2813.bk.ra, ?_⟩
  intro m8 e2814
  obtain ⟨τ2817, S2815, k2816, L2818⟩ := S2809.blk e2814 τ2811 3
  have L2819 := L2813.k k2816 (by decide)
  have L2820 := L2812.k k2816 (by decide)
  obtain ⟨f2821, S2822, k2823, hb2824⟩ := L2818.freeze S2815
  have L2825 := L2819.k k2823 (by decide)
  have L2826 := L2820.k k2823 (by decide)
  have h2827 : Sl f2821 (C.sl m1.nxt 0 1 0 (Option.some 1)) ([c] : List Clm) := Bk.sl (l := ([c] : List Clm)) hb2824 (⟨[(.int .i64 c.Crop), (.int .i64 c.Value), (.int .i64 c.Day.Lo), (.int .i64 c.Day.Hi), (.int .i64 c.Count.Lo), (.int .i64 c.Count.Hi)], _, rfl, rfl, rfl⟩) rfl rfl _
  obtain ⟨r2828, g2829, hp⟩ := bsome hp
  refine s_openFor (l := l) (claims := ([c] : List Clm)) S2822.pre (ha100.sub k2823.fs) h2827 g2829 fun m10 f2833 c2834 c2836 e2832 h2835 h2837 => ?_
  obtain ⟨τ2838, S2830, k2831, M2839⟩ := S2822.callN e2832 h2837 τ2817 4
  have L2840 := L2825.k k2831 (by decide)
  have L2841 := L2826.k k2831 (by decide)
  refine ⟨_, _, _, rfl, ?_⟩
  intro m14 e2842
  obtain ⟨τ2845, S2843, k2844, L2846⟩ := S2830.blk e2842 τ2838 5
  have L2847 := L2840.k k2844 (by decide)
  have L2848 := L2841.k k2844 (by decide)
  have M2849 := M2839.k k2844 (by decide)
  obtain ⟨m2853, e2852, S2850, k2851, L2854⟩ := L2846.sto S2843 [c2834, c2836]
  have L2855 := L2847.k k2851 (by decide)
  have L2856 := L2848.k k2851 (by decide)
  have M2857 := M2849.k k2851 (by decide)
  refine ⟨m2853, e2852, ?_⟩
  rw [ifB_ndec]
  refine ⟨fun q2858 => ?_, fun q2858 => ?_⟩
  · skip
    rw [if_neg q2858] at hp
    obtain ⟨m2862, e2861, S2859, k2860, L2863⟩ := L2856.sto S2850 [(.int .i64 (0 : Int)), (.int .i64 (0 : Int))]
    have L2864 := L2855.k k2860 (by decide)
    have L2865 := L2854.k k2860 (by decide)
    have M2866 := M2857.k k2860 (by decide)
    refine ⟨m2862, e2861, ?_⟩
    refine ⟨_, _, L2863.bk.ra, ?_⟩
    obtain rfl := Option.some.inj hp
    exact hq _ S2859.ext'
  · skip
    rw [if_pos q2858] at hp
    refine ⟨_, _, L2854.bk.ra, _, _, _, _, _, _, L2855.bk.ra, ?_⟩
    obtain ⟨r2867, g2868, hp⟩ := bsome hp
    refine s_bounds (w := r2828.1) (c := c) S2850.pre h2835 (M2857.mc S2850) g2868 fun m28 e2871 hM2872 => ?_
    obtain ⟨S2869, k2870, M2873⟩ := S2850.callM M2857 e2871 hM2872
    have L2874 := L2855.k k2870 (by decide)
    have L2875 := L2856.k k2870 (by decide)
    have L2876 := L2854.k k2870 (by decide)
    refine ⟨_, _, rfl, ?_⟩
    obtain ⟨m2880, e2879, S2877, k2878, L2881⟩ := L2875.sto S2869 [(.int .i64 r2867.1.Lo), (.int .i64 r2867.1.Hi)]
    have L2882 := L2874.k k2878 (by decide)
    have L2883 := L2876.k k2878 (by decide)
    have M2884 := M2873.k k2878 (by decide)
    refine ⟨m2880, e2879, ?_⟩
    refine ⟨_, _, L2881.bk.ra, ?_⟩
    obtain rfl := Option.some.inj hp
    exact hq _ S2877.ext'
theorem s_Paid {l : List Tf} {c : Clm} {ca100 : C} {m f : M} {Q : V → M → Prop} {rz : Int × Int} (hS : Pre f m) (ha100 : Sl f ca100 l) (hp : pPaid l c = some rz) (hq : ∀ m', Ext m m' → Q (.tup [.c (.int .i64 rz.1), .c (.int .i64 rz.2)]) m') : Wc prog tbl 34 [.c ca100, .agg 6 [(.int .i64 c.Crop), (.int .i64 c.Value), (.int .i64 c.Day.Lo), (.int .i64 c.Day.Hi), (.int .i64 c.Count.Lo), (.int .i64 c.Count.Hi)]] m Q := by
  have S0 := hS.st
  obtain ⟨τ0, _⟩ : ∃ τ : Nat → Nat, True := ⟨fun _ => 0, trivial⟩
  refine w34 ?_
  unfold pPaid at hp
  intro m0 e2885
  obtain ⟨τ2888, S2886, k2887, L2889⟩ := S0.blk e2885 τ0 1
  refine ⟨_, _, _, _, _, _, L2889.bk.ra, ?_⟩
  obtain ⟨r2890, g2891, hp⟩ := bsome hp
  refine s_Bounds (l := l) (c := c) S2886.pre ha100 g2891 fun m8 e2894 => ?_
  obtain ⟨S2892, k2893⟩ := S2886.call e2894 τ2888
  have L2895 := L2889.k k2893 (by decide)
  refine ⟨_, _, _, rfl, ?_⟩
  intro m12 e2896
  obtain ⟨τ2899, S2897, k2898, L2900⟩ := S2892.blk e2896 τ2888 2
  have L2901 := L2895.k k2898 (by decide)
  obtain ⟨m2905, e2904, S2902, k2903, L2906⟩ := L2900.sto S2897 [(.int .i64 r2890.1.Lo), (.int .i64 r2890.1.Hi)]
  have L2907 := L2901.k k2903 (by decide)
  refine ⟨m2905, e2904, ?_⟩
  rw [ifB_ndec]
  refine ⟨fun q2908 => ?_, fun q2908 => ?_⟩
  · skip
    rw [if_neg q2908] at hp
    obtain rfl := Option.some.inj hp
    exact hq _ S2902.ext'
  · skip
    rw [if_pos q2908] at hp
    refine ⟨trivial, _, L2906.bk.rc rfl, ?_⟩
    rw [ifB_dec]
    refine ⟨fun q2909 => ?_, fun q2909 => ?_⟩
    · skip
      rw [if_pos q2909] at hp
      obtain rfl := Option.some.inj hp
      exact hq _ S2902.ext'
    · skip
      rw [if_neg q2909] at hp
      refine ⟨trivial, _, L2906.bk.rc rfl, ?_⟩
      rw [ifB_dec]
      refine ⟨fun q2910 => ?_, fun q2910 => ?_⟩
      · skip
        rw [if_pos q2910] at hp
        obtain rfl := Option.some.inj hp
        exact hq _ S2902.ext'
      · skip
        rw [if_neg q2910] at hp
        obtain rfl := Option.some.inj hp
        exact hq _ S2902.ext'
theorem s_lTariffs {l : List Tf} {ca100 : C} {m f : M} {Q : V → M → Prop} {rz : List Tf} (hS : Pre f m) (ha100 : Sl f ca100 l) (hp : plTariffs l = some rz) (hq : ∀ m' f' c0, Grw m f m' f' → Sl f' c0 rz → Q (.c c0) m') : Wc prog tbl 19 [.c ca100] m Q := by
  have S0 := hS.st
  obtain ⟨τ0, _⟩ : ∃ τ : Nat → Nat, True := ⟨fun _ => 0, trivial⟩
  refine w19 ?_
  unfold plTariffs at hp
  intro R0 hR0
  have hgo : ∀ (d3262 : Nat) (c1 : C) (x2 : Int) (l3260 : List Tf) (m3 : M) (f3259 : M) (τ3258 : Nat → Nat), St (Fm.of m) f f3259 m3 → Sub f f3259 → Ow (Fm.of m) f3259 τ3258 m3 1 c1 l3260 → plTariffs_L0 l d3262 l3260 x2 = some rz → R0 [.c c1, .c (.int .i64 x2)] m3 := by
    intro d3262
    induction d3262 with
    | zero => intro c1 x2 l3260 m3 f3259 τ3258 S3257 f3259s o3261 hp; cases hp
    | succ d3262 ihR0 =>
      intro c1 x2 l3260 m3 f3259 τ3258 S3257 f3259s o3261 hp
      refine hR0 _ _ _ ?_
      rw [plTariffs_L0] at hp
      refine ⟨ha100.isSl, ?_⟩
      try rw [ha100.slLen]
      rw [ifB_dec]
      refine ⟨fun q3263 => ?_, fun q3263 => ?_⟩
      · skip
        rw [if_pos q3263] at hp
        intro m4 e3264
        obtain ⟨τ3267, S3265, k3266, hz3268⟩ := S3257.growK e3264 τ3258 2
        have o3261 := o3261.k k3266 (by decide)
        have Z3269 := hz3268 0 (by decide)
        obtain ⟨v3270, g3271, hp⟩ := bsome hp
        obtain ⟨n5, g3271i, g3271l, g3271⟩ := idx_some g3271
        obtain ⟨c3272, c3274, c3276, r3278, h3273, h3275, h3277⟩ := rd_Tf ha100 g3271
        refine ⟨n5, g3271i, (by first | exact g3271l | (rw [ha100.slLen]; exact g3271l)), (ha100.isPt g3271 _), _, ((r3278 _ (Sub.trans f3259s S3265.sub)).2.1 0 _ rfl), ?_⟩
        obtain ⟨v3279, g3280, hp⟩ := bsome hp
        obtain ⟨n7, g3280i, g3280l, g3280⟩ := idx_some g3280
        obtain ⟨c3281, c3283, c3285, r3287, h3282, h3284, h3286⟩ := rd_Tf ha100 g3280
        refine ⟨n7, g3280i, (by first | exact g3280l | (rw [ha100.slLen]; exact g3280l)), (ha100.isPt g3280 _), _, ((r3287 _ (Sub.trans f3259s S3265.sub)).2.1 1 _ rfl), ?_⟩
        obtain ⟨v3288, g3289, hp⟩ := bsome hp
        obtain ⟨n9, g3289i, g3289l, g3289⟩ := idx_some g3289
        obtain ⟨c3290, c3292, c3294, r3296, h3291, h3293, h3295⟩ := rd_Tf ha100 g3289
        refine ⟨n9, g3289i, (by first | exact g3289l | (rw [ha100.slLen]; exact g3289l)), (ha100.isPt g3289 _), _, ((r3296 _ (Sub.trans f3259s S3265.sub)).2.1 2 _ rfl), ?_⟩
        obtain ⟨v3297, g3298, hp⟩ := bsome hp
        obtain ⟨n11, g3298i, g3298l, g3298⟩ := idx_some g3298
        obtain ⟨c3299, c3301, c3303, r3305, h3300, h3302, h3304⟩ := rd_Tf ha100 g3298
        refine ⟨n11, g3298i, (by first | exact g3298l | (rw [ha100.slLen]; exact g3298l)), (ha100.isPt g3298 _), _, ((r3305 _ (Sub.trans f3259s S3265.sub)).2.1 3 _ rfl), ?_⟩
        obtain ⟨r3306, g3307, hp⟩ := bsome hp
        refine s_lList (l := v3297.Weeks) S3265.pre (h3300.sub f3259s) g3307 fun m14 f3311 c3312 e3310 h3313 => ?_
        obtain ⟨S3308, k3309⟩ := S3265.callG e3310 τ3267
        have Z3314 := Z3269.k k3309 (by decide)
        have o3261 := o3261.k k3309 (by decide)
        refine ⟨_, rfl, ((r3296 _ (Sub.trans (Sub.trans f3259s k3309.fs) S3308.sub)).2.1 2 _ rfl), ((r3287 _ (Sub.trans (Sub.trans f3259s k3309.fs) S3308.sub)).2.1 1 _ rfl), ((r3278 _ (Sub.trans (Sub.trans f3259s k3309.fs) S3308.sub)).2.1 0 _ rfl), ?_⟩
        obtain ⟨v3315, g3316, hp⟩ := bsome hp
        obtain ⟨n16, g3316i, g3316l, g3316⟩ := idx_some g3316
        obtain ⟨c3317, c3319, c3321, r3323, h3318, h3320, h3322⟩ := rd_Tf ha100 g3316
        refine ⟨n16, g3316i, (by first | exact g3316l | (rw [ha100.slLen]; exact g3316l)), (ha100.isPt g3316 _), _, ((r3323 _ (Sub.trans (Sub.trans f3259s k3309.fs) S3308.sub)).2.1 4 _ rfl), (by rw [show noFnC _ = true from h3320.noFn]; exact ((r3323 _ (Sub.trans f3259s S3265.sub)).2.1 4 _ rfl)), ?_⟩
        obtain ⟨r3324, g3325, hp⟩ := bsome hp
        refine s_lList (l := v3315.Counts) S3308.pre (h3320.sub (Sub.trans f3259s k3309.fs)) g3325 fun m19 f3329 c3330 e3328 h3331 => ?_
        obtain ⟨S3326, k3327⟩ := S3308.callG e3328 τ3267
        have Z3332 := Z3314.k k3327 (by decide)
        have o3261 := o3261.k k3327 (by decide)
        refine ⟨_, rfl, ((r3296 _ (Sub.trans (Sub.trans (Sub.trans f3259s k3309.fs) k3327.fs) S3326.sub)).2.1 2 _ rfl), ((r3287 _ (Sub.trans (Sub.trans (Sub.trans f3259s k3309.fs) k3327.fs) S3326.sub)).2.1 1 _ rfl), ((r3278 _ (Sub.trans (Sub.trans (Sub.trans f3259s k3309.fs) k3327.fs) S3326.sub)).2.1 0 _ rfl), ?_⟩
        intro m21 e3333
        obtain ⟨S3334, k3335, L3336⟩ := Z3332.set S3326 e3333
        have o3261 := o3261.k k3335 (by decide)
        refine ⟨(by rw [show noFnC _ = true from h3320.noFn]; exact ((r3323 _ (Sub.trans (Sub.trans (Sub.trans f3259s k3309.fs) k3327.fs) S3334.sub)).2.1 4 _ rfl)), (by rw [show noFnC _ = true from h3300.noFn]; exact ((r3305 _ (Sub.trans (Sub.trans (Sub.trans f3259s k3309.fs) k3327.fs) S3334.sub)).2.1 3 _ rfl)), ((r3296 _ (Sub.trans (Sub.trans (Sub.trans f3259s k3309.fs) k3327.fs) S3334.sub)).2.1 2 _ rfl), ((r3287 _ (Sub.trans (Sub.trans (Sub.trans f3259s k3309.fs) k3327.fs) S3334.sub)).2.1 1 _ rfl), ((r3278 _ (Sub.trans (Sub.trans (Sub.trans f3259s k3309.fs) k3327.fs) S3334.sub)).2.1 0 _ rfl), ?_⟩
        obtain ⟨m3340, e3339, S3337, k3338, L3341⟩ := L3336.sto S3334 [(.int .i64 v3270.From), (.bool v3279.Whole), (.int .i64 v3288.Least), c3312, c3330, .sl0]
        have o3261 := o3261.k k3338 (by decide)
        refine ⟨m3340, e3339, ?_⟩
        intro R23 hR23
        have hgo : ∀ (d3351 : Nat) (x24 : Int) (c3349 : C) (y3345 : Int) (y3346 : Bool) (y3347 : Int) (y3348 : List (List (List Int))) (m25 : M) (f3344 : M) (τ3343 : Nat → Nat), St (Fm.of m) f f3344 m25 → Sub f3329 f3344 → Lb (Fm.of m) f3344 τ3343 m25 2 (m3.nxt + 0) 6 [(.int .i64 y3345), (.bool y3346), (.int .i64 y3347), c3312, c3330, c3349] → Ow (Fm.of m) f3344 τ3343 m25 3 c3349 y3348 → Ow (Fm.of m) f3344 τ3343 m25 1 c1 l3260 → plTariffs_L1 l l3260 x2 r3306 r3324 (plTariffs_L0 l d3262) d3351 y3345 y3346 y3347 y3348 x24 = some rz → R23 [.c (.int .i64 x24)] m25 := by
          intro d3351
          induction d3351 with
          | zero => intro x24 c3349 y3345 y3346 y3347 y3348 m25 f3344 τ3343 S3342 f3344s L3341 o3350 o3261 hp; cases hp
          | succ d3351 ihR23 =>
            intro x24 c3349 y3345 y3346 y3347 y3348 m25 f3344 τ3343 S3342 f3344s L3341 o3350 o3261 hp
            refine hR23 _ _ ?_
            rw [plTariffs_L1] at hp
            obtain ⟨v3352, g3353, hp⟩ := bsome hp
            obtain ⟨n26, g3353i, g3353l, g3353⟩ := idx_some g3353
            obtain ⟨c3354, c3356, c3358, r3360, h3355, h3357, h3359⟩ := rd_Tf ha100 g3353
            refine ⟨n26, g3353i, (by first | exact g3353l | (rw [ha100.slLen]; exact g3353l)), (ha100.isPt g3353 _), _, ((r3360 _ (Sub.trans (Sub.trans (Sub.trans (Sub.trans f3259s k3309.fs) k3327.fs) f3344s) S3342.sub)).2.1 5 _ rfl), h3359.isSl, ?_⟩
            try rw [h3359.slLen]
            rw [ifB_dec]
            refine ⟨fun q3361 => ?_, fun q3361 => ?_⟩
            · skip
              rw [if_pos q3361] at hp
              intro R28 hR28
              have hgo : ∀ (d3367 : Nat) (c29 : C) (x30 : Int) (l3365 : List (List Int)) (m31 : M) (f3364 : M) (τ3363 : Nat → Nat), St (Fm.of m) f f3364 m31 → Sub f3344 f3364 → Lb (Fm.of m) f3364 τ3363 m31 2 (m3.nxt + 0) 6 [(.int .i64 y3345), (.bool y3346), (.int .i64 y3347), c3312, c3330, c3349] → Ow (Fm.of m) f3364 τ3363 m31 4 c29 l3365 → Ow (Fm.of m) f3364 τ3363 m31 1 c1 l3260 → Ow (Fm.of m) f3364 τ3363 m31 3 c3349 y3348 → plTariffs_L2 l x2 y3345 y3346 y3347 y3348 x24 (plTariffs_L1 l l3260 x2 r3306 r3324 (plTariffs_L0 l d3262) d3351) d3367 l3365 x30 = some rz → R28 [.c c29, .c (.int .i64 x30)] m31 := by
                intro d3367
                induction d3367 with
                | zero => intro c29 x30 l3365 m31 f3364 τ3363 S3362 f3364s L3341 o3366 o3261 o3350 hp; cases hp
                | succ d3367 ihR28 =>
                  intro c29 x30 l3365 m31 f3364 τ3363 S3362 f3364s L3341 o3366 o3261 o3350 hp
                  refine hR28 _ _ _ ?_
                  rw [plTariffs_L2] at hp
                  obtain ⟨v3368, g3369, hp⟩ := bsome hp
                  obtain ⟨n32, g3369i, g3369l, g3369⟩ := idx_some g3369
                  obtain ⟨c3370, c3372, c3374, r3376, h3371, h3373, h3375⟩ := rd_Tf ha100 g3369
                  refine ⟨n32, g3369i, (by first | exact g3369l | (rw [ha100.slLen]; exact g3369l)), (ha100.isPt g3369 _), _, ((r3376 _ (Sub.trans (Sub.trans (Sub.trans (Sub.trans (Sub.trans f3259s k3309.fs) k3327.fs) f3344s) f3364s) S3362.sub)).2.1 5 _ rfl), ?_⟩
                  obtain ⟨v3377, g3378, hp⟩ := bsome hp
                  obtain ⟨n34, g3378i, g3378l, g3378⟩ := idx_some g3378
                  obtain ⟨c3379, r3380, h3381⟩ := h3375.rdS g3378
                  refine ⟨n34, g3378i, (by first | exact g3378l | (rw [h3375.slLen]; exact g3378l)), _, (r3380 _ (Sub.trans (Sub.trans (Sub.trans (Sub.trans (Sub.trans f3259s k3309.fs) k3327.fs) f3344s) f3364s) S3362.sub)), h3381.isSl, ?_⟩
                  try rw [h3381.slLen]
                  rw [ifB_dec]
                  refine ⟨fun q3382 => ?_, fun q3382 => ?_⟩
                  · skip
                    rw [if_pos q3382] at hp
                    obtain ⟨v3383, g3384, hp⟩ := bsome hp
                    obtain ⟨n36, g3384i, g3384l, g3384⟩ := idx_some g3384
                    obtain ⟨c3385, c3387, c3389, r3391, h3386, h3388, h3390⟩ := rd_Tf ha100 g3384
                    refine ⟨n36, g3384i, (by first | exact g3384l | (rw [ha100.slLen]; exact g3384l)), (ha100.isPt g3384 _), _, ((r3391 _ (Sub.trans (Sub.trans (Sub.trans (Sub.trans (Sub.trans f3259s k3309.fs) k3327.fs) f3344s) f3364s) S3362.sub)).2.1 5 _ rfl), ?_⟩
                    obtain ⟨v3392, g3393, hp⟩ := bsome hp
                    obtain ⟨n38, g3393i, g3393l, g3393⟩ := idx_some g3393
                    obtain ⟨c3394, r3395, h3396⟩ := h3390.rdS g3393
                    refine ⟨n38, g3393i, (by first | exact g3393l | (rw [h3390.slLen]; exact g3393l)), _, (r3395 _ (Sub.trans (Sub.trans (Sub.trans (Sub.trans (Sub.trans f3259s k3309.fs) k3327.fs) f3344s) f3364s) S3362.sub)), ?_⟩
                    obtain ⟨v3397, g3398, hp⟩ := bsome hp
                    obtain ⟨n40, g3398i, g3398l, g3398⟩ := idx_some g3398
                    obtain ⟨c3399, r3400, h3401⟩ := h3396.rdS g3398
                    refine ⟨n40, g3398i, (by first | exact g3398l | (rw [h3396.slLen]; exact g3398l)), _, (r3400 _ (Sub.trans (Sub.trans (Sub.trans (Sub.trans (Sub.trans f3259s k3309.fs) k3327.fs) f3344s) f3364s) S3362.sub)), ?_⟩
                    obtain ⟨r3402, g3403, hp⟩ := bsome hp
                    refine s_lList (l := v3397) S3362.pre (h3401.sub (Sub.trans (Sub.trans (Sub.trans (Sub.trans f3259s k3309.fs) k3327.fs) f3344s) f3364s)) g3403 fun m43 f3407 c3408 e3406 h3409 => ?_
                    obtain ⟨S3404, k3405⟩ := S3362.callG e3406 τ3363
                    have L3410 := L3341.k k3405 (by decide)
                    have o3261 := o3261.k k3405 (by decide)
                    have o3350 := o3350.k k3405 (by decide)
                    have o3366 := o3366.k k3405 (by decide)
                    refine ⟨_, rfl, ?_⟩
                    obtain ⟨g3419, hp⟩ := gd_some hp
                    intro m45 e3411
                    obtain ⟨c3415, m3416, τ3414, a3417, S3412, k3413, o3418⟩ := o3366.app' ta77 S3404 (a := r3402) (show Rp.rep (α := List Int) f3407 _ r3402 from ⟨_, rfl, h3409⟩) g3419 e3411
                    have L3420 := L3410.k k3413 (by decide)
                    have o3261 := o3261.k k3413 (by decide)
                    have o3350 := o3350.k k3413 (by decide)
                    refine ⟨c3415, m3416, a3417, ?_⟩
                    obtain ⟨g3421, hp⟩ := gd_some hp
                    refine ⟨g3421, ?_⟩
                    exact ihR28 _ _ _ _ f3407 τ3414 S3412 (Sub.trans f3364s k3405.fs) L3420 o3418 o3261 o3350 hp
                  · skip
                    rw [if_neg q3382] at hp
                    refine ⟨trivial, _, L3341.bk.rc rfl, ?_⟩
                    obtain ⟨f3422, S3423, k3424, h3425⟩ := o3366.freeze S3362
                    have L3426 := L3341.k k3424 (by decide)
                    have o3261 := o3261.k k3424 (by decide)
                    have o3350 := o3350.k k3424 (by decide)
                    obtain ⟨g3435, hp⟩ := gd_some hp
                    intro m49 e3427
                    obtain ⟨c3431, m3432, τ3430, a3433, S3428, k3429, o3434⟩ := o3350.app' ta74 S3423 (a := l3365) (show Rp.rep (α := List (List Int)) f3422 _ l3365 from ⟨_, rfl, h3425⟩) g3435 e3427
                    have L3436 := L3426.k k3429 (by decide)
                    have o3261 := o3261.k k3429 (by decide)
                    have o3437 := o3366.k k3429.old (by decide)
                    refine ⟨c3431, m3432, a3433, ?_⟩
                    refine ⟨trivial, ?_⟩
                    obtain ⟨m3441, e3440, S3438, k3439, L3442⟩ := L3436.sto1 S3428 5 c3431 (by simp) rfl
                    replace L3442 : Lb _ _ _ _ _ _ _ [(.int .i64 y3345), (.bool y3346), (.int .i64 y3347), c3312, c3330, c3431] := L3442
                    have o3261 := o3261.k k3439 (by decide)
                    have o3434 := o3434.k k3439 (by decide)
                    have o3443 := o3437.k k3439.old (by decide)
                    refine ⟨m3441, e3440, ?_⟩
                    obtain ⟨g3444, hp⟩ := gd_some hp
                    refine ⟨g3444, ?_⟩
                    exact ihR23 _ _ _ _ _ _ _ f3422 τ3430 S3438 (Sub.trans (Sub.trans f3344s f3364s) k3424.fs) L3442 o3434 o3261 hp
              exact hgo _ _ _ _ _ f3344 τ3343 S3342 (Sub.refl _) L3341 (Ow.nil _ _ _ _ _) o3261 o3350 hp
            · skip
              rw [if_neg q3361] at hp
              refine ⟨_, _, _, _, _, _, L3341.bk.ra, ?_⟩
              obtain ⟨f3445, S3446, k3447, h3448⟩ := o3350.freeze S3342
              have L3449 := L3341.k k3447 (by decide)
              have o3261 := o3261.k k3447 (by decide)
              obtain ⟨g3458, hp⟩ := gd_some hp
              intro m59 e3450
              obtain ⟨c3454, m3455, τ3453, a3456, S3451, k3452, o3457⟩ := o3261.app' ta28 S3446 (a := ({ From := y3345, Whole := y3346, Least := y3347, Weeks := r3306, Counts := r3324, Rates := y3348 } : Tf)) (show Rp.rep (α := Tf) f3445 _ ({ From := y3345, Whole := y3346, Least := y3347, Weeks := r3306, Counts := r3324, Rates := y3348 } : Tf) from ⟨_, _, _, rfl, (h3313.sub (Sub.trans (Sub.trans k3327.fs f3344s) k3447.fs)), (h3331.sub (Sub.trans f3344s k3447.fs)), h3448⟩) g3458 e3450
              have L3459 := L3449.k k3452 (by decide)
              have o3460 := o3350.k k3452.old (by decide)
              refine ⟨c3454, m3455, a3456, ?_⟩
              obtain ⟨g3461, hp⟩ := gd_some hp
              refine ⟨g3461, ?_⟩
              exact ihR0 _ _ _ _ f3445 τ3453 S3451 (Sub.trans (Sub.trans (Sub.trans (Sub.trans f3259s k3309.fs) k3327.fs) f3344s) k3447.fs) o3457 hp
        exact hgo _ _ _ _ _ _ _ _ f3329 τ3267 S3337 (Sub.refl _) L3341 (Ow.nil _ _ _ _ _) o3261 hp
      · skip
        rw [if_neg q3263] at hp
        obtain ⟨f3462, S3463, k3464, h3465⟩ := o3261.freeze S3257
        obtain rfl := Option.some.inj hp
        exact hq _ f3462 c1 S3463.grw h3465
  exact hgo _ _ _ _ _ f τ0 S0 (Sub.refl _) (Ow.nil _ _ _ _ _) hp
theorem s_TariffBounds {l : List Tf} {c : Clm} {ca100 : C} {m f : M} {Q : V → M → Prop} {rz : Bool} (hS : Pre f m) (ha100 : Sl f ca100 l) (hp : pTariffBounds l c = some rz) (hq : ∀ m', Ext m m' → Q (.c (.bool rz)) m') : Wc prog tbl 5 [.c ca100, .agg 6 [(.int .i64 c.Crop), (.int .i64 c.Value), (.int .i64 c.Day.Lo), (.int .i64 c.Day.Hi), (.int .i64 c.Count.Lo), (.int .i64 c.Count.Hi)]] m Q := by
  have S0 := hS.st
  obtain ⟨τ0, _⟩ : ∃ τ : Nat → Nat, True := ⟨fun _ => 0, trivial⟩
  refine w5 ?_
  unfold pTariffBounds at hp
  intro m0 e5668
  obtain ⟨τ5671, S5669, k5670, L5672⟩ := S0.blk e5668 τ0 1
  obtain ⟨r5673, g5674, hp⟩ := bsome hp
  refine s_lThin (l := l) S5669.pre ha100 g5674 fun m2 e5677 => ?_
  obtain ⟨S5675, k5676⟩ := S5669.call e5677 τ5671
  have L5678 := L5672.k k5676 (by decide)
  refine ⟨_, rfl, ?_⟩
  rw [ifB_iff]
  refine ⟨fun q5679 => ?_, fun q5679 => ?_⟩
  · skip
    rw [bif_neg (nb_f q5679)] at hp
    obtain ⟨r5680, g5681, hp⟩ := bsome hp
    refine s_awake S5675.pre  g5681 fun m5 e5684 => ?_
    obtain ⟨S5682, k5683⟩ := S5675.call e5684 τ5671
    have L5685 := L5678.k k5683 (by decide)
    refine ⟨_, rfl, ?_⟩
    obtain rfl := Option.some.inj hp
    exact hq _ S5682.ext'
  · skip
    rw [if_pos (nb_t q5679)] at hp
    intro m7 e5686
    obtain ⟨τ5689, S5687, k5688, hz5690⟩ := S5675.growK e5686 τ5671 2
    have L5691 := L5678.k k5688 (by decide)
    have Z5692 := hz5690 0 (by decide)
    obtain ⟨r5693, g5694, hp⟩ := bsome hp
    refine s_lTariffs (l := l) S5687.pre ha100 g5694 fun m9 f5698 c5699 e5697 h5700 => ?_
    obtain ⟨S5695, k5696⟩ := S5687.callG e5697 τ5689
    have L5701 := L5691.k k5696 (by decide)
    have Z5702 := Z5692.k k5696 (by decide)
    refine ⟨_, rfl, _, _, _, _, _, _, L5701.bk.ra, (L5691.bk.ra), ?_⟩
    obtain ⟨r5703, g5704, hp⟩ := bsome hp
    refine s_lClaim (c := c) S5695.pre  g5704 fun m18 e5707 => ?_
    obtain ⟨S5705, k5706⟩ := S5695.call e5707 τ5689
    have L5708 := L5701.k k5706 (by decide)
    have Z5709 := Z5702.k k5706 (by decide)
    refine ⟨_, _, _, _, _, _, rfl, ?_⟩
    obtain ⟨r5710, g5711, hp⟩ := bsome hp
    refine s_Bounds (l := r5693) (c := r5703) S5705.pre h5700 g5711 fun m26 e5714 => ?_
    obtain ⟨S5712, k5713⟩ := S5705.call e5714 τ5689
    have L5715 := L5708.k k5713 (by decide)
    have Z5716 := Z5709.k k5713 (by decide)
    refine ⟨_, _, _, rfl, ?_⟩
    intro m30 e5717
    obtain ⟨S5718, k5719, L5720⟩ := Z5716.set S5712 e5717
    have L5721 := L5715.k k5719 (by decide)
    refine ⟨(L5721.bk.ra), ?_⟩
    obtain ⟨m5725, e5724, S5722, k5723, L5726⟩ := L5720.sto S5718 [(.int .i64 r5710.1.Lo), (.int .i64 r5710.1.Hi)]
    have L5727 := L5721.k k5723 (by decide)
    refine ⟨m5725, e5724, ?_⟩
    intro m32 e5728
    obtain ⟨τ5731, S5729, k5730, hz5732⟩ := S5722.growK e5728 τ5689 3
    have L5733 := L5727.k k5730 (by decide)
    have L5734 := L5726.k k5730 (by decide)
    have Z5735 := hz5732 0 (by decide)
    obtain ⟨r5736, g5737, hp⟩ := bsome hp
    refine s_lTariffs (l := l) S5729.pre (ha100.sub k5696.fs) g5737 fun m34 f5741 c5742 e5740 h5743 => ?_
    obtain ⟨S5738, k5739⟩ := S5729.callG e5740 τ5731
    have L5744 := L5733.k k5739 (by decide)
    have L5745 := L5734.k k5739 (by decide)
    have Z5746 := Z5735.k k5739 (by decide)
    refine ⟨_, rfl, _, _, _, _, _, _, L5744.bk.ra, (L5733.bk.ra), ?_⟩
    obtain ⟨r5747, g5748, hp⟩ := bsome hp
    refine s_lClaim (c := c) S5738.pre  g5748 fun m43 e5751 => ?_
    obtain ⟨S5749, k5750⟩ := S5738.call e5751 τ5731
    have L5752 := L5744.k k5750 (by decide)
    have L5753 := L5745.k k5750 (by decide)
    have Z5754 := Z5746.k k5750 (by decide)
    refine ⟨_, _, _, _, _, _, rfl, ?_⟩
    obtain ⟨r5755, g5756, hp⟩ := bsome hp
    refine s_Show (l := r5736) (c := r5747) (high := false) S5749.pre h5743 g5756 fun m51 e5759 => ?_
    obtain ⟨S5757, k5758⟩ := S5749.call e5759 τ5731
    have L5760 := L5752.k k5758 (by decide)
    have L5761 := L5753.k k5758 (by decide)
    have Z5762 := Z5754.k k5758 (by decide)
    refine ⟨_, _, _, rfl, ?_⟩
    intro m55 e5763
    obtain ⟨S5764, k5765, L5766⟩ := Z5762.set S5757 e5763
    have L5767 := L5760.k k5765 (by decide)
    have L5768 := L5761.k k5765 (by decide)
    refine ⟨(L5767.bk.ra), ?_⟩
    obtain ⟨m5772, e5771, S5769, k5770, L5773⟩ := L5766.sto S5764 [(.int .i64 r5755.1.Day), (.int .i64 r5755.1.Count)]
    have L5774 := L5767.k k5770 (by decide)
    have L5775 := L5768.k k5770 (by decide)
    refine ⟨m5772, e5771, ?_⟩
    intro m57 e5776
    obtain ⟨τ5779, S5777, k5778, hz5780⟩ := S5769.growK e5776 τ5731 4
    have L5781 := L5774.k k5778 (by decide)
    have L5782 := L5775.k k5778 (by decide)
    have L5783 := L5773.k k5778 (by decide)
    have Z5784 := hz5780 0 (by decide)
    obtain ⟨r5785, g5786, hp⟩ := bsome hp
    refine s_lTariffs (l := l) S5777.pre (ha100.sub (Sub.trans k5696.fs k5739.fs)) g5786 fun m59 f5790 c5791 e5789 h5792 => ?_
    obtain ⟨S5787, k5788⟩ := S5777.callG e5789 τ5779
    have L5793 := L5781.k k5788 (by decide)
    have L5794 := L5782.k k5788 (by decide)
    have L5795 := L5783.k k5788 (by decide)
    have Z5796 := Z5784.k k5788 (by decide)
    refine ⟨_, rfl, _, _, _, _, _, _, L5793.bk.ra, (L5781.bk.ra), ?_⟩
    obtain ⟨r5797, g5798, hp⟩ := bsome hp
    refine s_lClaim (c := c) S5787.pre  g5798 fun m68 e5801 => ?_
    obtain ⟨S5799, k5800⟩ := S5787.call e5801 τ5779
    have L5802 := L5793.k k5800 (by decide)
    have L5803 := L5794.k k5800 (by decide)
    have L5804 := L5795.k k5800 (by decide)
    have Z5805 := Z5796.k k5800 (by decide)
    refine ⟨_, _, _, _, _, _, rfl, ?_⟩
    obtain ⟨r5806, g5807, hp⟩ := bsome hp
    refine s_Show (l := r5785) (c := r5797) (high := true) S5799.pre h5792 g5807 fun m76 e5810 => ?_
    obtain ⟨S5808, k5809⟩ := S5799.call e5810 τ5779
    have L5811 := L5802.k k5809 (by decide)
    have L5812 := L5803.k k5809 (by decide)
    have L5813 := L5804.k k5809 (by decide)
    have Z5814 := Z5805.k k5809 (by decide)
    refine ⟨_, _, _, rfl, ?_⟩
    intro m80 e5815
    obtain ⟨S5816, k5817, L5818⟩ := Z5814.set S5808 e5815
    have L5819 := L5811.k k5817 (by decide)
    have L5820 := L5812.k k5817 (by decide)
    have L5821 := L5813.k k5817 (by decide)
    refine ⟨(L5819.bk.ra), ?_⟩
    obtain ⟨m5825, e5824, S5822, k5823, L5826⟩ := L5818.sto S5816 [(.int .i64 r5806.1.Day), (.int .i64 r5806.1.Count)]
    have L5827 := L5819.k k5823 (by decide)
    have L5828 := L5820.k k5823 (by decide)
    have L5829 := L5821.k k5823 (by decide)
    refine ⟨m5825, e5824, ?_⟩
    obtain ⟨r5830, g5831, hp⟩ := bsome hp
    refine s_lTariffs (l := l) S5822.pre (ha100.sub (Sub.trans (Sub.trans k5696.fs k5739.fs) k5788.fs)) g5831 fun m83 f5835 c5836 e5834 h5837 => ?_
    obtain ⟨S5832, k5833⟩ := S5822.callG e5834 τ5779
    have L5838 := L5827.k k5833 (by decide)
    have L5839 := L5828.k k5833 (by decide)
    have L5840 := L5829.k k5833 (by decide)
    have L5841 := L5826.k k5833 (by decide)
    refine ⟨_, rfl, _, _, _, _, _, _, L5838.bk.ra, (L5827.bk.ra), ?_⟩
    obtain ⟨r5842, g5843, hp⟩ := bsome hp
    refine s_lClaim (c := c) S5832.pre  g5843 fun m92 e5846 => ?_
    obtain ⟨S5844, k5845⟩ := S5832.call e5846 τ5779
    have L5847 := L5838.k k5845 (by decide)
    have L5848 := L5839.k k5845 (by decide)
    have L5849 := L5840.k k5845 (by decide)
    have L5850 := L5841.k k5845 (by decide)
    refine ⟨_, _, _, _, _, _, rfl, ?_⟩
    obtain ⟨r5851, g5852, hp⟩ := bsome hp
    refine s_Paid (l := r5830) (c := r5842) S5844.pre h5837 g5852 fun m100 e5855 => ?_
    obtain ⟨S5853, k5854⟩ := S5844.call e5855 τ5779
    have L5856 := L5847.k k5854 (by decide)
    have L5857 := L5848.k k5854 (by decide)
    have L5858 := L5849.k k5854 (by decide)
    have L5859 := L5850.k k5854 (by decide)
    refine ⟨_, _, rfl, _, _, _, _, _, _, L5856.bk.ra, ?_⟩
    obtain ⟨r5860, g5861, hp⟩ := bsome hp
    refine s_lClaimed (l := l) (c := c) S5853.pre (ha100.sub (Sub.trans (Sub.trans (Sub.trans k5696.fs k5739.fs) k5788.fs) k5833.fs)) g5861 fun m110 e5864 => ?_
    obtain ⟨S5862, k5863⟩ := S5853.call e5864 τ5779
    have L5865 := L5856.k k5863 (by decide)
    have L5866 := L5857.k k5863 (by decide)
    have L5867 := L5858.k k5863 (by decide)
    have L5868 := L5859.k k5863 (by decide)
    refine ⟨_, rfl, ?_⟩
    rw [ifB_ndec]
    refine ⟨fun q5869 => ?_, fun q5869 => ?_⟩
    · skip
      rw [if_neg q5869] at hp
      rw [ifB_dec]
      refine ⟨fun q5870 => ?_, fun q5870 => ?_⟩
      · skip
        rw [if_pos q5870] at hp
        rw [ifB_dec]
        refine ⟨fun q5871 => ?_, fun q5871 => ?_⟩
        · skip
          rw [if_pos q5871] at hp
          rw [ifB_dec]
          refine ⟨fun q5872 => ?_, fun q5872 => ?_⟩
          · skip
            rw [if_pos q5872] at hp
            rw [ifB_dec]
            refine ⟨fun q5873 => ?_, fun q5873 => ?_⟩
            · skip
              rw [if_pos q5873] at hp
              refine ⟨_, _, L5866.bk.ra, ?_⟩
              obtain ⟨g5874, hp⟩ := gd_some hp
              refine ⟨g5874, ?_⟩
              obtain ⟨g5875, hp⟩ := gd_some hp
              refine ⟨g5875, ?_⟩
              obtain ⟨g5876, hp⟩ := gd_some hp
              refine ⟨g5876, ?_⟩
              obtain ⟨g5877, hp⟩ := gd_some hp
              refine ⟨g5877, ?_⟩
              rw [ifB_iff]
              refine ⟨fun q5878 => ?_, fun q5878 => ?_⟩
              · skip
                rw [if_pos q5878] at hp
                refine ⟨_, _, L5867.bk.ra, ?_⟩
                obtain ⟨g5879, hp⟩ := gd_some hp
                refine ⟨g5879, ?_⟩
                obtain ⟨g5880, hp⟩ := gd_some hp
                refine ⟨g5880, ?_⟩
                obtain ⟨g5881, hp⟩ := gd_some hp
                refine ⟨g5881, ?_⟩
                obtain ⟨g5882, hp⟩ := gd_some hp
                refine ⟨g5882, ?_⟩
                rw [ifB_iff]
                refine ⟨fun q5883 => ?_, fun q5883 => ?_⟩
                · skip
                  rw [if_pos q5883] at hp
                  refine ⟨_, _, L5868.bk.ra, ?_⟩
                  obtain ⟨g5884, hp⟩ := gd_some hp
                  refine ⟨g5884, ?_⟩
                  obtain ⟨g5885, hp⟩ := gd_some hp
                  refine ⟨g5885, ?_⟩
                  obtain ⟨g5886, hp⟩ := gd_some hp
                  refine ⟨g5886, ?_⟩
                  obtain ⟨g5887, hp⟩ := gd_some hp
                  refine ⟨g5887, ?_⟩
                  rw [ifB_iff]
                  refine ⟨fun q5888 => ?_, fun q5888 => ?_⟩
                  · skip
                    rw [if_pos q5888] at hp
                    rw [ifB_dec]
                    refine ⟨fun q5889 => ?_, fun q5889 => ?_⟩
                    · skip
                      rw [if_pos q5889] at hp
                      obtain ⟨r5890, g5891, hp⟩ := bsome hp
                      refine s_awake S5862.pre  g5891 fun m119 e5894 => ?_
                      obtain ⟨S5892, k5893⟩ := S5862.call e5894 τ5779
                      have L5895 := L5865.k k5893 (by decide)
                      have L5896 := L5866.k k5893 (by decide)
                      have L5897 := L5867.k k5893 (by decide)
                      have L5898 := L5868.k k5893 (by decide)
                      refine ⟨_, rfl, ?_⟩
                      obtain rfl := Option.some.inj hp
                      exact hq _ S5892.ext'
                    · skip
                      rw [if_neg q5889] at hp
                      obtain rfl := Option.some.inj hp
                      exact hq _ S5862.ext'
                  · skip
                    rw [bif_neg q5888] at hp
                    obtain rfl := Option.some.inj hp
                    exact hq _ S5862.ext'
                · skip
                  rw [bif_neg q5883] at hp
                  obtain rfl := Option.some.inj hp
                  exact hq _ S5862.ext'
              · skip
                rw [bif_neg q5878] at hp
                obtain rfl := Option.some.inj hp
                exact hq _ S5862.ext'
            · skip
              rw [if_neg q5873] at hp
              obtain rfl := Option.some.inj hp
              exact hq _ S5862.ext'
          · skip
            rw [if_neg q5872] at hp
            obtain rfl := Option.some.inj hp
            exact hq _ S5862.ext'
        · skip
          rw [if_neg q5871] at hp
          obtain rfl := Option.some.inj hp
          exact hq _ S5862.ext'
      · skip
        rw [if_neg q5870] at hp
        obtain rfl := Option.some.inj hp
        exact hq _ S5862.ext'
    · skip
      rw [if_pos q5869] at hp
      refine ⟨_, _, _, _, _, _, L5865.bk.ra, ?_⟩
      obtain ⟨r5899, g5900, hp⟩ := bsome hp
      refine s_rBounds (l := l) (c := c) S5862.pre (ha100.sub (Sub.trans (Sub.trans (Sub.trans k5696.fs k5739.fs) k5788.fs) k5833.fs)) g5900 fun m128 e5903 => ?_
      obtain ⟨S5901, k5902⟩ := S5862.call e5903 τ5779
      have L5904 := L5865.k k5902 (by decide)
      have L5905 := L5866.k k5902 (by decide)
      have L5906 := L5867.k k5902 (by decide)
      have L5907 := L5868.k k5902 (by decide)
      refine ⟨_, _, _, _, _, _, rfl, ?_⟩
      intro m135 e5908
      obtain ⟨τ5911, S5909, k5910, L5912⟩ := S5901.blk e5908 τ5779 5
      have L5913 := L5904.k k5910 (by decide)
      have L5914 := L5905.k k5910 (by decide)
      have L5915 := L5906.k k5910 (by decide)
      have L5916 := L5907.k k5910 (by decide)
      intro m136 e5917
      obtain ⟨τ5920, S5918, k5919, L5921⟩ := S5909.blk e5917 τ5911 6
      have L5922 := L5913.k k5919 (by decide)
      have L5923 := L5914.k k5919 (by decide)
      have L5924 := L5915.k k5919 (by decide)
      have L5925 := L5916.k k5919 (by decide)
      have L5926 := L5912.k k5919 (by decide)
      intro m137 e5927
      obtain ⟨τ5930, S5928, k5929, L5931⟩ := S5918.blk e5927 τ5920 7
      have L5932 := L5922.k k5929 (by decide)
      have L5933 := L5923.k k5929 (by decide)
      have L5934 := L5924.k k5929 (by decide)
      have L5935 := L5925.k k5929 (by decide)
      have L5936 := L5926.k k5929 (by decide)
      have L5937 := L5921.k k5929 (by decide)
      obtain ⟨m5941, e5940, S5938, k5939, L5942⟩ := L5936.sto S5928 [(.int .i64 r5899.1.Lo), (.int .i64 r5899.1.Hi)]
      have L5943 := L5932.k k5939 (by decide)
      have L5944 := L5933.k k5939 (by decide)
      have L5945 := L5934.k k5939 (by decide)
      have L5946 := L5935.k k5939 (by decide)
      have L5947 := L5937.k k5939 (by decide)
      have L5948 := L5931.k k5939 (by decide)
      refine ⟨m5941, e5940, ?_⟩
      obtain ⟨m5952, e5951, S5949, k5950, L5953⟩ := L5947.sto S5938 [(.int .i64 r5899.2.1.Day), (.int .i64 r5899.2.1.Count)]
      have L5954 := L5943.k k5950 (by decide)
      have L5955 := L5944.k k5950 (by decide)
      have L5956 := L5945.k k5950 (by decide)
      have L5957 := L5946.k k5950 (by decide)
      have L5958 := L5942.k k5950 (by decide)
      have L5959 := L5948.k k5950 (by decide)
      refine ⟨m5952, e5951, ?_⟩
      obtain ⟨m5963, e5962, S5960, k5961, L5964⟩ := L5959.sto S5949 [(.int .i64 r5899.2.2.Day), (.int .i64 r5899.2.2.Count)]
      have L5965 := L5954.k k5961 (by decide)
      have L5966 := L5955.k k5961 (by decide)
      have L5967 := L5956.k k5961 (by decide)
      have L5968 := L5957.k k5961 (by decide)
      have L5969 := L5958.k k5961 (by decide)
      have L5970 := L5953.k k5961 (by decide)
      refine ⟨m5963, e5962, ?_⟩
      rw [ifB_dec]
      refine ⟨fun q5971 => ?_, fun q5971 => ?_⟩
      · skip
        rw [if_pos q5971] at hp
        rw [ifB_dec]
        refine ⟨fun q5972 => ?_, fun q5972 => ?_⟩
        · skip
          rw [if_pos q5972] at hp
          rw [ifB_dec]
          refine ⟨fun q5973 => ?_, fun q5973 => ?_⟩
          · skip
            rw [if_pos q5973] at hp
            rw [ifB_dec]
            refine ⟨fun q5974 => ?_, fun q5974 => ?_⟩
            · skip
              rw [if_pos q5974] at hp
              refine ⟨_, _, L5966.bk.ra, _, _, L5969.bk.ra, ?_⟩
              obtain ⟨r5975, g5976, hp⟩ := bsome hp
              refine s_lTo (r := r5899.1) S5960.pre  g5976 fun m146 e5979 => ?_
              obtain ⟨S5977, k5978⟩ := S5960.call e5979 τ5930
              have L5980 := L5965.k k5978 (by decide)
              have L5981 := L5966.k k5978 (by decide)
              have L5982 := L5967.k k5978 (by decide)
              have L5983 := L5968.k k5978 (by decide)
              have L5984 := L5969.k k5978 (by decide)
              have L5985 := L5970.k k5978 (by decide)
              have L5986 := L5964.k k5978 (by decide)
              refine ⟨_, _, rfl, (L5981.bk.ra), ?_⟩
              obtain ⟨g5987, hp⟩ := gd_some hp
              refine ⟨g5987, ?_⟩
              obtain ⟨g5988, hp⟩ := gd_some hp
              refine ⟨g5988, ?_⟩
              obtain ⟨g5989, hp⟩ := gd_some hp
              refine ⟨g5989, ?_⟩
              obtain ⟨g5990, hp⟩ := gd_some hp
              refine ⟨g5990, ?_⟩
              rw [ifB_iff]
              refine ⟨fun q5991 => ?_, fun q5991 => ?_⟩
              · skip
                rw [if_pos q5991] at hp
                refine ⟨_, _, L5982.bk.ra, _, _, L5985.bk.ra, ?_⟩
                obtain ⟨r5992, g5993, hp⟩ := bsome hp
                refine s_lTruth (t := r5899.2.1) S5977.pre  g5993 fun m154 e5996 => ?_
                obtain ⟨S5994, k5995⟩ := S5977.call e5996 τ5930
                have L5997 := L5980.k k5995 (by decide)
                have L5998 := L5981.k k5995 (by decide)
                have L5999 := L5982.k k5995 (by decide)
                have L6000 := L5983.k k5995 (by decide)
                have L6001 := L5984.k k5995 (by decide)
                have L6002 := L5985.k k5995 (by decide)
                have L6003 := L5986.k k5995 (by decide)
                refine ⟨_, _, rfl, (L5999.bk.ra), ?_⟩
                obtain ⟨g6004, hp⟩ := gd_some hp
                refine ⟨g6004, ?_⟩
                obtain ⟨g6005, hp⟩ := gd_some hp
                refine ⟨g6005, ?_⟩
                obtain ⟨g6006, hp⟩ := gd_some hp
                refine ⟨g6006, ?_⟩
                obtain ⟨g6007, hp⟩ := gd_some hp
                refine ⟨g6007, ?_⟩
                rw [ifB_iff]
                refine ⟨fun q6008 => ?_, fun q6008 => ?_⟩
                · skip
                  rw [if_pos q6008] at hp
                  refine ⟨_, _, L6000.bk.ra, _, _, L6003.bk.ra, ?_⟩
                  obtain ⟨r6009, g6010, hp⟩ := bsome hp
                  refine s_lTruth (t := r5899.2.2) S5994.pre  g6010 fun m162 e6013 => ?_
                  obtain ⟨S6011, k6012⟩ := S5994.call e6013 τ5930
                  have L6014 := L5997.k k6012 (by decide)
                  have L6015 := L5998.k k6012 (by decide)
                  have L6016 := L5999.k k6012 (by decide)
                  have L6017 := L6000.k k6012 (by decide)
                  have L6018 := L6001.k k6012 (by decide)
                  have L6019 := L6002.k k6012 (by decide)
                  have L6020 := L6003.k k6012 (by decide)
                  refine ⟨_, _, rfl, (L6017.bk.ra), ?_⟩
                  obtain ⟨g6021, hp⟩ := gd_some hp
                  refine ⟨g6021, ?_⟩
                  obtain ⟨g6022, hp⟩ := gd_some hp
                  refine ⟨g6022, ?_⟩
                  obtain ⟨g6023, hp⟩ := gd_some hp
                  refine ⟨g6023, ?_⟩
                  obtain ⟨g6024, hp⟩ := gd_some hp
                  refine ⟨g6024, ?_⟩
                  rw [ifB_iff]
                  refine ⟨fun q6025 => ?_, fun q6025 => ?_⟩
                  · skip
                    rw [if_pos q6025] at hp
                    refine ⟨_, _, L6018.bk.ra, ?_⟩
                    obtain ⟨r6026, g6027, hp⟩ := bsome hp
                    refine s_rVerdict (r := r5899.1) S6011.pre  g6027 fun m168 e6030 => ?_
                    obtain ⟨S6028, k6029⟩ := S6011.call e6030 τ5930
                    have L6031 := L6014.k k6029 (by decide)
                    have L6032 := L6015.k k6029 (by decide)
                    have L6033 := L6016.k k6029 (by decide)
                    have L6034 := L6017.k k6029 (by decide)
                    have L6035 := L6018.k k6029 (by decide)
                    have L6036 := L6019.k k6029 (by decide)
                    have L6037 := L6020.k k6029 (by decide)
                    refine ⟨_, rfl, ?_⟩
                    rw [ifB_dec]
                    refine ⟨fun q6038 => ?_, fun q6038 => ?_⟩
                    · skip
                      rw [if_pos q6038] at hp
                      obtain ⟨r6039, g6040, hp⟩ := bsome hp
                      refine s_awake S6028.pre  g6040 fun m171 e6043 => ?_
                      obtain ⟨S6041, k6042⟩ := S6028.call e6043 τ5930
                      have L6044 := L6031.k k6042 (by decide)
                      have L6045 := L6032.k k6042 (by decide)
                      have L6046 := L6033.k k6042 (by decide)
                      have L6047 := L6034.k k6042 (by decide)
                      have L6048 := L6035.k k6042 (by decide)
                      have L6049 := L6036.k k6042 (by decide)
                      have L6050 := L6037.k k6042 (by decide)
                      refine ⟨_, rfl, ?_⟩
                      obtain rfl := Option.some.inj hp
                      exact hq _ S6041.ext'
                    · skip
                      rw [if_neg q6038] at hp
                      obtain rfl := Option.some.inj hp
                      exact hq _ S6028.ext'
                  · skip
                    rw [bif_neg q6025] at hp
                    obtain rfl := Option.some.inj hp
                    exact hq _ S6011.ext'
                · skip
                  rw [bif_neg q6008] at hp
                  obtain rfl := Option.some.inj hp
                  exact hq _ S5994.ext'
              · skip
                rw [bif_neg q5991] at hp
                obtain rfl := Option.some.inj hp
                exact hq _ S5977.ext'
            · skip
              rw [if_neg q5974] at hp
              obtain rfl := Option.some.inj hp
              exact hq _ S5960.ext'
          · skip
            rw [if_neg q5973] at hp
            obtain rfl := Option.some.inj hp
            exact hq _ S5960.ext'
        · skip
          rw [if_neg q5972] at hp
          obtain rfl := Option.some.inj hp
          exact hq _ S5960.ext'
      · skip
        rw [if_neg q5971] at hp
        obtain rfl := Option.some.inj hp
        exact hq _ S5960.ext'
end
end Go.Proofs.Ytbhdgedghfibcaa

