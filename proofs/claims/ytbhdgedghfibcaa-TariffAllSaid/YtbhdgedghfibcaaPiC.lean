/- What functions of the program ask and do. Condition: none; a lemma text of this claim. -/
import Derived.Test.YtbhdgedghfibcaaPiB

namespace Go.Proofs.Ytbhdgedghfibcaa
open _root_.Go.Proofs.Try
open Go.Abs
set_option maxRecDepth 100000
noncomputable section
def Fv_Tf_Bool (f : M) (x : C) (g : Tf → Option (Bool)) : Prop := ∀ (f' m : M) (a0 : Tf) (c0 c1 c2 : C) (r : Bool) (Q : V → M → Prop), Sub f f' → Pre f' m → Sl f' c0 a0.Weeks → Sl f' c1 a0.Counts → Sl f' c2 a0.Rates → g a0 = some r → (∀ m', Ext m m' → Q (.c (.bool r)) m') → callP prog tbl [.agg 6 [(.int .i64 a0.From), (.bool a0.Whole), (.int .i64 a0.Least), c0, c1, c2]] x m Q
theorem Fv_Tf_Bool.sub {f m : M} {x : C} {g : Tf → Option (Bool)} (h : Fv_Tf_Bool f x g) (s : Sub f m) : Fv_Tf_Bool m x g := fun f' m' a0 c0 c1 c2 r Q hs => h f' m' a0 c0 c1 c2 r Q (s.trans hs)
def Fv_Clm_Bool (f : M) (x : C) (g : Clm → Option (Bool)) : Prop := ∀ (f' m : M) (a0 : Clm) (r : Bool) (Q : V → M → Prop), Sub f f' → Pre f' m → g a0 = some r → (∀ m', Ext m m' → Q (.c (.bool r)) m') → callP prog tbl [.agg 6 [(.int .i64 a0.Crop), (.int .i64 a0.Value), (.int .i64 a0.Day.Lo), (.int .i64 a0.Day.Hi), (.int .i64 a0.Count.Lo), (.int .i64 a0.Count.Hi)]] x m Q
theorem Fv_Clm_Bool.sub {f m : M} {x : C} {g : Clm → Option (Bool)} (h : Fv_Clm_Bool f x g) (s : Sub f m) : Fv_Clm_Bool m x g := fun f' m' a0 r Q hs => h f' m' a0 r Q (s.trans hs)
def Fv_Int_Bool (f : M) (x : C) (g : Int → Option (Bool)) : Prop := ∀ (f' m : M) (a0 : Int) (r : Bool) (Q : V → M → Prop), Sub f f' → Pre f' m → g a0 = some r → (∀ m', Ext m m' → Q (.c (.bool r)) m') → callP prog tbl [.c (.int .i64 a0)] x m Q
theorem Fv_Int_Bool.sub {f m : M} {x : C} {g : Int → Option (Bool)} (h : Fv_Int_Bool f x g) (s : Sub f m) : Fv_Int_Bool m x g := fun f' m' a0 r Q hs => h f' m' a0 r Q (s.trans hs)
def Fv_LInt_Bool (f : M) (x : C) (g : List Int → Option (Bool)) : Prop := ∀ (f' m : M) (a0 : List Int) (c0 : C) (r : Bool) (Q : V → M → Prop), Sub f f' → Pre f' m → Sl f' c0 a0 → g a0 = some r → (∀ m', Ext m m' → Q (.c (.bool r)) m') → callP prog tbl [.c c0] x m Q
theorem Fv_LInt_Bool.sub {f m : M} {x : C} {g : List Int → Option (Bool)} (h : Fv_LInt_Bool f x g) (s : Sub f m) : Fv_LInt_Bool m x g := fun f' m' a0 c0 r Q hs => h f' m' a0 c0 r Q (s.trans hs)
def Fv_LLInt_Bool (f : M) (x : C) (g : List (List Int) → Option (Bool)) : Prop := ∀ (f' m : M) (a0 : List (List Int)) (c0 : C) (r : Bool) (Q : V → M → Prop), Sub f f' → Pre f' m → Sl f' c0 a0 → g a0 = some r → (∀ m', Ext m m' → Q (.c (.bool r)) m') → callP prog tbl [.c c0] x m Q
theorem Fv_LLInt_Bool.sub {f m : M} {x : C} {g : List (List Int) → Option (Bool)} (h : Fv_LLInt_Bool f x g) (s : Sub f m) : Fv_LLInt_Bool m x g := fun f' m' a0 c0 r Q hs => h f' m' a0 c0 r Q (s.trans hs)
def Fv_Tf_Int_Int (f : M) (x : C) (g : Tf → Int → Option (Int)) : Prop := ∀ (f' m : M) (a0 : Tf) (a1 : Int) (c0 c1 c2 : C) (r : Int) (Q : V → M → Prop), Sub f f' → Pre f' m → Sl f' c0 a0.Weeks → Sl f' c1 a0.Counts → Sl f' c2 a0.Rates → g a0 a1 = some r → (∀ m', Ext m m' → Q (.c (.int .i64 r)) m') → callP prog tbl [.agg 6 [(.int .i64 a0.From), (.bool a0.Whole), (.int .i64 a0.Least), c0, c1, c2], .c (.int .i64 a1)] x m Q
theorem Fv_Tf_Int_Int.sub {f m : M} {x : C} {g : Tf → Int → Option (Int)} (h : Fv_Tf_Int_Int f x g) (s : Sub f m) : Fv_Tf_Int_Int m x g := fun f' m' a0 a1 c0 c1 c2 r Q hs => h f' m' a0 a1 c0 c1 c2 r Q (s.trans hs)
theorem kl103 : KL prog 103 Ht := kl_agg (n := 3) (ks := [.int .i64, .int .i64, .int .i64]) (by kernel_rfl) (by kernel_rfl) (cs := fun k => [.int .i64 k.Day, .int .i64 k.Count, .int .i64 k.crop]) (fun _ => rfl) fun a b fa fb => ⟨_, _, (eqKs_cons (eqK_i fa.1 fb.1) (eqKs_cons (eqK_i fa.2.1 fb.2.1) (eqKs_cons (eqK_i fa.2.2.1 fb.2.2.1) eqKs_nil))), ⟨fun h => by cases a; cases b; simp_all, fun h => by subst h; exact ⟨rfl, rfl, rfl, trivial⟩⟩⟩
theorem ta28 : TA prog 28 6 := ⟨76, by kernel_rfl, by kernel_rfl, by kernel_rfl⟩
theorem ta64 : TA prog 64 6 := ⟨39, by kernel_rfl, by kernel_rfl, by kernel_rfl⟩
theorem ta67 : TA prog 67 6 := ⟨45, by kernel_rfl, by kernel_rfl, by kernel_rfl⟩
theorem ta73 : TA prog 73 1 := ⟨3, by kernel_rfl, by kernel_rfl, by kernel_rfl⟩
theorem ta74 : TA prog 74 1 := ⟨77, by kernel_rfl, by kernel_rfl, by kernel_rfl⟩
theorem ta77 : TA prog 77 1 := ⟨73, by kernel_rfl, by kernel_rfl, by kernel_rfl⟩
theorem s_awake {m f : M} {Q : V → M → Prop} {rz : Bool} (hS : Pre f m) (hp : pawake = some rz) (hq : ∀ m', Ext m m' → Q (.c (.bool rz)) m') : Wc prog tbl 17 [] m Q := by
  obtain rfl := Option.some.inj hp
  exact call_known (show findT tbl 17 = some true from rfl) (hq _ (.refl m))
theorem s_rIn {n : Int} {low : Int} {high : Int} {m f : M} {Q : V → M → Prop} {rz : Bool} (hS : Pre f m)  (hp : prIn n low high = some rz) (hq : ∀ m', Ext m m' → Q (.c (.bool rz)) m') : Wc prog tbl 22 [.c (.int .i64 n), .c (.int .i64 low), .c (.int .i64 high)] m Q := by
  have S0 := hS.st
  obtain ⟨τ0, _⟩ : ∃ τ : Nat → Nat, True := ⟨fun _ => 0, trivial⟩
  refine w22 ?_
  unfold prIn at hp
  rw [ifB_dec]
  refine ⟨fun q1 => ?_, fun q1 => ?_⟩
  · skip
    rw [if_pos q1] at hp
    obtain rfl := Option.some.inj hp
    exact hq _ S0.ext'
  · skip
    rw [if_neg q1] at hp
    obtain rfl := Option.some.inj hp
    exact hq _ S0.ext'
theorem s_rRises {l : List Int} {most : Int} {ca100 : C} {m f : M} {Q : V → M → Prop} {rz : Bool} (hS : Pre f m) (ha100 : Sl f ca100 l) (hp : prRises l most = some rz) (hq : ∀ m', Ext m m' → Q (.c (.bool rz)) m') : Wc prog tbl 101 [.c ca100, .c (.int .i64 most)] m Q := by
  have S0 := hS.st
  obtain ⟨τ0, _⟩ : ∃ τ : Nat → Nat, True := ⟨fun _ => 0, trivial⟩
  refine w101 ?_
  unfold prRises at hp
  intro R0 hR0
  have hgo : ∀ (d4 : Nat) (b1 : Bool) (x2 : Int) (m3 : M) (τ3 : Nat → Nat), St (Fm.of m) f f m3 → prRises_L0 l most d4 x2 = some rz → R0 [.c (.bool b1), .c (.int .i64 x2)] m3 := by
    intro d4
    induction d4 with
    | zero => intro b1 x2 m3 τ3 S2 hp; cases hp
    | succ d4 ihR0 =>
      intro b1 x2 m3 τ3 S2 hp
      refine hR0 _ _ _ ?_
      rw [prRises_L0] at hp
      refine ⟨ha100.isSl, ?_⟩
      try rw [ha100.slLen]
      rw [ifB_dec]
      refine ⟨fun q5 => ?_, fun q5 => ?_⟩
      · skip
        rw [if_pos q5] at hp
        obtain ⟨x6, g7, hp⟩ := bsome hp
        obtain ⟨n4, g7i, g7l, g7⟩ := idx_some g7
        refine ⟨n4, g7i, (by first | exact g7l | (rw [ha100.slLen]; exact g7l)), _, (ha100.rdI g7 S2.sub), ?_⟩
        obtain ⟨r8, g9, hp⟩ := bsome hp
        refine s_rIn (n := x6) (low := (0 : Int)) (high := most) S2.pre  g9 fun m7 e12 => ?_
        obtain ⟨S10, k11⟩ := S2.call e12 τ3
        refine ⟨_, rfl, ?_⟩
        rw [ifB_iff]
        refine ⟨fun q13 => ?_, fun q13 => ?_⟩
        · skip
          rw [bif_neg (nb_f q13)] at hp
          obtain rfl := Option.some.inj hp
          exact hq _ S10.ext'
        · skip
          rw [if_pos (nb_t q13)] at hp
          rw [ifB_dec]
          refine ⟨fun q14 => ?_, fun q14 => ?_⟩
          · skip
            rw [if_pos q14] at hp
            obtain ⟨x15, g16, hp⟩ := bsome hp
            obtain ⟨n9, g16i, g16l, g16⟩ := idx_some g16
            refine ⟨n9, g16i, (by first | exact g16l | (rw [ha100.slLen]; exact g16l)), _, (ha100.rdI g16 S10.sub), ?_⟩
            obtain ⟨g17, hp⟩ := gd_some hp
            refine ⟨g17, ?_⟩
            obtain ⟨x18, g19, hp⟩ := bsome hp
            obtain ⟨n11, g19i, g19l, g19⟩ := idx_some g19
            refine ⟨n11, g19i, (by first | exact g19l | (rw [ha100.slLen]; exact g19l)), _, (ha100.rdI g19 S10.sub), ?_⟩
            rw [ifB_dec]
            refine ⟨fun q20 => ?_, fun q20 => ?_⟩
            · skip
              rw [if_pos q20] at hp
              obtain rfl := Option.some.inj hp
              exact hq _ S10.ext'
            · skip
              rw [if_neg q20] at hp
              obtain ⟨g21, hp⟩ := gd_some hp
              refine ⟨g21, ?_⟩
              exact ihR0 _ _ _ τ3 S10 hp
          · skip
            rw [if_neg q14] at hp
            obtain ⟨g22, hp⟩ := gd_some hp
            refine ⟨g22, ?_⟩
            exact ihR0 _ _ _ τ3 S10 hp
      · skip
        rw [if_neg q5] at hp
        refine ⟨ha100.isSl, ?_⟩
        try rw [ha100.slLen]
        rw [ifB_dec]
        refine ⟨fun q23 => ?_, fun q23 => ?_⟩
        · skip
          rw [if_pos q23] at hp
          obtain ⟨x24, g25, hp⟩ := bsome hp
          obtain ⟨n13, g25i, g25l, g25⟩ := idx_some g25
          refine ⟨n13, g25i, (by first | exact g25l | (rw [ha100.slLen]; exact g25l)), _, (ha100.rdI g25 S2.sub), ?_⟩
          obtain rfl := Option.some.inj hp
          exact hq _ S2.ext'
        · skip
          rw [if_neg q23] at hp
          obtain rfl := Option.some.inj hp
          exact hq _ S2.ext'
  exact hgo _ _ _ _ τ0 S0 hp
theorem s_rIsTariff {t : Tf} {ca103 ca104 ca105 : C} {m f : M} {Q : V → M → Prop} {rz : Bool} (hS : Pre f m) (ha103 : Sl f ca103 t.Weeks) (ha104 : Sl f ca104 t.Counts) (ha105 : Sl f ca105 t.Rates) (hp : prIsTariff t = some rz) (hq : ∀ m', Ext m m' → Q (.c (.bool rz)) m') : Wc prog tbl 81 [.agg 6 [(.int .i64 t.From), (.bool t.Whole), (.int .i64 t.Least), ca103, ca104, ca105]] m Q := by
  have S0 := hS.st
  obtain ⟨τ0, _⟩ : ∃ τ : Nat → Nat, True := ⟨fun _ => 0, trivial⟩
  refine w81 ?_
  unfold prIsTariff at hp
  intro m0 e26
  obtain ⟨τ29, S27, k28, L30⟩ := S0.blk e26 τ0 1
  refine ⟨trivial, _, L30.bk.rc rfl, ?_⟩
  obtain ⟨r31, g32, hp⟩ := bsome hp
  refine s_rIn (n := t.From) (low := (0 : Int)) (high := (120 : Int)) S27.pre  g32 fun m3 e35 => ?_
  obtain ⟨S33, k34⟩ := S27.call e35 τ29
  have L36 := L30.k k34 (by decide)
  refine ⟨_, rfl, ?_⟩
  rw [ifB_iff]
  refine ⟨fun q37 => ?_, fun q37 => ?_⟩
  · skip
    rw [bif_neg (nb_f q37)] at hp
    obtain rfl := Option.some.inj hp
    exact hq _ S33.ext'
  · skip
    rw [if_pos (nb_t q37)] at hp
    refine ⟨trivial, _, L36.bk.rc rfl, ?_⟩
    obtain ⟨r38, g39, hp⟩ := bsome hp
    refine s_rIn (n := t.Least) (low := (0 : Int)) (high := (100 : Int)) S33.pre  g39 fun m7 e42 => ?_
    obtain ⟨S40, k41⟩ := S33.call e42 τ29
    have L43 := L36.k k41 (by decide)
    refine ⟨_, rfl, ?_⟩
    rw [ifB_iff]
    refine ⟨fun q44 => ?_, fun q44 => ?_⟩
    · skip
      rw [bif_neg (nb_f q44)] at hp
      obtain rfl := Option.some.inj hp
      exact hq _ S40.ext'
    · skip
      rw [if_pos (nb_t q44)] at hp
      refine ⟨trivial, _, L43.bk.rc rfl, ?_⟩
      obtain ⟨r45, g46, hp⟩ := bsome hp
      refine s_rRises (l := t.Weeks) (most := (120 : Int)) S40.pre ha103 g46 fun m11 e49 => ?_
      obtain ⟨S47, k48⟩ := S40.call e49 τ29
      have L50 := L43.k k48 (by decide)
      refine ⟨_, rfl, ?_⟩
      rw [ifB_iff]
      refine ⟨fun q51 => ?_, fun q51 => ?_⟩
      · skip
        rw [bif_neg (nb_f q51)] at hp
        obtain rfl := Option.some.inj hp
        exact hq _ S47.ext'
      · skip
        rw [if_pos (nb_t q51)] at hp
        refine ⟨trivial, _, L50.bk.rc rfl, ?_⟩
        obtain ⟨r52, g53, hp⟩ := bsome hp
        refine s_rRises (l := t.Counts) (most := (100 : Int)) S47.pre ha104 g53 fun m15 e56 => ?_
        obtain ⟨S54, k55⟩ := S47.call e56 τ29
        have L57 := L50.k k55 (by decide)
        refine ⟨_, rfl, ?_⟩
        rw [ifB_iff]
        refine ⟨fun q58 => ?_, fun q58 => ?_⟩
        · skip
          rw [bif_neg (nb_f q58)] at hp
          obtain rfl := Option.some.inj hp
          exact hq _ S54.ext'
        · skip
          rw [if_pos (nb_t q58)] at hp
          refine ⟨trivial, _, L57.bk.rc rfl, trivial, _, L57.bk.rc rfl, ha104.isSl, ?_⟩
          obtain ⟨g59, hp⟩ := gd_some hp
          refine ⟨(by first | exact g59 | (rw [ha104.slLen]; exact g59)), ?_⟩
          obtain ⟨x60, g61, hp⟩ := bsome hp
          obtain ⟨n19, g61i, g61l, g61⟩ := idx_some g61
          refine ⟨n19, (by first | exact g61i | (rw [ha104.slLen]; exact g61i)), (by first | exact g61l | (rw [ha104.slLen]; exact g61l)), _, (ha104.rdI g61 S54.sub), ?_⟩
          rw [ifB_ndec]
          refine ⟨fun q62 => ?_, fun q62 => ?_⟩
          · skip
            rw [if_neg q62] at hp
            obtain rfl := Option.some.inj hp
            exact hq _ S54.ext'
          · skip
            rw [if_pos q62] at hp
            refine ⟨trivial, _, L57.bk.rc rfl, ha105.isSl, ?_⟩
            try rw [ha105.slLen]
            rw [ifB_dec]
            refine ⟨fun q63 => ?_, fun q63 => ?_⟩
            · skip
              rw [if_pos q63] at hp
              obtain rfl := Option.some.inj hp
              exact hq _ S54.ext'
            · skip
              rw [if_neg q63] at hp
              intro R22 hR22
              have hgo : ∀ (d66 : Nat) (b23 : Bool) (b24 : Bool) (b25 : Bool) (x26 : Int) (m27 : M) (τ65 : Nat → Nat), St (Fm.of m) f f m27 → Lb (Fm.of m) f τ65 m27 1 m.nxt 6 [(.int .i64 t.From), (.bool t.Whole), (.int .i64 t.Least), ca103, ca104, ca105] → prIsTariff_L0 t d66 b23 x26 = some rz → R22 [.c (.bool b23), .c (.bool b24), .c (.bool b25), .c (.int .i64 x26)] m27 := by
                intro d66
                induction d66 with
                | zero => intro b23 b24 b25 x26 m27 τ65 S64 L57 hp; cases hp
                | succ d66 ihR22 =>
                  intro b23 b24 b25 x26 m27 τ65 S64 L57 hp
                  refine hR22 _ _ _ _ _ ?_
                  rw [prIsTariff_L0] at hp
                  refine ⟨trivial, _, L57.bk.rc rfl, ha105.isSl, ?_⟩
                  try rw [ha105.slLen]
                  rw [ifB_dec]
                  refine ⟨fun q67 => ?_, fun q67 => ?_⟩
                  · skip
                    rw [if_pos q67] at hp
                    refine ⟨trivial, _, L57.bk.rc rfl, ?_⟩
                    obtain ⟨v68, g69, hp⟩ := bsome hp
                    obtain ⟨n30, g69i, g69l, g69⟩ := idx_some g69
                    obtain ⟨c70, r71, h72⟩ := ha105.rdS g69
                    refine ⟨n30, g69i, (by first | exact g69l | (rw [ha105.slLen]; exact g69l)), _, (r71 _ S64.sub), h72.isSl, trivial, _, L57.bk.rc rfl, ha103.isSl, ?_⟩
                    try rw [h72.slLen]
                    try rw [ha103.slLen]
                    rw [ifB_ndec]
                    refine ⟨fun q73 => ?_, fun q73 => ?_⟩
                    · skip
                      rw [if_neg q73] at hp
                      obtain rfl := Option.some.inj hp
                      exact hq _ S64.ext'
                    · skip
                      rw [if_pos q73] at hp
                      intro R33 hR33
                      have hgo : ∀ (d76 : Nat) (b34 : Bool) (b35 : Bool) (x36 : Int) (m37 : M) (τ75 : Nat → Nat), St (Fm.of m) f f m37 → Lb (Fm.of m) f τ75 m37 1 m.nxt 6 [(.int .i64 t.From), (.bool t.Whole), (.int .i64 t.Least), ca103, ca104, ca105] → prIsTariff_L1 t x26 (prIsTariff_L0 t d66) d76 b34 x36 = some rz → R33 [.c (.bool b34), .c (.bool b35), .c (.int .i64 x36)] m37 := by
                        intro d76
                        induction d76 with
                        | zero => intro b34 b35 x36 m37 τ75 S74 L57 hp; cases hp
                        | succ d76 ihR33 =>
                          intro b34 b35 x36 m37 τ75 S74 L57 hp
                          refine hR33 _ _ _ _ ?_
                          rw [prIsTariff_L1] at hp
                          refine ⟨trivial, _, L57.bk.rc rfl, ha103.isSl, ?_⟩
                          try rw [ha103.slLen]
                          rw [ifB_dec]
                          refine ⟨fun q77 => ?_, fun q77 => ?_⟩
                          · skip
                            rw [if_pos q77] at hp
                            refine ⟨trivial, _, L57.bk.rc rfl, ?_⟩
                            obtain ⟨v78, g79, hp⟩ := bsome hp
                            obtain ⟨n40, g79i, g79l, g79⟩ := idx_some g79
                            obtain ⟨c80, r81, h82⟩ := ha105.rdS g79
                            refine ⟨n40, g79i, (by first | exact g79l | (rw [ha105.slLen]; exact g79l)), _, (r81 _ S74.sub), ?_⟩
                            obtain ⟨v83, g84, hp⟩ := bsome hp
                            obtain ⟨n42, g84i, g84l, g84⟩ := idx_some g84
                            obtain ⟨c85, r86, h87⟩ := h82.rdS g84
                            refine ⟨n42, g84i, (by first | exact g84l | (rw [h82.slLen]; exact g84l)), _, (r86 _ S74.sub), h87.isSl, trivial, _, L57.bk.rc rfl, ha104.isSl, ?_⟩
                            try rw [h87.slLen]
                            try rw [ha104.slLen]
                            rw [ifB_ndec]
                            refine ⟨fun q88 => ?_, fun q88 => ?_⟩
                            · skip
                              rw [if_neg q88] at hp
                              obtain rfl := Option.some.inj hp
                              exact hq _ S74.ext'
                            · skip
                              rw [if_pos q88] at hp
                              intro R45 hR45
                              have hgo : ∀ (d91 : Nat) (b46 : Bool) (x47 : Int) (m48 : M) (τ90 : Nat → Nat), St (Fm.of m) f f m48 → Lb (Fm.of m) f τ90 m48 1 m.nxt 6 [(.int .i64 t.From), (.bool t.Whole), (.int .i64 t.Least), ca103, ca104, ca105] → prIsTariff_L2 t x26 x36 (prIsTariff_L1 t x26 (prIsTariff_L0 t d66) d76) d91 b46 x47 = some rz → R45 [.c (.bool b46), .c (.int .i64 x47)] m48 := by
                                intro d91
                                induction d91 with
                                | zero => intro b46 x47 m48 τ90 S89 L57 hp; cases hp
                                | succ d91 ihR45 =>
                                  intro b46 x47 m48 τ90 S89 L57 hp
                                  refine hR45 _ _ _ ?_
                                  rw [prIsTariff_L2] at hp
                                  refine ⟨trivial, _, L57.bk.rc rfl, ha104.isSl, ?_⟩
                                  try rw [ha104.slLen]
                                  rw [ifB_dec]
                                  refine ⟨fun q92 => ?_, fun q92 => ?_⟩
                                  · skip
                                    rw [if_pos q92] at hp
                                    refine ⟨trivial, _, L57.bk.rc rfl, ?_⟩
                                    obtain ⟨v93, g94, hp⟩ := bsome hp
                                    obtain ⟨n51, g94i, g94l, g94⟩ := idx_some g94
                                    obtain ⟨c95, r96, h97⟩ := ha105.rdS g94
                                    refine ⟨n51, g94i, (by first | exact g94l | (rw [ha105.slLen]; exact g94l)), _, (r96 _ S89.sub), ?_⟩
                                    obtain ⟨v98, g99, hp⟩ := bsome hp
                                    obtain ⟨n53, g99i, g99l, g99⟩ := idx_some g99
                                    obtain ⟨c100, r101, h102⟩ := h97.rdS g99
                                    refine ⟨n53, g99i, (by first | exact g99l | (rw [h97.slLen]; exact g99l)), _, (r101 _ S89.sub), ?_⟩
                                    obtain ⟨x103, g104, hp⟩ := bsome hp
                                    obtain ⟨n55, g104i, g104l, g104⟩ := idx_some g104
                                    refine ⟨n55, g104i, (by first | exact g104l | (rw [h102.slLen]; exact g104l)), _, (h102.rdI g104 S89.sub), ?_⟩
                                    obtain ⟨r105, g106, hp⟩ := bsome hp
                                    refine s_rIn (n := x103) (low := (0 : Int)) (high := (100 : Int)) S89.pre  g106 fun m58 e109 => ?_
                                    obtain ⟨S107, k108⟩ := S89.call e109 τ90
                                    have L110 := L57.k k108 (by decide)
                                    refine ⟨_, rfl, ?_⟩
                                    rw [ifB_iff]
                                    refine ⟨fun q111 => ?_, fun q111 => ?_⟩
                                    · skip
                                      rw [bif_neg (nb_f q111)] at hp
                                      obtain rfl := Option.some.inj hp
                                      exact hq _ S107.ext'
                                    · skip
                                      rw [if_pos (nb_t q111)] at hp
                                      obtain ⟨g112, hp⟩ := gd_some hp
                                      refine ⟨g112, ?_⟩
                                      exact ihR45 _ _ _ τ90 S107 L110 hp
                                  · skip
                                    rw [if_neg q92] at hp
                                    obtain ⟨g113, hp⟩ := gd_some hp
                                    refine ⟨g113, ?_⟩
                                    exact ihR33 _ _ _ _ τ90 S89 L57 hp
                              exact hgo _ _ _ _ τ75 S74 L57 hp
                          · skip
                            rw [if_neg q77] at hp
                            obtain ⟨g114, hp⟩ := gd_some hp
                            refine ⟨g114, ?_⟩
                            exact ihR22 _ _ _ _ _ τ75 S74 L57 hp
                      exact hgo _ _ _ _ _ τ65 S64 L57 hp
                  · skip
                    rw [if_neg q67] at hp
                    obtain rfl := Option.some.inj hp
                    exact hq _ S64.ext'
              exact hgo _ _ _ _ _ _ τ29 S54 L57 hp
theorem s_rFault {l : List Tf} {ca100 : C} {m f : M} {Q : V → M → Prop} {rz : Int} (hS : Pre f m) (ha100 : Sl f ca100 l) (hp : prFault l = some rz) (hq : ∀ m', Ext m m' → Q (.c (.int .i64 rz)) m') : Wc prog tbl 59 [.c ca100] m Q := by
  have S0 := hS.st
  obtain ⟨τ0, _⟩ : ∃ τ : Nat → Nat, True := ⟨fun _ => 0, trivial⟩
  refine w59 ?_
  unfold prFault at hp
  refine ⟨ha100.isSl, ?_⟩
  try rw [ha100.slLen]
  rw [ifB_dec]
  refine ⟨fun q115 => ?_, fun q115 => ?_⟩
  · skip
    rw [if_pos q115] at hp
    obtain rfl := Option.some.inj hp
    exact hq _ S0.ext'
  · skip
    rw [if_neg q115] at hp
    intro R0 hR0
    have hgo : ∀ (d118 : Nat) (x1 : Int) (x2 : Int) (m3 : M) (τ117 : Nat → Nat), St (Fm.of m) f f m3 → prFault_L0 l d118 x1 x2 = some rz → R0 [.c (.int .i64 x1), .c (.int .i64 x2)] m3 := by
      intro d118
      induction d118 with
      | zero => intro x1 x2 m3 τ117 S116 hp; cases hp
      | succ d118 ihR0 =>
        intro x1 x2 m3 τ117 S116 hp
        refine hR0 _ _ _ ?_
        rw [prFault_L0] at hp
        refine ⟨ha100.isSl, ?_⟩
        try rw [ha100.slLen]
        rw [ifB_dec]
        refine ⟨fun q119 => ?_, fun q119 => ?_⟩
        · skip
          rw [if_pos q119] at hp
          obtain ⟨v120, g121, hp⟩ := bsome hp
          obtain ⟨n4, g121i, g121l, g121⟩ := idx_some g121
          obtain ⟨c122, c124, c126, r128, h123, h125, h127⟩ := rd_Tf ha100 g121
          refine ⟨n4, g121i, (by first | exact g121l | (rw [ha100.slLen]; exact g121l)), (ha100.isPt g121 _), _, ((r128 _ S116.sub).2.1 3 _ rfl), h123.isSl, ?_⟩
          try rw [h123.slLen]
          rw [ifB_dec]
          refine ⟨fun q129 => ?_, fun q129 => ?_⟩
          · skip
            rw [if_pos q129] at hp
            obtain rfl := Option.some.inj hp
            exact hq _ S116.ext'
          · skip
            rw [if_neg q129] at hp
            obtain ⟨v130, g131, hp⟩ := bsome hp
            obtain ⟨n6, g131i, g131l, g131⟩ := idx_some g131
            obtain ⟨c132, c134, c136, r138, h133, h135, h137⟩ := rd_Tf ha100 g131
            refine ⟨n6, g131i, (by first | exact g131l | (rw [ha100.slLen]; exact g131l)), (ha100.isPt g131 _), _, ((r138 _ S116.sub).2.1 4 _ rfl), h135.isSl, ?_⟩
            try rw [h135.slLen]
            rw [ifB_dec]
            refine ⟨fun q139 => ?_, fun q139 => ?_⟩
            · skip
              rw [if_pos q139] at hp
              obtain rfl := Option.some.inj hp
              exact hq _ S116.ext'
            · skip
              rw [if_neg q139] at hp
              obtain ⟨v140, g141, hp⟩ := bsome hp
              obtain ⟨n8, g141i, g141l, g141⟩ := idx_some g141
              obtain ⟨c142, c144, c146, r148, h143, h145, h147⟩ := rd_Tf ha100 g141
              refine ⟨n8, g141i, (by first | exact g141l | (rw [ha100.slLen]; exact g141l)), (ha100.isPt g141 _), _, ((r148 _ S116.sub).2.1 5 _ rfl), h147.isSl, ?_⟩
              try rw [h147.slLen]
              rw [ifB_dec]
              refine ⟨fun q149 => ?_, fun q149 => ?_⟩
              · skip
                rw [if_pos q149] at hp
                obtain rfl := Option.some.inj hp
                exact hq _ S116.ext'
              · skip
                rw [if_neg q149] at hp
                obtain ⟨g150, hp⟩ := gd_some hp
                refine ⟨g150, ?_⟩
                exact ihR0 _ _ _ τ117 S116 hp
        · skip
          rw [if_neg q119] at hp
          intro R10 hR10
          have hgo : ∀ (d153 : Nat) (x11 : Int) (x12 : Int) (m13 : M) (τ152 : Nat → Nat), St (Fm.of m) f f m13 → prFault_L1 l d153 x12 = some rz → R10 [.c (.int .i64 x11), .c (.int .i64 x12)] m13 := by
            intro d153
            induction d153 with
            | zero => intro x11 x12 m13 τ152 S151 hp; cases hp
            | succ d153 ihR10 =>
              intro x11 x12 m13 τ152 S151 hp
              refine hR10 _ _ _ ?_
              rw [prFault_L1] at hp
              refine ⟨ha100.isSl, ?_⟩
              try rw [ha100.slLen]
              rw [ifB_dec]
              refine ⟨fun q154 => ?_, fun q154 => ?_⟩
              · skip
                rw [if_pos q154] at hp
                obtain ⟨v155, g156, hp⟩ := bsome hp
                obtain ⟨n14, g156i, g156l, g156⟩ := idx_some g156
                obtain ⟨c157, c159, c161, r163, h158, h160, h162⟩ := rd_Tf ha100 g156
                refine ⟨n14, g156i, (by first | exact g156l | (rw [ha100.slLen]; exact g156l)), _, _, _, _, _, _, (r163 _ S151.sub).1, ?_⟩
                obtain ⟨r164, g165, hp⟩ := bsome hp
                refine s_rIsTariff (t := v155) S151.pre h158 h160 h162 g165 fun m22 e168 => ?_
                obtain ⟨S166, k167⟩ := S151.call e168 τ152
                refine ⟨_, rfl, ?_⟩
                rw [ifB_iff]
                refine ⟨fun q169 => ?_, fun q169 => ?_⟩
                · skip
                  rw [bif_neg (nb_f q169)] at hp
                  obtain rfl := Option.some.inj hp
                  exact hq _ S166.ext'
                · skip
                  rw [if_pos (nb_t q169)] at hp
                  obtain ⟨v170, g171, hp⟩ := bsome hp
                  obtain ⟨n24, g171i, g171l, g171⟩ := idx_some g171
                  obtain ⟨c172, c174, c176, r178, h173, h175, h177⟩ := rd_Tf ha100 g171
                  refine ⟨n24, g171i, (by first | exact g171l | (rw [ha100.slLen]; exact g171l)), (ha100.isPt g171 _), _, ((r178 _ S166.sub).2.1 5 _ rfl), h177.isSl, ?_⟩
                  obtain ⟨v179, g180, hp⟩ := bsome hp
                  obtain ⟨n26, g180i, g180l, g180⟩ := idx_some g180
                  obtain ⟨c181, c183, c185, r187, h182, h184, h186⟩ := rd_Tf ha100 g180
                  refine ⟨n26, g180i, (by first | exact g180l | (rw [ha100.slLen]; exact g180l)), (ha100.isPt g180 _), _, ((r187 _ S166.sub).2.1 5 _ rfl), h186.isSl, ?_⟩
                  try rw [h177.slLen]
                  try rw [h186.slLen]
                  rw [ifB_ndec]
                  refine ⟨fun q188 => ?_, fun q188 => ?_⟩
                  · skip
                    rw [if_neg q188] at hp
                    obtain rfl := Option.some.inj hp
                    exact hq _ S166.ext'
                  · skip
                    rw [if_pos q188] at hp
                    rw [ifB_dec]
                    refine ⟨fun q189 => ?_, fun q189 => ?_⟩
                    · skip
                      rw [if_pos q189] at hp
                      obtain ⟨v190, g191, hp⟩ := bsome hp
                      obtain ⟨n28, g191i, g191l, g191⟩ := idx_some g191
                      obtain ⟨c192, c194, c196, r198, h193, h195, h197⟩ := rd_Tf ha100 g191
                      refine ⟨n28, g191i, (by first | exact g191l | (rw [ha100.slLen]; exact g191l)), (ha100.isPt g191 _), _, ((r198 _ S166.sub).2.1 0 _ rfl), ?_⟩
                      rw [ifB_ndec]
                      refine ⟨fun q199 => ?_, fun q199 => ?_⟩
                      · skip
                        rw [if_neg q199] at hp
                        obtain rfl := Option.some.inj hp
                        exact hq _ S166.ext'
                      · skip
                        rw [if_pos q199] at hp
                        rw [ifB_dec]
                        refine ⟨fun q200 => ?_, fun q200 => ?_⟩
                        · skip
                          rw [if_pos q200] at hp
                          obtain ⟨v201, g202, hp⟩ := bsome hp
                          obtain ⟨n30, g202i, g202l, g202⟩ := idx_some g202
                          obtain ⟨c203, c205, c207, r209, h204, h206, h208⟩ := rd_Tf ha100 g202
                          refine ⟨n30, g202i, (by first | exact g202l | (rw [ha100.slLen]; exact g202l)), (ha100.isPt g202 _), _, ((r209 _ S166.sub).2.1 0 _ rfl), ?_⟩
                          obtain ⟨g210, hp⟩ := gd_some hp
                          refine ⟨g210, ?_⟩
                          obtain ⟨v211, g212, hp⟩ := bsome hp
                          obtain ⟨n32, g212i, g212l, g212⟩ := idx_some g212
                          obtain ⟨c213, c215, c217, r219, h214, h216, h218⟩ := rd_Tf ha100 g212
                          refine ⟨n32, g212i, (by first | exact g212l | (rw [ha100.slLen]; exact g212l)), (ha100.isPt g212 _), _, ((r219 _ S166.sub).2.1 0 _ rfl), ?_⟩
                          rw [ifB_dec]
                          refine ⟨fun q220 => ?_, fun q220 => ?_⟩
                          · skip
                            rw [if_pos q220] at hp
                            obtain rfl := Option.some.inj hp
                            exact hq _ S166.ext'
                          · skip
                            rw [if_neg q220] at hp
                            obtain ⟨g221, hp⟩ := gd_some hp
                            refine ⟨g221, ?_⟩
                            exact ihR10 _ _ _ τ152 S166 hp
                        · skip
                          rw [if_neg q200] at hp
                          obtain ⟨g222, hp⟩ := gd_some hp
                          refine ⟨g222, ?_⟩
                          exact ihR10 _ _ _ τ152 S166 hp
                    · skip
                      rw [if_neg q189] at hp
                      rw [ifB_dec]
                      refine ⟨fun q223 => ?_, fun q223 => ?_⟩
                      · skip
                        rw [if_pos q223] at hp
                        obtain ⟨v224, g225, hp⟩ := bsome hp
                        obtain ⟨n34, g225i, g225l, g225⟩ := idx_some g225
                        obtain ⟨c226, c228, c230, r232, h227, h229, h231⟩ := rd_Tf ha100 g225
                        refine ⟨n34, g225i, (by first | exact g225l | (rw [ha100.slLen]; exact g225l)), (ha100.isPt g225 _), _, ((r232 _ S166.sub).2.1 0 _ rfl), ?_⟩
                        obtain ⟨g233, hp⟩ := gd_some hp
                        refine ⟨g233, ?_⟩
                        obtain ⟨v234, g235, hp⟩ := bsome hp
                        obtain ⟨n36, g235i, g235l, g235⟩ := idx_some g235
                        obtain ⟨c236, c238, c240, r242, h237, h239, h241⟩ := rd_Tf ha100 g235
                        refine ⟨n36, g235i, (by first | exact g235l | (rw [ha100.slLen]; exact g235l)), (ha100.isPt g235 _), _, ((r242 _ S166.sub).2.1 0 _ rfl), ?_⟩
                        rw [ifB_dec]
                        refine ⟨fun q243 => ?_, fun q243 => ?_⟩
                        · skip
                          rw [if_pos q243] at hp
                          obtain rfl := Option.some.inj hp
                          exact hq _ S166.ext'
                        · skip
                          rw [if_neg q243] at hp
                          obtain ⟨g244, hp⟩ := gd_some hp
                          refine ⟨g244, ?_⟩
                          exact ihR10 _ _ _ τ152 S166 hp
                      · skip
                        rw [if_neg q223] at hp
                        obtain ⟨g245, hp⟩ := gd_some hp
                        refine ⟨g245, ?_⟩
                        exact ihR10 _ _ _ τ152 S166 hp
              · skip
                rw [if_neg q154] at hp
                refine ⟨ha100.isSl, ?_⟩
                try rw [ha100.slLen]
                rw [ifB_dec]
                refine ⟨fun q246 => ?_, fun q246 => ?_⟩
                · skip
                  rw [if_pos q246] at hp
                  obtain rfl := Option.some.inj hp
                  exact hq _ S151.ext'
                · skip
                  rw [if_neg q246] at hp
                  obtain rfl := Option.some.inj hp
                  exact hq _ S151.ext'
          exact hgo _ _ _ _ τ117 S116 hp
    exact hgo _ _ _ _ τ0 S0 hp
theorem s_rCrops {l : List Tf} {ca100 : C} {m f : M} {Q : V → M → Prop} {rz : Int} (hS : Pre f m) (ha100 : Sl f ca100 l) (hp : prCrops l = some rz) (hq : ∀ m', Ext m m' → Q (.c (.int .i64 rz)) m') : Wc prog tbl 23 [.c ca100] m Q := by
  have S0 := hS.st
  obtain ⟨τ0, _⟩ : ∃ τ : Nat → Nat, True := ⟨fun _ => 0, trivial⟩
  refine w23 ?_
  unfold prCrops at hp
  obtain ⟨v399, g400, hp⟩ := bsome hp
  obtain ⟨n0, g400i, g400l, g400⟩ := idx_some g400
  obtain ⟨c401, c403, c405, r407, h402, h404, h406⟩ := rd_Tf ha100 g400
  refine ⟨n0, g400i, (by first | exact g400l | (rw [ha100.slLen]; exact g400l)), (ha100.isPt g400 _), _, ((r407 _ S0.sub).2.1 5 _ rfl), h406.isSl, ?_⟩
  try rw [h406.slLen]
  obtain rfl := Option.some.inj hp
  exact hq _ S0.ext'
theorem s_rIsClaim {l : List Tf} {c : Clm} {ca100 : C} {m f : M} {Q : V → M → Prop} {rz : Bool} (hS : Pre f m) (ha100 : Sl f ca100 l) (hp : prIsClaim l c = some rz) (hq : ∀ m', Ext m m' → Q (.c (.bool rz)) m') : Wc prog tbl 66 [.c ca100, .agg 6 [(.int .i64 c.Crop), (.int .i64 c.Value), (.int .i64 c.Day.Lo), (.int .i64 c.Day.Hi), (.int .i64 c.Count.Lo), (.int .i64 c.Count.Hi)]] m Q := by
  have S0 := hS.st
  obtain ⟨τ0, _⟩ : ∃ τ : Nat → Nat, True := ⟨fun _ => 0, trivial⟩
  refine w66 ?_
  unfold prIsClaim at hp
  intro m0 e408
  obtain ⟨τ411, S409, k410, L412⟩ := S0.blk e408 τ0 1
  refine ⟨trivial, _, L412.bk.rc rfl, ?_⟩
  obtain ⟨r413, g414, hp⟩ := bsome hp
  refine s_rCrops (l := l) S409.pre ha100 g414 fun m3 e417 => ?_
  obtain ⟨S415, k416⟩ := S409.call e417 τ411
  have L418 := L412.k k416 (by decide)
  refine ⟨_, rfl, (L418.bk.rc rfl), ?_⟩
  obtain ⟨g419, hp⟩ := gd_some hp
  refine ⟨g419, ?_⟩
  obtain ⟨r420, g421, hp⟩ := bsome hp
  refine s_rIn (n := c.Crop) (low := (0 : Int)) (high := (r413 - (1 : Int))) S415.pre  g421 fun m6 e424 => ?_
  obtain ⟨S422, k423⟩ := S415.call e424 τ411
  have L425 := L418.k k423 (by decide)
  refine ⟨_, rfl, ?_⟩
  rw [ifB_iff]
  refine ⟨fun q426 => ?_, fun q426 => ?_⟩
  · skip
    rw [if_pos q426] at hp
    refine ⟨trivial, _, L425.bk.rc rfl, ?_⟩
    obtain ⟨r427, g428, hp⟩ := bsome hp
    refine s_rIn (n := c.Value) (low := (0 : Int)) (high := (100000 : Int)) S422.pre  g428 fun m10 e431 => ?_
    obtain ⟨S429, k430⟩ := S422.call e431 τ411
    have L432 := L425.k k430 (by decide)
    refine ⟨_, rfl, ?_⟩
    rw [ifB_iff]
    refine ⟨fun q433 => ?_, fun q433 => ?_⟩
    · skip
      rw [if_pos q433] at hp
      refine ⟨trivial, trivial, _, L432.bk.rc rfl, ?_⟩
      rw [ifB_dec]
      refine ⟨fun q434 => ?_, fun q434 => ?_⟩
      · skip
        rw [if_pos q434] at hp
        refine ⟨trivial, trivial, _, L432.bk.rc rfl, trivial, trivial, _, L432.bk.rc rfl, ?_⟩
        rw [ifB_dec]
        refine ⟨fun q435 => ?_, fun q435 => ?_⟩
        · skip
          rw [if_pos q435] at hp
          refine ⟨trivial, trivial, _, L432.bk.rc rfl, ?_⟩
          rw [ifB_dec]
          refine ⟨fun q436 => ?_, fun q436 => ?_⟩
          · skip
            rw [if_pos q436] at hp
            refine ⟨trivial, trivial, _, L432.bk.rc rfl, trivial, trivial, _, L432.bk.rc rfl, ?_⟩
            obtain ⟨g437, hp⟩ := gd_some hp
            refine ⟨g437, ?_⟩
            rw [ifB_dec]
            refine ⟨fun q438 => ?_, fun q438 => ?_⟩
            · skip
              rw [if_pos q438] at hp
              refine ⟨trivial, trivial, _, L432.bk.rc rfl, ?_⟩
              rw [ifB_dec]
              refine ⟨fun q439 => ?_, fun q439 => ?_⟩
              · skip
                rw [if_pos q439] at hp
                refine ⟨trivial, trivial, _, L432.bk.rc rfl, trivial, trivial, _, L432.bk.rc rfl, ?_⟩
                rw [ifB_dec]
                refine ⟨fun q440 => ?_, fun q440 => ?_⟩
                · skip
                  rw [if_pos q440] at hp
                  refine ⟨trivial, trivial, _, L432.bk.rc rfl, ?_⟩
                  obtain rfl := Option.some.inj hp
                  exact hq _ S429.ext'
                · skip
                  rw [if_neg q440] at hp
                  obtain rfl := Option.some.inj hp
                  exact hq _ S429.ext'
              · skip
                rw [if_neg q439] at hp
                obtain rfl := Option.some.inj hp
                exact hq _ S429.ext'
            · skip
              rw [if_neg q438] at hp
              obtain rfl := Option.some.inj hp
              exact hq _ S429.ext'
          · skip
            rw [if_neg q436] at hp
            obtain rfl := Option.some.inj hp
            exact hq _ S429.ext'
        · skip
          rw [if_neg q435] at hp
          obtain rfl := Option.some.inj hp
          exact hq _ S429.ext'
      · skip
        rw [if_neg q434] at hp
        obtain rfl := Option.some.inj hp
        exact hq _ S429.ext'
    · skip
      rw [bif_neg q433] at hp
      obtain rfl := Option.some.inj hp
      exact hq _ S429.ext'
  · skip
    rw [bif_neg q426] at hp
    obtain rfl := Option.some.inj hp
    exact hq _ S422.ext'
theorem s_lTo {r : Rg} {m f : M} {Q : V → M → Prop} {rz : Rg} (hS : Pre f m)  (hp : plTo r = some rz) (hq : ∀ m', Ext m m' → Q (.agg 2 [(.int .i64 rz.Lo), (.int .i64 rz.Hi)]) m') : Wc prog tbl 36 [.agg 2 [(.int .i64 r.Lo), (.int .i64 r.Hi)]] m Q := by
  have S0 := hS.st
  obtain ⟨τ0, _⟩ : ∃ τ : Nat → Nat, True := ⟨fun _ => 0, trivial⟩
  refine w36 ?_
  unfold plTo at hp
  intro m0 e778
  obtain ⟨τ781, S779, k780, L782⟩ := S0.blk e778 τ0 1
  intro m1 e783
  obtain ⟨τ786, S784, k785, L787⟩ := S779.blk e783 τ781 2
  have L788 := L782.k k785 (by decide)
  refine ⟨trivial, _, L788.bk.rc rfl, trivial, _, L788.bk.rc rfl, ?_⟩
  obtain ⟨m792, e791, S789, k790, L793⟩ := L787.sto S784 [(.int .i64 r.Lo), (.int .i64 r.Hi)]
  have L794 := L788.k k790 (by decide)
  refine ⟨m792, e791, ?_⟩
  refine ⟨_, _, L793.bk.ra, ?_⟩
  obtain rfl := Option.some.inj hp
  exact hq _ S789.ext'
theorem s_lClaim {c : Clm} {m f : M} {Q : V → M → Prop} {rz : Clm} (hS : Pre f m)  (hp : plClaim c = some rz) (hq : ∀ m', Ext m m' → Q (.agg 6 [(.int .i64 rz.Crop), (.int .i64 rz.Value), (.int .i64 rz.Day.Lo), (.int .i64 rz.Day.Hi), (.int .i64 rz.Count.Lo), (.int .i64 rz.Count.Hi)]) m') : Wc prog tbl 26 [.agg 6 [(.int .i64 c.Crop), (.int .i64 c.Value), (.int .i64 c.Day.Lo), (.int .i64 c.Day.Hi), (.int .i64 c.Count.Lo), (.int .i64 c.Count.Hi)]] m Q := by
  have S0 := hS.st
  obtain ⟨τ0, _⟩ : ∃ τ : Nat → Nat, True := ⟨fun _ => 0, trivial⟩
  refine w26 ?_
  unfold plClaim at hp
  intro m0 e795
  obtain ⟨τ798, S796, k797, L799⟩ := S0.blk e795 τ0 1
  intro m1 e800
  obtain ⟨τ803, S801, k802, L804⟩ := S796.blk e800 τ798 2
  have L805 := L799.k k802 (by decide)
  refine ⟨trivial, _, L805.bk.rc rfl, trivial, _, L805.bk.rc rfl, trivial, _, _, L805.bk.rp (k := 2) (j := 2) rfl (by omega), ?_⟩
  obtain ⟨r806, g807, hp⟩ := bsome hp
  refine s_lTo (r := c.Day) S801.pre  g807 fun m7 e810 => ?_
  obtain ⟨S808, k809⟩ := S801.call e810 τ803
  have L811 := L805.k k809 (by decide)
  have L812 := L804.k k809 (by decide)
  refine ⟨_, _, rfl, (L811.bk.rc rfl), (L811.bk.rc rfl), trivial, _, _, L811.bk.rp (k := 4) (j := 2) rfl (by omega), (L805.bk.rp (k := 4) (j := 2) rfl (by omega)), ?_⟩
  obtain ⟨r813, g814, hp⟩ := bsome hp
  refine s_lTo (r := c.Count) S808.pre  g814 fun m13 e817 => ?_
  obtain ⟨S815, k816⟩ := S808.call e817 τ803
  have L818 := L811.k k816 (by decide)
  have L819 := L812.k k816 (by decide)
  refine ⟨_, _, rfl, (L818.bk.rc rfl), (L818.bk.rc rfl), ?_⟩
  obtain ⟨m823, e822, S820, k821, L824⟩ := L819.sto S815 [(.int .i64 c.Crop), (.int .i64 c.Value), (.int .i64 r806.Lo), (.int .i64 r806.Hi), (.int .i64 r813.Lo), (.int .i64 r813.Hi)]
  have L825 := L818.k k821 (by decide)
  refine ⟨m823, e822, ?_⟩
  refine ⟨_, _, _, _, _, _, L824.bk.ra, ?_⟩
  obtain rfl := Option.some.inj hp
  exact hq _ S820.ext'
theorem s_lList {l : List Int} {ca100 : C} {m f : M} {Q : V → M → Prop} {rz : List Int} (hS : Pre f m) (ha100 : Sl f ca100 l) (hp : plList l = some rz) (hq : ∀ m' f' c0, Grw m f m' f' → Sl f' c0 rz → Q (.c c0) m') : Wc prog tbl 58 [.c ca100] m Q := by
  have S0 := hS.st
  obtain ⟨τ0, _⟩ : ∃ τ : Nat → Nat, True := ⟨fun _ => 0, trivial⟩
  refine w58 ?_
  unfold plList at hp
  intro m0 e843
  obtain ⟨τ846, S844, k845, o847⟩ := Ow.lit0 (α := Int) S0 τ0 1 e843
  obtain ⟨g855, hp⟩ := gd_some hp
  obtain ⟨c851, m852, τ850, a853, S848, k849, o854⟩ := o847.appL ta73 S844 ha100 g855
  refine ⟨c851, m852, a853, ?_⟩
  obtain ⟨f856, S857, k858, h859⟩ := o854.freeze S848
  obtain rfl := Option.some.inj hp
  exact hq _ f856 c851 S857.grw h859
theorem s_lClaims {l : List Clm} {ca100 : C} {m f : M} {Q : V → M → Prop} {rz : List Clm} (hS : Pre f m) (ha100 : Sl f ca100 l) (hp : plClaims l = some rz) (hq : ∀ m' f' c0, Grw m f m' f' → Sl f' c0 rz → Q (.c c0) m') : Wc prog tbl 40 [.c ca100] m Q := by
  have S0 := hS.st
  obtain ⟨τ0, _⟩ : ∃ τ : Nat → Nat, True := ⟨fun _ => 0, trivial⟩
  refine w40 ?_
  unfold plClaims at hp
  intro R0 hR0
  have hgo : ∀ (d864 : Nat) (c1 : C) (x2 : Int) (l862 : List Clm) (m3 : M) (τ861 : Nat → Nat), St (Fm.of m) f f m3 → Ow (Fm.of m) f τ861 m3 1 c1 l862 → plClaims_L0 l d864 l862 x2 = some rz → R0 [.c c1, .c (.int .i64 x2)] m3 := by
    intro d864
    induction d864 with
    | zero => intro c1 x2 l862 m3 τ861 S860 o863 hp; cases hp
    | succ d864 ihR0 =>
      intro c1 x2 l862 m3 τ861 S860 o863 hp
      refine hR0 _ _ _ ?_
      rw [plClaims_L0] at hp
      refine ⟨ha100.isSl, ?_⟩
      try rw [ha100.slLen]
      rw [ifB_dec]
      refine ⟨fun q865 => ?_, fun q865 => ?_⟩
      · skip
        rw [if_pos q865] at hp
        obtain ⟨v866, g867, hp⟩ := bsome hp
        obtain ⟨n4, g867i, g867l, g867⟩ := idx_some g867
        obtain ⟨_, r868⟩ := rd_Clm ha100 g867
        refine ⟨n4, g867i, (by first | exact g867l | (rw [ha100.slLen]; exact g867l)), _, _, _, _, _, _, (r868 _ S860.sub).1, ?_⟩
        obtain ⟨r869, g870, hp⟩ := bsome hp
        refine s_lClaim (c := v866) S860.pre  g870 fun m12 e873 => ?_
        obtain ⟨S871, k872⟩ := S860.call e873 τ861
        have o863 := o863.k k872 (by decide)
        refine ⟨_, _, _, _, _, _, rfl, ?_⟩
        obtain ⟨g882, hp⟩ := gd_some hp
        intro m19 e874
        obtain ⟨c878, m879, τ877, a880, S875, k876, o881⟩ := o863.app' ta67 S871 (a := r869) (show Rp.rep (α := Clm) f _ r869 from rfl) g882 e874
        refine ⟨c878, m879, a880, ?_⟩
        obtain ⟨g883, hp⟩ := gd_some hp
        refine ⟨g883, ?_⟩
        exact ihR0 _ _ _ _ τ877 S875 o881 hp
      · skip
        rw [if_neg q865] at hp
        obtain ⟨f884, S885, k886, h887⟩ := o863.freeze S860
        obtain rfl := Option.some.inj hp
        exact hq _ f884 c1 S885.grw h887
  exact hgo _ _ _ _ _ τ0 S0 (Ow.nil _ _ _ _ _) hp
theorem s_lThin {l : List Tf} {ca100 : C} {m f : M} {Q : V → M → Prop} {rz : Bool} (hS : Pre f m) (ha100 : Sl f ca100 l) (hp : plThin l = some rz) (hq : ∀ m', Ext m m' → Q (.c (.bool rz)) m') : Wc prog tbl 16 [.c ca100] m Q := by
  have S0 := hS.st
  obtain ⟨τ0, _⟩ : ∃ τ : Nat → Nat, True := ⟨fun _ => 0, trivial⟩
  refine w16 ?_
  unfold plThin at hp
  refine ⟨ha100.isSl, ?_⟩
  try rw [ha100.slLen]
  rw [ifB_dec]
  refine ⟨fun q888 => ?_, fun q888 => ?_⟩
  · skip
    rw [if_pos q888] at hp
    obtain rfl := Option.some.inj hp
    exact hq _ S0.ext'
  · skip
    rw [if_neg q888] at hp
    intro R0 hR0
    have hgo : ∀ (d891 : Nat) (b1 : Bool) (b2 : Bool) (b3 : Bool) (x4 : Int) (m5 : M) (τ890 : Nat → Nat), St (Fm.of m) f f m5 → plThin_L0 l d891 b1 x4 = some rz → R0 [.c (.bool b1), .c (.bool b2), .c (.bool b3), .c (.int .i64 x4)] m5 := by
      intro d891
      induction d891 with
      | zero => intro b1 b2 b3 x4 m5 τ890 S889 hp; cases hp
      | succ d891 ihR0 =>
        intro b1 b2 b3 x4 m5 τ890 S889 hp
        refine hR0 _ _ _ _ _ ?_
        rw [plThin_L0] at hp
        refine ⟨ha100.isSl, ?_⟩
        try rw [ha100.slLen]
        rw [ifB_dec]
        refine ⟨fun q892 => ?_, fun q892 => ?_⟩
        · skip
          rw [if_pos q892] at hp
          obtain ⟨v893, g894, hp⟩ := bsome hp
          obtain ⟨n6, g894i, g894l, g894⟩ := idx_some g894
          obtain ⟨c895, c897, c899, r901, h896, h898, h900⟩ := rd_Tf ha100 g894
          refine ⟨n6, g894i, (by first | exact g894l | (rw [ha100.slLen]; exact g894l)), (ha100.isPt g894 _), _, ((r901 _ S889.sub).2.1 3 _ rfl), h896.isSl, ?_⟩
          try rw [h896.slLen]
          rw [ifB_dec]
          refine ⟨fun q902 => ?_, fun q902 => ?_⟩
          · skip
            rw [if_pos q902] at hp
            obtain rfl := Option.some.inj hp
            exact hq _ S889.ext'
          · skip
            rw [if_neg q902] at hp
            obtain ⟨v903, g904, hp⟩ := bsome hp
            obtain ⟨n8, g904i, g904l, g904⟩ := idx_some g904
            obtain ⟨c905, c907, c909, r911, h906, h908, h910⟩ := rd_Tf ha100 g904
            refine ⟨n8, g904i, (by first | exact g904l | (rw [ha100.slLen]; exact g904l)), (ha100.isPt g904 _), _, ((r911 _ S889.sub).2.1 4 _ rfl), h908.isSl, ?_⟩
            try rw [h908.slLen]
            rw [ifB_dec]
            refine ⟨fun q912 => ?_, fun q912 => ?_⟩
            · skip
              rw [if_pos q912] at hp
              obtain rfl := Option.some.inj hp
              exact hq _ S889.ext'
            · skip
              rw [if_neg q912] at hp
              obtain ⟨v913, g914, hp⟩ := bsome hp
              obtain ⟨n10, g914i, g914l, g914⟩ := idx_some g914
              obtain ⟨c915, c917, c919, r921, h916, h918, h920⟩ := rd_Tf ha100 g914
              refine ⟨n10, g914i, (by first | exact g914l | (rw [ha100.slLen]; exact g914l)), (ha100.isPt g914 _), _, ((r921 _ S889.sub).2.1 5 _ rfl), h920.isSl, ?_⟩
              try rw [h920.slLen]
              rw [ifB_dec]
              refine ⟨fun q922 => ?_, fun q922 => ?_⟩
              · skip
                rw [if_pos q922] at hp
                obtain rfl := Option.some.inj hp
                exact hq _ S889.ext'
              · skip
                rw [if_neg q922] at hp
                intro R12 hR12
                have hgo : ∀ (d925 : Nat) (b13 : Bool) (b14 : Bool) (x15 : Int) (m16 : M) (τ924 : Nat → Nat), St (Fm.of m) f f m16 → plThin_L1 l x4 (plThin_L0 l d891) d925 b13 x15 = some rz → R12 [.c (.bool b13), .c (.bool b14), .c (.int .i64 x15)] m16 := by
                  intro d925
                  induction d925 with
                  | zero => intro b13 b14 x15 m16 τ924 S923 hp; cases hp
                  | succ d925 ihR12 =>
                    intro b13 b14 x15 m16 τ924 S923 hp
                    refine hR12 _ _ _ _ ?_
                    rw [plThin_L1] at hp
                    obtain ⟨v926, g927, hp⟩ := bsome hp
                    obtain ⟨n17, g927i, g927l, g927⟩ := idx_some g927
                    obtain ⟨c928, c930, c932, r934, h929, h931, h933⟩ := rd_Tf ha100 g927
                    refine ⟨n17, g927i, (by first | exact g927l | (rw [ha100.slLen]; exact g927l)), (ha100.isPt g927 _), _, ((r934 _ S923.sub).2.1 5 _ rfl), h933.isSl, ?_⟩
                    try rw [h933.slLen]
                    rw [ifB_dec]
                    refine ⟨fun q935 => ?_, fun q935 => ?_⟩
                    · skip
                      rw [if_pos q935] at hp
                      obtain ⟨v936, g937, hp⟩ := bsome hp
                      obtain ⟨n19, g937i, g937l, g937⟩ := idx_some g937
                      obtain ⟨c938, c940, c942, r944, h939, h941, h943⟩ := rd_Tf ha100 g937
                      refine ⟨n19, g937i, (by first | exact g937l | (rw [ha100.slLen]; exact g937l)), (ha100.isPt g937 _), _, ((r944 _ S923.sub).2.1 5 _ rfl), ?_⟩
                      obtain ⟨v945, g946, hp⟩ := bsome hp
                      obtain ⟨n21, g946i, g946l, g946⟩ := idx_some g946
                      obtain ⟨c947, r948, h949⟩ := h943.rdS g946
                      refine ⟨n21, g946i, (by first | exact g946l | (rw [h943.slLen]; exact g946l)), _, (r948 _ S923.sub), h949.isSl, ?_⟩
                      try rw [h949.slLen]
                      rw [ifB_dec]
                      refine ⟨fun q950 => ?_, fun q950 => ?_⟩
                      · skip
                        rw [if_pos q950] at hp
                        obtain rfl := Option.some.inj hp
                        exact hq _ S923.ext'
                      · skip
                        rw [if_neg q950] at hp
                        intro R23 hR23
                        have hgo : ∀ (d953 : Nat) (b24 : Bool) (x25 : Int) (m26 : M) (τ952 : Nat → Nat), St (Fm.of m) f f m26 → plThin_L2 l x4 x15 (plThin_L1 l x4 (plThin_L0 l d891) d925) d953 b24 x25 = some rz → R23 [.c (.bool b24), .c (.int .i64 x25)] m26 := by
                          intro d953
                          induction d953 with
                          | zero => intro b24 x25 m26 τ952 S951 hp; cases hp
                          | succ d953 ihR23 =>
                            intro b24 x25 m26 τ952 S951 hp
                            refine hR23 _ _ _ ?_
                            rw [plThin_L2] at hp
                            obtain ⟨v954, g955, hp⟩ := bsome hp
                            obtain ⟨n27, g955i, g955l, g955⟩ := idx_some g955
                            obtain ⟨c956, c958, c960, r962, h957, h959, h961⟩ := rd_Tf ha100 g955
                            refine ⟨n27, g955i, (by first | exact g955l | (rw [ha100.slLen]; exact g955l)), (ha100.isPt g955 _), _, ((r962 _ S951.sub).2.1 5 _ rfl), ?_⟩
                            obtain ⟨v963, g964, hp⟩ := bsome hp
                            obtain ⟨n29, g964i, g964l, g964⟩ := idx_some g964
                            obtain ⟨c965, r966, h967⟩ := h961.rdS g964
                            refine ⟨n29, g964i, (by first | exact g964l | (rw [h961.slLen]; exact g964l)), _, (r966 _ S951.sub), h967.isSl, ?_⟩
                            try rw [h967.slLen]
                            rw [ifB_dec]
                            refine ⟨fun q968 => ?_, fun q968 => ?_⟩
                            · skip
                              rw [if_pos q968] at hp
                              obtain ⟨v969, g970, hp⟩ := bsome hp
                              obtain ⟨n31, g970i, g970l, g970⟩ := idx_some g970
                              obtain ⟨c971, c973, c975, r977, h972, h974, h976⟩ := rd_Tf ha100 g970
                              refine ⟨n31, g970i, (by first | exact g970l | (rw [ha100.slLen]; exact g970l)), (ha100.isPt g970 _), _, ((r977 _ S951.sub).2.1 5 _ rfl), ?_⟩
                              obtain ⟨v978, g979, hp⟩ := bsome hp
                              obtain ⟨n33, g979i, g979l, g979⟩ := idx_some g979
                              obtain ⟨c980, r981, h982⟩ := h976.rdS g979
                              refine ⟨n33, g979i, (by first | exact g979l | (rw [h976.slLen]; exact g979l)), _, (r981 _ S951.sub), ?_⟩
                              obtain ⟨v983, g984, hp⟩ := bsome hp
                              obtain ⟨n35, g984i, g984l, g984⟩ := idx_some g984
                              obtain ⟨c985, r986, h987⟩ := h982.rdS g984
                              refine ⟨n35, g984i, (by first | exact g984l | (rw [h982.slLen]; exact g984l)), _, (r986 _ S951.sub), h987.isSl, ?_⟩
                              try rw [h987.slLen]
                              rw [ifB_dec]
                              refine ⟨fun q988 => ?_, fun q988 => ?_⟩
                              · skip
                                rw [if_pos q988] at hp
                                obtain rfl := Option.some.inj hp
                                exact hq _ S951.ext'
                              · skip
                                rw [if_neg q988] at hp
                                obtain ⟨g989, hp⟩ := gd_some hp
                                refine ⟨g989, ?_⟩
                                exact ihR23 _ _ _ τ952 S951 hp
                            · skip
                              rw [if_neg q968] at hp
                              obtain ⟨g990, hp⟩ := gd_some hp
                              refine ⟨g990, ?_⟩
                              exact ihR12 _ _ _ _ τ952 S951 hp
                        exact hgo _ _ _ _ τ924 S923 hp
                    · skip
                      rw [if_neg q935] at hp
                      obtain ⟨g991, hp⟩ := gd_some hp
                      refine ⟨g991, ?_⟩
                      exact ihR0 _ _ _ _ _ τ924 S923 hp
                exact hgo _ _ _ _ _ τ890 S889 hp
        · skip
          rw [if_neg q892] at hp
          obtain rfl := Option.some.inj hp
          exact hq _ S889.ext'
    exact hgo _ _ _ _ _ _ τ0 S0 hp
theorem s_lFault {l : List Tf} {ca100 : C} {m f : M} {Q : V → M → Prop} {rz : Int} (hS : Pre f m) (ha100 : Sl f ca100 l) (hp : plFault l = some rz) (hq : ∀ m', Ext m m' → Q (.c (.int .i64 rz)) m') : Wc prog tbl 20 [.c ca100] m Q := by
  have S0 := hS.st
  obtain ⟨τ0, _⟩ : ∃ τ : Nat → Nat, True := ⟨fun _ => 0, trivial⟩
  refine w20 ?_
  unfold plFault at hp
  obtain ⟨r992, g993, hp⟩ := bsome hp
  refine s_rFault (l := l) S0.pre ha100 g993 fun m1 e996 => ?_
  obtain ⟨S994, k995⟩ := S0.call e996 τ0
  refine ⟨_, rfl, ?_⟩
  obtain rfl := Option.some.inj hp
  exact hq _ S994.ext'
theorem s_lClaimed {l : List Tf} {c : Clm} {ca100 : C} {m f : M} {Q : V → M → Prop} {rz : Int} (hS : Pre f m) (ha100 : Sl f ca100 l) (hp : plClaimed l c = some rz) (hq : ∀ m', Ext m m' → Q (.c (.int .i64 rz)) m') : Wc prog tbl 29 [.c ca100, .agg 6 [(.int .i64 c.Crop), (.int .i64 c.Value), (.int .i64 c.Day.Lo), (.int .i64 c.Day.Hi), (.int .i64 c.Count.Lo), (.int .i64 c.Count.Hi)]] m Q := by
  have S0 := hS.st
  obtain ⟨τ0, _⟩ : ∃ τ : Nat → Nat, True := ⟨fun _ => 0, trivial⟩
  refine w29 ?_
  unfold plClaimed at hp
  intro m0 e997
  obtain ⟨τ1000, S998, k999, L1001⟩ := S0.blk e997 τ0 1
  obtain ⟨r1002, g1003, hp⟩ := bsome hp
  refine s_lFault (l := l) S998.pre ha100 g1003 fun m2 e1006 => ?_
  obtain ⟨S1004, k1005⟩ := S998.call e1006 τ1000
  have L1007 := L1001.k k1005 (by decide)
  refine ⟨_, rfl, ?_⟩
  rw [ifB_ndec]
  refine ⟨fun q1008 => ?_, fun q1008 => ?_⟩
  · skip
    rw [if_neg q1008] at hp
    obtain rfl := Option.some.inj hp
    exact hq _ S1004.ext'
  · skip
    rw [if_pos q1008] at hp
    refine ⟨_, _, _, _, _, _, L1007.bk.ra, ?_⟩
    obtain ⟨r1009, g1010, hp⟩ := bsome hp
    refine s_rIsClaim (l := l) (c := c) S1004.pre ha100 g1010 fun m11 e1013 => ?_
    obtain ⟨S1011, k1012⟩ := S1004.call e1013 τ1000
    have L1014 := L1007.k k1012 (by decide)
    refine ⟨_, rfl, ?_⟩
    rw [ifB_iff]
    refine ⟨fun q1015 => ?_, fun q1015 => ?_⟩
    · skip
      rw [bif_neg (nb_f q1015)] at hp
      obtain rfl := Option.some.inj hp
      exact hq _ S1011.ext'
    · skip
      rw [if_pos (nb_t q1015)] at hp
      obtain rfl := Option.some.inj hp
      exact hq _ S1011.ext'
theorem s_lFine {l : List Tf} {c : Clm} {ca100 : C} {m f : M} {Q : V → M → Prop} {rz : Bool} (hS : Pre f m) (ha100 : Sl f ca100 l) (hp : plFine l c = some rz) (hq : ∀ m', Ext m m' → Q (.c (.bool rz)) m') : Wc prog tbl 47 [.c ca100, .agg 6 [(.int .i64 c.Crop), (.int .i64 c.Value), (.int .i64 c.Day.Lo), (.int .i64 c.Day.Hi), (.int .i64 c.Count.Lo), (.int .i64 c.Count.Hi)]] m Q := by
  have S0 := hS.st
  obtain ⟨τ0, _⟩ : ∃ τ : Nat → Nat, True := ⟨fun _ => 0, trivial⟩
  refine w47 ?_
  unfold plFine at hp
  intro m0 e1027
  obtain ⟨τ1030, S1028, k1029, L1031⟩ := S0.blk e1027 τ0 1
  obtain ⟨r1032, g1033, hp⟩ := bsome hp
  refine s_lThin (l := l) S1028.pre ha100 g1033 fun m2 e1036 => ?_
  obtain ⟨S1034, k1035⟩ := S1028.call e1036 τ1030
  have L1037 := L1031.k k1035 (by decide)
  refine ⟨_, rfl, ?_⟩
  rw [ifB_iff]
  refine ⟨fun q1038 => ?_, fun q1038 => ?_⟩
  · skip
    rw [if_pos q1038] at hp
    refine ⟨_, _, _, _, _, _, L1037.bk.ra, ?_⟩
    obtain ⟨r1039, g1040, hp⟩ := bsome hp
    refine s_lClaimed (l := l) (c := c) S1034.pre ha100 g1040 fun m11 e1043 => ?_
    obtain ⟨S1041, k1042⟩ := S1034.call e1043 τ1030
    have L1044 := L1037.k k1042 (by decide)
    refine ⟨_, rfl, ?_⟩
    obtain rfl := Option.some.inj hp
    exact hq _ S1041.ext'
  · skip
    rw [bif_neg q1038] at hp
    obtain rfl := Option.some.inj hp
    exact hq _ S1034.ext'
theorem s_lBetween {low : Int} {high : Int} {m f : M} {Q : V → M → Prop} {rz : Rg} (hS : Pre f m)  (hp : plBetween low high = some rz) (hq : ∀ m', Ext m m' → Q (.agg 2 [(.int .i64 rz.Lo), (.int .i64 rz.Hi)]) m') : Wc prog tbl 46 [.c (.int .i64 low), .c (.int .i64 high)] m Q := by
  have S0 := hS.st
  obtain ⟨τ0, _⟩ : ∃ τ : Nat → Nat, True := ⟨fun _ => 0, trivial⟩
  refine w46 ?_
  unfold plBetween at hp
  intro m0 e1045
  obtain ⟨τ1048, S1046, k1047, L1049⟩ := S0.blk e1045 τ0 1
  obtain ⟨m1053, e1052, S1050, k1051, L1054⟩ := L1049.sto S1046 [(.int .i64 low), (.int .i64 high)]
  refine ⟨m1053, e1052, ?_⟩
  refine ⟨_, _, L1054.bk.ra, ?_⟩
  obtain rfl := Option.some.inj hp
  exact hq _ S1050.ext'
theorem s_has {r : Rg} {n : Int} {m f : M} {Q : V → M → Prop} {rz : Bool} (hS : Pre f m)  (hp : phas r n = some rz) (hq : ∀ m', Ext m m' → Q (.c (.bool rz)) m') : Wc prog tbl 78 [.agg 2 [(.int .i64 r.Lo), (.int .i64 r.Hi)], .c (.int .i64 n)] m Q := by
  have S0 := hS.st
  obtain ⟨τ0, _⟩ : ∃ τ : Nat → Nat, True := ⟨fun _ => 0, trivial⟩
  refine w78 ?_
  unfold phas at hp
  intro m0 e1084
  obtain ⟨τ1087, S1085, k1086, L1088⟩ := S0.blk e1084 τ0 1
  refine ⟨trivial, _, L1088.bk.rc rfl, ?_⟩
  rw [ifB_dec]
  refine ⟨fun q1089 => ?_, fun q1089 => ?_⟩
  · skip
    rw [if_pos q1089] at hp
    refine ⟨trivial, _, L1088.bk.rc rfl, ?_⟩
    obtain rfl := Option.some.inj hp
    exact hq _ S1085.ext'
  · skip
    rw [if_neg q1089] at hp
    obtain rfl := Option.some.inj hp
    exact hq _ S1085.ext'
theorem s_isIndex {n : Int} {size : Int} {m f : M} {Q : V → M → Prop} {rz : Bool} (hS : Pre f m)  (hp : pisIndex n size = some rz) (hq : ∀ m', Ext m m' → Q (.c (.bool rz)) m') : Wc prog tbl 77 [.c (.int .i64 n), .c (.int .i64 size)] m Q := by
  have S0 := hS.st
  obtain ⟨τ0, _⟩ : ∃ τ : Nat → Nat, True := ⟨fun _ => 0, trivial⟩
  refine w77 ?_
  unfold pisIndex at hp
  obtain ⟨g1090, hp⟩ := gd_some hp
  refine ⟨g1090, ?_⟩
  obtain ⟨r1091, g1092, hp⟩ := bsome hp
  refine s_has (r := ({ Lo := (0 : Int), Hi := (size - (1 : Int)) } : Rg)) (n := n) S0.pre  g1092 fun m1 e1095 => ?_
  obtain ⟨S1093, k1094⟩ := S0.call e1095 τ0
  refine ⟨_, rfl, ?_⟩
  obtain rfl := Option.some.inj hp
  exact hq _ S1093.ext'
theorem s_isDay {n : Int} {m f : M} {Q : V → M → Prop} {rz : Bool} (hS : Pre f m)  (hp : pisDay n = some rz) (hq : ∀ m', Ext m m' → Q (.c (.bool rz)) m') : Wc prog tbl 55 [.c (.int .i64 n)] m Q := by
  have S0 := hS.st
  obtain ⟨τ0, _⟩ : ∃ τ : Nat → Nat, True := ⟨fun _ => 0, trivial⟩
  refine w55 ?_
  unfold pisDay at hp
  obtain ⟨r1096, g1097, hp⟩ := bsome hp
  refine s_has (r := ({ Lo := (0 : Int), Hi := (120 : Int) } : Rg)) (n := n) S0.pre  g1097 fun m1 e1100 => ?_
  obtain ⟨S1098, k1099⟩ := S0.call e1100 τ0
  refine ⟨_, rfl, ?_⟩
  obtain rfl := Option.some.inj hp
  exact hq _ S1098.ext'
theorem s_isCount {n : Int} {m f : M} {Q : V → M → Prop} {rz : Bool} (hS : Pre f m)  (hp : pisCount n = some rz) (hq : ∀ m', Ext m m' → Q (.c (.bool rz)) m') : Wc prog tbl 56 [.c (.int .i64 n)] m Q := by
  have S0 := hS.st
  obtain ⟨τ0, _⟩ : ∃ τ : Nat → Nat, True := ⟨fun _ => 0, trivial⟩
  refine w56 ?_
  unfold pisCount at hp
  obtain ⟨r1101, g1102, hp⟩ := bsome hp
  refine s_has (r := ({ Lo := (0 : Int), Hi := (100 : Int) } : Rg)) (n := n) S0.pre  g1102 fun m1 e1105 => ?_
  obtain ⟨S1103, k1104⟩ := S0.call e1105 τ0
  refine ⟨_, rfl, ?_⟩
  obtain rfl := Option.some.inj hp
  exact hq _ S1103.ext'
theorem s_isHundredths {n : Int} {m f : M} {Q : V → M → Prop} {rz : Bool} (hS : Pre f m)  (hp : pisHundredths n = some rz) (hq : ∀ m', Ext m m' → Q (.c (.bool rz)) m') : Wc prog tbl 105 [.c (.int .i64 n)] m Q := by
  have S0 := hS.st
  obtain ⟨τ0, _⟩ : ∃ τ : Nat → Nat, True := ⟨fun _ => 0, trivial⟩
  refine w105 ?_
  unfold pisHundredths at hp
  obtain ⟨r1106, g1107, hp⟩ := bsome hp
  refine s_has (r := ({ Lo := (0 : Int), Hi := (100 : Int) } : Rg)) (n := n) S0.pre  g1107 fun m1 e1110 => ?_
  obtain ⟨S1108, k1109⟩ := S0.call e1110 τ0
  refine ⟨_, rfl, ?_⟩
  obtain rfl := Option.some.inj hp
  exact hq _ S1108.ext'
theorem s_rises {l : List Int} {ca100 : C} {m f : M} {Q : V → M → Prop} {rz : Bool} (hS : Pre f m) (ha100 : Sl f ca100 l) (hp : prises l = some rz) (hq : ∀ m', Ext m m' → Q (.c (.bool rz)) m') : Wc prog tbl 86 [.c ca100] m Q := by
  have S0 := hS.st
  obtain ⟨τ0, _⟩ : ∃ τ : Nat → Nat, True := ⟨fun _ => 0, trivial⟩
  refine w86 ?_
  unfold prises at hp
  refine ⟨ha100.isSl, ?_⟩
  intro R0 hR0
  have hgo : ∀ (d1113 : Nat) (b1 : Bool) (x2 : Int) (m3 : M) (τ1112 : Nat → Nat), St (Fm.of m) f f m3 → prises_L0 l d1113 x2 = some rz → R0 [.c (.bool b1), .c (.int .i64 x2)] m3 := by
    intro d1113
    induction d1113 with
    | zero => intro b1 x2 m3 τ1112 S1111 hp; cases hp
    | succ d1113 ihR0 =>
      intro b1 x2 m3 τ1112 S1111 hp
      refine hR0 _ _ _ ?_
      rw [prises_L0] at hp
      try rw [ha100.slLen]
      rw [ifB_dec]
      refine ⟨fun q1114 => ?_, fun q1114 => ?_⟩
      · skip
        rw [if_pos q1114] at hp
        obtain ⟨x1115, g1116, hp⟩ := bsome hp
        obtain ⟨n4, g1116i, g1116l, g1116⟩ := idx_some g1116
        refine ⟨n4, g1116i, (by first | exact g1116l | (rw [ha100.slLen]; exact g1116l)), _, (ha100.rdI g1116 S1111.sub), ?_⟩
        rw [ifB_dec]
        refine ⟨fun q1117 => ?_, fun q1117 => ?_⟩
        · skip
          rw [if_pos q1117] at hp
          obtain ⟨g1118, hp⟩ := gd_some hp
          refine ⟨g1118, ?_⟩
          obtain ⟨x1119, g1120, hp⟩ := bsome hp
          obtain ⟨n6, g1120i, g1120l, g1120⟩ := idx_some g1120
          refine ⟨n6, g1120i, (by first | exact g1120l | (rw [ha100.slLen]; exact g1120l)), _, (ha100.rdI g1120 S1111.sub), ?_⟩
          rw [ifB_dec]
          refine ⟨fun q1121 => ?_, fun q1121 => ?_⟩
          · skip
            rw [if_pos q1121] at hp
            obtain rfl := Option.some.inj hp
            exact hq _ S1111.ext'
          · skip
            rw [if_neg q1121] at hp
            obtain ⟨g1122, hp⟩ := gd_some hp
            refine ⟨g1122, ?_⟩
            exact ihR0 _ _ _ τ1112 S1111 hp
        · skip
          rw [if_neg q1117] at hp
          obtain ⟨g1123, hp⟩ := gd_some hp
          refine ⟨g1123, ?_⟩
          exact ihR0 _ _ _ τ1112 S1111 hp
      · skip
        rw [if_neg q1114] at hp
        refine ⟨ha100.isSl, ?_⟩
        try rw [ha100.slLen]
        rw [ifB_dec]
        refine ⟨fun q1124 => ?_, fun q1124 => ?_⟩
        · skip
          rw [if_pos q1124] at hp
          obtain ⟨x1125, g1126, hp⟩ := bsome hp
          obtain ⟨n8, g1126i, g1126l, g1126⟩ := idx_some g1126
          refine ⟨n8, g1126i, (by first | exact g1126l | (rw [ha100.slLen]; exact g1126l)), _, (ha100.rdI g1126 S1111.sub), ?_⟩
          obtain rfl := Option.some.inj hp
          exact hq _ S1111.ext'
        · skip
          rw [if_neg q1124] at hp
          obtain rfl := Option.some.inj hp
          exact hq _ S1111.ext'
  exact hgo _ _ _ _ τ0 S0 hp
theorem s_froms {l : List Tf} {ca100 : C} {m f : M} {Q : V → M → Prop} {rz : List Int} (hS : Pre f m) (ha100 : Sl f ca100 l) (hp : pfroms l = some rz) (hq : ∀ m' f' c0, Grw m f m' f' → Sl f' c0 rz → Q (.c c0) m') : Wc prog tbl 87 [.c ca100] m Q := by
  have S0 := hS.st
  obtain ⟨τ0, _⟩ : ∃ τ : Nat → Nat, True := ⟨fun _ => 0, trivial⟩
  refine w87 ?_
  unfold pfroms at hp
  refine ⟨ha100.isSl, ?_⟩
  intro R0 hR0
  have hgo : ∀ (d1131 : Nat) (c1 : C) (x2 : Int) (l1129 : List Int) (m3 : M) (τ1128 : Nat → Nat), St (Fm.of m) f f m3 → Ow (Fm.of m) f τ1128 m3 1 c1 l1129 → pfroms_L0 l d1131 l1129 x2 = some rz → R0 [.c c1, .c (.int .i64 x2)] m3 := by
    intro d1131
    induction d1131 with
    | zero => intro c1 x2 l1129 m3 τ1128 S1127 o1130 hp; cases hp
    | succ d1131 ihR0 =>
      intro c1 x2 l1129 m3 τ1128 S1127 o1130 hp
      refine hR0 _ _ _ ?_
      rw [pfroms_L0] at hp
      try rw [ha100.slLen]
      rw [ifB_dec]
      refine ⟨fun q1132 => ?_, fun q1132 => ?_⟩
      · skip
        rw [if_pos q1132] at hp
        obtain ⟨v1133, g1134, hp⟩ := bsome hp
        obtain ⟨n4, g1134i, g1134l, g1134⟩ := idx_some g1134
        obtain ⟨c1135, c1137, c1139, r1141, h1136, h1138, h1140⟩ := rd_Tf ha100 g1134
        refine ⟨n4, g1134i, (by first | exact g1134l | (rw [ha100.slLen]; exact g1134l)), _, _, _, _, _, _, (r1141 _ S1127.sub).1, ?_⟩
        intro m11 e1142
        obtain ⟨τ1145, S1143, k1144, L1146⟩ := S1127.blk e1142 τ1128 2
        have o1130 := o1130.k k1144 (by decide)
        obtain ⟨m1150, e1149, S1147, k1148, L1151⟩ := L1146.sto S1143 [(.int .i64 v1133.From), (.bool v1133.Whole), (.int .i64 v1133.Least), c1135, c1137, c1139]
        have o1130 := o1130.k k1148 (by decide)
        refine ⟨m1150, e1149, ?_⟩
        refine ⟨trivial, _, L1151.bk.rc rfl, ?_⟩
        obtain ⟨g1160, hp⟩ := gd_some hp
        intro m14 e1152
        obtain ⟨c1156, m1157, τ1155, a1158, S1153, k1154, o1159⟩ := o1130.app' ta73 S1147 (a := v1133.From) (show Rp.rep (α := Int) f _ v1133.From from rfl) g1160 e1152
        have L1161 := L1151.k k1154 (by decide)
        refine ⟨c1156, m1157, a1158, ?_⟩
        obtain ⟨g1162, hp⟩ := gd_some hp
        refine ⟨g1162, ?_⟩
        exact ihR0 _ _ _ _ τ1155 S1153 o1159 hp
      · skip
        rw [if_neg q1132] at hp
        obtain ⟨f1163, S1164, k1165, h1166⟩ := o1130.freeze S1127
        obtain rfl := Option.some.inj hp
        exact hq _ f1163 c1 S1164.grw h1166
  exact hgo _ _ _ _ _ τ0 S0 (Ow.nil _ _ _ _ _) hp
theorem s_sameCrops {l : List Tf} {t : Tf} {ca100 ca203 ca204 ca205 : C} {m f : M} {Q : V → M → Prop} {rz : Bool} (hS : Pre f m) (ha100 : Sl f ca100 l) (ha203 : Sl f ca203 t.Weeks) (ha204 : Sl f ca204 t.Counts) (ha205 : Sl f ca205 t.Rates) (hp : psameCrops l t = some rz) (hq : ∀ m', Ext m m' → Q (.c (.bool rz)) m') : Wc prog tbl 88 [.c ca100, .agg 6 [(.int .i64 t.From), (.bool t.Whole), (.int .i64 t.Least), ca203, ca204, ca205]] m Q := by
  have S0 := hS.st
  obtain ⟨τ0, _⟩ : ∃ τ : Nat → Nat, True := ⟨fun _ => 0, trivial⟩
  refine w88 ?_
  unfold psameCrops at hp
  intro m0 e1167
  obtain ⟨τ1170, S1168, k1169, L1171⟩ := S0.blk e1167 τ0 1
  refine ⟨trivial, _, L1171.bk.rc rfl, ha205.isSl, ?_⟩
  obtain ⟨v1172, g1173, hp⟩ := bsome hp
  obtain ⟨n2, g1173i, g1173l, g1173⟩ := idx_some g1173
  obtain ⟨c1174, c1176, c1178, r1180, h1175, h1177, h1179⟩ := rd_Tf ha100 g1173
  refine ⟨n2, g1173i, (by first | exact g1173l | (rw [ha100.slLen]; exact g1173l)), (ha100.isPt g1173 _), _, ((r1180 _ S1168.sub).2.1 5 _ rfl), h1179.isSl, ?_⟩
  try rw [ha205.slLen]
  try rw [h1179.slLen]
  obtain rfl := Option.some.inj hp
  exact hq _ S1168.ext'
theorem s_hasCrop {l : List Tf} {n : Int} {ca100 : C} {m f : M} {Q : V → M → Prop} {rz : Bool} (hS : Pre f m) (ha100 : Sl f ca100 l) (hp : phasCrop l n = some rz) (hq : ∀ m', Ext m m' → Q (.c (.bool rz)) m') : Wc prog tbl 54 [.c ca100, .c (.int .i64 n)] m Q := by
  have S0 := hS.st
  obtain ⟨τ0, _⟩ : ∃ τ : Nat → Nat, True := ⟨fun _ => 0, trivial⟩
  refine w54 ?_
  unfold phasCrop at hp
  obtain ⟨v1181, g1182, hp⟩ := bsome hp
  obtain ⟨n0, g1182i, g1182l, g1182⟩ := idx_some g1182
  obtain ⟨c1183, c1185, c1187, r1189, h1184, h1186, h1188⟩ := rd_Tf ha100 g1182
  refine ⟨n0, g1182i, (by first | exact g1182l | (rw [ha100.slLen]; exact g1182l)), (ha100.isPt g1182 _), _, ((r1189 _ S0.sub).2.1 5 _ rfl), h1188.isSl, ?_⟩
  try rw [h1188.slLen]
  obtain ⟨r1190, g1191, hp⟩ := bsome hp
  refine s_isIndex (n := n) (size := (v1181.Rates.length : Int)) S0.pre  g1191 fun m3 e1194 => ?_
  obtain ⟨S1192, k1193⟩ := S0.call e1194 τ0
  refine ⟨_, rfl, ?_⟩
  obtain rfl := Option.some.inj hp
  exact hq _ S1192.ext'
theorem s_tfTooMany {t : Tf} {ca103 ca104 ca105 : C} {m f : M} {Q : V → M → Prop} {rz : Bool} (hS : Pre f m) (ha103 : Sl f ca103 t.Weeks) (ha104 : Sl f ca104 t.Counts) (ha105 : Sl f ca105 t.Rates) (hp : ptfTooMany t = some rz) (hq : ∀ m', Ext m m' → Q (.c (.bool rz)) m') : Wc prog tbl 83 [.agg 6 [(.int .i64 t.From), (.bool t.Whole), (.int .i64 t.Least), ca103, ca104, ca105]] m Q := by
  have S0 := hS.st
  obtain ⟨τ0, _⟩ : ∃ τ : Nat → Nat, True := ⟨fun _ => 0, trivial⟩
  refine w83 ?_
  unfold ptfTooMany at hp
  intro m0 e1195
  obtain ⟨τ1198, S1196, k1197, L1199⟩ := S0.blk e1195 τ0 1
  refine ⟨trivial, _, L1199.bk.rc rfl, ha103.isSl, ?_⟩
  try rw [ha103.slLen]
  rw [ifB_dec]
  refine ⟨fun q1200 => ?_, fun q1200 => ?_⟩
  · skip
    rw [if_pos q1200] at hp
    obtain rfl := Option.some.inj hp
    exact hq _ S1196.ext'
  · skip
    rw [if_neg q1200] at hp
    refine ⟨trivial, _, L1199.bk.rc rfl, ha104.isSl, ?_⟩
    try rw [ha104.slLen]
    rw [ifB_dec]
    refine ⟨fun q1201 => ?_, fun q1201 => ?_⟩
    · skip
      rw [if_pos q1201] at hp
      obtain rfl := Option.some.inj hp
      exact hq _ S1196.ext'
    · skip
      rw [if_neg q1201] at hp
      refine ⟨trivial, _, L1199.bk.rc rfl, ha105.isSl, ?_⟩
      try rw [ha105.slLen]
      obtain rfl := Option.some.inj hp
      exact hq _ S1196.ext'
theorem s_isNaN {x : Int} {m f : M} {Q : V → M → Prop} {rz : Bool} (hS : Pre f m)  (hp : pisNaN x = some rz) (hq : ∀ m', Ext m m' → Q (.c (.bool rz)) m') : Wc prog tbl 95 [.c (.int .i64 x)] m Q := by
  have S0 := hS.st
  obtain ⟨τ0, _⟩ : ∃ τ : Nat → Nat, True := ⟨fun _ => 0, trivial⟩
  refine w95 ?_
  unfold pisNaN at hp
  obtain rfl := Option.some.inj hp
  exact hq _ S0.ext'
theorem s_sNaN {x : Int} {m f : M} {Q : V → M → Prop} {rz : Bool} (hS : Pre f m)  (hp : psNaN x = some rz) (hq : ∀ m', Ext m m' → Q (.c (.bool rz)) m') : Wc prog tbl 130 [.c (.int .i64 x)] m Q := by
  have S0 := hS.st
  obtain ⟨τ0, _⟩ : ∃ τ : Nat → Nat, True := ⟨fun _ => 0, trivial⟩
  refine w130 ?_
  unfold psNaN at hp
  obtain rfl := Option.some.inj hp
  exact hq _ S0.ext'
theorem s_less {x : Int} {y : Int} {m f : M} {Q : V → M → Prop} {rz : Bool} (hS : Pre f m)  (hp : pless x y = some rz) (hq : ∀ m', Ext m m' → Q (.c (.bool rz)) m') : Wc prog tbl 129 [.c (.int .i64 x), .c (.int .i64 y)] m Q := by
  have S0 := hS.st
  obtain ⟨τ0, _⟩ : ∃ τ : Nat → Nat, True := ⟨fun _ => 0, trivial⟩
  refine w129 ?_
  unfold pless at hp
  obtain ⟨r1228, g1229, hp⟩ := bsome hp
  refine s_isNaN (x := x) S0.pre  g1229 fun m1 e1232 => ?_
  obtain ⟨S1230, k1231⟩ := S0.call e1232 τ0
  refine ⟨_, rfl, ?_⟩
  rw [ifB_iff]
  refine ⟨fun q1233 => ?_, fun q1233 => ?_⟩
  · skip
    rw [if_pos q1233] at hp
    obtain ⟨r1234, g1235, hp⟩ := bsome hp
    refine s_isNaN (x := y) S1230.pre  g1235 fun m4 e1238 => ?_
    obtain ⟨S1236, k1237⟩ := S1230.call e1238 τ0
    refine ⟨_, rfl, ?_⟩
    rw [ifB_iff]
    refine ⟨fun q1239 => ?_, fun q1239 => ?_⟩
    · skip
      rw [bif_neg (nb_f q1239)] at hp
      obtain rfl := Option.some.inj hp
      exact hq _ S1236.ext'
    · skip
      rw [if_pos (nb_t q1239)] at hp
      obtain rfl := Option.some.inj hp
      exact hq _ S1236.ext'
  · skip
    rw [bif_neg q1233] at hp
    obtain rfl := Option.some.inj hp
    exact hq _ S1230.ext'
theorem s_bsearch {l : List Int} {x : Int} {ca100 : C} {m f : M} {Q : V → M → Prop} {rz : Int × Bool} (hS : Pre f m) (ha100 : Sl f ca100 l) (hp : pbsearch l x = some rz) (hq : ∀ m', Ext m m' → Q (.tup [.c (.int .i64 rz.1), .c (.bool rz.2)]) m') : Wc prog tbl 116 [.c ca100, .c (.int .i64 x)] m Q := by
  have S0 := hS.st
  obtain ⟨τ0, _⟩ : ∃ τ : Nat → Nat, True := ⟨fun _ => 0, trivial⟩
  refine w116 ?_
  unfold pbsearch at hp
  refine ⟨ha100.isSl, ?_⟩
  intro R0 hR0
  try rw [ha100.slLen]
  have hgo : ∀ (d1257 : Nat) (x1 : Int) (x2 : Int) (m3 : M) (τ1256 : Nat → Nat), St (Fm.of m) f f m3 → pbsearch_L0 l x d1257 x1 x2 = some rz → R0 [.c (.int .i64 x1), .c (.int .i64 x2)] m3 := by
    intro d1257
    induction d1257 with
    | zero => intro x1 x2 m3 τ1256 S1255 hp; cases hp
    | succ d1257 ihR0 =>
      intro x1 x2 m3 τ1256 S1255 hp
      refine hR0 _ _ _ ?_
      rw [pbsearch_L0] at hp
      rw [ifB_dec]
      refine ⟨fun q1258 => ?_, fun q1258 => ?_⟩
      · skip
        rw [if_pos q1258] at hp
        obtain ⟨g1259, hp⟩ := gd_some hp
        refine ⟨g1259, ?_⟩
        obtain ⟨g1260, hp⟩ := gd_some hp
        refine ⟨g1260, ?_⟩
        obtain ⟨g1261, hp⟩ := gd_some hp
        refine ⟨g1261, ?_⟩
        obtain ⟨g1262, hp⟩ := gd_some hp
        refine ⟨g1262, ?_⟩
        obtain ⟨g1263, hp⟩ := gd_some hp
        refine ⟨g1263, ?_⟩
        obtain ⟨x1264, g1265, hp⟩ := bsome hp
        obtain ⟨n4, g1265i, g1265l, g1265⟩ := idx_some g1265
        refine ⟨n4, g1265i, (by first | exact g1265l | (rw [ha100.slLen]; exact g1265l)), _, (ha100.rdI g1265 S1255.sub), ?_⟩
        obtain ⟨r1266, g1267, hp⟩ := bsome hp
        refine s_less (x := x1264) (y := x) S1255.pre  g1267 fun m7 e1270 => ?_
        obtain ⟨S1268, k1269⟩ := S1255.call e1270 τ1256
        refine ⟨_, rfl, ?_⟩
        rw [ifB_iff]
        refine ⟨fun q1271 => ?_, fun q1271 => ?_⟩
        · skip
          rw [if_pos q1271] at hp
          obtain ⟨g1272, hp⟩ := gd_some hp
          refine ⟨g1272, ?_⟩
          exact ihR0 _ _ _ τ1256 S1268 hp
        · skip
          rw [bif_neg q1271] at hp
          exact ihR0 _ _ _ τ1256 S1268 hp
      · skip
        rw [if_neg q1258] at hp
        try rw [ha100.slLen]
        rw [ifB_dec]
        refine ⟨fun q1273 => ?_, fun q1273 => ?_⟩
        · skip
          rw [if_pos q1273] at hp
          obtain ⟨x1274, g1275, hp⟩ := bsome hp
          obtain ⟨n9, g1275i, g1275l, g1275⟩ := idx_some g1275
          refine ⟨n9, g1275i, (by first | exact g1275l | (rw [ha100.slLen]; exact g1275l)), _, (ha100.rdI g1275 S1255.sub), ?_⟩
          rw [ifB_dec]
          refine ⟨fun q1276 => ?_, fun q1276 => ?_⟩
          · skip
            rw [if_pos q1276] at hp
            obtain rfl := Option.some.inj hp
            exact hq _ S1255.ext'
          · skip
            rw [if_neg q1276] at hp
            obtain ⟨x1277, g1278, hp⟩ := bsome hp
            obtain ⟨n11, g1278i, g1278l, g1278⟩ := idx_some g1278
            refine ⟨n11, g1278i, (by first | exact g1278l | (rw [ha100.slLen]; exact g1278l)), _, (ha100.rdI g1278 S1255.sub), ?_⟩
            obtain ⟨r1279, g1280, hp⟩ := bsome hp
            refine s_sNaN (x := x1277) S1255.pre  g1280 fun m14 e1283 => ?_
            obtain ⟨S1281, k1282⟩ := S1255.call e1283 τ1256
            refine ⟨_, rfl, ?_⟩
            rw [ifB_iff]
            refine ⟨fun q1284 => ?_, fun q1284 => ?_⟩
            · skip
              rw [if_pos q1284] at hp
              obtain ⟨r1285, g1286, hp⟩ := bsome hp
              refine s_sNaN (x := x) S1281.pre  g1286 fun m17 e1289 => ?_
              obtain ⟨S1287, k1288⟩ := S1281.call e1289 τ1256
              refine ⟨_, rfl, ?_⟩
              obtain rfl := Option.some.inj hp
              exact hq _ S1287.ext'
            · skip
              rw [bif_neg q1284] at hp
              obtain rfl := Option.some.inj hp
              exact hq _ S1281.ext'
        · skip
          rw [if_neg q1273] at hp
          obtain rfl := Option.some.inj hp
          exact hq _ S1255.ext'
  exact hgo _ _ _ _ τ0 S0 hp
theorem s_last {days : List Int} {day : Int} {ca100 : C} {m f : M} {Q : V → M → Prop} {rz : Int} (hS : Pre f m) (ha100 : Sl f ca100 days) (hp : plast days day = some rz) (hq : ∀ m', Ext m m' → Q (.c (.int .i64 rz)) m') : Wc prog tbl 98 [.c ca100, .c (.int .i64 day)] m Q := by
  have S0 := hS.st
  obtain ⟨τ0, _⟩ : ∃ τ : Nat → Nat, True := ⟨fun _ => 0, trivial⟩
  refine w98 ?_
  unfold plast at hp
  obtain ⟨g1290, hp⟩ := gd_some hp
  refine ⟨g1290, ?_⟩
  obtain ⟨r1291, g1292, hp⟩ := bsome hp
  refine s_bsearch (l := days) (x := (day + (1 : Int))) S0.pre ha100 g1292 fun m1 e1295 => ?_
  obtain ⟨S1293, k1294⟩ := S0.call e1295 τ0
  refine ⟨_, _, rfl, ?_⟩
  obtain ⟨g1296, hp⟩ := gd_some hp
  refine ⟨g1296, ?_⟩
  obtain rfl := Option.some.inj hp
  exact hq _ S1293.ext'
theorem s_tfOf {l : List Tf} {day : Int} {ca100 : C} {m f : M} {Q : V → M → Prop} {rz : Tf} (hS : Pre f m) (ha100 : Sl f ca100 l) (hp : ptfOf l day = some rz) (hq : ∀ m' f' c3 c4 c5, Grw m f m' f' → Sl f' c3 rz.Weeks → Sl f' c4 rz.Counts → Sl f' c5 rz.Rates → Q (.agg 6 [(.int .i64 rz.From), (.bool rz.Whole), (.int .i64 rz.Least), c3, c4, c5]) m') : Wc prog tbl 79 [.c ca100, .c (.int .i64 day)] m Q := by
  have S0 := hS.st
  obtain ⟨τ0, _⟩ : ∃ τ : Nat → Nat, True := ⟨fun _ => 0, trivial⟩
  refine w79 ?_
  unfold ptfOf at hp
  intro m0 e1297
  obtain ⟨τ1300, S1298, k1299, L1301⟩ := S0.blk e1297 τ0 1
  obtain ⟨r1302, g1303, hp⟩ := bsome hp
  refine s_froms (l := l) S1298.pre ha100 g1303 fun m2 f1307 c1308 e1306 h1309 => ?_
  obtain ⟨S1304, k1305⟩ := S1298.callG e1306 τ1300
  have L1310 := L1301.k k1305 (by decide)
  refine ⟨_, rfl, ?_⟩
  obtain ⟨r1311, g1312, hp⟩ := bsome hp
  refine s_last (days := r1302) (day := day) S1304.pre h1309 g1312 fun m5 e1315 => ?_
  obtain ⟨S1313, k1314⟩ := S1304.call e1315 τ1300
  have L1316 := L1310.k k1314 (by decide)
  refine ⟨_, rfl, ?_⟩
  obtain ⟨v1317, g1318, hp⟩ := bsome hp
  obtain ⟨n7, g1318i, g1318l, g1318⟩ := idx_some g1318
  obtain ⟨c1319, c1321, c1323, r1325, h1320, h1322, h1324⟩ := rd_Tf ha100 g1318
  refine ⟨n7, g1318i, (by first | exact g1318l | (rw [ha100.slLen]; exact g1318l)), _, _, _, _, _, _, (r1325 _ (Sub.trans k1305.fs S1313.sub)).1, ?_⟩
  obtain ⟨m1329, e1328, S1326, k1327, L1330⟩ := L1316.sto S1313 [(.int .i64 v1317.From), (.bool v1317.Whole), (.int .i64 v1317.Least), c1319, c1321, c1323]
  refine ⟨m1329, e1328, ?_⟩
  refine ⟨_, _, _, _, _, _, L1330.bk.ra, ?_⟩
  obtain rfl := Option.some.inj hp
  exact hq _ f1307 c1319 c1321 c1323 S1326.grw (h1320.sub k1305.fs) (h1322.sub k1305.fs) (h1324.sub k1305.fs)
theorem s_whole {t : Tf} {loss : Int} {ca103 ca104 ca105 : C} {m f : M} {Q : V → M → Prop} {rz : Int} (hS : Pre f m) (ha103 : Sl f ca103 t.Weeks) (ha104 : Sl f ca104 t.Counts) (ha105 : Sl f ca105 t.Rates) (hp : pwhole t loss = some rz) (hq : ∀ m', Ext m m' → Q (.c (.int .i64 rz)) m') : Wc prog tbl 117 [.agg 6 [(.int .i64 t.From), (.bool t.Whole), (.int .i64 t.Least), ca103, ca104, ca105], .c (.int .i64 loss)] m Q := by
  have S0 := hS.st
  obtain ⟨τ0, _⟩ : ∃ τ : Nat → Nat, True := ⟨fun _ => 0, trivial⟩
  refine w117 ?_
  unfold pwhole at hp
  intro m0 e1331
  obtain ⟨τ1334, S1332, k1333, L1335⟩ := S0.blk e1331 τ0 1
  obtain rfl := Option.some.inj hp
  exact hq _ S1332.ext'
theorem s_aboveLeast {t : Tf} {loss : Int} {ca103 ca104 ca105 : C} {m f : M} {Q : V → M → Prop} {rz : Int} (hS : Pre f m) (ha103 : Sl f ca103 t.Weeks) (ha104 : Sl f ca104 t.Counts) (ha105 : Sl f ca105 t.Rates) (hp : paboveLeast t loss = some rz) (hq : ∀ m', Ext m m' → Q (.c (.int .i64 rz)) m') : Wc prog tbl 118 [.agg 6 [(.int .i64 t.From), (.bool t.Whole), (.int .i64 t.Least), ca103, ca104, ca105], .c (.int .i64 loss)] m Q := by
  have S0 := hS.st
  obtain ⟨τ0, _⟩ : ∃ τ : Nat → Nat, True := ⟨fun _ => 0, trivial⟩
  refine w118 ?_
  unfold paboveLeast at hp
  intro m0 e1336
  obtain ⟨τ1339, S1337, k1338, L1340⟩ := S0.blk e1336 τ0 1
  refine ⟨trivial, _, L1340.bk.rc rfl, ?_⟩
  obtain ⟨g1341, hp⟩ := gd_some hp
  refine ⟨g1341, ?_⟩
  obtain rfl := Option.some.inj hp
  exact hq _ S1337.ext'
theorem s_loss {t : Tf} {h : Ht} {ca103 ca104 ca105 : C} {m f : M} {Q : V → M → Prop} {rz : Int} (hS : Pre f m) (ha103 : Sl f ca103 t.Weeks) (ha104 : Sl f ca104 t.Counts) (ha105 : Sl f ca105 t.Rates) (hp : ploss t h = some rz) (hq : ∀ m', Ext m m' → Q (.c (.int .i64 rz)) m') : Wc prog tbl 99 [.agg 6 [(.int .i64 t.From), (.bool t.Whole), (.int .i64 t.Least), ca103, ca104, ca105], .agg 3 [(.int .i64 h.Day), (.int .i64 h.Count), (.int .i64 h.crop)]] m Q := by
  have S0 := hS.st
  obtain ⟨τ0, _⟩ : ∃ τ : Nat → Nat, True := ⟨fun _ => 0, trivial⟩
  refine w99 ?_
  unfold ploss at hp
  intro m0 e1342
  obtain ⟨τ1345, S1343, k1344, L1346⟩ := S0.blk e1342 τ0 1
  intro m1 e1347
  obtain ⟨τ1350, S1348, k1349, L1351⟩ := S1343.blk e1347 τ1345 2
  have L1352 := L1346.k k1349 (by decide)
  refine ⟨trivial, _, L1352.bk.rc rfl, trivial, _, L1351.bk.rc rfl, ?_⟩
  obtain ⟨v1353, g1354, hp⟩ := bsome hp
  obtain ⟨n4, g1354i, g1354l, g1354⟩ := idx_some g1354
  obtain ⟨c1355, r1356, h1357⟩ := ha105.rdS g1354
  refine ⟨n4, g1354i, (by first | exact g1354l | (rw [ha105.slLen]; exact g1354l)), _, (r1356 _ S1348.sub), trivial, _, L1352.bk.rc rfl, trivial, trivial, _, L1351.bk.rc rfl, ?_⟩
  obtain ⟨r1358, g1359, hp⟩ := bsome hp
  refine s_last (days := t.Weeks) (day := h.Day) S1348.pre ha103 g1359 fun m9 e1362 => ?_
  obtain ⟨S1360, k1361⟩ := S1348.call e1362 τ1350
  have L1363 := L1352.k k1361 (by decide)
  have L1364 := L1351.k k1361 (by decide)
  refine ⟨_, rfl, (by rw [show noFnC _ = true from h1357.noFn]; exact (r1356 _ S1360.sub)), (L1364.bk.rc rfl), (by rw [show noFnC _ = true from ha105.noFn]; exact (L1363.bk.rc rfl)), ?_⟩
  obtain ⟨v1365, g1366, hp⟩ := bsome hp
  obtain ⟨n11, g1366i, g1366l, g1366⟩ := idx_some g1366
  obtain ⟨c1367, r1368, h1369⟩ := h1357.rdS g1366
  refine ⟨n11, g1366i, (by first | exact g1366l | (rw [h1357.slLen]; exact g1366l)), _, (r1368 _ S1360.sub), trivial, _, L1363.bk.rc rfl, trivial, trivial, _, L1364.bk.rc rfl, ?_⟩
  obtain ⟨r1370, g1371, hp⟩ := bsome hp
  refine s_bsearch (l := t.Counts) (x := h.Count) S1360.pre ha104 g1371 fun m16 e1374 => ?_
  obtain ⟨S1372, k1373⟩ := S1360.call e1374 τ1350
  have L1375 := L1363.k k1373 (by decide)
  have L1376 := L1364.k k1373 (by decide)
  refine ⟨_, _, rfl, ?_⟩
  rw [ifB_iff]
  refine ⟨fun q1377 => ?_, fun q1377 => ?_⟩
  · skip
    rw [if_pos q1377] at hp
    obtain ⟨x1378, g1379, hp⟩ := bsome hp
    obtain ⟨n19, g1379i, g1379l, g1379⟩ := idx_some g1379
    refine ⟨n19, g1379i, (by first | exact g1379l | (rw [h1369.slLen]; exact g1379l)), _, (h1369.rdI g1379 S1372.sub), ?_⟩
    obtain rfl := Option.some.inj hp
    exact hq _ S1372.ext'
  · skip
    rw [bif_neg q1377] at hp
    refine ⟨trivial, _, L1375.bk.rc rfl, ?_⟩
    obtain ⟨g1380, hp⟩ := gd_some hp
    refine ⟨g1380, ?_⟩
    obtain ⟨x1381, g1382, hp⟩ := bsome hp
    obtain ⟨n22, g1382i, g1382l, g1382⟩ := idx_some g1382
    refine ⟨n22, g1382i, (by first | exact g1382l | (rw [ha104.slLen]; exact g1382l)), _, (ha104.rdI g1382 S1372.sub), trivial, _, L1375.bk.rc rfl, ?_⟩
    obtain ⟨x1383, g1384, hp⟩ := bsome hp
    obtain ⟨n25, g1384i, g1384l, g1384⟩ := idx_some g1384
    refine ⟨n25, g1384i, (by first | exact g1384l | (rw [ha104.slLen]; exact g1384l)), _, (ha104.rdI g1384 S1372.sub), ?_⟩
    obtain ⟨g1385, hp⟩ := gd_some hp
    refine ⟨g1385, ?_⟩
    obtain ⟨x1386, g1387, hp⟩ := bsome hp
    obtain ⟨n27, g1387i, g1387l, g1387⟩ := idx_some g1387
    refine ⟨n27, g1387i, (by first | exact g1387l | (rw [h1369.slLen]; exact g1387l)), _, (h1369.rdI g1387 S1372.sub), trivial, trivial, _, L1376.bk.rc rfl, ?_⟩
    obtain ⟨g1388, hp⟩ := gd_some hp
    refine ⟨g1388, ?_⟩
    obtain ⟨g1389, hp⟩ := gd_some hp
    refine ⟨g1389, ?_⟩
    obtain ⟨g1390, hp⟩ := gd_some hp
    refine ⟨g1390, ?_⟩
    obtain ⟨g1391, hp⟩ := gd_some hp
    refine ⟨g1391, ?_⟩
    obtain ⟨x1392, g1393, hp⟩ := bsome hp
    obtain ⟨n30, g1393i, g1393l, g1393⟩ := idx_some g1393
    refine ⟨n30, g1393i, (by first | exact g1393l | (rw [h1369.slLen]; exact g1393l)), _, (h1369.rdI g1393 S1372.sub), trivial, trivial, _, L1376.bk.rc rfl, ?_⟩
    obtain ⟨g1394, hp⟩ := gd_some hp
    refine ⟨g1394, ?_⟩
    obtain ⟨g1395, hp⟩ := gd_some hp
    refine ⟨g1395, ?_⟩
    obtain ⟨g1396, hp⟩ := gd_some hp
    refine ⟨g1396, ?_⟩
    obtain ⟨g1397, hp⟩ := gd_some hp
    refine ⟨g1397, ?_⟩
    obtain ⟨g1398, hp⟩ := gd_some hp
    refine ⟨g1398, ?_⟩
    obtain ⟨g1399, hp⟩ := gd_some hp
    refine ⟨g1399, ?_⟩
    obtain ⟨g1400, hp⟩ := gd_some hp
    refine ⟨g1400, ?_⟩
    obtain ⟨g1401, hp⟩ := gd_some hp
    refine ⟨g1401, ?_⟩
    obtain ⟨g1402, hp⟩ := gd_some hp
    refine ⟨g1402, ?_⟩
    obtain rfl := Option.some.inj hp
    exact hq _ S1372.ext'
theorem s_minimum {l : List Int} {ca100 : C} {m f : M} {Q : V → M → Prop} {rz : Int} (hS : Pre f m) (ha100 : Sl f ca100 l) (hp : pminimum l = some rz) (hq : ∀ m', Ext m m' → Q (.c (.int .i64 rz)) m') : Wc prog tbl 91 [.c ca100] m Q := by
  have S0 := hS.st
  obtain ⟨τ0, _⟩ : ∃ τ : Nat → Nat, True := ⟨fun _ => 0, trivial⟩
  refine w91 ?_
  unfold pminimum at hp
  refine ⟨ha100.isSl, ?_⟩
  try rw [ha100.slLen]
  rw [ifB_dec]
  refine ⟨fun q1403 => ?_, fun q1403 => ?_⟩
  · skip
    rw [if_pos q1403] at hp
    obtain rfl := Option.some.inj hp
    exact hq _ S0.ext'
  · skip
    rw [if_neg q1403] at hp
    obtain ⟨x1404, g1405, hp⟩ := bsome hp
    obtain ⟨n0, g1405i, g1405l, g1405⟩ := idx_some g1405
    refine ⟨n0, g1405i, (by first | exact g1405l | (rw [ha100.slLen]; exact g1405l)), _, (ha100.rdI g1405 S0.sub), ha100.isSl, ?_⟩
    intro R2 hR2
    have hgo : ∀ (d1408 : Nat) (x3 : Int) (x4 : Int) (m5 : M) (τ1407 : Nat → Nat), St (Fm.of m) f f m5 → pminimum_L0 l d1408 x3 x4 = some rz → R2 [.c (.int .i64 x3), .c (.int .i64 x4)] m5 := by
      intro d1408
      induction d1408 with
      | zero => intro x3 x4 m5 τ1407 S1406 hp; cases hp
      | succ d1408 ihR2 =>
        intro x3 x4 m5 τ1407 S1406 hp
        refine hR2 _ _ _ ?_
        rw [pminimum_L0] at hp
        try rw [ha100.slLen]
        rw [ifB_dec]
        refine ⟨fun q1409 => ?_, fun q1409 => ?_⟩
        · skip
          rw [if_pos q1409] at hp
          obtain ⟨x1410, g1411, hp⟩ := bsome hp
          obtain ⟨n6, g1411i, g1411l, g1411⟩ := idx_some g1411
          refine ⟨n6, g1411i, (by first | exact g1411l | (rw [ha100.slLen]; exact g1411l)), _, (ha100.rdI g1411 S1406.sub), ?_⟩
          rw [ifB_dec]
          refine ⟨fun q1412 => ?_, fun q1412 => ?_⟩
          · skip
            rw [if_pos q1412] at hp
            obtain ⟨g1413, hp⟩ := gd_some hp
            refine ⟨g1413, ?_⟩
            exact ihR2 _ _ _ τ1407 S1406 hp
          · skip
            rw [if_neg q1412] at hp
            obtain ⟨g1414, hp⟩ := gd_some hp
            refine ⟨g1414, ?_⟩
            exact ihR2 _ _ _ τ1407 S1406 hp
        · skip
          rw [if_neg q1409] at hp
          obtain rfl := Option.some.inj hp
          exact hq _ S1406.ext'
    exact hgo _ _ _ _ τ0 S0 hp
theorem s_sMax {l : List Int} {ca100 : C} {m f : M} {Q : V → M → Prop} {rz : Int} (hS : Pre f m) (ha100 : Sl f ca100 l) (hp : psMax l = some rz) (hq : ∀ m', Ext m m' → Q (.c (.int .i64 rz)) m') : Wc prog tbl 92 [.c ca100] m Q := by
  have S0 := hS.st
  obtain ⟨τ0, _⟩ : ∃ τ : Nat → Nat, True := ⟨fun _ => 0, trivial⟩
  refine w92 ?_
  unfold psMax at hp
  refine ⟨ha100.isSl, ?_⟩
  try rw [ha100.slLen]
  rw [ifB_dec]
  refine ⟨fun q1415 => ?_, fun q1415 => ?_⟩
  · skip
    rw [if_pos q1415] at hp
    cases hp
  · skip
    rw [if_neg q1415] at hp
    obtain ⟨x1416, g1417, hp⟩ := bsome hp
    obtain ⟨n0, g1417i, g1417l, g1417⟩ := idx_some g1417
    refine ⟨n0, g1417i, (by first | exact g1417l | (rw [ha100.slLen]; exact g1417l)), _, (ha100.rdI g1417 S0.sub), ?_⟩
    intro R2 hR2
    have hgo : ∀ (d1420 : Nat) (x3 : Int) (x4 : Int) (m5 : M) (τ1419 : Nat → Nat), St (Fm.of m) f f m5 → psMax_L0 l d1420 x3 x4 = some rz → R2 [.c (.int .i64 x3), .c (.int .i64 x4)] m5 := by
      intro d1420
      induction d1420 with
      | zero => intro x3 x4 m5 τ1419 S1418 hp; cases hp
      | succ d1420 ihR2 =>
        intro x3 x4 m5 τ1419 S1418 hp
        refine hR2 _ _ _ ?_
        rw [psMax_L0] at hp
        refine ⟨ha100.isSl, ?_⟩
        try rw [ha100.slLen]
        rw [ifB_dec]
        refine ⟨fun q1421 => ?_, fun q1421 => ?_⟩
        · skip
          rw [if_pos q1421] at hp
          obtain ⟨x1422, g1423, hp⟩ := bsome hp
          obtain ⟨n6, g1423i, g1423l, g1423⟩ := idx_some g1423
          refine ⟨n6, g1423i, (by first | exact g1423l | (rw [ha100.slLen]; exact g1423l)), _, (ha100.rdI g1423 S1418.sub), ?_⟩
          obtain ⟨g1424, hp⟩ := gd_some hp
          refine ⟨g1424, ?_⟩
          exact ihR2 _ _ _ τ1419 S1418 hp
        · skip
          rw [if_neg q1421] at hp
          obtain rfl := Option.some.inj hp
          exact hq _ S1418.ext'
    exact hgo _ _ _ _ τ0 S0 hp
theorem s_eachTf1 {x : Tf} {passes : Tf → Option (Bool)} {b0 : Nat} {ca103 ca104 ca105 cb000 : C} {m f : M} {Q : V → M → Prop} {rz : Bool} (hS : Pre f m) (ha103 : Sl f ca103 x.Weeks) (ha104 : Sl f ca104 x.Counts) (ha105 : Sl f ca105 x.Rates) (hb0 : Bk f b0 1 [cb000]) (hb000 : Fv_Tf_Bool f cb000 passes) (hp : peachTf1 x passes = some rz) (hq : ∀ m', Ext m m' → Q (.c (.bool rz)) m') : Wc prog tbl 104 [.agg 6 [(.int .i64 x.From), (.bool x.Whole), (.int .i64 x.Least), ca103, ca104, ca105], .c (.ptr b0 0)] m Q := by
  have S0 := hS.st
  obtain ⟨τ0, _⟩ : ∃ τ : Nat → Nat, True := ⟨fun _ => 0, trivial⟩
  refine c104 ?_
  unfold peachTf1 at hp
  intro m0 e1425
  obtain ⟨τ1428, S1426, k1427, L1429⟩ := S0.blk e1425 τ0 1
  refine ⟨_, (hb0.sub S1426.sub).rc rfl, _, _, _, _, _, _, L1429.bk.ra, ?_⟩
  obtain ⟨r1430, g1431, hp⟩ := bsome hp
  refine hb000 _ _ _ _ _ _ _ _ (Sub.refl _) S1426.pre ha103 ha104 ha105 g1431 fun m9 e1434 => ?_
  obtain ⟨S1432, k1433⟩ := S1426.call e1434 τ1428
  have L1435 := L1429.k k1433 (by decide)
  refine ⟨_, rfl, ?_⟩
  obtain rfl := Option.some.inj hp
  exact hq _ S1432.ext'
theorem s_indexTf {l : List Tf} {p : Tf → Option (Bool)} {ca100 ca200 : C} {m f : M} {Q : V → M → Prop} {rz : Int} (hS : Pre f m) (ha100 : Sl f ca100 l) (ha200 : Fv_Tf_Bool f ca200 p) (hp : pindexTf l p = some rz) (hq : ∀ m', Ext m m' → Q (.c (.int .i64 rz)) m') : Wc prog tbl 119 [.c ca100, .c ca200] m Q := by
  have S0 := hS.st
  obtain ⟨τ0, _⟩ : ∃ τ : Nat → Nat, True := ⟨fun _ => 0, trivial⟩
  refine w119 ?_
  unfold pindexTf at hp
  refine ⟨ha100.isSl, ?_⟩
  intro R0 hR0
  have hgo : ∀ (d1438 : Nat) (x1 : Int) (x2 : Int) (m3 : M) (τ1437 : Nat → Nat), St (Fm.of m) f f m3 → pindexTf_L0 l p d1438 x2 = some rz → R0 [.c (.int .i64 x1), .c (.int .i64 x2)] m3 := by
    intro d1438
    induction d1438 with
    | zero => intro x1 x2 m3 τ1437 S1436 hp; cases hp
    | succ d1438 ihR0 =>
      intro x1 x2 m3 τ1437 S1436 hp
      refine hR0 _ _ _ ?_
      rw [pindexTf_L0] at hp
      try rw [ha100.slLen]
      rw [ifB_dec]
      refine ⟨fun q1439 => ?_, fun q1439 => ?_⟩
      · skip
        rw [if_pos q1439] at hp
        obtain ⟨v1440, g1441, hp⟩ := bsome hp
        obtain ⟨n4, g1441i, g1441l, g1441⟩ := idx_some g1441
        obtain ⟨c1442, c1444, c1446, r1448, h1443, h1445, h1447⟩ := rd_Tf ha100 g1441
        refine ⟨n4, g1441i, (by first | exact g1441l | (rw [ha100.slLen]; exact g1441l)), _, _, _, _, _, _, (r1448 _ S1436.sub).1, ?_⟩
        obtain ⟨r1449, g1450, hp⟩ := bsome hp
        refine ha200 _ _ _ _ _ _ _ _ (Sub.refl _) S1436.pre h1443 h1445 h1447 g1450 fun m12 e1453 => ?_
        obtain ⟨S1451, k1452⟩ := S1436.call e1453 τ1437
        refine ⟨_, rfl, ?_⟩
        rw [ifB_iff]
        refine ⟨fun q1454 => ?_, fun q1454 => ?_⟩
        · skip
          rw [if_pos q1454] at hp
          obtain rfl := Option.some.inj hp
          exact hq _ S1451.ext'
        · skip
          rw [bif_neg q1454] at hp
          obtain ⟨g1455, hp⟩ := gd_some hp
          refine ⟨g1455, ?_⟩
          exact ihR0 _ _ _ τ1437 S1451 hp
      · skip
        rw [if_neg q1439] at hp
        obtain rfl := Option.some.inj hp
        exact hq _ S1436.ext'
  exact hgo _ _ _ _ τ0 S0 hp
theorem s_containsTf {l : List Tf} {p : Tf → Option (Bool)} {ca100 ca200 : C} {m f : M} {Q : V → M → Prop} {rz : Bool} (hS : Pre f m) (ha100 : Sl f ca100 l) (ha200 : Fv_Tf_Bool f ca200 p) (hp : pcontainsTf l p = some rz) (hq : ∀ m', Ext m m' → Q (.c (.bool rz)) m') : Wc prog tbl 103 [.c ca100, .c ca200] m Q := by
  have S0 := hS.st
  obtain ⟨τ0, _⟩ : ∃ τ : Nat → Nat, True := ⟨fun _ => 0, trivial⟩
  refine w103 ?_
  unfold pcontainsTf at hp
  obtain ⟨r1456, g1457, hp⟩ := bsome hp
  refine s_indexTf (l := l) (p := p) S0.pre ha100 ha200 g1457 fun m1 e1460 => ?_
  obtain ⟨S1458, k1459⟩ := S0.call e1460 τ0
  refine ⟨_, rfl, ?_⟩
  obtain rfl := Option.some.inj hp
  exact hq _ S1458.ext'
theorem s_eachTf {l : List Tf} {passes : Tf → Option (Bool)} {ca100 ca200 : C} {m f : M} {Q : V → M → Prop} {rz : Bool} (hS : Pre f m) (ha100 : Sl f ca100 l) (ha200 : Fv_Tf_Bool f ca200 passes) (hp : peachTf l passes = some rz) (hq : ∀ m', Ext m m' → Q (.c (.bool rz)) m') : Wc prog tbl 84 [.c ca100, .c ca200] m Q := by
  have S0 := hS.st
  obtain ⟨τ0, _⟩ : ∃ τ : Nat → Nat, True := ⟨fun _ => 0, trivial⟩
  refine w84 ?_
  unfold peachTf at hp
  intro m0 e1461
  obtain ⟨τ1464, S1462, k1463, L1465⟩ := S0.blk e1461 τ0 1
  obtain ⟨f1466, S1467, k1468, hb1469⟩ := L1465.freeze S1462
  have hF1477 : Fv_Tf_Bool f1466 ((C.fn (Fn.func 104) [] [(W.c (C0.ptr m.nxt 0))])) (fun a1470 => peachTf1 a1470 passes) := by
    intro f' m' a1470 c1471 c1473 c1475 r Q hs hpre h1472 h1474 h1476 hg hq
    exact s_eachTf1 hpre h1472 h1474 h1476 (hb1469.sub hs) ((ha200.sub k1468.fs).sub hs) hg hq
  obtain ⟨r1478, g1479, hp⟩ := bsome hp
  refine s_containsTf (l := l) (p := (fun a1470 => peachTf1 a1470 passes)) S1467.pre (ha100.sub k1468.fs) hF1477 g1479 fun m2 e1482 => ?_
  obtain ⟨S1480, k1481⟩ := S1467.call e1482 τ1464
  refine ⟨_, rfl, ?_⟩
  obtain rfl := Option.some.inj hp
  exact hq _ S1480.ext'
theorem s_indexTfs {l : List Tf} {p : Tf → Option (Bool)} {ca100 ca200 : C} {m f : M} {Q : V → M → Prop} {rz : Int} (hS : Pre f m) (ha100 : Sl f ca100 l) (ha200 : Fv_Tf_Bool f ca200 p) (hp : pindexTfs l p = some rz) (hq : ∀ m', Ext m m' → Q (.c (.int .i64 rz)) m') : Wc prog tbl 102 [.c ca100, .c ca200] m Q := by
  have S0 := hS.st
  obtain ⟨τ0, _⟩ : ∃ τ : Nat → Nat, True := ⟨fun _ => 0, trivial⟩
  refine w102 ?_
  unfold pindexTfs at hp
  refine ⟨ha100.isSl, ?_⟩
  intro R0 hR0
  have hgo : ∀ (d1485 : Nat) (x1 : Int) (x2 : Int) (m3 : M) (τ1484 : Nat → Nat), St (Fm.of m) f f m3 → pindexTfs_L0 l p d1485 x2 = some rz → R0 [.c (.int .i64 x1), .c (.int .i64 x2)] m3 := by
    intro d1485
    induction d1485 with
    | zero => intro x1 x2 m3 τ1484 S1483 hp; cases hp
    | succ d1485 ihR0 =>
      intro x1 x2 m3 τ1484 S1483 hp
      refine hR0 _ _ _ ?_
      rw [pindexTfs_L0] at hp
      try rw [ha100.slLen]
      rw [ifB_dec]
      refine ⟨fun q1486 => ?_, fun q1486 => ?_⟩
      · skip
        rw [if_pos q1486] at hp
        obtain ⟨v1487, g1488, hp⟩ := bsome hp
        obtain ⟨n4, g1488i, g1488l, g1488⟩ := idx_some g1488
        obtain ⟨c1489, c1491, c1493, r1495, h1490, h1492, h1494⟩ := rd_Tf ha100 g1488
        refine ⟨n4, g1488i, (by first | exact g1488l | (rw [ha100.slLen]; exact g1488l)), _, _, _, _, _, _, (r1495 _ S1483.sub).1, ?_⟩
        obtain ⟨r1496, g1497, hp⟩ := bsome hp
        refine ha200 _ _ _ _ _ _ _ _ (Sub.refl _) S1483.pre h1490 h1492 h1494 g1497 fun m12 e1500 => ?_
        obtain ⟨S1498, k1499⟩ := S1483.call e1500 τ1484
        refine ⟨_, rfl, ?_⟩
        rw [ifB_iff]
        refine ⟨fun q1501 => ?_, fun q1501 => ?_⟩
        · skip
          rw [if_pos q1501] at hp
          obtain rfl := Option.some.inj hp
          exact hq _ S1498.ext'
        · skip
          rw [bif_neg q1501] at hp
          obtain ⟨g1502, hp⟩ := gd_some hp
          refine ⟨g1502, ?_⟩
          exact ihR0 _ _ _ τ1484 S1498 hp
      · skip
        rw [if_neg q1486] at hp
        obtain rfl := Option.some.inj hp
        exact hq _ S1483.ext'
  exact hgo _ _ _ _ τ0 S0 hp
theorem s_containsTfs {l : List Tf} {p : Tf → Option (Bool)} {ca100 ca200 : C} {m f : M} {Q : V → M → Prop} {rz : Bool} (hS : Pre f m) (ha100 : Sl f ca100 l) (ha200 : Fv_Tf_Bool f ca200 p) (hp : pcontainsTfs l p = some rz) (hq : ∀ m', Ext m m' → Q (.c (.bool rz)) m') : Wc prog tbl 82 [.c ca100, .c ca200] m Q := by
  have S0 := hS.st
  obtain ⟨τ0, _⟩ : ∃ τ : Nat → Nat, True := ⟨fun _ => 0, trivial⟩
  refine w82 ?_
  unfold pcontainsTfs at hp
  obtain ⟨r1503, g1504, hp⟩ := bsome hp
  refine s_indexTfs (l := l) (p := p) S0.pre ha100 ha200 g1504 fun m1 e1507 => ?_
  obtain ⟨S1505, k1506⟩ := S0.call e1507 τ0
  refine ⟨_, rfl, ?_⟩
  obtain rfl := Option.some.inj hp
  exact hq _ S1505.ext'
theorem s_eachCl1 {x : Clm} {passes : Clm → Option (Bool)} {b0 : Nat} {cb000 : C} {m f : M} {Q : V → M → Prop} {rz : Bool} (hS : Pre f m) (hb0 : Bk f b0 1 [cb000]) (hb000 : Fv_Clm_Bool f cb000 passes) (hp : peachCl1 x passes = some rz) (hq : ∀ m', Ext m m' → Q (.c (.bool rz)) m') : Wc prog tbl 110 [.agg 6 [(.int .i64 x.Crop), (.int .i64 x.Value), (.int .i64 x.Day.Lo), (.int .i64 x.Day.Hi), (.int .i64 x.Count.Lo), (.int .i64 x.Count.Hi)], .c (.ptr b0 0)] m Q := by
  have S0 := hS.st
  obtain ⟨τ0, _⟩ : ∃ τ : Nat → Nat, True := ⟨fun _ => 0, trivial⟩
  refine c110 ?_
  unfold peachCl1 at hp
  intro m0 e1508
  obtain ⟨τ1511, S1509, k1510, L1512⟩ := S0.blk e1508 τ0 1
  refine ⟨_, (hb0.sub S1509.sub).rc rfl, _, _, _, _, _, _, L1512.bk.ra, ?_⟩
  obtain ⟨r1513, g1514, hp⟩ := bsome hp
  refine hb000 _ _ _ _ _ (Sub.refl _) S1509.pre  g1514 fun m9 e1517 => ?_
  obtain ⟨S1515, k1516⟩ := S1509.call e1517 τ1511
  have L1518 := L1512.k k1516 (by decide)
  refine ⟨_, rfl, ?_⟩
  obtain rfl := Option.some.inj hp
  exact hq _ S1515.ext'
theorem s_indexCl {l : List Clm} {p : Clm → Option (Bool)} {ca100 ca200 : C} {m f : M} {Q : V → M → Prop} {rz : Int} (hS : Pre f m) (ha100 : Sl f ca100 l) (ha200 : Fv_Clm_Bool f ca200 p) (hp : pindexCl l p = some rz) (hq : ∀ m', Ext m m' → Q (.c (.int .i64 rz)) m') : Wc prog tbl 126 [.c ca100, .c ca200] m Q := by
  have S0 := hS.st
  obtain ⟨τ0, _⟩ : ∃ τ : Nat → Nat, True := ⟨fun _ => 0, trivial⟩
  refine w126 ?_
  unfold pindexCl at hp
  refine ⟨ha100.isSl, ?_⟩
  intro R0 hR0
  have hgo : ∀ (d1521 : Nat) (x1 : Int) (x2 : Int) (m3 : M) (τ1520 : Nat → Nat), St (Fm.of m) f f m3 → pindexCl_L0 l p d1521 x2 = some rz → R0 [.c (.int .i64 x1), .c (.int .i64 x2)] m3 := by
    intro d1521
    induction d1521 with
    | zero => intro x1 x2 m3 τ1520 S1519 hp; cases hp
    | succ d1521 ihR0 =>
      intro x1 x2 m3 τ1520 S1519 hp
      refine hR0 _ _ _ ?_
      rw [pindexCl_L0] at hp
      try rw [ha100.slLen]
      rw [ifB_dec]
      refine ⟨fun q1522 => ?_, fun q1522 => ?_⟩
      · skip
        rw [if_pos q1522] at hp
        obtain ⟨v1523, g1524, hp⟩ := bsome hp
        obtain ⟨n4, g1524i, g1524l, g1524⟩ := idx_some g1524
        obtain ⟨_, r1525⟩ := rd_Clm ha100 g1524
        refine ⟨n4, g1524i, (by first | exact g1524l | (rw [ha100.slLen]; exact g1524l)), _, _, _, _, _, _, (r1525 _ S1519.sub).1, ?_⟩
        obtain ⟨r1526, g1527, hp⟩ := bsome hp
        refine ha200 _ _ _ _ _ (Sub.refl _) S1519.pre  g1527 fun m12 e1530 => ?_
        obtain ⟨S1528, k1529⟩ := S1519.call e1530 τ1520
        refine ⟨_, rfl, ?_⟩
        rw [ifB_iff]
        refine ⟨fun q1531 => ?_, fun q1531 => ?_⟩
        · skip
          rw [if_pos q1531] at hp
          obtain rfl := Option.some.inj hp
          exact hq _ S1528.ext'
        · skip
          rw [bif_neg q1531] at hp
          obtain ⟨g1532, hp⟩ := gd_some hp
          refine ⟨g1532, ?_⟩
          exact ihR0 _ _ _ τ1520 S1528 hp
      · skip
        rw [if_neg q1522] at hp
        obtain rfl := Option.some.inj hp
        exact hq _ S1519.ext'
  exact hgo _ _ _ _ τ0 S0 hp
theorem s_containsCl {l : List Clm} {p : Clm → Option (Bool)} {ca100 ca200 : C} {m f : M} {Q : V → M → Prop} {rz : Bool} (hS : Pre f m) (ha100 : Sl f ca100 l) (ha200 : Fv_Clm_Bool f ca200 p) (hp : pcontainsCl l p = some rz) (hq : ∀ m', Ext m m' → Q (.c (.bool rz)) m') : Wc prog tbl 109 [.c ca100, .c ca200] m Q := by
  have S0 := hS.st
  obtain ⟨τ0, _⟩ : ∃ τ : Nat → Nat, True := ⟨fun _ => 0, trivial⟩
  refine w109 ?_
  unfold pcontainsCl at hp
  obtain ⟨r1533, g1534, hp⟩ := bsome hp
  refine s_indexCl (l := l) (p := p) S0.pre ha100 ha200 g1534 fun m1 e1537 => ?_
  obtain ⟨S1535, k1536⟩ := S0.call e1537 τ0
  refine ⟨_, rfl, ?_⟩
  obtain rfl := Option.some.inj hp
  exact hq _ S1535.ext'
theorem s_eachCl {l : List Clm} {passes : Clm → Option (Bool)} {ca100 ca200 : C} {m f : M} {Q : V → M → Prop} {rz : Bool} (hS : Pre f m) (ha100 : Sl f ca100 l) (ha200 : Fv_Clm_Bool f ca200 passes) (hp : peachCl l passes = some rz) (hq : ∀ m', Ext m m' → Q (.c (.bool rz)) m') : Wc prog tbl 89 [.c ca100, .c ca200] m Q := by
  have S0 := hS.st
  obtain ⟨τ0, _⟩ : ∃ τ : Nat → Nat, True := ⟨fun _ => 0, trivial⟩
  refine w89 ?_
  unfold peachCl at hp
  intro m0 e1538
  obtain ⟨τ1541, S1539, k1540, L1542⟩ := S0.blk e1538 τ0 1
  obtain ⟨f1543, S1544, k1545, hb1546⟩ := L1542.freeze S1539
  have hF1548 : Fv_Clm_Bool f1543 ((C.fn (Fn.func 110) [] [(W.c (C0.ptr m.nxt 0))])) (fun a1547 => peachCl1 a1547 passes) := by
    intro f' m' a1547 r Q hs hpre  hg hq
    exact s_eachCl1 hpre (hb1546.sub hs) ((ha200.sub k1545.fs).sub hs) hg hq
  obtain ⟨r1549, g1550, hp⟩ := bsome hp
  refine s_containsCl (l := l) (p := (fun a1547 => peachCl1 a1547 passes)) S1544.pre (ha100.sub k1545.fs) hF1548 g1550 fun m2 e1553 => ?_
  obtain ⟨S1551, k1552⟩ := S1544.call e1553 τ1541
  refine ⟨_, rfl, ?_⟩
  obtain rfl := Option.some.inj hp
  exact hq _ S1551.ext'
theorem s_eachI1 {x : Int} {passes : Int → Option (Bool)} {b0 : Nat} {cb000 : C} {m f : M} {Q : V → M → Prop} {rz : Bool} (hS : Pre f m) (hb0 : Bk f b0 1 [cb000]) (hb000 : Fv_Int_Bool f cb000 passes) (hp : peachI1 x passes = some rz) (hq : ∀ m', Ext m m' → Q (.c (.bool rz)) m') : Wc prog tbl 121 [.c (.int .i64 x), .c (.ptr b0 0)] m Q := by
  have S0 := hS.st
  obtain ⟨τ0, _⟩ : ∃ τ : Nat → Nat, True := ⟨fun _ => 0, trivial⟩
  refine c121 ?_
  unfold peachI1 at hp
  refine ⟨_, (hb0.sub S0.sub).rc rfl, ?_⟩
  obtain ⟨r1554, g1555, hp⟩ := bsome hp
  refine hb000 _ _ _ _ _ (Sub.refl _) S0.pre  g1555 fun m2 e1558 => ?_
  obtain ⟨S1556, k1557⟩ := S0.call e1558 τ0
  refine ⟨_, rfl, ?_⟩
  obtain rfl := Option.some.inj hp
  exact hq _ S1556.ext'
theorem s_indexI {l : List Int} {p : Int → Option (Bool)} {ca100 ca200 : C} {m f : M} {Q : V → M → Prop} {rz : Int} (hS : Pre f m) (ha100 : Sl f ca100 l) (ha200 : Fv_Int_Bool f ca200 p) (hp : pindexI l p = some rz) (hq : ∀ m', Ext m m' → Q (.c (.int .i64 rz)) m') : Wc prog tbl 131 [.c ca100, .c ca200] m Q := by
  have S0 := hS.st
  obtain ⟨τ0, _⟩ : ∃ τ : Nat → Nat, True := ⟨fun _ => 0, trivial⟩
  refine w131 ?_
  unfold pindexI at hp
  refine ⟨ha100.isSl, ?_⟩
  intro R0 hR0
  have hgo : ∀ (d1561 : Nat) (x1 : Int) (x2 : Int) (m3 : M) (τ1560 : Nat → Nat), St (Fm.of m) f f m3 → pindexI_L0 l p d1561 x2 = some rz → R0 [.c (.int .i64 x1), .c (.int .i64 x2)] m3 := by
    intro d1561
    induction d1561 with
    | zero => intro x1 x2 m3 τ1560 S1559 hp; cases hp
    | succ d1561 ihR0 =>
      intro x1 x2 m3 τ1560 S1559 hp
      refine hR0 _ _ _ ?_
      rw [pindexI_L0] at hp
      try rw [ha100.slLen]
      rw [ifB_dec]
      refine ⟨fun q1562 => ?_, fun q1562 => ?_⟩
      · skip
        rw [if_pos q1562] at hp
        obtain ⟨x1563, g1564, hp⟩ := bsome hp
        obtain ⟨n4, g1564i, g1564l, g1564⟩ := idx_some g1564
        refine ⟨n4, g1564i, (by first | exact g1564l | (rw [ha100.slLen]; exact g1564l)), _, (ha100.rdI g1564 S1559.sub), ?_⟩
        obtain ⟨r1565, g1566, hp⟩ := bsome hp
        refine ha200 _ _ _ _ _ (Sub.refl _) S1559.pre  g1566 fun m7 e1569 => ?_
        obtain ⟨S1567, k1568⟩ := S1559.call e1569 τ1560
        refine ⟨_, rfl, ?_⟩
        rw [ifB_iff]
        refine ⟨fun q1570 => ?_, fun q1570 => ?_⟩
        · skip
          rw [if_pos q1570] at hp
          obtain rfl := Option.some.inj hp
          exact hq _ S1567.ext'
        · skip
          rw [bif_neg q1570] at hp
          obtain ⟨g1571, hp⟩ := gd_some hp
          refine ⟨g1571, ?_⟩
          exact ihR0 _ _ _ τ1560 S1567 hp
      · skip
        rw [if_neg q1562] at hp
        obtain rfl := Option.some.inj hp
        exact hq _ S1559.ext'
  exact hgo _ _ _ _ τ0 S0 hp
theorem s_containsI {l : List Int} {p : Int → Option (Bool)} {ca100 ca200 : C} {m f : M} {Q : V → M → Prop} {rz : Bool} (hS : Pre f m) (ha100 : Sl f ca100 l) (ha200 : Fv_Int_Bool f ca200 p) (hp : pcontainsI l p = some rz) (hq : ∀ m', Ext m m' → Q (.c (.bool rz)) m') : Wc prog tbl 120 [.c ca100, .c ca200] m Q := by
  have S0 := hS.st
  obtain ⟨τ0, _⟩ : ∃ τ : Nat → Nat, True := ⟨fun _ => 0, trivial⟩
  refine w120 ?_
  unfold pcontainsI at hp
  obtain ⟨r1572, g1573, hp⟩ := bsome hp
  refine s_indexI (l := l) (p := p) S0.pre ha100 ha200 g1573 fun m1 e1576 => ?_
  obtain ⟨S1574, k1575⟩ := S0.call e1576 τ0
  refine ⟨_, rfl, ?_⟩
  obtain rfl := Option.some.inj hp
  exact hq _ S1574.ext'
theorem s_eachI {l : List Int} {passes : Int → Option (Bool)} {ca100 ca200 : C} {m f : M} {Q : V → M → Prop} {rz : Bool} (hS : Pre f m) (ha100 : Sl f ca100 l) (ha200 : Fv_Int_Bool f ca200 passes) (hp : peachI l passes = some rz) (hq : ∀ m', Ext m m' → Q (.c (.bool rz)) m') : Wc prog tbl 106 [.c ca100, .c ca200] m Q := by
  have S0 := hS.st
  obtain ⟨τ0, _⟩ : ∃ τ : Nat → Nat, True := ⟨fun _ => 0, trivial⟩
  refine w106 ?_
  unfold peachI at hp
  intro m0 e1577
  obtain ⟨τ1580, S1578, k1579, L1581⟩ := S0.blk e1577 τ0 1
  obtain ⟨f1582, S1583, k1584, hb1585⟩ := L1581.freeze S1578
  have hF1587 : Fv_Int_Bool f1582 ((C.fn (Fn.func 121) [] [(W.c (C0.ptr m.nxt 0))])) (fun a1586 => peachI1 a1586 passes) := by
    intro f' m' a1586 r Q hs hpre  hg hq
    exact s_eachI1 hpre (hb1585.sub hs) ((ha200.sub k1584.fs).sub hs) hg hq
  obtain ⟨r1588, g1589, hp⟩ := bsome hp
  refine s_containsI (l := l) (p := (fun a1586 => peachI1 a1586 passes)) S1583.pre (ha100.sub k1584.fs) hF1587 g1589 fun m2 e1592 => ?_
  obtain ⟨S1590, k1591⟩ := S1583.call e1592 τ1580
  refine ⟨_, rfl, ?_⟩
  obtain rfl := Option.some.inj hp
  exact hq _ S1590.ext'
theorem s_eachL1 {x : List Int} {passes : List Int → Option (Bool)} {b0 : Nat} {ca100 cb000 : C} {m f : M} {Q : V → M → Prop} {rz : Bool} (hS : Pre f m) (ha100 : Sl f ca100 x) (hb0 : Bk f b0 1 [cb000]) (hb000 : Fv_LInt_Bool f cb000 passes) (hp : peachL1 x passes = some rz) (hq : ∀ m', Ext m m' → Q (.c (.bool rz)) m') : Wc prog tbl 134 [.c ca100, .c (.ptr b0 0)] m Q := by
  have S0 := hS.st
  obtain ⟨τ0, _⟩ : ∃ τ : Nat → Nat, True := ⟨fun _ => 0, trivial⟩
  refine c134 ?_
  unfold peachL1 at hp
  refine ⟨_, (hb0.sub S0.sub).rc rfl, ?_⟩
  obtain ⟨r1593, g1594, hp⟩ := bsome hp
  refine hb000 _ _ _ _ _ _ (Sub.refl _) S0.pre ha100 g1594 fun m2 e1597 => ?_
  obtain ⟨S1595, k1596⟩ := S0.call e1597 τ0
  refine ⟨_, rfl, ?_⟩
  obtain rfl := Option.some.inj hp
  exact hq _ S1595.ext'
theorem s_indexL {l : List (List Int)} {p : List Int → Option (Bool)} {ca100 ca200 : C} {m f : M} {Q : V → M → Prop} {rz : Int} (hS : Pre f m) (ha100 : Sl f ca100 l) (ha200 : Fv_LInt_Bool f ca200 p) (hp : pindexL l p = some rz) (hq : ∀ m', Ext m m' → Q (.c (.int .i64 rz)) m') : Wc prog tbl 135 [.c ca100, .c ca200] m Q := by
  have S0 := hS.st
  obtain ⟨τ0, _⟩ : ∃ τ : Nat → Nat, True := ⟨fun _ => 0, trivial⟩
  refine w135 ?_
  unfold pindexL at hp
  refine ⟨ha100.isSl, ?_⟩
  intro R0 hR0
  have hgo : ∀ (d1600 : Nat) (x1 : Int) (x2 : Int) (m3 : M) (τ1599 : Nat → Nat), St (Fm.of m) f f m3 → pindexL_L0 l p d1600 x2 = some rz → R0 [.c (.int .i64 x1), .c (.int .i64 x2)] m3 := by
    intro d1600
    induction d1600 with
    | zero => intro x1 x2 m3 τ1599 S1598 hp; cases hp
    | succ d1600 ihR0 =>
      intro x1 x2 m3 τ1599 S1598 hp
      refine hR0 _ _ _ ?_
      rw [pindexL_L0] at hp
      try rw [ha100.slLen]
      rw [ifB_dec]
      refine ⟨fun q1601 => ?_, fun q1601 => ?_⟩
      · skip
        rw [if_pos q1601] at hp
        obtain ⟨v1602, g1603, hp⟩ := bsome hp
        obtain ⟨n4, g1603i, g1603l, g1603⟩ := idx_some g1603
        obtain ⟨c1604, r1605, h1606⟩ := ha100.rdS g1603
        refine ⟨n4, g1603i, (by first | exact g1603l | (rw [ha100.slLen]; exact g1603l)), _, (r1605 _ S1598.sub), ?_⟩
        obtain ⟨r1607, g1608, hp⟩ := bsome hp
        refine ha200 _ _ _ _ _ _ (Sub.refl _) S1598.pre h1606 g1608 fun m7 e1611 => ?_
        obtain ⟨S1609, k1610⟩ := S1598.call e1611 τ1599
        refine ⟨_, rfl, ?_⟩
        rw [ifB_iff]
        refine ⟨fun q1612 => ?_, fun q1612 => ?_⟩
        · skip
          rw [if_pos q1612] at hp
          obtain rfl := Option.some.inj hp
          exact hq _ S1609.ext'
        · skip
          rw [bif_neg q1612] at hp
          obtain ⟨g1613, hp⟩ := gd_some hp
          refine ⟨g1613, ?_⟩
          exact ihR0 _ _ _ τ1599 S1609 hp
      · skip
        rw [if_neg q1601] at hp
        obtain rfl := Option.some.inj hp
        exact hq _ S1598.ext'
  exact hgo _ _ _ _ τ0 S0 hp
theorem s_containsL {l : List (List Int)} {p : List Int → Option (Bool)} {ca100 ca200 : C} {m f : M} {Q : V → M → Prop} {rz : Bool} (hS : Pre f m) (ha100 : Sl f ca100 l) (ha200 : Fv_LInt_Bool f ca200 p) (hp : pcontainsL l p = some rz) (hq : ∀ m', Ext m m' → Q (.c (.bool rz)) m') : Wc prog tbl 133 [.c ca100, .c ca200] m Q := by
  have S0 := hS.st
  obtain ⟨τ0, _⟩ : ∃ τ : Nat → Nat, True := ⟨fun _ => 0, trivial⟩
  refine w133 ?_
  unfold pcontainsL at hp
  obtain ⟨r1614, g1615, hp⟩ := bsome hp
  refine s_indexL (l := l) (p := p) S0.pre ha100 ha200 g1615 fun m1 e1618 => ?_
  obtain ⟨S1616, k1617⟩ := S0.call e1618 τ0
  refine ⟨_, rfl, ?_⟩
  obtain rfl := Option.some.inj hp
  exact hq _ S1616.ext'
theorem s_eachL {l : List (List Int)} {passes : List Int → Option (Bool)} {ca100 ca200 : C} {m f : M} {Q : V → M → Prop} {rz : Bool} (hS : Pre f m) (ha100 : Sl f ca100 l) (ha200 : Fv_LInt_Bool f ca200 passes) (hp : peachL l passes = some rz) (hq : ∀ m', Ext m m' → Q (.c (.bool rz)) m') : Wc prog tbl 124 [.c ca100, .c ca200] m Q := by
  have S0 := hS.st
  obtain ⟨τ0, _⟩ : ∃ τ : Nat → Nat, True := ⟨fun _ => 0, trivial⟩
  refine w124 ?_
  unfold peachL at hp
  intro m0 e1619
  obtain ⟨τ1622, S1620, k1621, L1623⟩ := S0.blk e1619 τ0 1
  obtain ⟨f1624, S1625, k1626, hb1627⟩ := L1623.freeze S1620
  have hF1631 : Fv_LInt_Bool f1624 ((C.fn (Fn.func 134) [] [(W.c (C0.ptr m.nxt 0))])) (fun a1628 => peachL1 a1628 passes) := by
    intro f' m' a1628 c1629 r Q hs hpre h1630 hg hq
    exact s_eachL1 hpre h1630 (hb1627.sub hs) ((ha200.sub k1626.fs).sub hs) hg hq
  obtain ⟨r1632, g1633, hp⟩ := bsome hp
  refine s_containsL (l := l) (p := (fun a1628 => peachL1 a1628 passes)) S1625.pre (ha100.sub k1626.fs) hF1631 g1633 fun m2 e1636 => ?_
  obtain ⟨S1634, k1635⟩ := S1625.call e1636 τ1622
  refine ⟨_, rfl, ?_⟩
  obtain rfl := Option.some.inj hp
  exact hq _ S1634.ext'
theorem s_eachLL1 {x : List (List Int)} {passes : List (List Int) → Option (Bool)} {b0 : Nat} {ca100 cb000 : C} {m f : M} {Q : V → M → Prop} {rz : Bool} (hS : Pre f m) (ha100 : Sl f ca100 x) (hb0 : Bk f b0 1 [cb000]) (hb000 : Fv_LLInt_Bool f cb000 passes) (hp : peachLL1 x passes = some rz) (hq : ∀ m', Ext m m' → Q (.c (.bool rz)) m') : Wc prog tbl 123 [.c ca100, .c (.ptr b0 0)] m Q := by
  have S0 := hS.st
  obtain ⟨τ0, _⟩ : ∃ τ : Nat → Nat, True := ⟨fun _ => 0, trivial⟩
  refine c123 ?_
  unfold peachLL1 at hp
  refine ⟨_, (hb0.sub S0.sub).rc rfl, ?_⟩
  obtain ⟨r1637, g1638, hp⟩ := bsome hp
  refine hb000 _ _ _ _ _ _ (Sub.refl _) S0.pre ha100 g1638 fun m2 e1641 => ?_
  obtain ⟨S1639, k1640⟩ := S0.call e1641 τ0
  refine ⟨_, rfl, ?_⟩
  obtain rfl := Option.some.inj hp
  exact hq _ S1639.ext'
theorem s_indexLL {l : List (List (List Int))} {p : List (List Int) → Option (Bool)} {ca100 ca200 : C} {m f : M} {Q : V → M → Prop} {rz : Int} (hS : Pre f m) (ha100 : Sl f ca100 l) (ha200 : Fv_LLInt_Bool f ca200 p) (hp : pindexLL l p = some rz) (hq : ∀ m', Ext m m' → Q (.c (.int .i64 rz)) m') : Wc prog tbl 132 [.c ca100, .c ca200] m Q := by
  have S0 := hS.st
  obtain ⟨τ0, _⟩ : ∃ τ : Nat → Nat, True := ⟨fun _ => 0, trivial⟩
  refine w132 ?_
  unfold pindexLL at hp
  refine ⟨ha100.isSl, ?_⟩
  intro R0 hR0
  have hgo : ∀ (d1644 : Nat) (x1 : Int) (x2 : Int) (m3 : M) (τ1643 : Nat → Nat), St (Fm.of m) f f m3 → pindexLL_L0 l p d1644 x2 = some rz → R0 [.c (.int .i64 x1), .c (.int .i64 x2)] m3 := by
    intro d1644
    induction d1644 with
    | zero => intro x1 x2 m3 τ1643 S1642 hp; cases hp
    | succ d1644 ihR0 =>
      intro x1 x2 m3 τ1643 S1642 hp
      refine hR0 _ _ _ ?_
      rw [pindexLL_L0] at hp
      try rw [ha100.slLen]
      rw [ifB_dec]
      refine ⟨fun q1645 => ?_, fun q1645 => ?_⟩
      · skip
        rw [if_pos q1645] at hp
        obtain ⟨v1646, g1647, hp⟩ := bsome hp
        obtain ⟨n4, g1647i, g1647l, g1647⟩ := idx_some g1647
        obtain ⟨c1648, r1649, h1650⟩ := ha100.rdS g1647
        refine ⟨n4, g1647i, (by first | exact g1647l | (rw [ha100.slLen]; exact g1647l)), _, (r1649 _ S1642.sub), ?_⟩
        obtain ⟨r1651, g1652, hp⟩ := bsome hp
        refine ha200 _ _ _ _ _ _ (Sub.refl _) S1642.pre h1650 g1652 fun m7 e1655 => ?_
        obtain ⟨S1653, k1654⟩ := S1642.call e1655 τ1643
        refine ⟨_, rfl, ?_⟩
        rw [ifB_iff]
        refine ⟨fun q1656 => ?_, fun q1656 => ?_⟩
        · skip
          rw [if_pos q1656] at hp
          obtain rfl := Option.some.inj hp
          exact hq _ S1653.ext'
        · skip
          rw [bif_neg q1656] at hp
          obtain ⟨g1657, hp⟩ := gd_some hp
          refine ⟨g1657, ?_⟩
          exact ihR0 _ _ _ τ1643 S1653 hp
      · skip
        rw [if_neg q1645] at hp
        obtain rfl := Option.some.inj hp
        exact hq _ S1642.ext'
  exact hgo _ _ _ _ τ0 S0 hp
theorem s_containsLL {l : List (List (List Int))} {p : List (List Int) → Option (Bool)} {ca100 ca200 : C} {m f : M} {Q : V → M → Prop} {rz : Bool} (hS : Pre f m) (ha100 : Sl f ca100 l) (ha200 : Fv_LLInt_Bool f ca200 p) (hp : pcontainsLL l p = some rz) (hq : ∀ m', Ext m m' → Q (.c (.bool rz)) m') : Wc prog tbl 122 [.c ca100, .c ca200] m Q := by
  have S0 := hS.st
  obtain ⟨τ0, _⟩ : ∃ τ : Nat → Nat, True := ⟨fun _ => 0, trivial⟩
  refine w122 ?_
  unfold pcontainsLL at hp
  obtain ⟨r1658, g1659, hp⟩ := bsome hp
  refine s_indexLL (l := l) (p := p) S0.pre ha100 ha200 g1659 fun m1 e1662 => ?_
  obtain ⟨S1660, k1661⟩ := S0.call e1662 τ0
  refine ⟨_, rfl, ?_⟩
  obtain rfl := Option.some.inj hp
  exact hq _ S1660.ext'
theorem s_eachLL {l : List (List (List Int))} {passes : List (List Int) → Option (Bool)} {ca100 ca200 : C} {m f : M} {Q : V → M → Prop} {rz : Bool} (hS : Pre f m) (ha100 : Sl f ca100 l) (ha200 : Fv_LLInt_Bool f ca200 passes) (hp : peachLL l passes = some rz) (hq : ∀ m', Ext m m' → Q (.c (.bool rz)) m') : Wc prog tbl 107 [.c ca100, .c ca200] m Q := by
  have S0 := hS.st
  obtain ⟨τ0, _⟩ : ∃ τ : Nat → Nat, True := ⟨fun _ => 0, trivial⟩
  refine w107 ?_
  unfold peachLL at hp
  intro m0 e1663
  obtain ⟨τ1666, S1664, k1665, L1667⟩ := S0.blk e1663 τ0 1
  obtain ⟨f1668, S1669, k1670, hb1671⟩ := L1667.freeze S1664
  have hF1675 : Fv_LLInt_Bool f1668 ((C.fn (Fn.func 123) [] [(W.c (C0.ptr m.nxt 0))])) (fun a1672 => peachLL1 a1672 passes) := by
    intro f' m' a1672 c1673 r Q hs hpre h1674 hg hq
    exact s_eachLL1 hpre h1674 (hb1671.sub hs) ((ha200.sub k1670.fs).sub hs) hg hq
  obtain ⟨r1676, g1677, hp⟩ := bsome hp
  refine s_containsLL (l := l) (p := (fun a1672 => peachLL1 a1672 passes)) S1669.pre (ha100.sub k1670.fs) hF1675 g1677 fun m2 e1680 => ?_
  obtain ⟨S1678, k1679⟩ := S1669.call e1680 τ1666
  refine ⟨_, rfl, ?_⟩
  obtain rfl := Option.some.inj hp
  exact hq _ S1678.ext'
theorem s_within {r : Rg} {passes : Int → Option (Bool)} {ca200 : C} {m f : M} {Q : V → M → Prop} {rz : Bool} (hS : Pre f m) (ha200 : Fv_Int_Bool f ca200 passes) (hp : pwithin r passes = some rz) (hq : ∀ m', Ext m m' → Q (.c (.bool rz)) m') : Wc prog tbl 111 [.agg 2 [(.int .i64 r.Lo), (.int .i64 r.Hi)], .c ca200] m Q := by
  have S0 := hS.st
  obtain ⟨τ0, _⟩ : ∃ τ : Nat → Nat, True := ⟨fun _ => 0, trivial⟩
  refine w111 ?_
  unfold pwithin at hp
  intro m0 e1681
  obtain ⟨τ1684, S1682, k1683, L1685⟩ := S0.blk e1681 τ0 1
  refine ⟨trivial, _, L1685.bk.rc rfl, trivial, _, L1685.bk.rc rfl, ?_⟩
  rw [ifB_dec]
  refine ⟨fun q1686 => ?_, fun q1686 => ?_⟩
  · skip
    rw [if_pos q1686] at hp
    refine ⟨trivial, _, L1685.bk.rc rfl, ?_⟩
    obtain ⟨r1687, g1688, hp⟩ := bsome hp
    refine ha200 _ _ _ _ _ (Sub.refl _) S1682.pre  g1688 fun m5 e1691 => ?_
    obtain ⟨S1689, k1690⟩ := S1682.call e1691 τ1684
    have L1692 := L1685.k k1690 (by decide)
    refine ⟨_, rfl, ?_⟩
    rw [ifB_iff]
    refine ⟨fun q1693 => ?_, fun q1693 => ?_⟩
    · skip
      rw [if_pos q1693] at hp
      refine ⟨trivial, _, L1692.bk.rc rfl, ?_⟩
      obtain ⟨r1694, g1695, hp⟩ := bsome hp
      refine ha200 _ _ _ _ _ (Sub.refl _) S1689.pre  g1695 fun m9 e1698 => ?_
      obtain ⟨S1696, k1697⟩ := S1689.call e1698 τ1684
      have L1699 := L1692.k k1697 (by decide)
      refine ⟨_, rfl, ?_⟩
      obtain rfl := Option.some.inj hp
      exact hq _ S1696.ext'
    · skip
      rw [bif_neg q1693] at hp
      obtain rfl := Option.some.inj hp
      exact hq _ S1689.ext'
  · skip
    rw [if_neg q1686] at hp
    obtain rfl := Option.some.inj hp
    exact hq _ S1682.ext'
theorem s_validWeek {t : Tf} {rates : List Int} {ca103 ca104 ca105 ca200 : C} {m f : M} {Q : V → M → Prop} {rz : Bool} (hS : Pre f m) (ha103 : Sl f ca103 t.Weeks) (ha104 : Sl f ca104 t.Counts) (ha105 : Sl f ca105 t.Rates) (ha200 : Sl f ca200 rates) (hp : pvalidWeek t rates = some rz) (hq : ∀ m', Ext m m' → Q (.c (.bool rz)) m') : Wc prog tbl 125 [.agg 6 [(.int .i64 t.From), (.bool t.Whole), (.int .i64 t.Least), ca103, ca104, ca105], .c ca200] m Q := by
  have S0 := hS.st
  obtain ⟨τ0, _⟩ : ∃ τ : Nat → Nat, True := ⟨fun _ => 0, trivial⟩
  refine w125 ?_
  unfold pvalidWeek at hp
  intro m0 e1700
  obtain ⟨τ1703, S1701, k1702, L1704⟩ := S0.blk e1700 τ0 1
  refine ⟨ha200.isSl, trivial, _, L1704.bk.rc rfl, ha104.isSl, ?_⟩
  try rw [ha200.slLen]
  try rw [ha104.slLen]
  rw [ifB_dec]
  refine ⟨fun q1705 => ?_, fun q1705 => ?_⟩
  · skip
    rw [if_pos q1705] at hp
    have hF1707 : Fv_Int_Bool f ((C.fn (Fn.func 105) [] [])) (fun a1706 => pisHundredths a1706) := by
      intro f' m' a1706 r Q hs hpre  hg hq
      exact s_isHundredths hpre  hg hq
    obtain ⟨r1708, g1709, hp⟩ := bsome hp
    refine s_eachI (l := rates) (passes := (fun a1706 => pisHundredths a1706)) S1701.pre ha200 hF1707 g1709 fun m3 e1712 => ?_
    obtain ⟨S1710, k1711⟩ := S1701.call e1712 τ1703
    have L1713 := L1704.k k1711 (by decide)
    refine ⟨_, rfl, ?_⟩
    obtain rfl := Option.some.inj hp
    exact hq _ S1710.ext'
  · skip
    rw [if_neg q1705] at hp
    obtain rfl := Option.some.inj hp
    exact hq _ S1701.ext'
theorem s_validCrop {t : Tf} {weeks : List (List Int)} {ca103 ca104 ca105 ca200 : C} {m f : M} {Q : V → M → Prop} {rz : Bool} (hS : Pre f m) (ha103 : Sl f ca103 t.Weeks) (ha104 : Sl f ca104 t.Counts) (ha105 : Sl f ca105 t.Rates) (ha200 : Sl f ca200 weeks) (hp : pvalidCrop t weeks = some rz) (hq : ∀ m', Ext m m' → Q (.c (.bool rz)) m') : Wc prog tbl 108 [.agg 6 [(.int .i64 t.From), (.bool t.Whole), (.int .i64 t.Least), ca103, ca104, ca105], .c ca200] m Q := by
  have S0 := hS.st
  obtain ⟨τ0, _⟩ : ∃ τ : Nat → Nat, True := ⟨fun _ => 0, trivial⟩
  refine w108 ?_
  unfold pvalidCrop at hp
  intro m0 e1714
  obtain ⟨τ1717, S1715, k1716, L1718⟩ := S0.blk e1714 τ0 1
  refine ⟨ha200.isSl, trivial, _, L1718.bk.rc rfl, ha103.isSl, ?_⟩
  try rw [ha200.slLen]
  try rw [ha103.slLen]
  rw [ifB_dec]
  refine ⟨fun q1719 => ?_, fun q1719 => ?_⟩
  · skip
    rw [if_pos q1719] at hp
    refine ⟨_, _, _, _, _, _, L1718.bk.ra, ?_⟩
    obtain ⟨l8, wl8, el8⟩ : ∃ ws, mapO vW [.agg 6 [(.int .i64 t.From), (.bool t.Whole), (.int .i64 t.Least), ca103, ca104, ca105]] = some ws ∧ mapS wV ws = [.agg 6 [(.int .i64 t.From), (.bool t.Whole), (.int .i64 t.Least), ca103, ca104, ca105]] := (vWs_cons (vW_agg (nf_cons rfl (nf_cons rfl (nf_cons rfl (nf_cons ha103.noFn (nf_cons ha104.noFn (nf_cons ha105.noFn nf_nil))))))) vWs_nil)
    rw [wl8, optB_some]
    have hF1723 : Fv_LInt_Bool f ((C.fn (Fn.func 125) l8 [])) (fun a1720 => pvalidWeek t a1720) := by
      intro f' m' a1720 c1721 r Q hs hpre h1722 hg hq
      show Wc prog tbl 125 (appS (mapS wV l8) _) m' Q
      rw [el8]
      exact s_validWeek hpre (ha103.sub hs) (ha104.sub hs) (ha105.sub hs) h1722 hg hq
    obtain ⟨r1724, g1725, hp⟩ := bsome hp
    refine s_eachL (l := weeks) (passes := (fun a1720 => pvalidWeek t a1720)) S1715.pre ha200 hF1723 g1725 fun m10 e1728 => ?_
    obtain ⟨S1726, k1727⟩ := S1715.call e1728 τ1717
    have L1729 := L1718.k k1727 (by decide)
    refine ⟨_, rfl, ?_⟩
    obtain rfl := Option.some.inj hp
    exact hq _ S1726.ext'
  · skip
    rw [if_neg q1719] at hp
    obtain rfl := Option.some.inj hp
    exact hq _ S1715.ext'
theorem s_tfValid {t : Tf} {ca103 ca104 ca105 : C} {m f : M} {Q : V → M → Prop} {rz : Bool} (hS : Pre f m) (ha103 : Sl f ca103 t.Weeks) (ha104 : Sl f ca104 t.Counts) (ha105 : Sl f ca105 t.Rates) (hp : ptfValid t = some rz) (hq : ∀ m', Ext m m' → Q (.c (.bool rz)) m') : Wc prog tbl 85 [.agg 6 [(.int .i64 t.From), (.bool t.Whole), (.int .i64 t.Least), ca103, ca104, ca105]] m Q := by
  have S0 := hS.st
  obtain ⟨τ0, _⟩ : ∃ τ : Nat → Nat, True := ⟨fun _ => 0, trivial⟩
  refine w85 ?_
  unfold ptfValid at hp
  intro m0 e1730
  obtain ⟨τ1733, S1731, k1732, L1734⟩ := S0.blk e1730 τ0 1
  refine ⟨trivial, _, L1734.bk.rc rfl, ?_⟩
  obtain ⟨r1735, g1736, hp⟩ := bsome hp
  refine s_isDay (n := t.From) S1731.pre  g1736 fun m3 e1739 => ?_
  obtain ⟨S1737, k1738⟩ := S1731.call e1739 τ1733
  have L1740 := L1734.k k1738 (by decide)
  refine ⟨_, rfl, ?_⟩
  rw [ifB_iff]
  refine ⟨fun q1741 => ?_, fun q1741 => ?_⟩
  · skip
    rw [if_pos q1741] at hp
    refine ⟨trivial, _, L1740.bk.rc rfl, ?_⟩
    obtain ⟨r1742, g1743, hp⟩ := bsome hp
    refine s_isHundredths (n := t.Least) S1737.pre  g1743 fun m7 e1746 => ?_
    obtain ⟨S1744, k1745⟩ := S1737.call e1746 τ1733
    have L1747 := L1740.k k1745 (by decide)
    refine ⟨_, rfl, ?_⟩
    rw [ifB_iff]
    refine ⟨fun q1748 => ?_, fun q1748 => ?_⟩
    · skip
      rw [if_pos q1748] at hp
      refine ⟨trivial, _, L1747.bk.rc rfl, ?_⟩
      obtain ⟨r1749, g1750, hp⟩ := bsome hp
      refine s_rises (l := t.Weeks) S1744.pre ha103 g1750 fun m11 e1753 => ?_
      obtain ⟨S1751, k1752⟩ := S1744.call e1753 τ1733
      have L1754 := L1747.k k1752 (by decide)
      refine ⟨_, rfl, ?_⟩
      rw [ifB_iff]
      refine ⟨fun q1755 => ?_, fun q1755 => ?_⟩
      · skip
        rw [if_pos q1755] at hp
        refine ⟨trivial, _, L1754.bk.rc rfl, ?_⟩
        have hF1757 : Fv_Int_Bool f ((C.fn (Fn.func 55) [] [])) (fun a1756 => pisDay a1756) := by
          intro f' m' a1756 r Q hs hpre  hg hq
          exact s_isDay hpre  hg hq
        obtain ⟨r1758, g1759, hp⟩ := bsome hp
        refine s_eachI (l := t.Weeks) (passes := (fun a1756 => pisDay a1756)) S1751.pre ha103 hF1757 g1759 fun m15 e1762 => ?_
        obtain ⟨S1760, k1761⟩ := S1751.call e1762 τ1733
        have L1763 := L1754.k k1761 (by decide)
        refine ⟨_, rfl, ?_⟩
        rw [ifB_iff]
        refine ⟨fun q1764 => ?_, fun q1764 => ?_⟩
        · skip
          rw [if_pos q1764] at hp
          refine ⟨trivial, _, L1763.bk.rc rfl, ?_⟩
          obtain ⟨r1765, g1766, hp⟩ := bsome hp
          refine s_rises (l := t.Counts) S1760.pre ha104 g1766 fun m19 e1769 => ?_
          obtain ⟨S1767, k1768⟩ := S1760.call e1769 τ1733
          have L1770 := L1763.k k1768 (by decide)
          refine ⟨_, rfl, ?_⟩
          rw [ifB_iff]
          refine ⟨fun q1771 => ?_, fun q1771 => ?_⟩
          · skip
            rw [if_pos q1771] at hp
            refine ⟨trivial, _, L1770.bk.rc rfl, trivial, _, L1770.bk.rc rfl, ha104.isSl, ?_⟩
            obtain ⟨g1772, hp⟩ := gd_some hp
            refine ⟨(by first | exact g1772 | (rw [ha104.slLen]; exact g1772)), ?_⟩
            obtain ⟨x1773, g1774, hp⟩ := bsome hp
            obtain ⟨n23, g1774i, g1774l, g1774⟩ := idx_some g1774
            refine ⟨n23, (by first | exact g1774i | (rw [ha104.slLen]; exact g1774i)), (by first | exact g1774l | (rw [ha104.slLen]; exact g1774l)), _, (ha104.rdI g1774 S1767.sub), ?_⟩
            rw [ifB_dec]
            refine ⟨fun q1775 => ?_, fun q1775 => ?_⟩
            · skip
              rw [if_pos q1775] at hp
              refine ⟨trivial, _, L1770.bk.rc rfl, ha105.isSl, ?_⟩
              try rw [ha105.slLen]
              rw [ifB_dec]
              refine ⟨fun q1776 => ?_, fun q1776 => ?_⟩
              · skip
                rw [if_pos q1776] at hp
                refine ⟨trivial, _, L1770.bk.rc rfl, _, _, _, _, _, _, L1770.bk.ra, ?_⟩
                obtain ⟨l33, wl33, el33⟩ : ∃ ws, mapO vW [.agg 6 [(.int .i64 t.From), (.bool t.Whole), (.int .i64 t.Least), ca103, ca104, ca105]] = some ws ∧ mapS wV ws = [.agg 6 [(.int .i64 t.From), (.bool t.Whole), (.int .i64 t.Least), ca103, ca104, ca105]] := (vWs_cons (vW_agg (nf_cons rfl (nf_cons rfl (nf_cons rfl (nf_cons ha103.noFn (nf_cons ha104.noFn (nf_cons ha105.noFn nf_nil))))))) vWs_nil)
                rw [wl33, optB_some]
                have hF1780 : Fv_LLInt_Bool f ((C.fn (Fn.func 108) l33 [])) (fun a1777 => pvalidCrop t a1777) := by
                  intro f' m' a1777 c1778 r Q hs hpre h1779 hg hq
                  show Wc prog tbl 108 (appS (mapS wV l33) _) m' Q
                  rw [el33]
                  exact s_validCrop hpre (ha103.sub hs) (ha104.sub hs) (ha105.sub hs) h1779 hg hq
                obtain ⟨r1781, g1782, hp⟩ := bsome hp
                refine s_eachLL (l := t.Rates) (passes := (fun a1777 => pvalidCrop t a1777)) S1767.pre ha105 hF1780 g1782 fun m35 e1785 => ?_
                obtain ⟨S1783, k1784⟩ := S1767.call e1785 τ1733
                have L1786 := L1770.k k1784 (by decide)
                refine ⟨_, rfl, ?_⟩
                obtain rfl := Option.some.inj hp
                exact hq _ S1783.ext'
              · skip
                rw [if_neg q1776] at hp
                obtain rfl := Option.some.inj hp
                exact hq _ S1767.ext'
            · skip
              rw [if_neg q1775] at hp
              obtain rfl := Option.some.inj hp
              exact hq _ S1767.ext'
          · skip
            rw [bif_neg q1771] at hp
            obtain rfl := Option.some.inj hp
            exact hq _ S1767.ext'
        · skip
          rw [bif_neg q1764] at hp
          obtain rfl := Option.some.inj hp
          exact hq _ S1760.ext'
      · skip
        rw [bif_neg q1755] at hp
        obtain rfl := Option.some.inj hp
        exact hq _ S1751.ext'
    · skip
      rw [bif_neg q1748] at hp
      obtain rfl := Option.some.inj hp
      exact hq _ S1744.ext'
  · skip
    rw [bif_neg q1741] at hp
    obtain rfl := Option.some.inj hp
    exact hq _ S1737.ext'
theorem s_tooMany {l : List Tf} {ca100 : C} {m f : M} {Q : V → M → Prop} {rz : Bool} (hS : Pre f m) (ha100 : Sl f ca100 l) (hp : ptooMany l = some rz) (hq : ∀ m', Ext m m' → Q (.c (.bool rz)) m') : Wc prog tbl 60 [.c ca100] m Q := by
  have S0 := hS.st
  obtain ⟨τ0, _⟩ : ∃ τ : Nat → Nat, True := ⟨fun _ => 0, trivial⟩
  refine w60 ?_
  unfold ptooMany at hp
  refine ⟨ha100.isSl, ?_⟩
  try rw [ha100.slLen]
  rw [ifB_dec]
  refine ⟨fun q1787 => ?_, fun q1787 => ?_⟩
  · skip
    rw [if_pos q1787] at hp
    obtain rfl := Option.some.inj hp
    exact hq _ S0.ext'
  · skip
    rw [if_neg q1787] at hp
    have hF1795 : Fv_Tf_Bool f ((C.fn (Fn.func 83) [] [])) (fun a1788 => ptfTooMany a1788) := by
      intro f' m' a1788 c1789 c1791 c1793 r Q hs hpre h1790 h1792 h1794 hg hq
      exact s_tfTooMany hpre h1790 h1792 h1794 hg hq
    obtain ⟨r1796, g1797, hp⟩ := bsome hp
    refine s_containsTfs (l := l) (p := (fun a1788 => ptfTooMany a1788)) S0.pre ha100 hF1795 g1797 fun m1 e1800 => ?_
    obtain ⟨S1798, k1799⟩ := S0.call e1800 τ0
    refine ⟨_, rfl, ?_⟩
    obtain rfl := Option.some.inj hp
    exact hq _ S1798.ext'
theorem s_tfsValid {l : List Tf} {ca100 : C} {m f : M} {Q : V → M → Prop} {rz : Bool} (hS : Pre f m) (ha100 : Sl f ca100 l) (hp : ptfsValid l = some rz) (hq : ∀ m', Ext m m' → Q (.c (.bool rz)) m') : Wc prog tbl 61 [.c ca100] m Q := by
  have S0 := hS.st
  obtain ⟨τ0, _⟩ : ∃ τ : Nat → Nat, True := ⟨fun _ => 0, trivial⟩
  refine w61 ?_
  unfold ptfsValid at hp
  have hF1808 : Fv_Tf_Bool f ((C.fn (Fn.func 85) [] [])) (fun a1801 => ptfValid a1801) := by
    intro f' m' a1801 c1802 c1804 c1806 r Q hs hpre h1803 h1805 h1807 hg hq
    exact s_tfValid hpre h1803 h1805 h1807 hg hq
  obtain ⟨r1809, g1810, hp⟩ := bsome hp
  refine s_eachTf (l := l) (passes := (fun a1801 => ptfValid a1801)) S0.pre ha100 hF1808 g1810 fun m1 e1813 => ?_
  obtain ⟨S1811, k1812⟩ := S0.call e1813 τ0
  refine ⟨_, rfl, ?_⟩
  rw [ifB_iff]
  refine ⟨fun q1814 => ?_, fun q1814 => ?_⟩
  · skip
    rw [if_pos q1814] at hp
    obtain ⟨r1815, g1816, hp⟩ := bsome hp
    refine s_froms (l := l) S1811.pre ha100 g1816 fun m4 f1820 c1821 e1819 h1822 => ?_
    obtain ⟨S1817, k1818⟩ := S1811.callG e1819 τ0
    refine ⟨_, rfl, ?_⟩
    obtain ⟨r1823, g1824, hp⟩ := bsome hp
    refine s_rises (l := r1815) S1817.pre h1822 g1824 fun m7 e1827 => ?_
    obtain ⟨S1825, k1826⟩ := S1817.call e1827 τ0
    refine ⟨_, rfl, ?_⟩
    rw [ifB_iff]
    refine ⟨fun q1828 => ?_, fun q1828 => ?_⟩
    · skip
      rw [if_pos q1828] at hp
      obtain ⟨l9, wl9, el9⟩ : ∃ ws, mapO vW [.c ca100] = some ws ∧ mapS wV ws = [.c ca100] := (vWs_cons (vW_c ha100.noFn) vWs_nil)
      rw [wl9, optB_some]
      have hF1836 : Fv_Tf_Bool f1820 ((C.fn (Fn.func 88) l9 [])) (fun a1829 => psameCrops l a1829) := by
        intro f' m' a1829 c1830 c1832 c1834 r Q hs hpre h1831 h1833 h1835 hg hq
        show Wc prog tbl 88 (appS (mapS wV l9) _) m' Q
        rw [el9]
        exact s_sameCrops hpre ((ha100.sub k1818.fs).sub hs) h1831 h1833 h1835 hg hq
      obtain ⟨r1837, g1838, hp⟩ := bsome hp
      refine s_eachTf (l := l) (passes := (fun a1829 => psameCrops l a1829)) S1825.pre (ha100.sub k1818.fs) hF1836 g1838 fun m11 e1841 => ?_
      obtain ⟨S1839, k1840⟩ := S1825.call e1841 τ0
      refine ⟨_, rfl, ?_⟩
      obtain rfl := Option.some.inj hp
      exact hq _ S1839.ext'
    · skip
      rw [bif_neg q1828] at hp
      obtain rfl := Option.some.inj hp
      exact hq _ S1825.ext'
  · skip
    rw [bif_neg q1814] at hp
    obtain rfl := Option.some.inj hp
    exact hq _ S1811.ext'
theorem s_validClaim {l : List Tf} {c : Clm} {ca100 : C} {m f : M} {Q : V → M → Prop} {rz : Bool} (hS : Pre f m) (ha100 : Sl f ca100 l) (hp : pvalidClaim l c = some rz) (hq : ∀ m', Ext m m' → Q (.c (.bool rz)) m') : Wc prog tbl 90 [.c ca100, .agg 6 [(.int .i64 c.Crop), (.int .i64 c.Value), (.int .i64 c.Day.Lo), (.int .i64 c.Day.Hi), (.int .i64 c.Count.Lo), (.int .i64 c.Count.Hi)]] m Q := by
  have S0 := hS.st
  obtain ⟨τ0, _⟩ : ∃ τ : Nat → Nat, True := ⟨fun _ => 0, trivial⟩
  refine w90 ?_
  unfold pvalidClaim at hp
  intro m0 e1842
  obtain ⟨τ1845, S1843, k1844, L1846⟩ := S0.blk e1842 τ0 1
  refine ⟨trivial, _, L1846.bk.rc rfl, ?_⟩
  obtain ⟨r1847, g1848, hp⟩ := bsome hp
  refine s_hasCrop (l := l) (n := c.Crop) S1843.pre ha100 g1848 fun m3 e1851 => ?_
  obtain ⟨S1849, k1850⟩ := S1843.call e1851 τ1845
  have L1852 := L1846.k k1850 (by decide)
  refine ⟨_, rfl, ?_⟩
  rw [ifB_iff]
  refine ⟨fun q1853 => ?_, fun q1853 => ?_⟩
  · skip
    rw [if_pos q1853] at hp
    refine ⟨trivial, _, L1852.bk.rc rfl, ?_⟩
    obtain ⟨r1854, g1855, hp⟩ := bsome hp
    refine s_has (r := ({ Lo := (0 : Int), Hi := (100000 : Int) } : Rg)) (n := c.Value) S1849.pre  g1855 fun m7 e1858 => ?_
    obtain ⟨S1856, k1857⟩ := S1849.call e1858 τ1845
    have L1859 := L1852.k k1857 (by decide)
    refine ⟨_, rfl, ?_⟩
    rw [ifB_iff]
    refine ⟨fun q1860 => ?_, fun q1860 => ?_⟩
    · skip
      rw [if_pos q1860] at hp
      refine ⟨trivial, _, _, L1859.bk.rp (k := 2) (j := 2) rfl (by omega), ?_⟩
      have hF1862 : Fv_Int_Bool f ((C.fn (Fn.func 55) [] [])) (fun a1861 => pisDay a1861) := by
        intro f' m' a1861 r Q hs hpre  hg hq
        exact s_isDay hpre  hg hq
      obtain ⟨r1863, g1864, hp⟩ := bsome hp
      refine s_within (r := c.Day) (passes := (fun a1861 => pisDay a1861)) S1856.pre hF1862 g1864 fun m12 e1867 => ?_
      obtain ⟨S1865, k1866⟩ := S1856.call e1867 τ1845
      have L1868 := L1859.k k1866 (by decide)
      refine ⟨_, rfl, ?_⟩
      rw [ifB_iff]
      refine ⟨fun q1869 => ?_, fun q1869 => ?_⟩
      · skip
        rw [if_pos q1869] at hp
        refine ⟨trivial, trivial, _, L1868.bk.rc rfl, trivial, trivial, _, L1868.bk.rc rfl, ?_⟩
        obtain ⟨g1870, hp⟩ := gd_some hp
        refine ⟨g1870, ?_⟩
        rw [ifB_dec]
        refine ⟨fun q1871 => ?_, fun q1871 => ?_⟩
        · skip
          rw [if_pos q1871] at hp
          refine ⟨trivial, _, _, L1868.bk.rp (k := 4) (j := 2) rfl (by omega), ?_⟩
          have hF1873 : Fv_Int_Bool f ((C.fn (Fn.func 56) [] [])) (fun a1872 => pisCount a1872) := by
            intro f' m' a1872 r Q hs hpre  hg hq
            exact s_isCount hpre  hg hq
          obtain ⟨r1874, g1875, hp⟩ := bsome hp
          refine s_within (r := c.Count) (passes := (fun a1872 => pisCount a1872)) S1865.pre hF1873 g1875 fun m19 e1878 => ?_
          obtain ⟨S1876, k1877⟩ := S1865.call e1878 τ1845
          have L1879 := L1868.k k1877 (by decide)
          refine ⟨_, rfl, ?_⟩
          obtain rfl := Option.some.inj hp
          exact hq _ S1876.ext'
        · skip
          rw [if_neg q1871] at hp
          obtain rfl := Option.some.inj hp
          exact hq _ S1865.ext'
      · skip
        rw [bif_neg q1869] at hp
        obtain rfl := Option.some.inj hp
        exact hq _ S1865.ext'
    · skip
      rw [bif_neg q1860] at hp
      obtain rfl := Option.some.inj hp
      exact hq _ S1856.ext'
  · skip
    rw [bif_neg q1853] at hp
    obtain rfl := Option.some.inj hp
    exact hq _ S1849.ext'
theorem s_check {l : List Tf} {ca100 : C} {m f : M} {Q : V → M → Prop} {rz : Int} (hS : Pre f m) (ha100 : Sl f ca100 l) (hp : pcheck l = some rz) (hq : ∀ m', Ext m m' → Q (.c (.int .i64 rz)) m') : Wc prog tbl 21 [.c ca100] m Q := by
  have S0 := hS.st
  obtain ⟨τ0, _⟩ : ∃ τ : Nat → Nat, True := ⟨fun _ => 0, trivial⟩
  refine w21 ?_
  unfold pcheck at hp
  obtain ⟨r1880, g1881, hp⟩ := bsome hp
  refine s_tooMany (l := l) S0.pre ha100 g1881 fun m1 e1884 => ?_
  obtain ⟨S1882, k1883⟩ := S0.call e1884 τ0
  refine ⟨_, rfl, ?_⟩
  rw [ifB_iff]
  refine ⟨fun q1885 => ?_, fun q1885 => ?_⟩
  · skip
    rw [if_pos q1885] at hp
    obtain rfl := Option.some.inj hp
    exact hq _ S1882.ext'
  · skip
    rw [bif_neg q1885] at hp
    obtain ⟨r1886, g1887, hp⟩ := bsome hp
    refine s_tfsValid (l := l) S1882.pre ha100 g1887 fun m4 e1890 => ?_
    obtain ⟨S1888, k1889⟩ := S1882.call e1890 τ0
    refine ⟨_, rfl, ?_⟩
    rw [ifB_iff]
    refine ⟨fun q1891 => ?_, fun q1891 => ?_⟩
    · skip
      rw [bif_neg (nb_f q1891)] at hp
      obtain rfl := Option.some.inj hp
      exact hq _ S1888.ext'
    · skip
      rw [if_pos (nb_t q1891)] at hp
      obtain rfl := Option.some.inj hp
      exact hq _ S1888.ext'
theorem s_manner {t : Tf} {ca103 ca104 ca105 : C} {m f : M} {Q : V → M → Prop} {rz : Mnr} (hS : Pre f m) (ha103 : Sl f ca103 t.Weeks) (ha104 : Sl f ca104 t.Counts) (ha105 : Sl f ca105 t.Rates) (hp : pmanner t = some rz) (hq : ∀ m' f' c0, Grw m f m' f' → Fv_Tf_Int_Int f' c0 rz.paid → Q (.agg 1 [c0]) m') : Wc prog tbl 100 [.agg 6 [(.int .i64 t.From), (.bool t.Whole), (.int .i64 t.Least), ca103, ca104, ca105]] m Q := by
  have S0 := hS.st
  obtain ⟨τ0, _⟩ : ∃ τ : Nat → Nat, True := ⟨fun _ => 0, trivial⟩
  refine w100 ?_
  unfold pmanner at hp
  intro m0 e1918
  obtain ⟨τ1921, S1919, k1920, L1922⟩ := S0.blk e1918 τ0 1
  intro m1 e1923
  obtain ⟨τ1926, S1924, k1925, L1927⟩ := S1919.blk e1923 τ1921 2
  have L1928 := L1922.k k1925 (by decide)
  refine ⟨trivial, _, L1928.bk.rc rfl, ?_⟩
  rw [ifB_iff]
  refine ⟨fun q1929 => ?_, fun q1929 => ?_⟩
  · skip
    rw [if_pos q1929] at hp
    obtain ⟨m1933, e1932, S1930, k1931, L1934⟩ := L1927.sto S1924 [(C.fn (Fn.func 117) [] [])]
    have L1935 := L1928.k k1931 (by decide)
    refine ⟨m1933, e1932, ?_⟩
    refine ⟨_, L1934.bk.ra, ?_⟩
    have hF1944 : Fv_Tf_Int_Int f ((C.fn (Fn.func 117) [] [])) (fun a1936 a1937 => pwhole a1936 a1937) := by
      intro f' m' a1936 a1937 c1938 c1940 c1942 r Q hs hpre h1939 h1941 h1943 hg hq
      exact s_whole hpre h1939 h1941 h1943 hg hq
    obtain rfl := Option.some.inj hp
    exact hq _ f (C.fn (Fn.func 117) [] []) S1930.grw hF1944
  · skip
    rw [bif_neg q1929] at hp
    obtain ⟨m1948, e1947, S1945, k1946, L1949⟩ := L1927.sto S1924 [(C.fn (Fn.func 118) [] [])]
    have L1950 := L1928.k k1946 (by decide)
    refine ⟨m1948, e1947, ?_⟩
    refine ⟨_, L1949.bk.ra, ?_⟩
    have hF1959 : Fv_Tf_Int_Int f ((C.fn (Fn.func 118) [] [])) (fun a1951 a1952 => paboveLeast a1951 a1952) := by
      intro f' m' a1951 a1952 c1953 c1955 c1957 r Q hs hpre h1954 h1956 h1958 hg hq
      exact s_aboveLeast hpre h1954 h1956 h1958 hg hq
    obtain rfl := Option.some.inj hp
    exact hq _ f (C.fn (Fn.func 118) [] []) S1945.grw hF1959
theorem s_tfPart {t : Tf} {h : Ht} {ca103 ca104 ca105 : C} {m f : M} {Q : V → M → Prop} {rz : Int} (hS : Pre f m) (ha103 : Sl f ca103 t.Weeks) (ha104 : Sl f ca104 t.Counts) (ha105 : Sl f ca105 t.Rates) (hp : ptfPart t h = some rz) (hq : ∀ m', Ext m m' → Q (.c (.int .i64 rz)) m') : Wc prog tbl 80 [.agg 6 [(.int .i64 t.From), (.bool t.Whole), (.int .i64 t.Least), ca103, ca104, ca105], .agg 3 [(.int .i64 h.Day), (.int .i64 h.Count), (.int .i64 h.crop)]] m Q := by
  have S0 := hS.st
  obtain ⟨τ0, _⟩ : ∃ τ : Nat → Nat, True := ⟨fun _ => 0, trivial⟩
  refine w80 ?_
  unfold ptfPart at hp
  intro m0 e1960
  obtain ⟨τ1963, S1961, k1962, L1964⟩ := S0.blk e1960 τ0 1
  intro m1 e1965
  obtain ⟨τ1968, S1966, k1967, L1969⟩ := S1961.blk e1965 τ1963 2
  have L1970 := L1964.k k1967 (by decide)
  refine ⟨_, _, _, _, _, _, L1970.bk.ra, _, _, _, L1969.bk.ra, ?_⟩
  obtain ⟨r1971, g1972, hp⟩ := bsome hp
  refine s_loss (t := t) (h := h) S1966.pre ha103 ha104 ha105 g1972 fun m12 e1975 => ?_
  obtain ⟨S1973, k1974⟩ := S1966.call e1975 τ1968
  have L1976 := L1970.k k1974 (by decide)
  have L1977 := L1969.k k1974 (by decide)
  refine ⟨_, rfl, trivial, _, L1976.bk.rc rfl, ?_⟩
  rw [ifB_dec]
  refine ⟨fun q1978 => ?_, fun q1978 => ?_⟩
  · skip
    rw [if_pos q1978] at hp
    obtain rfl := Option.some.inj hp
    exact hq _ S1973.ext'
  · skip
    rw [if_neg q1978] at hp
    refine ⟨_, _, _, _, _, _, L1976.bk.ra, ?_⟩
    obtain ⟨r1979, g1980, hp⟩ := bsome hp
    refine s_manner (t := t) S1973.pre ha103 ha104 ha105 g1980 fun m22 f1984 c1985 e1983 h1986 => ?_
    obtain ⟨S1981, k1982⟩ := S1973.callG e1983 τ1968
    have L1987 := L1976.k k1982 (by decide)
    have L1988 := L1977.k k1982 (by decide)
    refine ⟨_, rfl, _, _, _, _, _, _, L1987.bk.ra, (by rw [show allS noFnC _ = true from (nf_cons rfl (nf_cons rfl (nf_cons rfl (nf_cons ha103.noFn (nf_cons ha104.noFn (nf_cons ha105.noFn nf_nil))))))]; exact (L1976.bk.ra)), ?_⟩
    obtain ⟨r1989, g1990, hp⟩ := bsome hp
    refine h1986 _ _ _ _ _ _ _ _ _ (Sub.refl _) S1981.pre (ha103.sub k1982.fs) (ha104.sub k1982.fs) (ha105.sub k1982.fs) g1990 fun m31 e1993 => ?_
    obtain ⟨S1991, k1992⟩ := S1981.call e1993 τ1968
    have L1994 := L1987.k k1992 (by decide)
    have L1995 := L1988.k k1992 (by decide)
    refine ⟨_, rfl, ?_⟩
    obtain rfl := Option.some.inj hp
    exact hq _ S1991.ext'
theorem s_open {l : List Tf} {ca100 : C} {m f : M} {Q : V → M → Prop} {rz : Wk × Int} (hS : Pre f m) (ha100 : Sl f ca100 l) (hp : popen l = some rz) (hq : ∀ m' f' c0 c1, Grw m f m' f' → Sl f' c0 rz.1.tariffs → Mn m f' m' c1 rz.1.parts → Q (.tup [.agg 2 [c0, c1], .c (.int .i64 rz.2)]) m') : Wc prog tbl 53 [.c ca100] m Q := by
  have S0 := hS.st
  obtain ⟨τ0, _⟩ : ∃ τ : Nat → Nat, True := ⟨fun _ => 0, trivial⟩
  refine w53 ?_
  unfold popen at hp
  intro m0 e1996
  obtain ⟨τ1999, S1997, k1998, L2000⟩ := S0.blk e1996 τ0 1
  obtain ⟨r2001, g2002, hp⟩ := bsome hp
  refine s_check (l := l) S1997.pre ha100 g2002 fun m2 e2005 => ?_
  obtain ⟨S2003, k2004⟩ := S1997.call e2005 τ1999
  have L2006 := L2000.k k2004 (by decide)
  refine ⟨_, rfl, ?_⟩
  rw [ifB_ndec]
  refine ⟨fun q2007 => ?_, fun q2007 => ?_⟩
  · skip
    rw [if_neg q2007] at hp
    obtain ⟨m2011, e2010, S2008, k2009, L2012⟩ := L2006.sto S2003 [.sl0, C.map0]
    refine ⟨m2011, e2010, ?_⟩
    refine ⟨_, _, L2012.bk.ra, ?_⟩
    obtain rfl := Option.some.inj hp
    exact hq _ f .sl0 .map0 S2008.grw (Sl.nil _) (Mo.nil _ _ τ1999 _ 0).mn
  · skip
    rw [if_pos q2007] at hp
    intro m7 e2013
    obtain ⟨τ2016, S2014, k2015, M2017⟩ := Mo.new (K := Ht) (V' := Int) S2003 e2013 τ1999 2
    have L2018 := L2006.k k2015 (by decide)
    obtain ⟨m2022, e2021, S2019, k2020, L2023⟩ := L2018.sto S2014 [ca100, (.map m2.nxt)]
    have M2024 := M2017.k k2020 (by decide)
    refine ⟨m2022, e2021, ?_⟩
    refine ⟨_, _, L2023.bk.ra, ?_⟩
    obtain rfl := Option.some.inj hp
    exact hq _ f ca100 (.map m2.nxt) S2019.grw ha100 M2024.mn
theorem s_openFor {l : List Tf} {claims : List Clm} {ca100 ca200 : C} {m f : M} {Q : V → M → Prop} {rz : Wk × Int} (hS : Pre f m) (ha100 : Sl f ca100 l) (ha200 : Sl f ca200 claims) (hp : popenFor l claims = some rz) (hq : ∀ m' f' c0 c1, Grw m f m' f' → Sl f' c0 rz.1.tariffs → Mn m f' m' c1 rz.1.parts → Q (.tup [.agg 2 [c0, c1], .c (.int .i64 rz.2)]) m') : Wc prog tbl 63 [.c ca100, .c ca200] m Q := by
  have S0 := hS.st
  obtain ⟨τ0, _⟩ : ∃ τ : Nat → Nat, True := ⟨fun _ => 0, trivial⟩
  refine w63 ?_
  unfold popenFor at hp
  intro m0 e2025
  obtain ⟨τ2028, S2026, k2027, L2029⟩ := S0.blk e2025 τ0 1
  obtain ⟨r2030, g2031, hp⟩ := bsome hp
  refine s_open (l := l) S2026.pre ha100 g2031 fun m2 f2035 c2036 c2038 e2034 h2037 h2039 => ?_
  obtain ⟨τ2040, S2032, k2033, M2041⟩ := S2026.callN e2034 h2039 τ2028 2
  have L2042 := L2029.k k2033 (by decide)
  refine ⟨_, _, _, rfl, ?_⟩
  intro m6 e2043
  obtain ⟨τ2046, S2044, k2045, L2047⟩ := S2032.blk e2043 τ2040 3
  have L2048 := L2042.k k2045 (by decide)
  have M2049 := M2041.k k2045 (by decide)
  obtain ⟨m2053, e2052, S2050, k2051, L2054⟩ := L2047.sto S2044 [c2036, c2038]
  have L2055 := L2048.k k2051 (by decide)
  have M2056 := M2049.k k2051 (by decide)
  refine ⟨m2053, e2052, ?_⟩
  rw [ifB_ndec]
  refine ⟨fun q2057 => ?_, fun q2057 => ?_⟩
  · skip
    rw [if_neg q2057] at hp
    obtain ⟨m2061, e2060, S2058, k2059, L2062⟩ := L2055.sto S2050 [.sl0, C.map0]
    have L2063 := L2054.k k2059 (by decide)
    have M2064 := M2056.k k2059 (by decide)
    refine ⟨m2061, e2060, ?_⟩
    refine ⟨_, _, L2062.bk.ra, ?_⟩
    obtain rfl := Option.some.inj hp
    exact hq _ f2035 .sl0 .map0 S2058.grw (Sl.nil _) (Mo.nil _ _ τ2046 _ 0).mn
  · skip
    rw [if_pos q2057] at hp
    refine ⟨ha200.isSl, ?_⟩
    try rw [ha200.slLen]
    rw [ifB_dec]
    refine ⟨fun q2065 => ?_, fun q2065 => ?_⟩
    · skip
      rw [if_pos q2065] at hp
      obtain ⟨m2069, e2068, S2066, k2067, L2070⟩ := L2055.sto S2050 [.sl0, C.map0]
      have L2071 := L2054.k k2067 (by decide)
      have M2072 := M2056.k k2067 (by decide)
      refine ⟨m2069, e2068, ?_⟩
      refine ⟨_, _, L2070.bk.ra, ?_⟩
      obtain rfl := Option.some.inj hp
      exact hq _ f2035 .sl0 .map0 S2066.grw (Sl.nil _) (Mo.nil _ _ τ2046 _ 0).mn
    · skip
      rw [if_neg q2065] at hp
      refine ⟨trivial, _, L2054.bk.rc rfl, ?_⟩
      obtain ⟨l15, wl15, el15⟩ : ∃ ws, mapO vW [.c c2036] = some ws ∧ mapS wV ws = [.c c2036] := (vWs_cons (vW_c h2037.noFn) vWs_nil)
      rw [wl15, optB_some]
      have hF2074 : Fv_Clm_Bool f2035 ((C.fn (Fn.func 90) l15 [])) (fun a2073 => pvalidClaim r2030.1.tariffs a2073) := by
        intro f' m' a2073 r Q hs hpre  hg hq
        show Wc prog tbl 90 (appS (mapS wV l15) _) m' Q
        rw [el15]
        exact s_validClaim hpre (h2037.sub hs) hg hq
      obtain ⟨r2075, g2076, hp⟩ := bsome hp
      refine s_eachCl (l := claims) (passes := (fun a2073 => pvalidClaim r2030.1.tariffs a2073)) S2050.pre (ha200.sub k2033.fs) hF2074 g2076 fun m17 e2079 => ?_
      obtain ⟨S2077, k2078⟩ := S2050.call e2079 τ2046
      have L2080 := L2055.k k2078 (by decide)
      have L2081 := L2054.k k2078 (by decide)
      have M2082 := M2056.k k2078 (by decide)
      refine ⟨_, rfl, ?_⟩
      rw [ifB_iff]
      refine ⟨fun q2083 => ?_, fun q2083 => ?_⟩
      · skip
        rw [bif_neg (nb_f q2083)] at hp
        obtain ⟨m2087, e2086, S2084, k2085, L2088⟩ := L2080.sto S2077 [.sl0, C.map0]
        have L2089 := L2081.k k2085 (by decide)
        have M2090 := M2082.k k2085 (by decide)
        refine ⟨m2087, e2086, ?_⟩
        refine ⟨_, _, L2088.bk.ra, ?_⟩
        obtain rfl := Option.some.inj hp
        exact hq _ f2035 .sl0 .map0 S2084.grw (Sl.nil _) (Mo.nil _ _ τ2046 _ 0).mn
      · skip
        rw [if_pos (nb_t q2083)] at hp
        refine ⟨_, _, L2081.bk.ra, ?_⟩
        obtain ⟨m2094, e2093, S2091, k2092, L2095⟩ := L2080.sto S2077 [c2036, c2038]
        have L2096 := L2081.k k2092 (by decide)
        have M2097 := M2082.k k2092 (by decide)
        refine ⟨m2094, e2093, ?_⟩
        refine ⟨_, _, L2095.bk.ra, ?_⟩
        obtain rfl := Option.some.inj hp
        exact hq _ f2035 c2036 c2038 S2091.grw h2037 M2097.mn
theorem s_part {w : Wk} {h : Ht} {ca100 ca101 : C} {m f : M} {Q : V → M → Prop} {rz : Int × Option (Ht → Option (Int))} (hS : Pre f m) (ha100 : Sl f ca100 w.tariffs) (ha101 : Mc f m ca101 w.parts) (hp : ppart w h = some rz) (hq : ∀ m', ExtB ca101 m m' → Mi m' ca101 rz.2 → Q (.c (.int .i64 rz.1)) m') : Wc prog tbl 57 [.agg 2 [ca100, ca101], .agg 3 [(.int .i64 h.Day), (.int .i64 h.Count), (.int .i64 h.crop)]] m Q := by
  have S0 := hS.stM ha101
  obtain ⟨τ0, M0⟩ : ∃ τ, Mo (Fm.mp m ca101) f τ m 1 ca101 w.parts := ⟨_, ha101.mo 1⟩
  refine w57 ?_
  unfold ppart at hp
  intro m0 e2098
  obtain ⟨τ2101, S2099, k2100, L2102⟩ := S0.blk e2098 τ0 2
  have M2103 := M0.k k2100 (by decide)
  intro m1 e2104
  obtain ⟨τ2107, S2105, k2106, L2108⟩ := S2099.blk e2104 τ2101 3
  have L2109 := L2102.k k2106 (by decide)
  have M2110 := M2103.k k2106 (by decide)
  refine ⟨trivial, _, L2109.bk.rc rfl, _, _, _, L2108.bk.ra, ?_⟩
  obtain ⟨g2111, hp⟩ := gd_some hp
  refine ⟨_, M2110.mi.lk kl103 (k := h) g2111 rfl, ?_⟩
  cases hv2112 : (mget w.parts h) with
  | none =>
    rw [mcase_none hv2112] at hp
    refine ⟨fun _ => ?_, fun u hu => (by cases hu)⟩
    refine ⟨trivial, _, L2109.bk.rc rfl, trivial, trivial, _, L2108.bk.rc rfl, ?_⟩
    obtain ⟨r2114, g2115, hp⟩ := bsome hp
    refine s_tfOf (l := w.tariffs) (day := h.Day) S2105.pre ha100 g2115 fun m10 f2119 c2120 c2122 c2124 e2118 h2121 h2123 h2125 => ?_
    obtain ⟨S2116, k2117⟩ := S2105.callG e2118 τ2107
    have L2126 := L2109.k k2117 (by decide)
    have L2127 := L2108.k k2117 (by decide)
    have M2128 := M2110.k k2117 (by decide)
    refine ⟨_, _, _, _, _, _, rfl, _, _, _, L2127.bk.ra, (L2108.bk.ra), ?_⟩
    obtain ⟨r2129, g2130, hp⟩ := bsome hp
    refine s_tfPart (t := r2114) (h := h) S2116.pre h2121 h2123 h2125 g2130 fun m21 e2133 => ?_
    obtain ⟨S2131, k2132⟩ := S2116.call e2133 τ2107
    have L2134 := L2126.k k2132 (by decide)
    have L2135 := L2127.k k2132 (by decide)
    have M2136 := M2128.k k2132 (by decide)
    refine ⟨_, rfl, trivial, _, L2134.bk.rc rfl, _, _, _, L2135.bk.ra, ?_⟩
    obtain ⟨g2137, hp⟩ := gd_some hp
    obtain ⟨w2138, g2139, hp⟩ := bsome hp
    obtain ⟨m2140, e2141, S2142, k2143, M2144⟩ := Mo.up kl103 S2131 M2136 (k := h) g2137 (v := r2129) g2139 (kv := .agg 3 [(.int .i64 h.Day), (.int .i64 h.Count), (.int .i64 h.crop)]) (yv := .c (.int .i64 r2129)) rfl rfl
    have L2145 := L2134.k k2143 (by decide)
    have L2146 := L2135.k k2143 (by decide)
    refine ⟨m2140, e2141, ?_⟩
    obtain rfl := Option.some.inj hp
    exact hq _ S2142.extB M2144.mi
  | some w2113 =>
    rw [mcase_some hv2112] at hp
    refine ⟨fun h => (by cases h), fun u hu => ?_⟩
    obtain rfl := Option.some.inj hu
    refine ⟨_, rfl, ?_⟩
    obtain rfl := Option.some.inj hp
    exact hq _ S2105.extB M2110.mi
theorem s_payment {w : Wk} {c : Clm} {t : Tr} {ca100 ca101 : C} {m f : M} {Q : V → M → Prop} {rz : Int × Option (Ht → Option (Int))} (hS : Pre f m) (ha100 : Sl f ca100 w.tariffs) (ha101 : Mc f m ca101 w.parts) (hp : ppayment w c t = some rz) (hq : ∀ m', ExtB ca101 m m' → Mi m' ca101 rz.2 → Q (.c (.int .i64 rz.1)) m') : Wc prog tbl 65 [.agg 2 [ca100, ca101], .agg 6 [(.int .i64 c.Crop), (.int .i64 c.Value), (.int .i64 c.Day.Lo), (.int .i64 c.Day.Hi), (.int .i64 c.Count.Lo), (.int .i64 c.Count.Hi)], .agg 2 [(.int .i64 t.Day), (.int .i64 t.Count)]] m Q := by
  have S0 := hS.stM ha101
  obtain ⟨τ0, M0⟩ : ∃ τ, Mo (Fm.mp m ca101) f τ m 1 ca101 w.parts := ⟨_, ha101.mo 1⟩
  refine w65 ?_
  unfold ppayment at hp
  intro m0 e2147
  obtain ⟨τ2150, S2148, k2149, L2151⟩ := S0.blk e2147 τ0 2
  have M2152 := M0.k k2149 (by decide)
  intro m1 e2153
  obtain ⟨τ2156, S2154, k2155, L2157⟩ := S2148.blk e2153 τ2150 3
  have L2158 := L2151.k k2155 (by decide)
  have M2159 := M2152.k k2155 (by decide)
  intro m2 e2160
  obtain ⟨τ2163, S2161, k2162, L2164⟩ := S2154.blk e2160 τ2156 4
  have L2165 := L2158.k k2162 (by decide)
  have L2166 := L2157.k k2162 (by decide)
  have M2167 := M2159.k k2162 (by decide)
  refine ⟨trivial, _, L2166.bk.rc rfl, _, _, L2165.bk.ra, _, _, L2164.bk.ra, trivial, _, L2166.bk.rc rfl, ?_⟩
  obtain ⟨r2168, g2169, hp⟩ := bsome hp
  refine s_part (w := w) (h := ({ Day := t.Day, Count := t.Count, crop := c.Crop } : Ht)) S2161.pre ha100 (M2167.mc S2161) g2169 fun m10 e2172 hM2173 => ?_
  obtain ⟨S2170, k2171, M2174⟩ := S2161.callM M2167 e2172 hM2173
  have L2175 := L2165.k k2171 (by decide)
  have L2176 := L2166.k k2171 (by decide)
  have L2177 := L2164.k k2171 (by decide)
  refine ⟨_, rfl, (L2176.bk.rc rfl), ?_⟩
  obtain ⟨g2178, hp⟩ := gd_some hp
  refine ⟨g2178, ?_⟩
  obtain ⟨g2179, hp⟩ := gd_some hp
  refine ⟨g2179, ?_⟩
  obtain ⟨g2180, hp⟩ := gd_some hp
  refine ⟨g2180, ?_⟩
  obtain ⟨g2181, hp⟩ := gd_some hp
  refine ⟨g2181, ?_⟩
  obtain ⟨g2182, hp⟩ := gd_some hp
  refine ⟨g2182, ?_⟩
  obtain ⟨g2183, hp⟩ := gd_some hp
  refine ⟨g2183, ?_⟩
  obtain rfl := Option.some.inj hp
  exact hq _ S2170.extB M2174.mi
theorem s_truthsI {c : Clm} {b0 : Nat} {m f : M} {F : Fm} {n0 ly : Nat} {xs : List (List V)} {I : Nat → (Nat → Prop) → M → Prop} {E : (Nat → Prop) → M → Prop} {S1 : Nat → Prop} {Q : V → M → Prop} {rz : List Tr} {τ0 : Nat → Nat} (hc : Client prog tbl n0 ly xs I E) (S0 : St F f f m) (Y0 : Yg n0 (YJ xs I rz) S1 F f τ0 m) (hb0 : Bk f b0 6 [(.int .i64 c.Crop), (.int .i64 c.Value), (.int .i64 c.Day.Lo), (.int .i64 c.Day.Hi), (.int .i64 c.Count.Lo), (.int .i64 c.Count.Hi)]) (hp : ptruthsI c = some rz) (hq : ∀ v m' f' τ' S', St F f f' m' → (Yg n0 (YJ xs I ([] : List Tr)) S' F f' τ' m' ∨ Yg n0 E S' F f' τ' m') → Q v m') : Wc prog tbl 94 [.c (.fn (.yield ly) [] []), .c (.ptr b0 0)] m Q := by
  refine c94 ?_
  unfold ptruthsI at hp
  refine ⟨trivial, trivial, _, (hb0.sub S0.sub).rc rfl, ?_⟩
  intro R1 hR1
  have hgo : ∀ (d2189 : Nat) (x2 : Int) (r2186 : List Tr) (s2187 : Nat → Prop) (m3 : M) (τ2185 : Nat → Nat), St F f f m3 → Yg n0 (YJ xs I r2186) s2187 F f τ2185 m3 → ptruthsI_L0 c d2189 x2 = some r2186 → R1 [.c (.int .i64 x2)] m3 := by
    intro d2189
    induction d2189 with
    | zero => intro x2 r2186 s2187 m3 τ2185 S2184 Y2188 hp; cases hp
    | succ d2189 ihR1 =>
      intro x2 r2186 s2187 m3 τ2185 S2184 Y2188 hp
      refine hR1 _ _ ?_
      rw [ptruthsI_L0] at hp
      refine ⟨trivial, trivial, _, (hb0.sub S2184.sub).rc rfl, ?_⟩
      rw [ifB_dec]
      refine ⟨fun q2190 => ?_, fun q2190 => ?_⟩
      · skip
        rw [if_pos q2190] at hp
        refine ⟨trivial, trivial, _, (hb0.sub S2184.sub).rc rfl, ?_⟩
        intro R6 hR6
        have hgo : ∀ (d2196 : Nat) (x7 : Int) (r2193 : List Tr) (s2194 : Nat → Prop) (m8 : M) (τ2192 : Nat → Nat), St F f f m8 → Yg n0 (YJ xs I r2193) s2194 F f τ2192 m8 → ptruthsI_L1 c x2 (ptruthsI_L0 c d2189) d2196 x7 = some r2193 → R6 [.c (.int .i64 x7)] m8 := by
          intro d2196
          induction d2196 with
          | zero => intro x7 r2193 s2194 m8 τ2192 S2191 Y2195 hp; cases hp
          | succ d2196 ihR6 =>
            intro x7 r2193 s2194 m8 τ2192 S2191 Y2195 hp
            refine hR6 _ _ ?_
            rw [ptruthsI_L1] at hp
            refine ⟨trivial, trivial, _, (hb0.sub S2191.sub).rc rfl, ?_⟩
            rw [ifB_dec]
            refine ⟨fun q2197 => ?_, fun q2197 => ?_⟩
            · skip
              rw [if_pos q2197] at hp
              obtain ⟨r2198, hp2200, hz2199⟩ := bsome hp
              clear hp
              obtain rfl := Option.some.inj hz2199
              have hp := hp2200
              show Wy prog tbl ly (IV.encs (({ Day := x2, Count := x7 } : Tr) : Tr)) _ _
              refine Yg.yield hc S2191 Y2195 ?_ ?_
              · intro m11 τ2201 s2205 S2202 k2203 Y2204
                refine ⟨_, rfl, ?_⟩
                refine ifB_f' ?_
                obtain ⟨g2206, hp⟩ := gd_some hp
                refine ⟨g2206, ?_⟩
                exact ihR6 _ _ _ _ τ2201 S2202 Y2204 hp
              · intro m11 τ2207 s2211 S2208 k2209 Y2210
                refine ⟨_, rfl, ?_⟩
                refine ifB_t' ?_
                exact hq _ _ _ _ _ S2208 (.inr Y2210)
            · skip
              rw [if_neg q2197] at hp
              obtain ⟨g2212, hp⟩ := gd_some hp
              refine ⟨g2212, ?_⟩
              exact ihR1 _ _ _ _ τ2192 S2191 Y2195 hp
        exact hgo _ _ _ _ _ τ2185 S2184 Y2188 hp
      · skip
        rw [if_neg q2190] at hp
        obtain rfl := Option.some.inj hp
        exact hq _ _ _ _ _ S2184 (.inl Y2188)
  exact hgo _ _ _ _ _ τ0 S0 Y0 hp
theorem s_truths {c : Clm} {m f : M} {Q : V → M → Prop} {rz : List Tr} (hS : Pre f m)  (hp : ptruths c = some rz) (hq : ∀ m' f' c0, Grw m f m' f' → It prog tbl f' c0 rz → Q (.c c0) m') : Wc prog tbl 69 [.agg 6 [(.int .i64 c.Crop), (.int .i64 c.Value), (.int .i64 c.Day.Lo), (.int .i64 c.Day.Hi), (.int .i64 c.Count.Lo), (.int .i64 c.Count.Hi)]] m Q := by
  have S0 := hS.st
  obtain ⟨τ0, _⟩ : ∃ τ : Nat → Nat, True := ⟨fun _ => 0, trivial⟩
  refine w69 ?_
  unfold ptruths at hp
  intro m0 e2213
  obtain ⟨τ2216, S2214, k2215, L2217⟩ := S0.blk e2213 τ0 1
  obtain ⟨f2218, S2219, k2220, hb2221⟩ := L2217.freeze S2214
  obtain ⟨l2222, g2223, hp⟩ := bsome hp
  have hI2224 : It prog tbl f2218 ((C.fn (Fn.func 94) [] [(W.c (C0.ptr m.nxt 0))])) l2222 := it_of S2219.fz S2219.fv fun n0 ly I E hc m1 F1 S1 τ1 hS hY Q hq => s_truthsI hc hS hY hb2221 g2223 hq
  obtain rfl := Option.some.inj hp
  exact hq _ f2218 (C.fn (Fn.func 94) [] [(W.c (C0.ptr m.nxt 0))]) S2219.grw hI2224
theorem s_bounds {w : Wk} {c : Clm} {ca100 ca101 : C} {m f : M} {Q : V → M → Prop} {rz : Rg × Option (Ht → Option (Int))} (hS : Pre f m) (ha100 : Sl f ca100 w.tariffs) (ha101 : Mc f m ca101 w.parts) (hp : pbounds w c = some rz) (hq : ∀ m', ExtB ca101 m m' → Mi m' ca101 rz.2 → Q (.agg 2 [(.int .i64 rz.1.Lo), (.int .i64 rz.1.Hi)]) m') : Wc prog tbl 67 [.agg 2 [ca100, ca101], .agg 6 [(.int .i64 c.Crop), (.int .i64 c.Value), (.int .i64 c.Day.Lo), (.int .i64 c.Day.Hi), (.int .i64 c.Count.Lo), (.int .i64 c.Count.Hi)]] m Q := by
  have S0 := hS.stM ha101
  obtain ⟨τ0, M0⟩ : ∃ τ, Mo (Fm.mp m ca101) f τ m 1 ca101 w.parts := ⟨_, ha101.mo 1⟩
  refine w67 ?_
  unfold pbounds at hp
  intro m0 e2305
  obtain ⟨τ2308, S2306, k2307, L2309⟩ := S0.blk e2305 τ0 2
  have M2310 := M0.k k2307 (by decide)
  intro m1 e2311
  obtain ⟨τ2314, S2312, k2313, L2315⟩ := S2306.blk e2311 τ2308 3
  have L2316 := L2309.k k2313 (by decide)
  have M2317 := M2310.k k2313 (by decide)
  intro m2 e2318
  obtain ⟨τ2321, S2319, k2320, L2322⟩ := S2312.blk e2318 τ2314 4
  have L2323 := L2316.k k2320 (by decide)
  have L2324 := L2315.k k2320 (by decide)
  have M2325 := M2317.k k2320 (by decide)
  intro m3 e2326
  obtain ⟨τ2329, S2327, k2328, L2330⟩ := S2319.blk e2326 τ2321 5
  have L2331 := L2323.k k2328 (by decide)
  have L2332 := L2324.k k2328 (by decide)
  have L2333 := L2322.k k2328 (by decide)
  have M2334 := M2325.k k2328 (by decide)
  refine ⟨_, _, _, _, _, _, L2332.bk.ra, ?_⟩
  obtain ⟨r2335, g2336, hp⟩ := bsome hp
  refine s_truths (c := c) S2327.pre  g2336 fun m11 f2340 c2341 e2339 h2342 => ?_
  obtain ⟨S2337, k2338⟩ := S2327.callG e2339 τ2329
  have L2343 := L2331.k k2338 (by decide)
  have L2344 := L2332.k k2338 (by decide)
  have L2345 := L2333.k k2338 (by decide)
  have L2346 := L2330.k k2338 (by decide)
  have M2347 := M2334.k k2338 (by decide)
  refine ⟨_, rfl, ?_⟩
  refine range_st (α := Tr) S2337 h2342 (σ := (List Int) × C × (Option (Ht → Option (Int)))) 6 (fun st bb => (False ∨ (False ∨ (False ∨ (False ∨ ((ownBlk st.2.1 bb) ∨ False)))))) (fun st gG gF gT gM => (Lb gG gF gT gM 2 m.nxt 2 [ca100, ca101]) ∧ (Lb gG gF gT gM 3 m0.nxt 6 [(.int .i64 c.Crop), (.int .i64 c.Value), (.int .i64 c.Day.Lo), (.int .i64 c.Day.Hi), (.int .i64 c.Count.Lo), (.int .i64 c.Count.Hi)]) ∧ (Lb gG gF gT gM 4 m1.nxt 2 [(.int .i64 (0 : Int)), (.int .i64 (0 : Int))]) ∧ (Lb gG gF gT gM 5 m2.nxt 1 [st.2.1]) ∧ (Ow gG gF gT gM 7 st.2.1 st.1) ∧ (Mo gG gF gT gM 1 ca101 st.2.2)) (fun rr_ st => pbounds_L0 w c rr_ st.1 st.2.2 = some rz) (fun ex st => False) (fun st => (Gud.and (Gud.lb L2343.bk.lt (by decide)) (Gud.and (Gud.lb L2344.bk.lt (by decide)) (Gud.and (Gud.lb L2345.bk.lt (by decide)) (Gud.and (Gud.lb L2346.bk.lt (by decide)) (Gud.and (Gud.ow (by decide)) (Gud.mo M2347.lt (by decide)))))))) (st0 := ([], .sl0, w.parts)) (τ := τ2329) ⟨L2343, L2344, L2345, L2346, (Ow.nil _ _ _ _ _), M2347⟩ hp ?_ ?_ ?_ ?_
  · intro a2357 q2358 st f2359 τ2360 m14 F2361 o2362 Ok2363 en2364 Kn2365 S2366 s2367 hA rk2368 hp he2369 hk2370
    obtain ⟨y2351, c2352, w2355⟩ := st
    obtain ⟨L2348, L2349, L2350, L2354, o2353, M2356⟩ := hA
    replace L2348 : Lb F2361 f2359 τ2360 m14 2 m.nxt 2 [ca100, ca101] := L2348
    replace L2349 : Lb F2361 f2359 τ2360 m14 3 m0.nxt 6 [(.int .i64 c.Crop), (.int .i64 c.Value), (.int .i64 c.Day.Lo), (.int .i64 c.Day.Hi), (.int .i64 c.Count.Lo), (.int .i64 c.Count.Hi)] := L2349
    replace L2350 : Lb F2361 f2359 τ2360 m14 4 m1.nxt 2 [(.int .i64 (0 : Int)), (.int .i64 (0 : Int))] := L2350
    replace L2354 : Lb F2361 f2359 τ2360 m14 5 m2.nxt 1 [c2352] := L2354
    replace o2353 : Ow F2361 f2359 τ2360 m14 7 c2352 y2351 := o2353
    replace M2356 : Mo F2361 f2359 τ2360 m14 1 ca101 w2355 := M2356
    replace hp : pbounds_L0 w c (a2357 :: q2358) y2351 w2355 = some rz := hp
    rw [pbounds_L0] at hp
    refine ⟨_, _, rfl, ?_⟩
    intro m19 e2371
    obtain ⟨τ2374, S2372, k2373, L2375⟩ := S2366.blk e2371 τ2360 8
    have L2376 := L2348.k k2373 (by decide)
    have L2377 := L2349.k k2373 (by decide)
    have L2378 := L2350.k k2373 (by decide)
    have L2379 := L2354.k k2373 (by decide)
    have M2380 := M2356.k k2373 (by decide)
    have o2353 := o2353.k k2373 (by decide)
    have rk2381 := rk2368.k k2373 (by decide)
    obtain ⟨m2385, e2384, S2382, k2383, L2386⟩ := L2375.sto S2372 [(.int .i64 a2357.Day), (.int .i64 a2357.Count)]
    have L2387 := L2376.k k2383 (by decide)
    have L2388 := L2377.k k2383 (by decide)
    have L2389 := L2378.k k2383 (by decide)
    have L2390 := L2379.k k2383 (by decide)
    have M2391 := M2380.k k2383 (by decide)
    have o2353 := o2353.k k2383 (by decide)
    have rk2392 := rk2381.k k2383 (by decide)
    refine ⟨m2385, e2384, ?_⟩
    refine he2369 _ _ _ _ S2382 rk2392 fun m21 o2396 S2393 k2394 rk2395 hO2397 => ?_
    have L2398 := L2387.k k2394 (by decide)
    have L2399 := L2388.k k2394 (by decide)
    have L2400 := L2389.k k2394 (by decide)
    have L2401 := L2390.k k2394 (by decide)
    have L2402 := L2386.k k2394 (by decide)
    have M2403 := M2391.k k2394 (by decide)
    have o2353 := o2353.k k2394 (by decide)
    refine ⟨_, L2401.bk.rc rfl, _, _, L2398.bk.ra, _, _, _, _, _, _, L2399.bk.ra, _, _, L2402.bk.ra, ?_⟩
    obtain ⟨r2404, g2405, hp⟩ := bsome hp
    refine s_payment (w := ({ tariffs := w.tariffs, parts := w2355 } : Wk)) (c := c) (t := a2357) S2393.pre (ha100.sub (Sub.trans k2338.fs s2367)) (M2403.mc S2393) g2405 fun m34 e2408 hM2409 => ?_
    obtain ⟨S2406, k2407, M2410⟩ := S2393.callM M2403 e2408 hM2409
    have L2411 := L2398.k k2407 (by decide)
    have L2412 := L2399.k k2407 (by decide)
    have L2413 := L2400.k k2407 (by decide)
    have L2414 := L2401.k k2407 (by decide)
    have L2415 := L2402.k k2407 (by decide)
    have o2353 := o2353.k k2407 (by decide)
    have rk2416 := rk2395.k k2407 (by decide)
    refine ⟨_, rfl, (by rw [show noFnC _ = true from o2353.noFn]; exact (L2414.bk.rc rfl)), ?_⟩
    obtain ⟨g2425, hp⟩ := gd_some hp
    intro m36 e2417
    refine ⟨(by rw [show noFnC _ = true from o2353.noFn]; exact (L2414.bk.ext (Bk.new e2417).2).rc rfl), ?_⟩
    obtain ⟨c2421, m2422, τ2420, a2423, S2418, k2419, o2424⟩ := o2353.app' ta73 S2406 (a := r2404.1) (show Rp.rep (α := Int) f2359 _ r2404.1 from rfl) g2425 e2417
    have L2426 := L2411.k k2419 (by decide)
    have L2427 := L2412.k k2419 (by decide)
    have L2428 := L2413.k k2419 (by decide)
    have L2429 := L2414.k k2419 (by decide)
    have L2430 := L2415.k k2419 (by decide)
    have M2431 := M2410.k k2419 (by decide)
    have rk2432 := rk2416.k k2419 (by decide)
    refine ⟨c2421, m2422, a2423, ?_⟩
    obtain ⟨m2436, e2435, S2433, k2434, L2437⟩ := L2429.sto S2418 [c2421]
    have L2438 := L2426.k k2434 (by decide)
    have L2439 := L2427.k k2434 (by decide)
    have L2440 := L2428.k k2434 (by decide)
    have L2441 := L2430.k k2434 (by decide)
    have M2442 := M2431.k k2434 (by decide)
    have o2424 := o2424.k k2434 (by decide)
    have rk2443 := rk2432.k k2434 (by decide)
    refine ⟨m2436, e2435, ?_⟩
    exact hk2370 .nrm ((y2351 ++ [r2404.1]), c2421, r2404.2) _ _ _ _ S2433 ⟨L2438, L2439, L2440, L2437, o2424, M2442⟩ rk2443 hO2397 hp
  · intro st f2444 τ2446 m40 S2447 s2445 hA hp
    obtain ⟨y2351, c2352, w2355⟩ := st
    replace hp : pbounds_L0 w c [] y2351 w2355 = some rz := hp
    obtain ⟨L2348, L2349, L2350, L2354, o2353, M2356⟩ := hA
    replace L2348 : Lb (Fm.mp m ca101) f2444 τ2446 m40 2 m.nxt 2 [ca100, ca101] := L2348
    replace L2349 : Lb (Fm.mp m ca101) f2444 τ2446 m40 3 m0.nxt 6 [(.int .i64 c.Crop), (.int .i64 c.Value), (.int .i64 c.Day.Lo), (.int .i64 c.Day.Hi), (.int .i64 c.Count.Lo), (.int .i64 c.Count.Hi)] := L2349
    replace L2350 : Lb (Fm.mp m ca101) f2444 τ2446 m40 4 m1.nxt 2 [(.int .i64 (0 : Int)), (.int .i64 (0 : Int))] := L2350
    replace L2354 : Lb (Fm.mp m ca101) f2444 τ2446 m40 5 m2.nxt 1 [c2352] := L2354
    replace o2353 : Ow (Fm.mp m ca101) f2444 τ2446 m40 7 c2352 y2351 := o2353
    replace M2356 : Mo (Fm.mp m ca101) f2444 τ2446 m40 1 ca101 w2355 := M2356
    rw [pbounds_L0] at hp
    refine ⟨_, L2354.bk.rc rfl, ?_⟩
    obtain ⟨f2448, S2449, k2450, h2451⟩ := o2353.freeze S2447
    have L2452 := L2348.k k2450 (by decide)
    have L2453 := L2349.k k2450 (by decide)
    have L2454 := L2350.k k2450 (by decide)
    have L2455 := L2354.k k2450 (by decide)
    have M2456 := M2356.k k2450 (by decide)
    obtain ⟨r2457, g2458, hp⟩ := bsome hp
    refine s_minimum (l := y2351) S2449.pre h2451 g2458 fun m43 e2461 => ?_
    obtain ⟨S2459, k2460⟩ := S2449.call e2461 τ2446
    have L2462 := L2452.k k2460 (by decide)
    have L2463 := L2453.k k2460 (by decide)
    have L2464 := L2454.k k2460 (by decide)
    have L2465 := L2455.k k2460 (by decide)
    have M2466 := M2456.k k2460 (by decide)
    have o2467 := o2353.k k2460.old (by decide)
    refine ⟨_, rfl, _, L2465.bk.rc rfl, (by rw [show noFnC _ = true from h2451.noFn]; exact (L2455.bk.rc rfl)), ?_⟩
    obtain ⟨r2468, g2469, hp⟩ := bsome hp
    refine s_sMax (l := y2351) S2459.pre h2451 g2469 fun m47 e2472 => ?_
    obtain ⟨S2470, k2471⟩ := S2459.call e2472 τ2446
    have L2473 := L2462.k k2471 (by decide)
    have L2474 := L2463.k k2471 (by decide)
    have L2475 := L2464.k k2471 (by decide)
    have L2476 := L2465.k k2471 (by decide)
    have M2477 := M2466.k k2471 (by decide)
    have o2478 := o2467.k k2471.old (by decide)
    refine ⟨_, rfl, ?_⟩
    obtain ⟨m2482, e2481, S2479, k2480, L2483⟩ := L2475.sto S2470 [(.int .i64 r2457), (.int .i64 r2468)]
    have L2484 := L2473.k k2480 (by decide)
    have L2485 := L2474.k k2480 (by decide)
    have L2486 := L2476.k k2480 (by decide)
    have M2487 := M2477.k k2480 (by decide)
    have o2488 := o2478.k k2480.old (by decide)
    refine ⟨m2482, e2481, ?_⟩
    refine ⟨_, _, L2483.bk.ra, ?_⟩
    obtain rfl := Option.some.inj hp
    exact hq _ S2479.extB M2487.mi
  · intro id st _ _ _ _ _ _ hn; first | exact hn.elim | (cases hn)
  · intro st _ _ _ _ _ _ hn; first | exact hn.elim | (cases hn)
theorem s_Bounds {l : List Tf} {c : Clm} {ca100 : C} {m f : M} {Q : V → M → Prop} {rz : Rg × Int} (hS : Pre f m) (ha100 : Sl f ca100 l) (hp : pBounds l c = some rz) (hq : ∀ m', Ext m m' → Q (.tup [.agg 2 [(.int .i64 rz.1.Lo), (.int .i64 rz.1.Hi)], .c (.int .i64 rz.2)]) m') : Wc prog tbl 32 [.c ca100, .agg 6 [(.int .i64 c.Crop), (.int .i64 c.Value), (.int .i64 c.Day.Lo), (.int .i64 c.Day.Hi), (.int .i64 c.Count.Lo), (.int .i64 c.Count.Hi)]] m Q := by
  have S0 := hS.st
  obtain ⟨τ0, _⟩ : ∃ τ : Nat → Nat, True := ⟨fun _ => 0, trivial⟩
  refine w32 ?_
  unfold pBounds at hp
  intro m0 e2489
  obtain ⟨τ2492, S2490, k2491, L2493⟩ := S0.blk e2489 τ0 1
  intro m1 e2494
  obtain ⟨τ2497, S2495, k2496, L2498⟩ := S2490.blk e2494 τ2492 2
  have L2499 := L2493.k k2496 (by decide)
  refine ⟨_, _, _, _, _, _, L2499.bk.ra, ?_⟩
  intro m8 e2500
  obtain ⟨τ2503, S2501, k2502, L2504⟩ := S2495.blk e2500 τ2497 3
  have L2505 := L2499.k k2502 (by decide)
  have L2506 := L2498.k k2502 (by decide)
  obtain ⟨f2507, S2508, k2509, hb2510⟩ := L2504.freeze S2501
  have L2511 := L2505.k k2509 (by decide)
  have L2512 := L2506.k k2509 (by decide)
  have h2513 : Sl f2507 (C.sl m1.nxt 0 1 0 (Option.some 1)) ([c] : List Clm) := Bk.sl (l := ([c] : List Clm)) hb2510 (⟨[(.int .i64 c.Crop), (.int .i64 c.Value), (.int .i64 c.Day.Lo), (.int .i64 c.Day.Hi), (.int .i64 c.Count.Lo), (.int .i64 c.Count.Hi)], _, rfl, rfl, rfl⟩) rfl rfl _
  obtain ⟨r2514, g2515, hp⟩ := bsome hp
  refine s_openFor (l := l) (claims := ([c] : List Clm)) S2508.pre (ha100.sub k2509.fs) h2513 g2515 fun m10 f2519 c2520 c2522 e2518 h2521 h2523 => ?_
  obtain ⟨τ2524, S2516, k2517, M2525⟩ := S2508.callN e2518 h2523 τ2503 4
  have L2526 := L2511.k k2517 (by decide)
  have L2527 := L2512.k k2517 (by decide)
  refine ⟨_, _, _, rfl, ?_⟩
  intro m14 e2528
  obtain ⟨τ2531, S2529, k2530, L2532⟩ := S2516.blk e2528 τ2524 5
  have L2533 := L2526.k k2530 (by decide)
  have L2534 := L2527.k k2530 (by decide)
  have M2535 := M2525.k k2530 (by decide)
  obtain ⟨m2539, e2538, S2536, k2537, L2540⟩ := L2532.sto S2529 [c2520, c2522]
  have L2541 := L2533.k k2537 (by decide)
  have L2542 := L2534.k k2537 (by decide)
  have M2543 := M2535.k k2537 (by decide)
  refine ⟨m2539, e2538, ?_⟩
  rw [ifB_ndec]
  refine ⟨fun q2544 => ?_, fun q2544 => ?_⟩
  · skip
    rw [if_neg q2544] at hp
    obtain ⟨m2548, e2547, S2545, k2546, L2549⟩ := L2542.sto S2536 [(.int .i64 (0 : Int)), (.int .i64 (0 : Int))]
    have L2550 := L2541.k k2546 (by decide)
    have L2551 := L2540.k k2546 (by decide)
    have M2552 := M2543.k k2546 (by decide)
    refine ⟨m2548, e2547, ?_⟩
    refine ⟨_, _, L2549.bk.ra, ?_⟩
    obtain rfl := Option.some.inj hp
    exact hq _ S2545.ext'
  · skip
    rw [if_pos q2544] at hp
    refine ⟨_, _, L2540.bk.ra, _, _, _, _, _, _, L2541.bk.ra, ?_⟩
    obtain ⟨r2553, g2554, hp⟩ := bsome hp
    refine s_bounds (w := r2514.1) (c := c) S2536.pre h2521 (M2543.mc S2536) g2554 fun m28 e2557 hM2558 => ?_
    obtain ⟨S2555, k2556, M2559⟩ := S2536.callM M2543 e2557 hM2558
    have L2560 := L2541.k k2556 (by decide)
    have L2561 := L2542.k k2556 (by decide)
    have L2562 := L2540.k k2556 (by decide)
    refine ⟨_, _, rfl, ?_⟩
    obtain ⟨m2566, e2565, S2563, k2564, L2567⟩ := L2561.sto S2555 [(.int .i64 r2553.1.Lo), (.int .i64 r2553.1.Hi)]
    have L2568 := L2560.k k2564 (by decide)
    have L2569 := L2562.k k2564 (by decide)
    have M2570 := M2559.k k2564 (by decide)
    refine ⟨m2566, e2565, ?_⟩
    refine ⟨_, _, L2567.bk.ra, ?_⟩
    obtain rfl := Option.some.inj hp
    exact hq _ S2563.ext'
theorem s_Total {l : List Tf} {claims : List Clm} {ca100 ca200 : C} {m f : M} {Q : V → M → Prop} {rz : Rg × Int} (hS : Pre f m) (ha100 : Sl f ca100 l) (ha200 : Sl f ca200 claims) (hp : pTotal l claims = some rz) (hq : ∀ m', Ext m m' → Q (.tup [.agg 2 [(.int .i64 rz.1.Lo), (.int .i64 rz.1.Hi)], .c (.int .i64 rz.2)]) m') : Wc prog tbl 39 [.c ca100, .c ca200] m Q := by
  have S0 := hS.st
  obtain ⟨τ0, _⟩ : ∃ τ : Nat → Nat, True := ⟨fun _ => 0, trivial⟩
  refine w39 ?_
  unfold pTotal at hp
  intro m0 e2597
  obtain ⟨τ2600, S2598, k2599, L2601⟩ := S0.blk e2597 τ0 1
  obtain ⟨r2602, g2603, hp⟩ := bsome hp
  refine s_openFor (l := l) (claims := claims) S2598.pre ha100 ha200 g2603 fun m2 f2607 c2608 c2610 e2606 h2609 h2611 => ?_
  obtain ⟨τ2612, S2604, k2605, M2613⟩ := S2598.callN e2606 h2611 τ2600 2
  have L2614 := L2601.k k2605 (by decide)
  refine ⟨_, _, _, rfl, ?_⟩
  intro m6 e2615
  obtain ⟨τ2618, S2616, k2617, L2619⟩ := S2604.blk e2615 τ2612 3
  have L2620 := L2614.k k2617 (by decide)
  have M2621 := M2613.k k2617 (by decide)
  obtain ⟨m2625, e2624, S2622, k2623, L2626⟩ := L2619.sto S2616 [c2608, c2610]
  have L2627 := L2620.k k2623 (by decide)
  have M2628 := M2621.k k2623 (by decide)
  refine ⟨m2625, e2624, ?_⟩
  rw [ifB_ndec]
  refine ⟨fun q2629 => ?_, fun q2629 => ?_⟩
  · skip
    rw [if_neg q2629] at hp
    obtain ⟨m2633, e2632, S2630, k2631, L2634⟩ := L2627.sto S2622 [(.int .i64 (0 : Int)), (.int .i64 (0 : Int))]
    have L2635 := L2626.k k2631 (by decide)
    have M2636 := M2628.k k2631 (by decide)
    refine ⟨m2633, e2632, ?_⟩
    refine ⟨_, _, L2634.bk.ra, ?_⟩
    obtain rfl := Option.some.inj hp
    exact hq _ S2630.ext'
  · skip
    rw [if_pos q2629] at hp
    intro m11 e2637
    obtain ⟨τ2640, S2638, k2639, L2641⟩ := S2622.blk e2637 τ2618 4
    have L2642 := L2627.k k2639 (by decide)
    have L2643 := L2626.k k2639 (by decide)
    have M2644 := M2628.k k2639 (by decide)
    refine ⟨ha200.isSl, ?_⟩
    intro R12 hR12
    have hgo : ∀ (d2650 : Nat) (x13 : Int) (y2647 : Int) (y2648 : Int) (w2649 : Option (Ht → Option (Int))) (m14 : M) (τ2646 : Nat → Nat), St (Fm.of m) f f2607 m14 → Lb (Fm.of m) f2607 τ2646 m14 1 m.nxt 2 [(.int .i64 (0 : Int)), (.int .i64 (0 : Int))] → Lb (Fm.of m) f2607 τ2646 m14 3 m2.nxt 2 [c2608, c2610] → Lb (Fm.of m) f2607 τ2646 m14 4 m2625.nxt 2 [(.int .i64 y2647), (.int .i64 y2648)] → Mo (Fm.of m) f2607 τ2646 m14 2 c2610 w2649 → pTotal_L0 claims r2602 d2650 y2647 y2648 w2649 x13 = some rz → R12 [.c (.int .i64 x13)] m14 := by
      intro d2650
      induction d2650 with
      | zero => intro x13 y2647 y2648 w2649 m14 τ2646 S2645 L2642 L2643 L2641 M2644 hp; cases hp
      | succ d2650 ihR12 =>
        intro x13 y2647 y2648 w2649 m14 τ2646 S2645 L2642 L2643 L2641 M2644 hp
        refine hR12 _ _ ?_
        rw [pTotal_L0] at hp
        try rw [ha200.slLen]
        rw [ifB_dec]
        refine ⟨fun q2651 => ?_, fun q2651 => ?_⟩
        · skip
          rw [if_pos q2651] at hp
          obtain ⟨v2652, g2653, hp⟩ := bsome hp
          obtain ⟨n15, g2653i, g2653l, g2653⟩ := idx_some g2653
          obtain ⟨_, r2654⟩ := rd_Clm ha200 g2653
          refine ⟨n15, g2653i, (by first | exact g2653l | (rw [ha200.slLen]; exact g2653l)), _, _, _, _, _, _, (r2654 _ (Sub.trans k2605.fs S2645.sub)).1, ?_⟩
          intro m22 e2655
          obtain ⟨τ2658, S2656, k2657, L2659⟩ := S2645.blk e2655 τ2646 5
          have L2660 := L2642.k k2657 (by decide)
          have L2661 := L2643.k k2657 (by decide)
          have L2662 := L2641.k k2657 (by decide)
          have M2663 := M2644.k k2657 (by decide)
          obtain ⟨m2667, e2666, S2664, k2665, L2668⟩ := L2659.sto S2656 [(.int .i64 v2652.Crop), (.int .i64 v2652.Value), (.int .i64 v2652.Day.Lo), (.int .i64 v2652.Day.Hi), (.int .i64 v2652.Count.Lo), (.int .i64 v2652.Count.Hi)]
          have L2669 := L2660.k k2665 (by decide)
          have L2670 := L2661.k k2665 (by decide)
          have L2671 := L2662.k k2665 (by decide)
          have M2672 := M2663.k k2665 (by decide)
          refine ⟨m2667, e2666, ?_⟩
          refine ⟨_, _, L2670.bk.ra, _, _, _, _, _, _, L2668.bk.ra, ?_⟩
          obtain ⟨r2673, g2674, hp⟩ := bsome hp
          refine s_bounds (w := ({ tariffs := r2602.1.tariffs, parts := w2649 } : Wk)) (c := v2652) S2664.pre h2609 (M2672.mc S2664) g2674 fun m33 e2677 hM2678 => ?_
          obtain ⟨S2675, k2676, M2679⟩ := S2664.callM M2672 e2677 hM2678
          have L2680 := L2669.k k2676 (by decide)
          have L2681 := L2670.k k2676 (by decide)
          have L2682 := L2671.k k2676 (by decide)
          have L2683 := L2668.k k2676 (by decide)
          refine ⟨_, _, rfl, ?_⟩
          intro m36 e2684
          obtain ⟨τ2687, S2685, k2686, L2688⟩ := S2675.blk e2684 τ2658 6
          have L2689 := L2680.k k2686 (by decide)
          have L2690 := L2681.k k2686 (by decide)
          have L2691 := L2682.k k2686 (by decide)
          have L2692 := L2683.k k2686 (by decide)
          have M2693 := M2679.k k2686 (by decide)
          obtain ⟨m2697, e2696, S2694, k2695, L2698⟩ := L2688.sto S2685 [(.int .i64 r2673.1.Lo), (.int .i64 r2673.1.Hi)]
          have L2699 := L2689.k k2695 (by decide)
          have L2700 := L2690.k k2695 (by decide)
          have L2701 := L2691.k k2695 (by decide)
          have L2702 := L2692.k k2695 (by decide)
          have M2703 := M2693.k k2695 (by decide)
          refine ⟨m2697, e2696, ?_⟩
          refine ⟨trivial, _, L2701.bk.rc rfl, trivial, _, L2698.bk.rc rfl, ?_⟩
          obtain ⟨g2704, hp⟩ := gd_some hp
          refine ⟨g2704, trivial, ?_⟩
          obtain ⟨m2708, e2707, S2705, k2706, L2709⟩ := L2701.sto1 S2694 0 (.int .i64 (y2647 + r2673.1.Lo)) (by simp) rfl
          replace L2709 : Lb _ _ _ _ _ _ _ [(.int .i64 (y2647 + r2673.1.Lo)), (.int .i64 y2648)] := L2709
          have L2710 := L2699.k k2706 (by decide)
          have L2711 := L2700.k k2706 (by decide)
          have L2712 := L2702.k k2706 (by decide)
          have L2713 := L2698.k k2706 (by decide)
          have M2714 := M2703.k k2706 (by decide)
          refine ⟨m2708, e2707, ?_⟩
          refine ⟨trivial, _, L2709.bk.rc rfl, trivial, _, L2713.bk.rc rfl, ?_⟩
          obtain ⟨g2715, hp⟩ := gd_some hp
          refine ⟨g2715, trivial, ?_⟩
          obtain ⟨m2719, e2718, S2716, k2717, L2720⟩ := L2709.sto1 S2705 1 (.int .i64 (y2648 + r2673.1.Hi)) (by simp) rfl
          replace L2720 : Lb _ _ _ _ _ _ _ [(.int .i64 (y2647 + r2673.1.Lo)), (.int .i64 (y2648 + r2673.1.Hi))] := L2720
          have L2721 := L2710.k k2717 (by decide)
          have L2722 := L2711.k k2717 (by decide)
          have L2723 := L2712.k k2717 (by decide)
          have L2724 := L2713.k k2717 (by decide)
          have M2725 := M2714.k k2717 (by decide)
          refine ⟨m2719, e2718, ?_⟩
          obtain ⟨g2726, hp⟩ := gd_some hp
          refine ⟨g2726, ?_⟩
          exact ihR12 _ _ _ _ _ τ2687 S2716 L2721 L2722 L2720 M2725 hp
        · skip
          rw [if_neg q2651] at hp
          refine ⟨_, _, L2641.bk.ra, ?_⟩
          obtain ⟨m2730, e2729, S2727, k2728, L2731⟩ := L2642.sto S2645 [(.int .i64 y2647), (.int .i64 y2648)]
          have L2732 := L2643.k k2728 (by decide)
          have L2733 := L2641.k k2728 (by decide)
          have M2734 := M2644.k k2728 (by decide)
          refine ⟨m2730, e2729, ?_⟩
          refine ⟨_, _, L2731.bk.ra, ?_⟩
          obtain rfl := Option.some.inj hp
          exact hq _ S2727.ext'
    exact hgo _ _ _ _ _ _ τ2640 S2638 L2642 L2643 L2641 M2644 hp
theorem s_lTariffs {l : List Tf} {ca100 : C} {m f : M} {Q : V → M → Prop} {rz : List Tf} (hS : Pre f m) (ha100 : Sl f ca100 l) (hp : plTariffs l = some rz) (hq : ∀ m' f' c0, Grw m f m' f' → Sl f' c0 rz → Q (.c c0) m') : Wc prog tbl 19 [.c ca100] m Q := by
  have S0 := hS.st
  obtain ⟨τ0, _⟩ : ∃ τ : Nat → Nat, True := ⟨fun _ => 0, trivial⟩
  refine w19 ?_
  unfold plTariffs at hp
  intro R0 hR0
  have hgo : ∀ (d2948 : Nat) (c1 : C) (x2 : Int) (l2946 : List Tf) (m3 : M) (f2945 : M) (τ2944 : Nat → Nat), St (Fm.of m) f f2945 m3 → Sub f f2945 → Ow (Fm.of m) f2945 τ2944 m3 1 c1 l2946 → plTariffs_L0 l d2948 l2946 x2 = some rz → R0 [.c c1, .c (.int .i64 x2)] m3 := by
    intro d2948
    induction d2948 with
    | zero => intro c1 x2 l2946 m3 f2945 τ2944 S2943 f2945s o2947 hp; cases hp
    | succ d2948 ihR0 =>
      intro c1 x2 l2946 m3 f2945 τ2944 S2943 f2945s o2947 hp
      refine hR0 _ _ _ ?_
      rw [plTariffs_L0] at hp
      refine ⟨ha100.isSl, ?_⟩
      try rw [ha100.slLen]
      rw [ifB_dec]
      refine ⟨fun q2949 => ?_, fun q2949 => ?_⟩
      · skip
        rw [if_pos q2949] at hp
        intro m4 e2950
        obtain ⟨τ2953, S2951, k2952, hz2954⟩ := S2943.growK e2950 τ2944 2
        have o2947 := o2947.k k2952 (by decide)
        have Z2955 := hz2954 0 (by decide)
        obtain ⟨v2956, g2957, hp⟩ := bsome hp
        obtain ⟨n5, g2957i, g2957l, g2957⟩ := idx_some g2957
        obtain ⟨c2958, c2960, c2962, r2964, h2959, h2961, h2963⟩ := rd_Tf ha100 g2957
        refine ⟨n5, g2957i, (by first | exact g2957l | (rw [ha100.slLen]; exact g2957l)), (ha100.isPt g2957 _), _, ((r2964 _ (Sub.trans f2945s S2951.sub)).2.1 0 _ rfl), ?_⟩
        obtain ⟨v2965, g2966, hp⟩ := bsome hp
        obtain ⟨n7, g2966i, g2966l, g2966⟩ := idx_some g2966
        obtain ⟨c2967, c2969, c2971, r2973, h2968, h2970, h2972⟩ := rd_Tf ha100 g2966
        refine ⟨n7, g2966i, (by first | exact g2966l | (rw [ha100.slLen]; exact g2966l)), (ha100.isPt g2966 _), _, ((r2973 _ (Sub.trans f2945s S2951.sub)).2.1 1 _ rfl), ?_⟩
        obtain ⟨v2974, g2975, hp⟩ := bsome hp
        obtain ⟨n9, g2975i, g2975l, g2975⟩ := idx_some g2975
        obtain ⟨c2976, c2978, c2980, r2982, h2977, h2979, h2981⟩ := rd_Tf ha100 g2975
        refine ⟨n9, g2975i, (by first | exact g2975l | (rw [ha100.slLen]; exact g2975l)), (ha100.isPt g2975 _), _, ((r2982 _ (Sub.trans f2945s S2951.sub)).2.1 2 _ rfl), ?_⟩
        obtain ⟨v2983, g2984, hp⟩ := bsome hp
        obtain ⟨n11, g2984i, g2984l, g2984⟩ := idx_some g2984
        obtain ⟨c2985, c2987, c2989, r2991, h2986, h2988, h2990⟩ := rd_Tf ha100 g2984
        refine ⟨n11, g2984i, (by first | exact g2984l | (rw [ha100.slLen]; exact g2984l)), (ha100.isPt g2984 _), _, ((r2991 _ (Sub.trans f2945s S2951.sub)).2.1 3 _ rfl), ?_⟩
        obtain ⟨r2992, g2993, hp⟩ := bsome hp
        refine s_lList (l := v2983.Weeks) S2951.pre (h2986.sub f2945s) g2993 fun m14 f2997 c2998 e2996 h2999 => ?_
        obtain ⟨S2994, k2995⟩ := S2951.callG e2996 τ2953
        have Z3000 := Z2955.k k2995 (by decide)
        have o2947 := o2947.k k2995 (by decide)
        refine ⟨_, rfl, ((r2982 _ (Sub.trans (Sub.trans f2945s k2995.fs) S2994.sub)).2.1 2 _ rfl), ((r2973 _ (Sub.trans (Sub.trans f2945s k2995.fs) S2994.sub)).2.1 1 _ rfl), ((r2964 _ (Sub.trans (Sub.trans f2945s k2995.fs) S2994.sub)).2.1 0 _ rfl), ?_⟩
        obtain ⟨v3001, g3002, hp⟩ := bsome hp
        obtain ⟨n16, g3002i, g3002l, g3002⟩ := idx_some g3002
        obtain ⟨c3003, c3005, c3007, r3009, h3004, h3006, h3008⟩ := rd_Tf ha100 g3002
        refine ⟨n16, g3002i, (by first | exact g3002l | (rw [ha100.slLen]; exact g3002l)), (ha100.isPt g3002 _), _, ((r3009 _ (Sub.trans (Sub.trans f2945s k2995.fs) S2994.sub)).2.1 4 _ rfl), (by rw [show noFnC _ = true from h3006.noFn]; exact ((r3009 _ (Sub.trans f2945s S2951.sub)).2.1 4 _ rfl)), ?_⟩
        obtain ⟨r3010, g3011, hp⟩ := bsome hp
        refine s_lList (l := v3001.Counts) S2994.pre (h3006.sub (Sub.trans f2945s k2995.fs)) g3011 fun m19 f3015 c3016 e3014 h3017 => ?_
        obtain ⟨S3012, k3013⟩ := S2994.callG e3014 τ2953
        have Z3018 := Z3000.k k3013 (by decide)
        have o2947 := o2947.k k3013 (by decide)
        refine ⟨_, rfl, ((r2982 _ (Sub.trans (Sub.trans (Sub.trans f2945s k2995.fs) k3013.fs) S3012.sub)).2.1 2 _ rfl), ((r2973 _ (Sub.trans (Sub.trans (Sub.trans f2945s k2995.fs) k3013.fs) S3012.sub)).2.1 1 _ rfl), ((r2964 _ (Sub.trans (Sub.trans (Sub.trans f2945s k2995.fs) k3013.fs) S3012.sub)).2.1 0 _ rfl), ?_⟩
        intro m21 e3019
        obtain ⟨S3020, k3021, L3022⟩ := Z3018.set S3012 e3019
        have o2947 := o2947.k k3021 (by decide)
        refine ⟨(by rw [show noFnC _ = true from h3006.noFn]; exact ((r3009 _ (Sub.trans (Sub.trans (Sub.trans f2945s k2995.fs) k3013.fs) S3020.sub)).2.1 4 _ rfl)), (by rw [show noFnC _ = true from h2986.noFn]; exact ((r2991 _ (Sub.trans (Sub.trans (Sub.trans f2945s k2995.fs) k3013.fs) S3020.sub)).2.1 3 _ rfl)), ((r2982 _ (Sub.trans (Sub.trans (Sub.trans f2945s k2995.fs) k3013.fs) S3020.sub)).2.1 2 _ rfl), ((r2973 _ (Sub.trans (Sub.trans (Sub.trans f2945s k2995.fs) k3013.fs) S3020.sub)).2.1 1 _ rfl), ((r2964 _ (Sub.trans (Sub.trans (Sub.trans f2945s k2995.fs) k3013.fs) S3020.sub)).2.1 0 _ rfl), ?_⟩
        obtain ⟨m3026, e3025, S3023, k3024, L3027⟩ := L3022.sto S3020 [(.int .i64 v2956.From), (.bool v2965.Whole), (.int .i64 v2974.Least), c2998, c3016, .sl0]
        have o2947 := o2947.k k3024 (by decide)
        refine ⟨m3026, e3025, ?_⟩
        intro R23 hR23
        have hgo : ∀ (d3037 : Nat) (x24 : Int) (c3035 : C) (y3031 : Int) (y3032 : Bool) (y3033 : Int) (y3034 : List (List (List Int))) (m25 : M) (f3030 : M) (τ3029 : Nat → Nat), St (Fm.of m) f f3030 m25 → Sub f3015 f3030 → Lb (Fm.of m) f3030 τ3029 m25 2 (m3.nxt + 0) 6 [(.int .i64 y3031), (.bool y3032), (.int .i64 y3033), c2998, c3016, c3035] → Ow (Fm.of m) f3030 τ3029 m25 3 c3035 y3034 → Ow (Fm.of m) f3030 τ3029 m25 1 c1 l2946 → plTariffs_L1 l l2946 x2 r2992 r3010 (plTariffs_L0 l d2948) d3037 y3031 y3032 y3033 y3034 x24 = some rz → R23 [.c (.int .i64 x24)] m25 := by
          intro d3037
          induction d3037 with
          | zero => intro x24 c3035 y3031 y3032 y3033 y3034 m25 f3030 τ3029 S3028 f3030s L3027 o3036 o2947 hp; cases hp
          | succ d3037 ihR23 =>
            intro x24 c3035 y3031 y3032 y3033 y3034 m25 f3030 τ3029 S3028 f3030s L3027 o3036 o2947 hp
            refine hR23 _ _ ?_
            rw [plTariffs_L1] at hp
            obtain ⟨v3038, g3039, hp⟩ := bsome hp
            obtain ⟨n26, g3039i, g3039l, g3039⟩ := idx_some g3039
            obtain ⟨c3040, c3042, c3044, r3046, h3041, h3043, h3045⟩ := rd_Tf ha100 g3039
            refine ⟨n26, g3039i, (by first | exact g3039l | (rw [ha100.slLen]; exact g3039l)), (ha100.isPt g3039 _), _, ((r3046 _ (Sub.trans (Sub.trans (Sub.trans (Sub.trans f2945s k2995.fs) k3013.fs) f3030s) S3028.sub)).2.1 5 _ rfl), h3045.isSl, ?_⟩
            try rw [h3045.slLen]
            rw [ifB_dec]
            refine ⟨fun q3047 => ?_, fun q3047 => ?_⟩
            · skip
              rw [if_pos q3047] at hp
              intro R28 hR28
              have hgo : ∀ (d3053 : Nat) (c29 : C) (x30 : Int) (l3051 : List (List Int)) (m31 : M) (f3050 : M) (τ3049 : Nat → Nat), St (Fm.of m) f f3050 m31 → Sub f3030 f3050 → Lb (Fm.of m) f3050 τ3049 m31 2 (m3.nxt + 0) 6 [(.int .i64 y3031), (.bool y3032), (.int .i64 y3033), c2998, c3016, c3035] → Ow (Fm.of m) f3050 τ3049 m31 4 c29 l3051 → Ow (Fm.of m) f3050 τ3049 m31 1 c1 l2946 → Ow (Fm.of m) f3050 τ3049 m31 3 c3035 y3034 → plTariffs_L2 l x2 y3031 y3032 y3033 y3034 x24 (plTariffs_L1 l l2946 x2 r2992 r3010 (plTariffs_L0 l d2948) d3037) d3053 l3051 x30 = some rz → R28 [.c c29, .c (.int .i64 x30)] m31 := by
                intro d3053
                induction d3053 with
                | zero => intro c29 x30 l3051 m31 f3050 τ3049 S3048 f3050s L3027 o3052 o2947 o3036 hp; cases hp
                | succ d3053 ihR28 =>
                  intro c29 x30 l3051 m31 f3050 τ3049 S3048 f3050s L3027 o3052 o2947 o3036 hp
                  refine hR28 _ _ _ ?_
                  rw [plTariffs_L2] at hp
                  obtain ⟨v3054, g3055, hp⟩ := bsome hp
                  obtain ⟨n32, g3055i, g3055l, g3055⟩ := idx_some g3055
                  obtain ⟨c3056, c3058, c3060, r3062, h3057, h3059, h3061⟩ := rd_Tf ha100 g3055
                  refine ⟨n32, g3055i, (by first | exact g3055l | (rw [ha100.slLen]; exact g3055l)), (ha100.isPt g3055 _), _, ((r3062 _ (Sub.trans (Sub.trans (Sub.trans (Sub.trans (Sub.trans f2945s k2995.fs) k3013.fs) f3030s) f3050s) S3048.sub)).2.1 5 _ rfl), ?_⟩
                  obtain ⟨v3063, g3064, hp⟩ := bsome hp
                  obtain ⟨n34, g3064i, g3064l, g3064⟩ := idx_some g3064
                  obtain ⟨c3065, r3066, h3067⟩ := h3061.rdS g3064
                  refine ⟨n34, g3064i, (by first | exact g3064l | (rw [h3061.slLen]; exact g3064l)), _, (r3066 _ (Sub.trans (Sub.trans (Sub.trans (Sub.trans (Sub.trans f2945s k2995.fs) k3013.fs) f3030s) f3050s) S3048.sub)), h3067.isSl, ?_⟩
                  try rw [h3067.slLen]
                  rw [ifB_dec]
                  refine ⟨fun q3068 => ?_, fun q3068 => ?_⟩
                  · skip
                    rw [if_pos q3068] at hp
                    obtain ⟨v3069, g3070, hp⟩ := bsome hp
                    obtain ⟨n36, g3070i, g3070l, g3070⟩ := idx_some g3070
                    obtain ⟨c3071, c3073, c3075, r3077, h3072, h3074, h3076⟩ := rd_Tf ha100 g3070
                    refine ⟨n36, g3070i, (by first | exact g3070l | (rw [ha100.slLen]; exact g3070l)), (ha100.isPt g3070 _), _, ((r3077 _ (Sub.trans (Sub.trans (Sub.trans (Sub.trans (Sub.trans f2945s k2995.fs) k3013.fs) f3030s) f3050s) S3048.sub)).2.1 5 _ rfl), ?_⟩
                    obtain ⟨v3078, g3079, hp⟩ := bsome hp
                    obtain ⟨n38, g3079i, g3079l, g3079⟩ := idx_some g3079
                    obtain ⟨c3080, r3081, h3082⟩ := h3076.rdS g3079
                    refine ⟨n38, g3079i, (by first | exact g3079l | (rw [h3076.slLen]; exact g3079l)), _, (r3081 _ (Sub.trans (Sub.trans (Sub.trans (Sub.trans (Sub.trans f2945s k2995.fs) k3013.fs) f3030s) f3050s) S3048.sub)), ?_⟩
                    obtain ⟨v3083, g3084, hp⟩ := bsome hp
                    obtain ⟨n40, g3084i, g3084l, g3084⟩ := idx_some g3084
                    obtain ⟨c3085, r3086, h3087⟩ := h3082.rdS g3084
                    refine ⟨n40, g3084i, (by first | exact g3084l | (rw [h3082.slLen]; exact g3084l)), _, (r3086 _ (Sub.trans (Sub.trans (Sub.trans (Sub.trans (Sub.trans f2945s k2995.fs) k3013.fs) f3030s) f3050s) S3048.sub)), ?_⟩
                    obtain ⟨r3088, g3089, hp⟩ := bsome hp
                    refine s_lList (l := v3083) S3048.pre (h3087.sub (Sub.trans (Sub.trans (Sub.trans (Sub.trans f2945s k2995.fs) k3013.fs) f3030s) f3050s)) g3089 fun m43 f3093 c3094 e3092 h3095 => ?_
                    obtain ⟨S3090, k3091⟩ := S3048.callG e3092 τ3049
                    have L3096 := L3027.k k3091 (by decide)
                    have o2947 := o2947.k k3091 (by decide)
                    have o3036 := o3036.k k3091 (by decide)
                    have o3052 := o3052.k k3091 (by decide)
                    refine ⟨_, rfl, ?_⟩
                    obtain ⟨g3105, hp⟩ := gd_some hp
                    intro m45 e3097
                    obtain ⟨c3101, m3102, τ3100, a3103, S3098, k3099, o3104⟩ := o3052.app' ta77 S3090 (a := r3088) (show Rp.rep (α := List Int) f3093 _ r3088 from ⟨_, rfl, h3095⟩) g3105 e3097
                    have L3106 := L3096.k k3099 (by decide)
                    have o2947 := o2947.k k3099 (by decide)
                    have o3036 := o3036.k k3099 (by decide)
                    refine ⟨c3101, m3102, a3103, ?_⟩
                    obtain ⟨g3107, hp⟩ := gd_some hp
                    refine ⟨g3107, ?_⟩
                    exact ihR28 _ _ _ _ f3093 τ3100 S3098 (Sub.trans f3050s k3091.fs) L3106 o3104 o2947 o3036 hp
                  · skip
                    rw [if_neg q3068] at hp
                    refine ⟨trivial, _, L3027.bk.rc rfl, ?_⟩
                    obtain ⟨f3108, S3109, k3110, h3111⟩ := o3052.freeze S3048
                    have L3112 := L3027.k k3110 (by decide)
                    have o2947 := o2947.k k3110 (by decide)
                    have o3036 := o3036.k k3110 (by decide)
                    obtain ⟨g3121, hp⟩ := gd_some hp
                    intro m49 e3113
                    obtain ⟨c3117, m3118, τ3116, a3119, S3114, k3115, o3120⟩ := o3036.app' ta74 S3109 (a := l3051) (show Rp.rep (α := List (List Int)) f3108 _ l3051 from ⟨_, rfl, h3111⟩) g3121 e3113
                    have L3122 := L3112.k k3115 (by decide)
                    have o2947 := o2947.k k3115 (by decide)
                    have o3123 := o3052.k k3115.old (by decide)
                    refine ⟨c3117, m3118, a3119, ?_⟩
                    refine ⟨trivial, ?_⟩
                    obtain ⟨m3127, e3126, S3124, k3125, L3128⟩ := L3122.sto1 S3114 5 c3117 (by simp) rfl
                    replace L3128 : Lb _ _ _ _ _ _ _ [(.int .i64 y3031), (.bool y3032), (.int .i64 y3033), c2998, c3016, c3117] := L3128
                    have o2947 := o2947.k k3125 (by decide)
                    have o3120 := o3120.k k3125 (by decide)
                    have o3129 := o3123.k k3125.old (by decide)
                    refine ⟨m3127, e3126, ?_⟩
                    obtain ⟨g3130, hp⟩ := gd_some hp
                    refine ⟨g3130, ?_⟩
                    exact ihR23 _ _ _ _ _ _ _ f3108 τ3116 S3124 (Sub.trans (Sub.trans f3030s f3050s) k3110.fs) L3128 o3120 o2947 hp
              exact hgo _ _ _ _ _ f3030 τ3029 S3028 (Sub.refl _) L3027 (Ow.nil _ _ _ _ _) o2947 o3036 hp
            · skip
              rw [if_neg q3047] at hp
              refine ⟨_, _, _, _, _, _, L3027.bk.ra, ?_⟩
              obtain ⟨f3131, S3132, k3133, h3134⟩ := o3036.freeze S3028
              have L3135 := L3027.k k3133 (by decide)
              have o2947 := o2947.k k3133 (by decide)
              obtain ⟨g3144, hp⟩ := gd_some hp
              intro m59 e3136
              obtain ⟨c3140, m3141, τ3139, a3142, S3137, k3138, o3143⟩ := o2947.app' ta28 S3132 (a := ({ From := y3031, Whole := y3032, Least := y3033, Weeks := r2992, Counts := r3010, Rates := y3034 } : Tf)) (show Rp.rep (α := Tf) f3131 _ ({ From := y3031, Whole := y3032, Least := y3033, Weeks := r2992, Counts := r3010, Rates := y3034 } : Tf) from ⟨_, _, _, rfl, (h2999.sub (Sub.trans (Sub.trans k3013.fs f3030s) k3133.fs)), (h3017.sub (Sub.trans f3030s k3133.fs)), h3134⟩) g3144 e3136
              have L3145 := L3135.k k3138 (by decide)
              have o3146 := o3036.k k3138.old (by decide)
              refine ⟨c3140, m3141, a3142, ?_⟩
              obtain ⟨g3147, hp⟩ := gd_some hp
              refine ⟨g3147, ?_⟩
              exact ihR0 _ _ _ _ f3131 τ3139 S3137 (Sub.trans (Sub.trans (Sub.trans (Sub.trans f2945s k2995.fs) k3013.fs) f3030s) k3133.fs) o3143 hp
        exact hgo _ _ _ _ _ _ _ _ f3015 τ2953 S3023 (Sub.refl _) L3027 (Ow.nil _ _ _ _ _) o2947 hp
      · skip
        rw [if_neg q2949] at hp
        obtain ⟨f3148, S3149, k3150, h3151⟩ := o2947.freeze S2943
        obtain rfl := Option.some.inj hp
        exact hq _ f3148 c1 S3149.grw h3151
  exact hgo _ _ _ _ _ f τ0 S0 (Sub.refl _) (Ow.nil _ _ _ _ _) hp
theorem s_TariffAll {l : List Tf} {claims : List Clm} {more : Clm} {wd : Int} {ca100 ca200 : C} {m f : M} {Q : V → M → Prop} {rz : Bool} (hS : Pre f m) (ha100 : Sl f ca100 l) (ha200 : Sl f ca200 claims) (hp : pTariffAll l claims more wd = some rz) (hq : ∀ m', Ext m m' → Q (.c (.bool rz)) m') : Wc prog tbl 15 [.c ca100, .c ca200, .agg 6 [(.int .i64 more.Crop), (.int .i64 more.Value), (.int .i64 more.Day.Lo), (.int .i64 more.Day.Hi), (.int .i64 more.Count.Lo), (.int .i64 more.Count.Hi)], .c (.int .u8 wd)] m Q := by
  have S0 := hS.st
  obtain ⟨τ0, _⟩ : ∃ τ : Nat → Nat, True := ⟨fun _ => 0, trivial⟩
  refine w15 ?_
  unfold pTariffAll at hp
  intro m0 e4974
  obtain ⟨τ4977, S4975, k4976, L4978⟩ := S0.blk e4974 τ0 1
  refine ⟨_, _, _, _, _, _, L4978.bk.ra, ?_⟩
  obtain ⟨r4979, g4980, hp⟩ := bsome hp
  refine s_lFine (l := l) (c := more) S4975.pre ha100 g4980 fun m8 e4983 => ?_
  obtain ⟨S4981, k4982⟩ := S4975.call e4983 τ4977
  have L4984 := L4978.k k4982 (by decide)
  refine ⟨_, rfl, ?_⟩
  rw [ifB_iff]
  refine ⟨fun q4985 => ?_, fun q4985 => ?_⟩
  · skip
    rw [bif_neg (nb_f q4985)] at hp
    obtain ⟨r4986, g4987, hp⟩ := bsome hp
    refine s_awake S4981.pre  g4987 fun m11 e4990 => ?_
    obtain ⟨S4988, k4989⟩ := S4981.call e4990 τ4977
    have L4991 := L4984.k k4989 (by decide)
    refine ⟨_, rfl, ?_⟩
    obtain rfl := Option.some.inj hp
    exact hq _ S4988.ext'
  · skip
    rw [if_pos (nb_t q4985)] at hp
    refine ⟨ha200.isSl, ?_⟩
    try rw [ha200.slLen]
    rw [ifB_dec]
    refine ⟨fun q4992 => ?_, fun q4992 => ?_⟩
    · skip
      rw [if_pos q4992] at hp
      obtain ⟨r4993, g4994, hp⟩ := bsome hp
      refine s_awake S4981.pre  g4994 fun m14 e4997 => ?_
      obtain ⟨S4995, k4996⟩ := S4981.call e4997 τ4977
      have L4998 := L4984.k k4996 (by decide)
      refine ⟨_, rfl, ?_⟩
      obtain rfl := Option.some.inj hp
      exact hq _ S4995.ext'
    · skip
      rw [if_neg q4992] at hp
      intro R16 hR16
      have hgo : ∀ (d5002 : Nat) (b17 : Bool) (x18 : Int) (m19 : M) (f5001 : M) (τ5000 : Nat → Nat), St (Fm.of m) f f5001 m19 → Sub f f5001 → Lb (Fm.of m) f5001 τ5000 m19 1 m.nxt 6 [(.int .i64 more.Crop), (.int .i64 more.Value), (.int .i64 more.Day.Lo), (.int .i64 more.Day.Hi), (.int .i64 more.Count.Lo), (.int .i64 more.Count.Hi)] → pTariffAll_L0 l claims more wd d5002 x18 = some rz → R16 [.c (.bool b17), .c (.int .i64 x18)] m19 := by
        intro d5002
        induction d5002 with
        | zero => intro b17 x18 m19 f5001 τ5000 S4999 f5001s L4984 hp; cases hp
        | succ d5002 ihR16 =>
          intro b17 x18 m19 f5001 τ5000 S4999 f5001s L4984 hp
          refine hR16 _ _ _ ?_
          rw [pTariffAll_L0] at hp
          refine ⟨ha200.isSl, ?_⟩
          try rw [ha200.slLen]
          rw [ifB_dec]
          refine ⟨fun q5003 => ?_, fun q5003 => ?_⟩
          · skip
            rw [if_pos q5003] at hp
            obtain ⟨v5004, g5005, hp⟩ := bsome hp
            obtain ⟨n20, g5005i, g5005l, g5005⟩ := idx_some g5005
            obtain ⟨_, r5006⟩ := rd_Clm ha200 g5005
            refine ⟨n20, g5005i, (by first | exact g5005l | (rw [ha200.slLen]; exact g5005l)), _, _, _, _, _, _, (r5006 _ (Sub.trans f5001s S4999.sub)).1, ?_⟩
            obtain ⟨r5007, g5008, hp⟩ := bsome hp
            refine s_lFine (l := l) (c := v5004) S4999.pre (ha100.sub f5001s) g5008 fun m28 e5011 => ?_
            obtain ⟨S5009, k5010⟩ := S4999.call e5011 τ5000
            have L5012 := L4984.k k5010 (by decide)
            refine ⟨_, rfl, ?_⟩
            rw [ifB_iff]
            refine ⟨fun q5013 => ?_, fun q5013 => ?_⟩
            · skip
              rw [bif_neg (nb_f q5013)] at hp
              obtain ⟨r5014, g5015, hp⟩ := bsome hp
              refine s_awake S5009.pre  g5015 fun m31 e5018 => ?_
              obtain ⟨S5016, k5017⟩ := S5009.call e5018 τ5000
              have L5019 := L5012.k k5017 (by decide)
              refine ⟨_, rfl, ?_⟩
              obtain rfl := Option.some.inj hp
              exact hq _ S5016.ext'
            · skip
              rw [if_pos (nb_t q5013)] at hp
              obtain ⟨g5020, hp⟩ := gd_some hp
              refine ⟨g5020, ?_⟩
              exact ihR16 _ _ _ f5001 τ5000 S5009 f5001s L5012 hp
          · skip
            rw [if_neg q5003] at hp
            intro R33 hR33
            have hgo : ∀ (d5026 : Nat) (c34 : C) (x35 : Int) (l5024 : List Clm) (m36 : M) (f5023 : M) (τ5022 : Nat → Nat), St (Fm.of m) f f5023 m36 → Sub f5001 f5023 → Lb (Fm.of m) f5023 τ5022 m36 1 m.nxt 6 [(.int .i64 more.Crop), (.int .i64 more.Value), (.int .i64 more.Day.Lo), (.int .i64 more.Day.Hi), (.int .i64 more.Count.Lo), (.int .i64 more.Count.Hi)] → Ow (Fm.of m) f5023 τ5022 m36 2 c34 l5024 → pTariffAll_L1 l claims more wd d5026 l5024 x35 = some rz → R33 [.c c34, .c (.int .i64 x35)] m36 := by
              intro d5026
              induction d5026 with
              | zero => intro c34 x35 l5024 m36 f5023 τ5022 S5021 f5023s L4984 o5025 hp; cases hp
              | succ d5026 ihR33 =>
                intro c34 x35 l5024 m36 f5023 τ5022 S5021 f5023s L4984 o5025 hp
                refine hR33 _ _ _ ?_
                rw [pTariffAll_L1] at hp
                refine ⟨ha200.isSl, ?_⟩
                try rw [ha200.slLen]
                rw [ifB_dec]
                refine ⟨fun q5027 => ?_, fun q5027 => ?_⟩
                · skip
                  rw [if_pos q5027] at hp
                  obtain ⟨g5028, hp⟩ := gd_some hp
                  refine ⟨g5028, ha200.isSl, ?_⟩
                  obtain ⟨g5029, hp⟩ := gd_some hp
                  refine ⟨g5029, ?_⟩
                  obtain ⟨g5030, hp⟩ := gd_some hp
                  refine ⟨(by first | exact g5030 | (rw [ha200.slLen]; exact g5030)), ?_⟩
                  obtain ⟨g5031, hp⟩ := gd_some hp
                  refine ⟨(by first | exact g5031 | (rw [ha200.slLen]; exact g5031)), ?_⟩
                  obtain ⟨v5032, g5033, hp⟩ := bsome hp
                  obtain ⟨n37, g5033i, g5033l, g5033⟩ := idx_some g5033
                  obtain ⟨_, r5034⟩ := rd_Clm ha200 g5033
                  refine ⟨n37, (by first | exact g5033i | (rw [ha200.slLen]; exact g5033i)), (by first | exact g5033l | (rw [ha200.slLen]; exact g5033l)), _, _, _, _, _, _, (r5034 _ (Sub.trans (Sub.trans f5001s f5023s) S5021.sub)).1, ?_⟩
                  obtain ⟨g5043, hp⟩ := gd_some hp
                  intro m44 e5035
                  obtain ⟨c5039, m5040, τ5038, a5041, S5036, k5037, o5042⟩ := o5025.app' ta64 S5021 (a := v5032) (show Rp.rep (α := Clm) f5023 _ v5032 from rfl) g5043 e5035
                  have L5044 := L4984.k k5037 (by decide)
                  refine ⟨c5039, m5040, a5041, ?_⟩
                  obtain ⟨g5045, hp⟩ := gd_some hp
                  refine ⟨g5045, ?_⟩
                  exact ihR33 _ _ _ _ f5023 τ5038 S5036 f5023s L5044 o5042 hp
                · skip
                  rw [if_neg q5027] at hp
                  obtain ⟨r5046, g5047, hp⟩ := bsome hp
                  refine s_lTariffs (l := l) S5021.pre (ha100.sub (Sub.trans f5001s f5023s)) g5047 fun m48 f5051 c5052 e5050 h5053 => ?_
                  obtain ⟨S5048, k5049⟩ := S5021.callG e5050 τ5022
                  have L5054 := L4984.k k5049 (by decide)
                  have o5025 := o5025.k k5049 (by decide)
                  refine ⟨_, rfl, ?_⟩
                  obtain ⟨r5055, g5056, hp⟩ := bsome hp
                  refine s_lClaims (l := claims) S5048.pre (ha200.sub (Sub.trans (Sub.trans f5001s f5023s) k5049.fs)) g5056 fun m51 f5060 c5061 e5059 h5062 => ?_
                  obtain ⟨S5057, k5058⟩ := S5048.callG e5059 τ5022
                  have L5063 := L5054.k k5058 (by decide)
                  have o5025 := o5025.k k5058 (by decide)
                  refine ⟨_, rfl, ?_⟩
                  obtain ⟨r5064, g5065, hp⟩ := bsome hp
                  refine s_Total (l := r5046) (claims := r5055) S5057.pre (h5053.sub k5058.fs) h5062 g5065 fun m54 e5068 => ?_
                  obtain ⟨S5066, k5067⟩ := S5057.call e5068 τ5022
                  have L5069 := L5063.k k5067 (by decide)
                  have o5025 := o5025.k k5067 (by decide)
                  refine ⟨_, _, _, rfl, ?_⟩
                  intro m58 e5070
                  obtain ⟨τ5073, S5071, k5072, L5074⟩ := S5066.blk e5070 τ5022 3
                  have L5075 := L5069.k k5072 (by decide)
                  have o5025 := o5025.k k5072 (by decide)
                  obtain ⟨m5079, e5078, S5076, k5077, L5080⟩ := L5074.sto S5071 [(.int .i64 r5064.1.Lo), (.int .i64 r5064.1.Hi)]
                  have L5081 := L5075.k k5077 (by decide)
                  have o5025 := o5025.k k5077 (by decide)
                  refine ⟨m5079, e5078, ?_⟩
                  obtain ⟨r5082, g5083, hp⟩ := bsome hp
                  refine s_lTariffs (l := l) S5076.pre (ha100.sub (Sub.trans (Sub.trans (Sub.trans f5001s f5023s) k5049.fs) k5058.fs)) g5083 fun m61 f5087 c5088 e5086 h5089 => ?_
                  obtain ⟨S5084, k5085⟩ := S5076.callG e5086 τ5073
                  have L5090 := L5081.k k5085 (by decide)
                  have L5091 := L5080.k k5085 (by decide)
                  have o5025 := o5025.k k5085 (by decide)
                  refine ⟨_, rfl, ?_⟩
                  obtain ⟨f5092, S5093, k5094, h5095⟩ := o5025.freeze S5084
                  have L5096 := L5090.k k5094 (by decide)
                  have L5097 := L5091.k k5094 (by decide)
                  obtain ⟨r5098, g5099, hp⟩ := bsome hp
                  refine s_lClaims (l := l5024) S5093.pre h5095 g5099 fun m64 f5103 c5104 e5102 h5105 => ?_
                  obtain ⟨S5100, k5101⟩ := S5093.callG e5102 τ5073
                  have L5106 := L5096.k k5101 (by decide)
                  have L5107 := L5097.k k5101 (by decide)
                  have o5108 := o5025.k k5101.old (by decide)
                  refine ⟨_, rfl, ?_⟩
                  obtain ⟨r5109, g5110, hp⟩ := bsome hp
                  refine s_Total (l := r5082) (claims := r5098) S5100.pre (h5089.sub (Sub.trans k5094.fs k5101.fs)) h5105 g5110 fun m67 e5113 => ?_
                  obtain ⟨S5111, k5112⟩ := S5100.call e5113 τ5073
                  have L5114 := L5106.k k5112 (by decide)
                  have L5115 := L5107.k k5112 (by decide)
                  have o5116 := o5108.k k5112.old (by decide)
                  have S5117 := S5111.forget S5084 (Sub.trans k5094.fs k5101.fs)
                  have L5118 := L5114.forget S5084 (Sub.trans k5094.fs k5101.fs)
                  have L5119 := L5115.forget S5084 (Sub.trans k5094.fs k5101.fs)
                  refine ⟨_, _, _, rfl, ?_⟩
                  intro m71 e5120
                  obtain ⟨τ5123, S5121, k5122, L5124⟩ := S5117.blk e5120 τ5073 4
                  have L5125 := L5118.k k5122 (by decide)
                  have L5126 := L5119.k k5122 (by decide)
                  have o5116 := o5116.k k5122 (by decide)
                  obtain ⟨m5130, e5129, S5127, k5128, L5131⟩ := L5124.sto S5121 [(.int .i64 r5109.1.Lo), (.int .i64 r5109.1.Hi)]
                  have L5132 := L5125.k k5128 (by decide)
                  have L5133 := L5126.k k5128 (by decide)
                  have o5116 := o5116.k k5128 (by decide)
                  refine ⟨m5130, e5129, ?_⟩
                  intro m73 e5134
                  obtain ⟨τ5137, S5135, k5136, hz5138⟩ := S5127.growK e5134 τ5123 5
                  have L5139 := L5132.k k5136 (by decide)
                  have L5140 := L5133.k k5136 (by decide)
                  have L5141 := L5131.k k5136 (by decide)
                  have o5116 := o5116.k k5136 (by decide)
                  have Z5142 := hz5138 0 (by decide)
                  obtain ⟨r5143, g5144, hp⟩ := bsome hp
                  refine s_lTariffs (l := l) S5135.pre (ha100.sub (Sub.trans (Sub.trans (Sub.trans (Sub.trans f5001s f5023s) k5049.fs) k5058.fs) k5085.fs)) g5144 fun m75 f5148 c5149 e5147 h5150 => ?_
                  obtain ⟨S5145, k5146⟩ := S5135.callG e5147 τ5137
                  have L5151 := L5139.k k5146 (by decide)
                  have L5152 := L5140.k k5146 (by decide)
                  have L5153 := L5141.k k5146 (by decide)
                  have Z5154 := Z5142.k k5146 (by decide)
                  have o5116 := o5116.k k5146 (by decide)
                  refine ⟨_, rfl, _, _, _, _, _, _, L5151.bk.ra, (L5139.bk.ra), ?_⟩
                  obtain ⟨r5155, g5156, hp⟩ := bsome hp
                  refine s_lClaim (c := more) S5145.pre  g5156 fun m84 e5159 => ?_
                  obtain ⟨S5157, k5158⟩ := S5145.call e5159 τ5137
                  have L5160 := L5151.k k5158 (by decide)
                  have L5161 := L5152.k k5158 (by decide)
                  have L5162 := L5153.k k5158 (by decide)
                  have Z5163 := Z5154.k k5158 (by decide)
                  have o5116 := o5116.k k5158 (by decide)
                  refine ⟨_, _, _, _, _, _, rfl, ?_⟩
                  obtain ⟨r5164, g5165, hp⟩ := bsome hp
                  refine s_Bounds (l := r5143) (c := r5155) S5157.pre h5150 g5165 fun m92 e5168 => ?_
                  obtain ⟨S5166, k5167⟩ := S5157.call e5168 τ5137
                  have L5169 := L5160.k k5167 (by decide)
                  have L5170 := L5161.k k5167 (by decide)
                  have L5171 := L5162.k k5167 (by decide)
                  have Z5172 := Z5163.k k5167 (by decide)
                  have o5116 := o5116.k k5167 (by decide)
                  refine ⟨_, _, _, rfl, ?_⟩
                  intro m96 e5173
                  obtain ⟨S5174, k5175, L5176⟩ := Z5172.set S5166 e5173
                  have L5177 := L5169.k k5175 (by decide)
                  have L5178 := L5170.k k5175 (by decide)
                  have L5179 := L5171.k k5175 (by decide)
                  have o5116 := o5116.k k5175 (by decide)
                  refine ⟨(L5177.bk.ra), ?_⟩
                  obtain ⟨m5183, e5182, S5180, k5181, L5184⟩ := L5176.sto S5174 [(.int .i64 r5164.1.Lo), (.int .i64 r5164.1.Hi)]
                  have L5185 := L5177.k k5181 (by decide)
                  have L5186 := L5178.k k5181 (by decide)
                  have L5187 := L5179.k k5181 (by decide)
                  have o5116 := o5116.k k5181 (by decide)
                  refine ⟨m5183, e5182, ?_⟩
                  intro m98 e5188
                  obtain ⟨τ5191, S5189, k5190, hz5192⟩ := S5180.growK e5188 τ5137 6
                  have L5193 := L5185.k k5190 (by decide)
                  have L5194 := L5186.k k5190 (by decide)
                  have L5195 := L5187.k k5190 (by decide)
                  have L5196 := L5184.k k5190 (by decide)
                  have o5116 := o5116.k k5190 (by decide)
                  have Z5197 := hz5192 0 (by decide)
                  have Z5198 := hz5192 1 (by decide)
                  obtain ⟨r5199, g5200, hp⟩ := bsome hp
                  refine s_lTariffs (l := l) S5189.pre (ha100.sub (Sub.trans (Sub.trans (Sub.trans (Sub.trans (Sub.trans f5001s f5023s) k5049.fs) k5058.fs) k5085.fs) k5146.fs)) g5200 fun m100 f5204 c5205 e5203 h5206 => ?_
                  obtain ⟨S5201, k5202⟩ := S5189.callG e5203 τ5191
                  have L5207 := L5193.k k5202 (by decide)
                  have L5208 := L5194.k k5202 (by decide)
                  have L5209 := L5195.k k5202 (by decide)
                  have L5210 := L5196.k k5202 (by decide)
                  have Z5211 := Z5197.k k5202 (by decide)
                  have Z5212 := Z5198.k k5202 (by decide)
                  have o5116 := o5116.k k5202 (by decide)
                  refine ⟨_, rfl, _, _, _, _, _, _, L5207.bk.ra, (L5193.bk.ra), ?_⟩
                  intro m108 e5213
                  obtain ⟨S5214, k5215, L5216⟩ := Z5211.set S5201 e5213
                  have L5217 := L5207.k k5215 (by decide)
                  have L5218 := L5208.k k5215 (by decide)
                  have L5219 := L5209.k k5215 (by decide)
                  have L5220 := L5210.k k5215 (by decide)
                  have Z5221 := Z5212.k k5215 (by decide)
                  have o5116 := o5116.k k5215 (by decide)
                  obtain ⟨f5222, S5223, k5224, hb5225⟩ := L5216.freeze S5214
                  have L5226 := L5217.k k5224 (by decide)
                  have L5227 := L5218.k k5224 (by decide)
                  have L5228 := L5219.k k5224 (by decide)
                  have L5229 := L5220.k k5224 (by decide)
                  have Z5230 := Z5221.k k5224 (by decide)
                  have o5116 := o5116.k k5224 (by decide)
                  have h5231 : Sl f5222 (C.sl (m5183.nxt + 0) 0 1 0 (Option.some 1)) ([more] : List Clm) := Bk.sl (l := ([more] : List Clm)) hb5225 (⟨[(.int .i64 more.Crop), (.int .i64 more.Value), (.int .i64 more.Day.Lo), (.int .i64 more.Day.Hi), (.int .i64 more.Count.Lo), (.int .i64 more.Count.Hi)], _, rfl, rfl, rfl⟩) rfl rfl _
                  obtain ⟨g5239, hp⟩ := gd_some hp
                  obtain ⟨c5235, m5236, τ5234, a5237, S5232, k5233, o5238⟩ := o5116.appL ta64 S5223 h5231 g5239
                  have L5240 := L5226.k k5233 (by decide)
                  have L5241 := L5227.k k5233 (by decide)
                  have L5242 := L5228.k k5233 (by decide)
                  have L5243 := L5229.k k5233 (by decide)
                  have Z5244 := Z5230.k k5233 (by decide)
                  refine ⟨c5235, m5236, a5237, ?_⟩
                  obtain ⟨f5245, S5246, k5247, h5248⟩ := o5238.freeze S5232
                  have L5249 := L5240.k k5247 (by decide)
                  have L5250 := L5241.k k5247 (by decide)
                  have L5251 := L5242.k k5247 (by decide)
                  have L5252 := L5243.k k5247 (by decide)
                  have Z5253 := Z5244.k k5247 (by decide)
                  obtain ⟨r5254, g5255, hp⟩ := bsome hp
                  refine s_lClaims (l := (l5024 ++ ([more] : List Clm))) S5246.pre h5248 g5255 fun m112 f5259 c5260 e5258 h5261 => ?_
                  obtain ⟨S5256, k5257⟩ := S5246.callG e5258 τ5234
                  have L5262 := L5249.k k5257 (by decide)
                  have L5263 := L5250.k k5257 (by decide)
                  have L5264 := L5251.k k5257 (by decide)
                  have L5265 := L5252.k k5257 (by decide)
                  have Z5266 := Z5253.k k5257 (by decide)
                  have o5267 := o5238.k k5257.old (by decide)
                  refine ⟨_, rfl, ?_⟩
                  obtain ⟨r5268, g5269, hp⟩ := bsome hp
                  refine s_Total (l := r5199) (claims := r5254) S5256.pre (h5206.sub (Sub.trans (Sub.trans k5224.fs k5247.fs) k5257.fs)) h5261 g5269 fun m115 e5272 => ?_
                  obtain ⟨S5270, k5271⟩ := S5256.call e5272 τ5234
                  have L5273 := L5262.k k5271 (by decide)
                  have L5274 := L5263.k k5271 (by decide)
                  have L5275 := L5264.k k5271 (by decide)
                  have L5276 := L5265.k k5271 (by decide)
                  have Z5277 := Z5266.k k5271 (by decide)
                  have o5278 := o5267.k k5271.old (by decide)
                  have S5279 := S5270.forget S5232 (Sub.trans k5247.fs k5257.fs)
                  have L5280 := L5273.forget S5232 (Sub.trans k5247.fs k5257.fs)
                  have L5281 := L5274.forget S5232 (Sub.trans k5247.fs k5257.fs)
                  have L5282 := L5275.forget S5232 (Sub.trans k5247.fs k5257.fs)
                  have L5283 := L5276.forget S5232 (Sub.trans k5247.fs k5257.fs)
                  have Z5284 := Z5277.forget S5232 (Sub.trans k5247.fs k5257.fs)
                  refine ⟨_, _, _, rfl, ?_⟩
                  intro m119 e5285
                  obtain ⟨S5286, k5287, L5288⟩ := Z5284.set S5279 e5285
                  have L5289 := L5280.k k5287 (by decide)
                  have L5290 := L5281.k k5287 (by decide)
                  have L5291 := L5282.k k5287 (by decide)
                  have L5292 := L5283.k k5287 (by decide)
                  have o5278 := o5278.k k5287 (by decide)
                  refine ⟨(L5289.bk.ra), ?_⟩
                  obtain ⟨m5296, e5295, S5293, k5294, L5297⟩ := L5288.sto S5286 [(.int .i64 r5268.1.Lo), (.int .i64 r5268.1.Hi)]
                  have L5298 := L5289.k k5294 (by decide)
                  have L5299 := L5290.k k5294 (by decide)
                  have L5300 := L5291.k k5294 (by decide)
                  have L5301 := L5292.k k5294 (by decide)
                  have o5278 := o5278.k k5294 (by decide)
                  refine ⟨m5296, e5295, ?_⟩
                  rw [ifB_dec]
                  refine ⟨fun q5302 => ?_, fun q5302 => ?_⟩
                  · skip
                    rw [if_pos q5302] at hp
                    rw [ifB_dec]
                    refine ⟨fun q5303 => ?_, fun q5303 => ?_⟩
                    · skip
                      rw [if_pos q5303] at hp
                      rw [ifB_dec]
                      refine ⟨fun q5304 => ?_, fun q5304 => ?_⟩
                      · skip
                        rw [if_pos q5304] at hp
                        rw [ifB_dec]
                        refine ⟨fun q5305 => ?_, fun q5305 => ?_⟩
                        · skip
                          rw [if_pos q5305] at hp
                          refine ⟨_, _, L5299.bk.ra, _, _, L5300.bk.ra, ?_⟩
                          obtain ⟨g5306, hp⟩ := gd_some hp
                          refine ⟨g5306, ?_⟩
                          obtain ⟨g5307, hp⟩ := gd_some hp
                          refine ⟨g5307, ?_⟩
                          obtain ⟨g5308, hp⟩ := gd_some hp
                          refine ⟨g5308, ?_⟩
                          obtain ⟨g5309, hp⟩ := gd_some hp
                          refine ⟨g5309, ?_⟩
                          rw [ifB_iff]
                          refine ⟨fun q5310 => ?_, fun q5310 => ?_⟩
                          · skip
                            rw [if_pos q5310] at hp
                            refine ⟨_, _, L5297.bk.ra, trivial, _, L5299.bk.rc rfl, trivial, _, L5301.bk.rc rfl, ?_⟩
                            obtain ⟨g5311, hp⟩ := gd_some hp
                            refine ⟨g5311, trivial, _, L5299.bk.rc rfl, trivial, _, L5301.bk.rc rfl, ?_⟩
                            obtain ⟨g5312, hp⟩ := gd_some hp
                            refine ⟨g5312, ?_⟩
                            obtain ⟨r5313, g5314, hp⟩ := bsome hp
                            refine s_lBetween (low := (r5064.1.Lo + r5164.1.Lo)) (high := (r5064.1.Hi + r5164.1.Hi)) S5293.pre  g5314 fun m132 e5317 => ?_
                            obtain ⟨S5315, k5316⟩ := S5293.call e5317 τ5234
                            have L5318 := L5298.k k5316 (by decide)
                            have L5319 := L5299.k k5316 (by decide)
                            have L5320 := L5300.k k5316 (by decide)
                            have L5321 := L5301.k k5316 (by decide)
                            have L5322 := L5297.k k5316 (by decide)
                            have o5278 := o5278.k k5316 (by decide)
                            refine ⟨_, _, rfl, (L5322.bk.ra), ?_⟩
                            obtain ⟨g5323, hp⟩ := gd_some hp
                            refine ⟨g5323, ?_⟩
                            obtain ⟨g5324, hp⟩ := gd_some hp
                            refine ⟨g5324, ?_⟩
                            obtain ⟨g5325, hp⟩ := gd_some hp
                            refine ⟨g5325, ?_⟩
                            obtain ⟨g5326, hp⟩ := gd_some hp
                            refine ⟨g5326, ?_⟩
                            rw [ifB_iff]
                            refine ⟨fun q5327 => ?_, fun q5327 => ?_⟩
                            · skip
                              rw [if_pos q5327] at hp
                              refine ⟨ha200.isSl, ?_⟩
                              try rw [ha200.slLen]
                              rw [ifB_dec]
                              refine ⟨fun q5328 => ?_, fun q5328 => ?_⟩
                              · skip
                                rw [if_pos q5328] at hp
                                obtain ⟨r5329, g5330, hp⟩ := bsome hp
                                refine s_awake S5315.pre  g5330 fun m136 e5333 => ?_
                                obtain ⟨S5331, k5332⟩ := S5315.call e5333 τ5234
                                have L5334 := L5318.k k5332 (by decide)
                                have L5335 := L5319.k k5332 (by decide)
                                have L5336 := L5320.k k5332 (by decide)
                                have L5337 := L5321.k k5332 (by decide)
                                have L5338 := L5322.k k5332 (by decide)
                                have o5278 := o5278.k k5332 (by decide)
                                refine ⟨_, rfl, ?_⟩
                                obtain rfl := Option.some.inj hp
                                exact hq _ S5331.ext'
                              · skip
                                rw [if_neg q5328] at hp
                                refine ⟨_, _, L5319.bk.ra, ?_⟩
                                obtain ⟨g5339, hp⟩ := gd_some hp
                                refine ⟨g5339, ?_⟩
                                obtain ⟨g5340, hp⟩ := gd_some hp
                                refine ⟨g5340, ?_⟩
                                obtain ⟨g5341, hp⟩ := gd_some hp
                                refine ⟨g5341, ?_⟩
                                obtain ⟨g5342, hp⟩ := gd_some hp
                                refine ⟨g5342, ?_⟩
                                rw [ifB_iff]
                                refine ⟨fun q5343 => ?_, fun q5343 => ?_⟩
                                · skip
                                  rw [if_pos q5343] at hp
                                  obtain ⟨r5344, g5345, hp⟩ := bsome hp
                                  refine s_awake S5315.pre  g5345 fun m141 e5348 => ?_
                                  obtain ⟨S5346, k5347⟩ := S5315.call e5348 τ5234
                                  have L5349 := L5318.k k5347 (by decide)
                                  have L5350 := L5319.k k5347 (by decide)
                                  have L5351 := L5320.k k5347 (by decide)
                                  have L5352 := L5321.k k5347 (by decide)
                                  have L5353 := L5322.k k5347 (by decide)
                                  have o5278 := o5278.k k5347 (by decide)
                                  refine ⟨_, rfl, ?_⟩
                                  obtain rfl := Option.some.inj hp
                                  exact hq _ S5346.ext'
                                · skip
                                  rw [bif_neg q5343] at hp
                                  obtain rfl := Option.some.inj hp
                                  exact hq _ S5315.ext'
                            · skip
                              rw [bif_neg q5327] at hp
                              obtain rfl := Option.some.inj hp
                              exact hq _ S5315.ext'
                          · skip
                            rw [bif_neg q5310] at hp
                            obtain rfl := Option.some.inj hp
                            exact hq _ S5293.ext'
                        · skip
                          rw [if_neg q5305] at hp
                          obtain rfl := Option.some.inj hp
                          exact hq _ S5293.ext'
                      · skip
                        rw [if_neg q5304] at hp
                        obtain rfl := Option.some.inj hp
                        exact hq _ S5293.ext'
                    · skip
                      rw [if_neg q5303] at hp
                      obtain rfl := Option.some.inj hp
                      exact hq _ S5293.ext'
                  · skip
                    rw [if_neg q5302] at hp
                    obtain rfl := Option.some.inj hp
                    exact hq _ S5293.ext'
            exact hgo _ _ _ _ _ f5001 τ5000 S4999 (Sub.refl _) L4984 (Ow.nil _ _ _ _ _) hp
      exact hgo _ _ _ _ f τ4977 S4981 (Sub.refl _) L4984 hp
end
end Go.Proofs.Ytbhdgedghfibcaa

