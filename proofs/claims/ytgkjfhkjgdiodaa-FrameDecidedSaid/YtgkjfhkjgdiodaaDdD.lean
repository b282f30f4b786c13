/- What functions of the program ask and do. Condition: none; a lemma text of this claim. -/
import Derived.Test.YtgkjfhkjgdiodaaDdC

namespace Go.Proofs.Ytgkjfhkjgdiodaa
open _root_.Go.Proofs.Try
open Go.Abs
set_option maxRecDepth 100000
noncomputable section
abbrev HK := { P : List Int // P.length = 9 ∧ Small P }
def encH (a : HK) : U := .agg 9 (ints a.1)
theorem eqKs_ints : ∀ {A B : List Int}, A.length = B.length → Small A → Small B → eqKs (List.replicate A.length (.int .i64)) (ints A) (ints B) = some (decide (A = B))
  | [], [], _, _, _ => rfl
  | [], _ :: _, h, _, _ => by simp at h
  | _ :: _, [], h, _, _ => by simp at h
  | a :: A, b :: B, h, hA, hB => by
    have ha := hA a (List.mem_cons_self ..)
    have hb := hB b (List.mem_cons_self ..)
    show optB (eqK (.int .i64) (.int .i64 a) (.int .i64 b)) none (fun b1 => optB (eqKs (List.replicate A.length (.int .i64)) (ints A) (ints B)) none fun r => some (ifB b1 r false)) = _
    rw [eqK_int (fits_small (by omega) (by omega)) (fits_small (by omega) (by omega)), eqKs_ints (by simpa using h) (fun v hv => hA v (List.mem_cons_of_mem _ hv)) fun v hv => hB v (List.mem_cons_of_mem _ hv)]
    show some (ifB (decide (a = b)) (decide (A = B)) false) = _
    congr 1
    by_cases h1 : a = b
    · rw [decide_eq_true h1]
      show decide (A = B) = _
      exact decide_eq_decide.2 ⟨fun h2 => by rw [h1, h2], fun h2 => (List.cons.inj h2).2⟩
    · rw [decide_eq_false h1]
      exact (decide_eq_false fun h2 => h1 (List.cons.inj h2).1).symm
theorem keyH : KeyLike prog 108 encH := by
  have hpl : plainK prog 108 = some (List.replicate 9 (.int .i64)) := by kernel_rfl
  have hag : isAggT prog 108 = true := by kernel_rfl
  refine ⟨⟨_, hpl⟩, fun a b => ?_⟩
  unfold eqV
  rw [hpl, optB_some]
  show optB (ifB (isAggT prog 108) (some (ints a.1)) none) none (fun xs => optB (ifB (isAggT prog 108) (some (ints b.1)) none) none fun ys => eqKs (List.replicate 9 (.int .i64)) xs ys) = _
  rw [hag]
  show eqKs (List.replicate 9 (.int .i64)) (ints a.1) (ints b.1) = _
  have := eqKs_ints (A := a.1) (B := b.1) (by rw [a.2.1, b.2.1]) a.2.2 b.2.2
  rw [a.2.1] at this
  rw [this]
  congr 1
  exact decide_eq_decide.2 ⟨Subtype.ext, fun h => by rw [h]⟩
def atF (P : List Int) : List Int → List Int → List Int
  | A, [] => A
  | A, v :: D => atF P (A.set v.toNat P[v.toNat]!) D
theorem atF_len {P : List Int} : ∀ (D A : List Int), (atF P A D).length = A.length
  | [], _ => rfl
  | v :: D, A => by show (atF P _ D).length = _; rw [atF_len D, List.length_set]
theorem atF_step {P D A : List Int} {i : Nat} (hi : i < D.length) : atF P A (D.drop i) = atF P (A.set D[i].toNat P[D[i].toNat]!) (D.drop (i + 1)) := by rw [List.drop_eq_getElem_cons hi]; rfl
theorem atF_get {P : List Int} : ∀ {D A : List Int} {j : Nat}, j < A.length → (∀ v ∈ D, 0 ≤ v) → (atF P A D)[j]! = if (j : Int) ∈ D then P[j]! else A[j]!
  | [], A, j, _, _ => by show A[j]! = _; rw [if_neg (by simp)]
  | v :: D, A, j, hj, h => by
    have hv := h v (List.mem_cons_self ..)
    show (atF P (A.set v.toNat P[v.toNat]!) D)[j]! = _
    rw [atF_get (by rw [List.length_set]; exact hj) fun w hw => h w (List.mem_cons_of_mem _ hw)]
    by_cases h1 : (j : Int) ∈ D
    · rw [if_pos h1, if_pos (List.mem_cons_of_mem _ h1)]
    · rw [if_neg h1, getElem!_pos _ j (by rw [List.length_set]; exact hj), List.getElem_set]
      by_cases hvj : v.toNat = j
      · rw [if_pos hvj, hvj, if_pos (by rw [show (j : Int) = v by omega]; exact List.mem_cons_self ..)]
      · rw [if_neg hvj, if_neg fun h2 => (List.mem_cons.1 h2).elim (fun h3 => hvj (by omega)) h1, getElem!_pos A j hj]
def zr9 : List Int := List.replicate 9 0
def keyL (P D : List Int) : List Int := atF P zr9 D
theorem keyL_len (P D : List Int) : (keyL P D).length = 9 := by unfold keyL; rw [atF_len]; rfl
theorem zr9_get (j : Nat) : zr9[j]! = 0 := by
  by_cases h : j < 9
  · rcases (by omega : j = 0 ∨ j = 1 ∨ j = 2 ∨ j = 3 ∨ j = 4 ∨ j = 5 ∨ j = 6 ∨ j = 7 ∨ j = 8) with rfl | rfl | rfl | rfl | rfl | rfl | rfl | rfl | rfl <;> rfl
  · rw [getElem!_neg _ j (by show ¬ j < 9; exact h)]; rfl
theorem keyL_small {P D : List Int} (hP : P.length = 9) (hS : Small P) (hD : ∀ v ∈ D, 0 ≤ v ∧ v < 9) : Small (keyL P D) := fun v hv => by
  obtain ⟨j, hj, rfl⟩ := List.getElem_of_mem hv
  have hj9 : j < 9 := by rw [keyL_len] at hj; exact hj
  have h1 : (keyL P D)[j]! = (keyL P D)[j] := getElem!_pos _ j hj
  rw [← h1]
  unfold keyL
  rw [atF_get (by show j < 9; exact hj9) fun v hv => (hD v hv).1]
  split
  · rw [getElem!_pos P j (by omega)]; exact hS _ (List.getElem_mem _)
  · rw [zr9_get]; omega
theorem keyL_eq {P P' D : List Int} (hP : P.length = 9) (hP' : P'.length = 9) (hD : ∀ v ∈ D, 0 ≤ v ∧ v < 9) : keyL P D = keyL P' D ↔ ∀ v ∈ D, P[v.toNat]! = P'[v.toNat]! := by
  constructor
  · intro h v hv
    have hv9 := hD v hv
    have h1 := congrArg (fun l : List Int => l[v.toNat]!) h
    unfold keyL at h1
    rw [atF_get (by show v.toNat < 9; omega) fun v hv => (hD v hv).1, atF_get (by show v.toNat < 9; omega) fun v hv => (hD v hv).1, if_pos (by rw [show ((v.toNat : Nat) : Int) = v by omega]; exact hv), if_pos (by rw [show ((v.toNat : Nat) : Int) = v by omega]; exact hv)] at h1
    exact h1
  · intro h
    refine List.ext_getElem (by rw [keyL_len, keyL_len]) fun j h1 h2 => ?_
    have hj9 : j < 9 := by rw [keyL_len] at h1; exact h1
    rw [← getElem!_pos (keyL P D) j h1, ← getElem!_pos (keyL P' D) j h2]
    unfold keyL
    rw [atF_get (by show j < 9; exact hj9) fun v hv => (hD v hv).1, atF_get (by show j < 9; exact hj9) fun v hv => (hD v hv).1]
    by_cases hj : (j : Int) ∈ D
    · rw [if_pos hj, if_pos hj]; exact h _ hj
    · rw [if_neg hj, if_neg hj]
theorem s105 {P D : List Int} {z : C} {m : M} {Q : V → M → Prop} (hP : P.length = 9) (hz : Li m z D) (hDl : D.length ≤ 1000) (hD : ∀ v ∈ D, 0 ≤ v ∧ v < 9) (h : ∀ m', Ext m m' → Q (.agg 9 (ints (keyL P D))) m') : Wc prog tbl 105 [.agg 9 (ints P), .c z] m Q := by
  obtain ⟨p0, p1, p2, p3, p4, p5, p6, p7, p8, hPe⟩ := nine hP
  rw [show ints P = ints [p0, p1, p2, p3, p4, p5, p6, p7, p8] by rw [← hPe]]
  refine w105 fun m0 e0 m1 e1 m2 e2 => ⟨hz.isSl, fun R3 hstep => ?_⟩
  obtain ⟨b0', x0⟩ := Bk.new e0
  obtain ⟨b1', x1⟩ := Bk.new e1
  obtain ⟨b2', x2⟩ := Bk.new e2
  have n0 : m0.nxt = m.nxt + 1 := by rw [e0]; rfl
  have n1 : m1.nxt = m.nxt + 2 := by rw [e1]; show m0.nxt + 1 = _; omega
  have b0 : Bk m2 m.nxt 9 (ints P) := by rw [hPe]; exact (b0'.ext x1).ext x2
  have b1 : Bk m2 m0.nxt 9 (ints zr9) := b1'.ext x2
  have b2 : Bk m2 m1.nxt 9 (ints zr9) := b2'
  have hgo : ∀ (d i : Nat) (m5 : M) (A : List Int), d + i = D.length → Ext m m5 → Bk m5 m.nxt 9 (ints P) → Bk m5 m0.nxt 9 (ints zr9) → Bk m5 m1.nxt 9 (ints A) → A.length = 9 → atF P A (D.drop i) = keyL P D → R3 [.c (.int .i64 (i : Int))] m5 := by
    intro d
    induction d with
    | zero =>
      intro i m5 A hd he k0 k1 k2 hA heq
      refine hstep _ _ ?_
      rw [hz.slLen, ifB_dec]
      refine ⟨fun h1 => by omega, fun _ => ?_⟩
      rw [List.drop_eq_nil_of_le (by omega)] at heq
      have heq' : A = keyL P D := heq
      obtain ⟨q0, q1, q2, q3, q4, q5, q6, q7, q8, hq⟩ := nine hA
      have hq' := h _ (he.setR (b := m0.nxt) (by omega) (.cells 9 (ints A) false))
      rw [← heq'] at hq'
      subst hq
      exact ⟨q0, q1, q2, q3, q4, q5, q6, q7, q8, k2.ra, _, k1.st _, q0, q1, q2, q3, q4, q5, q6, q7, q8, (k1.set _).ra, hq'⟩
    | succ d ih =>
      intro i m5 A hd he k0 k1 k2 hA heq
      refine hstep _ _ ?_
      rw [hz.slLen, ifB_dec]
      refine ⟨fun _ => ?_, fun h1 => absurd (by omega) h1⟩
      have hi : i < D.length := by omega
      have hv := hD _ (List.getElem_mem hi)
      obtain ⟨v, hve⟩ : ∃ v : Nat, D[i] = (v : Int) := ⟨D[i].toNat, by omega⟩
      refine ⟨i, rfl, hi, _, Li.rd (hz.ext he) (List.getElem?_eq_getElem hi), trivial, v, hve, by omega, _, at_rc k0 (by omega), trivial, v, hve, by omega, _, k2.st1n _ (by rw [ints_len]; omega) (by rw [ints_len]; exact hA), fits_small (by omega) (by omega), ?_⟩
      rw [ints_set]
      refine ih (i + 1) _ (A.set v P[v]!) (by omega) (he.setR (by omega) _) (k0.setNe (by omega) _) (k1.setNe (by omega) _) (k2.set _) (by rw [List.length_set]; exact hA) ?_
      rw [← heq, atF_step hi, hve]; rfl
  exact hgo D.length 0 m2 zr9 (by omega) ((x0.trans x1).trans x2) b0 b1 b2 rfl rfl
def hcs (B : List (List Int)) : List C := B.flatMap ints
def H9 (B : List (List Int)) : Prop := ∀ P ∈ B, P.length = 9 ∧ Small P
theorem hcs_len {B : List (List Int)} (h : H9 B) : (hcs B).length = B.length * 9 := by
  induction B with
  | nil => rfl
  | cons P B ih =>
    show (ints P ++ hcs B).length = _
    rw [List.length_append, ints_len, (h P (List.mem_cons_self ..)).1, ih fun q hq => h q (List.mem_cons_of_mem _ hq), List.length_cons]; omega
theorem hcs_all : ∀ {B : List (List Int)} {i : Nat} {P : List Int}, H9 B → B[i]? = some P → ((hcs B).drop (i * 9)).take 9 = ints P
  | [], _, _, _, h => by simp at h
  | A :: B, 0, P, h9, h => by
    have : A = P := by simpa using h
    subst this
    show (ints A ++ hcs B).take 9 = _
    rw [List.take_append_of_le_length (by rw [ints_len, (h9 A (List.mem_cons_self ..)).1]; omega), List.take_of_length_le (by rw [ints_len, (h9 A (List.mem_cons_self ..)).1]; omega)]
  | A :: B, i + 1, P, h9, h => by
    have h' : B[i]? = some P := by simpa using h
    show ((ints A ++ hcs B).drop ((i + 1) * 9)).take 9 = _
    have hl : (ints A).length = 9 := by rw [ints_len]; exact (h9 A (List.mem_cons_self ..)).1
    rw [show (i + 1) * 9 = (ints A).length + i * 9 by omega, ← List.drop_drop, List.drop_left, hcs_all (fun q hq => h9 q (List.mem_cons_of_mem _ hq)) h']
theorem hcs_app (B : List (List Int)) (P : List Int) : hcs B ++ ints P = hcs (B ++ [P]) := by simp [hcs]
abbrev Lh (m : M) (x : C) (B : List (List Int)) : Prop := Ls m 9 x (hcs B) B.length
theorem Lh.rd {m : M} {x : C} {B : List (List Int)} (h : Lh m x B) (h9 : H9 B) {i : Nat} {P : List Int} (hi : B[i]? = some P) : ldA m (slAt x (i * 9)) 9 = some (ints P) := by
  have hlt : i < B.length := (List.getElem?_eq_some_iff.1 hi).1
  rw [Ls.rds h (by omega) (by rw [hcs_len h9]; omega), hcs_all h9 hi]
/-- a function value that tests hits -/
def TestH (m : M) (fnc : C) (B : List (List Int)) (t : List Int → Bool) : Prop :=
  ∀ m' P, Ext m m' → P ∈ B → ∀ Q : V → M → Prop, (∀ m'', Ext m' m'' → Q (.c (.bool (t P))) m'') → callP prog tbl [.agg 9 (ints P)] fnc m' Q
theorem s119 {P : List Int} {b : Nat} {fnc : C} {v : Bool} {m : M} {Q : V → M → Prop} (hP : P.length = 9) (kb : Bk m b 1 [fnc]) (hf : ∀ m', Ext m m' → ∀ Q : V → M → Prop, (∀ m'', Ext m' m'' → Q (.c (.bool v)) m'') → callP prog tbl [.agg 9 (ints P)] fnc m' Q)
    (h : ∀ m', Ext m m' → Q (.c (.bool (!v))) m') : Wc prog tbl 119 [.agg 9 (ints P), .c (.ptr b 0)] m Q := by
  obtain ⟨p0, p1, p2, p3, p4, p5, p6, p7, p8, hPe⟩ := nine hP
  subst hPe
  refine w119 p0 p1 p2 p3 p4 p5 p6 p7 p8 b fun m0 e0 => ?_
  obtain ⟨b0, x0⟩ := Bk.new e0
  exact ⟨_, (kb.ext x0).rc rfl, p0, p1, p2, p3, p4, p5, p6, p7, p8, b0.ra, hf m0 x0 _ fun m12 e12 => ⟨_, rfl, h m12 (x0.trans e12)⟩⟩
theorem s125 {z fnc : C} {B : List (List Int)} {t : List Int → Bool} {m : M} {Q : V → M → Prop} (hz : Lh m z B) (h9 : H9 B) (hB : B.length ≤ 100000) (ht : TestH m fnc B t) (h : ∀ r m', Ext m m' → (0 ≤ r ↔ B.any t = true) → Q (.c (.int .i64 r)) m') : Wc prog tbl 125 [.c z, .c fnc] m Q := by
  refine w125 ⟨hz.isSl, fun R0 hstep => ?_⟩
  have hgo : ∀ (d i : Nat) (x1 : Int) (m3 : M), d + i = B.length → Ext m m3 → (∀ P ∈ B.take i, t P = false) → R0 [.c (.int .i64 x1), .c (.int .i64 (i : Int))] m3 := by
    intro d
    induction d with
    | zero =>
      intro i x1 m3 hd he hn
      refine hstep _ _ _ ?_
      rw [hz.slLen, ifB_dec]
      refine ⟨fun h1 => by omega, fun _ => h _ m3 he ?_⟩
      rw [List.take_of_length_le (by omega)] at hn
      refine ⟨fun h1 => by omega, fun h1 => ?_⟩
      obtain ⟨P, h2, h3⟩ := List.any_eq_true.1 h1
      rw [hn P h2] at h3; cases h3
    | succ d ih =>
      intro i x1 m3 hd he hn
      refine hstep _ _ _ ?_
      rw [hz.slLen, ifB_dec]
      refine ⟨fun _ => ?_, fun h1 => absurd (by omega) h1⟩
      have hi : i < B.length := by omega
      have hP := h9 _ (List.getElem_mem hi)
      obtain ⟨p0, p1, p2, p3, p4, p5, p6, p7, p8, hPe⟩ := nine hP.1
      have hrd := Lh.rd (hz.ext he) h9 (List.getElem?_eq_getElem hi)
      have hcall := ht m3 B[i] he (List.getElem_mem hi)
      rw [hPe] at hrd hcall
      refine ⟨i, rfl, hi, p0, p1, p2, p3, p4, p5, p6, p7, p8, hrd, hcall _ fun m15 e15 => ⟨_, rfl, ?_⟩⟩
      rw [← hPe, ifB_iff]
      refine ⟨fun h1 => h _ m15 (he.trans e15) ⟨fun _ => List.any_eq_true.2 ⟨_, List.getElem_mem hi, h1⟩, fun _ => by omega⟩, fun h1 => ⟨fits_small (by omega) (by omega), ih (i + 1) x1 m15 (by omega) (he.trans e15) fun P hp => ?_⟩⟩
      rw [List.take_add_one, List.getElem?_eq_getElem hi] at hp
      rcases List.mem_append.1 hp with h2 | h2
      · exact hn P h2
      · have : P = B[i] := by simpa using h2
        rw [this]; exact h1
  exact hgo B.length 0 0 m (by omega) (.refl _) (by simp)
theorem s106 {z fnc : C} {B : List (List Int)} {t : List Int → Bool} {m : M} {Q : V → M → Prop} (hz : Lh m z B) (h9 : H9 B) (hB : B.length ≤ 100000) (ht : TestH m fnc B t) (h : ∀ m', Ext m m' → Q (.c (.bool (B.all t))) m') : Wc prog tbl 106 [.c z, .c fnc] m Q := by
  refine w106 fun m0 e0 => ?_
  obtain ⟨b0, x0⟩ := Bk.new e0
  refine w118 (s125 (t := fun P => !t P) (hz.ext x0) h9 hB (fun m' P e hP Q' hq => ?_) fun r m2 e2 hr => ⟨r, rfl, _, rfl, ?_⟩)
  · show Wc prog tbl 119 [.agg 9 (ints P), .c (.ptr m.nxt 0)] m' Q'
    exact s119 (h9 P hP).1 (b0.ext e) (fun m'' e'' Q'' hq'' => ht m'' P ((x0.trans e).trans e'') hP Q'' hq'') hq
  · have hq := h m2 (x0.trans e2)
    have : B.all t = !decide (0 ≤ r) := by
      by_cases h0 : 0 ≤ r
      · obtain ⟨P, h1, h2⟩ := List.any_eq_true.1 (hr.1 h0)
        rw [decide_eq_true h0]
        cases ha : B.all t with
        | false => rfl
        | true =>
          have := List.all_eq_true.1 ha P h1
          rw [this] at h2; cases h2
      · rw [decide_eq_false h0]
        refine List.all_eq_true.2 fun P hP => ?_
        cases htp : t P with
        | true => rfl
        | false => exact absurd (hr.2 (List.any_eq_true.2 ⟨P, hP, by rw [htp]; rfl⟩)) h0
    rw [this] at hq
    exact hq
end
end Go.Proofs.Ytgkjfhkjgdiodaa

namespace Go.Abs
noncomputable section
/-- m' is m but for block b -/
structure St1 (m m' : M) (b : Nat) : Prop where
  nxt : m'.nxt = m.nxt
  vw : m'.vw = m.vw
  g : ∀ b', b' ≠ b → m'.g b' = m.g b'
theorem St1.of_set {m m' : M} {b : Nat} {o : AO} (h : m' = m.set b o) : St1 m m' b := by
  subst h
  exact ⟨rfl, rfl, fun b' hb => by rw [M.g_set, if_neg hb]⟩
theorem Bk.keep1 {m m' : M} {b c n : Nat} {vs : List C} (h : Bk m c n vs) (s : St1 m m' b) (hne : c ≠ b) : Bk m' c n vs := ⟨(s.g c hne).trans h.g, by rw [s.nxt]; exact h.lt⟩
theorem Ext.st1 {m0 m m' : M} {b : Nat} (e : Ext m0 m) (s : St1 m m' b) (hb : m0.nxt ≤ b) : Ext m0 m' := ⟨by rw [s.nxt]; exact e.nxt, fun b' hb' => (s.g b' (by omega)).trans (e.g b' hb'), s.vw.trans e.vw⟩
theorem Ls.keep1 {m m' : M} {b k n : Nat} {x : C} {vs : List C} (h : Ls m k x vs n) (s : St1 m m' b) (hne : ∀ b' o s d, x = .sl b' o n s d → b' ≠ b) : Ls m' k x vs n :=
  h.to (by rw [s.nxt]; exact Nat.le_refl _) (fun b' _ hx => by obtain ⟨o, t, d, hx⟩ := hx; exact s.g b' (hne b' o t d hx)) s.vw
theorem Own1.keep1 {m m' : M} {b k n : Nat} {x : C} {vs : List C} (h : Own1 m k x vs n) (s : St1 m m' b) (hne : ∀ b' s d, x = .sl b' 0 n s d → b' ≠ b) : Own1 m' k x vs n :=
  h.to (by rw [s.nxt]; exact Nat.le_refl _) fun b' _ hx => by obtain ⟨t, d, hx⟩ := hx; exact s.g b' (hne b' t d hx)
theorem Bk.sto {m : M} {b n : Nat} {ws : List C} (h : Bk m b n ws) (vs : List C) : ∃ m', stC m (.ptr b 0) n vs = some m' ∧ Bk m' b n vs ∧ St1 m m' b := ⟨_, h.st vs, h.set vs, .of_set rfl⟩
theorem Bk.sto1 {m : M} {b n : Nat} {vs : List C} (h : Bk m b n vs) (k : Nat) (c : C) (hk : k < vs.length) (hn : vs.length = n) : ∃ m', stC m (.ptr b k) 1 [c] = some m' ∧ Bk m' b n (vs.set k c) ∧ St1 m m' b := by
  by_cases h1 : n = 1
  · subst h1
    have hk0 : k = 0 := by omega
    subst hk0
    have : vs.set 0 c = [c] := by
      match vs, hn with
      | [a], _ => rfl
    exact ⟨_, stC_of h.g [c], by rw [this]; exact h.set _, .of_set rfl⟩
  · exact ⟨_, stC_at h.g c hk hn h1, h.set _, .of_set rfl⟩
/-- a cell of a slice of one's own -/
theorem Own1.sto {m : M} {k n : Nat} {x : C} {vs : List C} (h : Own1 m k x vs n) (i : Nat) (c : C) (hi : i < vs.length) (h1 : 1 < vs.length) :
    ∃ b s d m', x = .sl b 0 n s d ∧ b < m.nxt ∧ (slB x = none ∨ slB x = some b) ∧ stC m (.ptr b i) 1 [c] = some m' ∧ Own1 m' k x (vs.set i c) n ∧ St1 m m' b := by
  have hl := h.len
  have hx := h.own
  cases hx with
  | nil h2 h3 => rw [h3] at hi; simp at hi
  | grown b hg hb => exact ⟨b, k, none, _, rfl, hb, .inr rfl, stC_at hg c hi (by omega) (by omega), ⟨by rw [List.length_set]; exact hl, .grown b (by rw [M.g_set, if_pos rfl]) hb⟩, .of_set rfl⟩
  | lit b hg hb => exact ⟨b, 0, some n, _, rfl, hb, .inl rfl, stC_at hg c hi (by omega) (by omega), ⟨by rw [List.length_set]; exact hl, .lit b (by rw [M.g_set, if_pos rfl]) hb⟩, .of_set rfl⟩
end
end Go.Abs

namespace Go.Proofs.Ytgkjfhkjgdiodaa
open _root_.Go.Proofs.Try
open Go.Abs
set_option maxRecDepth 100000
noncomputable section
theorem t129 : tk prog 129 = .sl 108 := by kernel_rfl
theorem g108 : growOk prog 108 = true := by kernel_rfl
theorem z108 : prog.cellsOf 108 = 9 := by kernel_rfl
/-- the truths on one side of a part -/
def sideT (L : List Int) (n : Int) (T : List (List Int)) (b : Bool) : List (List Int) := (T.filter fun H => decide (n ≤ shareOf L H) == b).map pad
theorem sideT_app (L : List Int) (n : Int) (T T' : List (List Int)) (b : Bool) : sideT L n (T ++ T') b = sideT L n T b ++ sideT L n T' b := by simp [sideT]
theorem sideT_one (L : List Int) (n : Int) (H : List Int) (b : Bool) : sideT L n [H] b = if (decide (n ≤ shareOf L H) == b) = true then [pad H] else [] := by
  unfold sideT
  rw [List.filter_cons]
  split <;> rfl
theorem sideT_len (L : List Int) (n : Int) (T : List (List Int)) (b : Bool) : (sideT L n T b).length ≤ T.length := by
  unfold sideT
  rw [List.length_map]; exact List.length_filter_le _ _
theorem s89 {r c sm n : Int} {x y : C} {L : List Int} {N : List Cnt} {mb : Nat} {f : Spot → Option U} {m : M} {Q : V → M → Prop} (hw : Wk m L N mb f) (hx : Li m x L) (hf : isField r c L = true) (hle : (truthsP c sm L N).length ≤ 100000)
    (h : ∀ c1 c2 m', Ext m m' → Lh m' c1 (sideT L n (truthsP c sm L N) true) → Lh m' c2 (sideT L n (truthsP c sm L N) false) → Q (.agg 2 [c1, c2]) m') :
    Wc prog tbl 89 [.agg 6 [.int .i64 r, .int .i64 c, x, .int .i64 sm, y, .map mb], .c (.int .i64 n)] m Q := by
  obtain ⟨hS, hL9, _⟩ := field_of hf
  refine w89 fun m0 e0 m1 e1 m2 e2 m3 e3 => ?_
  obtain ⟨b0, x0⟩ := Bk.new e0
  obtain ⟨b1, x1⟩ := Bk.new e1
  obtain ⟨b2, x2⟩ := Bk.new e2
  obtain ⟨b3, x3⟩ := Bk.new e3
  have n0 : m0.nxt = m.nxt + 1 := by rw [e0]; rfl
  have n1 : m1.nxt = m.nxt + 2 := by rw [e1]; show m0.nxt + 1 = _; omega
  have n2 : m2.nxt = m.nxt + 3 := by rw [e2]; show m1.nxt + 1 = _; omega
  have n3 : m3.nxt = m.nxt + 4 := by rw [e3]; show m2.nxt + 1 = _; omega
  have x03 := ((x0.trans x1).trans x2).trans x3
  refine ⟨r, c, x, sm, y, .map mb, (((b0.ext x1).ext x2).ext x3).ra, s100 (hw.ext x03) (hx.ext x03) fun mL bb bb2 eL hR hbb hbb2 => ⟨_, rfl, ?_⟩⟩
  have kw := (((b0.ext x1).ext x2).ext x3).ext eL
  have kq := ((b1.ext x2).ext x3).ext eL
  have kr := (b2.ext x3).ext eL
  have kn := b3.ext eL
  have xL := x03.trans eL
  clear e0 e1 e2 e3 b0 b1 b2 b3 x0 x1 x2 x3
  generalize hnb : m2.nxt = nb at n2 kn
  have hnbL := kn.lt
  have hflag : ∀ b', b' = nb → ¬ Ds x mb bb bb2 b' := fun b' hb' hds => by
    rcases ds_old (m := m) hw hx hds with h1 | h1 | h1
    · omega
    · omega
    · omega
  have hlen : (truthsV c sm L N false6).length = (truthsP c sm L N).length := by unfold truthsV truthsP; rw [List.length_map]
  refine range_iter (without_iter hf rfl) hR
    (J := fun i S ma => ∃ s1 s2 : C, (∀ b', S b' ↔ b' = nb ∨ (∃ o n s d, s1 = .sl b' o n s d) ∨ ∃ o n s d, s2 = .sl b' o n s d) ∧ (∀ b' o n s d, s1 = .sl b' o n s d → mL.nxt ≤ b') ∧ (∀ b' o n s d, s2 = .sl b' o n s d → mL.nxt ≤ b') ∧ Sep s1 s2 ∧ Bk ma nb 2 [s1, s2] ∧
      Own1 ma 9 s1 (hcs (sideT L n ((truthsP c sm L N).take i) true)) (sideT L n ((truthsP c sm L N).take i) true).length ∧ Own1 ma 9 s2 (hcs (sideT L n ((truthsP c sm L N).take i) false)) (sideT L n ((truthsP c sm L N).take i) false).length ∧ mL.nxt ≤ ma.nxt ∧ ma.vw = mL.vw ∧ ∀ b', b' < mL.nxt → b' ≠ nb → ma.g b' = mL.g b')
    (X := fun _ _ _ => False) (fun i => ⟨fun S ma mb' hj hn hv hg hlow => ?_, fun S ma hj b' hb' => ?_⟩) (fun ex => ⟨fun _ _ _ hj _ _ _ _ => hj, fun _ _ hj => hj.elim⟩) (S0 := fun b' => b' = nb) ?_ (fun b' hb' => hflag b' hb') ?_ ?_ (fun _ _ _ _ _ _ _ hj => hj.elim) (fun _ _ _ _ _ _ hj => hj.elim)
  · obtain ⟨s1, s2, q1, q2, q3, q4, q5, q6, q7, q8, q9, q10⟩ := hj
    exact ⟨s1, s2, q1, q2, q3, q4, ⟨(hg nb ((q1 nb).2 (.inl rfl))).trans q5.g, Nat.lt_of_lt_of_le q5.lt hn⟩, q6.to hn (fun b' _ hx' => by obtain ⟨s', d, hx'⟩ := hx'; exact hg b' ((q1 b').2 (.inr (.inl ⟨_, _, s', d, hx'⟩)))), q7.to hn (fun b' _ hx' => by obtain ⟨s', d, hx'⟩ := hx'; exact hg b' ((q1 b').2 (.inr (.inr ⟨_, _, s', d, hx'⟩)))), Nat.le_trans q8 hn, hv.trans q9, fun b' hb' hne' => (hlow b' hb').trans (q10 b' hb' hne')⟩
  · obtain ⟨s1, s2, q1, q2, q3, q4, q5, q6, q7, q8, q9, q10⟩ := hj
    rcases (q1 b').1 hb' with rfl | ⟨o, n, s', d, hx'⟩ | ⟨o, n, s', d, hx'⟩
    · exact q5.lt
    · exact q6.lt hx'
    · exact q7.lt hx'
  · exact ⟨.sl0, .sl0, fun b' => ⟨fun h => .inl h, fun h => h.elim id fun h2 => h2.elim (fun ⟨_, _, _, _, h2⟩ => (by cases h2)) fun ⟨_, _, _, _, h2⟩ => (by cases h2)⟩, fun _ _ _ _ _ h => (by cases h), fun _ _ _ _ _ h => (by cases h), fun _ _ _ _ _ _ _ _ _ _ h => (by cases h), kn, Own1.nil' _ _, Own1.nil' _ _, Nat.le_refl _, rfl, fun _ _ _ => rfl⟩
  · intro i xv S ma B' enter K hxv hj hlt hSl hown henter hK
    obtain ⟨s1, s2, q1, q2, q3, q4, q5, q6, q7, q8, q9, q10⟩ := hj
    have hxv' := hxv
    unfold truthsV at hxv'
    rw [List.getElem?_map] at hxv'
    cases hH : (exts c sm L N false6 L.length [])[i]? with
    | none => rw [hH] at hxv'; cases hxv'
    | some H =>
    rw [hH] at hxv'
    have hxe : [V.agg 9 (ints (pad H))] = xv := by injection hxv'
    have hmem : H ∈ truthsP c sm L N := List.mem_of_getElem? hH
    have hl : listed L H = true := by
      have := (mem_exts hf H L.length 0 [] (by omega) rfl).1 hmem
      exact decide_eq_true ⟨this.1, fun i hi => (this.2.2 i (by omega) hi).1⟩
    have hlenH := listed_len hl
    have hSH := small_listed hS hl
    have hiT : i < (truthsP c sm L N).length := (List.getElem?_eq_some_iff.1 hH).1
    have hTi : (truthsP c sm L N).take (i + 1) = (truthsP c sm L N).take i ++ [H] := by
      rw [List.take_add_one]
      have hHi : (truthsP c sm L N)[i]? = some H := hH
      rw [hHi]; rfl
    obtain ⟨p0, p1, p2, p3, p4, p5, p6, p7, p8, hp⟩ := nine (pad_len (H := H) (by omega))
    refine ⟨p0, p1, p2, p3, p4, p5, p6, p7, p8, by rw [← hxe, hp]; rfl, fun m26 h26 => ?_⟩
    obtain ⟨b26, x26⟩ := Bk.new h26
    refine ⟨_, b26.st _, ?_⟩
    have k27 := b26.set (ints [p0, p1, p2, p3, p4, p5, p6, p7, p8])
    have e27 : Ext ma (m26.set ma.nxt (.cells 9 (ints [p0, p1, p2, p3, p4, p5, p6, p7, p8]) false)) := x26.setR (Nat.le_refl _) _
    show enter (m26.set ma.nxt (.cells 9 (ints [p0, p1, p2, p3, p4, p5, p6, p7, p8]) false)) _
    generalize m26.set ma.nxt (.cells 9 (ints [p0, p1, p2, p3, p4, p5, p6, p7, p8]) false) = m27 at k27 e27
    refine henter m27 _ (e27.g _ hlt) fun m28 hn28 hv28 hg28 hB28 => ?_
    have hsne1 : ∀ b' o n s' d, s1 = .sl b' o n s' d → b' ≠ mL.nxt := fun b' o n s' d hs he => hSl ((q1 _).2 (.inr (.inl ⟨o, n, s', d, by rw [← he]; exact hs⟩)))
    have hsne2 : ∀ b' o n s' d, s2 = .sl b' o n s' d → b' ≠ mL.nxt := fun b' o n s' d hs he => hSl ((q1 _).2 (.inr (.inr ⟨o, n, s', d, by rw [← he]; exact hs⟩)))
    have hold : ∀ b', b' < mL.nxt → b' ≠ nb → m28.g b' = mL.g b' := fun b' hb' hne' => by rw [hg28 b' (by omega), e27.g b' (by omega)]; exact q10 b' hb' hne'
    have hx28 : Ext m m28 := ⟨by rw [hn28]; exact Nat.le_trans xL.nxt (Nat.le_trans q8 e27.nxt), fun b' hb' => by rw [hold b' (Nat.lt_of_lt_of_le hb' xL.nxt) (by omega)]; exact xL.g b' hb', by rw [hv28, e27.vw, q9]; exact xL.vw⟩
    have bk28 : ∀ {b' n : Nat} {vs : List C}, b' ≠ nb → Bk mL b' n vs → Bk m28 b' n vs := fun hne' hb => ⟨(hold _ hb.lt hne').trans hb.g, by rw [hn28]; exact Nat.lt_of_lt_of_le hb.lt (Nat.le_trans q8 e27.nxt)⟩
    have kn28 : Bk m28 nb 2 [s1, s2] := ⟨by rw [hg28 nb (by omega), e27.g nb q5.lt]; exact q5.g, by rw [hn28]; exact Nat.lt_of_lt_of_le q5.lt e27.nxt⟩
    have o128 := q6.to (m' := m28) (by rw [hn28]; exact e27.nxt) fun b' hb' hx' => by
      obtain ⟨s', d, hx'⟩ := hx'
      rw [hg28 b' (hsne1 b' _ _ _ _ hx')]; exact e27.g b' hb'
    have o228 := q7.to (m' := m28) (by rw [hn28]; exact e27.nxt) fun b' hb' hx' => by
      obtain ⟨s', d, hx'⟩ := hx'
      rw [hg28 b' (hsne2 b' _ _ _ _ hx')]; exact e27.g b' hb'
    have kh28 : Bk m28 ma.nxt 9 (ints [p0, p1, p2, p3, p4, p5, p6, p7, p8]) := ⟨by rw [hg28 _ (by omega)]; exact k27.g, by rw [hn28]; exact k27.lt⟩
    refine ⟨trivial, r, c, x, sm, y, (bk28 (by omega) kw).rp (k := 0) (j := 5) rfl (by omega), p0, p1, p2, p3, p4, p5, p6, p7, p8, kh28.ra, ?_⟩
    have hcall := fun Q h => s75 (r := r) (c := c) (sm := sm) (y := y) (H := pad H) (Q := Q) (hx.ext hx28) hS hL9 (pad_len (by omega)) (small_pad hSH) h
    rw [hp] at hcall
    refine hcall _ fun m44 e44 => ⟨_, rfl, n, ((bk28 (by omega) kq).ext e44).rc rfl, (bk28 (by omega) kq).rc rfl, ?_⟩
    rw [← hp, shareOf_pad]
    have hL44 : mL.nxt < m44.nxt := Nat.lt_of_lt_of_le (Nat.lt_of_lt_of_le hlt (by rw [hn28]; exact e27.nxt)) e44.nxt
    have ha44 : ma.nxt ≤ m44.nxt := Nat.le_trans (by rw [hn28]; exact e27.nxt) e44.nxt
    rw [ifB_dec]
    refine ⟨fun hge => ?_, fun hge => ?_⟩
    · have hge' : decide (n ≤ shareOf L H) = true := decide_eq_true hge
      have hap : sideT L n ((truthsP c sm L N).take (i + 1)) true = sideT L n ((truthsP c sm L N).take i) true ++ [pad H] := by rw [hTi, sideT_app, sideT_one, hge']; rfl
      have hot : sideT L n ((truthsP c sm L N).take (i + 1)) false = sideT L n ((truthsP c sm L N).take i) false := by rw [hTi, sideT_app, sideT_one, hge']; exact List.append_nil _
      refine ⟨trivial, _, (kn28.ext e44).rc (k := 0) rfl, p0, p1, p2, p3, p4, p5, p6, p7, p8, (kh28.ext e44).ra, fun m57 h57 => ?_⟩
      obtain ⟨c58, m59, a1, a2, a3, a4, a4v, a5⟩ := ap_one t129 g108 z108 (by omega) (o128.ext e44) (ws := ints [p0, p1, p2, p3, p4, p5, p6, p7, p8]) rfl (by have := sideT_len L n ((truthsP c sm L N).take i) true; have := List.length_take_le i (truthsP c sm L N); omega) h57
      have hsnb : ∀ b' o n s d, s1 = .sl b' o n s d → b' ≠ nb := fun b' o n s d hs he => by have := q2 b' o n s d hs; omega
      have kn59 : Bk m59 nb 2 [s1, s2] := Bk.keep (kn28.ext e44) a4 a5 hsnb
      have hslB : ∀ b', (∀ o n s d, s1 ≠ .sl b' o n s d) → slB s1 ≠ some b' := fun b' hb' hsb => by
        cases s1 with
        | sl b3 o n s' d =>
          cases d with
          | none =>
            have h2 : some b3 = some b' := hsb
            cases h2; exact hb' _ _ _ _ rfl
          | some d => cases hsb
        | _ => cases hsb
      have g59 : ∀ b', b' < ma.nxt → (∀ o n s d, s1 ≠ .sl b' o n s d) → b' ≠ mL.nxt → m59.g b' = ma.g b' := fun b' hb' hs hl => by
        rw [a5 b' (by omega) (hslB b' hs), e44.g b' (by rw [hn28]; exact Nat.lt_of_lt_of_le hb' e27.nxt), hg28 b' hl]; exact e27.g b' hb'
      obtain ⟨m60, h60, kn60, s60'⟩ := kn59.sto1 0 c58 (by show 0 < 2; omega) rfl
      have hfc : ∀ b' o n s d, c58 = .sl b' o n s d → m44.nxt ≤ b' := a3
      have hother : Own1 m59 9 s2 _ _ := (o228.ext e44).keep a4 a5 q4
      refine ⟨c58, m59, a1, trivial, m60, h60, hK .nrm (fun b' => b' = nb ∨ (∃ o n s d, c58 = .sl b' o n s d) ∨ ∃ o n s d, s2 = .sl b' o n s d) _ (hB28 _ ?_) ?_ ?_ ?_ ?_ ⟨c58, s2, fun b' => Iff.rfl, ?_, ?_, ?_, kn60, ?_, ?_, ?_, ?_, ?_⟩⟩
      · rw [s60'.g _ (by omega), a5 _ hL44 (hslB _ fun o n s d hs => by have := hsne1 _ o n s d hs; exact this rfl), e44.g _ (by rw [hn28]; exact Nat.lt_of_lt_of_le hlt e27.nxt)]
      · rw [s60'.nxt]; exact Nat.le_trans ha44 a4
      · rw [s60'.vw, a4v, e44.vw, hv28, e27.vw]
      · intro b' hb' hSb hbl
        rw [s60'.g _ fun h0 => hSb ((q1 b').2 (.inl h0))]
        exact g59 b' hb' (fun o n s d hs => hSb ((q1 b').2 (.inr (.inl ⟨o, n, s, d, hs⟩)))) hbl
      · intro b' hb'
        rcases hb' with h0 | ⟨o, n', s, d, hs⟩ | ⟨o, n', s, d, hs⟩
        · exact .inl ((q1 b').2 (.inl h0))
        · exact .inr (Nat.le_trans ha44 (hfc b' o n' s d hs))
        · exact .inl ((q1 b').2 (.inr (.inr ⟨o, n', s, d, hs⟩)))
      · exact fun b' o n s d hs => Nat.le_trans (Nat.le_of_lt hL44) (hfc b' o n s d hs)
      · exact q3
      · exact Sep.fresh (m := m44) a3 (o228.ext e44)
      · rw [hap, ← hcs_app, hp, List.length_append]
        exact a2.keep1 s60' (fun b' s d hq => by have := hfc _ _ _ _ _ hq; omega)
      · rw [hot]
        exact hother.keep1 s60' (fun b' s d hq => by have := q3 _ _ _ _ _ hq; omega)
      · rw [s60'.nxt]; exact Nat.le_trans (Nat.le_of_lt hL44) a4
      · rw [s60'.vw, a4v, e44.vw, hv28, e27.vw, q9]
      · intro b' hb' hne'
        rw [s60'.g _ hne', g59 b' (by omega) (fun o n s d hs => by have := q2 b' o n s d hs; omega) (by omega)]
        exact q10 b' hb' hne'
    · have hge' : decide (n ≤ shareOf L H) = false := decide_eq_false hge
      have hap : sideT L n ((truthsP c sm L N).take (i + 1)) false = sideT L n ((truthsP c sm L N).take i) false ++ [pad H] := by rw [hTi, sideT_app, sideT_one, hge']; rfl
      have hot : sideT L n ((truthsP c sm L N).take (i + 1)) true = sideT L n ((truthsP c sm L N).take i) true := by rw [hTi, sideT_app, sideT_one, hge']; exact List.append_nil _
      refine ⟨trivial, _, (kn28.ext e44).rc (k := 1) rfl, p0, p1, p2, p3, p4, p5, p6, p7, p8, (kh28.ext e44).ra, fun m57 h57 => ?_⟩
      obtain ⟨c58, m59, a1, a2, a3, a4, a4v, a5⟩ := ap_one t129 g108 z108 (by omega) (o228.ext e44) (ws := ints [p0, p1, p2, p3, p4, p5, p6, p7, p8]) rfl (by have := sideT_len L n ((truthsP c sm L N).take i) false; have := List.length_take_le i (truthsP c sm L N); omega) h57
      have hsnb : ∀ b' o n s d, s2 = .sl b' o n s d → b' ≠ nb := fun b' o n s d hs he => by have := q3 b' o n s d hs; omega
      have kn59 : Bk m59 nb 2 [s1, s2] := Bk.keep (kn28.ext e44) a4 a5 hsnb
      have hslB : ∀ b', (∀ o n s d, s2 ≠ .sl b' o n s d) → slB s2 ≠ some b' := fun b' hb' hsb => by
        cases s2 with
        | sl b3 o n s' d =>
          cases d with
          | none =>
            have h2 : some b3 = some b' := hsb
            cases h2; exact hb' _ _ _ _ rfl
          | some d => cases hsb
        | _ => cases hsb
      have g59 : ∀ b', b' < ma.nxt → (∀ o n s d, s2 ≠ .sl b' o n s d) → b' ≠ mL.nxt → m59.g b' = ma.g b' := fun b' hb' hs hl => by
        rw [a5 b' (by omega) (hslB b' hs), e44.g b' (by rw [hn28]; exact Nat.lt_of_lt_of_le hb' e27.nxt), hg28 b' hl]; exact e27.g b' hb'
      obtain ⟨m60, h60, kn60, s60'⟩ := kn59.sto1 1 c58 (by show 1 < 2; omega) rfl
      have hfc : ∀ b' o n s d, c58 = .sl b' o n s d → m44.nxt ≤ b' := a3
      have hother : Own1 m59 9 s1 _ _ := (o128.ext e44).keep a4 a5 q4.symm
      refine ⟨c58, m59, a1, trivial, m60, h60, hK .nrm (fun b' => b' = nb ∨ (∃ o n s d, s1 = .sl b' o n s d) ∨ ∃ o n s d, c58 = .sl b' o n s d) _ (hB28 _ ?_) ?_ ?_ ?_ ?_ ⟨s1, c58, fun b' => Iff.rfl, ?_, ?_, ?_, kn60, ?_, ?_, ?_, ?_, ?_⟩⟩
      · rw [s60'.g _ (by omega), a5 _ hL44 (hslB _ fun o n s d hs => by have := hsne2 _ o n s d hs; exact this rfl), e44.g _ (by rw [hn28]; exact Nat.lt_of_lt_of_le hlt e27.nxt)]
      · rw [s60'.nxt]; exact Nat.le_trans ha44 a4
      · rw [s60'.vw, a4v, e44.vw, hv28, e27.vw]
      · intro b' hb' hSb hbl
        rw [s60'.g _ fun h0 => hSb ((q1 b').2 (.inl h0))]
        exact g59 b' hb' (fun o n s d hs => hSb ((q1 b').2 (.inr (.inr ⟨o, n, s, d, hs⟩)))) hbl
      · intro b' hb'
        rcases hb' with h0 | ⟨o, n', s, d, hs⟩ | ⟨o, n', s, d, hs⟩
        · exact .inl ((q1 b').2 (.inl h0))
        · exact .inl ((q1 b').2 (.inr (.inl ⟨o, n', s, d, hs⟩)))
        · exact .inr (Nat.le_trans ha44 (hfc b' o n' s d hs))
      · exact q2
      · exact fun b' o n s d hs => Nat.le_trans (Nat.le_of_lt hL44) (hfc b' o n s d hs)
      · exact (Sep.fresh (m := m44) a3 (o128.ext e44)).symm
      · rw [hot]
        exact hother.keep1 s60' (fun b' s d hq => by have := q2 _ _ _ _ _ hq; omega)
      · rw [hap, ← hcs_app, hp, List.length_append]
        exact a2.keep1 s60' (fun b' s d hq => by have := hfc _ _ _ _ _ hq; omega)
      · rw [s60'.nxt]; exact Nat.le_trans (Nat.le_of_lt hL44) a4
      · rw [s60'.vw, a4v, e44.vw, hv28, e27.vw, q9]
      · intro b' hb' hne'
        rw [s60'.g _ hne', g59 b' (by omega) (fun o n s d hs => by have := q3 b' o n s d hs; omega) (by omega)]
        exact q10 b' hb' hne'
  · intro S' m5 hown hlt hv hg hj
    obtain ⟨s1, s2, q1, q2, q3, q4, q5, q6, q7, q8, q9, q10⟩ := hj
    rw [hlen, List.take_of_length_le (Nat.le_refl _)] at q6 q7
    have kr5 : Bk m5 m1.nxt 2 [.sl0, .sl0] := ⟨(q10 _ kr.lt (by omega)).trans kr.g, Nat.lt_of_lt_of_le kr.lt q8⟩
    have hext : Ext m m5 := ⟨Nat.le_trans xL.nxt q8, fun b' hb' => by rw [q10 b' (Nat.lt_of_lt_of_le hb' xL.nxt) (by omega)]; exact xL.g b' hb', q9.trans xL.vw⟩
    obtain ⟨m6, h6, k6, s6'⟩ := kr5.sto [s1, s2]
    refine ⟨s1, s2, q5.ra, m6, h6, s1, s2, k6.ra, h s1 s2 m6 (hext.st1 s6' (by omega)) ?_ ?_⟩
    · exact (q6.keep1 s6' (fun b' s d hq => by have := q2 _ _ _ _ _ hq; have := kr.lt; omega)).ls
    · exact (q7.keep1 s6' (fun b' s d hq => by have := q3 _ _ _ _ _ hq; have := kr.lt; omega)).ls
end
end Go.Proofs.Ytgkjfhkjgdiodaa

namespace Go.Proofs.Ytgkjfhkjgdiodaa
open _root_.Go.Proofs.Try
open Go.Abs
set_option maxRecDepth 100000
noncomputable section
/-- no hits of A look at the places D like hits of B -/
def decB (A B : List (List Int)) (D : List Int) : Bool := B.all fun P => !(A.any fun P' => decide (keyL P' D = keyL P D))
def fK (A : List (List Int)) (D : List Int) : HK → Option U := fun a => if A.any (fun P => decide (keyL P D = a.1)) then some (.c (.bool true)) else none
theorem s107 {P D : List Int} {A : List (List Int)} {z : C} {b b2 mb : Nat} {m : M} {Q : V → M → Prop} (hP : P.length = 9) (hS : Small P) (kb : Bk m b 1 [.map mb]) (kb2 : Bk m b2 1 [z]) (hmp : Mp encH m mb (fK A D)) (hz : Li m z D) (hDl : D.length ≤ 1000) (hD : ∀ v ∈ D, 0 ≤ v ∧ v < 9)
    (h : ∀ m', Ext m m' → Q (.c (.bool (!(A.any fun P' => decide (keyL P' D = keyL P D))))) m') : Wc prog tbl 107 [.agg 9 (ints P), .c (.ptr b 0), .c (.ptr b2 0)] m Q := by
  obtain ⟨p0, p1, p2, p3, p4, p5, p6, p7, p8, hPe⟩ := nine hP
  have hk9 := keyL_len P D
  have hkS := keyL_small hP hS hD
  obtain ⟨k0, k1, k2, k3, k4, k5, k6, k7, k8, hke⟩ := nine hk9
  have hQ : ∀ m', Ext m m' → ∀ o, fK A D ⟨keyL P D, hk9, hkS⟩ = o → (o = none → Q (.c (.bool true)) m') ∧ ∀ u, o = some u → ∃ b25 : Bool, u = U.c (.bool b25) ∧ Q (.c (.bool (!b25))) m' := fun m' e o ho => by
    have hq := h m' e
    unfold fK at ho
    cases ha : A.any fun P' => decide (keyL P' D = keyL P D) with
    | true =>
      have ha' : (A.any fun P_1 => decide (keyL P_1 D = (⟨keyL P D, hk9, hkS⟩ : HK).1)) = true := ha
      rw [ha] at hq
      rw [if_pos ha'] at ho
      subst ho
      exact ⟨fun h1 => (by cases h1), fun u hu => ⟨true, (by cases hu; rfl), hq⟩⟩
    | false =>
      have ha' : ¬ (A.any fun P_1 => decide (keyL P_1 D = (⟨keyL P D, hk9, hkS⟩ : HK).1)) = true := by
        have : (A.any fun P_1 => decide (keyL P_1 D = (⟨keyL P D, hk9, hkS⟩ : HK).1)) = false := ha
        rw [this]; decide
      rw [ha] at hq
      rw [if_neg ha'] at ho
      subst ho
      exact ⟨fun _ => hq, fun u hu => (by cases hu)⟩
  have hs105 := fun (mm : M) (e : Ext m mm) (Q' : V → M → Prop) (hh : ∀ m', Ext mm m' → Q' (.agg 9 (ints (keyL P D))) m') => s105 (Q := Q') hP (hz.ext e) hDl hD hh
  rw [hPe] at hs105
  rw [hPe]
  refine w107 p0 p1 p2 p3 p4 p5 p6 p7 p8 b b2 fun m0 e0 => ?_
  obtain ⟨b0, x0⟩ := Bk.new e0
  refine ⟨_, (kb.ext x0).rc rfl, p0, p1, p2, p3, p4, p5, p6, p7, p8, b0.ra, z, (kb2.ext x0).rc rfl, hs105 m0 x0 _ fun m13 e13 => ?_⟩
  rw [show keyL [p0, p1, p2, p3, p4, p5, p6, p7, p8] D = [k0, k1, k2, k3, k4, k5, k6, k7, k8] by rw [← hPe]; exact hke]
  have x13 := x0.trans e13
  obtain ⟨q1, q2⟩ := hQ m13 x13 _ rfl
  refine ⟨k0, k1, k2, k3, k4, k5, k6, k7, k8, rfl, (kb.ext x13).rc rfl, fK A D ⟨keyL P D, hk9, hkS⟩, (hmp.ext x13).lk keyH ⟨keyL P D, hk9, hkS⟩ ?_, q1, q2⟩
  show _ = V.agg 9 (ints (keyL P D))
  rw [hke]; rfl
theorem s90 {A B : List (List Int)} {D : List Int} {c1 c2 z : C} {m : M} {Q : V → M → Prop} (h1 : Lh m c1 A) (h2 : Lh m c2 B) (hA : H9 A) (hB : H9 B) (lA : A.length ≤ 100000) (lB : B.length ≤ 100000) (hz : Li m z D) (hDl : D.length ≤ 1000) (hD : ∀ v ∈ D, 0 ≤ v ∧ v < 9)
    (h : ∀ m', Ext m m' → Q (.c (.bool (decB A B D))) m') : Wc prog tbl 90 [.agg 2 [c1, c2], .c z] m Q := by
  refine w90 fun m0 e0 m1 e1 m2 e2 m3 e3 => ?_
  obtain ⟨b0, x0⟩ := Bk.new e0
  obtain ⟨b1, x1⟩ := Bk.new e1
  obtain ⟨mp2, x2⟩ := Mp.new (enc := encH) e2
  obtain ⟨b3, x3⟩ := Bk.new e3
  have n0 : m0.nxt = m.nxt + 1 := by rw [e0]; rfl
  have n1 : m1.nxt = m.nxt + 2 := by rw [e1]; show m0.nxt + 1 = _; omega
  have n2 : m2.nxt = m.nxt + 3 := by rw [e2]; show m1.nxt + 1 = _; omega
  have n3 : m3.nxt = m.nxt + 4 := by rw [e3]; show m2.nxt + 1 = _; omega
  have x03 := ((x0.trans x1).trans x2).trans x3
  obtain ⟨m4, h4, b4, s4'⟩ := b3.sto [.map m1.nxt]
  have x04 : Ext m m4 := x03.st1 s4' (by omega)
  have k0 := (((b0.ext x1).ext x2).ext x3).keep1 s4' (by omega)
  have k1 := ((b1.ext x2).ext x3).keep1 s4' (by omega)
  have km : Mp encH m4 m1.nxt (fK [] D) := by
    obtain ⟨es, clock, g1, g2⟩ := (mp2.ext x3).ex
    exact ⟨⟨es, clock, (s4'.g _ (by omega)).trans g1, g2⟩, by rw [s4'.nxt]; omega⟩
  have n4 := s4'.nxt
  refine ⟨m4, h4, trivial, c1, k0.rc (k := 0) rfl, h1.isSl, fun R6 hstep => ?_⟩
  have hgo : ∀ (d i : Nat) (m8 : M), d + i = A.length → Ext m m8 → Bk m8 m.nxt 2 [c1, c2] → Bk m8 m0.nxt 1 [z] → Bk m8 m2.nxt 1 [.map m1.nxt] → Mp encH m8 m1.nxt (fK (A.take i) D) → m4.nxt ≤ m8.nxt → R6 [.c (.int .i64 (i : Int))] m8 := by
    intro d
    induction d with
    | zero =>
      intro i m8 hd he k0 k1 k2 km hn
      refine hstep _ _ ?_
      rw [h1.slLen, ifB_dec]
      refine ⟨fun h1 => by omega, fun _ => ⟨trivial, c2, k0.rc (k := 1) rfl, ?_⟩⟩
      rw [List.take_of_length_le (by omega)] at km
      refine s106 (t := fun P => !(A.any fun P' => decide (keyL P' D = keyL P D))) (h2.ext he) hB lB (fun m' P e hP Q' hq => ?_) fun m46 e46 => ⟨_, rfl, h m46 (he.trans e46)⟩
      show Wc prog tbl 107 [.agg 9 (ints P), .c (.ptr m2.nxt 0), .c (.ptr m0.nxt 0)] m' Q'
      exact s107 (hB P hP).1 (hB P hP).2 (k2.ext e) (k1.ext e) (km.ext e) (hz.ext (he.trans e)) hDl hD hq
    | succ d ih =>
      intro i m8 hd he k0 k1 k2 km hn
      refine hstep _ _ ?_
      rw [h1.slLen, ifB_dec]
      refine ⟨fun _ => ?_, fun h1 => absurd (by omega) h1⟩
      have hi : i < A.length := by omega
      have hP := hA _ (List.getElem_mem hi)
      have hTi : A.take (i + 1) = A.take i ++ [A[i]] := by rw [List.take_add_one, List.getElem?_eq_getElem hi]; rfl
      have hrd := Lh.rd (h1.ext he) hA (List.getElem?_eq_getElem hi)
      generalize A[i] = P at hP hTi hrd
      obtain ⟨p0, p1, p2, p3, p4, p5, p6, p7, p8, hPe⟩ := nine hP.1
      have hk9 := keyL_len P D
      have hkS := keyL_small hP.1 hP.2 hD
      obtain ⟨q0, q1, q2, q3, q4, q5, q6, q7, q8, hke⟩ := nine hk9
      have hs105 := fun (mm : M) (e : Ext m mm) (Q' : V → M → Prop) (hh : ∀ m', Ext mm m' → Q' (.agg 9 (ints (keyL P D))) m') => s105 (Q := Q') hP.1 (hz.ext e) hDl hD hh
      rw [hPe] at hrd hs105
      refine ⟨i, rfl, hi, p0, p1, p2, p3, p4, p5, p6, p7, p8, hrd, fun m19 h19 => ?_⟩
      obtain ⟨k19, x19⟩ := Bk.new h19
      obtain ⟨m20, h20, k20, s20'⟩ := k19.sto (ints [p0, p1, p2, p3, p4, p5, p6, p7, p8])
      have x20 : Ext m8 m20 := x19.st1 s20' (Nat.le_refl _)
      have e20 := he.trans x20
      have hpk : keyL [p0, p1, p2, p3, p4, p5, p6, p7, p8] D = [q0, q1, q2, q3, q4, q5, q6, q7, q8] := by rw [← hPe]; exact hke
      refine ⟨m20, h20, _, (k2.ext x20).rc rfl, p0, p1, p2, p3, p4, p5, p6, p7, p8, k20.ra, z, (k1.ext x20).rc rfl, hs105 m20 e20 _ fun m33 e33 => ?_⟩
      rw [hpk]
      have x33 := x20.trans e33
      obtain ⟨o, hup, hmp⟩ := (km.ext x33).up keyH ⟨keyL P D, hk9, hkS⟩ (.c (.bool true)) (k := V.agg 9 (ints [q0, q1, q2, q3, q4, q5, q6, q7, q8])) (by show _ = V.agg 9 (ints (keyL P D)); rw [hke]) (yv := V.c (.bool true)) rfl
      refine ⟨q0, q1, q2, q3, q4, q5, q6, q7, q8, rfl, (k2.ext x33).rc rfl, _, hup, fits_small (by omega) (by omega), ?_⟩
      have hfe : (fun a : HK => if a = ⟨keyL P D, hk9, hkS⟩ then some (U.c (.bool true)) else fK (A.take i) D a) = fK (A.take (i + 1)) D := by
        funext a
        unfold fK
        rw [hTi, List.any_append]
        by_cases ha : a = ⟨keyL P D, hk9, hkS⟩
        · rw [if_pos ha, ha]
          have : ([P].any fun P_1 => decide (keyL P_1 D = keyL P D)) = true := by simp
          show _ = if ((A.take i).any (fun P_1 => decide (keyL P_1 D = keyL P D)) || [P].any fun P_1 => decide (keyL P_1 D = keyL P D)) = true then _ else _
          rw [this, Bool.or_true, if_pos rfl]
        · rw [if_neg ha]
          have : ([P].any fun P_1 => decide (keyL P_1 D = a.1)) = false := by
            have h3 : ¬ keyL P D = a.1 := fun h3 => ha (Subtype.ext h3.symm)
            simp [h3]
          rw [this, Bool.or_false]
      have hmp' : Mp encH (m33.set m1.nxt o) m1.nxt (fK (A.take (i + 1)) D) := by
        obtain ⟨es, clock, g1, g2, g3⟩ := hmp.ex
        refine ⟨⟨es, clock, g1, g2, fun a => (g3 a).trans ?_⟩, hmp.lt⟩
        rw [← hfe]
        by_cases ha : a = ⟨keyL P D, hk9, hkS⟩
        · simp only [ha, if_true]
        · simp only [ha, if_false]
      exact ih (i + 1) _ (by omega) ((he.trans x33).setR (by omega) _) ((k0.ext x33).setNe (by omega) _) ((k1.ext x33).setNe (by omega) _) ((k2.ext x33).setNe (by omega) _) hmp' (by show m4.nxt ≤ m33.nxt; have := x33.nxt; omega)
  exact hgo A.length 0 m4 (by omega) x04 k0 k1 b4 km (Nat.le_refl _)
/-- the fewest places that decide -/
def fewT (c sm : Int) (L : List Int) (N : List Cnt) (n : Int) (D : List Int) : Bool := decB (sideT L n (truthsP c sm L N) true) (sideT L n (truthsP c sm L N) false) D
def fewL (r c sm : Int) (L : List Int) (N : List Cnt) (n : Int) : List Int := if askErr r c L sm N (decide (0 ≤ n ∧ n ≤ 100)) = 0 then shortL L.length (fewT c sm L N n) else []
theorem side_9 {r c sm n : Int} {L : List Int} {N : List Cnt} {b : Bool} (hf : isField r c L = true) : H9 (sideT L n (truthsP c sm L N) b) := fun P hP => by
  obtain ⟨hS, hL9, _⟩ := field_of hf
  obtain ⟨H, h1, rfl⟩ := List.mem_map.1 hP
  have hl := truth_of hf (List.mem_filter.1 h1).1
  have := listed_len hl
  exact ⟨pad_len (by omega), small_pad (small_listed hS hl)⟩
theorem s49 {r c sm n : Int} {x y : C} {L : List Int} {N : List Cnt} {m : M} {Q : V → M → Prop} (hx : Li m x L) (hL : L.length ≤ 1048576) (hy : Lc m y N) (hN : N.length ≤ 1000)
    (h : ∀ z m', Ext m m' → Li m' z (fewL r c sm L N n) → Q (.tup [.c z, .c (.int .i64 (askErr r c L sm N (decide (0 ≤ n ∧ n ≤ 100))))]) m') :
    Wc prog tbl 49 [.agg 5 [.int .i64 r, .int .i64 c, x, .int .i64 sm, y], .c (.int .i64 n)] m Q := by
  refine w49 fun m0 e0 => ?_
  obtain ⟨b0, x0⟩ := Bk.new e0
  refine ⟨r, c, x, sm, y, b0.ra, s83 (inr := decide (0 ≤ n ∧ n ≤ 100)) (hx.ext x0) hL (hy.ext x0) hN (fun _ m' _ Q' hq' => ?_) (fun hne m7 e7 => ⟨0, 0, .sl0, 0, .sl0, .map0, _, rfl, fun m15 h15 => ?_⟩) fun hz m7 mb f e7 hw => ⟨r, c, x, sm, y, .map mb, 0, rfl, fun m15 h15 => ?_⟩⟩
  · show Wc prog tbl 86 [.c (.int .i64 n)] m' Q'
    exact s86 hq'
  · obtain ⟨b15, x15⟩ := Bk.new h15
    obtain ⟨m16, h16, _, s16'⟩ := b15.sto [.int .i64 0, .int .i64 0, .sl0, .int .i64 0, .sl0, .map0]
    refine ⟨m16, h16, ?_⟩
    rw [ifB_ndec]
    refine ⟨fun _ => h _ _ ((x0.trans e7).trans (x15.st1 s16' (Nat.le_refl _))) ?_, fun h1 => absurd h1 hne⟩
    unfold fewL
    rw [if_neg hne]
    exact Ls.nil m16 1
  · obtain ⟨b15, x15⟩ := Bk.new h15
    obtain ⟨m16, h16, k16, s16'⟩ := b15.sto [.int .i64 r, .int .i64 c, x, .int .i64 sm, y, .map mb]
    have e16 : Ext m7 m16 := x15.st1 s16' (Nat.le_refl _)
    refine ⟨m16, h16, ?_⟩
    obtain ⟨hin, ht⟩ := ask_zero hz
    obtain ⟨hv, hpos⟩ := true_sv ht
    obtain ⟨hO, _⟩ := okay_of hv
    obtain ⟨hS, hL9, hrc⟩ := field_of hO.f
    have hsd := sides_of hO.f
    have hm := hsd.mul
    have x16 := (x0.trans e7).trans e16
    have hle := truths_len hv
    rw [ifB_ndec]
    refine ⟨fun h1 => absurd rfl h1, fun _ => ⟨trivial, trivial, r, c, x, k16.rp (k := 0) (j := 3) rfl (by omega), s88 (by have := hsd.r1; omega) (by have := hsd.c1; omega) (fits_small (by omega) (by omega)) fun m21 e21 => ⟨_, rfl, r, c, x, sm, y, .map mb, (k16.ext e21).ra, ?_, ?_⟩⟩⟩
    · have : allS noFnC [.int .i64 r, .int .i64 c, x, .int .i64 sm, y, .map mb] = true := by
        show ifB true (ifB true (ifB (noFnC x) (ifB true (ifB (noFnC y) (ifB true true false) false) false) false) false) false = true
        rw [hx.noFn, hy.noFn]; rfl
      rw [this]; exact k16.ra
    refine s89 ((hw.ext e16).ext e21) (hx.ext (x16.trans e21)) hO.f (by omega) fun c1 c2 m30 e30 l1 l2 => ⟨c1, c2, rfl, ?_⟩
    obtain ⟨d1, hd1, hd1'⟩ := keepC l1
    obtain ⟨d2, hd2, hd2'⟩ := keepC l2
    have hvw : mapO vW [V.agg 2 [c1, c2]] = some [.agg 2 [d1, d2]] := by
      show optB (optB (optB (cC0 c1) none fun a => optB (optB (cC0 c2) none fun b => some [b]) none fun l => some (a :: l)) none fun xs => some (W.agg 2 xs)) none (fun w => some [w]) = _
      rw [hd1, hd2]; rfl
    rw [hvw, optB_some, ← hrc]
    have x30 := (x16.trans e21).trans e30
    refine s87 (t := fewT c sm L N n) (by omega) (fun m' z D e hzD hD Q' hq => ?_) fun z m35 e35 hzz => ⟨z, rfl, ?_⟩
    · have hi := mem_allL.1 hD
      have hl := inc_len hi
      show Wc prog tbl 90 [.agg 2 [c0C d1, c0C d2], .c z] m' Q'
      rw [hd1', hd2']
      have l3 := sideT_len L n (truthsP c sm L N) true
      have l4 := sideT_len L n (truthsP c sm L N) false
      exact s90 (l1.ext e) (l2.ext e) (side_9 hO.f) (side_9 hO.f) (by omega) (by omega) hzD (by omega) (fun v hv => by have := hi.2 v hv; omega) hq
    · have hq := h z m35 (x30.trans e35) (by unfold fewL; rw [if_pos hz]; exact hzz)
      rw [hz] at hq
      exact hq
/-- the places decide if no two truths on both sides agree there -/
theorem few_iff {r c sm n : Int} {L D : List Int} {N : List Cnt} (hv : svErr r c L sm N = 0) (hD : Inc L.length 0 D) : fewT c sm L N n D = true ↔ ∀ H H', TruthR c sm L N H → TruthR c sm L N H' → n ≤ shareOf L H → shareOf L H' < n → ¬ ∀ v ∈ D, H[v.toNat]! = H'[v.toNat]! := by
  obtain ⟨hO, hsm⟩ := okay_of hv
  obtain ⟨hS, hL9, hrc⟩ := field_of hO.f
  have hD9 : ∀ v ∈ D, 0 ≤ v ∧ v < 9 := fun v hv' => by have := hD.2 v hv'; omega
  have hpg : ∀ {H : List Int}, TruthR c sm L N H → ∀ v ∈ D, (pad H)[v.toNat]! = H[v.toNat]! := fun {H} hT v hv' => by
    have hlen := listed_len hT.1
    have h1 := hD.2 v hv'
    have := at_pad (H := H) (by omega) (k := v.toNat) (by omega)
    exact this
  have hp9 : ∀ {H : List Int}, TruthR c sm L N H → (pad H).length = 9 := fun hT => pad_len (by have := listed_len hT.1; omega)
  unfold fewT decB
  rw [List.all_eq_true]
  constructor
  · intro h H H' hT hT' h1 h2 h3
    have hm' : pad H' ∈ sideT L n (truthsP c sm L N) false := List.mem_map.2 ⟨H', List.mem_filter.2 ⟨(mem_P hv).2 hT', by rw [decide_eq_false (by omega)]; rfl⟩, rfl⟩
    have h4 := h _ hm'
    have h5 : ((sideT L n (truthsP c sm L N) true).any fun P' => decide (keyL P' D = keyL (pad H') D)) = true := by
      refine List.any_eq_true.2 ⟨pad H, List.mem_map.2 ⟨H, List.mem_filter.2 ⟨(mem_P hv).2 hT, by rw [decide_eq_true h1]; rfl⟩, rfl⟩, decide_eq_true ?_⟩
      rw [keyL_eq (hp9 hT) (hp9 hT') hD9]
      intro v hv'
      rw [hpg hT v hv', hpg hT' v hv']; exact h3 v hv'
    rw [h5] at h4; cases h4
  · intro h P hP
    obtain ⟨H', h1, rfl⟩ := List.mem_map.1 hP
    obtain ⟨h2, h3⟩ := List.mem_filter.1 h1
    have hT' := (mem_P hv).1 h2
    cases ha : (sideT L n (truthsP c sm L N) true).any fun P' => decide (keyL P' D = keyL (pad H') D) with
    | false => rfl
    | true =>
      obtain ⟨P', h4, h5⟩ := List.any_eq_true.1 ha
      obtain ⟨H, h6, rfl⟩ := List.mem_map.1 h4
      obtain ⟨h7, h8⟩ := List.mem_filter.1 h6
      have hT := (mem_P hv).1 h7
      have h9 := of_decide_eq_true h5
      rw [keyL_eq (hp9 hT) (hp9 hT') hD9] at h9
      refine absurd (fun v hv' => ?_) (h H H' hT hT' (by simpa using h8) (by simpa using h3))
      have := h9 v hv'
      rw [hpg hT v hv', hpg hT' v hv'] at this
      exact this
theorem all_inc (n : Nat) : Inc n 0 ((List.range n).map fun j => ((j : Nat) : Int)) := by
  refine ⟨?_, fun v hv => ?_⟩
  · rw [List.pairwise_map]
    exact List.pairwise_lt_range.imp fun h => by omega
  · obtain ⟨j, h1, rfl⟩ := List.mem_map.1 hv
    have := List.mem_range.1 h1
    omega
/-- the fewest places: what they are -/
theorem few_spec {r c sm n : Int} {L : List Int} {N : List Cnt} (ht : trueErr r c L sm N = 0) (hn : 0 ≤ n ∧ n ≤ 100) : Inc L.length 0 (fewL r c sm L N n) ∧ fewT c sm L N n (fewL r c sm L N n) = true ∧ ∀ D, Inc L.length 0 D → fewT c sm L N n D = true → D = fewL r c sm L N n ∨ shB (fewL r c sm L N n) D = true := by
  obtain ⟨hv, hpos⟩ := true_sv ht
  have hask : askErr r c L sm N (decide (0 ≤ n ∧ n ≤ 100)) = 0 := by unfold askErr; rw [if_pos hv, decide_eq_true hn]; exact ht
  have hfull : fewT c sm L N n ((List.range L.length).map fun j => ((j : Nat) : Int)) = true := by
    rw [few_iff hv (all_inc _)]
    intro H H' hT hT' h1 h2 h3
    have hl := listed_len hT.1
    have hl' := listed_len hT'.1
    have : H = H' := List.ext_getElem (by omega) fun j hj hj' => by
      have := h3 (j : Int) (List.mem_map.2 ⟨j, List.mem_range.2 (by omega), rfl⟩)
      rw [Int.toNat_natCast, getElem!_pos H j hj, getElem!_pos H' j hj'] at this
      exact this
    rw [this] at h1; omega
  unfold fewL
  rw [if_pos hask]
  exact shortL_spec ⟨_, all_inc _, hfull⟩
end
end Go.Proofs.Ytgkjfhkjgdiodaa

namespace Go.Proofs.Ytgkjfhkjgdiodaa
open _root_.Go.Proofs.Try
open Go.Abs
set_option maxRecDepth 100000
noncomputable section
theorem w6 {a100 : Int} {a101 : Int} {a102 : C} {a103 : Int} {a104 : C} {a200 : Int} {m : M} {Q : V → M → Prop} (h :
 (∀ m0 : M, ((m0 = (M.new m (AO.cells 5 [(C.int .i64 a100), (C.int .i64 a101), a102, (C.int .i64 a103), 
 a104] false))) → (∃ x1 : Int, (∃ x2 : Int, (∃ c3 : C, (∃ x4 : Int, (∃ c5 : C, (((ldA m0 (C.ptr m.nxt 0) 5) = (some [(C.int .i64 x1), 
 (C.int .i64 x2), c3, (C.int .i64 x4), c5])) ∧ (Wc prog tbl 19 [(V.agg 5 [(C.int .i64 x1), 
 (C.int .i64 x2), c3, (C.int .i64 x4), c5])] m0 (fun v6 m7 => (∃ b8 : Bool, ((v6 = (V.c (C.bool b8))) ∧ 
 (ifB (!b8) (Wc prog tbl 20 [] m7 (fun v9 m10 => (∃ b11 : Bool, ((v9 = (V.c (C.bool b11))) ∧ (Q (V.c (C.bool b11)) m10))))) (∃ x12 : Int, 
 (∃ x13 : Int, (∃ c14 : C, (∃ x15 : Int, (∃ c16 : C, (((ldA m7 (C.ptr m.nxt 0) 5) = (some [(C.int .i64 x12), 
 (C.int .i64 x13), c14, (C.int .i64 x15), c16])) ∧ (Wc prog tbl 33 [(V.agg 5 [(C.int .i64 x12), 
 (C.int .i64 x13), c14, (C.int .i64 x15), c16])] m7 (fun v17 m18 => (∃ x19 : Int, 
 (∃ x20 : Int, (∃ c21 : C, (∃ x22 : Int, (∃ c23 : C, ((v17 = (V.agg 5 [(C.int .i64 x19), 
 (C.int .i64 x20), c21, (C.int .i64 x22), c23])) ∧ (Wc prog tbl 48 [(V.agg 5 [(C.int .i64 x19), 
 (C.int .i64 x20), c21, (C.int .i64 x22), c23]), (V.c (C.int .i64 a200))] m18 (fun v24 m25 => 
 (∃ x26 : Int, (∃ x27 : Int, ((v24 = (V.tup [(U.c (C.int .i64 x26)), (U.c (C.int .i64 x27))])) ∧ 
 (∃ x28 : Int, (∃ x29 : Int, (∃ c30 : C, (∃ x31 : Int, (∃ c32 : C, (((ldA m25 (C.ptr m.nxt 0) 5) = (some [(C.int .i64 x28), 
 (C.int .i64 x29), c30, (C.int .i64 x31), c32])) ∧ (Wc prog tbl 33 [(V.agg 5 [(C.int .i64 x28), 
 (C.int .i64 x29), c30, (C.int .i64 x31), c32])] m25 (fun v33 m34 => 
 (∃ x35 : Int, (∃ x36 : Int, (∃ c37 : C, (∃ x38 : Int, (∃ c39 : C, ((v33 = (V.agg 5 [(C.int .i64 x35), 
 (C.int .i64 x36), c37, (C.int .i64 x38), c39])) ∧ (Wc prog tbl 49 [(V.agg 5 [(C.int .i64 x35), 
 (C.int .i64 x36), c37, (C.int .i64 x38), c39]), (V.c (C.int .i64 a200))] m34 (fun v40 m41 => 
 (∃ c42 : C, (∃ x43 : Int, ((v40 = (V.tup [(U.c c42), (U.c (C.int .i64 x43))])) ∧ 
 (∃ x44 : Int, (∃ x45 : Int, (∃ c46 : C, (∃ x47 : Int, (∃ c48 : C, (((ldA m41 (C.ptr m.nxt 0) 5) = (some [(C.int .i64 x44), 
 (C.int .i64 x45), c46, (C.int .i64 x47), c48])) ∧ (Wc prog tbl 43 [(V.agg 5 [(C.int .i64 x44), 
 (C.int .i64 x45), c46, (C.int .i64 x47), c48])] m41 (fun v49 m50 => 
 (∃ c51 : C, (∃ x52 : Int, ((v49 = (V.tup [(U.c c51), (U.c (C.int .i64 x52))])) ∧ 
 (∃ x53 : Int, (∃ x54 : Int, (∃ c55 : C, (∃ x56 : Int, (∃ c57 : C, (((ldA m50 (C.ptr m.nxt 0) 5) = (some [(C.int .i64 x53), 
 (C.int .i64 x54), c55, (C.int .i64 x56), c57])) ∧ (Wc prog tbl 36 [(V.agg 5 [(C.int .i64 x53), 
 (C.int .i64 x54), c55, (C.int .i64 x56), c57])] m50 (fun v58 m59 => 
 (∃ x60 : Int, ((v58 = (V.c (C.int .i64 x60))) ∧ (ifB (decide (x60 = (0 : Int))) (Wc prog tbl 44 [(V.c (C.int .i64 a200)), 
 (V.c (C.int .i64 (0 : Int))), (V.c (C.int .i64 (100 : Int)))] m59 (fun v61 m62 => 
 (∃ b63 : Bool, ((v61 = (V.c (C.bool b63))) ∧ (ifB (!b63) (ifB (decide (x27 = (2 : Int))) (ifB (decide (x43 = (2 : Int))) (ifB (decide (x26 = (0 : Int))) (isSl c42 ∧ 
 (ifB (decide ((((slLen c42) : Nat) : Int) = (0 : Int))) (Wc prog tbl 20 [] m62 (fun v64 m65 => 
 (∃ b66 : Bool, ((v64 = (V.c (C.bool b66))) ∧ (Q (V.c (C.bool b66)) m65))))) (Q (V.c (C.bool false)) m62))) (Q (V.c (C.bool false)) m62)) (Q (V.c (C.bool false)) m62)) (Q (V.c (C.bool false)) m62)) (ifB (!decide (x52 = (0 : Int))) (ifB (decide (x27 = x52)) (ifB (decide (x43 = x52)) (ifB (decide (x26 = (0 : Int))) (isSl c42 ∧ 
 (ifB (decide ((((slLen c42) : Nat) : Int) = (0 : Int))) (Wc prog tbl 20 [] m62 (fun v67 m68 => 
 (∃ b69 : Bool, ((v67 = (V.c (C.bool b69))) ∧ (Q (V.c (C.bool b69)) m68))))) (Q (V.c (C.bool false)) m62))) (Q (V.c (C.bool false)) m62)) (Q (V.c (C.bool false)) m62)) (Q (V.c (C.bool false)) m62)) (ifB (decide (x27 = (0 : Int))) (ifB (decide (x43 = (0 : Int))) (∃ x70 : Int, 
 (∃ x71 : Int, (∃ c72 : C, (∃ x73 : Int, (∃ c74 : C, (((ldA m62 (C.ptr m.nxt 0) 5) = (some [(C.int .i64 x70), 
 (C.int .i64 x71), c72, (C.int .i64 x73), c74])) ∧ (Wc prog tbl 46 [(V.agg 5 [(C.int .i64 x70), 
 (C.int .i64 x71), c72, (C.int .i64 x73), c74]), (V.c c51)] m62 (fun v75 m76 => 
 (∃ x77 : Int, (∃ x78 : Int, ((v75 = (V.agg 2 [(C.int .i64 x77), (C.int .i64 x78)])) ∧ 
 (Wc prog tbl 50 [(V.agg 2 [(C.int .i64 x77), (C.int .i64 x78)]), 
 (V.c (C.int .i64 a200))] m76 (fun v79 m80 => (∃ x81 : Int, ((v79 = (V.c (C.int .i64 x81))) ∧ 
 (ifB (decide (x26 = x81)) (∃ x82 : Int, (∃ x83 : Int, (∃ c84 : C, (∃ x85 : Int, 
 (∃ c86 : C, (((ldA m80 (C.ptr m.nxt 0) 5) = (some [(C.int .i64 x82), 
 (C.int .i64 x83), c84, (C.int .i64 x85), c86])) ∧ (Wc prog tbl 51 [(V.agg 5 [(C.int .i64 x82), 
 (C.int .i64 x83), c84, (C.int .i64 x85), c86]), (V.c c51), (V.c (C.int .i64 a200))] m80 (fun v87 m88 => 
 (∃ c89 : C, ((v87 = (V.c c89)) ∧ (Wc prog tbl 29 [(V.c c42), (V.c c89)] m88 (fun v90 m91 => 
 (∃ b92 : Bool, ((v90 = (V.c (C.bool b92))) ∧ (ifB b92 (Wc prog tbl 20 [] m91 (fun v93 m94 => 
 (∃ b95 : Bool, ((v93 = (V.c (C.bool b95))) ∧ (Q (V.c (C.bool b95)) m94))))) (Q (V.c (C.bool false)) m91)))))))))))))))) (Q (V.c (C.bool false)) m80))))))))))))))))) (Q (V.c (C.bool false)) m62)) (Q (V.c (C.bool false)) m62)))))))) (ifB (!decide (x52 = (0 : Int))) (ifB (decide (x27 = x52)) (ifB (decide (x43 = x52)) (ifB (decide (x26 = (0 : Int))) (isSl c42 ∧ 
 (ifB (decide ((((slLen c42) : Nat) : Int) = (0 : Int))) (Wc prog tbl 20 [] m59 (fun v96 m97 => 
 (∃ b98 : Bool, ((v96 = (V.c (C.bool b98))) ∧ (Q (V.c (C.bool b98)) m97))))) (Q (V.c (C.bool false)) m59))) (Q (V.c (C.bool false)) m59)) (Q (V.c (C.bool false)) m59)) (Q (V.c (C.bool false)) m59)) (ifB (decide (x27 = (0 : Int))) (ifB (decide (x43 = (0 : Int))) (∃ x99 : Int, 
 (∃ x100 : Int, (∃ c101 : C, (∃ x102 : Int, (∃ c103 : C, (((ldA m59 (C.ptr m.nxt 0) 5) = (some [(C.int .i64 x99), 
 (C.int .i64 x100), c101, (C.int .i64 x102), c103])) ∧ (Wc prog tbl 46 [(V.agg 5 [(C.int .i64 x99), 
 (C.int .i64 x100), c101, (C.int .i64 x102), c103]), (V.c c51)] m59 (fun v104 m105 => 
 (∃ x106 : Int, (∃ x107 : Int, ((v104 = (V.agg 2 [(C.int .i64 x106), (C.int .i64 x107)])) ∧ 
 (Wc prog tbl 50 [(V.agg 2 [(C.int .i64 x106), (C.int .i64 x107)]), 
 (V.c (C.int .i64 a200))] m105 (fun v108 m109 => (∃ x110 : Int, ((v108 = (V.c (C.int .i64 x110))) ∧ 
 (ifB (decide (x26 = x110)) (∃ x111 : Int, (∃ x112 : Int, (∃ c113 : C, (∃ x114 : Int, 
 (∃ c115 : C, (((ldA m109 (C.ptr m.nxt 0) 5) = (some [(C.int .i64 x111), 
 (C.int .i64 x112), c113, (C.int .i64 x114), c115])) ∧ (Wc prog tbl 51 [(V.agg 5 [(C.int .i64 x111), 
 (C.int .i64 x112), c113, (C.int .i64 x114), c115]), (V.c c51), 
 (V.c (C.int .i64 a200))] m109 (fun v116 m117 => (∃ c118 : C, ((v116 = (V.c c118)) ∧ 
 (Wc prog tbl 29 [(V.c c42), (V.c c118)] m117 (fun v119 m120 => (∃ b121 : Bool, 
 ((v119 = (V.c (C.bool b121))) ∧ (ifB b121 (Wc prog tbl 20 [] m120 (fun v122 m123 => 
 (∃ b124 : Bool, ((v122 = (V.c (C.bool b124))) ∧ (Q (V.c (C.bool b124)) m123))))) (Q (V.c (C.bool false)) m120)))))))))))))))) (Q (V.c (C.bool false)) m109))))))))))))))))) (Q (V.c (C.bool false)) m59)) (Q (V.c (C.bool false)) m59))))))))))))))))))))))))))))))))))))))))))))))))))))))))))))))))))))))))))))) : Wc prog tbl 6 [(V.agg 5 [(C.int .i64 a100), (C.int .i64 a101), a102, (C.int .i64 a103), a104]), (V.c (C.int .i64 a200))] m Q :=
 wc_eq (n := 2) rfl (by kernel_rfl) (by kernel_rfl) h
theorem w13 {a100 : Int} {a101 : Int} {a102 : C} {a103 : Int} {a104 : C} {a200 : Int} {a300 : Int} {a400 : Int} {m : M} {Q : V → M → Prop} (h :
 (∀ m0 : M, ((m0 = (M.new m (AO.cells 5 [(C.int .i64 a100), (C.int .i64 a101), a102, (C.int .i64 a103), 
 a104] false))) → (∃ x1 : Int, (∃ x2 : Int, (∃ c3 : C, (∃ x4 : Int, (∃ c5 : C, (((ldA m0 (C.ptr m.nxt 0) 5) = (some [(C.int .i64 x1), 
 (C.int .i64 x2), c3, (C.int .i64 x4), c5])) ∧ (Wc prog tbl 62 [(V.agg 5 [(C.int .i64 x1), 
 (C.int .i64 x2), c3, (C.int .i64 x4), c5])] m0 (fun v6 m7 => (∃ b8 : Bool, ((v6 = (V.c (C.bool b8))) ∧ 
 (ifB (!b8) (Wc prog tbl 20 [] m7 (fun v9 m10 => (∃ b11 : Bool, ((v9 = (V.c (C.bool b11))) ∧ (Q (V.c (C.bool b11)) m10))))) (((0 : Int) ≤ (wrapZ .i64 a300)) ∧ 
 (((0 : Int) < (101 : Int)) ∧ (fitsP .i64 ((wrapZ .i64 a300) % (101 : Int)) ∧ (∃ x12 : Int, 
 (∃ x13 : Int, (∃ c14 : C, (∃ x15 : Int, (∃ c16 : C, (((ldA m7 (C.ptr m.nxt 0) 5) = (some [(C.int .i64 x12), 
 (C.int .i64 x13), c14, (C.int .i64 x15), c16])) ∧ (Wc prog tbl 33 [(V.agg 5 [(C.int .i64 x12), 
 (C.int .i64 x13), c14, (C.int .i64 x15), c16])] m7 (fun v17 m18 => 
 (∃ x19 : Int, (∃ x20 : Int, (∃ c21 : C, (∃ x22 : Int, (∃ c23 : C, ((v17 = (V.agg 5 [(C.int .i64 x19), 
 (C.int .i64 x20), c21, (C.int .i64 x22), c23])) ∧ (Wc prog tbl 49 [(V.agg 5 [(C.int .i64 x19), 
 (C.int .i64 x20), c21, (C.int .i64 x22), c23]), (V.c (C.int .i64 ((wrapZ .i64 a300) % (101 : Int))))] m18 (fun v24 m25 => 
 (∃ c26 : C, (∃ x27 : Int, ((v24 = (V.tup [(U.c c26), (U.c (C.int .i64 x27))])) ∧ 
 (ifB (!decide (x27 = (0 : Int))) (Q (V.c (C.bool false)) m25) (∀ R28 : List V → 
 M → Prop, ((∀ b29 : Bool, (∀ x30 : Int, (∀ x31 : Int, (∀ m32 : M, ((isSl c26 ∧ 
 (ifB (decide (x31 < (((slLen c26) : Nat) : Int))) (∃ n33 : Nat, ((x31 = ((n33 : Nat) : Int)) ∧ 
 ((n33 < (slLen c26)) ∧ (∃ x34 : Int, (((ldC m32 (slAt c26 (n33 * 1))) = (some (C.int .i64 x34))) ∧ 
 (isPt (C.ptr m.nxt 0) ∧ (isPt (C.ptr m.nxt 0) ∧ (∃ c35 : C, (((ldC m32 (C.ptr m.nxt 2)) = (some c35)) ∧ 
 (isSl c35 ∧ (fitsP .i64 ((((slLen c35) : Nat) : Int) - (1 : Int)) ∧ (Wc prog tbl 44 [(V.c (C.int .i64 x34)), 
 (V.c (C.int .i64 (0 : Int))), (V.c (C.int .i64 ((((slLen c35) : Nat) : Int) - (1 : Int))))] m32 (fun v36 m37 => 
 (∃ b38 : Bool, ((v36 = (V.c (C.bool b38))) ∧ (ifB (!b38) (Q (V.c (C.bool false)) m37) (ifB (decide ((0 : Int) < x31)) (∃ n39 : Nat, 
 ((x31 = ((n39 : Nat) : Int)) ∧ ((n39 < (slLen c26)) ∧ (∃ x40 : Int, (((ldC m37 (slAt c26 (n39 * 1))) = (some (C.int .i64 x40))) ∧ 
 (fitsP .i64 (x31 - (1 : Int)) ∧ (∃ n41 : Nat, (((x31 - (1 : Int)) = ((n41 : Nat) : Int)) ∧ 
 ((n41 < (slLen c26)) ∧ (∃ x42 : Int, (((ldC m37 (slAt c26 (n41 * 1))) = (some (C.int .i64 x42))) ∧ 
 (ifB (decide (x40 ≤ x42)) (Q (V.c (C.bool false)) m37) (∃ n43 : Nat, ((x31 = ((n43 : Nat) : Int)) ∧ 
 ((n43 < (slLen c26)) ∧ (∃ x44 : Int, (((ldC m37 (slAt c26 (n43 * 1))) = (some (C.int .i64 x44))) ∧ 
 (((0 : Int) ≤ (1 : Int)) ∧ (((0 : Int) ≤ (wrapZ .u64 x44)) ∧ (((wrapZ .u64 x44) ≤ (64 : Int)) ∧ 
 (fitsP .i64 ((1 : Int) * ((2 : Int) ^ (Int.toNat (wrapZ .u64 x44)))) ∧ 
 (((0 : Int) ≤ x30) ∧ (((0 : Int) ≤ ((1 : Int) * ((2 : Int) ^ (Int.toNat (wrapZ .u64 x44))))) ∧ 
 (fitsP .i64 x30 ∧ (fitsP .i64 ((1 : Int) * ((2 : Int) ^ (Int.toNat (wrapZ .u64 x44)))) ∧ 
 (fitsP .i64 (((Nat.lor (Int.toNat x30) (Int.toNat ((1 : Int) * ((2 : Int) ^ (Int.toNat (wrapZ .u64 x44)))))) : Nat) : Int) ∧ 
 (fitsP .i64 (x31 + (1 : Int)) ∧ (R28 [(V.c (C.bool b29)), (V.c (C.int .i64 (((Nat.lor (Int.toNat x30) (Int.toNat ((1 : Int) * ((2 : Int) ^ (Int.toNat (wrapZ .u64 x44)))))) : Nat) : Int))), 
 (V.c (C.int .i64 (x31 + (1 : Int))))] m37)))))))))))))))))))))))))))) (∃ n45 : Nat, 
 ((x31 = ((n45 : Nat) : Int)) ∧ ((n45 < (slLen c26)) ∧ (∃ x46 : Int, (((ldC m37 (slAt c26 (n45 * 1))) = (some (C.int .i64 x46))) ∧ 
 (((0 : Int) ≤ (1 : Int)) ∧ (((0 : Int) ≤ (wrapZ .u64 x46)) ∧ (((wrapZ .u64 x46) ≤ (64 : Int)) ∧ 
 (fitsP .i64 ((1 : Int) * ((2 : Int) ^ (Int.toNat (wrapZ .u64 x46)))) ∧ 
 (((0 : Int) ≤ x30) ∧ (((0 : Int) ≤ ((1 : Int) * ((2 : Int) ^ (Int.toNat (wrapZ .u64 x46))))) ∧ 
 (fitsP .i64 x30 ∧ (fitsP .i64 ((1 : Int) * ((2 : Int) ^ (Int.toNat (wrapZ .u64 x46)))) ∧ 
 (fitsP .i64 (((Nat.lor (Int.toNat x30) (Int.toNat ((1 : Int) * ((2 : Int) ^ (Int.toNat (wrapZ .u64 x46)))))) : Nat) : Int) ∧ 
 (fitsP .i64 (x31 + (1 : Int)) ∧ (R28 [(V.c (C.bool b29)), (V.c (C.int .i64 (((Nat.lor (Int.toNat x30) (Int.toNat ((1 : Int) * ((2 : Int) ^ (Int.toNat (wrapZ .u64 x46)))))) : Nat) : Int))), 
 (V.c (C.int .i64 (x31 + (1 : Int))))] m37))))))))))))))))))))))))))))))))) (isPt (C.ptr m.nxt 0) ∧ 
 (isPt (C.ptr m.nxt 0) ∧ (∃ c47 : C, (((ldC m32 (C.ptr m.nxt 2)) = (some c47)) ∧ 
 (isSl c47 ∧ (((0 : Int) ≤ (1 : Int)) ∧ (((0 : Int) ≤ (wrapZ .u64 (((slLen c47) : Nat) : Int))) ∧ 
 (((wrapZ .u64 (((slLen c47) : Nat) : Int)) ≤ (64 : Int)) ∧ (fitsP .i64 ((1 : Int) * ((2 : Int) ^ (Int.toNat (wrapZ .u64 (((slLen c47) : Nat) : Int))))) ∧ 
 (((0 : Int) ≤ (wrapZ .i64 a400)) ∧ (((0 : Int) < ((1 : Int) * ((2 : Int) ^ (Int.toNat (wrapZ .u64 (((slLen c47) : Nat) : Int)))))) ∧ 
 (fitsP .i64 ((wrapZ .i64 a400) % ((1 : Int) * ((2 : Int) ^ (Int.toNat (wrapZ .u64 (((slLen c47) : Nat) : Int)))))) ∧ 
 (∃ x48 : Int, (∃ x49 : Int, (∃ c50 : C, (∃ x51 : Int, (∃ c52 : C, (((ldA m32 (C.ptr m.nxt 0) 5) = (some [(C.int .i64 x48), 
 (C.int .i64 x49), c50, (C.int .i64 x51), c52])) ∧ (Wc prog tbl 63 [(V.agg 5 [(C.int .i64 x48), 
 (C.int .i64 x49), c50, (C.int .i64 x51), c52]), (V.c (C.int .i64 (0 : Int)))] m32 (fun v53 m54 => 
 (∃ c55 : C, ((v53 = (V.c c55)) ∧ (∃ x56 : Int, (∃ x57 : Int, (∃ c58 : C, (∃ x59 : Int, 
 (∃ c60 : C, (((ldA m54 (C.ptr m.nxt 0) 5) = (some [(C.int .i64 x56), 
 (C.int .i64 x57), c58, (C.int .i64 x59), c60])) ∧ (Wc prog tbl 64 [(V.agg 5 [(C.int .i64 x56), 
 (C.int .i64 x57), c58, (C.int .i64 x59), c60]), (V.c c55), (V.c (C.int .i64 ((wrapZ .i64 a300) % (101 : Int)))), 
 (V.c (C.int .i64 x30))] m54 (fun v61 m62 => (∃ b63 : Bool, ((v61 = (V.c (C.bool b63))) ∧ 
 (ifB (!b63) (Q (V.c (C.bool false)) m62) (Wc prog tbl 66 [(V.c (C.int .i64 ((wrapZ .i64 a400) % ((1 : Int) * ((2 : Int) ^ (Int.toNat (wrapZ .u64 (((slLen c47) : Nat) : Int))))))))] m62 (fun v64 m65 => 
 (∃ c66 : C, ((v64 = (V.c c66)) ∧ (Wc prog tbl 65 [(V.c c66), (V.c c26)] m65 (fun v67 m68 => 
 (∃ b69 : Bool, ((v67 = (V.c (C.bool b69))) ∧ (ifB b69 (∃ x70 : Int, (∃ x71 : Int, 
 (∃ c72 : C, (∃ x73 : Int, (∃ c74 : C, (((ldA m68 (C.ptr m.nxt 0) 5) = (some [(C.int .i64 x70), 
 (C.int .i64 x71), c72, (C.int .i64 x73), c74])) ∧ (Wc prog tbl 64 [(V.agg 5 [(C.int .i64 x70), 
 (C.int .i64 x71), c72, (C.int .i64 x73), c74]), (V.c c55), (V.c (C.int .i64 ((wrapZ .i64 a300) % (101 : Int)))), 
 (V.c (C.int .i64 ((wrapZ .i64 a400) % ((1 : Int) * ((2 : Int) ^ (Int.toNat (wrapZ .u64 (((slLen c47) : Nat) : Int))))))))] m68 (fun v75 m76 => 
 (∃ b77 : Bool, ((v75 = (V.c (C.bool b77))) ∧ (ifB b77 (Q (V.c (C.bool false)) m76) (isPt (C.ptr m.nxt 0) ∧ 
 (∃ x78 : Int, (∃ x79 : Int, (∃ c80 : C, (((ldA m76 (C.ptr m.nxt 0) 3) = (some [(C.int .i64 x78), 
 (C.int .i64 x79), c80])) ∧ (isSl c55 ∧ (((0 : Int) ≤ (wrapZ .i64 a200)) ∧ 
 (((0 : Int) < (((slLen c55) : Nat) : Int)) ∧ (fitsP .i64 ((wrapZ .i64 a200) % (((slLen c55) : Nat) : Int)) ∧ 
 (∃ n81 : Nat, ((((wrapZ .i64 a200) % (((slLen c55) : Nat) : Int)) = ((n81 : Nat) : Int)) ∧ 
 ((n81 < (slLen c55)) ∧ (∃ x82 : Int, (((ldC m76 (slAt c55 (n81 * 1))) = (some (C.int .i64 x82))) ∧ 
 (Wc prog tbl 67 [(V.agg 3 [(C.int .i64 x78), (C.int .i64 x79), 
 c80]), (V.c (C.int .i64 x82))] m76 (fun v83 m84 => (∃ c85 : C, ((v83 = (V.c c85)) ∧ 
 (∃ x86 : Int, (∃ x87 : Int, (∃ c88 : C, (∃ x89 : Int, (∃ c90 : C, (((ldA m84 (C.ptr m.nxt 0) 5) = (some [(C.int .i64 x86), 
 (C.int .i64 x87), c88, (C.int .i64 x89), c90])) ∧ (∀ m91 : M, ((m91 = (M.new m84 (AO.cells 5 [(C.int .i64 (0 : Int)), 
 (C.int .i64 (0 : Int)), C.sl0, (C.int .i64 (0 : Int)), C.sl0] false))) → 
 (∃ m92 : M, (((stC m91 (C.ptr m84.nxt 0) 5 [(C.int .i64 x86), (C.int .i64 x87), 
 c88, (C.int .i64 x89), c90]) = (some m92)) ∧ (∀ m93 : M, ((m93 = (M.new m92 (AO.cells 0 [] false))) → 
 (isPt (C.ptr m.nxt 0) ∧ (∃ c94 : C, (((ldC m93 (C.ptr m.nxt 4)) = (some c94)) ∧ 
 (∃ c95 : C, (∃ m96 : M, ((ApR prog 27 m93 (C.sl m92.nxt 0 0 0 (some 0)) c94 c95 m96) ∧ 
 (isPt (C.ptr m84.nxt 0) ∧ (∃ m97 : M, (((stC m96 (C.ptr m84.nxt 4) 1 [c95]) = (some m97)) ∧ 
 (∀ R98 : List V → M → Prop, ((∀ x99 : Int, (∀ m100 : M, ((isSl c26 ∧ (ifB (decide (x99 < (((slLen c26) : Nat) : Int))) (isPt (C.ptr m84.nxt 0) ∧ 
 (∃ c101 : C, (((ldC m100 (C.ptr m84.nxt 4)) = (some c101)) ∧ (∃ n102 : Nat, 
 ((x99 = ((n102 : Nat) : Int)) ∧ ((n102 < (slLen c26)) ∧ (∃ x103 : Int, (((ldC m100 (slAt c26 (n102 * 1))) = (some (C.int .i64 x103))) ∧ 
 (∃ n104 : Nat, ((x99 = ((n104 : Nat) : Int)) ∧ ((n104 < (slLen c26)) ∧ (∃ x105 : Int, 
 (((ldC m100 (slAt c26 (n104 * 1))) = (some (C.int .i64 x105))) ∧ 
 (∃ n106 : Nat, ((x105 = ((n106 : Nat) : Int)) ∧ ((n106 < (slLen c85)) ∧ (∃ x107 : Int, 
 (((ldC m100 (slAt c85 (n106 * 1))) = (some (C.int .i64 x107))) ∧ 
 (∃ n108 : Nat, ((x99 = ((n108 : Nat) : Int)) ∧ ((n108 < (slLen c26)) ∧ (∃ x109 : Int, 
 (((ldC m100 (slAt c26 (n108 * 1))) = (some (C.int .i64 x109))) ∧ 
 (∃ n110 : Nat, ((x109 = ((n110 : Nat) : Int)) ∧ ((n110 < (slLen c85)) ∧ (∃ x111 : Int, 
 (((ldC m100 (slAt c85 (n110 * 1))) = (some (C.int .i64 x111))) ∧ 
 (∀ m112 : M, ((m112 = (M.new m100 (AO.cells 4 [(C.int .i64 x103), (C.int .i64 x107), 
 (C.int .i64 x111), (C.bool false)] false))) → ((ifB (noFnC c101) ((ldC m112 (C.ptr m84.nxt 4)) = (some c101)) False) ∧ 
 (∃ c113 : C, (∃ m114 : M, ((ApR prog 27 m112 c101 (C.sl m100.nxt 0 1 0 (some 1)) c113 m114) ∧ 
 (isPt (C.ptr m84.nxt 0) ∧ (∃ m115 : M, (((stC m114 (C.ptr m84.nxt 4) 1 [c113]) = (some m115)) ∧ 
 (fitsP .i64 (x99 + (1 : Int)) ∧ (R98 [(V.c (C.int .i64 (x99 + (1 : Int))))] m115))))))))))))))))))))))))))))))))))))))) (∃ x116 : Int, 
 (∃ x117 : Int, (∃ c118 : C, (∃ x119 : Int, (∃ c120 : C, (((ldA m100 (C.ptr m84.nxt 0) 5) = (some [(C.int .i64 x116), 
 (C.int .i64 x117), c118, (C.int .i64 x119), c120])) ∧ (Wc prog tbl 58 [(V.agg 5 [(C.int .i64 x116), 
 (C.int .i64 x117), c118, (C.int .i64 x119), c120])] m100 (fun v121 m122 => 
 (∃ b123 : Bool, ((v121 = (V.c (C.bool b123))) ∧ (ifB (!b123) (Wc prog tbl 20 [] m122 (fun v124 m125 => 
 (∃ b126 : Bool, ((v124 = (V.c (C.bool b126))) ∧ (Q (V.c (C.bool b126)) m125))))) (∃ x127 : Int, 
 (∃ x128 : Int, (∃ c129 : C, (∃ x130 : Int, (∃ c131 : C, (((ldA m122 (C.ptr m84.nxt 0) 5) = (some [(C.int .i64 x127), 
 (C.int .i64 x128), c129, (C.int .i64 x130), c131])) ∧ (Wc prog tbl 33 [(V.agg 5 [(C.int .i64 x127), 
 (C.int .i64 x128), c129, (C.int .i64 x130), c131])] m122 (fun v132 m133 => 
 (∃ x134 : Int, (∃ x135 : Int, (∃ c136 : C, (∃ x137 : Int, (∃ c138 : C, ((v132 = (V.agg 5 [(C.int .i64 x134), 
 (C.int .i64 x135), c136, (C.int .i64 x137), c138])) ∧ (Wc prog tbl 48 [(V.agg 5 [(C.int .i64 x134), 
 (C.int .i64 x135), c136, (C.int .i64 x137), c138]), (V.c (C.int .i64 ((wrapZ .i64 a300) % (101 : Int))))] m133 (fun v139 m140 => 
 (∃ x141 : Int, (∃ x142 : Int, ((v139 = (V.tup [(U.c (C.int .i64 x141)), 
 (U.c (C.int .i64 x142))])) ∧ (isPt (C.ptr m.nxt 0) ∧ (∃ x143 : Int, 
 (∃ x144 : Int, (∃ c145 : C, (((ldA m140 (C.ptr m.nxt 0) 3) = (some [(C.int .i64 x143), 
 (C.int .i64 x144), c145])) ∧ (Wc prog tbl 40 [(V.agg 3 [(C.int .i64 x143), 
 (C.int .i64 x144), c145]), (V.c c85)] m140 (fun v146 m147 => (∃ x148 : Int, 
 ((v146 = (V.c (C.int .i64 x148))) ∧ (ifB (decide (((wrapZ .i64 a300) % (101 : Int)) ≤ x148)) (ifB (decide (x142 = (0 : Int))) (ifB (decide (x141 = (1 : Int))) (Wc prog tbl 20 [] m147 (fun v149 m150 => 
 (∃ b151 : Bool, ((v149 = (V.c (C.bool b151))) ∧ (Q (V.c (C.bool b151)) m150))))) (Q (V.c (C.bool false)) m147)) (Q (V.c (C.bool false)) m147)) (ifB (decide (x142 = (0 : Int))) (ifB (decide (x141 = (2 : Int))) (Wc prog tbl 20 [] m147 (fun v152 m153 => 
 (∃ b154 : Bool, ((v152 = (V.c (C.bool b154))) ∧ (Q (V.c (C.bool b154)) m153))))) (Q (V.c (C.bool false)) m147)) (Q (V.c (C.bool false)) m147)))))))))))))))))))))))))))))))))))))))))))) → 
 (R98 [(V.c (C.int .i64 x99))] m100)))) → (R98 [(V.c (C.int .i64 (0 : Int)))] m97))))))))))))))))))))))))))))))))))))))))))))))))))))) (isPt (C.ptr m.nxt 0) ∧ 
 (∃ x155 : Int, (∃ x156 : Int, (∃ c157 : C, (((ldA m68 (C.ptr m.nxt 0) 3) = (some [(C.int .i64 x155), 
 (C.int .i64 x156), c157])) ∧ (isSl c55 ∧ (((0 : Int) ≤ (wrapZ .i64 a200)) ∧ 
 (((0 : Int) < (((slLen c55) : Nat) : Int)) ∧ (fitsP .i64 ((wrapZ .i64 a200) % (((slLen c55) : Nat) : Int)) ∧ 
 (∃ n158 : Nat, ((((wrapZ .i64 a200) % (((slLen c55) : Nat) : Int)) = ((n158 : Nat) : Int)) ∧ 
 ((n158 < (slLen c55)) ∧ (∃ x159 : Int, (((ldC m68 (slAt c55 (n158 * 1))) = (some (C.int .i64 x159))) ∧ 
 (Wc prog tbl 67 [(V.agg 3 [(C.int .i64 x155), (C.int .i64 x156), 
 c157]), (V.c (C.int .i64 x159))] m68 (fun v160 m161 => (∃ c162 : C, ((v160 = (V.c c162)) ∧ 
 (∃ x163 : Int, (∃ x164 : Int, (∃ c165 : C, (∃ x166 : Int, (∃ c167 : C, (((ldA m161 (C.ptr m.nxt 0) 5) = (some [(C.int .i64 x163), 
 (C.int .i64 x164), c165, (C.int .i64 x166), c167])) ∧ (∀ m168 : M, 
 ((m168 = (M.new m161 (AO.cells 5 [(C.int .i64 (0 : Int)), (C.int .i64 (0 : Int)), 
 C.sl0, (C.int .i64 (0 : Int)), C.sl0] false))) → (∃ m169 : M, (((stC m168 (C.ptr m161.nxt 0) 5 [(C.int .i64 x163), 
 (C.int .i64 x164), c165, (C.int .i64 x166), c167]) = (some m169)) ∧ 
 (∀ m170 : M, ((m170 = (M.new m169 (AO.cells 0 [] false))) → (isPt (C.ptr m.nxt 0) ∧ 
 (∃ c171 : C, (((ldC m170 (C.ptr m.nxt 4)) = (some c171)) ∧ (∃ c172 : C, 
 (∃ m173 : M, ((ApR prog 27 m170 (C.sl m169.nxt 0 0 0 (some 0)) c171 c172 m173) ∧ 
 (isPt (C.ptr m161.nxt 0) ∧ (∃ m174 : M, (((stC m173 (C.ptr m161.nxt 4) 1 [c172]) = (some m174)) ∧ 
 (∀ R175 : List V → M → Prop, ((∀ x176 : Int, (∀ m177 : M, ((isSl c26 ∧ (ifB (decide (x176 < (((slLen c26) : Nat) : Int))) (isPt (C.ptr m161.nxt 0) ∧ 
 (∃ c178 : C, (((ldC m177 (C.ptr m161.nxt 4)) = (some c178)) ∧ (∃ n179 : Nat, 
 ((x176 = ((n179 : Nat) : Int)) ∧ ((n179 < (slLen c26)) ∧ (∃ x180 : Int, (((ldC m177 (slAt c26 (n179 * 1))) = (some (C.int .i64 x180))) ∧ 
 (∃ n181 : Nat, ((x176 = ((n181 : Nat) : Int)) ∧ ((n181 < (slLen c26)) ∧ (∃ x182 : Int, 
 (((ldC m177 (slAt c26 (n181 * 1))) = (some (C.int .i64 x182))) ∧ 
 (∃ n183 : Nat, ((x182 = ((n183 : Nat) : Int)) ∧ ((n183 < (slLen c162)) ∧ (∃ x184 : Int, 
 (((ldC m177 (slAt c162 (n183 * 1))) = (some (C.int .i64 x184))) ∧ 
 (∃ n185 : Nat, ((x176 = ((n185 : Nat) : Int)) ∧ ((n185 < (slLen c26)) ∧ (∃ x186 : Int, 
 (((ldC m177 (slAt c26 (n185 * 1))) = (some (C.int .i64 x186))) ∧ 
 (∃ n187 : Nat, ((x186 = ((n187 : Nat) : Int)) ∧ ((n187 < (slLen c162)) ∧ (∃ x188 : Int, 
 (((ldC m177 (slAt c162 (n187 * 1))) = (some (C.int .i64 x188))) ∧ 
 (∀ m189 : M, ((m189 = (M.new m177 (AO.cells 4 [(C.int .i64 x180), (C.int .i64 x184), 
 (C.int .i64 x188), (C.bool false)] false))) → ((ifB (noFnC c178) ((ldC m189 (C.ptr m161.nxt 4)) = (some c178)) False) ∧ 
 (∃ c190 : C, (∃ m191 : M, ((ApR prog 27 m189 c178 (C.sl m177.nxt 0 1 0 (some 1)) c190 m191) ∧ 
 (isPt (C.ptr m161.nxt 0) ∧ (∃ m192 : M, (((stC m191 (C.ptr m161.nxt 4) 1 [c190]) = (some m192)) ∧ 
 (fitsP .i64 (x176 + (1 : Int)) ∧ (R175 [(V.c (C.int .i64 (x176 + (1 : Int))))] m192))))))))))))))))))))))))))))))))))))))) (∃ x193 : Int, 
 (∃ x194 : Int, (∃ c195 : C, (∃ x196 : Int, (∃ c197 : C, (((ldA m177 (C.ptr m161.nxt 0) 5) = (some [(C.int .i64 x193), 
 (C.int .i64 x194), c195, (C.int .i64 x196), c197])) ∧ (Wc prog tbl 58 [(V.agg 5 [(C.int .i64 x193), 
 (C.int .i64 x194), c195, (C.int .i64 x196), c197])] m177 (fun v198 m199 => 
 (∃ b200 : Bool, ((v198 = (V.c (C.bool b200))) ∧ (ifB (!b200) (Wc prog tbl 20 [] m199 (fun v201 m202 => 
 (∃ b203 : Bool, ((v201 = (V.c (C.bool b203))) ∧ (Q (V.c (C.bool b203)) m202))))) (∃ x204 : Int, 
 (∃ x205 : Int, (∃ c206 : C, (∃ x207 : Int, (∃ c208 : C, (((ldA m199 (C.ptr m161.nxt 0) 5) = (some [(C.int .i64 x204), 
 (C.int .i64 x205), c206, (C.int .i64 x207), c208])) ∧ (Wc prog tbl 33 [(V.agg 5 [(C.int .i64 x204), 
 (C.int .i64 x205), c206, (C.int .i64 x207), c208])] m199 (fun v209 m210 => 
 (∃ x211 : Int, (∃ x212 : Int, (∃ c213 : C, (∃ x214 : Int, (∃ c215 : C, ((v209 = (V.agg 5 [(C.int .i64 x211), 
 (C.int .i64 x212), c213, (C.int .i64 x214), c215])) ∧ (Wc prog tbl 48 [(V.agg 5 [(C.int .i64 x211), 
 (C.int .i64 x212), c213, (C.int .i64 x214), c215]), (V.c (C.int .i64 ((wrapZ .i64 a300) % (101 : Int))))] m210 (fun v216 m217 => 
 (∃ x218 : Int, (∃ x219 : Int, ((v216 = (V.tup [(U.c (C.int .i64 x218)), 
 (U.c (C.int .i64 x219))])) ∧ (isPt (C.ptr m.nxt 0) ∧ (∃ x220 : Int, 
 (∃ x221 : Int, (∃ c222 : C, (((ldA m217 (C.ptr m.nxt 0) 3) = (some [(C.int .i64 x220), 
 (C.int .i64 x221), c222])) ∧ (Wc prog tbl 40 [(V.agg 3 [(C.int .i64 x220), 
 (C.int .i64 x221), c222]), (V.c c162)] m217 (fun v223 m224 => (∃ x225 : Int, 
 ((v223 = (V.c (C.int .i64 x225))) ∧ (ifB (decide (((wrapZ .i64 a300) % (101 : Int)) ≤ x225)) (ifB (decide (x219 = (0 : Int))) (ifB (decide (x218 = (1 : Int))) (Wc prog tbl 20 [] m224 (fun v226 m227 => 
 (∃ b228 : Bool, ((v226 = (V.c (C.bool b228))) ∧ (Q (V.c (C.bool b228)) m227))))) (Q (V.c (C.bool false)) m224)) (Q (V.c (C.bool false)) m224)) (ifB (decide (x219 = (0 : Int))) (ifB (decide (x218 = (2 : Int))) (Wc prog tbl 20 [] m224 (fun v229 m230 => 
 (∃ b231 : Bool, ((v229 = (V.c (C.bool b231))) ∧ (Q (V.c (C.bool b231)) m230))))) (Q (V.c (C.bool false)) m224)) (Q (V.c (C.bool false)) m224)))))))))))))))))))))))))))))))))))))))))))) → 
 (R175 [(V.c (C.int .i64 x176))] m177)))) → (R175 [(V.c (C.int .i64 (0 : Int)))] m174)))))))))))))))))))))))))))))))))))))))))))))))))))))))))))))))))))))))))))))))))))))) → 
 (R28 [(V.c (C.bool b29)), (V.c (C.int .i64 x30)), (V.c (C.int .i64 x31))] m32)))))) → 
 (R28 [(V.c (C.bool false)), (V.c (C.int .i64 (0 : Int))), (V.c (C.int .i64 (0 : Int)))] m25)))))))))))))))))))))))))))))))))))))))) : Wc prog tbl 13 [(V.agg 5 [(C.int .i64 a100), (C.int .i64 a101), a102, (C.int .i64 a103), a104]), (V.c (C.int .u16 a200)), (V.c (C.int .u8 a300)), (V.c (C.int .u16 a400))] m Q :=
 wc_eq (n := 4) rfl (by kernel_rfl) (by kernel_rfl) h
end
end Go.Proofs.Ytgkjfhkjgdiodaa

namespace Go.Proofs.Ytgkjfhkjgdiodaa
open _root_.Go.Proofs.Try
open Go.Abs
set_option maxRecDepth 100000
noncomputable section
theorem wrap_sm {n : Int} (h0 : 0 ≤ n) (h1 : n ≤ 1000000) : wrapZ .i64 n = n := by
  unfold wrapZ
  rw [Go.Abs.fits_of (k := .i64) (n := n) (by simp only [fitsP]; omega)]; rfl
end
end Go.Proofs.Ytgkjfhkjgdiodaa

namespace Go.Proofs.Ytgkjfhkjgdiodaa
open _root_.Go.Proofs.Try
open Go.Abs
set_option maxRecDepth 100000
noncomputable section
theorem w18 {a100 : Int} {a101 : Int} {a102 : C} {a103 : Int} {a104 : C} {a200 : Int} {m : M} {Q : V → M → Prop} (h :
 (∀ m0 : M, ((m0 = (M.new m (AO.cells 5 [(C.int .i64 a100), (C.int .i64 a101), a102, (C.int .i64 a103), 
 a104] false))) → (∃ x1 : Int, (∃ x2 : Int, (∃ c3 : C, (∃ x4 : Int, (∃ c5 : C, (((ldA m0 (C.ptr m.nxt 0) 5) = (some [(C.int .i64 x1), 
 (C.int .i64 x2), c3, (C.int .i64 x4), c5])) ∧ (Wc prog tbl 58 [(V.agg 5 [(C.int .i64 x1), 
 (C.int .i64 x2), c3, (C.int .i64 x4), c5])] m0 (fun v6 m7 => (∃ b8 : Bool, ((v6 = (V.c (C.bool b8))) ∧ 
 (ifB (!b8) (Wc prog tbl 20 [] m7 (fun v9 m10 => (∃ b11 : Bool, ((v9 = (V.c (C.bool b11))) ∧ (Q (V.c (C.bool b11)) m10))))) (isPt (C.ptr m.nxt 0) ∧ 
 (∃ c12 : C, (((ldC m7 (C.ptr m.nxt 4)) = (some c12)) ∧ (isSl c12 ∧ (ifB (decide ((((slLen c12) : Nat) : Int) = (0 : Int))) (Wc prog tbl 20 [] m7 (fun v13 m14 => 
 (∃ b15 : Bool, ((v13 = (V.c (C.bool b15))) ∧ (Q (V.c (C.bool b15)) m14))))) (isPt (C.ptr m.nxt 0) ∧ 
 (∃ c16 : C, (((ldC m7 (C.ptr m.nxt 4)) = (some c16)) ∧ (isSl c16 ∧ (((0 : Int) ≤ (wrapZ .i64 a200)) ∧ 
 (((0 : Int) < (((slLen c16) : Nat) : Int)) ∧ (fitsP .i64 ((wrapZ .i64 a200) % (((slLen c16) : Nat) : Int)) ∧ 
 (∀ m17 : M, ((m17 = (mGrow m7 2)) → (∃ x18 : Int, (∃ x19 : Int, (∃ c20 : C, (∃ x21 : Int, 
 (∃ c22 : C, (((ldA m17 (C.ptr m.nxt 0) 5) = (some [(C.int .i64 x18), 
 (C.int .i64 x19), c20, (C.int .i64 x21), c22])) ∧ (∃ x23 : Int, 
 (∃ x24 : Int, (∃ c25 : C, (∃ x26 : Int, (∃ c27 : C, (((ldA m17 (C.ptr m.nxt 0) 5) = (some [(C.int .i64 x23), 
 (C.int .i64 x24), c25, (C.int .i64 x26), c27])) ∧ (∃ x28 : Int, 
 (∃ x29 : Int, (∃ c30 : C, (∃ x31 : Int, (∃ c32 : C, (((ldA m17 (C.ptr m.nxt 0) 5) = (some [(C.int .i64 x28), 
 (C.int .i64 x29), c30, (C.int .i64 x31), c32])) ∧ (∀ m33 : M, ((m33 = (M.new m17 (AO.cells 5 [(C.int .i64 (0 : Int)), 
 (C.int .i64 (0 : Int)), C.sl0, (C.int .i64 (0 : Int)), C.sl0] false))) → 
 ((ifB (allS noFnC [(C.int .i64 x28), (C.int .i64 x29), c30, (C.int .i64 x31), 
 c32]) ((ldA m33 (C.ptr m.nxt 0) 5) = (some [(C.int .i64 x28), 
 (C.int .i64 x29), c30, (C.int .i64 x31), c32])) False) ∧ ((ifB (allS noFnC [(C.int .i64 x23), 
 (C.int .i64 x24), c25, (C.int .i64 x26), c27]) ((ldA m33 (C.ptr m.nxt 0) 5) = (some [(C.int .i64 x23), 
 (C.int .i64 x24), c25, (C.int .i64 x26), c27])) False) ∧ ((ifB (allS noFnC [(C.int .i64 x18), 
 (C.int .i64 x19), c20, (C.int .i64 x21), c22]) ((ldA m33 (C.ptr m.nxt 0) 5) = (some [(C.int .i64 x18), 
 (C.int .i64 x19), c20, (C.int .i64 x21), c22])) False) ∧ (∀ m34 : M, 
 ((m34 = (M.set m33 (m7.nxt + 0) (AO.cells 5 [(C.int .i64 (0 : Int)), 
 (C.int .i64 (0 : Int)), C.sl0, (C.int .i64 (0 : Int)), C.sl0] false))) → 
 ((ifB (allS noFnC [(C.int .i64 x28), (C.int .i64 x29), c30, (C.int .i64 x31), 
 c32]) ((ldA m34 (C.ptr m.nxt 0) 5) = (some [(C.int .i64 x28), 
 (C.int .i64 x29), c30, (C.int .i64 x31), c32])) False) ∧ ((ifB (allS noFnC [(C.int .i64 x23), 
 (C.int .i64 x24), c25, (C.int .i64 x26), c27]) ((ldA m34 (C.ptr m.nxt 0) 5) = (some [(C.int .i64 x23), 
 (C.int .i64 x24), c25, (C.int .i64 x26), c27])) False) ∧ ((ifB (allS noFnC [(C.int .i64 x18), 
 (C.int .i64 x19), c20, (C.int .i64 x21), c22]) ((ldA m34 (C.ptr m.nxt 0) 5) = (some [(C.int .i64 x18), 
 (C.int .i64 x19), c20, (C.int .i64 x21), c22])) False) ∧ (∀ m35 : M, 
 ((m35 = (M.set m34 (m7.nxt + 1) (AO.cells 5 [(C.int .i64 (0 : Int)), 
 (C.int .i64 (0 : Int)), C.sl0, (C.int .i64 (0 : Int)), C.sl0] false))) → 
 ((ifB (allS noFnC [(C.int .i64 x28), (C.int .i64 x29), c30, (C.int .i64 x31), 
 c32]) ((ldA m35 (C.ptr m.nxt 0) 5) = (some [(C.int .i64 x28), 
 (C.int .i64 x29), c30, (C.int .i64 x31), c32])) False) ∧ ((ifB (allS noFnC [(C.int .i64 x23), 
 (C.int .i64 x24), c25, (C.int .i64 x26), c27]) ((ldA m35 (C.ptr m.nxt 0) 5) = (some [(C.int .i64 x23), 
 (C.int .i64 x24), c25, (C.int .i64 x26), c27])) False) ∧ ((ifB (allS noFnC [(C.int .i64 x18), 
 (C.int .i64 x19), c20, (C.int .i64 x21), c22]) ((ldA m35 (C.ptr m.nxt 0) 5) = (some [(C.int .i64 x18), 
 (C.int .i64 x19), c20, (C.int .i64 x21), c22])) False) ∧ (∃ m36 : M, 
 (((stC m35 (C.ptr m17.nxt 0) 5 [(C.int .i64 x18), (C.int .i64 x19), 
 c20, (C.int .i64 x21), c22]) = (some m36)) ∧ ((ifB (allS noFnC [(C.int .i64 x28), 
 (C.int .i64 x29), c30, (C.int .i64 x31), c32]) ((ldA m36 (C.ptr m.nxt 0) 5) = (some [(C.int .i64 x28), 
 (C.int .i64 x29), c30, (C.int .i64 x31), c32])) False) ∧ ((ifB (allS noFnC [(C.int .i64 x23), 
 (C.int .i64 x24), c25, (C.int .i64 x26), c27]) ((ldA m36 (C.ptr m.nxt 0) 5) = (some [(C.int .i64 x23), 
 (C.int .i64 x24), c25, (C.int .i64 x26), c27])) False) ∧ (∃ m37 : M, 
 (((stC m36 (C.ptr (m7.nxt + 0) 0) 5 [(C.int .i64 x23), (C.int .i64 x24), 
 c25, (C.int .i64 x26), c27]) = (some m37)) ∧ ((ifB (allS noFnC [(C.int .i64 x28), 
 (C.int .i64 x29), c30, (C.int .i64 x31), c32]) ((ldA m37 (C.ptr m.nxt 0) 5) = (some [(C.int .i64 x28), 
 (C.int .i64 x29), c30, (C.int .i64 x31), c32])) False) ∧ (∃ m38 : M, 
 (((stC m37 (C.ptr (m7.nxt + 1) 0) 5 [(C.int .i64 x28), (C.int .i64 x29), 
 c30, (C.int .i64 x31), c32]) = (some m38)) ∧ (∀ m39 : M, ((m39 = (mGrow m38 1)) → 
 (∀ m40 : M, ((m40 = (M.new m39 (AO.cells 0 [] false))) → (isPt (C.ptr m.nxt 0) ∧ 
 (∃ c41 : C, (((ldC m40 (C.ptr m.nxt 4)) = (some c41)) ∧ ((ifB (noFnC c41) ((ldC m39 (C.ptr m.nxt 4)) = (some c41)) False) ∧ 
 (∃ c42 : C, (∃ m43 : M, ((ApR prog 27 m40 (C.sl m39.nxt 0 0 0 (some 0)) c41 c42 m43) ∧ 
 (∀ m44 : M, ((m44 = (M.set m43 (m38.nxt + 0) (AO.cells 0 [] false))) → ((ifB (noFnC c41) ((ldC m44 (C.ptr m.nxt 4)) = (some c41)) False) ∧ 
 (isPt (C.ptr m.nxt 0) ∧ (∃ c45 : C, (((ldC m44 (C.ptr m.nxt 4)) = (some c45)) ∧ 
 ((ifB (noFnC c45) ((ldC m43 (C.ptr m.nxt 4)) = (some c45)) False) ∧ 
 ((ifB (noFnC c45) ((ldC m40 (C.ptr m.nxt 4)) = (some c45)) False) ∧ 
 ((ifB (noFnC c45) ((ldC m39 (C.ptr m.nxt 4)) = (some c45)) False) ∧ 
 (∃ c46 : C, (∃ m47 : M, ((ApR prog 27 m44 (C.sl (m38.nxt + 0) 0 0 0 (some 0)) c45 c46 m47) ∧ 
 (isPt (C.ptr m17.nxt 0) ∧ (∃ m48 : M, (((stC m47 (C.ptr m17.nxt 4) 1 [c42]) = (some m48)) ∧ 
 (isPt (C.ptr (m7.nxt + 1) 0) ∧ (∃ m49 : M, (((stC m48 (C.ptr (m7.nxt + 1) 4) 1 [c46]) = (some m49)) ∧ 
 (isPt (C.ptr m17.nxt 0) ∧ (∃ c50 : C, (((ldC m49 (C.ptr m17.nxt 4)) = (some c50)) ∧ 
 (isPt (C.ptr (m7.nxt + 1) 0) ∧ (∃ c51 : C, (((ldC m49 (C.ptr (m7.nxt + 1) 4)) = (some c51)) ∧ 
 (∃ n52 : Nat, ((((wrapZ .i64 a200) % (((slLen c16) : Nat) : Int)) = ((n52 : Nat) : Int)) ∧ 
 ((n52 < (slLen c50)) ∧ (isPt (slAt c50 (n52 * 4)) ∧ (∃ m53 : M, (((stC m49 (ptAdd (slAt c50 (n52 * 4)) 3) 1 [(C.bool true)]) = (some m53)) ∧ 
 ((ifB (noFnC c51) ((ldC m53 (C.ptr (m7.nxt + 1) 4)) = (some c51)) False) ∧ 
 (∃ n54 : Nat, ((((wrapZ .i64 a200) % (((slLen c16) : Nat) : Int)) = ((n54 : Nat) : Int)) ∧ 
 ((n54 < (slLen c51)) ∧ (isPt (slAt c51 (n54 * 4)) ∧ (∃ m55 : M, (((stC m53 (ptAdd (slAt c51 (n54 * 4)) 3) 1 [(C.bool false)]) = (some m55)) ∧ 
 (∀ m56 : M, ((m56 = (M.new m55 (AO.cells 0 [] false))) → (isPt (C.ptr m.nxt 0) ∧ 
 (∃ c57 : C, (((ldC m56 (C.ptr m.nxt 4)) = (some c57)) ∧ ((ifB (noFnC c57) ((ldC m55 (C.ptr m.nxt 4)) = (some c57)) False) ∧ 
 (∃ n58 : Nat, (∃ n59 : Nat, ((n58 = 0) ∧ ((((wrapZ .i64 a200) % (((slLen c16) : Nat) : Int)) = ((n59 : Nat) : Int)) ∧ 
 (∃ c60 : C, (((subC 4 c57 n58 n59) = (some c60)) ∧ (∃ c61 : C, (∃ m62 : M, 
 ((ApR prog 27 m56 (C.sl m55.nxt 0 0 0 (some 0)) c60 c61 m62) ∧ (isPt (C.ptr m.nxt 0) ∧ 
 (∃ c63 : C, (((ldC m62 (C.ptr m.nxt 4)) = (some c63)) ∧ ((ifB (noFnC c63) ((ldC m56 (C.ptr m.nxt 4)) = (some c63)) False) ∧ 
 ((ifB (noFnC c63) ((ldC m55 (C.ptr m.nxt 4)) = (some c63)) False) ∧ 
 (fitsP .i64 (((wrapZ .i64 a200) % (((slLen c16) : Nat) : Int)) + (1 : Int)) ∧ 
 (∃ n64 : Nat, (∃ n65 : Nat, (((((wrapZ .i64 a200) % (((slLen c16) : Nat) : Int)) + (1 : Int)) = ((n64 : Nat) : Int)) ∧ 
 ((n65 = (slLen c63)) ∧ (∃ c66 : C, (((subC 4 c63 n64 n65) = (some c66)) ∧ 
 (∃ c67 : C, (∃ m68 : M, ((ApR prog 27 m62 c61 c66 c67 m68) ∧ (isPt (C.ptr (m7.nxt + 0) 0) ∧ 
 (∃ m69 : M, (((stC m68 (C.ptr (m7.nxt + 0) 4) 1 [c67]) = (some m69)) ∧ 
 (∃ x70 : Int, (∃ x71 : Int, (∃ c72 : C, (∃ x73 : Int, (∃ c74 : C, (((ldA m69 (C.ptr m17.nxt 0) 5) = (some [(C.int .i64 x70), 
 (C.int .i64 x71), c72, (C.int .i64 x73), c74])) ∧ (Wc prog tbl 33 [(V.agg 5 [(C.int .i64 x70), 
 (C.int .i64 x71), c72, (C.int .i64 x73), c74])] m69 (fun v75 m76 => 
 (∃ x77 : Int, (∃ x78 : Int, (∃ c79 : C, (∃ x80 : Int, (∃ c81 : C, ((v75 = (V.agg 5 [(C.int .i64 x77), 
 (C.int .i64 x78), c79, (C.int .i64 x80), c81])) ∧ (Wc prog tbl 41 [(V.agg 5 [(C.int .i64 x77), 
 (C.int .i64 x78), c79, (C.int .i64 x80), c81])] m76 (fun v82 m83 => 
 (∃ x84 : Int, (∃ x85 : Int, (∃ x86 : Int, ((v82 = (V.tup [(U.agg 2 [(C.int .i64 x84), 
 (C.int .i64 x85)]), (U.c (C.int .i64 x86))])) ∧ (∀ m87 : M, ((m87 = (M.new m83 (AO.cells 2 [(C.int .i64 (0 : Int)), 
 (C.int .i64 (0 : Int))] false))) → (∃ m88 : M, (((stC m87 (C.ptr m83.nxt 0) 2 [(C.int .i64 x84), 
 (C.int .i64 x85)]) = (some m88)) ∧ (∃ x89 : Int, (∃ x90 : Int, 
 (∃ c91 : C, (∃ x92 : Int, (∃ c93 : C, (((ldA m88 (C.ptr (m7.nxt + 0) 0) 5) = (some [(C.int .i64 x89), 
 (C.int .i64 x90), c91, (C.int .i64 x92), c93])) ∧ (Wc prog tbl 33 [(V.agg 5 [(C.int .i64 x89), 
 (C.int .i64 x90), c91, (C.int .i64 x92), c93])] m88 (fun v94 m95 => 
 (∃ x96 : Int, (∃ x97 : Int, (∃ c98 : C, (∃ x99 : Int, (∃ c100 : C, ((v94 = (V.agg 5 [(C.int .i64 x96), 
 (C.int .i64 x97), c98, (C.int .i64 x99), c100])) ∧ (Wc prog tbl 41 [(V.agg 5 [(C.int .i64 x96), 
 (C.int .i64 x97), c98, (C.int .i64 x99), c100])] m95 (fun v101 m102 => 
 (∃ x103 : Int, (∃ x104 : Int, (∃ x105 : Int, ((v101 = (V.tup [(U.agg 2 [(C.int .i64 x103), 
 (C.int .i64 x104)]), (U.c (C.int .i64 x105))])) ∧ (∀ m106 : M, 
 ((m106 = (M.new m102 (AO.cells 2 [(C.int .i64 (0 : Int)), (C.int .i64 (0 : Int))] false))) → 
 (∃ m107 : M, (((stC m106 (C.ptr m102.nxt 0) 2 [(C.int .i64 x103), (C.int .i64 x104)]) = (some m107)) ∧ 
 (∃ x108 : Int, (∃ x109 : Int, (∃ c110 : C, (∃ x111 : Int, (∃ c112 : C, (((ldA m107 (C.ptr (m7.nxt + 1) 0) 5) = (some [(C.int .i64 x108), 
 (C.int .i64 x109), c110, (C.int .i64 x111), c112])) ∧ (Wc prog tbl 33 [(V.agg 5 [(C.int .i64 x108), 
 (C.int .i64 x109), c110, (C.int .i64 x111), c112])] m107 (fun v113 m114 => 
 (∃ x115 : Int, (∃ x116 : Int, (∃ c117 : C, (∃ x118 : Int, (∃ c119 : C, ((v113 = (V.agg 5 [(C.int .i64 x115), 
 (C.int .i64 x116), c117, (C.int .i64 x118), c119])) ∧ (Wc prog tbl 41 [(V.agg 5 [(C.int .i64 x115), 
 (C.int .i64 x116), c117, (C.int .i64 x118), c119])] m114 (fun v120 m121 => 
 (∃ x122 : Int, (∃ x123 : Int, (∃ x124 : Int, ((v120 = (V.tup [(U.agg 2 [(C.int .i64 x122), 
 (C.int .i64 x123)]), (U.c (C.int .i64 x124))])) ∧ (∀ m125 : M, 
 ((m125 = (M.new m121 (AO.cells 2 [(C.int .i64 (0 : Int)), (C.int .i64 (0 : Int))] false))) → 
 (∃ m126 : M, (((stC m125 (C.ptr m121.nxt 0) 2 [(C.int .i64 x122), (C.int .i64 x123)]) = (some m126)) ∧ 
 (ifB (!decide (x86 = x105)) (Q (V.c (C.bool false)) m126) (∃ x127 : Int, (∃ x128 : Int, 
 (((ldA m126 (C.ptr m83.nxt 0) 2) = (some [(C.int .i64 x127), 
 (C.int .i64 x128)])) ∧ (∃ x129 : Int, (∃ x130 : Int, (((ldA m126 (C.ptr m102.nxt 0) 2) = (some [(C.int .i64 x129), 
 (C.int .i64 x130)])) ∧ (fitsP .i64 x127 ∧ (fitsP .i64 x129 ∧ 
 (fitsP .i64 x128 ∧ (fitsP .i64 x130 ∧ (ifB (!((decide (x127 = x129)) && (decide (x128 = x130)))) (Q (V.c (C.bool false)) m126) (ifB (!decide (x86 = (0 : Int))) (ifB (!decide (x86 = (9 : Int))) (Q (V.c (C.bool false)) m126) (ifB (!decide (x124 = (9 : Int))) (Q (V.c (C.bool false)) m126) (ifB (!decide (x124 = (0 : Int))) (ifB (decide (x124 = (9 : Int))) (Wc prog tbl 20 [] m126 (fun v131 m132 => 
 (∃ b133 : Bool, ((v131 = (V.c (C.bool b133))) ∧ (Q (V.c (C.bool b133)) m132))))) (Q (V.c (C.bool false)) m126)) (isPt (C.ptr m121.nxt 0) ∧ 
 (∃ x134 : Int, (((ldC m126 (C.ptr m121.nxt 0)) = (some (C.int .i64 x134))) ∧ 
 (isPt (C.ptr m83.nxt 0) ∧ (∃ x135 : Int, (((ldC m126 (C.ptr m83.nxt 0)) = (some (C.int .i64 x135))) ∧ 
 (ifB (decide (x135 ≤ x134)) (isPt (C.ptr m121.nxt 0) ∧ (∃ x136 : Int, (((ldC m126 (C.ptr m121.nxt 1)) = (some (C.int .i64 x136))) ∧ 
 (isPt (C.ptr m83.nxt 0) ∧ (∃ x137 : Int, (((ldC m126 (C.ptr m83.nxt 1)) = (some (C.int .i64 x137))) ∧ 
 (ifB (decide (x136 ≤ x137)) (Wc prog tbl 20 [] m126 (fun v138 m139 => (∃ b140 : Bool, 
 ((v138 = (V.c (C.bool b140))) ∧ (Q (V.c (C.bool b140)) m139))))) (Q (V.c (C.bool false)) m126)))))))) (Q (V.c (C.bool false)) m126))))))))))) (ifB (!decide (x124 = (0 : Int))) (ifB (decide (x124 = (9 : Int))) (Wc prog tbl 20 [] m126 (fun v141 m142 => 
 (∃ b143 : Bool, ((v141 = (V.c (C.bool b143))) ∧ (Q (V.c (C.bool b143)) m142))))) (Q (V.c (C.bool false)) m126)) (isPt (C.ptr m121.nxt 0) ∧ 
 (∃ x144 : Int, (((ldC m126 (C.ptr m121.nxt 0)) = (some (C.int .i64 x144))) ∧ 
 (isPt (C.ptr m83.nxt 0) ∧ (∃ x145 : Int, (((ldC m126 (C.ptr m83.nxt 0)) = (some (C.int .i64 x145))) ∧ 
 (ifB (decide (x145 ≤ x144)) (isPt (C.ptr m121.nxt 0) ∧ (∃ x146 : Int, (((ldC m126 (C.ptr m121.nxt 1)) = (some (C.int .i64 x146))) ∧ 
 (isPt (C.ptr m83.nxt 0) ∧ (∃ x147 : Int, (((ldC m126 (C.ptr m83.nxt 1)) = (some (C.int .i64 x147))) ∧ 
 (ifB (decide (x146 ≤ x147)) (Wc prog tbl 20 [] m126 (fun v148 m149 => (∃ b150 : Bool, 
 ((v148 = (V.c (C.bool b150))) ∧ (Q (V.c (C.bool b150)) m149))))) (Q (V.c (C.bool false)) m126)))))))) (Q (V.c (C.bool false)) m126))))))))))))))))))))))))))))))))))))))))))))))))))))))))))))))))))))))))))))))))))))))))))))))))))))))))))))))))))))))))))))))))))))))))))))))))))))))))))))))))))))))))))))))))))))))))))))))))))))))))))))))))))))))))))))))))))))))))))))))))))))) : Wc prog tbl 18 [(V.agg 5 [(C.int .i64 a100), (C.int .i64 a101), a102, (C.int .i64 a103), a104]), (V.c (C.int .u8 a200))] m Q :=
 wc_eq (n := 2) rfl (by kernel_rfl) (by kernel_rfl) h
end
end Go.Proofs.Ytgkjfhkjgdiodaa

namespace Go.Abs
noncomputable section
/-- a slice that can be sliced again -/
def SubOk (x : C) (n : Nat) : Prop := (x = .sl0 ∧ n = 0) ∨ ∃ b o cap, x = .sl b o n 0 (some cap) ∧ n ≤ cap
theorem Seg.sub {m : M} {b o : Nat} {vs : List C} (h : Seg m b o vs) {a l : Nat} (hl : a + l ≤ vs.length) : Seg m b (o + a) ((vs.drop a).take l) := by
  have hlen : ((vs.drop a).take l).length = l := by rw [List.length_take, List.length_drop]; omega
  have hsub : ∀ (ws : List C) (p : Nat), (ws.drop p).take vs.length = vs → (ws.drop (p + a)).take l = (vs.drop a).take l := fun ws p hp => by
    rw [← hp, List.drop_take, List.take_take, List.drop_drop]
    congr 1
    omega
  rcases h with ⟨n, ws, op, h1, h2, h3, h4⟩ | ⟨h1, q, h2, h3, h4, h5⟩
  · exact .inl ⟨n, ws, op, h1, h2, by omega, by rw [hlen]; exact hsub ws o h4⟩
  · refine .inr ⟨h1, q, h2, by omega, by omega, ?_⟩
    rw [hlen, show o + a - q.1 = (o - q.1) + a by omega]
    exact hsub q.2 _ h5
theorem Ls.sub {m : M} {k n : Nat} {x : C} {vs : List C} (h : Ls m k x vs n) (hs : SubOk x n) (hk : 0 < k) {i j : Nat} (hij : i ≤ j) (hj : j ≤ n) : ∃ c, subC k x i j = some c ∧ Ls m k c ((vs.drop (i * k)).take ((j - i) * k)) (j - i) := by
  have hl := h.len
  have h1 : i * k + (j - i) * k = j * k := by rw [← Nat.add_mul]; congr 1; omega
  have h2 : j * k ≤ n * k := Nat.mul_le_mul_right _ hj
  have hlen : (j - i) * k = ((vs.drop (i * k)).take ((j - i) * k)).length := by rw [List.length_take, List.length_drop]; omega
  rcases hs with ⟨rfl, rfl⟩ | ⟨b, o, cap, rfl, hc⟩
  · have hj0 : j = 0 := by omega
    have hi0 : i = 0 := by omega
    subst hj0 hi0
    exact ⟨.sl0, rfl, by rw [← h1] at *; simpa using Ls.nil m k⟩
  · obtain ⟨hb, hseg⟩ : b < m.nxt ∧ (n ≠ 0 → Seg m b o vs) := by
      rcases h.val with ⟨h0, _⟩ | ⟨b', o', s', c', h0, h3, h4⟩
      · cases h0
      · cases h0; exact ⟨h3, h4⟩
    refine ⟨.sl b (ifB (Nat.beq cap i) o (Nat.add o (Nat.mul i k))) (j - i) 0 (some (cap - i)), ?_, hlen, .inr ⟨b, _, 0, _, rfl, hb, fun hne => ?_⟩⟩
    · show ifB (Nat.ble i j) (ifB (Nat.ble j cap) _ none) none = _
      rw [Nat.ble_eq_true_of_le hij, Nat.ble_eq_true_of_le (show j ≤ cap by omega)]; rfl
    · have hci : Nat.beq cap i = false := by
        cases hq : Nat.beq cap i with
        | true => have := Nat.eq_of_beq_eq_true hq; omega
        | false => rfl
      rw [hci]
      exact (hseg (by omega)).sub (a := i * k) (l := (j - i) * k) (by have := h.len; omega)
/-- append to a slice of one's own, also of nothing -/
theorem ap_any {P : Program} {t el k : Nat} (ht : tk P t = .sl el) (hgr : growOk P el = true) (hk : P.cellsOf el = k) (hk0 : 0 < k) {m : M} {s x : C} {vs ws : List C} {n j : Nat} (hs : Own1 m k s vs n) (hx : Ls m k x ws j) (hnj : n + j ≤ 1048576) :
    ∃ c m', ApR P t m s x c m' ∧ Own1 m' k c (vs ++ ws) (n + j) ∧ m.nxt ≤ m'.nxt ∧ m'.vw = m.vw ∧ (∀ b, b < m.nxt → slB s ≠ some b → m'.g b = m.g b) ∧ (Fr m c ∨ c = s) := by
  by_cases hj : j = 0
  · subst hj
    have hw : ws = [] := List.eq_nil_of_length_eq_zero (by rw [← hx.len]; omega)
    subst hw
    exact ⟨s, m, ap_none ht hgr hk hs hx, by rw [List.append_nil]; exact hs, Nat.le_refl _, rfl, fun _ _ _ => rfl, .inr rfl⟩
  · obtain ⟨m', q1, q2, q3, q4, q5⟩ := ap_own ht hgr hk hs hx (by omega) hk0 hnj
    exact ⟨_, m', q1, q2, by omega, q4, fun b hb hsb => q5 b (by omega) hsb, .inl fun b o n' s' d h => by cases h; exact Nat.le_refl _⟩
theorem Own1.lit0 {m m0 : M} {k : Nat} (h : m0 = m.new (.cells 0 [] false)) : Own1 m0 k (.sl m.nxt 0 0 0 (some 0)) [] 0 ∧ Ext m m0 := by
  have h' : m0 = m.new (.cells 0 [] false) := h
  obtain ⟨b, x⟩ := Bk.new h'
  exact ⟨⟨by simp, .lit _ (by rw [Nat.zero_mul]; exact b.g) b.lt⟩, x⟩
end
end Go.Abs
namespace Go.Proofs.Ytgkjfhkjgdiodaa
open _root_.Go.Proofs.Try
open Go.Abs
set_option maxRecDepth 100000
noncomputable section
theorem t27 : tk prog 27 = .sl 94 := by kernel_rfl
theorem g94 : growOk prog 94 = true := by kernel_rfl
theorem z94 : prog.cellsOf 94 = 4 := by kernel_rfl
end
end Go.Proofs.Ytgkjfhkjgdiodaa
namespace Go.Abs
end Go.Abs

namespace Go.Proofs.Ytgkjfhkjgdiodaa
open _root_.Go.Proofs.Try
open Go.Abs
set_option maxRecDepth 100000
noncomputable section
/-- the place, with rn rows and cn columns, in the other field -/
def sg (rn cn p : Nat) : Nat := p % cn * rn + p / cn
theorem sg_facts : ∀ rn : Fin 5, ∀ cn : Fin 5, ∀ p : Fin 16, 0 < rn.val → 0 < cn.val → p.val < rn.val * cn.val → sg rn.val cn.val p.val < rn.val * cn.val ∧ sg cn.val rn.val (sg rn.val cn.val p.val) = p.val := by decide +kernel
theorem sg_ok {rn cn p : Nat} (hr : 0 < rn ∧ rn ≤ 4) (hc : 0 < cn ∧ cn ≤ 4) (h9 : rn * cn ≤ 9) (hp : p < rn * cn) : sg rn cn p < rn * cn ∧ sg cn rn (sg rn cn p) = p :=
  sg_facts ⟨rn, by omega⟩ ⟨cn, by omega⟩ ⟨p, by omega⟩ hr.1 hc.1 hp
theorem near_facts : ∀ rn : Fin 5, ∀ cn : Fin 5, ∀ a : Fin 9, ∀ b : Fin 9, 0 < rn.val → 0 < cn.val → rn.val * cn.val ≤ 9 → a.val < b.val → b.val < rn.val * cn.val → ((a.val / rn.val = b.val / rn.val ∧ b.val = a.val + 1) ∨ b.val = a.val + rn.val) →
    sg cn rn a.val < sg cn rn b.val ∧ ((sg cn rn a.val / cn.val = sg cn rn b.val / cn.val ∧ sg cn rn b.val = sg cn rn a.val + 1) ∨ sg cn rn b.val = sg cn rn a.val + cn.val) := by decide +kernel
def turnL (rn cn : Nat) (L : List Int) : List Int := (List.range (rn * cn)).map fun j => L[sg cn rn j]!
def turnC (rn cn : Nat) (n : Cnt) : Cnt := { n with p := ((sg rn cn n.p.toNat : Nat) : Int) }
variable {rn cn : Nat}
theorem turn_len (L : List Int) : (turnL rn cn L).length = rn * cn := by simp [turnL]
theorem turn_get {L : List Int} {j : Nat} (hj : j < rn * cn) : (turnL rn cn L)[j]! = L[sg cn rn j]! := by
  rw [getElem!_pos _ j (by rw [turn_len]; exact hj)]
  simp [turnL]
theorem range_self (L : List Int) : (List.range L.length).map (fun j => L[j]!) = L := by
  refine List.ext_getElem (by simp) fun j h1 h2 => ?_
  rw [List.getElem_map, List.getElem_range, getElem!_pos L j h2]
theorem turn_perm {L : List Int} (hr : 0 < rn ∧ rn ≤ 4) (hc : 0 < cn ∧ cn ≤ 4) (h9 : rn * cn ≤ 9) (hL : L.length = rn * cn) : (turnL rn cn L).Perm L := by
  have h9' : cn * rn ≤ 9 := by rw [Nat.mul_comm]; exact h9
  have hp : ((List.range (rn * cn)).map fun j => sg cn rn j).Perm (List.range (rn * cn)) := by
    refine (List.perm_ext_iff_of_nodup ?_ List.nodup_range).2 fun a => ?_
    · show List.Pairwise (· ≠ ·) _
      rw [List.pairwise_map]
      refine List.Pairwise.imp_of_mem (R := fun a b => a < b) (fun {a b} ha hb hab he => ?_) List.pairwise_lt_range
      have ha' := List.mem_range.1 ha
      have hb' := List.mem_range.1 hb
      have h1 := sg_ok hc hr h9' (by rw [Nat.mul_comm]; exact ha')
      have h2 := sg_ok hc hr h9' (by rw [Nat.mul_comm]; exact hb')
      rw [he] at h1
      rw [h1.2] at h2
      omega
    · rw [List.mem_map, List.mem_range]
      constructor
      · rintro ⟨j, h1, rfl⟩
        have := sg_ok hc hr h9' (by rw [Nat.mul_comm]; exact List.mem_range.1 h1)
        rw [Nat.mul_comm]; exact this.1
      · intro h1
        have := sg_ok hr hc h9 h1
        exact ⟨_, List.mem_range.2 this.1, this.2⟩
  have h1 := hp.map fun j => L[j]!
  rw [List.map_map] at h1
  have h2 := range_self L
  rw [hL] at h2
  rw [h2] at h1
  exact h1
theorem sumA_perm {A B : List Int} (h : A.Perm B) : ∀ a : Int, sumA a A = sumA a B := by
  induction h with
  | nil => intro a; rfl
  | cons x _ ih => intro a; exact ih _
  | swap x y l => intro a; show sumA (a + y + x) l = sumA (a + x + y) l; rw [Int.add_right_comm]
  | trans _ _ ih1 ih2 => intro a; rw [ih1, ih2]
theorem share_turn {L H : List Int} (hr : 0 < rn ∧ rn ≤ 4) (hc : 0 < cn ∧ cn ≤ 4) (h9 : rn * cn ≤ 9) (hL : L.length = rn * cn) (hH : H.length = rn * cn) : shareOf (turnL rn cn L) (turnL rn cn H) = shareOf L H := by
  unfold shareOf
  rw [sumA_perm (turn_perm hr hc h9 hL), sumA_perm (turn_perm hr hc h9 hH)]
/-- what is asked of the sides -/
structure Tn (rn cn : Nat) : Prop where
  r : 0 < rn ∧ rn ≤ 4
  c : 0 < cn ∧ cn ≤ 4
  m : rn * cn ≤ 9
theorem Tn.symm (h : Tn rn cn) : Tn cn rn := ⟨h.c, h.r, by rw [Nat.mul_comm]; exact h.m⟩
theorem turn_truth {sm : Int} {L H : List Int} {N : List Cnt} (t : Tn rn cn) (hL : L.length = rn * cn) (hN : ∀ n ∈ N, 0 ≤ n.p ∧ n.p < (rn * cn : Nat)) (hT : TruthR (cn : Int) sm L N H) : TruthR (rn : Int) sm (turnL rn cn L) (N.map (turnC rn cn)) (turnL rn cn H) := by
  have hlH : H.length = rn * cn := by rw [listed_len hT.1]; exact hL
  have h9' : cn * rn ≤ 9 := t.symm.m
  have hsg : ∀ j, j < rn * cn → sg cn rn j < rn * cn := fun j hj => by
    have := sg_ok t.c t.r h9' (by rw [Nat.mul_comm]; exact hj)
    rw [Nat.mul_comm]; exact this.1
  refine ⟨decide_eq_true ⟨by rw [turn_len, turn_len], fun i hi => ?_⟩, fun a b hab hb hcond => ?_, fun n hn hl => ?_⟩
  · rw [turn_len] at hi
    rw [turn_get hi, turn_get hi]
    exact (of_decide_eq_true hT.1).2 _ (by rw [hL]; exact hsg i hi)
  · rw [turn_len] at hb
    have ha : a < rn * cn := by omega
    have hm := t.m
    have hc' : (a / rn = b / rn ∧ b = a + 1) ∨ b = a + rn := by
      rcases hcond with ⟨h1, h2⟩ | h1
      · exact .inl ⟨by have : ((a / rn : Nat) : Int) = ((b / rn : Nat) : Int) := by rw [Int.natCast_ediv, Int.natCast_ediv]; exact h1
                       omega, h2⟩
      · exact .inr (by omega)
    have hnf := near_facts ⟨rn, by have := t.r; omega⟩ ⟨cn, by have := t.c; omega⟩ ⟨a, by omega⟩ ⟨b, by omega⟩ t.r.1 t.c.1 t.m hab hb hc'
    have hpr := hT.2.1 (sg cn rn a) (sg cn rn b) hnf.1 (by rw [hlH]; exact hsg b hb)
    rw [turn_get ha, turn_get hb]
    refine hpr ?_
    rcases hnf.2 with ⟨h1, h2⟩ | h1
    · exact .inl ⟨by rw [← Int.natCast_ediv, ← Int.natCast_ediv]; exact congrArg Int.ofNat h1, h2⟩
    · refine .inr ?_
      have h1' : sg cn rn b = sg cn rn a + cn := h1
      omega
  · obtain ⟨q, h1, rfl⟩ := List.mem_map.1 hn
    have hq := hN q h1
    have h2 := hT.2.2 q h1 hl
    have h3 := sg_ok t.r t.c t.m (p := q.p.toNat) (by omega)
    show q.lo ≤ (turnL rn cn H)[((sg rn cn q.p.toNat : Nat) : Int).toNat]! ∧ (turnL rn cn H)[((sg rn cn q.p.toNat : Nat) : Int).toNat]! ≤ q.hi
    rw [Int.toNat_natCast, turn_get h3.1, h3.2]
    exact h2
/-- a valid survey, in numbers that count -/
structure Vs (rn cn : Nat) (sm : Int) (L : List Int) (N : List Cnt) : Prop where
  t : Tn rn cn
  v : svErr (rn : Int) (cn : Int) L sm N = 0
theorem Vs.len {sm : Int} {L : List Int} {N : List Cnt} (h : Vs rn cn sm L N) : L.length = rn * cn := by
  obtain ⟨hO, _⟩ := okay_of h.v
  obtain ⟨_, _, hrc⟩ := field_of hO.f
  have : ((L.length : Nat) : Int) = ((rn * cn : Nat) : Int) := by rw [hrc, Int.natCast_mul]
  omega
theorem Vs.pl {sm : Int} {L : List Int} {N : List Cnt} (h : Vs rn cn sm L N) : ∀ n ∈ N, 0 ≤ n.p ∧ n.p < (rn * cn : Nat) := fun n hn => by
  obtain ⟨hO, _⟩ := okay_of h.v
  have h1 : (0 ≤ n.p ∧ n.p ≤ (rn : Int) * (cn : Int) - 1) ∧ _ := of_decide_eq_true (hO.v n hn)
  have : ((rn * cn : Nat) : Int) = (rn : Int) * (cn : Int) := Int.natCast_mul ..
  omega
theorem Vs.truth {sm : Int} {L H : List Int} {N : List Cnt} (h : Vs rn cn sm L N) (hT : TruthR (cn : Int) sm L N H) : TruthR (rn : Int) sm (turnL rn cn L) (N.map (turnC rn cn)) (turnL rn cn H) := turn_truth h.t h.len h.pl hT
theorem Vs.share {sm : Int} {L H : List Int} {N : List Cnt} (h : Vs rn cn sm L N) (hT : TruthR (cn : Int) sm L N H) : shareOf (turnL rn cn L) (turnL rn cn H) = shareOf L H := share_turn h.t.r h.t.c h.t.m h.len (by rw [listed_len hT.1]; exact h.len)
theorem ask_in {r c sm n : Int} {L : List Int} {N : List Cnt} (hv : svErr r c L sm N = 0) (hn : 0 ≤ n ∧ n ≤ 100) : askErr r c L sm N (decide (0 ≤ n ∧ n ≤ 100)) = trueErr r c L sm N := by unfold askErr; rw [if_pos hv, decide_eq_true hn]; rfl
end
end Go.Proofs.Ytgkjfhkjgdiodaa

namespace Go.Proofs.Ytgkjfhkjgdiodaa
open _root_.Go.Proofs.Try
open Go.Abs
set_option maxRecDepth 100000
noncomputable section
theorem w64 {a100 : Int} {a101 : Int} {a102 : C} {a103 : Int} {a104 : C} {a200 : C} {a300 : Int} {a400 : Int} {m : M} {Q : V → M → Prop} (h :
 (∀ m0 : M, ((m0 = (M.new m (AO.cells 5 [(C.int .i64 a100), (C.int .i64 a101), a102, (C.int .i64 a103), 
 a104] false))) → (∀ m1 : M, ((m1 = (M.new m0 (AO.cells 4000 (List.replicate 4000 (C.bool false)) false))) → 
 (∀ m2 : M, ((m2 = (M.new m1 (AO.cells 4000 (List.replicate 4000 (C.bool false)) false))) → 
 (∀ R3 : List V → M → Prop, ((∀ b4 : Bool, (∀ x5 : Int, (∀ m6 : M, ((isSl a200 ∧ (ifB (decide (x5 < (((slLen a200) : Nat) : Int))) (isPt (C.ptr m.nxt 0) ∧ 
 (∃ x7 : Int, (∃ x8 : Int, (∃ c9 : C, (((ldA m6 (C.ptr m.nxt 0) 3) = (some [(C.int .i64 x7), 
 (C.int .i64 x8), c9])) ∧ (∃ n10 : Nat, ((x5 = ((n10 : Nat) : Int)) ∧ ((n10 < (slLen a200)) ∧ 
 (∃ x11 : Int, (((ldC m6 (slAt a200 (n10 * 1))) = (some (C.int .i64 x11))) ∧ 
 (Wc prog tbl 67 [(V.agg 3 [(C.int .i64 x7), (C.int .i64 x8), c9]), (V.c (C.int .i64 x11))] m6 (fun v12 m13 => 
 (∃ c14 : C, ((v12 = (V.c c14)) ∧ (isSl c14 ∧ (fitsP .i64 ((((slLen c14) : Nat) : Int) - (1 : Int)) ∧ 
 (∀ R15 : List V → M → Prop, ((∀ x16 : Int, (∀ x17 : Int, (∀ m18 : M, ((ifB (decide ((0 : Int) ≤ x17)) (((0 : Int) ≤ a400) ∧ 
 (((0 : Int) ≤ (wrapZ .u64 x17)) ∧ (((wrapZ .u64 x17) ≤ (64 : Int)) ∧ 
 (fitsP .i64 (a400 / ((2 : Int) ^ (Int.toNat (wrapZ .u64 x17)))) ∧ 
 (((0 : Int) ≤ (a400 / ((2 : Int) ^ (Int.toNat (wrapZ .u64 x17))))) ∧ (((0 : Int) < (2 : Int)) ∧ 
 (fitsP .i64 ((a400 / ((2 : Int) ^ (Int.toNat (wrapZ .u64 x17)))) % (2 : Int)) ∧ 
 (ifB (decide (((a400 / ((2 : Int) ^ (Int.toNat (wrapZ .u64 x17)))) % (2 : Int)) = (1 : Int))) (isPt (C.ptr m.nxt 0) ∧ 
 (isPt (C.ptr m.nxt 0) ∧ (∃ c19 : C, (((ldC m18 (C.ptr m.nxt 2)) = (some c19)) ∧ 
 (∃ n20 : Nat, ((x17 = ((n20 : Nat) : Int)) ∧ ((n20 < (slLen c19)) ∧ (∃ x21 : Int, 
 (((ldC m18 (slAt c19 (n20 * 1))) = (some (C.int .i64 x21))) ∧ (fitsP .i64 (x21 + (1 : Int)) ∧ 
 (((0 : Int) ≤ x16) ∧ (((0 : Int) ≤ (x21 + (1 : Int))) ∧ (fitsP .i64 (x16 * (x21 + (1 : Int))) ∧ 
 (∃ n22 : Nat, ((x17 = ((n22 : Nat) : Int)) ∧ ((n22 < (slLen c14)) ∧ (∃ x23 : Int, 
 (((ldC m18 (slAt c14 (n22 * 1))) = (some (C.int .i64 x23))) ∧ (fitsP .i64 ((x16 * (x21 + (1 : Int))) + x23) ∧ 
 (fitsP .i64 (x17 - (1 : Int)) ∧ (R15 [(V.c (C.int .i64 ((x16 * (x21 + (1 : Int))) + x23))), 
 (V.c (C.int .i64 (x17 - (1 : Int))))] m18))))))))))))))))))))) (fitsP .i64 (x17 - (1 : Int)) ∧ 
 (R15 [(V.c (C.int .i64 x16)), (V.c (C.int .i64 (x17 - (1 : Int))))] m18)))))))))) (isPt (C.ptr m.nxt 0) ∧ 
 (∃ x24 : Int, (∃ x25 : Int, (∃ c26 : C, (((ldA m18 (C.ptr m.nxt 0) 3) = (some [(C.int .i64 x24), 
 (C.int .i64 x25), c26])) ∧ (Wc prog tbl 40 [(V.agg 3 [(C.int .i64 x24), 
 (C.int .i64 x25), c26]), (V.c c14)] m18 (fun v27 m28 => (∃ x29 : Int, 
 ((v27 = (V.c (C.int .i64 x29))) ∧ (ifB (decide (a300 ≤ x29)) (isPt (C.ptr m0.nxt 0) ∧ 
 (∃ n30 : Nat, ((x16 = ((n30 : Nat) : Int)) ∧ ((n30 < 4000) ∧ (∃ m31 : M, (((stC m28 (C.ptr m0.nxt (0 + (n30 * 1))) 1 [(C.bool true)]) = (some m31)) ∧ 
 (isPt (C.ptr m0.nxt 0) ∧ (∃ n32 : Nat, ((x16 = ((n32 : Nat) : Int)) ∧ ((n32 < 4000) ∧ 
 (∃ b33 : Bool, (((ldC m31 (C.ptr m0.nxt (0 + (n32 * 1)))) = (some (C.bool b33))) ∧ 
 (ifB b33 (isPt (C.ptr m1.nxt 0) ∧ (∃ n34 : Nat, ((x16 = ((n34 : Nat) : Int)) ∧ 
 ((n34 < 4000) ∧ (∃ b35 : Bool, (((ldC m31 (C.ptr m1.nxt (0 + (n34 * 1)))) = (some (C.bool b35))) ∧ 
 (ifB b35 (Q (V.c (C.bool false)) m31) (fitsP .i64 (x5 + (1 : Int)) ∧ (R3 [(V.c (C.bool b4)), 
 (V.c (C.int .i64 (x5 + (1 : Int))))] m31))))))))) (fitsP .i64 (x5 + (1 : Int)) ∧ 
 (R3 [(V.c (C.bool b4)), (V.c (C.int .i64 (x5 + (1 : Int))))] m31))))))))))))))) (isPt (C.ptr m1.nxt 0) ∧ 
 (∃ n36 : Nat, ((x16 = ((n36 : Nat) : Int)) ∧ ((n36 < 4000) ∧ (∃ m37 : M, (((stC m28 (C.ptr m1.nxt (0 + (n36 * 1))) 1 [(C.bool true)]) = (some m37)) ∧ 
 (isPt (C.ptr m0.nxt 0) ∧ (∃ n38 : Nat, ((x16 = ((n38 : Nat) : Int)) ∧ ((n38 < 4000) ∧ 
 (∃ b39 : Bool, (((ldC m37 (C.ptr m0.nxt (0 + (n38 * 1)))) = (some (C.bool b39))) ∧ 
 (ifB b39 (isPt (C.ptr m1.nxt 0) ∧ (∃ n40 : Nat, ((x16 = ((n40 : Nat) : Int)) ∧ 
 ((n40 < 4000) ∧ (∃ b41 : Bool, (((ldC m37 (C.ptr m1.nxt (0 + (n40 * 1)))) = (some (C.bool b41))) ∧ 
 (ifB b41 (Q (V.c (C.bool false)) m37) (fitsP .i64 (x5 + (1 : Int)) ∧ (R3 [(V.c (C.bool b4)), 
 (V.c (C.int .i64 (x5 + (1 : Int))))] m37))))))))) (fitsP .i64 (x5 + (1 : Int)) ∧ 
 (R3 [(V.c (C.bool b4)), (V.c (C.int .i64 (x5 + (1 : Int))))] m37)))))))))))))))))))))))))) → 
 (R15 [(V.c (C.int .i64 x16)), (V.c (C.int .i64 x17))] m18))))) → 
 (R15 [(V.c (C.int .i64 (0 : Int))), (V.c (C.int .i64 ((((slLen c14) : Nat) : Int) - (1 : Int))))] m13))))))))))))))))))) (Q (V.c (C.bool true)) m6))) → 
 (R3 [(V.c (C.bool b4)), (V.c (C.int .i64 x5))] m6))))) → (R3 [(V.c (C.bool false)), (V.c (C.int .i64 (0 : Int)))] m2)))))))))) : Wc prog tbl 64 [(V.agg 5 [(C.int .i64 a100), (C.int .i64 a101), a102, (C.int .i64 a103), a104]), (V.c a200), (V.c (C.int .i64 a300)), (V.c (C.int .i64 a400))] m Q :=
 wc_eq (n := 4) rfl (by kernel_rfl) (by kernel_rfl) h
end
end Go.Proofs.Ytgkjfhkjgdiodaa

namespace Go.Proofs.Ytgkjfhkjgdiodaa
open _root_.Go.Proofs.Try
open Go.Abs
set_option maxRecDepth 100000
noncomputable section
def kF (L H : List Int) (b : Nat) : Nat → Int → Int
  | 0, a => a
  | p + 1, a => kF L H b p (if b.testBit p then a * (L[p]! + 1) + H[p]! else a)
theorem drop_prod : ∀ (L : List Int) (p : Nat), prodN (L.drop p) ≤ prodN L
  | [], p => by simp
  | v :: L, 0 => Nat.le_refl _
  | v :: L, p + 1 => Nat.le_trans (drop_prod L p) (Nat.le_mul_of_pos_left _ (Nat.succ_pos _))
theorem prod_step {L : List Int} {p : Nat} (hp : p < L.length) : prodN (L.drop p) = (L[p].toNat + 1) * prodN (L.drop (p + 1)) := by rw [List.drop_eq_getElem_cons hp]; rfl
theorem kF_step {L : List Int} {p : Nat} {a h : Int} (hp : p < L.length) (hl : 0 ≤ L[p]) (hh : 0 ≤ h ∧ h ≤ L[p]) (ha : 0 ≤ a ∧ a < (prodN (L.drop (p + 1)) : Int)) : 0 ≤ a * (L[p] + 1) + h ∧ a * (L[p] + 1) + h < (prodN (L.drop p) : Int) := by
  have h1 : 0 ≤ a * (L[p] + 1) := Int.mul_nonneg ha.1 (by omega)
  have h2 : (a + 1) * (L[p] + 1) ≤ (prodN (L.drop (p + 1)) : Int) * (L[p] + 1) := Int.mul_le_mul_of_nonneg_right (by omega) (by omega)
  rw [prod_step hp, Int.natCast_mul, show ((L[p].toNat + 1 : Nat) : Int) = L[p] + 1 by omega, Int.mul_comm (L[p] + 1)]
  rw [Int.add_mul, Int.one_mul] at h2
  exact ⟨by omega, by omega⟩
theorem kF_le {L : List Int} {p : Nat} {a : Int} (hp : p < L.length) (ha : 0 ≤ a ∧ a < (prodN (L.drop (p + 1)) : Int)) : a < (prodN (L.drop p) : Int) := by
  rw [prod_step hp]
  have : prodN (L.drop (p + 1)) ≤ (L[p].toNat + 1) * prodN (L.drop (p + 1)) := Nat.le_mul_of_pos_left _ (Nat.succ_pos _)
  omega
theorem kF_inj {L H H' : List Int} {b : Nat} (hH : ∀ q : Nat, q < L.length → 0 ≤ H[q]! ∧ H[q]! ≤ L[q]!) (hH' : ∀ q : Nat, q < L.length → 0 ≤ H'[q]! ∧ H'[q]! ≤ L[q]!) : ∀ {p : Nat} {a a' : Int}, p ≤ L.length → 0 ≤ a → 0 ≤ a' →
    (kF L H b p a = kF L H' b p a' ↔ a = a' ∧ ∀ q : Nat, q < p → b.testBit q = true → H[q]! = H'[q]!)
  | 0, a, a', _, _, _ => ⟨fun h => ⟨h, fun q hq => by omega⟩, fun h => h.1⟩
  | p + 1, a, a', hp, ha, ha' => by
    have h1 := hH p (by omega)
    have h2 := hH' p (by omega)
    show kF L H b p (if b.testBit p then a * (L[p]! + 1) + H[p]! else a) = kF L H' b p (if b.testBit p then a' * (L[p]! + 1) + H'[p]! else a') ↔ _
    by_cases hb : b.testBit p = true
    · rw [if_pos hb, if_pos hb]
      have m1 : 0 ≤ a * (L[p]! + 1) := Int.mul_nonneg ha (by omega)
      have m2 : 0 ≤ a' * (L[p]! + 1) := Int.mul_nonneg ha' (by omega)
      rw [kF_inj hH hH' (by omega) (by omega) (by omega)]
      constructor
      · rintro ⟨h3, h4⟩
        have hh : H[p]! = H'[p]! := by
          have e1 : (a * (L[p]! + 1) + H[p]!) % (L[p]! + 1) = H[p]! := by rw [Int.add_comm, Int.add_mul_emod_self_right, Int.emod_eq_of_lt h1.1 (by omega)]
          have e2 : (a' * (L[p]! + 1) + H'[p]!) % (L[p]! + 1) = H'[p]! := by rw [Int.add_comm, Int.add_mul_emod_self_right, Int.emod_eq_of_lt h2.1 (by omega)]
          rw [← e1, ← e2, h3]
        refine ⟨?_, fun q hq hbq => ?_⟩
        · have : a * (L[p]! + 1) = a' * (L[p]! + 1) := by omega
          exact Int.eq_of_mul_eq_mul_right (by omega) this
        · by_cases hqp : q = p
          · rw [hqp]; exact hh
          · exact h4 q (by omega) hbq
      · rintro ⟨h3, h4⟩
        exact ⟨by rw [h3, h4 p (by omega) hb], fun q hq hbq => h4 q (by omega) hbq⟩
    · rw [if_neg hb, if_neg hb, kF_inj hH hH' (by omega) ha ha']
      constructor
      · rintro ⟨h3, h4⟩
        refine ⟨h3, fun q hq hbq => ?_⟩
        by_cases hqp : q = p
        · rw [hqp] at hbq; exact absurd hbq hb
        · exact h4 q (by omega) hbq
      · rintro ⟨h3, h4⟩
        exact ⟨h3, fun q hq hbq => h4 q (by omega) hbq⟩
def keyD (L : List Int) (b : Nat) (H : List Int) : Int := kF L H b L.length 0
theorem kF_bd {L H : List Int} {b : Nat} (hS : Small L) (hH : ∀ q : Nat, q < L.length → 0 ≤ H[q]! ∧ H[q]! ≤ L[q]!) : ∀ {p : Nat} {a : Int}, p ≤ L.length → 0 ≤ a ∧ a < (prodN (L.drop p) : Int) → 0 ≤ kF L H b p a ∧ kF L H b p a < (prodN L : Int)
  | 0, a, _, ha => ha
  | p + 1, a, hp, ha => by
    have hpL : p < L.length := by omega
    have h1 := hH p hpL
    have h2 := small_at hS hpL
    have h3 : L[p]! = L[p] := getElem!_pos L p hpL
    show 0 ≤ kF L H b p (if b.testBit p then a * (L[p]! + 1) + H[p]! else a) ∧ kF L H b p (if b.testBit p then a * (L[p]! + 1) + H[p]! else a) < _
    rw [h3] at h1 ⊢
    split
    · exact kF_bd hS hH (by omega) (kF_step hpL h2.1 h1 ha)
    · exact kF_bd hS hH (by omega) ⟨ha.1, kF_le hpL ha⟩
/-- no two numbers on both sides have the same key -/
def DecR (L : List Int) (A : List Int) (n : Int) (b : Nat) : Prop := ∀ a ∈ A, ∀ a' ∈ A, n ≤ shareOf L (nthL L a) → shareOf L (nthL L a') < n → keyD L b (nthL L a) ≠ keyD L b (nthL L a')
theorem decR_few {r c sm n : Int} {L : List Int} {N : List Cnt} {b : Nat} (hv : svErr r c L sm N = 0) (hb : b < 2 ^ L.length) : DecR L (truN c sm L N) n b ↔ fewT c sm L N n (bitsL b) = true := by
  obtain ⟨hO, hsm⟩ := okay_of hv
  obtain ⟨hS, hL9, hrc⟩ := field_of hO.f
  have hi : Inc L.length 0 (bitsL b) := bits_inc (by omega) hb
  rw [few_iff hv hi]
  have hk : ∀ {H H' : List Int}, TruthR c sm L N H → TruthR c sm L N H' → (keyD L b H = keyD L b H' ↔ ∀ v ∈ bitsL b, H[v.toNat]! = H'[v.toNat]!) := fun hT hT' => by
    unfold keyD
    rw [kF_inj (of_decide_eq_true hT.1).2 (of_decide_eq_true hT'.1).2 (Nat.le_refl _) (Int.le_refl _) (Int.le_refl _)]
    constructor
    · rintro ⟨_, h⟩ v hv'
      have h1 := hi.2 v hv'
      exact h v.toNat (by omega) (mem_bitsF.1 hv').2.2
    · intro h
      refine ⟨rfl, fun q hq hbq => ?_⟩
      have := h (q : Int) (mem_bitsF.2 ⟨by omega, by omega, hbq⟩)
      rw [Int.toNat_natCast] at this
      exact this
  constructor
  · intro h H H' hT hT' h1 h2 h3
    obtain ⟨a, q1, q2, q3⟩ := nth_surj hS (listed_lst.1 hT.1)
    obtain ⟨a', p1, p2, p3⟩ := nth_surj hS (listed_lst.1 hT'.1)
    refine h a (mem_truN.2 ⟨q1, q2, by rw [q3]; exact truthR_true hT⟩) a' (mem_truN.2 ⟨p1, p2, by rw [p3]; exact truthR_true hT'⟩) (by rw [q3]; exact h1) (by rw [p3]; exact h2) ?_
    rw [q3, p3]
    exact (hk hT hT').2 h3
  · intro h a ha a' ha' h1 h2 h3
    have hT := truthR_iff.1 (mem_truN.1 ha).2.2
    have hT' := truthR_iff.1 (mem_truN.1 ha').2.2
    exact h _ _ hT hT' h1 h2 ((hk hT hT').1 h3)
def flg (F : List Bool) (P : Nat → Prop) : Prop := F.length = 4000 ∧ ∀ k, k < 4000 → (F[k]! = true ↔ P k)
theorem flg_set {F : List Bool} {P : Nat → Prop} (h : flg F P) (q : Nat) : flg (F.set q true) fun k => P k ∨ k = q := by
  refine ⟨by rw [List.length_set]; exact h.1, fun k hk => ?_⟩
  rw [getElem!_pos _ k (by rw [List.length_set, h.1]; exact hk), List.getElem_set]
  by_cases hq : q = k
  · rw [if_pos hq]; exact ⟨fun _ => .inr hq.symm, fun _ => rfl⟩
  · rw [if_neg hq, ← getElem!_pos F k (by rw [h.1]; exact hk), h.2 k hk]
    exact ⟨.inl, fun h1 => h1.resolve_right fun h2 => hq h2.symm⟩
theorem rep_bls (n : Nat) : List.replicate n (C.bool false) = bls (List.replicate n false) := by simp [bls]
theorem nth_bd : ∀ {L : List Int} {a : Int}, Small L → 0 ≤ a → ∀ q : Nat, q < L.length → 0 ≤ (nthL L a)[q]! ∧ (nthL L a)[q]! ≤ L[q]!
  | [], _, _, _, q, hq => by simp at hq
  | v :: L, a, hS, ha, q, hq => by
    have hv := hS v (List.mem_cons_self ..)
    cases q with
    | zero =>
      have h0 := Int.emod_nonneg a (b := v + 1) (by omega)
      have h1 := Int.emod_lt_of_pos a (b := v + 1) (by omega)
      show 0 ≤ a % (v + 1) ∧ a % (v + 1) ≤ v
      omega
    | succ q => exact nth_bd (L := L) (a := a / (v + 1)) (fun w hw => hS w (List.mem_cons_of_mem _ hw)) (Int.ediv_nonneg ha (by omega)) q (by simpa using hq)
open Classical in
theorem s64 {r c sm n : Int} {x y z : C} {L A : List Int} {N : List Cnt} {b : Nat} {m : M} {Q : V → M → Prop} (hx : Li m x L) (hO : Okay r c L N) (hP : prodN L ≤ 2000) (hz : Li m z A) (hA : A.length ≤ 100000) (hA2 : ∀ a ∈ A, 0 ≤ a ∧ a < (prodN L : Int)) (hb : b < 65536)
    (h : ∀ m', Ext m m' → Q (.c (.bool (decide (DecR L A n b)))) m') : Wc prog tbl 64 [.agg 5 [.int .i64 r, .int .i64 c, x, .int .i64 sm, y], .c z, .c (.int .i64 n), .c (.int .i64 (b : Int))] m Q := by
  obtain ⟨hS, hL9, hrc⟩ := field_of hO.f
  refine w64 fun m0 e0 m1 e1 m2 e2 R3 hstep => ?_
  obtain ⟨b0, x0⟩ := Bk.new e0
  rw [rep_bls] at e1 e2
  obtain ⟨b1, x1⟩ := Bk.new e1
  obtain ⟨b2, x2⟩ := Bk.new e2
  have n0 : m0.nxt = m.nxt + 1 := by rw [e0]; rfl
  have n1 : m1.nxt = m.nxt + 2 := by rw [e1]; show m0.nxt + 1 = _; omega
  have hrepl : ∀ k, k < 4000 → ((List.replicate 4000 false)[k]! = true ↔ False) := fun k hk => by
    rw [getElem!_pos _ k (by rw [List.length_replicate]; exact hk), List.getElem_replicate]; simp
  have hgo : ∀ (d i : Nat) (b4 : Bool) (m6 : M) (Y Z : List Bool), d + i = A.length → Ext m m6 → Bk m6 m.nxt 5 [.int .i64 r, .int .i64 c, x, .int .i64 sm, y] → Bk m6 m0.nxt 4000 (bls Y) → Bk m6 m1.nxt 4000 (bls Z) →
      flg Y (fun k => ∃ a ∈ A.take i, n ≤ shareOf L (nthL L a) ∧ keyD L b (nthL L a) = (k : Int)) → flg Z (fun k => ∃ a ∈ A.take i, shareOf L (nthL L a) < n ∧ keyD L b (nthL L a) = (k : Int)) → DecR L (A.take i) n b → R3 [.c (.bool b4), .c (.int .i64 (i : Int))] m6 := by
    intro d
    induction d with
    | zero =>
      intro i b4 m6 Y Z hd he k0 k1 k2 hY hZ hdec
      refine hstep _ _ _ ⟨hz.isSl, ?_⟩
      rw [hz.slLen, ifB_dec]
      refine ⟨fun h1 => by omega, fun _ => ?_⟩
      rw [List.take_of_length_le (by omega)] at hdec
      have hq := h m6 he
      rw [decide_eq_true hdec] at hq
      exact hq
    | succ d ih =>
      intro i b4 m6 Y Z hd he k0 k1 k2 hY hZ hdec
      refine hstep _ _ _ ⟨hz.isSl, ?_⟩
      rw [hz.slLen, ifB_dec]
      refine ⟨fun _ => ?_, fun h1 => absurd (by omega) h1⟩
      have hi : i < A.length := by omega
      have hAi := hA2 _ (List.getElem_mem hi)
      have hTi : A.take (i + 1) = A.take i ++ [A[i]] := by rw [List.take_add_one, List.getElem?_eq_getElem hi]; rfl
      refine ⟨trivial, r, c, x, k0.rp (k := 0) (j := 3) rfl (by omega), i, rfl, hi, A[i], Li.rd (hz.ext he) (List.getElem?_eq_getElem hi), s67 (hx.ext he) hS (by omega) ⟨hAi.1, by omega⟩ fun w m13 e13 hw _ => ⟨w, rfl, hw.isSl, ?_⟩⟩
      have hHl := nthL_len L A[i]
      have hHS := small_nth (L := L) (n := A[i]) hS hAi.1
      have hHb : ∀ q : Nat, q < L.length → 0 ≤ (nthL L A[i])[q]! ∧ (nthL L A[i])[q]! ≤ L[q]! := nth_bd hS hAi.1
      rw [hw.slLen, hHl]
      refine ⟨fits_small (by omega) (by omega), fun R15 hstep2 => ?_⟩
      have he13 := he.trans e13
      have x13 := hx.ext he13
      have k0' := k0.ext e13
      have k1' := k1.ext e13
      have k2' := k2.ext e13
      generalize hHe : nthL L A[i] = H at hw hHl hHS hHb
      have hkb := kF_bd (b := b) hS hHb (Nat.le_refl _) ⟨Int.le_refl 0, by rw [List.drop_length]; show (0 : Int) < ((1 : Nat) : Int); omega⟩
      have hk' : keyD L b H = kF L H b L.length 0 := rfl
      rw [← hk'] at hkb
      obtain ⟨q, hq⟩ : ∃ q : Nat, keyD L b H = (q : Int) := ⟨(keyD L b H).toNat, by omega⟩
      have hgo2 : ∀ (p : Nat) (a : Int), p ≤ L.length → 0 ≤ a ∧ a < (prodN (L.drop p) : Int) → kF L H b p a = keyD L b H → R15 [.c (.int .i64 a), .c (.int .i64 ((p : Int) - 1))] m13 := by
        intro p
        induction p with
        | zero =>
          intro a hp ha hkey
          have hkey' : a = (q : Int) := by rw [← hq, ← hkey]; rfl
          refine hstep2 _ _ _ ?_
          rw [ifB_dec]
          refine ⟨fun h1 => by omega, fun _ => ?_⟩
          refine ⟨trivial, r, c, x, k0'.rp (k := 0) (j := 3) rfl (by omega), s40 x13 hS (by omega) hw hHS hHl fun m28 e28 => ⟨_, rfl, ?_⟩⟩
          have he28 := he13.trans e28
          have k0'' := k0'.ext e28
          have k1'' := k1'.ext e28
          have k2'' := k2'.ext e28
          have hq4 : q < 4000 := by omega
          have hrd : ∀ {mm : M} {bb : Nat} {F : List Bool} {Pp : Nat → Prop}, flg F Pp → Bk mm bb 4000 (bls F) → ldC mm (.ptr bb (0 + q * 1)) = some (.bool F[q]!) := fun hF hb' => by
            rw [show 0 + q * 1 = q by omega, getElem!_pos _ q (by rw [hF.1]; exact hq4)]
            exact hb'.rc (bls_at (by rw [hF.1]; exact hq4))
          rw [ifB_dec]
          refine ⟨fun hge => ?_, fun hge => ?_⟩
          · have hY' := flg_set hY q
            have hst := k1''.st1n (k := q) (.bool true) (by rw [bls_len, hY.1]; exact hq4) (by rw [bls_len]; exact hY.1)
            refine ⟨trivial, q, hkey', hq4, _, hst, ?_⟩
            rw [bls_set]
            have k1n := k1''.set (bls (Y.set q true))
            have k2n := k2''.setNe (c := m0.nxt) (by omega) (.cells 4000 (bls (Y.set q true)) false)
            have k0n := k0''.setNe (c := m0.nxt) (by omega) (.cells 4000 (bls (Y.set q true)) false)
            have hen := he28.setR (b := m0.nxt) (by omega) (.cells 4000 (bls (Y.set q true)) false)
            generalize m28.set m0.nxt (.cells 4000 (bls (Y.set q true)) false) = m31 at k1n k2n k0n hen
            have hyq : (Y.set q true)[q]! = true := (hY'.2 q hq4).2 (.inr rfl)
            refine ⟨trivial, q, hkey', hq4, _, hrd hY' k1n, ?_⟩
            rw [hyq]
            refine ⟨trivial, q, hkey', hq4, _, hrd hZ k2n, ?_⟩
            rw [ifB_iff]
            refine ⟨fun hz1 => ?_, fun hz1 => ⟨fits_small (by omega) (by omega), ih (i + 1) b4 m31 (Y.set q true) Z (by omega) hen k0n k1n k2n ⟨hY'.1, fun k hk => ?_⟩ ⟨hZ.1, fun k hk => ?_⟩ ?_⟩⟩
            · obtain ⟨a', h1, h2, h3⟩ := (hZ.2 q hq4).1 hz1
              have hqq := h m31 hen
              rw [decide_eq_false fun hD => hD A[i] (List.getElem_mem hi) a' (List.mem_of_mem_take h1) (by rw [hHe]; exact hge) h2 (by rw [hHe, hq, h3])] at hqq
              exact hqq
            · rw [hY'.2 k hk, hTi]
              constructor
              · rintro (⟨a, h1, h2⟩ | rfl)
                · exact ⟨a, List.mem_append.2 (.inl h1), h2⟩
                · exact ⟨A[i], List.mem_append.2 (.inr (List.mem_singleton.2 rfl)), by rw [hHe]; exact hge, by rw [hHe]; exact hq⟩
              · rintro ⟨a, h1, h2, h3⟩
                rcases List.mem_append.1 h1 with h4 | h4
                · exact .inl ⟨a, h4, h2, h3⟩
                · rw [List.mem_singleton] at h4
                  rw [h4, hHe, hq] at h3
                  exact .inr (by omega)
            · rw [hZ.2 k hk, hTi]
              constructor
              · rintro ⟨a, h1, h2⟩
                exact ⟨a, List.mem_append.2 (.inl h1), h2⟩
              · rintro ⟨a, h1, h2, h3⟩
                rcases List.mem_append.1 h1 with h4 | h4
                · exact ⟨a, h4, h2, h3⟩
                · rw [List.mem_singleton] at h4
                  rw [h4, hHe] at h2
                  omega
            · rw [hTi]
              intro a ha a' ha' h1 h2 h3
              rcases List.mem_append.1 ha' with h5 | h5
              · rcases List.mem_append.1 ha with h4 | h4
                · exact hdec a h4 a' h5 h1 h2 h3
                · rw [List.mem_singleton] at h4
                  rw [h4, hHe, hq] at h3
                  have := (hZ.2 q hq4).2 ⟨a', h5, h2, h3.symm⟩
                  rw [hz1] at this; cases this
              · rw [List.mem_singleton] at h5
                rw [h5, hHe] at h2
                omega
          · have hZ' := flg_set hZ q
            have hst := k2''.st1n (k := q) (.bool true) (by rw [bls_len, hZ.1]; exact hq4) (by rw [bls_len]; exact hZ.1)
            refine ⟨trivial, q, hkey', hq4, _, hst, ?_⟩
            rw [bls_set]
            have k2n := k2''.set (bls (Z.set q true))
            have k1n := k1''.setNe (c := m1.nxt) (by omega) (.cells 4000 (bls (Z.set q true)) false)
            have k0n := k0''.setNe (c := m1.nxt) (by omega) (.cells 4000 (bls (Z.set q true)) false)
            have hen := he28.setR (b := m1.nxt) (by omega) (.cells 4000 (bls (Z.set q true)) false)
            generalize m28.set m1.nxt (.cells 4000 (bls (Z.set q true)) false) = m31 at k1n k2n k0n hen
            have hzq : (Z.set q true)[q]! = true := (hZ'.2 q hq4).2 (.inr rfl)
            refine ⟨trivial, q, hkey', hq4, _, hrd hY k1n, ?_⟩
            have hnext : Y[q]! = false → fitsP .i64 ((i : Int) + 1) ∧ R3 [.c (.bool b4), .c (.int .i64 ((i : Int) + 1))] m31 := fun hy1 => by
              refine ⟨fits_small (by omega) (by omega), ih (i + 1) b4 m31 Y (Z.set q true) (by omega) hen k0n k1n k2n ⟨hY.1, fun k hk => ?_⟩ ⟨hZ'.1, fun k hk => ?_⟩ ?_⟩
              · rw [hY.2 k hk, hTi]
                constructor
                · rintro ⟨a, h1, h2⟩
                  exact ⟨a, List.mem_append.2 (.inl h1), h2⟩
                · rintro ⟨a, h1, h2, h3⟩
                  rcases List.mem_append.1 h1 with h4 | h4
                  · exact ⟨a, h4, h2, h3⟩
                  · rw [List.mem_singleton] at h4
                    rw [h4, hHe] at h2
                    omega
              · rw [hZ'.2 k hk, hTi]
                constructor
                · rintro (⟨a, h1, h2⟩ | rfl)
                  · exact ⟨a, List.mem_append.2 (.inl h1), h2⟩
                  · exact ⟨A[i], List.mem_append.2 (.inr (List.mem_singleton.2 rfl)), by rw [hHe]; omega, by rw [hHe]; exact hq⟩
                · rintro ⟨a, h1, h2, h3⟩
                  rcases List.mem_append.1 h1 with h4 | h4
                  · exact .inl ⟨a, h4, h2, h3⟩
                  · rw [List.mem_singleton] at h4
                    rw [h4, hHe, hq] at h3
                    exact .inr (by omega)
              · rw [hTi]
                intro a ha a' ha' h1 h2 h3
                rcases List.mem_append.1 ha with h4 | h4
                · rcases List.mem_append.1 ha' with h5 | h5
                  · exact hdec a h4 a' h5 h1 h2 h3
                  · rw [List.mem_singleton] at h5
                    rw [h5, hHe, hq] at h3
                    have := (hY.2 q hq4).2 ⟨a, h4, h1, h3⟩
                    rw [hy1] at this; cases this
                · rw [List.mem_singleton] at h4
                  rw [h4, hHe] at h1
                  omega
            rw [ifB_iff]
            refine ⟨fun hy1 => ⟨trivial, q, hkey', hq4, _, hrd hZ' k2n, ?_⟩, hnext⟩
            rw [hzq]
            obtain ⟨a', h1, h2, h3⟩ := (hY.2 q hq4).1 hy1
            have hqq := h m31 hen
            rw [decide_eq_false fun hD => hD a' (List.mem_of_mem_take h1) A[i] (List.getElem_mem hi) h2 (by rw [hHe]; omega) (by rw [hHe, hq, h3])] at hqq
            exact hqq
        | succ p ihp =>
          intro a hp ha hkey
          have hpL : p < L.length := by omega
          have hpH : p < H.length := by omega
          have hlp := small_at hS hpL
          have hLe : L[p]! = L[p] := getElem!_pos L p hpL
          have hHe' : H[p]! = H[p] := getElem!_pos H p hpH
          have hhb := hHb p hpL
          rw [hLe, hHe'] at hhb
          have hst := kF_step hpL hlp.1 hhb ha
          have hle := kF_le hpL ha
          have hd1 := drop_prod L p
          have hd2 := drop_prod L (p + 1)
          have hkey2 : kF L H b p (if b.testBit p then a * (L[p] + 1) + H[p] else a) = keyD L b H := by rw [← hkey, ← hLe, ← hHe']; rfl
          refine hstep2 _ _ _ ?_
          rw [show (((p + 1 : Nat) : Int) - 1) = (p : Int) by omega, ifB_dec]
          refine ⟨fun _ => ?_, fun h1 => absurd (by omega) h1⟩
          rw [wrap_small (by omega) (by omega), show ((p : Nat) : Int).toNat = p from rfl, div_cast]
          have hbd : b / 2 ^ p ≤ b := Nat.div_le_self _ _
          have hbit : b.testBit p = decide (b / 2 ^ p % 2 = 1) := Nat.testBit_eq_decide_div_mod_eq
          generalize b / 2 ^ p = w' at hbd hbit ⊢
          refine ⟨by omega, by omega, by omega, fits_small (by omega) (by omega), by omega, by omega, fits_small (by omega) (by omega), ?_⟩
          rw [ifB_dec]
          refine ⟨fun h1 => ?_, fun h1 => ⟨fits_small (by omega) (by omega), ihp a (by omega) ⟨ha.1, hle⟩ ?_⟩⟩
          · rw [hbit, decide_eq_true (by omega), if_pos rfl] at hkey2
            have hm0 : 0 ≤ a * (L[p] + 1) := Int.mul_nonneg ha.1 (by omega)
            refine ⟨trivial, trivial, x, k0'.rc (k := 2) rfl, p, rfl, by rw [hx.slLen]; exact hpL, _, Li.rd x13 (List.getElem?_eq_getElem hpL), fits_small (by omega) (by omega), ha.1, by omega, fits_small (by omega) (by omega), p, rfl, hpL, _, Li.rd hw (List.getElem?_eq_getElem hpH), fits_small (by omega) (by omega), fits_small (by omega) (by omega), ihp _ (by omega) hst hkey2⟩
          · rw [hbit, decide_eq_false (by omega), if_neg (by decide)] at hkey2
            exact hkey2
      exact hgo2 L.length 0 (Nat.le_refl _) ⟨Int.le_refl 0, by rw [List.drop_length]; show (0 : Int) < ((1 : Nat) : Int); omega⟩ rfl
  refine hgo A.length 0 false m2 (List.replicate 4000 false) (List.replicate 4000 false) (by omega) ((x0.trans x1).trans x2) ((b0.ext x1).ext x2) (b1.ext x2) b2 ⟨List.length_replicate, fun k hk => ?_⟩ ⟨List.length_replicate, fun k hk => ?_⟩ fun a ha => by simp at ha
  · rw [hrepl k hk]; simp
  · rw [hrepl k hk]; simp
end
end Go.Proofs.Ytgkjfhkjgdiodaa

namespace Go.Proofs.Ytgkjfhkjgdiodaa
open _root_.Go.Proofs.Try
open Go.Abs
set_option maxRecDepth 100000
noncomputable section
def ZF (a : Nat) (m : M) (F R : Prop) : Prop := ∃ x1 x2 : Int, ldA m (C.ptr a 0) 2 = some [C.int IntKind.i64 x1, C.int IntKind.i64 x2] ∧ fitsP IntKind.i64 x1 ∧ fitsP IntKind.i64 (0 : Int) ∧ fitsP IntKind.i64 x2 ∧ fitsP IntKind.i64 (0 : Int) ∧ ifB (!((decide (x1 = (0 : Int))) && (decide (x2 = (0 : Int))))) F R
theorem zf {a : Nat} {m : M} {F R : Prop} (h : Bk m a 2 [.int .i64 0, .int .i64 0]) (hR : R) : ZF a m F R :=
  ⟨0, 0, h.ra, fits_small (by omega) (by omega), fits_small (by omega) (by omega), fits_small (by omega) (by omega), fits_small (by omega) (by omega), hR⟩
def HC (a ma : Nat) (z : C) (p : Int) (m69 : M) (R F : M → Prop) : Prop := ∃ x71 x72 : Int, ldA m69 (C.ptr a 0) 2 = some [C.int IntKind.i64 x71, C.int IntKind.i64 x72] ∧
  ∃ x73 x74 : Int, ∃ c75 : C, ∃ x76 : Int, ∃ c77 : C, ldA m69 (C.ptr ma 0) 5 = some [C.int IntKind.i64 x73, C.int IntKind.i64 x74, c75, C.int IntKind.i64 x76, c77] ∧
    Wc prog tbl 47 [V.agg 5 [C.int IntKind.i64 x73, C.int IntKind.i64 x74, c75, C.int IntKind.i64 x76, c77], V.c z, V.c (C.int IntKind.i64 p)] m69 fun v78 m79 => ∃ x80 x81 : Int, v78 = V.agg 2 [C.int IntKind.i64 x80, C.int IntKind.i64 x81] ∧
      ldA m79 (C.ptr a 0) 2 = some [C.int IntKind.i64 x71, C.int IntKind.i64 x72] ∧ Wc prog tbl 45 [V.agg 2 [C.int IntKind.i64 x80, C.int IntKind.i64 x81]] m79 fun v82 m83 => ∃ x84 x85 : Int, v82 = V.agg 2 [C.int IntKind.i64 x84, C.int IntKind.i64 x85] ∧
        ldA m83 (C.ptr a 0) 2 = some [C.int IntKind.i64 x71, C.int IntKind.i64 x72] ∧ fitsP IntKind.i64 x71 ∧ fitsP IntKind.i64 x84 ∧ fitsP IntKind.i64 x72 ∧ fitsP IntKind.i64 x85 ∧ ifB ((decide (x71 = x84)) && (decide (x72 = x85))) (R m83) (F m83)
theorem truN_bd {r c sm : Int} {L : List Int} {N : List Cnt} (hv : svErr r c L sm N = 0) : (truN c sm L N).length ≤ 100000 ∧ ∀ v ∈ truN c sm L N, 0 ≤ v ∧ v ≤ 100000 := by
  have h1 := few_truths hv
  exact ⟨Nat.le_trans (trN_len _ _) (by omega), fun v hv' => by have := mem_truN.1 hv'; omega⟩
theorem hc {r c sm p : Int} {x y z : C} {L : List Int} {N : List Cnt} {a ma : Nat} {m : M} {F R : M → Prop} (hx : Li m x L) (hz : Li m z (truN c sm L N)) (ht : trueErr r c L sm N = 0) (hp : 0 ≤ p ∧ p ≤ r * c - 1) (ka : Bk m ma 5 [.int .i64 r, .int .i64 c, x, .int .i64 sm, y])
    (kb : Bk m a 2 [.int .i64 (boundsOf r c L sm N 0 (fun H => H[p.toNat]!)).1, .int .i64 (boundsOf r c L sm N 0 (fun H => H[p.toNat]!)).2]) (hR : ∀ m', Ext m m' → R m') : HC a ma z p m R F := by
  obtain ⟨hv, hpos⟩ := true_sv ht
  obtain ⟨hO, _⟩ := okay_of hv
  obtain ⟨hS, hL9, hrc⟩ := field_of hO.f
  obtain ⟨t1, t2⟩ := truN_bd hv
  obtain ⟨k, hk⟩ : ∃ k : Nat, p = (k : Int) := ⟨p.toNat, by omega⟩
  subst hk
  simp only [Int.toNat_natCast] at kb
  have hkL : k < L.length := by omega
  have hD : ∀ v ∈ (truthsP c sm L N).map (fun H => H[k]!), 0 ≤ v ∧ v ≤ 100000 := fun v hv' => by
    obtain ⟨H, h1, rfl⟩ := List.mem_map.1 hv'
    have hl := truth_of hO.f h1
    have hkH : k < H.length := by rw [listed_len hl]; exact hkL
    have := small_at (small_listed hS hl) hkH
    show 0 ≤ H[k]! ∧ H[k]! ≤ _
    rw [getElem!_pos H k hkH]; omega
  have hlp : 0 < ((truthsP c sm L N).map (fun H => H[k]!)).length := by rw [List.length_map]; exact hpos
  obtain ⟨q1, q2⟩ := bounds_eq hlp (same_nums hv (fun H => H[k]!)) hD
  have d1 := hD _ (lo_spec hlp).1
  have d2 := hD _ (hi_spec hlp).1
  refine ⟨_, _, kb.ra, r, c, x, sm, y, ka.ra, s47 hx hO.f hz t1 t2 hkL fun m79 e79 => ⟨_, _, rfl, (kb.ext e79).ra, s45 fun m83 e83 => ⟨_, _, rfl, ((kb.ext e79).ext e83).ra, ?_⟩⟩⟩
  rw [q1, q2]
  refine ⟨fits_small (by show _ ≤ loOf _; omega) (by show loOf _ ≤ _; omega), fits_small (by omega) (by omega), fits_small (by show _ ≤ hiOf _; omega) (by show hiOf _ ≤ _; omega), fits_small (by omega) (by omega), ?_⟩
  show ifB (decide (loOf _ = loOf _) && decide (hiOf _ = hiOf _)) _ _
  rw [decide_eq_true rfl, decide_eq_true rfl]
  exact hR _ (e79.trans e83)
end
end Go.Proofs.Ytgkjfhkjgdiodaa

namespace Go.Proofs.Ytgkjfhkjgdiodaa
open _root_.Go.Proofs.Try
open Go.Abs
set_option maxRecDepth 100000
noncomputable section
def verd (lo hi n : Int) : Int := if n ≤ lo then 1 else if hi < n then 2 else 3
/-- Verdict -/
theorem s50 {lo hi n : Int} {m : M} {Q : V → M → Prop} (h : ∀ m', Ext m m' → Q (.c (.int .i64 (verd lo hi n))) m') : Wc prog tbl 50 [.agg 2 [.int .i64 lo, .int .i64 hi], .c (.int .i64 n)] m Q := by
  refine w50 fun m0 e0 => ?_
  obtain ⟨b0, x0⟩ := Bk.new e0
  have hq := h m0 x0
  unfold verd at hq
  refine ⟨trivial, _, b0.rc (k := 0) rfl, ?_⟩
  rw [ifB_dec]
  refine ⟨fun h1 => by rw [if_pos h1] at hq; exact hq, fun h1 => ⟨trivial, _, b0.rc (k := 1) rfl, ?_⟩⟩
  rw [if_neg h1] at hq
  rw [ifB_dec]
  exact ⟨fun h2 => by rw [if_pos h2] at hq; exact hq, fun h2 => by rw [if_neg h2] at hq; exact hq⟩
theorem full_few {r c sm n : Int} {L : List Int} {N : List Cnt} (hv : svErr r c L sm N = 0) : fewT c sm L N n (bitsL (2 ^ L.length - 1)) = true := by
  have h9 := (field_of (okay_of hv).1.f).2.1
  have hfull : Inc L.length 0 (bitsL (2 ^ L.length - 1)) := bits_inc (by omega) (by have := Nat.two_pow_pos L.length; omega)
  rw [few_iff hv hfull]
  intro H H' hT hT' h1 h2 h3
  have hl := listed_len hT.1
  have hl' := listed_len hT'.1
  have : H = H' := List.ext_getElem (by omega) fun j hj hj' => by
    have := h3 (j : Int) (mem_bitsF.2 ⟨by omega, by omega, by rw [Int.toNat_natCast, Nat.testBit_two_pow_sub_one]; exact decide_eq_true (by omega)⟩)
    rw [Int.toNat_natCast, getElem!_pos H j hj, getElem!_pos H' j hj'] at this
    exact this
  rw [this] at h1; omega
open Classical in
/-- Fewest, of the reference -/
theorem s51 {r c sm n : Int} {x y zA : C} {L : List Int} {N : List Cnt} {m : M} {Q : V → M → Prop} (hx : Li m x L) (hv : svErr r c L sm N = 0) (hzA : Li m zA (truN c sm L N))
    (h : ∀ z D m', Ext m m' → Li m' z D → Inc L.length 0 D → fewT c sm L N n D = true → (∀ b, b < 2 ^ L.length → fewT c sm L N n (bitsL b) = true → bitsL b = D ∨ shB D (bitsL b) = true) → Q (.c z) m') : Wc prog tbl 51 [.agg 5 [.int .i64 r, .int .i64 c, x, .int .i64 sm, y], .c zA, .c (.int .i64 n)] m Q := by
  obtain ⟨hO, hsm⟩ := okay_of hv
  obtain ⟨hS, hL9, hrc⟩ := field_of hO.f
  have hP := few_truths hv
  have h16 : L.length ≤ 16 := by omega
  have hp1 : 2 ^ L.length ≤ 512 := Nat.pow_le_pow_right (n := 2) (by omega) hL9
  have hp2 : 1 ≤ 2 ^ L.length := Nat.one_le_two_pow
  obtain ⟨t1, t2⟩ := truN_bd hv
  refine w51 fun m0 e0 => ?_
  obtain ⟨b0, x0⟩ := Bk.new e0
  refine ⟨trivial, trivial, x, b0.rc (k := 2) rfl, hx.isSl, ?_⟩
  rw [hx.slLen, wrap_small (by omega) (by omega), show ((L.length : Nat) : Int).toNat = L.length from rfl, show (1 : Int) * 2 ^ L.length = ((2 ^ L.length : Nat) : Int) by simp]
  have hd64 : ∀ b, b < 2 ^ L.length → (DecR L (truN c sm L N) n b ↔ fewT c sm L N n (bitsL b) = true) := fun b hb => decR_few hv hb
  have hfl := full_few (n := n) hv
  have hfi : Inc L.length 0 (bitsL (2 ^ L.length - 1)) := bits_inc h16 (by omega)
  have hbi : ∀ b, b < 2 ^ L.length → Inc L.length 0 (bitsL b) := fun b hb => bits_inc h16 hb
  generalize hw : 2 ^ L.length = w at hp1 hp2 h hd64 hfl hfi hbi ⊢
  refine ⟨by omega, by omega, by omega, fits_small (by omega) (by omega), fits_small (by omega) (by omega), ?_⟩
  rw [show ((w : Nat) : Int) - 1 = ((w - 1 : Nat) : Int) by omega]
  refine s66 (by omega) fun z3 m3 e3 hz3 _ => ⟨z3, rfl, fun R5 hstep => ?_⟩
  have hgo : ∀ (d b : Nat) (z : C) (D : List Int) (m8 : M), d + b = w → Ext m0 m8 → Li m8 z D → Inc L.length 0 D → fewT c sm L N n D = true → (∀ b', b' < b → fewT c sm L N n (bitsL b') = true → bitsL b' = D ∨ shB D (bitsL b') = true) → R5 [.c z, .c (.int .i64 (b : Int))] m8 := by
    intro d
    induction d with
    | zero =>
      intro b z D m8 hd he hz hi hc hmin
      have b8 := b0.ext he
      refine hstep _ _ _ ⟨trivial, trivial, x, b8.rc (k := 2) rfl, hx.isSl, ?_⟩
      rw [hx.slLen, wrap_small (by omega) (by omega), show ((L.length : Nat) : Int).toNat = L.length from rfl, show (1 : Int) * 2 ^ L.length = ((2 ^ L.length : Nat) : Int) by simp, hw]
      refine ⟨by omega, by omega, by omega, fits_small (by omega) (by omega), ?_⟩
      rw [ifB_dec]
      exact ⟨fun h1 => by omega, fun _ => h z D m8 (x0.trans he) hz hi hc fun b' hb' => hmin b' (by omega)⟩
    | succ d ih =>
      intro b z D m8 hd he hz hi hc hmin
      have b8 := b0.ext he
      have x8 := x0.trans he
      refine hstep _ _ _ ⟨trivial, trivial, x, b8.rc (k := 2) rfl, hx.isSl, ?_⟩
      rw [hx.slLen, wrap_small (by omega) (by omega), show ((L.length : Nat) : Int).toNat = L.length from rfl, show (1 : Int) * 2 ^ L.length = ((2 ^ L.length : Nat) : Int) by simp, hw]
      refine ⟨by omega, by omega, by omega, fits_small (by omega) (by omega), ?_⟩
      rw [ifB_dec]
      refine ⟨fun _ => s66 (by omega) fun z' m11 e11 hz' _ => ⟨z', rfl, ?_⟩, fun h1 => absurd (by omega) h1⟩
      have hbw : b < w := by omega
      have hib := hbi b hbw
      have hlb := inc_len hib
      have hlD := inc_len hi
      have hf : fitsP .i64 ((b : Int) + 1) := fits_small (by omega) (by omega)
      refine s65 hz' (hz.ext e11) (by omega) (by omega) ⟨_, rfl, ?_⟩
      have x11 := x8.trans e11
      rw [ifB_iff]
      refine ⟨fun hs => ?_, fun hs => ⟨hf, ih (b + 1) z D m11 (by omega) (he.trans e11) (hz.ext e11) hi hc fun b' hb' hc' => ?_⟩⟩
      · refine ⟨r, c, x, sm, y, (b8.ext e11).ra, s64 (N := N) (hx.ext x11) hO hP (hzA.ext x11) (by omega) (fun a ha => by have := mem_truN.1 ha; omega) (by omega) fun m22 e22 => ⟨_, rfl, ?_⟩⟩
        have he22 := (he.trans e11).trans e22
        rw [ifB_iff]
        refine ⟨fun hcb => ⟨hf, ih (b + 1) z' (bitsL b) m22 (by omega) he22 (hz'.ext e22) hib ((hd64 b hbw).1 (of_decide_eq_true hcb)) fun b' hb' hc' => ?_⟩, fun hcb => ⟨hf, ih (b + 1) z D m22 (by omega) he22 ((hz.ext e11).ext e22) hi hc fun b' hb' hc' => ?_⟩⟩
        · by_cases hbb : b' = b
          · subst hbb; exact .inl rfl
          · refine .inr ?_
            rcases hmin b' (by omega) hc' with h1 | h1
            · rw [h1]; exact hs
            · exact shB_trans hs h1
        · by_cases hbb : b' = b
          · subst hbb
            exact absurd ((hd64 b' hbw).2 hc') (of_decide_eq_false hcb)
          · exact hmin b' (by omega) hc'
      · by_cases hbb : b' = b
        · subst hbb
          rcases shB_total (bitsL b') D with h1 | h1 | h1
          · exact .inl h1
          · rw [hs] at h1; cases h1
          · exact .inr h1
        · exact hmin b' (by omega) hc'
  exact hgo w 0 z3 _ m3 (by omega) e3 hz3 hfi hfl (fun b' hb' => by omega)
theorem s6 {r c sm n : Int} {x y : C} {L : List Int} {N : List Cnt} {m : M} {Q : V → M → Prop} (hx : Li m x L) (hy : Lc m y N) (h : ∀ m', Q (.c (.bool true)) m') :
    Wc prog tbl 6 [.agg 5 [.int .i64 r, .int .i64 c, x, .int .i64 sm, y], .c (.int .i64 n)] m Q := by
  have aw : ∀ m' : M, Wc prog tbl 20 [] m' (fun v m1 => ∃ b : Bool, v = .c (.bool b) ∧ Q (.c (.bool b)) m1) := fun m' => s20 ⟨_, rfl, h _⟩
  refine w6 fun m0 e0 => ?_
  obtain ⟨b0, x0⟩ := Bk.new e0
  refine ⟨r, c, x, sm, y, b0.ra, s19 (hx.ext x0) (hy.ext x0) fun m7 e7 => ⟨_, rfl, ?_⟩⟩
  have x7 := x0.trans e7
  have b7 := b0.ext e7
  rw [ifB_ndec]
  refine ⟨fun _ => aw _, fun hthin => ?_⟩
  have hL : L.length ≤ 12 := hthin.1
  have hN : N.length ≤ 9 := hthin.2
  refine ⟨r, c, x, sm, y, b7.ra, s33 (hx.ext x7) (by omega) (hy.ext x7) (by omega) fun xa ya m18 e18 hxa hya => ⟨r, c, xa, sm, ya, rfl, s48 hxa (by omega) hya (by omega) fun m25 e25 => ⟨_, _, rfl, ?_⟩⟩⟩
  have x25 := (x7.trans e18).trans e25
  have b25 := (b7.ext e18).ext e25
  refine ⟨r, c, x, sm, y, b25.ra, s33 (hx.ext x25) (by omega) (hy.ext x25) (by omega) fun xb yb m34 e34 hxb hyb => ⟨r, c, xb, sm, yb, rfl, s49 hxb (by omega) hyb (by omega) fun zf m41 e41 hzf => ⟨zf, _, rfl, ?_⟩⟩⟩
  have x41 := (x25.trans e34).trans e41
  have b41 := (b25.ext e34).ext e41
  have hE : ∀ i, i = decide (0 ≤ n ∧ n ≤ 100) → (svErr r c L sm N ≠ 0 → askErr r c L sm N i = svErr r c L sm N) ∧ (svErr r c L sm N = 0 → i = false → askErr r c L sm N i = 2) ∧ (svErr r c L sm N = 0 → i = true → askErr r c L sm N i = trueErr r c L sm N) := fun i _ => by
    unfold askErr
    exact ⟨fun h1 => by rw [if_neg h1], fun h1 h2 => by rw [if_pos h1, h2]; rfl, fun h1 h2 => by rw [if_pos h1, h2]; rfl⟩
  obtain ⟨hE1, hE2, hE3⟩ := hE _ rfl
  have hbadA : askErr r c L sm N (decide (0 ≤ n ∧ n ≤ 100)) ≠ 0 → aboveV r c L sm N n = 0 ∧ fewL r c sm L N n = [] := fun hne => by
    unfold aboveV fewL
    rw [if_neg hne, if_neg hne]; exact ⟨rfl, rfl⟩
  refine ⟨r, c, x, sm, y, b41.ra, s43 (hx.ext x41) (by omega) (hy.ext x41) (by omega) (fun hne m50 e50 => ⟨.sl0, _, rfl, ?_⟩) fun hz0 z m50 e50 hz => ⟨z, 0, rfl, ?_⟩⟩
  · rw [sure_true] at hne ⊢
    have x50 := x41.trans e50
    refine ⟨r, c, x, sm, y, (b41.ext e50).ra, s36 (hx.ext x50) (by omega) (hy.ext x50) (by omega) fun m59 e59 => ⟨_, rfl, ?_⟩⟩
    have hzf59 := (hzf.ext e50).ext e59
    have hane : askErr r c L sm N (decide (0 ≤ n ∧ n ≤ 100)) ≠ 0 := fun h0 => hne (ask_zero h0).2
    obtain ⟨hav, hfw⟩ := hbadA hane
    rw [hfw] at hzf59
    rw [hav]
    rw [ifB_dec]
    refine ⟨fun hv => s44 ⟨_, rfl, ?_⟩, fun hv => ?_⟩
    · rw [ifB_ndec]
      refine ⟨fun hout => ?_, fun hin => ?_⟩
      · rw [hE2 hv (decide_eq_false hout)]
        show isSl zf ∧ _
        refine ⟨hzf59.isSl, ?_⟩
        rw [hzf59.slLen]
        exact aw _
      · rw [hE3 hv (decide_eq_true hin), ifB_ndec]
        refine ⟨fun _ => ?_, fun h1 => absurd h1 hne⟩
        rw [ifB_dec]
        refine ⟨fun _ => ?_, fun h1 => absurd rfl h1⟩
        rw [ifB_dec]
        refine ⟨fun _ => ?_, fun h1 => absurd rfl h1⟩
        refine ⟨hzf59.isSl, ?_⟩
        rw [hzf59.slLen]
        exact aw _
    · have ht : trueErr r c L sm N = svErr r c L sm N := by unfold trueErr; rw [if_neg hv]
      rw [hE1 hv, ht, ifB_ndec]
      refine ⟨fun _ => ?_, fun h1 => absurd h1 hv⟩
      rw [ifB_dec]
      refine ⟨fun _ => ?_, fun h1 => absurd rfl h1⟩
      rw [ifB_dec]
      refine ⟨fun _ => ?_, fun h1 => absurd rfl h1⟩
      refine ⟨hzf59.isSl, ?_⟩
      rw [hzf59.slLen]
      exact aw _
  · rw [sure_true] at hz0
    have x50 := x41.trans e50
    obtain ⟨hv, hpos⟩ := true_sv hz0
    obtain ⟨hO, _⟩ := okay_of hv
    obtain ⟨hS, hL9, hrc⟩ := field_of hO.f
    obtain ⟨t1, t2⟩ := truN_bd hv
    refine ⟨r, c, x, sm, y, (b41.ext e50).ra, s36 (hx.ext x50) (by omega) (hy.ext x50) (by omega) fun m59 e59 => ⟨_, rfl, ?_⟩⟩
    have hzf59 := (hzf.ext e50).ext e59
    have b59 := (b41.ext e50).ext e59
    have x59 := x50.trans e59
    have hz59 := hz.ext e59
    rw [ifB_dec]
    refine ⟨fun _ => s44 ⟨_, rfl, ?_⟩, fun h1 => absurd hv h1⟩
    rw [ifB_ndec]
    refine ⟨fun hout => ?_, fun hin => ?_⟩
    · have h2 := hE2 hv (decide_eq_false hout)
      obtain ⟨hav, hfw⟩ := hbadA (by rw [h2]; decide)
      rw [hfw] at hzf59
      rw [h2, hav]
      show isSl zf ∧ _
      refine ⟨hzf59.isSl, ?_⟩
      rw [hzf59.slLen]
      exact aw _
    · have h0 : askErr r c L sm N (decide (0 ≤ n ∧ n ≤ 100)) = 0 := by rw [hE3 hv (decide_eq_true hin)]; exact hz0
      rw [h0]
      show ∃ x70 x71 : Int, _
      have hD : ∀ v ∈ (truthsP c sm L N).map (shareOf L), 0 ≤ v ∧ v ≤ 100000 := fun v hv' => by
        obtain ⟨H, h1, rfl⟩ := List.mem_map.1 hv'
        exact share_bd hS hL9 (truth_of hO.f h1)
      have hlp : 0 < ((truthsP c sm L N).map (shareOf L)).length := by rw [List.length_map]; exact hpos
      obtain ⟨q1, q2⟩ := bounds_eq hlp (same_nums hv (shareOf L)) hD
      refine ⟨r, c, x, sm, y, b59.ra, s46 (hx.ext x59) hO.f hz59 t1 t2 fun m76 e76 => ⟨_, _, rfl, s50 fun m80 e80 => ⟨_, rfl, ?_⟩⟩⟩
      rw [q1, q2]
      have hav : aboveV r c L sm N n = verd (loOf ((truthsP c sm L N).map (shareOf L))) (hiOf ((truthsP c sm L N).map (shareOf L))) n := by unfold aboveV verd; rw [if_pos h0]
      rw [hav, ifB_dec]
      refine ⟨fun _ => ?_, fun h1 => absurd rfl h1⟩
      have x80 := (x59.trans e76).trans e80
      refine ⟨r, c, x, sm, y, ((b59.ext e76).ext e80).ra, s51 (hx.ext x80) hv ((hz59.ext e76).ext e80) fun z2 D m88 e88 hz2 hi hc hmin => ⟨z2, rfl, ?_⟩⟩
      obtain ⟨p1, p2, p3⟩ := few_spec (n := n) hz0 hin
      have hDe : D = fewL r c sm L N n := by
        rcases p3 D hi hc with h1 | h1
        · exact h1
        · obtain ⟨b, hb1, hb2⟩ := inc_bits (n := L.length) (by omega) p1
          rcases hmin b hb1 (by rw [hb2]; exact p2) with h2 | h2
          · rw [← h2, hb2]
          · rw [hb2] at h2
            rw [shB_asym h1] at h2; cases h2
      subst hDe
      have hlen := inc_len p1
      exact s29 (((hzf59.ext e76).ext e80).ext e88) hz2 (by omega) ⟨_, rfl, aw _⟩
end
end Go.Proofs.Ytgkjfhkjgdiodaa

namespace Go.Proofs.Ytgkjfhkjgdiodaa
open _root_.Go.Proofs.Try
open Go.Abs
set_option maxRecDepth 100000
noncomputable section
theorem lor_eq (a b : Nat) : Nat.lor a b = a ||| b := rfl
end
end Go.Proofs.Ytgkjfhkjgdiodaa

namespace Go.Proofs.Ytgkjfhkjgdiodaa
open _root_.Go.Proofs.Try
open Go.Abs
set_option maxRecDepth 100000
noncomputable section
/-- a count that says what the truth H has at a place -/
def known (H : List Int) (d : Int) : Cnt := ⟨d, H[d.toNat]!, H[d.toNat]!, false⟩
theorem known_truth {c sm : Int} {L D H H' : List Int} {N : List Cnt} (h : TruthR c sm L (N ++ D.map (known H)) H') : TruthR c sm L N H' ∧ ∀ v ∈ D, H'[v.toNat]! = H[v.toNat]! := by
  refine ⟨⟨h.1, h.2.1, fun n hn => h.2.2 n (List.mem_append.2 (.inl hn))⟩, fun v hv => ?_⟩
  have := h.2.2 (known H v) (List.mem_append.2 (.inr (List.mem_map.2 ⟨v, hv, rfl⟩))) rfl
  have h1 : H[v.toNat]! ≤ H'[v.toNat]! ∧ H'[v.toNat]! ≤ H[v.toNat]! := this
  omega
theorem known_self {c sm : Int} {L D H : List Int} {N : List Cnt} (h : TruthR c sm L N H) : TruthR c sm L (N ++ D.map (known H)) H := by
  refine ⟨h.1, h.2.1, fun n hn => ?_⟩
  rcases List.mem_append.1 hn with h1 | h1
  · exact h.2.2 n h1
  · obtain ⟨v, _, rfl⟩ := List.mem_map.1 h1
    exact fun _ => ⟨Int.le_refl _, Int.le_refl _⟩
theorem known_above {r c sm n : Int} {L H : List Int} {N : List Cnt} (ht : trueErr r c L sm N = 0) (hn : 0 ≤ n ∧ n ≤ 100) (hT : TruthR c sm L N H) (hv' : svErr r c L sm (N ++ (fewL r c sm L N n).map (known H)) = 0) :
    askErr r c L sm (N ++ (fewL r c sm L N n).map (known H)) (decide (0 ≤ n ∧ n ≤ 100)) = 0 ∧ aboveV r c L sm (N ++ (fewL r c sm L N n).map (known H)) n = if n ≤ shareOf L H then 1 else 2 := by
  obtain ⟨hv, _⟩ := true_sv ht
  obtain ⟨p1, p2, _⟩ := few_spec (n := n) ht hn
  have p3 := (few_iff hv p1).1 p2
  have ht' := (true_ex hv').2 ⟨H, known_self hT⟩
  have ha : askErr r c L sm (N ++ (fewL r c sm L N n).map (known H)) (decide (0 ≤ n ∧ n ≤ 100)) = 0 := by rw [ask_in hv' hn]; exact ht'
  refine ⟨ha, ?_⟩
  have hpos := (true_sv ht').2
  have hlp : 0 < ((truthsP c sm L (N ++ (fewL r c sm L N n).map (known H))).map (shareOf L)).length := by rw [List.length_map]; exact hpos
  unfold aboveV
  rw [if_pos ha]
  obtain ⟨l1, _⟩ := lo_spec hlp
  obtain ⟨g1, _⟩ := hi_spec hlp
  obtain ⟨A, hA, hAe⟩ := List.mem_map.1 l1
  obtain ⟨B, hB, hBe⟩ := List.mem_map.1 g1
  obtain ⟨A1, A2⟩ := known_truth ((mem_P hv').1 hA)
  obtain ⟨B1, B2⟩ := known_truth ((mem_P hv').1 hB)
  rw [← hAe, ← hBe]
  by_cases h1 : n ≤ shareOf L H
  · rw [if_pos h1, if_pos]
    rcases Int.lt_or_le (shareOf L A) n with h2 | h2
    · exact absurd (fun v hv => (A2 v hv).symm) (p3 H A hT A1 h1 h2)
    · exact h2
  · have hlt : ∀ E, TruthR c sm L N E → (∀ v ∈ fewL r c sm L N n, E[v.toNat]! = H[v.toNat]!) → shareOf L E < n := fun E hE hE2 => by
      rcases Int.lt_or_le (shareOf L E) n with h2 | h2
      · exact h2
      · exact absurd hE2 (p3 E H hE hT h2 (by omega))
    have hA3 := hlt A A1 A2
    rw [if_neg h1, if_neg (by omega), if_pos (hlt B B1 B2)]
theorem tail13 {r c sm a200 a300 n : Int} {x y c26 c55 : C} {L D : List Int} {N : List Cnt} {m m68 : M} {Q : V → M → Prop} (hx : Li m68 x L) (hy : Lc m68 y N) (hb : Bk m68 m.nxt 5 [.int .i64 r, .int .i64 c, x, .int .i64 sm, y]) (hD : Li m68 c26 D) (hDe : D = fewL r c sm L N n)
    (hA : Li m68 c55 (truN c sm L N)) (ht : trueErr r c L sm N = 0) (h2 : 0 ≤ a200 ∧ a200 ≤ 65535) (hn : wrapZ .i64 a300 % 101 = n) (hn2 : 0 ≤ n ∧ n ≤ 100) (aw : ∀ m', Q (.c (.bool true)) m') :
    (isPt (C.ptr (m).nxt 0) ∧ (∃ x155 : Int, (∃ x156 : Int, (∃ c157 : C, (((ldA m68 (C.ptr (m).nxt 0) 3) = (Option.some [(C.int IntKind.i64 x155), (C.int IntKind.i64 x156), c157])) ∧ (isSl c55 ∧ (((0 : Int) ≤ (wrapZ IntKind.i64 a200)) ∧ (((0 : Int) < (((slLen c55) : Nat) : Int)) ∧ (fitsP IntKind.i64 ((wrapZ IntKind.i64 a200) % (((slLen c55) : Nat) : Int)) ∧ (∃ n158 : Nat, ((((wrapZ IntKind.i64 a200) % (((slLen c55) : Nat) : Int)) = ((n158 : Nat) : Int)) ∧ ((n158 < (slLen c55)) ∧ (∃ x159 : Int, (((ldC m68 (slAt c55 (n158 * 1))) = (Option.some (C.int IntKind.i64 x159))) ∧ (Wc prog tbl 67 [(V.agg 3 [(C.int IntKind.i64 x155), (C.int IntKind.i64 x156), c157]), (V.c (C.int IntKind.i64 x159))] m68 (fun v160 m161 => (∃ c162 : C, ((v160 = (V.c c162)) ∧ (∃ x163 : Int, (∃ x164 : Int, (∃ c165 : C, (∃ x166 : Int, (∃ c167 : C, (((ldA m161 (C.ptr (m).nxt 0) 5) = (Option.some [(C.int IntKind.i64 x163), (C.int IntKind.i64 x164), c165, (C.int IntKind.i64 x166), c167])) ∧ (∀ m168 : M, ((m168 = (M.new m161 (AO.cells 5 [(C.int IntKind.i64 (0 : Int)), (C.int IntKind.i64 (0 : Int)), C.sl0, (C.int IntKind.i64 (0 : Int)), C.sl0] false))) → (∃ m169 : M, (((stC m168 (C.ptr (m161).nxt 0) 5 [(C.int IntKind.i64 x163), (C.int IntKind.i64 x164), c165, (C.int IntKind.i64 x166), c167]) = (Option.some m169)) ∧ (∀ m170 : M, ((m170 = (M.new m169 (AO.cells 0 [] false))) → (isPt (C.ptr (m).nxt 0) ∧ (∃ c171 : C, (((ldC m170 (C.ptr (m).nxt 4)) = (Option.some c171)) ∧ (∃ c172 : C, (∃ m173 : M, ((ApR prog 27 m170 (C.sl (m169).nxt 0 0 0 (Option.some 0)) c171 c172 m173) ∧ (isPt (C.ptr (m161).nxt 0) ∧ (∃ m174 : M, (((stC m173 (C.ptr (m161).nxt 4) 1 [c172]) = (Option.some m174)) ∧ (∀ R175 : List V → M → Prop, ((∀ x176 : Int, (∀ m177 : M, ((isSl c26 ∧ (ifB (decide (x176 < (((slLen c26) : Nat) : Int))) (isPt (C.ptr (m161).nxt 0) ∧ (∃ c178 : C, (((ldC m177 (C.ptr (m161).nxt 4)) = (Option.some c178)) ∧ (∃ n179 : Nat, ((x176 = ((n179 : Nat) : Int)) ∧ ((n179 < (slLen c26)) ∧ (∃ x180 : Int, (((ldC m177 (slAt c26 (n179 * 1))) = (Option.some (C.int IntKind.i64 x180))) ∧ (∃ n181 : Nat, ((x176 = ((n181 : Nat) : Int)) ∧ ((n181 < (slLen c26)) ∧ (∃ x182 : Int, (((ldC m177 (slAt c26 (n181 * 1))) = (Option.some (C.int IntKind.i64 x182))) ∧ (∃ n183 : Nat, ((x182 = ((n183 : Nat) : Int)) ∧ ((n183 < (slLen c162)) ∧ (∃ x184 : Int, (((ldC m177 (slAt c162 (n183 * 1))) = (Option.some (C.int IntKind.i64 x184))) ∧ (∃ n185 : Nat, ((x176 = ((n185 : Nat) : Int)) ∧ ((n185 < (slLen c26)) ∧ (∃ x186 : Int, (((ldC m177 (slAt c26 (n185 * 1))) = (Option.some (C.int IntKind.i64 x186))) ∧ (∃ n187 : Nat, ((x186 = ((n187 : Nat) : Int)) ∧ ((n187 < (slLen c162)) ∧ (∃ x188 : Int, (((ldC m177 (slAt c162 (n187 * 1))) = (Option.some (C.int IntKind.i64 x188))) ∧ (∀ m189 : M, ((m189 = (M.new m177 (AO.cells 4 [(C.int IntKind.i64 x180), (C.int IntKind.i64 x184), (C.int IntKind.i64 x188), (C.bool false)] false))) → ((ifB (noFnC c178) ((ldC m189 (C.ptr (m161).nxt 4)) = (Option.some c178)) False) ∧ (∃ c190 : C, (∃ m191 : M, ((ApR prog 27 m189 c178 (C.sl (m177).nxt 0 1 0 (Option.some 1)) c190 m191) ∧ (isPt (C.ptr (m161).nxt 0) ∧ (∃ m192 : M, (((stC m191 (C.ptr (m161).nxt 4) 1 [c190]) = (Option.some m192)) ∧ (fitsP IntKind.i64 (x176 + (1 : Int)) ∧ (R175 [(V.c (C.int IntKind.i64 (x176 + (1 : Int))))] m192))))))))))))))))))))))))))))))))))))))) (∃ x193 : Int, (∃ x194 : Int, (∃ c195 : C, (∃ x196 : Int, (∃ c197 : C, (((ldA m177 (C.ptr (m161).nxt 0) 5) = (Option.some [(C.int IntKind.i64 x193), (C.int IntKind.i64 x194), c195, (C.int IntKind.i64 x196), c197])) ∧ (Wc prog tbl 58 [(V.agg 5 [(C.int IntKind.i64 x193), (C.int IntKind.i64 x194), c195, (C.int IntKind.i64 x196), c197])] m177 (fun v198 m199 => (∃ b200 : Bool, ((v198 = (V.c (C.bool b200))) ∧ (ifB (!b200) (Wc prog tbl 20 [] m199 (fun v201 m202 => (∃ b203 : Bool, ((v201 = (V.c (C.bool b203))) ∧ (Q (V.c (C.bool b203)) m202))))) (∃ x204 : Int, (∃ x205 : Int, (∃ c206 : C, (∃ x207 : Int, (∃ c208 : C, (((ldA m199 (C.ptr (m161).nxt 0) 5) = (Option.some [(C.int IntKind.i64 x204), (C.int IntKind.i64 x205), c206, (C.int IntKind.i64 x207), c208])) ∧ (Wc prog tbl 33 [(V.agg 5 [(C.int IntKind.i64 x204), (C.int IntKind.i64 x205), c206, (C.int IntKind.i64 x207), c208])] m199 (fun v209 m210 => (∃ x211 : Int, (∃ x212 : Int, (∃ c213 : C, (∃ x214 : Int, (∃ c215 : C, ((v209 = (V.agg 5 [(C.int IntKind.i64 x211), (C.int IntKind.i64 x212), c213, (C.int IntKind.i64 x214), c215])) ∧ (Wc prog tbl 48 [(V.agg 5 [(C.int IntKind.i64 x211), (C.int IntKind.i64 x212), c213, (C.int IntKind.i64 x214), c215]), (V.c (C.int IntKind.i64 ((wrapZ IntKind.i64 a300) % (101 : Int))))] m210 (fun v216 m217 => (∃ x218 : Int, (∃ x219 : Int, ((v216 = (V.tup [(U.c (C.int IntKind.i64 x218)), (U.c (C.int IntKind.i64 x219))])) ∧ (isPt (C.ptr (m).nxt 0) ∧ (∃ x220 : Int, (∃ x221 : Int, (∃ c222 : C, (((ldA m217 (C.ptr (m).nxt 0) 3) = (Option.some [(C.int IntKind.i64 x220), (C.int IntKind.i64 x221), c222])) ∧ (Wc prog tbl 40 [(V.agg 3 [(C.int IntKind.i64 x220), (C.int IntKind.i64 x221), c222]), (V.c c162)] m217 (fun v223 m224 => (∃ x225 : Int, ((v223 = (V.c (C.int IntKind.i64 x225))) ∧ (ifB (decide (((wrapZ IntKind.i64 a300) % (101 : Int)) ≤ x225)) (ifB (decide (x219 = (0 : Int))) (ifB (decide (x218 = (1 : Int))) (Wc prog tbl 20 [] m224 (fun v226 m227 => (∃ b228 : Bool, ((v226 = (V.c (C.bool b228))) ∧ (Q (V.c (C.bool b228)) m227))))) (Q (V.c (C.bool false)) m224)) (Q (V.c (C.bool false)) m224)) (ifB (decide (x219 = (0 : Int))) (ifB (decide (x218 = (2 : Int))) (Wc prog tbl 20 [] m224 (fun v229 m230 => (∃ b231 : Bool, ((v229 = (V.c (C.bool b231))) ∧ (Q (V.c (C.bool b231)) m230))))) (Q (V.c (C.bool false)) m224)) (Q (V.c (C.bool false)) m224)))))))))))))))))))))))))))))))))))))))))))) → (R175 [(V.c (C.int IntKind.i64 x176))] m177)))) → (R175 [(V.c (C.int IntKind.i64 (0 : Int)))] m174)))))))))))))))))))))))))))))))))))))))))) := by
  obtain ⟨hv, hpos⟩ := true_sv ht
  obtain ⟨hO, hsm⟩ := okay_of hv
  obtain ⟨hS, hL, hrc⟩ := field_of hO.f
  have hN := hO.n
  obtain ⟨t1, t2⟩ := truN_bd hv
  have hP := few_truths hv
  have hAl : 0 < (truN c sm L N).length := by
    obtain ⟨H, hT⟩ := (true_ex hv).1 ht
    obtain ⟨j, j1, j2, j3⟩ := nth_surj hS (listed_lst.1 hT.1)
    exact List.length_pos_of_mem (mem_truN.2 ⟨j1, j2, by rw [j3]; exact truthR_true hT⟩)
  obtain ⟨p1, p2, _⟩ := few_spec (n := n) ht hn2
  have hka : ∀ H, TruthR c sm L N H → svErr r c L sm (N ++ D.map (known H)) = 0 → askErr r c L sm (N ++ D.map (known H)) (decide (0 ≤ n ∧ n ≤ 100)) = 0 ∧ aboveV r c L sm (N ++ D.map (known H)) n = if n ≤ shareOf L H then 1 else 2 := fun H hT => by
    rw [hDe]; exact known_above ht hn2 hT
  rw [← hDe] at p1
  have hDl := inc_len p1
  clear hDe p2
  rw [wrap_sm h2.1 (by omega), hn]
  obtain ⟨k, hk⟩ : ∃ k : Nat, a200 % ((truN c sm L N).length : Int) = (k : Int) := ⟨(a200 % ((truN c sm L N).length : Int)).toNat, by have := Int.emod_nonneg a200 (b := ((truN c sm L N).length : Int)) (by omega); omega⟩
  have hkA : k < (truN c sm L N).length := by have := Int.emod_lt_of_pos a200 (b := ((truN c sm L N).length : Int)) (by omega); omega
  refine ⟨trivial, r, c, x, hb.rp (k := 0) (j := 3) rfl (by omega), hA.isSl, ?_⟩
  rw [hA.slLen, hk]
  have hat := mem_truN.1 (List.getElem_mem hkA)
  have hTr : TruthR c sm L N (nthL L (truN c sm L N)[k]) := truthR_iff.1 hat.2.2
  refine ⟨h2.1, by omega, fits_small (by omega) (by omega), k, rfl, hkA, _, Li.rd hA (List.getElem?_eq_getElem hkA), s67 hx hS (by omega) ⟨hat.1, by omega⟩ fun z m1 e1 hz _ => ⟨z, rfl, ?_⟩⟩
  generalize nthL L (truN c sm L N)[k] = H at hz hTr
  have hHl := listed_len hTr.1
  have hHS : Small H := small_listed hS hTr.1
  have b1 := hb.ext e1
  refine ⟨r, c, x, sm, y, b1.ra, fun m2 h2' => ?_⟩
  obtain ⟨k2, x2⟩ := Bk.new h2'
  have n2 : m2.nxt = m1.nxt + 1 := by rw [h2']; rfl
  obtain ⟨m3, h3, k3, s3⟩ := k2.sto [.int .i64 r, .int .i64 c, x, .int .i64 sm, y]
  have X3 : Ext m1 m3 := x2.st1 s3 (Nat.le_refl _)
  have n3 := s3.nxt
  refine ⟨m3, h3, fun m4 h4 => ?_⟩
  obtain ⟨o4, x4⟩ := Own1.lit0 (k := 4) h4
  have n4 : m4.nxt = m3.nxt + 1 := by rw [h4]; rfl
  have X4 := X3.trans x4
  obtain ⟨c5, m5, a1, o5, a3, a4, a5, a6⟩ := ap_any t27 g94 z94 (by omega) o4 (hy.ext (e1.trans X4)) (by omega)
  rw [List.nil_append, Nat.zero_add] at o5
  have x5 : Ext m4 m5 := ⟨a3, fun b' hb' => a5 b' hb' (by intro hq; cases hq), a4⟩
  have hc5 : Fr m2 c5 := fun b' o n s d hq => by
    rcases a6 with h1 | h1
    · have := h1 b' o n s d hq; omega
    · rw [h1] at hq; cases hq; omega
  refine ⟨trivial, y, (b1.ext X4).rc (k := 4) rfl, c5, m5, a1, trivial, ?_⟩
  obtain ⟨m6, h6, k6, s6⟩ := ((k3.ext x4).ext x5).sto1 4 c5 (by show 4 < 5; omega) rfl
  have k6' : Bk m6 m1.nxt 5 [.int .i64 r, .int .i64 c, x, .int .i64 sm, c5] := k6
  have X6 : Ext m1 m6 := ((X4.trans x5)).st1 s6 (Nat.le_refl _)
  have o6 := o5.keep1 s6 (fun b' s d hq => by have := hc5 _ _ _ _ _ hq; omega)
  refine ⟨m6, h6, fun R hstep => ?_⟩
  clear k2 k3 k6 o4 o5 h2' h3 h4 h6 a1
  have hgo : ∀ (d i : Nat) (cur : C) (m7 : M), d + i = D.length → Ext m1 m7 → Bk m7 m1.nxt 5 [.int .i64 r, .int .i64 c, x, .int .i64 sm, cur] → Own1 m7 4 cur (cnts (N ++ (D.take i).map (known H))) (N.length + i) → Fr m2 cur → R [.c (.int .i64 (i : Int))] m7 := by
    intro d
    induction d with
    | zero =>
      intro i cur m7 hd he kT oC hf
      have e7 := e1.trans he
      refine hstep _ _ ⟨hD.isSl, ?_⟩
      rw [hD.slLen, ifB_dec]
      refine ⟨fun h1 => by omega, fun _ => ?_⟩
      rw [List.take_of_length_le (by omega)] at oC
      have hNl : (N ++ D.map (known H)).length = N.length + i := by rw [List.length_append, List.length_map]; omega
      have hlc : Lc m7 cur (N ++ D.map (known H)) := by
        have := oC.ls
        unfold Lc
        rw [hNl]; exact this
      have hka' := hka H hTr
      generalize N ++ D.map (known H) = N' at hNl hlc hka'
      refine ⟨r, c, x, sm, cur, kT.ra, s58 (hx.ext e7) hlc fun m8 e8 => ⟨_, rfl, ?_⟩⟩
      rw [ifB_ndec]
      refine ⟨fun _ => s20 ⟨_, rfl, aw _⟩, fun hv' => ?_⟩
      obtain ⟨q1, q2⟩ := hka' hv'
      have e78 := e7.trans e8
      refine ⟨r, c, x, sm, cur, (kT.ext e8).ra, s33 (hx.ext e78) (by omega) (hlc.ext e8) (by omega) fun xa ya m9 e9 hxa hya => ⟨r, c, xa, sm, ya, rfl, s48 hxa (by omega) hya (by omega) fun m10 e10 => ⟨_, _, rfl, ?_⟩⟩⟩
      have e710 := (e78.trans e9).trans e10
      have he10 := ((he.trans e8).trans e9).trans e10
      refine ⟨trivial, r, c, x, (hb.ext e710).rp (k := 0) (j := 3) rfl (by omega), s40 (hx.ext e710) hS (by omega) (hz.ext he10) hHS hHl fun m11 e11 => ⟨_, rfl, ?_⟩⟩
      rw [q1, q2, ifB_dec]
      refine ⟨fun h1 => ?_, fun h1 => ?_⟩
      · rw [if_pos h1]
        exact ifB_dec.2 ⟨fun _ => ifB_dec.2 ⟨fun _ => s20 ⟨_, rfl, aw _⟩, fun h => absurd rfl h⟩, fun h => absurd rfl h⟩
      · rw [if_neg h1]
        exact ifB_dec.2 ⟨fun _ => ifB_dec.2 ⟨fun _ => s20 ⟨_, rfl, aw _⟩, fun h => absurd rfl h⟩, fun h => absurd rfl h⟩
    | succ d ih =>
      intro i cur m7 hd he kT oC hf
      have e7 := e1.trans he
      have hi : i < D.length := by omega
      have hDi := p1.2 _ (List.getElem_mem hi)
      obtain ⟨dn, hdn⟩ : ∃ dn : Nat, D[i] = (dn : Int) := ⟨D[i].toNat, by omega⟩
      have hdH : dn < H.length := by omega
      refine hstep _ _ ⟨hD.isSl, ?_⟩
      rw [hD.slLen, ifB_dec]
      refine ⟨fun _ => ?_, fun h1 => absurd (by omega) h1⟩
      have rd := Li.rd (hD.ext e7) (List.getElem?_eq_getElem hi)
      have rd2 := Li.rd (hz.ext he) (List.getElem?_eq_getElem hdH)
      have hsz : dn < slLen z := by rw [hz.slLen]; exact hdH
      refine ⟨trivial, cur, kT.rc (k := 4) rfl, i, rfl, hi, _, rd, i, rfl, hi, _, rd, dn, hdn, hsz, _, rd2, i, rfl, hi, _, rd, dn, hdn, hsz, _, rd2, fun m8 h8 => ?_⟩
      obtain ⟨c9, m9, q1, q2, q3, q4, q5, q6⟩ := ap_one t27 g94 z94 (by omega) oC (ws := Cnt.cs ⟨D[i], H[dn], H[dn], false⟩) rfl (by omega) h8
      rw [oC.ls.noFn, ifB_true]
      have hlt := kT.lt
      have k9 : Bk m9 m1.nxt 5 [.int .i64 r, .int .i64 c, x, .int .i64 sm, cur] := ⟨(q6 _ hlt (hf.ne (by omega))).trans kT.g, Nat.lt_of_lt_of_le hlt q4⟩
      have x9 : Ext m1 m9 := ⟨Nat.le_trans he.nxt q4, fun b hb => (q6 b (by have := he.nxt; omega) (hf.ne (by omega))).trans (he.g b hb), q5.trans he.vw⟩
      obtain ⟨m10, h10, k10, s10⟩ := k9.sto1 4 c9 (by show 4 < 5; omega) rfl
      refine ⟨(kT.ext (Bk.new h8).2).rc (k := 4) rfl, c9, m9, q1, trivial, m10, h10, fits_small (by omega) (by omega), ih (i + 1) c9 m10 (by omega) (x9.st1 s10 (Nat.le_refl _)) k10 ?_ (q3.mono (by omega))⟩
      have hkn : (⟨D[i], H[dn], H[dn], false⟩ : Cnt) = known H D[i] := by
        unfold known
        rw [hdn, Int.toNat_natCast, getElem!_pos H dn hdH]
      rw [hkn, cnts_app, List.append_assoc] at q2
      have hta : (D.take i).map (known H) ++ [known H D[i]] = (D.take (i + 1)).map (known H) := by
        rw [List.take_add_one, List.getElem?_eq_getElem hi, List.map_append]; rfl
      rw [hta] at q2
      exact q2.keep1 s10 (fun b' s d hq => by have := q3 _ _ _ _ _ hq; omega)
  refine hgo D.length 0 c5 m6 (by omega) X6 k6' ?_ hc5
  simpa using o6
end
end Go.Proofs.Ytgkjfhkjgdiodaa

namespace Go.Proofs.Ytgkjfhkjgdiodaa
open _root_.Go.Proofs.Try
open Go.Abs
set_option maxRecDepth 100000
noncomputable section
theorem mask_eq {n s : Nat} {D : List Int} (hn : n ≤ 16) (hD : Inc n 0 D) (hs : ∀ k : Nat, s.testBit k = inD D k) : s < 2 ^ n ∧ bitsL s = D := by
  obtain ⟨b, h1, h2⟩ := inc_bits hn hD
  have : s = b := Nat.eq_of_testBit_eq fun j => by
    rw [hs, ← h2]
    unfold inD
    by_cases hj : j < 16
    · cases hb : b.testBit j with
      | true => exact decide_eq_true (mem_bitsF.2 ⟨by omega, by omega, hb⟩)
      | false =>
        refine decide_eq_false fun h3 => ?_
        have := (mem_bitsF.1 h3).2.2
        rw [Int.toNat_natCast, hb] at this
        cases this
    · have h16 : b < 2 ^ j := Nat.lt_of_lt_of_le h1 (Nat.pow_le_pow_right (by omega) (by omega))
      rw [Nat.testBit_lt_two_pow h16]
      exact decide_eq_false fun h3 => by
        have := (mem_bitsF.1 h3).2.1
        omega
  subst this
  exact ⟨h1, h2⟩
open Classical in
theorem s13 {r c sm a u w0 : Int} {x y : C} {L : List Int} {N : List Cnt} {m : M} {Q : V → M → Prop} (hx : Li m x L) (hy : Lc m y N) (hu : 0 ≤ u ∧ u ≤ 65535) (ha : 0 ≤ a ∧ a ≤ 255) (hw0 : 0 ≤ w0 ∧ w0 ≤ 65535) (h : ∀ m', Q (.c (.bool true)) m') :
    Wc prog tbl 13 [.agg 5 [.int .i64 r, .int .i64 c, x, .int .i64 sm, y], .c (.int .u16 u), .c (.int .u8 a), .c (.int .u16 w0)] m Q := by
  have aw : ∀ m' : M, Wc prog tbl 20 [] m' (fun v m1 => ∃ b : Bool, v = .c (.bool b) ∧ Q (.c (.bool b)) m1) := fun m' => s20 ⟨_, rfl, h _⟩
  refine w13 fun m0 e0 => ?_
  obtain ⟨b0, x0⟩ := Bk.new e0
  refine ⟨r, c, x, sm, y, b0.ra, s62 (hx.ext x0) (hy.ext x0) fun m7 e7 => ⟨_, rfl, ?_⟩⟩
  have x7 := x0.trans e7
  have b7 := b0.ext e7
  rw [ifB_ndec]
  refine ⟨fun _ => aw _, fun ht => ?_⟩
  obtain ⟨hv, hpos⟩ := true_sv ht
  obtain ⟨hO, hsm⟩ := okay_of hv
  obtain ⟨hS, hL, hrc⟩ := field_of hO.f
  have hN := hO.n
  have hP := few_truths hv
  have h16 : L.length ≤ 16 := by omega
  obtain ⟨t1, t2⟩ := truN_bd hv
  have hwz : wrapZ .i64 a % 101 = a % 101 := by rw [wrap_sm ha.1 (by omega)]
  have hn : 0 ≤ a % 101 ∧ a % 101 ≤ 100 := by omega
  refine ⟨by rw [wrap_sm ha.1 (by omega)]; exact ha.1, by omega, by rw [hwz]; exact fits_small (by omega) (by omega), ?_⟩
  have htl := fun {c26 c55 : C} {D : List Int} {m68 : M} (A1 : Li m68 x L) (A2 : Lc m68 y N) (A3 : Bk m68 m.nxt 5 [.int .i64 r, .int .i64 c, x, .int .i64 sm, y]) (A4 : Li m68 c26 D) (A5 : D = fewL r c sm L N (a % 101)) (A6 : Li m68 c55 (truN c sm L N)) => tail13 (a200 := u) (a300 := a) (Q := Q) A1 A2 A3 A4 A5 A6 ht hu hwz hn h
  rw [hwz] at htl ⊢
  generalize a % 101 = n at hn htl ⊢
  clear hwz
  refine ⟨r, c, x, sm, y, b7.ra, s33 (hx.ext x7) (by omega) (hy.ext x7) (by omega) fun xa ya m18 e18 hxa hya => ⟨r, c, xa, sm, ya, rfl, s49 hxa (by omega) hya (by omega) fun z m25 e25 hz => ⟨z, _, rfl, ?_⟩⟩⟩
  have x25 := (x7.trans e18).trans e25
  have b25 := (b7.ext e18).ext e25
  rw [ask_in hv hn, ht]
  obtain ⟨q1, q2, q3⟩ := few_spec (n := n) ht hn
  generalize hDe : fewL r c sm L N n = D at hz q1 q2 q3
  have hDl := inc_len q1
  rw [ifB_ndec]
  refine ⟨fun h1 => absurd rfl h1, fun _ R28 hstep => ?_⟩
  have hgo : ∀ (d i s : Nat) (b29 : Bool) (m32 : M), d + i = D.length → Ext m25 m32 → s < 512 → (∀ k : Nat, s.testBit k = inD (D.take i) k) → R28 [.c (.bool b29), .c (.int .i64 (s : Int)), .c (.int .i64 (i : Int))] m32 := by
    intro d
    induction d with
    | zero =>
      intro i s b29 m32 hd he hs hbit
      have x32 := x25.trans he
      have b32 := b25.ext he
      have hz32 := hz.ext he
      rw [List.take_of_length_le (by omega)] at hbit
      obtain ⟨hsb, hsD⟩ := mask_eq h16 q1 hbit
      refine hstep _ _ _ _ ⟨hz.isSl, ?_⟩
      rw [hz.slLen, ifB_dec]
      refine ⟨fun h1 => by omega, fun _ => ⟨trivial, trivial, x, b32.rc (k := 2) rfl, hx.isSl, ?_⟩⟩
      rw [hx.slLen, wrap_small (by omega) (by omega), show ((L.length : Nat) : Int).toNat = L.length from rfl, show (1 : Int) * 2 ^ L.length = ((2 ^ L.length : Nat) : Int) by simp, wrap_sm hw0.1 (by omega)]
      have hp1 : 2 ^ L.length ≤ 512 := Nat.pow_le_pow_right (n := 2) (by omega) hL
      have hp2 : 1 ≤ 2 ^ L.length := Nat.one_le_two_pow
      obtain ⟨t, htn⟩ : ∃ t : Nat, w0 % ((2 ^ L.length : Nat) : Int) = (t : Int) := ⟨(w0 % ((2 ^ L.length : Nat) : Int)).toNat, by have := Int.emod_nonneg w0 (b := ((2 ^ L.length : Nat) : Int)) (by omega); omega⟩
      have ht2 : (t : Int) < ((2 ^ L.length : Nat) : Int) := by rw [← htn]; exact Int.emod_lt_of_pos _ (by omega)
      rw [htn]
      have htw : t < 2 ^ L.length := by exact_mod_cast ht2
      have hdt := decR_few (n := n) hv htw
      have hds := decR_few (n := n) hv hsb
      have hbi : Inc L.length 0 (bitsL t) := bits_inc h16 htw
      have hlb := inc_len hbi
      rw [hsD] at hds
      generalize hw : 2 ^ L.length = w at hp1 hp2 ht2 htw ⊢
      refine ⟨by omega, by omega, by omega, fits_small (by omega) (by omega), hw0.1, by omega, fits_small (by omega) (by omega), r, c, x, sm, y, b32.ra, s63 (hx.ext x32) (hy.ext x32) hv fun zA m54 e54 hzA _ => ⟨zA, rfl, ?_⟩⟩
      have x54 := x32.trans e54
      have b54 := b32.ext e54
      have hA2 : ∀ a ∈ truN c sm L N, 0 ≤ a ∧ a < (prodN L : Int) := fun a ha => by have := mem_truN.1 ha; omega
      refine ⟨r, c, x, sm, y, b54.ra, s64 (N := N) (hx.ext x54) hO hP hzA (by omega) hA2 (by omega) fun m62 e62 => ⟨_, rfl, ?_⟩⟩
      rw [ifB_ndec]
      refine ⟨fun hno => absurd (hds.2 q2) hno, fun _ => s66 (by omega) fun z2 m65 e65 hz2 _ => ⟨z2, rfl, ?_⟩⟩
      have e65' := (e54.trans e62).trans e65
      have x65 := x32.trans e65'
      have b65 := b32.ext e65'
      have hz65 := hz32.ext e65'
      have hzA65 := (hzA.ext e62).ext e65
      refine s65 hz2 hz65 (by omega) (by omega) ⟨_, rfl, ?_⟩
      rw [ifB_iff]
      refine ⟨fun hsh => ⟨r, c, x, sm, y, b65.ra, s64 (N := N) (hx.ext x65) hO hP hzA65 (by omega) hA2 (by omega) fun m76 e76 => ⟨_, rfl, ?_⟩⟩, fun _ => by have q := htl (hx.ext x65) (hy.ext x65) b65 hz65 hDe.symm hzA65; rw [hz.slLen] at q; exact q⟩
      rw [ifB_dec]
      refine ⟨fun hdec => ?_, fun _ => by have q := htl (hx.ext (x65.trans e76)) (hy.ext (x65.trans e76)) (b65.ext e76) (hz65.ext e76) hDe.symm (hzA65.ext e76); rw [hz.slLen] at q; exact q⟩
      exfalso
      rcases q3 (bitsL t) hbi (hdt.1 hdec) with h1 | h1
      · rw [h1, shB_irr] at hsh; cases hsh
      · rw [shB_asym h1] at hsh; cases hsh
    | succ d ih =>
      intro i s b29 m32 hd he hs hbit
      have x32 := x25.trans he
      have b32 := b25.ext he
      have hz32 := hz.ext he
      have hi : i < D.length := by omega
      have hDi := q1.2 _ (List.getElem_mem hi)
      obtain ⟨k, hk⟩ : ∃ k : Nat, D[i] = (k : Int) := ⟨D[i].toNat, by omega⟩
      have hkL : k < L.length := by omega
      refine hstep _ _ _ _ ⟨hz.isSl, ?_⟩
      rw [hz.slLen, ifB_dec]
      refine ⟨fun _ => ?_, fun h1 => absurd (by omega) h1⟩
      have rd := Li.rd hz32 (List.getElem?_eq_getElem hi)
      refine ⟨i, rfl, hi, _, rd, trivial, trivial, x, b32.rc (k := 2) rfl, hx.isSl, ?_⟩
      rw [hx.slLen]
      refine ⟨fits_small (by omega) (by omega), s44 ⟨_, rfl, ?_⟩⟩
      rw [decide_eq_true (show (0 : Int) ≤ D[i] ∧ D[i] ≤ (L.length : Int) - 1 by omega)]
      show ifB (decide ((0 : Int) < (i : Int))) _ _
      have hlt : ∀ h0 : 0 < i, ¬ D[i] ≤ D[i - 1]'(by omega) := fun h0 => by
        have := List.pairwise_iff_getElem.1 q1.1 (i - 1) i (by omega) hi (by omega)
        omega
      refine (fun rest => ifB_dec.2 ⟨fun h0 => ⟨i, rfl, hi, _, rd, fits_small (by omega) (by omega), i - 1, by omega, (by omega : i - 1 < D.length), _, Li.rd hz32 (List.getElem?_eq_getElem (by omega : i - 1 < D.length)), ifB_dec.2 ⟨fun h1 => absurd h1 (hlt (by omega)), fun _ => rest⟩⟩, fun _ => rest⟩) ?_
      refine ⟨i, rfl, hi, _, rd, ?_⟩
      rw [hk, wrap_small (by omega) (by omega), show ((k : Nat) : Int).toNat = k from rfl, show (1 : Int) * 2 ^ k = ((2 ^ k : Nat) : Int) by simp, show ((s : Nat) : Int).toNat = s from rfl, show (((2 ^ k : Nat) : Nat) : Int).toNat = 2 ^ k from rfl, lor_eq]
      have hk2 : 2 ^ k < 2 ^ 9 := Nat.pow_lt_pow_right (by omega) (by omega)
      have hor : s ||| 2 ^ k < 2 ^ 9 := Nat.or_lt_two_pow hs hk2
      have hbit' : ∀ j : Nat, (s ||| 2 ^ k).testBit j = inD (D.take (i + 1)) j := fun j => by
        rw [Nat.testBit_or, hbit, Nat.testBit_two_pow]
        unfold inD
        rw [List.take_add_one, List.getElem?_eq_getElem hi, hk]
        show (decide ((j : Int) ∈ D.take i) || decide (k = j)) = decide ((j : Int) ∈ D.take i ++ [(k : Int)])
        by_cases hj : (j : Int) ∈ D.take i
        · rw [decide_eq_true hj, decide_eq_true (List.mem_append.2 (.inl hj))]; rfl
        · rw [decide_eq_false hj]
          by_cases hkj : k = j
          · rw [decide_eq_true hkj, decide_eq_true (List.mem_append.2 (.inr (by rw [hkj]; exact List.mem_singleton.2 rfl)))]; rfl
          · rw [decide_eq_false hkj, decide_eq_false fun h1 => by
              rcases List.mem_append.1 h1 with h2 | h2
              · exact hj h2
              · have := List.mem_singleton.1 h2; omega]; rfl
      generalize 2 ^ k = w at hk2 hor hbit' ⊢
      generalize s ||| w = s' at hor hbit' ⊢
      exact ⟨by omega, by omega, by omega, fits_small (by omega) (by omega), by omega, by omega, fits_small (by omega) (by omega), fits_small (by omega) (by omega), fits_small (by omega) (by omega), fits_small (by omega) (by omega), ih (i + 1) s' b29 m32 (by omega) he hor hbit'⟩
  exact hgo D.length 0 0 false m25 (by omega) (.refl _) (by omega) fun k => by rw [Nat.zero_testBit]; exact (decide_eq_false (by simp)).symm
end
end Go.Proofs.Ytgkjfhkjgdiodaa

