/- What functions of the program ask and do. Condition: none; a lemma text of this claim. -/
import Derived.Test.YtgkjfhkjgdiodaaSpI
namespace Go.Proofs.Ytgkjfhkjgdiodaa
open _root_.Go.Proofs.Try
open Go.Abs
set_option maxRecDepth 100000
noncomputable section
def nthL : List Int → Int → List Int
  | [], _ => []
  | v :: L, n => n % (v + 1) :: nthL L (n / (v + 1))
theorem nthL_len : ∀ (L : List Int) (n : Int), (nthL L n).length = L.length
  | [], _ => rfl
  | v :: L, n => by show (nthL L _).length + 1 = _; rw [nthL_len L]; rfl
theorem s67 {r c n : Int} {x : C} {L : List Int} {m : M} {Q : V → M → Prop} (hx : Li m x L) (hS : Small L) (hL : L.length ≤ 1000) (hn : 0 ≤ n ∧ n ≤ 100000) (h : ∀ z m', Ext m m' → Li m' z (nthL L n) → Fr m z → Q (.c z) m') :
    Wc prog tbl 67 [.agg 3 [.int .i64 r, .int .i64 c, x], .c (.int .i64 n)] m Q := by
  refine w67 fun m0 e0 R1 hstep => ?_
  obtain ⟨b0, x0⟩ := Bk.new e0
  have hgo : ∀ (d i : Nat) (s : C) (a : Int) (m5 : M) (A : List Int), d + i = L.length → Own1 m5 1 s (ints A) i → Fr m0 s → Ext m0 m5 → 0 ≤ a ∧ a ≤ 100000 → A ++ nthL (L.drop i) a = nthL L n → R1 [.c s, .c (.int .i64 a), .c (.int .i64 (i : Int))] m5 := by
    intro d
    induction d with
    | zero =>
      intro i s a m5 A hd ho hf he ha heq
      refine hstep _ _ _ _ ⟨trivial, x, (b0.ext he).rc rfl, hx.isSl, ?_⟩
      rw [hx.slLen, ifB_dec]
      refine ⟨fun h1 => by omega, fun _ => ?_⟩
      rw [List.drop_eq_nil_of_le (by omega)] at heq
      have hA : A = nthL L n := by rw [← heq]; exact (List.append_nil A).symm
      refine h s m5 (x0.trans he) ?_ (hf.mono x0.nxt)
      have := ho.ls
      rw [hA] at this
      have hl : i = (nthL L n).length := by rw [nthL_len]; omega
      rw [hl] at this
      exact this
    | succ d ih =>
      intro i s a m5 A hd ho hf he ha heq
      refine hstep _ _ _ _ ⟨trivial, x, (b0.ext he).rc rfl, hx.isSl, ?_⟩
      rw [hx.slLen, ifB_dec]
      refine ⟨fun _ => ?_, fun h1 => absurd (by omega) h1⟩
      have hi : i < L.length := by omega
      have hv := small_at hS hi
      have hxe := (hx.ext x0).ext he
      have hm0 := Int.emod_nonneg a (b := L[i] + 1) (by omega)
      have hm1 := Int.emod_lt_of_pos a (b := L[i] + 1) (by omega)
      have hd0 := Int.ediv_nonneg (a := a) (b := L[i] + 1) ha.1 (by omega)
      have hd1 := Int.ediv_le_self (L[i] + 1) ha.1
      refine ⟨trivial, x, (b0.ext he).rc rfl, i, rfl, by rw [hx.slLen]; exact hi, L[i], Li.rd hxe (List.getElem?_eq_getElem hi), fits_small (by omega) (by omega), ha.1, by omega, fits_small (by omega) (by omega), fun m10 h10 => ?_⟩
      obtain ⟨c11, m12, a1, a2, a3, a4, a5, a6⟩ := ap_step t22 g3 z3 (by omega) ho hf he (ws := [.int .i64 (a % (L[i] + 1))]) rfl (by omega) h10
      refine ⟨c11, m12, a1, trivial, x, (b0.ext a4).rc rfl, i, rfl, by rw [hx.slLen]; exact hi, L[i], Li.rd ((hx.ext x0).ext a4) (List.getElem?_eq_getElem hi), fits_small (by omega) (by omega), ha.1, by omega, fits_small (by omega) (by omega), fits_small (by omega) (by omega), ?_⟩
      refine ih (i + 1) c11 _ m12 (A ++ [a % (L[i] + 1)]) (by omega) (by rw [← ints_app]; exact a2) a3 a4 ⟨hd0, by omega⟩ ?_
      rw [← heq, List.drop_eq_getElem_cons hi, List.append_assoc]; rfl
  exact hgo L.length 0 .sl0 n m0 [] (by omega) (Own1.nil' _ _) (Fr.nil _) (.refl _) hn rfl
theorem many_eq : ∀ {L : List Int} {a : Int}, Small L → 0 ≤ a → mulL a L ≤ 4000 → manyL a L = mulL a L
  | [], a, _, _, _ => rfl
  | v :: L, a, h, ha, h4 => by
    have hv := h v (List.mem_cons_self ..)
    have hL : Small L := fun w hw => h w (List.mem_cons_of_mem _ hw)
    have h1 : 0 ≤ a * (v + 1) := Int.mul_nonneg ha (by omega)
    have h2 : a * (v + 1) ≤ mulL (a * (v + 1)) L := mulL_ge hL h1
    have h3 : mulL (a * (v + 1)) L ≤ 4000 := h4
    show manyL (min 4000 (a * (v + 1))) L = mulL (a * (v + 1)) L
    rw [Int.min_eq_right (by omega)]
    exact many_eq hL h1 h3
theorem many_prod {L : List Int} (hS : Small L) (h : prodN L ≤ 2000) : manyL 1 L = (prodN L : Int) := by
  have h1 := mulL_prod L 1 hS
  rw [many_eq hS (by omega) (by omega), h1]; omega
def trN (p : Int → Bool) : Nat → List Int
  | 0 => []
  | n + 1 => trN p n ++ (if p (n : Int) then [(n : Int)] else [])
theorem trN_len (p : Int → Bool) : ∀ n, (trN p n).length ≤ n
  | 0 => Nat.le_refl _
  | n + 1 => by
    show (trN p n ++ _).length ≤ _
    rw [List.length_append]
    have := trN_len p n
    split <;> simp <;> omega
theorem mem_trN (p : Int → Bool) (a : Int) : ∀ n : Nat, a ∈ trN p n ↔ 0 ≤ a ∧ a < (n : Int) ∧ p a = true
  | 0 => ⟨fun h => (by cases h), fun h => by omega⟩
  | n + 1 => by
    show a ∈ trN p n ++ _ ↔ _
    rw [List.mem_append, mem_trN p a n]
    constructor
    · rintro (h | h)
      · exact ⟨h.1, by omega, h.2.2⟩
      · by_cases hp : p (n : Int) = true
        · rw [if_pos hp, List.mem_singleton] at h
          rw [h]; exact ⟨by omega, by omega, hp⟩
        · rw [if_neg hp] at h; cases h
    · rintro ⟨h1, h2, h3⟩
      by_cases ha : a = (n : Int)
      · subst ha; rw [if_pos h3]; exact .inr (List.mem_singleton.2 rfl)
      · exact .inl ⟨h1, by omega, h3⟩
theorem allNF {r c sm : Int} {x y : C} (h1 : noFnC x = true) (h2 : noFnC y = true) : allS noFnC [.int .i64 r, .int .i64 c, x, .int .i64 sm, y] = true := by
  show ifB true (ifB true (ifB (noFnC x) (ifB true (ifB (noFnC y) true false) false) false) false) false = true
  rw [h1, h2]; rfl
theorem allNF3 {r c : Int} {x : C} (h1 : noFnC x = true) : allS noFnC [.int .i64 r, .int .i64 c, x] = true := by
  show ifB true (ifB true (ifB (noFnC x) true false) false) false = true
  rw [h1]; rfl
def truN (c sm : Int) (L : List Int) (N : List Cnt) : List Int := trN (fun n => truthR c sm L N (nthL L n)) (prodN L)
/-- Truths, of the reference -/
theorem s63 {r c sm : Int} {x y : C} {L : List Int} {N : List Cnt} {m : M} {Q : V → M → Prop} (hx : Li m x L) (hy : Lc m y N) (hv : svErr r c L sm N = 0)
    (h : ∀ z m', Ext m m' → Li m' z (truN c sm L N) → Fr m z → Q (.c z) m') : Wc prog tbl 63 [.agg 5 [.int .i64 r, .int .i64 c, x, .int .i64 sm, y], .c (.int .i64 0)] m Q := by
  obtain ⟨hO, hsm⟩ := okay_of hv
  obtain ⟨hS, hL, hrc⟩ := field_of hO.f
  have hP := few_truths hv
  refine w63 fun m0 e0 R1 hstep => ?_
  obtain ⟨b0, x0⟩ := Bk.new e0
  have hgo : ∀ (d i : Nat) (s : C) (m4 : M), d + i = prodN L → Own1 m4 1 s (ints (trN (fun n => truthR c sm L N (nthL L n)) i)) (trN (fun n => truthR c sm L N (nthL L n)) i).length → Fr m0 s → Ext m0 m4 → R1 [.c s, .c (.int .i64 (i : Int))] m4 := by
    intro d
    induction d with
    | zero =>
      intro i s m4 hd ho hf he
      have hi : i = prodN L := by omega
      subst hi
      refine hstep _ _ _ ⟨trivial, r, c, x, (b0.ext he).rp (k := 0) (j := 3) rfl (by omega), s60 ((hx.ext x0).ext he) hS (by omega) fun m9 e9 => ⟨_, rfl, ?_⟩⟩
      rw [many_prod hS hP, ifB_dec]
      refine ⟨fun h1 => by omega, fun _ => h s m9 ((x0.trans he).trans e9) (ho.ls.ext e9) (hf.mono x0.nxt)⟩
    | succ d ih =>
      intro i s m4 hd ho hf he
      refine hstep _ _ _ ⟨trivial, r, c, x, (b0.ext he).rp (k := 0) (j := 3) rfl (by omega), s60 ((hx.ext x0).ext he) hS (by omega) fun m9 e9 => ⟨_, rfl, ?_⟩⟩
      rw [many_prod hS hP, ifB_dec]
      refine ⟨fun _ => ?_, fun h1 => absurd (by omega) h1⟩
      have he9 := he.trans e9
      refine ⟨r, c, x, sm, y, (b0.ext he9).ra, trivial, r, c, x, (b0.ext he9).rp (k := 0) (j := 3) rfl (by omega), s67 ((hx.ext x0).ext he9) hS (by omega) ⟨by omega, by omega⟩ fun z m20 e20 hz _ => ⟨z, rfl, ?_, ?_⟩⟩
      · rw [allNF hx.noFn hy.noFn]; exact (b0.ext (he9.trans e20)).ra
      have he20 := he9.trans e20
      refine s38 ((hx.ext x0).ext he20) ((hy.ext x0).ext he20) hO hsm hz (by rw [nthL_len]; omega) fun m23 e23 => ⟨_, rfl, ?_⟩
      have he23 := he20.trans e23
      have ho23 := ((ho.ext e9).ext e20).ext e23
      have htr : trN (fun n => truthR c sm L N (nthL L n)) (i + 1) = trN (fun n => truthR c sm L N (nthL L n)) i ++ (if truthR c sm L N (nthL L (i : Int)) then [(i : Int)] else []) := rfl
      have hln := trN_len (fun n => truthR c sm L N (nthL L n)) i
      cases hb : truthR c sm L N (nthL L (i : Int)) with
      | true =>
        show ∀ _, _
        intro m25 h25
        obtain ⟨c26, m27, a1, a2, a3, a4, a5, a6⟩ := ap_step t22 g3 z3 (by omega) ho23 hf he23 (ws := [.int .i64 (i : Int)]) rfl (by omega) h25
        refine ⟨c26, m27, a1, fits_small (by omega) (by omega), ih (i + 1) c26 m27 (by omega) ?_ a3 a4⟩
        rw [htr, hb, if_pos rfl, ← ints_app, List.length_append]
        exact a2
      | false =>
        refine ⟨fits_small (by omega) (by omega), ih (i + 1) s m23 (by omega) ?_ hf he23⟩
        rw [htr, hb, if_neg (by decide), List.append_nil]
        exact ho23
  exact hgo (prodN L) 0 .sl0 m0 (by omega) (Own1.nil' _ _) (Fr.nil _) (.refl _)
end
end Go.Proofs.Ytgkjfhkjgdiodaa

namespace Go.Proofs.Ytgkjfhkjgdiodaa
open _root_.Go.Proofs.Try
open Go.Abs
set_option maxRecDepth 100000
noncomputable section
theorem small_nth : ∀ {L : List Int} {n : Int}, Small L → 0 ≤ n → Small (nthL L n)
  | [], _, _, _ => fun v hv => by cases hv
  | v :: L, n, h, hn => by
    have hv := h v (List.mem_cons_self ..)
    intro w hw
    have h0 := Int.emod_nonneg n (b := v + 1) (by omega)
    have h1 := Int.emod_lt_of_pos n (b := v + 1) (by omega)
    rcases List.mem_cons.1 hw with rfl | h2
    · omega
    · exact small_nth (L := L) (n := n / (v + 1)) (fun w hw => h w (List.mem_cons_of_mem _ hw)) (Int.ediv_nonneg hn (by omega)) w h2
def minF (a : Int) : List Int → Int
  | [] => a
  | v :: D => minF (min a v) D
def maxF (a : Int) : List Int → Int
  | [] => a
  | v :: D => maxF (max a v) D
theorem minF_step {D : List Int} {i : Nat} (hi : i < D.length) (a : Int) : minF a (D.drop i) = minF (min a D[i]) (D.drop (i + 1)) := by rw [List.drop_eq_getElem_cons hi]; rfl
theorem maxF_step {D : List Int} {i : Nat} (hi : i < D.length) (a : Int) : maxF a (D.drop i) = maxF (max a D[i]) (D.drop (i + 1)) := by rw [List.drop_eq_getElem_cons hi]; rfl
theorem s46 {r c sm : Int} {x y z : C} {L A : List Int} {m : M} {Q : V → M → Prop} (hx : Li m x L) (hf : isField r c L = true) (hz : Li m z A) (hA : A.length ≤ 100000) (hA2 : ∀ v ∈ A, 0 ≤ v ∧ v ≤ 100000)
    (h : ∀ m', Ext m m' → Q (.agg 2 [.int .i64 (minF 1099511627776 (A.map fun v => shareOf L (nthL L v))), .int .i64 (maxF (-1) (A.map fun v => shareOf L (nthL L v)))]) m') :
    Wc prog tbl 46 [.agg 5 [.int .i64 r, .int .i64 c, x, .int .i64 sm, y], .c z] m Q := by
  obtain ⟨hS, hL, hrc⟩ := field_of hf
  refine w46 fun m0 e0 m1 e1 m2 e2 => ?_
  obtain ⟨b0, x0⟩ := Bk.new e0
  obtain ⟨b1, x1⟩ := Bk.new e1
  obtain ⟨b2, x2⟩ := Bk.new e2
  have n0 : m0.nxt = m.nxt + 1 := by rw [e0]; rfl
  have n1 : m1.nxt = m.nxt + 2 := by rw [e1]; show m0.nxt + 1 = _; omega
  refine ⟨_, b2.st _, fun R4 hstep => ?_⟩
  have hgo : ∀ (d i : Nat) (lo hi : Int) (m6 : M), d + i = A.length → Ext m m6 → Bk m6 m.nxt 5 [.int .i64 r, .int .i64 c, x, .int .i64 sm, y] → Bk m6 m0.nxt 2 [.int .i64 0, .int .i64 0] → Bk m6 m1.nxt 2 [.int .i64 lo, .int .i64 hi] →
      minF lo ((A.map fun v => shareOf L (nthL L v)).drop i) = minF 1099511627776 (A.map fun v => shareOf L (nthL L v)) → maxF hi ((A.map fun v => shareOf L (nthL L v)).drop i) = maxF (-1) (A.map fun v => shareOf L (nthL L v)) → R4 [.c (.int .i64 (i : Int))] m6 := by
    intro d
    induction d with
    | zero =>
      intro i lo hi m6 hd he k0 k1 k2 h1 h2
      refine hstep _ _ ⟨hz.isSl, ?_⟩
      rw [hz.slLen, ifB_dec]
      refine ⟨fun h1 => by omega, fun _ => ?_⟩
      rw [List.drop_eq_nil_of_le (by rw [List.length_map]; omega)] at h1 h2
      have h1' : lo = minF 1099511627776 (A.map fun v => shareOf L (nthL L v)) := h1
      have h2' : hi = maxF (-1) (A.map fun v => shareOf L (nthL L v)) := h2
      refine ⟨lo, hi, k2.ra, _, k1.st _, lo, hi, (k1.set _).ra, ?_⟩
      have hq := h _ (he.setR (b := m0.nxt) (by omega) (.cells 2 [.int .i64 lo, .int .i64 hi] false))
      rw [← h1', ← h2'] at hq
      exact hq
    | succ d ih =>
      intro i lo hi m6 hd he k0 k1 k2 h1 h2
      refine hstep _ _ ⟨hz.isSl, ?_⟩
      rw [hz.slLen, ifB_dec]
      refine ⟨fun _ => ?_, fun h1 => absurd (by omega) h1⟩
      have hi' : i < A.length := by omega
      have hAi := hA2 _ (List.getElem_mem hi')
      refine ⟨trivial, r, c, x, k0.rp (k := 0) (j := 3) rfl (by omega), trivial, r, c, x, k0.rp (k := 0) (j := 3) rfl (by omega), i, rfl, hi', A[i], Li.rd (hz.ext he) (List.getElem?_eq_getElem hi'), s67 (hx.ext he) hS (by omega) hAi fun w m16 e16 hw _ => ⟨w, rfl, ?_, ?_⟩⟩
      · rw [allNF3 hx.noFn]; exact (k0.ext e16).rp (k := 0) (j := 3) rfl (by omega)
      refine s40 (hx.ext (he.trans e16)) hS (by omega) hw (small_nth hS hAi.1) (nthL_len L _) fun m19 e19 => ⟨_, rfl, ?_⟩
      have k2' := (k2.ext e16).ext e19
      have he19 := (he.trans e16).trans e19
      refine ⟨trivial, lo, k2'.rc rfl, trivial, hi, k2'.rc rfl, _, k2'.st _, fits_small (by omega) (by omega), ih (i + 1) _ _ _ (by omega) (he19.setR (by omega) _) (((k0.ext e16).ext e19).setNe (by omega) _) (((k1.ext e16).ext e19).setNe (by omega) _) (k2'.set _) ?_ ?_⟩
      · rw [minF_step (by rw [List.length_map]; exact hi')] at h1
        rw [List.getElem_map] at h1; exact h1
      · rw [maxF_step (by rw [List.length_map]; exact hi')] at h2
        rw [List.getElem_map] at h2; exact h2
  exact hgo A.length 0 _ _ _ (by omega) (((x0.trans x1).trans x2).setR (by omega) _) (((b0.ext x1).ext x2).setNe (by omega) _) ((b1.ext x2).setNe (by omega) _) (b2.set _) rfl rfl
theorem s47 {r c sm : Int} {x y z : C} {p : Nat} {L A : List Int} {m : M} {Q : V → M → Prop} (hx : Li m x L) (hf : isField r c L = true) (hz : Li m z A) (hA : A.length ≤ 100000) (hA2 : ∀ v ∈ A, 0 ≤ v ∧ v ≤ 100000) (hp : p < L.length)
    (h : ∀ m', Ext m m' → Q (.agg 2 [.int .i64 (minF 1099511627776 (A.map fun v => (nthL L v)[p]!)), .int .i64 (maxF (-1) (A.map fun v => (nthL L v)[p]!))]) m') :
    Wc prog tbl 47 [.agg 5 [.int .i64 r, .int .i64 c, x, .int .i64 sm, y], .c z, .c (.int .i64 (p : Int))] m Q := by
  obtain ⟨hS, hL, hrc⟩ := field_of hf
  refine w47 fun m0 e0 m1 e1 m2 e2 => ?_
  obtain ⟨b0, x0⟩ := Bk.new e0
  obtain ⟨b1, x1⟩ := Bk.new e1
  obtain ⟨b2, x2⟩ := Bk.new e2
  have n0 : m0.nxt = m.nxt + 1 := by rw [e0]; rfl
  have n1 : m1.nxt = m.nxt + 2 := by rw [e1]; show m0.nxt + 1 = _; omega
  refine ⟨_, b2.st _, fun R4 hstep => ?_⟩
  have hgo : ∀ (d i : Nat) (lo hi : Int) (m6 : M), d + i = A.length → Ext m m6 → Bk m6 m.nxt 5 [.int .i64 r, .int .i64 c, x, .int .i64 sm, y] → Bk m6 m0.nxt 2 [.int .i64 0, .int .i64 0] → Bk m6 m1.nxt 2 [.int .i64 lo, .int .i64 hi] →
      minF lo ((A.map fun v => (nthL L v)[p]!).drop i) = minF 1099511627776 (A.map fun v => (nthL L v)[p]!) → maxF hi ((A.map fun v => (nthL L v)[p]!).drop i) = maxF (-1) (A.map fun v => (nthL L v)[p]!) → R4 [.c (.int .i64 (i : Int))] m6 := by
    intro d
    induction d with
    | zero =>
      intro i lo hi m6 hd he k0 k1 k2 h1 h2
      refine hstep _ _ ⟨hz.isSl, ?_⟩
      rw [hz.slLen, ifB_dec]
      refine ⟨fun h1 => by omega, fun _ => ?_⟩
      rw [List.drop_eq_nil_of_le (by rw [List.length_map]; omega)] at h1 h2
      have h1' : lo = minF 1099511627776 (A.map fun v => (nthL L v)[p]!) := h1
      have h2' : hi = maxF (-1) (A.map fun v => (nthL L v)[p]!) := h2
      refine ⟨lo, hi, k2.ra, _, k1.st _, lo, hi, (k1.set _).ra, ?_⟩
      have hq := h _ (he.setR (b := m0.nxt) (by omega) (.cells 2 [.int .i64 lo, .int .i64 hi] false))
      rw [← h1', ← h2'] at hq
      exact hq
    | succ d ih =>
      intro i lo hi m6 hd he k0 k1 k2 h1 h2
      refine hstep _ _ ⟨hz.isSl, ?_⟩
      rw [hz.slLen, ifB_dec]
      refine ⟨fun _ => ?_, fun h1 => absurd (by omega) h1⟩
      have hi' : i < A.length := by omega
      have hAi := hA2 _ (List.getElem_mem hi')
      refine ⟨trivial, r, c, x, k0.rp (k := 0) (j := 3) rfl (by omega), i, rfl, hi', A[i], Li.rd (hz.ext he) (List.getElem?_eq_getElem hi'), s67 (hx.ext he) hS (by omega) hAi fun w m16 e16 hw _ => ⟨w, rfl, ?_⟩⟩
      have hpn : p < (nthL L A[i]).length := by rw [nthL_len]; exact hp
      have k2' := k2.ext e16
      have he19 := he.trans e16
      refine ⟨p, rfl, by rw [hw.slLen]; exact hpn, (nthL L A[i])[p], Li.rd hw (List.getElem?_eq_getElem hpn), trivial, lo, k2'.rc rfl, trivial, hi, k2'.rc rfl, _, k2'.st _, fits_small (by omega) (by omega), ih (i + 1) _ _ _ (by omega) (he19.setR (by omega) _) ((k0.ext e16).setNe (by omega) _) ((k1.ext e16).setNe (by omega) _) (k2'.set _) ?_ ?_⟩
      · rw [minF_step (by rw [List.length_map]; exact hi'), List.getElem_map, getElem!_pos _ p hpn] at h1; exact h1
      · rw [maxF_step (by rw [List.length_map]; exact hi'), List.getElem_map, getElem!_pos _ p hpn] at h2; exact h2
  exact hgo A.length 0 _ _ _ (by omega) (((x0.trans x1).trans x2).setR (by omega) _) (((b0.ext x1).ext x2).setNe (by omega) _) ((b1.ext x2).setNe (by omega) _) (b2.set _) rfl rfl
def sureErr (r c : Int) (L : List Int) (sm : Int) (N : List Cnt) : Int := if svErr r c L sm N = 0 then (if (truN c sm L N).length = 0 then 9 else 0) else svErr r c L sm N
theorem s43 {r c sm : Int} {x y : C} {L : List Int} {N : List Cnt} {m : M} {Q : V → M → Prop} (hx : Li m x L) (hL : L.length ≤ 1048576) (hy : Lc m y N) (hN : N.length ≤ 1000)
    (hbad : sureErr r c L sm N ≠ 0 → ∀ m', Ext m m' → Q (.tup [.c .sl0, .c (.int .i64 (sureErr r c L sm N))]) m')
    (hgood : sureErr r c L sm N = 0 → ∀ z m', Ext m m' → Li m' z (truN c sm L N) → Q (.tup [.c z, .c (.int .i64 0)]) m') :
    Wc prog tbl 43 [.agg 5 [.int .i64 r, .int .i64 c, x, .int .i64 sm, y]] m Q := by
  refine w43 fun m0 e0 => ?_
  obtain ⟨b0, x0⟩ := Bk.new e0
  refine ⟨r, c, x, sm, y, b0.ra, s36 (hx.ext x0) hL (hy.ext x0) hN fun m7 e7 => ⟨_, rfl, ?_⟩⟩
  have x7 := x0.trans e7
  rw [ifB_ndec]
  refine ⟨fun h1 => ?_, fun h1 => ?_⟩
  · have ht : sureErr r c L sm N = svErr r c L sm N := by unfold sureErr; rw [if_neg h1]
    have hq := hbad (by rw [ht]; exact h1) m7 x7
    rw [ht] at hq; exact hq
  refine ⟨r, c, x, sm, y, (b0.ext e7).ra, s63 (hx.ext x7) (hy.ext x7) h1 fun z m15 e15 hz _ => ⟨z, rfl, hz.isSl, ?_⟩⟩
  rw [hz.slLen, ifB_dec]
  refine ⟨fun h2 => ?_, fun h2 => ?_⟩
  · have ht : sureErr r c L sm N = 9 := by unfold sureErr; rw [if_pos h1, if_pos (by omega)]
    have hq := hbad (by rw [ht]; decide) m15 (x7.trans e15)
    rw [ht] at hq; exact hq
  · have ht : sureErr r c L sm N = 0 := by unfold sureErr; rw [if_pos h1, if_neg (by omega)]
    exact hgood ht z m15 (x7.trans e15) hz
end
end Go.Proofs.Ytgkjfhkjgdiodaa

namespace Go.Proofs.Ytgkjfhkjgdiodaa
open _root_.Go.Proofs.Try
open Go.Abs
set_option maxRecDepth 100000
noncomputable section
def lst : List Int → List Int → Prop
  | [], [] => True
  | v :: L, w :: H => (0 ≤ w ∧ w ≤ v) ∧ lst L H
  | _, _ => False
theorem lst_iff : ∀ {L H : List Int}, lst L H ↔ H.length = L.length ∧ ∀ i : Nat, i < L.length → 0 ≤ H[i]! ∧ H[i]! ≤ L[i]!
  | [], [] => ⟨fun _ => ⟨rfl, fun i hi => by simp at hi⟩, fun _ => trivial⟩
  | [], w :: H => ⟨fun h => h.elim, fun h => by simp at h⟩
  | v :: L, [] => ⟨fun h => h.elim, fun h => by simp at h⟩
  | v :: L, w :: H => by
    show (0 ≤ w ∧ w ≤ v) ∧ lst L H ↔ _
    rw [lst_iff]
    constructor
    · rintro ⟨h1, h2, h3⟩
      refine ⟨by simp [h2], fun i hi => ?_⟩
      cases i with
      | zero => exact h1
      | succ i => exact h3 i (by simpa using hi)
    · rintro ⟨h2, h3⟩
      exact ⟨h3 0 (by simp), by simpa using h2, fun i hi => h3 (i + 1) (by simpa using hi)⟩
theorem listed_lst {L H : List Int} : listed L H = true ↔ lst L H := by rw [lst_iff]; exact decide_eq_true_iff
theorem nth_surj : ∀ {L H : List Int}, Small L → lst L H → ∃ n : Int, 0 ≤ n ∧ n < (prodN L : Int) ∧ nthL L n = H
  | [], [], _, _ => ⟨0, by omega, by show (0 : Int) < ((1 : Nat) : Int); omega, rfl⟩
  | [], _ :: _, _, h => h.elim
  | _ :: _, [], _, h => h.elim
  | v :: L, w :: H, hS, h => by
    have hv := hS v (List.mem_cons_self ..)
    obtain ⟨hw, hr⟩ : (0 ≤ w ∧ w ≤ v) ∧ lst L H := h
    obtain ⟨n, h0, h1, h2⟩ := nth_surj (fun u hu => hS u (List.mem_cons_of_mem _ hu)) hr
    have hpos : 0 ≤ (v + 1) * n := Int.mul_nonneg (by omega) h0
    have hlt : (v + 1) * (n + 1) ≤ (v + 1) * (prodN L : Int) := Int.mul_le_mul_of_nonneg_left (by omega) (by omega)
    rw [Int.mul_add, Int.mul_one] at hlt
    refine ⟨w + (v + 1) * n, by omega, ?_, ?_⟩
    · show _ < (((v.toNat + 1) * prodN L : Nat) : Int)
      rw [Int.natCast_mul, show ((v.toNat + 1 : Nat) : Int) = v + 1 by omega]; omega
    · show (w + (v + 1) * n) % (v + 1) :: nthL L ((w + (v + 1) * n) / (v + 1)) = w :: H
      rw [Int.add_mul_emod_self_left, Int.emod_eq_of_lt hw.1 (by omega), Int.add_mul_ediv_left _ _ (by omega), Int.ediv_eq_zero_of_lt hw.1 (by omega), Int.zero_add, h2]
theorem mem_truN {c sm : Int} {L : List Int} {N : List Cnt} {a : Int} : a ∈ truN c sm L N ↔ 0 ≤ a ∧ a < (prodN L : Int) ∧ truthR c sm L N (nthL L a) = true := mem_trN _ _ _
theorem truthR_listed {c sm : Int} {L H : List Int} {N : List Cnt} (h : truthR c sm L N H = true) : listed L H = true := by
  by_cases hT : TruthR c sm L N H
  · exact hT.1
  · rw [truthR_false hT] at h; cases h
theorem same_nums {r c sm : Int} {L : List Int} {N : List Cnt} (hv : svErr r c L sm N = 0) (num : List Int → Int) (v : Int) : v ∈ (truN c sm L N).map (fun a => num (nthL L a)) ↔ v ∈ (truthsP c sm L N).map num := by
  obtain ⟨hO, hsm⟩ := okay_of hv
  obtain ⟨hS, _, _⟩ := field_of hO.f
  rw [List.mem_map, List.mem_map]
  constructor
  · rintro ⟨a, h1, h2⟩
    exact ⟨nthL L a, (mem_truths hO hsm.1).2 (mem_truN.1 h1).2.2, h2⟩
  · rintro ⟨H, h1, h2⟩
    have ht := (mem_truths hO hsm.1).1 h1
    obtain ⟨n, q1, q2, q3⟩ := nth_surj hS (listed_lst.1 (truthR_listed ht))
    exact ⟨n, mem_truN.2 ⟨q1, q2, by rw [q3]; exact ht⟩, by rw [q3]; exact h2⟩
theorem sure_true {r c sm : Int} {L : List Int} {N : List Cnt} : sureErr r c L sm N = trueErr r c L sm N := by
  unfold sureErr trueErr
  by_cases hv : svErr r c L sm N = 0
  · rw [if_pos hv, if_pos hv]
    have hs := same_nums hv (fun _ => 0) 0
    cases h1 : truN c sm L N with
    | nil =>
      cases h2 : truthsP c sm L N with
      | nil => rfl
      | cons H T => rw [h1, h2] at hs; simp at hs
    | cons a A =>
      cases h2 : truthsP c sm L N with
      | nil => rw [h1, h2] at hs; simp at hs
      | cons H T => rfl
  · rw [if_neg hv, if_neg hv]
theorem minR_spec : ∀ (D : List Int) (a : Int), (minR a D = a ∨ minR a D ∈ D) ∧ minR a D ≤ a ∧ ∀ v ∈ D, minR a D ≤ v
  | [], a => ⟨.inl rfl, Int.le_refl _, fun v hv => by cases hv⟩
  | u :: D, a => by
    obtain ⟨h1, h2, h3⟩ := minR_spec D (if u < a then u else a)
    show (minR (if u < a then u else a) D = a ∨ minR (if u < a then u else a) D ∈ u :: D) ∧ minR (if u < a then u else a) D ≤ a ∧ ∀ v ∈ u :: D, minR (if u < a then u else a) D ≤ v
    generalize minR (if u < a then u else a) D = w at h1 h2 h3
    refine ⟨?_, ?_, fun v hv => ?_⟩
    · rcases h1 with h1 | h1
      · split at h1
        · exact .inr (by rw [h1]; exact List.mem_cons_self ..)
        · exact .inl h1
      · exact .inr (List.mem_cons_of_mem _ h1)
    · split at h2 <;> omega
    · rcases List.mem_cons.1 hv with rfl | h4
      · split at h2 <;> omega
      · exact h3 v h4
theorem maxR_spec : ∀ (D : List Int) (a : Int), (maxR a D = a ∨ maxR a D ∈ D) ∧ a ≤ maxR a D ∧ ∀ v ∈ D, v ≤ maxR a D
  | [], a => ⟨.inl rfl, Int.le_refl _, fun v hv => by cases hv⟩
  | u :: D, a => by
    obtain ⟨h1, h2, h3⟩ := maxR_spec D (max a u)
    show (maxR (max a u) D = a ∨ maxR (max a u) D ∈ u :: D) ∧ a ≤ maxR (max a u) D ∧ ∀ v ∈ u :: D, v ≤ maxR (max a u) D
    generalize maxR (max a u) D = w at h1 h2 h3
    refine ⟨?_, by omega, fun v hv => ?_⟩
    · rcases h1 with h1 | h1
      · rcases (by omega : max a u = a ∨ max a u = u) with h4 | h4
        · exact .inl (by rw [h1, h4])
        · exact .inr (by rw [h1, h4]; exact List.mem_cons_self ..)
      · exact .inr (List.mem_cons_of_mem _ h1)
    · rcases List.mem_cons.1 hv with rfl | h4
      · omega
      · exact h3 v h4
theorem minF_spec : ∀ (D : List Int) (a : Int), (minF a D = a ∨ minF a D ∈ D) ∧ minF a D ≤ a ∧ ∀ v ∈ D, minF a D ≤ v
  | [], a => ⟨.inl rfl, Int.le_refl _, fun v hv => by cases hv⟩
  | u :: D, a => by
    obtain ⟨h1, h2, h3⟩ := minF_spec D (min a u)
    show (minF (min a u) D = a ∨ minF (min a u) D ∈ u :: D) ∧ minF (min a u) D ≤ a ∧ ∀ v ∈ u :: D, minF (min a u) D ≤ v
    generalize minF (min a u) D = w at h1 h2 h3
    refine ⟨?_, by omega, fun v hv => ?_⟩
    · rcases h1 with h1 | h1
      · rcases (by omega : min a u = a ∨ min a u = u) with h4 | h4
        · exact .inl (by rw [h1, h4])
        · exact .inr (by rw [h1, h4]; exact List.mem_cons_self ..)
      · exact .inr (List.mem_cons_of_mem _ h1)
    · rcases List.mem_cons.1 hv with rfl | h4
      · omega
      · exact h3 v h4
theorem maxF_eq : ∀ (D : List Int) (a : Int), maxF a D = maxR a D
  | [], _ => rfl
  | u :: D, a => maxF_eq D (max a u)
theorem lo_spec {D : List Int} (h : 0 < D.length) : loOf D ∈ D ∧ ∀ v ∈ D, loOf D ≤ v := by
  cases D with
  | nil => simp at h
  | cons u D =>
    obtain ⟨h1, h2, h3⟩ := minR_spec (u :: D) u
    exact ⟨h1.elim (fun h4 => by show minR u (u :: D) ∈ _; rw [h4]; exact List.mem_cons_self ..) id, h3⟩
theorem hi_spec {D : List Int} (h : 0 < D.length) : hiOf D ∈ D ∧ ∀ v ∈ D, v ≤ hiOf D := by
  cases D with
  | nil => simp at h
  | cons u D =>
    obtain ⟨h1, h2, h3⟩ := maxR_spec D u
    refine ⟨h1.elim (fun h4 => by show maxR u D ∈ _; rw [h4]; exact List.mem_cons_self ..) fun h4 => List.mem_cons_of_mem _ h4, fun v hv => ?_⟩
    rcases List.mem_cons.1 hv with rfl | h5
    · exact h2
    · exact h3 v h5
theorem bounds_eq {D E : List Int} (h : 0 < D.length) (hs : ∀ v, v ∈ E ↔ v ∈ D) (hb : ∀ v ∈ D, 0 ≤ v ∧ v ≤ 100000) : minF 1099511627776 E = loOf D ∧ maxF (-1) E = hiOf D := by
  obtain ⟨l1, l2⟩ := lo_spec h
  obtain ⟨g1, g2⟩ := hi_spec h
  constructor
  · obtain ⟨h1, h2, h3⟩ := minF_spec E 1099511627776
    have h4 := h3 _ ((hs _).2 l1)
    have h5 := hb _ l1
    rcases h1 with h1 | h1
    · omega
    · have := l2 _ ((hs _).1 h1); omega
  · rw [maxF_eq]
    obtain ⟨h1, h2, h3⟩ := maxR_spec E (-1)
    have h4 := h3 _ ((hs _).2 g1)
    have h5 := hb _ g1
    rcases h1 with h1 | h1
    · omega
    · have := g2 _ ((hs _).1 h1); omega
theorem share_bd {L H : List Int} (hS : Small L) (hL : L.length ≤ 9) (hl : listed L H = true) : 0 ≤ shareOf L H ∧ shareOf L H ≤ 100000 := by
  have hlen := listed_len hl
  have h1 := sumA_ge (L := H) (fun v hv => (small_listed hS hl v hv).1) (a := 0) (by omega)
  have h2 := sumA_le (L := H) (fun v hv => (small_listed hS hl v hv).2) (a := 0)
  have h3 := sumA_ge (L := L) (fun v hv => (hS v hv).1) (a := 0) (by omega)
  unfold shareOf
  split
  · omega
  · have h4 : 0 ≤ sumA 0 H * 100 := by omega
    have h5 := Int.ediv_nonneg h4 h3
    have h6 := Int.ediv_le_self (sumA 0 L) h4
    omega
end
end Go.Proofs.Ytgkjfhkjgdiodaa

namespace Go.Proofs.Ytgkjfhkjgdiodaa
open _root_.Go.Proofs.Try
open Go.Abs
set_option maxRecDepth 100000
noncomputable section
def ZF (a : Nat) (m : M) (F R : Prop) : Prop := ∃ x1 x2 : Int, ldA m (C.ptr a 0) 2 = some [C.int IntKind.i64 x1, C.int IntKind.i64 x2] ∧ fitsP IntKind.i64 x1 ∧ fitsP IntKind.i64 (0 : Int) ∧ fitsP IntKind.i64 x2 ∧ fitsP IntKind.i64 (0 : Int) ∧ ifB (!((decide (x1 = (0 : Int))) && (decide (x2 = (0 : Int))))) F R
theorem zf {a : Nat} {m : M} {F R : Prop} (h : Bk m a 2 [.int .i64 0, .int .i64 0]) (hR : R) : ZF a m F R :=
  ⟨0, 0, h.ra, fits_small (by omega) (by omega), fits_small (by omega) (by omega), fits_small (by omega) (by omega), fits_small (by omega) (by omega), hR⟩
def ZT (a : Nat) (m : M) (R F : Prop) : Prop := ∃ x1 x2 : Int, ldA m (C.ptr a 0) 2 = some [C.int IntKind.i64 x1, C.int IntKind.i64 x2] ∧ fitsP IntKind.i64 x1 ∧ fitsP IntKind.i64 (0 : Int) ∧ fitsP IntKind.i64 x2 ∧ fitsP IntKind.i64 (0 : Int) ∧ ifB ((decide (x1 = (0 : Int))) && (decide (x2 = (0 : Int)))) R F
theorem zt {a : Nat} {m : M} {F R : Prop} (h : Bk m a 2 [.int .i64 0, .int .i64 0]) (hR : R) : ZT a m R F :=
  ⟨0, 0, h.ra, fits_small (by omega) (by omega), fits_small (by omega) (by omega), fits_small (by omega) (by omega), fits_small (by omega) (by omega), hR⟩
def BC (a ma : Nat) (z : C) (m69 : M) (F R : M → Prop) : Prop := ∃ x71 x72 : Int, ldA m69 (C.ptr a 0) 2 = some [C.int IntKind.i64 x71, C.int IntKind.i64 x72] ∧
  ∃ x73 x74 : Int, ∃ c75 : C, ∃ x76 : Int, ∃ c77 : C, ldA m69 (C.ptr ma 0) 5 = some [C.int IntKind.i64 x73, C.int IntKind.i64 x74, c75, C.int IntKind.i64 x76, c77] ∧
    Wc prog tbl 46 [V.agg 5 [C.int IntKind.i64 x73, C.int IntKind.i64 x74, c75, C.int IntKind.i64 x76, c77], V.c z] m69 fun v78 m79 => ∃ x80 x81 : Int, v78 = V.agg 2 [C.int IntKind.i64 x80, C.int IntKind.i64 x81] ∧
      ldA m79 (C.ptr a 0) 2 = some [C.int IntKind.i64 x71, C.int IntKind.i64 x72] ∧ Wc prog tbl 45 [V.agg 2 [C.int IntKind.i64 x80, C.int IntKind.i64 x81]] m79 fun v82 m83 => ∃ x84 x85 : Int, v82 = V.agg 2 [C.int IntKind.i64 x84, C.int IntKind.i64 x85] ∧
        ldA m83 (C.ptr a 0) 2 = some [C.int IntKind.i64 x71, C.int IntKind.i64 x72] ∧ fitsP IntKind.i64 x71 ∧ fitsP IntKind.i64 x84 ∧ fitsP IntKind.i64 x72 ∧ fitsP IntKind.i64 x85 ∧ ifB (!((decide (x71 = x84)) && (decide (x72 = x85)))) (F m83) (R m83)
def HC (a ma : Nat) (z : C) (p : Int) (m69 : M) (R F : M → Prop) : Prop := ∃ x71 x72 : Int, ldA m69 (C.ptr a 0) 2 = some [C.int IntKind.i64 x71, C.int IntKind.i64 x72] ∧
  ∃ x73 x74 : Int, ∃ c75 : C, ∃ x76 : Int, ∃ c77 : C, ldA m69 (C.ptr ma 0) 5 = some [C.int IntKind.i64 x73, C.int IntKind.i64 x74, c75, C.int IntKind.i64 x76, c77] ∧
    Wc prog tbl 47 [V.agg 5 [C.int IntKind.i64 x73, C.int IntKind.i64 x74, c75, C.int IntKind.i64 x76, c77], V.c z, V.c (C.int IntKind.i64 p)] m69 fun v78 m79 => ∃ x80 x81 : Int, v78 = V.agg 2 [C.int IntKind.i64 x80, C.int IntKind.i64 x81] ∧
      ldA m79 (C.ptr a 0) 2 = some [C.int IntKind.i64 x71, C.int IntKind.i64 x72] ∧ Wc prog tbl 45 [V.agg 2 [C.int IntKind.i64 x80, C.int IntKind.i64 x81]] m79 fun v82 m83 => ∃ x84 x85 : Int, v82 = V.agg 2 [C.int IntKind.i64 x84, C.int IntKind.i64 x85] ∧
        ldA m83 (C.ptr a 0) 2 = some [C.int IntKind.i64 x71, C.int IntKind.i64 x72] ∧ fitsP IntKind.i64 x71 ∧ fitsP IntKind.i64 x84 ∧ fitsP IntKind.i64 x72 ∧ fitsP IntKind.i64 x85 ∧ ifB ((decide (x71 = x84)) && (decide (x72 = x85))) (R m83) (F m83)
theorem truN_bd {r c sm : Int} {L : List Int} {N : List Cnt} (hv : svErr r c L sm N = 0) : (truN c sm L N).length ≤ 100000 ∧ ∀ v ∈ truN c sm L N, 0 ≤ v ∧ v ≤ 100000 := by
  have h1 := few_truths hv
  exact ⟨Nat.le_trans (trN_len _ _) (by omega), fun v hv' => by have := mem_truN.1 hv'; omega⟩
theorem bc {r c sm : Int} {x y z : C} {L : List Int} {N : List Cnt} {a ma : Nat} {m : M} {F R : M → Prop} (hx : Li m x L) (hz : Li m z (truN c sm L N)) (ht : trueErr r c L sm N = 0) (ka : Bk m ma 5 [.int .i64 r, .int .i64 c, x, .int .i64 sm, y])
    (kb : Bk m a 2 [.int .i64 (boundsOf r c L sm N 0 (shareOf L)).1, .int .i64 (boundsOf r c L sm N 0 (shareOf L)).2]) (hR : ∀ m', Ext m m' → R m') : BC a ma z m F R := by
  obtain ⟨hv, hpos⟩ := true_sv ht
  obtain ⟨hO, _⟩ := okay_of hv
  obtain ⟨hS, hL9, _⟩ := field_of hO.f
  obtain ⟨t1, t2⟩ := truN_bd hv
  have hD : ∀ v ∈ (truthsP c sm L N).map (shareOf L), 0 ≤ v ∧ v ≤ 100000 := fun v hv' => by
    obtain ⟨H, h1, rfl⟩ := List.mem_map.1 hv'
    exact share_bd hS hL9 (truth_of hO.f h1)
  have hlp : 0 < ((truthsP c sm L N).map (shareOf L)).length := by rw [List.length_map]; exact hpos
  obtain ⟨q1, q2⟩ := bounds_eq hlp (same_nums hv (shareOf L)) hD
  have d1 := hD _ (lo_spec hlp).1
  have d2 := hD _ (hi_spec hlp).1
  refine ⟨_, _, kb.ra, r, c, x, sm, y, ka.ra, s46 hx hO.f hz t1 t2 fun m79 e79 => ⟨_, _, rfl, (kb.ext e79).ra, s45 fun m83 e83 => ⟨_, _, rfl, ((kb.ext e79).ext e83).ra, ?_⟩⟩⟩
  rw [q1, q2]
  refine ⟨fits_small (by show _ ≤ loOf _; omega) (by show loOf _ ≤ _; omega), fits_small (by omega) (by omega), fits_small (by show _ ≤ hiOf _; omega) (by show hiOf _ ≤ _; omega), fits_small (by omega) (by omega), ?_⟩
  show ifB (!(decide (loOf _ = loOf _) && decide (hiOf _ = hiOf _))) _ _
  rw [decide_eq_true rfl, decide_eq_true rfl]
  exact hR _ (e79.trans e83)
theorem hc {r c sm p : Int} {x y z : C} {L : List Int} {N : List Cnt} {a ma : Nat} {m : M} {F R : M → Prop} (hx : Li m x L) (hz : Li m z (truN c sm L N)) (ht : trueErr r c L sm N = 0) (hp : 0 ≤ p ∧ p ≤ r * c - 1) (ka : Bk m ma 5 [.int .i64 r, .int .i64 c, x, .int .i64 sm, y])
    (kb : Bk m a 2 [.int .i64 (boundsOf r c L sm N 0 (fun H => H[p.toNat]!)).1, .int .i64 (boundsOf r c L sm N 0 (fun H => H[p.toNat]!)).2]) (hR : ∀ m', Ext m m' → R m') : HC a ma z p m R F := by
  obtain ⟨hv, hpos⟩ := true_sv ht
  obtain ⟨hO, _⟩ := okay_of hv
  obtain ⟨hS, hL9, hrc⟩ := field_of hO.f
  obtain ⟨t1, t2⟩ := truN_bd hv
  obtain ⟨k, hk⟩ : ∃ k : Nat, p = (k : Int) := ⟨p.toNat, by omega⟩
  subst hk
  simp only [Int.toNat_natCast] at kb
  have hkL : k < L.length := by omega
  have hD : ∀ v ∈ (truthsP c sm L N).map (fun H => H[k]!), 0 ≤ v ∧ v ≤ 100000 := fun v hv' => by
    obtain ⟨H, h1, rfl⟩ := List.mem_map.1 hv'
    have hl := truth_of hO.f h1
    have hkH : k < H.length := by rw [listed_len hl]; exact hkL
    have := small_at (small_listed hS hl) hkH
    show 0 ≤ H[k]! ∧ H[k]! ≤ _
    rw [getElem!_pos H k hkH]; omega
  have hlp : 0 < ((truthsP c sm L N).map (fun H => H[k]!)).length := by rw [List.length_map]; exact hpos
  obtain ⟨q1, q2⟩ := bounds_eq hlp (same_nums hv (fun H => H[k]!)) hD
  have d1 := hD _ (lo_spec hlp).1
  have d2 := hD _ (hi_spec hlp).1
  refine ⟨_, _, kb.ra, r, c, x, sm, y, ka.ra, s47 hx hO.f hz t1 t2 hkL fun m79 e79 => ⟨_, _, rfl, (kb.ext e79).ra, s45 fun m83 e83 => ⟨_, _, rfl, ((kb.ext e79).ext e83).ra, ?_⟩⟩⟩
  rw [q1, q2]
  refine ⟨fits_small (by show _ ≤ loOf _; omega) (by show loOf _ ≤ _; omega), fits_small (by omega) (by omega), fits_small (by show _ ≤ hiOf _; omega) (by show hiOf _ ≤ _; omega), fits_small (by omega) (by omega), ?_⟩
  show ifB (decide (loOf _ = loOf _) && decide (hiOf _ = hiOf _)) _ _
  rw [decide_eq_true rfl, decide_eq_true rfl]
  exact hR _ (e79.trans e83)
theorem s5 {r c sm p : Int} {x y : C} {L : List Int} {N : List Cnt} {m : M} {Q : V → M → Prop} (hx : Li m x L) (hy : Lc m y N) (h : ∀ m', Q (.c (.bool true)) m') :
    Wc prog tbl 5 [.agg 5 [.int .i64 r, .int .i64 c, x, .int .i64 sm, y], .c (.int .i64 p)] m Q := by
  have aw : ∀ m' : M, Wc prog tbl 20 [] m' (fun v m1 => ∃ b : Bool, v = .c (.bool b) ∧ Q (.c (.bool b)) m1) := fun m' => s20 ⟨_, rfl, h _⟩
  refine w5 fun m0 e0 => ?_
  obtain ⟨b0, x0⟩ := Bk.new e0
  refine ⟨r, c, x, sm, y, b0.ra, s19 (hx.ext x0) (hy.ext x0) fun m7 e7 => ⟨_, rfl, ?_⟩⟩
  have x7 := x0.trans e7
  have b7 := b0.ext e7
  rw [ifB_ndec]
  refine ⟨fun _ => aw _, fun hthin => ?_⟩
  have hL : L.length ≤ 12 := hthin.1
  have hN : N.length ≤ 9 := hthin.2
  refine ⟨r, c, x, sm, y, b7.ra, s33 (hx.ext x7) (by omega) (hy.ext x7) (by omega) fun xa ya m18 e18 hxa hya => ⟨r, c, xa, sm, ya, rfl, ?_⟩⟩
  refine s41 hxa (by omega) hya (by omega) fun m25 e25 => ⟨_, _, _, rfl, fun m29 h29 => ?_⟩
  have x25 := (x7.trans e18).trans e25
  have b25 := (b7.ext e18).ext e25
  obtain ⟨b29, x29⟩ := Bk.new h29
  refine ⟨_, b29.st _, ?_⟩
  have kB := b29.set [.int .i64 (boundsOf r c L sm N (trueErr r c L sm N) (shareOf L)).1, .int .i64 (boundsOf r c L sm N (trueErr r c L sm N) (shareOf L)).2]
  have e30 : Ext m25 (m29.set m25.nxt (.cells 2 [.int .i64 (boundsOf r c L sm N (trueErr r c L sm N) (shareOf L)).1, .int .i64 (boundsOf r c L sm N (trueErr r c L sm N) (shareOf L)).2] false)) := x29.setR (Nat.le_refl _) _
  generalize m29.set m25.nxt (.cells 2 [.int .i64 (boundsOf r c L sm N (trueErr r c L sm N) (shareOf L)).1, .int .i64 (boundsOf r c L sm N (trueErr r c L sm N) (shareOf L)).2] false) = m30 at kB e30
  have x30 := x25.trans e30
  have b30 := b25.ext e30
  refine ⟨r, c, x, sm, y, b30.ra, s33 (hx.ext x30) (by omega) (hy.ext x30) (by omega) fun xb yb m37 e37 hxb hyb => ⟨r, c, xb, sm, yb, rfl, ?_⟩⟩
  refine s42 hxb (by omega) hyb (by omega) fun m44 e44 => ⟨_, _, _, rfl, fun m48 h48 => ?_⟩
  have x44 := (x30.trans e37).trans e44
  have b44 := (b30.ext e37).ext e44
  have kB44 := (kB.ext e37).ext e44
  obtain ⟨b48, x48⟩ := Bk.new h48
  refine ⟨_, b48.st _, ?_⟩
  have kH := b48.set [.int .i64 (boundsOf r c L sm N (askErr r c L sm N (decide (0 ≤ p ∧ p ≤ r * c - 1))) (fun H => H[p.toNat]!)).1, .int .i64 (boundsOf r c L sm N (askErr r c L sm N (decide (0 ≤ p ∧ p ≤ r * c - 1))) (fun H => H[p.toNat]!)).2]
  have e49 : Ext m44 (m48.set m44.nxt (.cells 2 [.int .i64 (boundsOf r c L sm N (askErr r c L sm N (decide (0 ≤ p ∧ p ≤ r * c - 1))) (fun H => H[p.toNat]!)).1, .int .i64 (boundsOf r c L sm N (askErr r c L sm N (decide (0 ≤ p ∧ p ≤ r * c - 1))) (fun H => H[p.toNat]!)).2] false)) := x48.setR (Nat.le_refl _) _
  generalize m48.set m44.nxt (.cells 2 [.int .i64 (boundsOf r c L sm N (askErr r c L sm N (decide (0 ≤ p ∧ p ≤ r * c - 1))) (fun H => H[p.toNat]!)).1, .int .i64 (boundsOf r c L sm N (askErr r c L sm N (decide (0 ≤ p ∧ p ≤ r * c - 1))) (fun H => H[p.toNat]!)).2] false) = m49 at kH e49
  have x49 := x44.trans e49
  have b49 := b44.ext e49
  have kB49 := kB44.ext e49
  refine ⟨r, c, x, sm, y, b49.ra, s43 (hx.ext x49) (by omega) (hy.ext x49) (by omega) (fun hne m56 e56 => ⟨.sl0, _, rfl, ?_⟩) fun hz0 z m56 e56 hz => ⟨z, 0, rfl, ?_⟩⟩
  · rw [sure_true] at hne ⊢
    have x56 := x49.trans e56
    refine ⟨r, c, x, sm, y, (b49.ext e56).ra, s36 (hx.ext x56) (by omega) (hy.ext x56) (by omega) fun m65 e65 => ⟨_, rfl, ?_⟩⟩
    have kB65 := (kB49.ext e56).ext e65
    have kH65 := (kH.ext e56).ext e65
    have hB : boundsOf r c L sm N (trueErr r c L sm N) (shareOf L) = (0, 0) := by unfold boundsOf; rw [if_neg hne]
    rw [hB] at kB65
    by_cases hv : svErr r c L sm N = 0
    · obtain ⟨hO, _⟩ := okay_of hv
      obtain ⟨_, _, hrc⟩ := field_of hO.f
      rw [ifB_dec]
      refine ⟨fun _ => ⟨trivial, trivial, x, ((b49.ext e56).ext e65).rc rfl, hx.isSl, by rw [hx.slLen]; exact fits_small (by omega) (by omega), s44 ⟨_, rfl, ?_⟩⟩, fun h1 => absurd hv h1⟩
      rw [hx.slLen, hrc]
      have hH : boundsOf r c L sm N (askErr r c L sm N (decide (0 ≤ p ∧ p ≤ r * c - 1))) (fun H => H[p.toNat]!) = (0, 0) := by
        unfold boundsOf
        rw [if_neg fun h0 => hne (ask_zero h0).2]
      rw [hH] at kH65
      by_cases hp : 0 ≤ p ∧ p ≤ r * c - 1
      · have ha : askErr r c L sm N (decide (0 ≤ p ∧ p ≤ r * c - 1)) = trueErr r c L sm N := by unfold askErr; rw [if_pos hv, decide_eq_true hp]; rfl
        rw [ha, decide_eq_true hp]
        show ifB false _ _
        rw [ifB_false, ifB_ndec]
        refine ⟨fun h1 => absurd rfl h1, fun _ => ?_⟩
        rw [ifB_ndec]
        refine ⟨fun h1 => absurd rfl h1, fun _ => ?_⟩
        rw [ifB_dec]
        refine ⟨fun h1 => absurd h1 hne, fun _ => ?_⟩
        rw [ifB_ndec]
        refine ⟨fun _ => zf kB65 ?_, fun h1 => absurd h1 hne⟩
        rw [ifB_ndec]
        exact ⟨fun _ => zt kH65 (aw _), fun h1 => absurd h1 hne⟩
      · have ha : askErr r c L sm N (decide (0 ≤ p ∧ p ≤ r * c - 1)) = 2 := by unfold askErr; rw [if_pos hv, decide_eq_false hp]; rfl
        rw [ha, decide_eq_false hp]
        show ifB true _ _
        rw [ifB_true, ifB_ndec]
        refine ⟨fun h1 => absurd rfl h1, fun _ => ?_⟩
        rw [ifB_ndec]
        refine ⟨fun h1 => absurd rfl h1, fun _ => ?_⟩
        rw [ifB_dec]
        refine ⟨fun h1 => absurd h1 hne, fun _ => ?_⟩
        rw [ifB_ndec]
        exact ⟨fun _ => zf kB65 (zt kH65 (aw _)), fun h1 => absurd h1 hne⟩
    · have ha : askErr r c L sm N (decide (0 ≤ p ∧ p ≤ r * c - 1)) = trueErr r c L sm N := by unfold askErr trueErr; rw [if_neg hv, if_neg hv]
      have hH : boundsOf r c L sm N (askErr r c L sm N (decide (0 ≤ p ∧ p ≤ r * c - 1))) (fun H => H[p.toNat]!) = (0, 0) := by
        unfold boundsOf
        rw [ha, if_neg hne]
      rw [hH] at kH65
      rw [ifB_dec, ha]
      refine ⟨fun h1 => absurd h1 hv, fun _ => ?_⟩
      rw [ifB_ndec]
      refine ⟨fun h1 => absurd rfl h1, fun _ => ?_⟩
      rw [ifB_ndec]
      refine ⟨fun h1 => absurd rfl h1, fun _ => ?_⟩
      rw [ifB_dec]
      refine ⟨fun h1 => absurd h1 hne, fun _ => ?_⟩
      rw [ifB_ndec]
      refine ⟨fun _ => zf kB65 ?_, fun h1 => absurd h1 hne⟩
      rw [ifB_ndec]
      exact ⟨fun _ => zt kH65 (aw _), fun h1 => absurd h1 hne⟩
  · rw [sure_true] at hz0
    have x56 := x49.trans e56
    obtain ⟨hv, hpos⟩ := true_sv hz0
    obtain ⟨hO, _⟩ := okay_of hv
    obtain ⟨_, _, hrc⟩ := field_of hO.f
    rw [hz0] at kB49 ⊢
    refine ⟨r, c, x, sm, y, (b49.ext e56).ra, s36 (hx.ext x56) (by omega) (hy.ext x56) (by omega) fun m65 e65 => ⟨_, rfl, ?_⟩⟩
    have kB65 := (kB49.ext e56).ext e65
    have kH65 := (kH.ext e56).ext e65
    have b65 := (b49.ext e56).ext e65
    have x65 := x56.trans e65
    have hz65 := hz.ext e65
    rw [ifB_dec]
    refine ⟨fun _ => ⟨trivial, trivial, x, b65.rc rfl, hx.isSl, by rw [hx.slLen]; exact fits_small (by omega) (by omega), s44 ⟨_, rfl, ?_⟩⟩, fun h1 => absurd hv h1⟩
    rw [hx.slLen, hrc]
    by_cases hp : 0 ≤ p ∧ p ≤ r * c - 1
    · have ha : askErr r c L sm N (decide (0 ≤ p ∧ p ≤ r * c - 1)) = 0 := by unfold askErr; rw [if_pos hv, decide_eq_true hp]; exact hz0
      rw [ha] at kH65 ⊢
      rw [decide_eq_true hp]
      show ifB false _ _
      rw [ifB_false, ifB_ndec]
      refine ⟨fun h1 => absurd rfl h1, fun _ => ?_⟩
      rw [ifB_ndec]
      refine ⟨fun h1 => absurd rfl h1, fun _ => ?_⟩
      rw [ifB_dec]
      refine ⟨fun _ => bc (hx.ext x65) hz65 hz0 b65 kB65 fun m83 e83 => ?_, fun h1 => absurd rfl h1⟩
      rw [ifB_ndec]
      refine ⟨fun h1 => absurd rfl h1, fun _ => ?_⟩
      rw [ifB_ndec]
      refine ⟨fun h1 => absurd rfl h1, fun _ => hc ((hx.ext x65).ext e83) (hz65.ext e83) hz0 hp (b65.ext e83) (kH65.ext e83) fun m' _ => aw m'⟩
    · have ha : askErr r c L sm N (decide (0 ≤ p ∧ p ≤ r * c - 1)) = 2 := by unfold askErr; rw [if_pos hv, decide_eq_false hp]; rfl
      have hH : boundsOf r c L sm N (askErr r c L sm N (decide (0 ≤ p ∧ p ≤ r * c - 1))) (fun H => H[p.toNat]!) = (0, 0) := by
        unfold boundsOf
        rw [ha]; rfl
      rw [hH] at kH65
      rw [ha, decide_eq_false hp]
      show ifB true _ _
      rw [ifB_true, ifB_ndec]
      refine ⟨fun h1 => absurd rfl h1, fun _ => ?_⟩
      rw [ifB_ndec]
      refine ⟨fun h1 => absurd rfl h1, fun _ => ?_⟩
      rw [ifB_dec]
      refine ⟨fun _ => bc (hx.ext x65) hz65 hz0 b65 kB65 fun m83 e83 => ?_, fun h1 => absurd rfl h1⟩
      rw [ifB_ndec]
      exact ⟨fun h1 => absurd rfl h1, fun _ => zt (kH65.ext e83) (aw _)⟩
end
end Go.Proofs.Ytgkjfhkjgdiodaa
