/- What functions of the program ask and do. Condition: none; a lemma text of this claim. -/
import Derived.Test.YtgkjfhkjgdiodaaSpI
namespace Go.Proofs.Ytgkjfhkjgdiodaa
open _root_.Go.Proofs.Try
open Go.Abs
set_option maxRecDepth 100000
noncomputable section
def nthL : List Int → Int → List Int
  | [], _ => []
  | v :: L, n => n % (v + 1) :: nthL L (n / (v + 1))
theorem nthL_len : ∀ (L : List Int) (n : Int), (nthL L n).length = L.length
  | [], _ => rfl
  | v :: L, n => by show (nthL L _).length + 1 = _; rw [nthL_len L]; rfl
theorem s67 {r c n : Int} {x : C} {L : List Int} {m : M} {Q : V → M → Prop} (hx : Li m x L) (hS : Small L) (hL : L.length ≤ 1000) (hn : 0 ≤ n ∧ n ≤ 100000) (h : ∀ z m', Ext m m' → Li m' z (nthL L n) → Fr m z → Q (.c z) m') :
    Wc prog tbl 67 [.agg 3 [.int .i64 r, .int .i64 c, x], .c (.int .i64 n)] m Q := by
  refine w67 fun m0 e0 R1 hstep => ?_
  obtain ⟨b0, x0⟩ := Bk.new e0
  have hgo : ∀ (d i : Nat) (s : C) (a : Int) (m5 : M) (A : List Int), d + i = L.length → Own1 m5 1 s (ints A) i → Fr m0 s → Ext m0 m5 → 0 ≤ a ∧ a ≤ 100000 → A ++ nthL (L.drop i) a = nthL L n → R1 [.c s, .c (.int .i64 a), .c (.int .i64 (i : Int))] m5 := by
    intro d
    induction d with
    | zero =>
      intro i s a m5 A hd ho hf he ha heq
      refine hstep _ _ _ _ ⟨trivial, x, (b0.ext he).rc rfl, hx.isSl, ?_⟩
      rw [hx.slLen, ifB_dec]
      refine ⟨fun h1 => by omega, fun _ => ?_⟩
      rw [List.drop_eq_nil_of_le (by omega)] at heq
      have hA : A = nthL L n := by rw [← heq]; exact (List.append_nil A).symm
      refine h s m5 (x0.trans he) ?_ (hf.mono x0.nxt)
      have := ho.ls
      rw [hA] at this
      have hl : i = (nthL L n).length := by rw [nthL_len]; omega
      rw [hl] at this
      exact this
    | succ d ih =>
      intro i s a m5 A hd ho hf he ha heq
      refine hstep _ _ _ _ ⟨trivial, x, (b0.ext he).rc rfl, hx.isSl, ?_⟩
      rw [hx.slLen, ifB_dec]
      refine ⟨fun _ => ?_, fun h1 => absurd (by omega) h1⟩
      have hi : i < L.length := by omega
      have hv := small_at hS hi
      have hxe := (hx.ext x0).ext he
      have hm0 := Int.emod_nonneg a (b := L[i] + 1) (by omega)
      have hm1 := Int.emod_lt_of_pos a (b := L[i] + 1) (by omega)
      have hd0 := Int.ediv_nonneg (a := a) (b := L[i] + 1) ha.1 (by omega)
      have hd1 := Int.ediv_le_self (L[i] + 1) ha.1
      refine ⟨trivial, x, (b0.ext he).rc rfl, i, rfl, by rw [hx.slLen]; exact hi, L[i], Li.rd hxe (List.getElem?_eq_getElem hi), fits_small (by omega) (by omega), ha.1, by omega, fits_small (by omega) (by omega), fun m10 h10 => ?_⟩
      obtain ⟨c11, m12, a1, a2, a3, a4, a5, a6⟩ := ap_step t22 g3 z3 (by omega) ho hf he (ws := [.int .i64 (a % (L[i] + 1))]) rfl (by omega) h10
      refine ⟨c11, m12, a1, trivial, x, (b0.ext a4).rc rfl, i, rfl, by rw [hx.slLen]; exact hi, L[i], Li.rd ((hx.ext x0).ext a4) (List.getElem?_eq_getElem hi), fits_small (by omega) (by omega), ha.1, by omega, fits_small (by omega) (by omega), fits_small (by omega) (by omega), ?_⟩
      refine ih (i + 1) c11 _ m12 (A ++ [a % (L[i] + 1)]) (by omega) (by rw [← ints_app]; exact a2) a3 a4 ⟨hd0, by omega⟩ ?_
      rw [← heq, List.drop_eq_getElem_cons hi, List.append_assoc]; rfl
  exact hgo L.length 0 .sl0 n m0 [] (by omega) (Own1.nil' _ _) (Fr.nil _) (.refl _) hn rfl
theorem many_eq : ∀ {L : List Int} {a : Int}, Small L → 0 ≤ a → mulL a L ≤ 4000 → manyL a L = mulL a L
  | [], a, _, _, _ => rfl
  | v :: L, a, h, ha, h4 => by
    have hv := h v (List.mem_cons_self ..)
    have hL : Small L := fun w hw => h w (List.mem_cons_of_mem _ hw)
    have h1 : 0 ≤ a * (v + 1) := Int.mul_nonneg ha (by omega)
    have h2 : a * (v + 1) ≤ mulL (a * (v + 1)) L := mulL_ge hL h1
    have h3 : mulL (a * (v + 1)) L ≤ 4000 := h4
    show manyL (min 4000 (a * (v + 1))) L = mulL (a * (v + 1)) L
    rw [Int.min_eq_right (by omega)]
    exact many_eq hL h1 h3
theorem many_prod {L : List Int} (hS : Small L) (h : prodN L ≤ 2000) : manyL 1 L = (prodN L : Int) := by
  have h1 := mulL_prod L 1 hS
  rw [many_eq hS (by omega) (by omega), h1]; omega
def trN (p : Int → Bool) : Nat → List Int
  | 0 => []
  | n + 1 => trN p n ++ (if p (n : Int) then [(n : Int)] else [])
theorem trN_len (p : Int → Bool) : ∀ n, (trN p n).length ≤ n
  | 0 => Nat.le_refl _
  | n + 1 => by
    show (trN p n ++ _).length ≤ _
    rw [List.length_append]
    have := trN_len p n
    split <;> simp <;> omega
theorem mem_trN (p : Int → Bool) (a : Int) : ∀ n : Nat, a ∈ trN p n ↔ 0 ≤ a ∧ a < (n : Int) ∧ p a = true
  | 0 => ⟨fun h => (by cases h), fun h => by omega⟩
  | n + 1 => by
    show a ∈ trN p n ++ _ ↔ _
    rw [List.mem_append, mem_trN p a n]
    constructor
    · rintro (h | h)
      · exact ⟨h.1, by omega, h.2.2⟩
      · by_cases hp : p (n : Int) = true
        · rw [if_pos hp, List.mem_singleton] at h
          rw [h]; exact ⟨by omega, by omega, hp⟩
        · rw [if_neg hp] at h; cases h
    · rintro ⟨h1, h2, h3⟩
      by_cases ha : a = (n : Int)
      · subst ha; rw [if_pos h3]; exact .inr (List.mem_singleton.2 rfl)
      · exact .inl ⟨h1, by omega, h3⟩
theorem allNF {r c sm : Int} {x y : C} (h1 : noFnC x = true) (h2 : noFnC y = true) : allS noFnC [.int .i64 r, .int .i64 c, x, .int .i64 sm, y] = true := by
  show ifB true (ifB true (ifB (noFnC x) (ifB true (ifB (noFnC y) true false) false) false) false) false = true
  rw [h1, h2]; rfl
theorem allNF3 {r c : Int} {x : C} (h1 : noFnC x = true) : allS noFnC [.int .i64 r, .int .i64 c, x] = true := by
  show ifB true (ifB true (ifB (noFnC x) true false) false) false = true
  rw [h1]; rfl
def truN (c sm : Int) (L : List Int) (N : List Cnt) : List Int := trN (fun n => truthR c sm L N (nthL L n)) (prodN L)
/-- Truths, of the reference -/
theorem s63 {r c sm : Int} {x y : C} {L : List Int} {N : List Cnt} {m : M} {Q : V → M → Prop} (hx : Li m x L) (hy : Lc m y N) (hv : svErr r c L sm N = 0)
    (h : ∀ z m', Ext m m' → Li m' z (truN c sm L N) → Fr m z → Q (.c z) m') : Wc prog tbl 63 [.agg 5 [.int .i64 r, .int .i64 c, x, .int .i64 sm, y], .c (.int .i64 0)] m Q := by
  obtain ⟨hO, hsm⟩ := okay_of hv
  obtain ⟨hS, hL, hrc⟩ := field_of hO.f
  have hP := few_truths hv
  refine w63 fun m0 e0 R1 hstep => ?_
  obtain ⟨b0, x0⟩ := Bk.new e0
  have hgo : ∀ (d i : Nat) (s : C) (m4 : M), d + i = prodN L → Own1 m4 1 s (ints (trN (fun n => truthR c sm L N (nthL L n)) i)) (trN (fun n => truthR c sm L N (nthL L n)) i).length → Fr m0 s → Ext m0 m4 → R1 [.c s, .c (.int .i64 (i : Int))] m4 := by
    intro d
    induction d with
    | zero =>
      intro i s m4 hd ho hf he
      have hi : i = prodN L := by omega
      subst hi
      refine hstep _ _ _ ⟨trivial, r, c, x, (b0.ext he).rp (k := 0) (j := 3) rfl (by omega), s60 ((hx.ext x0).ext he) hS (by omega) fun m9 e9 => ⟨_, rfl, ?_⟩⟩
      rw [many_prod hS hP, ifB_dec]
      refine ⟨fun h1 => by omega, fun _ => h s m9 ((x0.trans he).trans e9) (ho.ls.ext e9) (hf.mono x0.nxt)⟩
    | succ d ih =>
      intro i s m4 hd ho hf he
      refine hstep _ _ _ ⟨trivial, r, c, x, (b0.ext he).rp (k := 0) (j := 3) rfl (by omega), s60 ((hx.ext x0).ext he) hS (by omega) fun m9 e9 => ⟨_, rfl, ?_⟩⟩
      rw [many_prod hS hP, ifB_dec]
      refine ⟨fun _ => ?_, fun h1 => absurd (by omega) h1⟩
      have he9 := he.trans e9
      refine ⟨r, c, x, sm, y, (b0.ext he9).ra, trivial, r, c, x, (b0.ext he9).rp (k := 0) (j := 3) rfl (by omega), s67 ((hx.ext x0).ext he9) hS (by omega) ⟨by omega, by omega⟩ fun z m20 e20 hz _ => ⟨z, rfl, ?_, ?_⟩⟩
      · rw [allNF hx.noFn hy.noFn]; exact (b0.ext (he9.trans e20)).ra
      have he20 := he9.trans e20
      refine s38 ((hx.ext x0).ext he20) ((hy.ext x0).ext he20) hO hsm hz (by rw [nthL_len]; omega) fun m23 e23 => ⟨_, rfl, ?_⟩
      have he23 := he20.trans e23
      have ho23 := ((ho.ext e9).ext e20).ext e23
      have htr : trN (fun n => truthR c sm L N (nthL L n)) (i + 1) = trN (fun n => truthR c sm L N (nthL L n)) i ++ (if truthR c sm L N (nthL L (i : Int)) then [(i : Int)] else []) := rfl
      have hln := trN_len (fun n => truthR c sm L N (nthL L n)) i
      cases hb : truthR c sm L N (nthL L (i : Int)) with
      | true =>
        show ∀ _, _
        intro m25 h25
        obtain ⟨c26, m27, a1, a2, a3, a4, a5, a6⟩ := ap_step t22 g3 z3 (by omega) ho23 hf he23 (ws := [.int .i64 (i : Int)]) rfl (by omega) h25
        refine ⟨c26, m27, a1, fits_small (by omega) (by omega), ih (i + 1) c26 m27 (by omega) ?_ a3 a4⟩
        rw [htr, hb, if_pos rfl, ← ints_app, List.length_append]
        exact a2
      | false =>
        refine ⟨fits_small (by omega) (by omega), ih (i + 1) s m23 (by omega) ?_ hf he23⟩
        rw [htr, hb, if_neg (by decide), List.append_nil]
        exact ho23
  exact hgo (prodN L) 0 .sl0 m0 (by omega) (Own1.nil' _ _) (Fr.nil _) (.refl _)
end
end Go.Proofs.Ytgkjfhkjgdiodaa

namespace Go.Proofs.Ytgkjfhkjgdiodaa
open _root_.Go.Proofs.Try
open Go.Abs
set_option maxRecDepth 100000
noncomputable section
theorem small_nth : ∀ {L : List Int} {n : Int}, Small L → 0 ≤ n → Small (nthL L n)
  | [], _, _, _ => fun v hv => by cases hv
  | v :: L, n, h, hn => by
    have hv := h v (List.mem_cons_self ..)
    intro w hw
    have h0 := Int.emod_nonneg n (b := v + 1) (by omega)
    have h1 := Int.emod_lt_of_pos n (b := v + 1) (by omega)
    rcases List.mem_cons.1 hw with rfl | h2
    · omega
    · exact small_nth (L := L) (n := n / (v + 1)) (fun w hw => h w (List.mem_cons_of_mem _ hw)) (Int.ediv_nonneg hn (by omega)) w h2
def minF (a : Int) : List Int → Int
  | [] => a
  | v :: D => minF (min a v) D
def maxF (a : Int) : List Int → Int
  | [] => a
  | v :: D => maxF (max a v) D
theorem minF_step {D : List Int} {i : Nat} (hi : i < D.length) (a : Int) : minF a (D.drop i) = minF (min a D[i]) (D.drop (i + 1)) := by rw [List.drop_eq_getElem_cons hi]; rfl
theorem maxF_step {D : List Int} {i : Nat} (hi : i < D.length) (a : Int) : maxF a (D.drop i) = maxF (max a D[i]) (D.drop (i + 1)) := by rw [List.drop_eq_getElem_cons hi]; rfl
theorem s46 {r c sm : Int} {x y z : C} {L A : List Int} {m : M} {Q : V → M → Prop} (hx : Li m x L) (hf : isField r c L = true) (hz : Li m z A) (hA : A.length ≤ 100000) (hA2 : ∀ v ∈ A, 0 ≤ v ∧ v ≤ 100000)
    (h : ∀ m', Ext m m' → Q (.agg 2 [.int .i64 (minF 1099511627776 (A.map fun v => shareOf L (nthL L v))), .int .i64 (maxF (-1) (A.map fun v => shareOf L (nthL L v)))]) m') :
    Wc prog tbl 46 [.agg 5 [.int .i64 r, .int .i64 c, x, .int .i64 sm, y], .c z] m Q := by
  obtain ⟨hS, hL, hrc⟩ := field_of hf
  refine w46 fun m0 e0 m1 e1 m2 e2 => ?_
  obtain ⟨b0, x0⟩ := Bk.new e0
  obtain ⟨b1, x1⟩ := Bk.new e1
  obtain ⟨b2, x2⟩ := Bk.new e2
  have n0 : m0.nxt = m.nxt + 1 := by rw [e0]; rfl
  have n1 : m1.nxt = m.nxt + 2 := by rw [e1]; show m0.nxt + 1 = _; omega
  refine ⟨_, b2.st _, fun R4 hstep => ?_⟩
  have hgo : ∀ (d i : Nat) (lo hi : Int) (m6 : M), d + i = A.length → Ext m m6 → Bk m6 m.nxt 5 [.int .i64 r, .int .i64 c, x, .int .i64 sm, y] → Bk m6 m0.nxt 2 [.int .i64 0, .int .i64 0] → Bk m6 m1.nxt 2 [.int .i64 lo, .int .i64 hi] →
      minF lo ((A.map fun v => shareOf L (nthL L v)).drop i) = minF 1099511627776 (A.map fun v => shareOf L (nthL L v)) → maxF hi ((A.map fun v => shareOf L (nthL L v)).drop i) = maxF (-1) (A.map fun v => shareOf L (nthL L v)) → R4 [.c (.int .i64 (i : Int))] m6 := by
    intro d
    induction d with
    | zero =>
      intro i lo hi m6 hd he k0 k1 k2 h1 h2
      refine hstep _ _ ⟨hz.isSl, ?_⟩
      rw [hz.slLen, ifB_dec]
      refine ⟨fun h1 => by omega, fun _ => ?_⟩
      rw [List.drop_eq_nil_of_le (by rw [List.length_map]; omega)] at h1 h2
      have h1' : lo = minF 1099511627776 (A.map fun v => shareOf L (nthL L v)) := h1
      have h2' : hi = maxF (-1) (A.map fun v => shareOf L (nthL L v)) := h2
      refine ⟨lo, hi, k2.ra, _, k1.st _, lo, hi, (k1.set _).ra, ?_⟩
      have hq := h _ (he.setR (b := m0.nxt) (by omega) (.cells 2 [.int .i64 lo, .int .i64 hi] false))
      rw [← h1', ← h2'] at hq
      exact hq
    | succ d ih =>
      intro i lo hi m6 hd he k0 k1 k2 h1 h2
      refine hstep _ _ ⟨hz.isSl, ?_⟩
      rw [hz.slLen, ifB_dec]
      refine ⟨fun _ => ?_, fun h1 => absurd (by omega) h1⟩
      have hi' : i < A.length := by omega
      have hAi := hA2 _ (List.getElem_mem hi')
      refine ⟨trivial, r, c, x, k0.rp (k := 0) (j := 3) rfl (by omega), trivial, r, c, x, k0.rp (k := 0) (j := 3) rfl (by omega), i, rfl, hi', A[i], Li.rd (hz.ext he) (List.getElem?_eq_getElem hi'), s67 (hx.ext he) hS (by omega) hAi fun w m16 e16 hw _ => ⟨w, rfl, ?_, ?_⟩⟩
      · rw [allNF3 hx.noFn]; exact (k0.ext e16).rp (k := 0) (j := 3) rfl (by omega)
      refine s40 (hx.ext (he.trans e16)) hS (by omega) hw (small_nth hS hAi.1) (nthL_len L _) fun m19 e19 => ⟨_, rfl, ?_⟩
      have k2' := (k2.ext e16).ext e19
      have he19 := (he.trans e16).trans e19
      refine ⟨trivial, lo, k2'.rc rfl, trivial, hi, k2'.rc rfl, _, k2'.st _, fits_small (by omega) (by omega), ih (i + 1) _ _ _ (by omega) (he19.setR (by omega) _) (((k0.ext e16).ext e19).setNe (by omega) _) (((k1.ext e16).ext e19).setNe (by omega) _) (k2'.set _) ?_ ?_⟩
      · rw [minF_step (by rw [List.length_map]; exact hi')] at h1
        rw [List.getElem_map] at h1; exact h1
      · rw [maxF_step (by rw [List.length_map]; exact hi')] at h2
        rw [List.getElem_map] at h2; exact h2
  exact hgo A.length 0 _ _ _ (by omega) (((x0.trans x1).trans x2).setR (by omega) _) (((b0.ext x1).ext x2).setNe (by omega) _) ((b1.ext x2).setNe (by omega) _) (b2.set _) rfl rfl
theorem s47 {r c sm : Int} {x y z : C} {p : Nat} {L A : List Int} {m : M} {Q : V → M → Prop} (hx : Li m x L) (hf : isField r c L = true) (hz : Li m z A) (hA : A.length ≤ 100000) (hA2 : ∀ v ∈ A, 0 ≤ v ∧ v ≤ 100000) (hp : p < L.length)
    (h : ∀ m', Ext m m' → Q (.agg 2 [.int .i64 (minF 1099511627776 (A.map fun v => (nthL L v)[p]!)), .int .i64 (maxF (-1) (A.map fun v => (nthL L v)[p]!))]) m') :
    Wc prog tbl 47 [.agg 5 [.int .i64 r, .int .i64 c, x, .int .i64 sm, y], .c z, .c (.int .i64 (p : Int))] m Q := by
  obtain ⟨hS, hL, hrc⟩ := field_of hf
  refine w47 fun m0 e0 m1 e1 m2 e2 => ?_
  obtain ⟨b0, x0⟩ := Bk.new e0
  obtain ⟨b1, x1⟩ := Bk.new e1
  obtain ⟨b2, x2⟩ := Bk.new e2
  have n0 : m0.nxt = m.nxt + 1 := by rw [e0]; rfl
  have n1 : m1.nxt = m.nxt + 2 := by rw [e1]; show m0.nxt + 1 = _; omega
  refine ⟨_, b2.st _, fun R4 hstep => ?_⟩
  have hgo : ∀ (d i : Nat) (lo hi : Int) (m6 : M), d + i = A.length → Ext m m6 → Bk m6 m.nxt 5 [.int .i64 r, .int .i64 c, x, .int .i64 sm, y] → Bk m6 m0.nxt 2 [.int .i64 0, .int .i64 0] → Bk m6 m1.nxt 2 [.int .i64 lo, .int .i64 hi] →
      minF lo ((A.map fun v => (nthL L v)[p]!).drop i) = minF 1099511627776 (A.map fun v => (nthL L v)[p]!) → maxF hi ((A.map fun v => (nthL L v)[p]!).drop i) = maxF (-1) (A.map fun v => (nthL L v)[p]!) → R4 [.c (.int .i64 (i : Int))] m6 := by
    intro d
    induction d with
    | zero =>
      intro i lo hi m6 hd he k0 k1 k2 h1 h2
      refine hstep _ _ ⟨hz.isSl, ?_⟩
      rw [hz.slLen, ifB_dec]
      refine ⟨fun h1 => by omega, fun _ => ?_⟩
      rw [List.drop_eq_nil_of_le (by rw [List.length_map]; omega)] at h1 h2
      have h1' : lo = minF 1099511627776 (A.map fun v => (nthL L v)[p]!) := h1
      have h2' : hi = maxF (-1) (A.map fun v => (nthL L v)[p]!) := h2
      refine ⟨lo, hi, k2.ra, _, k1.st _, lo, hi, (k1.set _).ra, ?_⟩
      have hq := h _ (he.setR (b := m0.nxt) (by omega) (.cells 2 [.int .i64 lo, .int .i64 hi] false))
      rw [← h1', ← h2'] at hq
      exact hq
    | succ d ih =>
      intro i lo hi m6 hd he k0 k1 k2 h1 h2
      refine hstep _ _ ⟨hz.isSl, ?_⟩
      rw [hz.slLen, ifB_dec]
      refine ⟨fun _ => ?_, fun h1 => absurd (by omega) h1⟩
      have hi' : i < A.length := by omega
      have hAi := hA2 _ (List.getElem_mem hi')
      refine ⟨trivial, r, c, x, k0.rp (k := 0) (j := 3) rfl (by omega), i, rfl, hi', A[i], Li.rd (hz.ext he) (List.getElem?_eq_getElem hi'), s67 (hx.ext he) hS (by omega) hAi fun w m16 e16 hw _ => ⟨w, rfl, ?_⟩⟩
      have hpn : p < (nthL L A[i]).length := by rw [nthL_len]; exact hp
      have k2' := k2.ext e16
      have he19 := he.trans e16
      refine ⟨p, rfl, by rw [hw.slLen]; exact hpn, (nthL L A[i])[p], Li.rd hw (List.getElem?_eq_getElem hpn), trivial, lo, k2'.rc rfl, trivial, hi, k2'.rc rfl, _, k2'.st _, fits_small (by omega) (by omega), ih (i + 1) _ _ _ (by omega) (he19.setR (by omega) _) ((k0.ext e16).setNe (by omega) _) ((k1.ext e16).setNe (by omega) _) (k2'.set _) ?_ ?_⟩
      · rw [minF_step (by rw [List.length_map]; exact hi'), List.getElem_map, getElem!_pos _ p hpn] at h1; exact h1
      · rw [maxF_step (by rw [List.length_map]; exact hi'), List.getElem_map, getElem!_pos _ p hpn] at h2; exact h2
  exact hgo A.length 0 _ _ _ (by omega) (((x0.trans x1).trans x2).setR (by omega) _) (((b0.ext x1).ext x2).setNe (by omega) _) ((b1.ext x2).setNe (by omega) _) (b2.set _) rfl rfl
def sureErr (r c : Int) (L : List Int) (sm : Int) (N : List Cnt) : Int := if svErr r c L sm N = 0 then (if (truN c sm L N).length = 0 then 9 else 0) else svErr r c L sm N
theorem s43 {r c sm : Int} {x y : C} {L : List Int} {N : List Cnt} {m : M} {Q : V → M → Prop} (hx : Li m x L) (hL : L.length ≤ 1048576) (hy : Lc m y N) (hN : N.length ≤ 1000)
    (hbad : sureErr r c L sm N ≠ 0 → ∀ m', Ext m m' → Q (.tup [.c .sl0, .c (.int .i64 (sureErr r c L sm N))]) m')
    (hgood : sureErr r c L sm N = 0 → ∀ z m', Ext m m' → Li m' z (truN c sm L N) → Q (.tup [.c z, .c (.int .i64 0)]) m') :
    Wc prog tbl 43 [.agg 5 [.int .i64 r, .int .i64 c, x, .int .i64 sm, y]] m Q := by
  refine w43 fun m0 e0 => ?_
  obtain ⟨b0, x0⟩ := Bk.new e0
  refine ⟨r, c, x, sm, y, b0.ra, s36 (hx.ext x0) hL (hy.ext x0) hN fun m7 e7 => ⟨_, rfl, ?_⟩⟩
  have x7 := x0.trans e7
  rw [ifB_ndec]
  refine ⟨fun h1 => ?_, fun h1 => ?_⟩
  · have ht : sureErr r c L sm N = svErr r c L sm N := by unfold sureErr; rw [if_neg h1]
    have hq := hbad (by rw [ht]; exact h1) m7 x7
    rw [ht] at hq; exact hq
  refine ⟨r, c, x, sm, y, (b0.ext e7).ra, s63 (hx.ext x7) (hy.ext x7) h1 fun z m15 e15 hz _ => ⟨z, rfl, hz.isSl, ?_⟩⟩
  rw [hz.slLen, ifB_dec]
  refine ⟨fun h2 => ?_, fun h2 => ?_⟩
  · have ht : sureErr r c L sm N = 9 := by unfold sureErr; rw [if_pos h1, if_pos (by omega)]
    have hq := hbad (by rw [ht]; decide) m15 (x7.trans e15)
    rw [ht] at hq; exact hq
  · have ht : sureErr r c L sm N = 0 := by unfold sureErr; rw [if_pos h1, if_neg (by omega)]
    exact hgood ht z m15 (x7.trans e15) hz
end
end Go.Proofs.Ytgkjfhkjgdiodaa

namespace Go.Proofs.Ytgkjfhkjgdiodaa
open _root_.Go.Proofs.Try
open Go.Abs
set_option maxRecDepth 100000
noncomputable section
def lst : List Int → List Int → Prop
  | [], [] => True
  | v :: L, w :: H => (0 ≤ w ∧ w ≤ v) ∧ lst L H
  | _, _ => False
theorem lst_iff : ∀ {L H : List Int}, lst L H ↔ H.length = L.length ∧ ∀ i : Nat, i < L.length → 0 ≤ H[i]! ∧ H[i]! ≤ L[i]!
  | [], [] => ⟨fun _ => ⟨rfl, fun i hi => by simp at hi⟩, fun _ => trivial⟩
  | [], w :: H => ⟨fun h => h.elim, fun h => by simp at h⟩
  | v :: L, [] => ⟨fun h => h.elim, fun h => by simp at h⟩
  | v :: L, w :: H => by
    show (0 ≤ w ∧ w ≤ v) ∧ lst L H ↔ _
    rw [lst_iff]
    constructor
    · rintro ⟨h1, h2, h3⟩
      refine ⟨by simp [h2], fun i hi => ?_⟩
      cases i with
      | zero => exact h1
      | succ i => exact h3 i (by simpa using hi)
    · rintro ⟨h2, h3⟩
      exact ⟨h3 0 (by simp), by simpa using h2, fun i hi => h3 (i + 1) (by simpa using hi)⟩
theorem listed_lst {L H : List Int} : listed L H = true ↔ lst L H := by rw [lst_iff]; exact decide_eq_true_iff
theorem nth_surj : ∀ {L H : List Int}, Small L → lst L H → ∃ n : Int, 0 ≤ n ∧ n < (prodN L : Int) ∧ nthL L n = H
  | [], [], _, _ => ⟨0, by omega, by show (0 : Int) < ((1 : Nat) : Int); omega, rfl⟩
  | [], _ :: _, _, h => h.elim
  | _ :: _, [], _, h => h.elim
  | v :: L, w :: H, hS, h => by
    have hv := hS v (List.mem_cons_self ..)
    obtain ⟨hw, hr⟩ : (0 ≤ w ∧ w ≤ v) ∧ lst L H := h
    obtain ⟨n, h0, h1, h2⟩ := nth_surj (fun u hu => hS u (List.mem_cons_of_mem _ hu)) hr
    have hpos : 0 ≤ (v + 1) * n := Int.mul_nonneg (by omega) h0
    have hlt : (v + 1) * (n + 1) ≤ (v + 1) * (prodN L : Int) := Int.mul_le_mul_of_nonneg_left (by omega) (by omega)
    rw [Int.mul_add, Int.mul_one] at hlt
    refine ⟨w + (v + 1) * n, by omega, ?_, ?_⟩
    · show _ < (((v.toNat + 1) * prodN L : Nat) : Int)
      rw [Int.natCast_mul, show ((v.toNat + 1 : Nat) : Int) = v + 1 by omega]; omega
    · show (w + (v + 1) * n) % (v + 1) :: nthL L ((w + (v + 1) * n) / (v + 1)) = w :: H
      rw [Int.add_mul_emod_self_left, Int.emod_eq_of_lt hw.1 (by omega), Int.add_mul_ediv_left _ _ (by omega), Int.ediv_eq_zero_of_lt hw.1 (by omega), Int.zero_add, h2]
theorem mem_truN {c sm : Int} {L : List Int} {N : List Cnt} {a : Int} : a ∈ truN c sm L N ↔ 0 ≤ a ∧ a < (prodN L : Int) ∧ truthR c sm L N (nthL L a) = true := mem_trN _ _ _
theorem truthR_listed {c sm : Int} {L H : List Int} {N : List Cnt} (h : truthR c sm L N H = true) : listed L H = true := by
  by_cases hT : TruthR c sm L N H
  · exact hT.1
  · rw [truthR_false hT] at h; cases h
theorem same_nums {r c sm : Int} {L : List Int} {N : List Cnt} (hv : svErr r c L sm N = 0) (num : List Int → Int) (v : Int) : v ∈ (truN c sm L N).map (fun a => num (nthL L a)) ↔ v ∈ (truthsP c sm L N).map num := by
  obtain ⟨hO, hsm⟩ := okay_of hv
  obtain ⟨hS, _, _⟩ := field_of hO.f
  rw [List.mem_map, List.mem_map]
  constructor
  · rintro ⟨a, h1, h2⟩
    exact ⟨nthL L a, (mem_truths hO hsm.1).2 (mem_truN.1 h1).2.2, h2⟩
  · rintro ⟨H, h1, h2⟩
    have ht := (mem_truths hO hsm.1).1 h1
    obtain ⟨n, q1, q2, q3⟩ := nth_surj hS (listed_lst.1 (truthR_listed ht))
    exact ⟨n, mem_truN.2 ⟨q1, q2, by rw [q3]; exact ht⟩, by rw [q3]; exact h2⟩
theorem sure_true {r c sm : Int} {L : List Int} {N : List Cnt} : sureErr r c L sm N = trueErr r c L sm N := by
  unfold sureErr trueErr
  by_cases hv : svErr r c L sm N = 0
  · rw [if_pos hv, if_pos hv]
    have hs := same_nums hv (fun _ => 0) 0
    cases h1 : truN c sm L N with
    | nil =>
      cases h2 : truthsP c sm L N with
      | nil => rfl
      | cons H T => rw [h1, h2] at hs; simp at hs
    | cons a A =>
      cases h2 : truthsP c sm L N with
      | nil => rw [h1, h2] at hs; simp at hs
      | cons H T => rfl
  · rw [if_neg hv, if_neg hv]
theorem minR_spec : ∀ (D : List Int) (a : Int), (minR a D = a ∨ minR a D ∈ D) ∧ minR a D ≤ a ∧ ∀ v ∈ D, minR a D ≤ v
  | [], a => ⟨.inl rfl, Int.le_refl _, fun v hv => by cases hv⟩
  | u :: D, a => by
    obtain ⟨h1, h2, h3⟩ := minR_spec D (if u < a then u else a)
    show (minR (if u < a then u else a) D = a ∨ minR (if u < a then u else a) D ∈ u :: D) ∧ minR (if u < a then u else a) D ≤ a ∧ ∀ v ∈ u :: D, minR (if u < a then u else a) D ≤ v
    generalize minR (if u < a then u else a) D = w at h1 h2 h3
    refine ⟨?_, ?_, fun v hv => ?_⟩
    · rcases h1 with h1 | h1
      · split at h1
        · exact .inr (by rw [h1]; exact List.mem_cons_self ..)
        · exact .inl h1
      · exact .inr (List.mem_cons_of_mem _ h1)
    · split at h2 <;> omega
    · rcases List.mem_cons.1 hv with rfl | h4
      · split at h2 <;> omega
      · exact h3 v h4
theorem maxR_spec : ∀ (D : List Int) (a : Int), (maxR a D = a ∨ maxR a D ∈ D) ∧ a ≤ maxR a D ∧ ∀ v ∈ D, v ≤ maxR a D
  | [], a => ⟨.inl rfl, Int.le_refl _, fun v hv => by cases hv⟩
  | u :: D, a => by
    obtain ⟨h1, h2, h3⟩ := maxR_spec D (max a u)
    show (maxR (max a u) D = a ∨ maxR (max a u) D ∈ u :: D) ∧ a ≤ maxR (max a u) D ∧ ∀ v ∈ u :: D, v ≤ maxR (max a u) D
    generalize maxR (max a u) D = w at h1 h2 h3
    refine ⟨?_, by omega, fun v hv => ?_⟩
    · rcases h1 with h1 | h1
      · rcases (by omega : max a u = a ∨ max a u = u) with h4 | h4
        · exact .inl (by rw [h1, h4])
        · exact .inr (by rw [h1, h4]; exact List.mem_cons_self ..)
      · exact .inr (List.mem_cons_of_mem _ h1)
    · rcases List.mem_cons.1 hv with rfl | h4
      · omega
      · exact h3 v h4
theorem minF_spec : ∀ (D : List Int) (a : Int), (minF a D = a ∨ minF a D ∈ D) ∧ minF a D ≤ a ∧ ∀ v ∈ D, minF a D ≤ v
  | [], a => ⟨.inl rfl, Int.le_refl _, fun v hv => by cases hv⟩
  | u :: D, a => by
    obtain ⟨h1, h2, h3⟩ := minF_spec D (min a u)
    show (minF (min a u) D = a ∨ minF (min a u) D ∈ u :: D) ∧ minF (min a u) D ≤ a ∧ ∀ v ∈ u :: D, minF (min a u) D ≤ v
    generalize minF (min a u) D = w at h1 h2 h3
    refine ⟨?_, by omega, fun v hv => ?_⟩
    · rcases h1 with h1 | h1
      · rcases (by omega : min a u = a ∨ min a u = u) with h4 | h4
        · exact .inl (by rw [h1, h4])
        · exact .inr (by rw [h1, h4]; exact List.mem_cons_self ..)
      · exact .inr (List.mem_cons_of_mem _ h1)
    · rcases List.mem_cons.1 hv with rfl | h4
      · omega
      · exact h3 v h4
theorem maxF_eq : ∀ (D : List Int) (a : Int), maxF a D = maxR a D
  | [], _ => rfl
  | u :: D, a => maxF_eq D (max a u)
theorem lo_spec {D : List Int} (h : 0 < D.length) : loOf D ∈ D ∧ ∀ v ∈ D, loOf D ≤ v := by
  cases D with
  | nil => simp at h
  | cons u D =>
    obtain ⟨h1, h2, h3⟩ := minR_spec (u :: D) u
    exact ⟨h1.elim (fun h4 => by show minR u (u :: D) ∈ _; rw [h4]; exact List.mem_cons_self ..) id, h3⟩
theorem hi_spec {D : List Int} (h : 0 < D.length) : hiOf D ∈ D ∧ ∀ v ∈ D, v ≤ hiOf D := by
  cases D with
  | nil => simp at h
  | cons u D =>
    obtain ⟨h1, h2, h3⟩ := maxR_spec D u
    refine ⟨h1.elim (fun h4 => by show maxR u D ∈ _; rw [h4]; exact List.mem_cons_self ..) fun h4 => List.mem_cons_of_mem _ h4, fun v hv => ?_⟩
    rcases List.mem_cons.1 hv with rfl | h5
    · exact h2
    · exact h3 v h5
theorem bounds_eq {D E : List Int} (h : 0 < D.length) (hs : ∀ v, v ∈ E ↔ v ∈ D) (hb : ∀ v ∈ D, 0 ≤ v ∧ v ≤ 100000) : minF 1099511627776 E = loOf D ∧ maxF (-1) E = hiOf D := by
  obtain ⟨l1, l2⟩ := lo_spec h
  obtain ⟨g1, g2⟩ := hi_spec h
  constructor
  · obtain ⟨h1, h2, h3⟩ := minF_spec E 1099511627776
    have h4 := h3 _ ((hs _).2 l1)
    have h5 := hb _ l1
    rcases h1 with h1 | h1
    · omega
    · have := l2 _ ((hs _).1 h1); omega
  · rw [maxF_eq]
    obtain ⟨h1, h2, h3⟩ := maxR_spec E (-1)
    have h4 := h3 _ ((hs _).2 g1)
    have h5 := hb _ g1
    rcases h1 with h1 | h1
    · omega
    · have := g2 _ ((hs _).1 h1); omega
theorem share_bd {L H : List Int} (hS : Small L) (hL : L.length ≤ 9) (hl : listed L H = true) : 0 ≤ shareOf L H ∧ shareOf L H ≤ 100000 := by
  have hlen := listed_len hl
  have h1 := sumA_ge (L := H) (fun v hv => (small_listed hS hl v hv).1) (a := 0) (by omega)
  have h2 := sumA_le (L := H) (fun v hv => (small_listed hS hl v hv).2) (a := 0)
  have h3 := sumA_ge (L := L) (fun v hv => (hS v hv).1) (a := 0) (by omega)
  unfold shareOf
  split
  · omega
  · have h4 : 0 ≤ sumA 0 H * 100 := by omega
    have h5 := Int.ediv_nonneg h4 h3
    have h6 := Int.ediv_le_self (sumA 0 L) h4
    omega
end
end Go.Proofs.Ytgkjfhkjgdiodaa

namespace Go.Proofs.Ytgkjfhkjgdiodaa
open _root_.Go.Proofs.Try
open Go.Abs
set_option maxRecDepth 100000
noncomputable section
theorem s86 {n : Int} {m : M} {Q : V → M → Prop} (h : ∀ m', Ext m m' → Q (.c (.bool (decide (0 ≤ n ∧ n ≤ 100)))) m') : Wc prog tbl 86 [.c (.int .i64 n)] m Q :=
  w86 (s92 fun m' e => ⟨_, rfl, h m' e⟩)
def aboveV (r c : Int) (L : List Int) (sm : Int) (N : List Cnt) (n : Int) : Int :=
  if askErr r c L sm N (decide (0 ≤ n ∧ n ≤ 100)) = 0 then (if n ≤ loOf ((truthsP c sm L N).map (shareOf L)) then 1 else if hiOf ((truthsP c sm L N).map (shareOf L)) < n then 2 else 3) else 0
theorem s48 {r c sm n : Int} {x y : C} {L : List Int} {N : List Cnt} {m : M} {Q : V → M → Prop} (hx : Li m x L) (hL : L.length ≤ 1048576) (hy : Lc m y N) (hN : N.length ≤ 1000)
    (h : ∀ m', Ext m m' → Q (.tup [.c (.int .i64 (aboveV r c L sm N n)), .c (.int .i64 (askErr r c L sm N (decide (0 ≤ n ∧ n ≤ 100))))]) m') :
    Wc prog tbl 48 [.agg 5 [.int .i64 r, .int .i64 c, x, .int .i64 sm, y], .c (.int .i64 n)] m Q := by
  refine w48 fun m0 e0 => ?_
  obtain ⟨b0, x0⟩ := Bk.new e0
  refine ⟨r, c, x, sm, y, b0.ra, s83 (inr := decide (0 ≤ n ∧ n ≤ 100)) (hx.ext x0) hL (hy.ext x0) hN (fun _ m' _ Q' hq' => ?_) (fun hne m7 e7 => ⟨0, 0, .sl0, 0, .sl0, .map0, _, rfl, fun m15 h15 => ?_⟩) fun hz m7 mb f e7 hw => ⟨r, c, x, sm, y, .map mb, 0, rfl, fun m15 h15 => ?_⟩⟩
  · show Wc prog tbl 86 [.c (.int .i64 n)] m' Q'
    exact s86 hq'
  · obtain ⟨b15, x15⟩ := Bk.new h15
    have e16 : Ext m7 (m15.set m7.nxt (.cells 6 [.int .i64 0, .int .i64 0, .sl0, .int .i64 0, .sl0, .map0] false)) := x15.setR (Nat.le_refl _) _
    refine ⟨_, b15.st _, ?_⟩
    rw [ifB_ndec]
    refine ⟨fun _ => ?_, fun h1 => absurd h1 hne⟩
    have hq := h _ ((x0.trans e7).trans e16)
    unfold aboveV at hq
    rw [if_neg hne] at hq
    exact hq
  · obtain ⟨b15, x15⟩ := Bk.new h15
    have k16 := b15.set [.int .i64 r, .int .i64 c, x, .int .i64 sm, y, .map mb]
    have e16 : Ext m7 (m15.set m7.nxt (.cells 6 [.int .i64 r, .int .i64 c, x, .int .i64 sm, y, .map mb] false)) := x15.setR (Nat.le_refl _) _
    refine ⟨_, b15.st _, ?_⟩
    generalize m15.set m7.nxt (.cells 6 [.int .i64 r, .int .i64 c, x, .int .i64 sm, y, .map mb] false) = m16 at e16 k16
    obtain ⟨hin, ht⟩ := ask_zero hz
    obtain ⟨hv, hpos⟩ := true_sv ht
    obtain ⟨hO, _⟩ := okay_of hv
    have x16 := (x0.trans e7).trans e16
    rw [ifB_ndec]
    refine ⟨fun h1 => absurd rfl h1, fun _ => ⟨r, c, x, sm, y, .map mb, k16.ra, s82 (hw.ext e16) (hx.ext x16) hO.f hpos (by have := truths_len hv; omega) (num_share (hx.ext x16) hO.f) fun m24 e24 => ⟨_, _, rfl, fun m27 h27 => ?_⟩⟩⟩
    obtain ⟨b27, x27⟩ := Bk.new h27
    have k28 := b27.set [.int .i64 (loOf ((truthsP c sm L N).map (shareOf L))), .int .i64 (hiOf ((truthsP c sm L N).map (shareOf L)))]
    have e28 : Ext m24 (m27.set m24.nxt (.cells 2 [.int .i64 (loOf ((truthsP c sm L N).map (shareOf L))), .int .i64 (hiOf ((truthsP c sm L N).map (shareOf L)))] false)) := x27.setR (Nat.le_refl _) _
    refine ⟨_, b27.st _, trivial, _, k28.rc rfl, ?_⟩
    have hq := h _ ((x16.trans e24).trans e28)
    unfold aboveV at hq
    rw [if_pos hz, hz] at hq
    rw [ifB_dec]
    refine ⟨fun h1 => by rw [if_pos h1] at hq; exact hq, fun h1 => ⟨trivial, _, k28.rc rfl, ?_⟩⟩
    rw [if_neg h1] at hq
    rw [ifB_dec]
    exact ⟨fun h2 => by rw [if_pos h2] at hq; exact hq, fun h2 => by rw [if_neg h2] at hq; exact hq⟩
theorem s58 {r c sm : Int} {x y : C} {L : List Int} {N : List Cnt} {m : M} {Q : V → M → Prop} (hx : Li m x L) (hy : Lc m y N)
    (h : ∀ m', Ext m m' → Q (.c (.bool (decide (svErr r c L sm N = 0)))) m') : Wc prog tbl 58 [.agg 5 [.int .i64 r, .int .i64 c, x, .int .i64 sm, y]] m Q := by
  refine w58 fun m0 e0 => ?_
  obtain ⟨b0, x0⟩ := Bk.new e0
  refine ⟨r, c, x, sm, y, b0.ra, s19 (hx.ext x0) (hy.ext x0) fun m7 e7 => ⟨_, rfl, ?_⟩⟩
  rw [ifB_dec]
  refine ⟨fun h1 => ⟨r, c, x, sm, y, (b0.ext e7).ra, s36 (hx.ext (x0.trans e7)) (by omega) (hy.ext (x0.trans e7)) (by omega) fun m15 e15 => ⟨_, rfl, h m15 ((x0.trans e7).trans e15)⟩⟩, fun h1 => ?_⟩
  have hq := h m7 (x0.trans e7)
  rw [decide_eq_false fun hv => h1 ?_] at hq
  · exact hq
  · obtain ⟨hO, _⟩ := okay_of hv
    obtain ⟨_, h9, _⟩ := field_of hO.f
    have := hO.n
    exact ⟨by omega, by omega⟩
theorem s68 {r c sm : Int} {x y : C} {L : List Int} {N : List Cnt} {m : M} {Q : V → M → Prop} (hx : Li m x L) (hy : Lc m y N) (hv : svErr r c L sm N = 0)
    (h : ∀ m', Ext m m' → Q (.c (.bool (decide (0 < (truN c sm L N).length)))) m') : Wc prog tbl 68 [.agg 5 [.int .i64 r, .int .i64 c, x, .int .i64 sm, y], .c (.int .i64 0)] m Q := by
  obtain ⟨hO, hsm⟩ := okay_of hv
  obtain ⟨hS, hL, hrc⟩ := field_of hO.f
  have hP := few_truths hv
  refine w68 fun m0 e0 R1 hstep => ?_
  obtain ⟨b0, x0⟩ := Bk.new e0
  have hgo : ∀ (d i : Nat) (b : Bool) (m4 : M), d + i = prodN L → trN (fun n => truthR c sm L N (nthL L n)) i = [] → Ext m0 m4 → R1 [.c (.bool b), .c (.int .i64 (i : Int))] m4 := by
    intro d
    induction d with
    | zero =>
      intro i b m4 hd hnil he
      have hi : i = prodN L := by omega
      subst hi
      refine hstep _ _ _ ⟨trivial, r, c, x, (b0.ext he).rp (k := 0) (j := 3) rfl (by omega), s60 ((hx.ext x0).ext he) hS (by omega) fun m9 e9 => ⟨_, rfl, ?_⟩⟩
      rw [many_prod hS hP, ifB_dec]
      refine ⟨fun h1 => by omega, fun _ => ?_⟩
      have hq := h m9 ((x0.trans he).trans e9)
      rw [show truN c sm L N = [] from hnil] at hq
      exact hq
    | succ d ih =>
      intro i b m4 hd hnil he
      refine hstep _ _ _ ⟨trivial, r, c, x, (b0.ext he).rp (k := 0) (j := 3) rfl (by omega), s60 ((hx.ext x0).ext he) hS (by omega) fun m9 e9 => ⟨_, rfl, ?_⟩⟩
      rw [many_prod hS hP, ifB_dec]
      refine ⟨fun _ => ?_, fun h1 => absurd (by omega) h1⟩
      have he9 := he.trans e9
      refine ⟨r, c, x, sm, y, (b0.ext he9).ra, trivial, r, c, x, (b0.ext he9).rp (k := 0) (j := 3) rfl (by omega), s67 ((hx.ext x0).ext he9) hS (by omega) ⟨by omega, by omega⟩ fun z m20 e20 hz _ => ⟨z, rfl, ?_, ?_⟩⟩
      · rw [allNF hx.noFn hy.noFn]; exact (b0.ext (he9.trans e20)).ra
      have he20 := he9.trans e20
      refine s38 ((hx.ext x0).ext he20) ((hy.ext x0).ext he20) hO hsm hz (by rw [nthL_len]; omega) fun m23 e23 => ⟨_, rfl, ?_⟩
      have he23 := he20.trans e23
      cases hb : truthR c sm L N (nthL L (i : Int)) with
      | true =>
        have hq := h m23 (x0.trans he23)
        have hmem : (i : Int) ∈ truN c sm L N := mem_truN.2 ⟨by omega, by omega, hb⟩
        rw [decide_eq_true (List.length_pos_of_mem hmem)] at hq
        exact hq
      | false =>
        refine ⟨fits_small (by omega) (by omega), ih (i + 1) b m23 (by omega) ?_ he23⟩
        show trN (fun n => truthR c sm L N (nthL L n)) i ++ (if truthR c sm L N (nthL L (i : Int)) = true then [(i : Int)] else []) = []
        rw [hnil, hb]; rfl
  exact hgo (prodN L) 0 false m0 (by omega) rfl (.refl _)
theorem s62 {r c sm : Int} {x y : C} {L : List Int} {N : List Cnt} {m : M} {Q : V → M → Prop} (hx : Li m x L) (hy : Lc m y N)
    (h : ∀ m', Ext m m' → Q (.c (.bool (decide (trueErr r c L sm N = 0)))) m') : Wc prog tbl 62 [.agg 5 [.int .i64 r, .int .i64 c, x, .int .i64 sm, y]] m Q := by
  refine w62 fun m0 e0 => ?_
  obtain ⟨b0, x0⟩ := Bk.new e0
  refine ⟨r, c, x, sm, y, b0.ra, s58 (hx.ext x0) (hy.ext x0) fun m7 e7 => ⟨_, rfl, ?_⟩⟩
  have x7 := x0.trans e7
  rw [ifB_dec]
  refine ⟨fun hv => ⟨r, c, x, sm, y, (b0.ext e7).ra, s68 (hx.ext x7) (hy.ext x7) hv fun m15 e15 => ⟨_, rfl, ?_⟩⟩, fun hv => ?_⟩
  · have hq := h m15 (x7.trans e15)
    have : decide (trueErr r c L sm N = 0) = decide (0 < (truN c sm L N).length) := by
      rw [← sure_true]
      unfold sureErr
      rw [if_pos hv]
      refine decide_eq_decide.2 ⟨fun h1 => ?_, fun h1 => by rw [if_neg (by omega)]⟩
      by_cases h2 : (truN c sm L N).length = 0
      · rw [if_pos h2] at h1; simp at h1
      · omega
    rw [this] at hq
    exact hq
  · have hq := h m7 x7
    rw [decide_eq_false fun ht => hv (true_sv ht).1] at hq
    exact hq
theorem wrap_small' {n : Int} (h0 : 0 ≤ n) (h1 : n ≤ 1000) : wrapZ .i64 n = n := by
  unfold wrapZ
  rw [Go.Abs.fits_of (k := .i64) (n := n) (by simp only [fitsP]; omega)]; rfl
theorem s16 {r c sm a b : Int} {x y : C} {L : List Int} {N : List Cnt} {m : M} {Q : V → M → Prop} (hx : Li m x L) (hy : Lc m y N) (ha : 0 ≤ a ∧ a ≤ 255) (hb : 0 ≤ b ∧ b ≤ 255) (h : ∀ m', Q (.c (.bool true)) m') :
    Wc prog tbl 16 [.agg 5 [.int .i64 r, .int .i64 c, x, .int .i64 sm, y], .c (.int .u8 a), .c (.int .u8 b)] m Q := by
  have aw : ∀ m' : M, Wc prog tbl 20 [] m' (fun v m1 => ∃ b : Bool, v = .c (.bool b) ∧ Q (.c (.bool b)) m1) := fun m' => s20 ⟨_, rfl, h _⟩
  refine w16 fun m0 e0 => ?_
  obtain ⟨b0, x0⟩ := Bk.new e0
  refine ⟨r, c, x, sm, y, b0.ra, s62 (hx.ext x0) (hy.ext x0) fun m7 e7 => ⟨_, rfl, ?_⟩⟩
  have x7 := x0.trans e7
  have b7 := b0.ext e7
  rw [ifB_ndec]
  refine ⟨fun _ => aw _, fun ht => ?_⟩
  obtain ⟨hv, hpos⟩ := true_sv ht
  obtain ⟨hO, _⟩ := okay_of hv
  obtain ⟨hS, hL, _⟩ := field_of hO.f
  have hN := hO.n
  rw [wrap_small' ha.1 (by omega), wrap_small' hb.1 (by omega)]
  have q1 : 0 ≤ a % 101 ∧ a % 101 < 101 := ⟨Int.emod_nonneg _ (by omega), Int.emod_lt_of_pos _ (by omega)⟩
  have q2 : 0 ≤ b % 30 ∧ b % 30 < 30 := ⟨Int.emod_nonneg _ (by omega), Int.emod_lt_of_pos _ (by omega)⟩
  generalize a % 101 = n at q1
  generalize b % 30 = k at q2
  refine ⟨ha.1, by omega, fits_small (by omega) (by omega), hb.1, by omega, fits_small (by omega) (by omega), fits_small (by omega) (by omega), ?_⟩
  have hq1 : 0 ≤ min 100 (n + k) ∧ min 100 (n + k) ≤ 100 ∧ n ≤ min 100 (n + k) := by omega
  generalize min 100 (n + k) = w at hq1
  have hask : ∀ {u : Int}, 0 ≤ u ∧ u ≤ 100 → askErr r c L sm N (decide (0 ≤ u ∧ u ≤ 100)) = 0 := fun hu => by unfold askErr; rw [if_pos hv, decide_eq_true hu]; exact ht
  refine ⟨r, c, x, sm, y, b7.ra, s33 (hx.ext x7) (by omega) (hy.ext x7) (by omega) fun xa ya m18 e18 hxa hya => ⟨r, c, xa, sm, ya, rfl, s48 hxa (by omega) hya (by omega) fun m25 e25 => ⟨_, _, rfl, ?_⟩⟩⟩
  have x25 := (x7.trans e18).trans e25
  have b25 := (b7.ext e18).ext e25
  refine ⟨r, c, x, sm, y, b25.ra, s33 (hx.ext x25) (by omega) (hy.ext x25) (by omega) fun xb yb m34 e34 hxb hyb => ⟨r, c, xb, sm, yb, rfl, s48 hxb (by omega) hyb (by omega) fun m41 e41 => ⟨_, _, rfl, ?_⟩⟩⟩
  have x41 := (x25.trans e34).trans e41
  have b41 := (b25.ext e34).ext e41
  refine ⟨r, c, x, sm, y, b41.ra, s33 (hx.ext x41) (by omega) (hy.ext x41) (by omega) fun xd yd m50 e50 hxd hyd => ⟨r, c, xd, sm, yd, rfl, s48 hxd (by omega) hyd (by omega) fun m57 e57 => ⟨_, _, rfl, ?_⟩⟩⟩
  have hlp : 0 < ((truthsP c sm L N).map (shareOf L)).length := by rw [List.length_map]; exact hpos
  obtain ⟨l1, l2⟩ := lo_spec hlp
  obtain ⟨g1, g2⟩ := hi_spec hlp
  have hlh := g2 _ l1
  have hlo : 0 ≤ loOf ((truthsP c sm L N).map (shareOf L)) := by
    obtain ⟨H, h1, h2⟩ := List.mem_map.1 l1
    rw [← h2]; exact (share_bd hS hL (truth_of hO.f h1)).1
  unfold aboveV
  rw [hask ⟨q1.1, by omega⟩, hask ⟨hq1.1, hq1.2.1⟩, hask (u := 0) ⟨by omega, by omega⟩]
  generalize loOf ((truthsP c sm L N).map (shareOf L)) = lo at l1 l2 hlh hlo
  generalize hiOf ((truthsP c sm L N).map (shareOf L)) = hi at g1 g2 hlh
  simp only [if_true]
  rw [if_pos hlo]
  show ifB true (ifB true (ifB true (ifB true _ _) _) _) _
  simp only [ifB_true]
  have hA := aw m57
  rw [ifB_ndec]
  refine ⟨fun h1 => ?_, fun h1 => ?_⟩
  · rw [ifB_ndec]
    refine ⟨fun _ => hA, fun h2 => ?_⟩
    rw [ifB_dec]
    refine ⟨fun _ => hA, fun h3 => absurd ?_ h3⟩
    by_cases h4 : n ≤ lo
    · rw [if_pos h4] at h2; omega
    · rw [if_neg h4] at h2
      by_cases h5 : hi < n
      · rw [if_neg (by omega), if_pos (by omega)]
      · rw [if_neg h5] at h2; omega
  · have h6 : w ≤ lo := by
      by_cases h7 : w ≤ lo
      · exact h7
      · rw [if_neg h7] at h1; split at h1 <;> omega
    have h8 : n ≤ lo := by omega
    rw [if_pos h8, ifB_dec]
    refine ⟨fun _ => ?_, fun h9 => absurd rfl h9⟩
    rw [ifB_ndec]
    exact ⟨fun _ => hA, fun h2 => by omega⟩
end
end Go.Proofs.Ytgkjfhkjgdiodaa
