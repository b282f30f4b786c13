/- What functions of the program ask and do. Condition: none; a lemma text of this claim. -/
import Derived.Test.YtgkjfhkjgdiodaaTxS
namespace Go.Proofs.Ytgkjfhkjgdiodaa
open _root_.Go.Proofs.Try
open Go.Abs
set_option maxRecDepth 100000
noncomputable section
theorem c115 (p lo hi : Int) (l : Bool) (b : Nat) {m : M} {Q : V → M → Prop} (h :
    (∀ m0 : M, ((m0 = (M.new m (AO.cells 4 [(C.int IntKind.i64 p), (C.int IntKind.i64 lo), (C.int IntKind.i64 hi), 
          (C.bool l)] false))) → (∃ c1 : C, (((ldC m0 (C.ptr b 0)) = (Option.some c1)) ∧ (∃ x2 : Int, (∃ x3 : Int, 
          (∃ x4 : Int, (∃ b5 : Bool, (((ldA m0 (C.ptr (m).nxt 0) 4) = (Option.some [(C.int IntKind.i64 x2), (C.int IntKind.i64 x3), 
                (C.int IntKind.i64 x4), (C.bool b5)])) ∧ (callP prog tbl [(V.agg 4 [(C.int IntKind.i64 x2), (C.int IntKind.i64 x3), 
                 (C.int IntKind.i64 x4), (C.bool b5)])] c1 m0 (fun v6 m7 => (∃ b8 : Bool, ((v6 = (V.c (C.bool b8))) ∧ 
                 (Q (V.c (C.bool (!b8))) m7))))))))))))))) : Wc prog tbl 115 [.agg 4 [.int .i64 p, .int .i64 lo, .int .i64 hi, .bool l], .c (.ptr b 0)] m Q :=
  wc_eq (n := 2) rfl (by kernel_rfl) (by kernel_rfl) h
/-- the field's sides are few -/
structure Sides (r c : Int) : Prop where
  r1 : 1 ≤ r
  r4 : r ≤ 4
  c1 : 1 ≤ c
  c4 : c ≤ 4
theorem Sides.mul {r c : Int} (h : Sides r c) : 0 ≤ r * c ∧ r * c ≤ 16 := mul_small h.r1 h.r4 h.c1 h.c4
theorem s84 {r c p : Int} {x : C} {m : M} {Q : V → M → Prop} (hS : Sides r c) (h : ∀ m', Ext m m' → Q (.c (.bool (decide (0 ≤ p ∧ p ≤ r * c - 1)))) m') : Wc prog tbl 84 [.agg 3 [.int .i64 r, .int .i64 c, x], .c (.int .i64 p)] m Q := by
  refine w84 fun m0 e0 => ?_
  obtain ⟨b0, x0⟩ := Bk.new e0
  have hm := hS.mul
  have := hS.r1
  have := hS.c1
  exact ⟨r, c, x, b0.ra, s88 (by omega) (by omega) (fits_small (by omega) (by omega)) fun m5 e5 => ⟨_, rfl, fits_small (by omega) (by omega), s92 fun m8 e8 => ⟨_, rfl, h m8 ((x0.trans e5).trans e8)⟩⟩⟩
def okCnt (k : Int) (n : Cnt) : Bool := decide ((0 ≤ n.p ∧ n.p ≤ k - 1) ∧ 0 ≤ n.lo ∧ n.lo ≤ n.hi ∧ n.hi ≤ 9)
theorem s99 {r c sm : Int} {x y : C} {n : Cnt} {m : M} {Q : V → M → Prop} (hS : Sides r c) (h : ∀ m', Ext m m' → Q (.c (.bool (okCnt (r * c) n))) m') : Wc prog tbl 99 [.agg 5 [.int .i64 r, .int .i64 c, x, .int .i64 sm, y], .agg 4 [.int .i64 n.p, .int .i64 n.lo, .int .i64 n.hi, .bool n.late]] m Q := by
  refine w99 fun m0 e0 m1 e1 => ?_
  obtain ⟨b0, x0⟩ := Bk.new e0
  obtain ⟨b1, x1⟩ := Bk.new e1
  have b0' := b0.ext x1
  have x01 := x0.trans x1
  have hA3 : ldA m1 (.ptr m.nxt 0) 3 = some [.int .i64 r, .int .i64 c, x] := b0'.rp (k := 0) (j := 3) rfl (by omega)
  refine ⟨trivial, r, c, x, hA3, trivial, n.p, b1.rc rfl, s84 hS fun m7 e7 => ⟨_, rfl, ?_⟩⟩
  have hfalse : ∀ m', Ext m1 m' → okCnt (r * c) n = false → Q (.c (.bool false)) m' := fun m' e hf => by
    have := h m' (x01.trans e); rw [hf] at this; exact this
  have l7 := b1.ext e7
  rw [ifB_dec]
  refine ⟨fun h1 => ⟨trivial, trivial, n.lo, l7.rc rfl, trivial, trivial, n.hi, l7.rc rfl, ?_⟩, fun h1 => hfalse m7 e7 (decide_eq_false fun h2 => h1 h2.1)⟩
  rw [ifB_dec]
  refine ⟨fun h2 => ⟨trivial, trivial, n.lo, l7.rc rfl, s95 fun m13 e13 => ⟨_, rfl, ?_⟩⟩, fun h2 => hfalse m7 e7 (decide_eq_false fun h3 => h2 h3.2.2.1)⟩
  have e13' := e7.trans e13
  rw [ifB_dec]
  refine ⟨fun h3 => ⟨trivial, trivial, n.hi, (l7.ext e13).rc rfl, s95 fun m17 e17 => ⟨_, rfl, ?_⟩⟩, fun h3 => hfalse m13 e13' (decide_eq_false fun h4 => h3 ⟨h4.2.1, by have := h4.2.2; omega⟩)⟩
  have hq := h m17 (x01.trans (e13'.trans e17))
  have : okCnt (r * c) n = decide (0 ≤ n.hi ∧ n.hi ≤ 9) := by
    unfold okCnt
    by_cases hv : 0 ≤ n.hi ∧ n.hi ≤ 9
    · rw [decide_eq_true hv, decide_eq_true ⟨h1, h3.1, h2, hv.2⟩]
    · rw [decide_eq_false hv, decide_eq_false fun h => hv ⟨by have := h.2; omega, h.2.2.2⟩]
  rw [this] at hq
  exact hq
/-- a slice as what a function value keeps -/
theorem keepC {m : M} {k n : Nat} {x : C} {vs : List C} (h : Ls m k x vs n) : ∃ x0 : C0, cC0 x = some x0 ∧ c0C x0 = x := by
  rcases h.val with ⟨rfl, _⟩ | ⟨b, o, s, c, rfl, _⟩
  · exact ⟨.sl0, rfl, rfl⟩
  · exact ⟨.sl b o n s c, rfl, rfl⟩
/-- all counts are valid -/
theorem s98 {r c sm : Int} {x y : C} {x0 y0 : C0} (hx0 : c0C x0 = x) (hy0 : c0C y0 = y) {N : List Cnt} {m : M} {Q : V → M → Prop} (hS : Sides r c) (hy : Lc m y N) (hN : N.length ≤ 1000)
    (h : ∀ m', Ext m m' → Q (.c (.bool (decide (∀ n ∈ N, okCnt (r * c) n = true)))) m') : Wc prog tbl 98 [.c y, .c (.fn (.func 99) [.agg 5 [.int .i64 r, .int .i64 c, x0, .int .i64 sm, y0]] [])] m Q := by
  refine w98 fun m0 e0 => ?_
  obtain ⟨b0, xe0⟩ := Bk.new e0
  have key : ∀ (v : Int) (m' : M), Ext m0 m' → (0 ≤ v ↔ ¬ ∀ n ∈ N, okCnt (r * c) n = true) → Q (.c (.bool (!decide (0 ≤ v)))) m' := fun v m' e hv => by
    have h1 := h m' (xe0.trans e)
    by_cases hc : ∀ n ∈ N, okCnt (r * c) n = true
    · have : ¬ 0 ≤ v := fun h2 => (hv.1 h2) hc
      simpa [this, decide_eq_true hc] using h1
    · have h2 := hv.2 hc
      simpa [h2, decide_eq_false hc] using h1
  refine w114 (w124 ⟨hy.isSl, fun R0 hstep => ?_⟩)
  have hgo : ∀ (d i : Nat) (b : Int) (m1 : M), d + i = N.length → (∀ n ∈ N.take i, okCnt (r * c) n = true) → Ext m0 m1 → R0 [.c (.int .i64 b), .c (.int .i64 (i : Int))] m1 := by
    intro d
    induction d with
    | zero =>
      intro i b m1 hd hn he
      refine hstep _ _ _ ?_
      rw [hy.slLen, ifB_dec]
      refine ⟨fun h1 => by omega, fun _ => ⟨_, rfl, _, rfl, key _ m1 he ?_⟩⟩
      refine ⟨fun h1 => by omega, fun h1 => absurd (fun v hv => hn v (by rw [List.take_of_length_le (by omega)]; exact hv)) h1⟩
    | succ d ih =>
      intro i b m1 hd hn he
      refine hstep _ _ _ ?_
      rw [hy.slLen, ifB_dec]
      refine ⟨fun _ => ?_, fun h1 => by omega⟩
      have hi : i < N.length := by omega
      have hc := List.getElem?_eq_getElem hi
      have hy1 := (hy.ext xe0).ext he
      refine ⟨i, rfl, hi, N[i].p, N[i].lo, N[i].hi, N[i].late, ?_, ?_⟩
      · rw [Ls.rds hy1 (by omega) (cnts_room hi (by omega)), cnts_all hc]; rfl
      show Wc prog tbl 115 _ m1 _
      refine c115 N[i].p N[i].lo N[i].hi N[i].late m.nxt fun m2 e2 => ?_
      obtain ⟨b2, x2⟩ := Bk.new e2
      refine ⟨_, ((b0.ext he).ext x2).rc rfl, N[i].p, N[i].lo, N[i].hi, N[i].late, b2.ra, ?_⟩
      show Wc prog tbl 99 [.agg 5 [.int .i64 r, .int .i64 c, c0C x0, .int .i64 sm, c0C y0], .agg 4 [.int .i64 N[i].p, .int .i64 N[i].lo, .int .i64 N[i].hi, .bool N[i].late]] m2 _
      rw [hx0, hy0]
      refine s99 hS fun m3 e3 => ⟨_, rfl, _, rfl, ?_⟩
      have e03 := (he.trans x2).trans e3
      cases hok : okCnt (r * c) N[i] with
      | false => exact ⟨_, rfl, _, rfl, key _ m3 e03 ⟨fun _ h2 => (by have := h2 _ (List.getElem_mem hi); rw [hok] at this; cases this), fun _ => Int.natCast_nonneg i⟩⟩
      | true =>
        refine ⟨by simp only [fitsP]; omega, ih (i + 1) b m3 (by omega) (fun v hv => ?_) e03⟩
        rw [List.take_add_one, hc] at hv
        rcases List.mem_append.1 hv with h2 | h2
        · exact hn v h2
        · have : v = N[i] := by simpa using h2
          rw [this]; exact hok
  exact hgo N.length 0 0 m0 (by omega) (by simp) (.refl m0)
/-- the survey is valid, but for how many counts and choices there are -/
def isSv (r c : Int) (L : List Int) (sm : Int) (N : List Cnt) : Bool := isField r c L && decide (0 ≤ sm ∧ sm ≤ 9) && decide (∀ n ∈ N, okCnt (r * c) n = true)
theorem sides_of {r c : Int} {L : List Int} (h : isField r c L = true) : Sides r c := by
  have h1 : (1 ≤ r ∧ r ≤ 4) ∧ (1 ≤ c ∧ c ≤ 4) ∧ _ := of_decide_eq_true h
  exact ⟨h1.1.1, h1.1.2, h1.2.1.1, h1.2.1.2⟩
theorem s79 {r c sm : Int} {x y : C} {L : List Int} {N : List Cnt} {m : M} {Q : V → M → Prop} (hx : Li m x L) (hL : L.length ≤ 1048576) (hy : Lc m y N) (hN : N.length ≤ 1000) (h : ∀ m', Ext m m' → Q (.c (.bool (isSv r c L sm N))) m') :
    Wc prog tbl 79 [.agg 5 [.int .i64 r, .int .i64 c, x, .int .i64 sm, y]] m Q := by
  refine w79 fun m0 e0 => ?_
  obtain ⟨b0, x0⟩ := Bk.new e0
  have hA3 : ldA m0 (.ptr m.nxt 0) 3 = some [.int .i64 r, .int .i64 c, x] := b0.rp (k := 0) (j := 3) rfl (by omega)
  have hfalse : ∀ m', Ext m0 m' → isSv r c L sm N = false → Q (.c (.bool false)) m' := fun m' e hf => by
    have := h m' (x0.trans e); rw [hf] at this; exact this
  refine ⟨trivial, r, c, x, hA3, s72 (hx.ext x0) hL fun m5 e5 => ⟨_, rfl, ?_⟩⟩
  cases hf : isField r c L with
  | false => exact hfalse m5 e5 (by unfold isSv; rw [hf]; rfl)
  | true =>
    rw [ifB_true]
    refine ⟨trivial, sm, (b0.ext e5).rc rfl, s95 fun m9 e9 => ⟨_, rfl, ?_⟩⟩
    rw [ifB_dec]
    refine ⟨fun h1 => ?_, fun h1 => hfalse m9 (e5.trans e9) (by unfold isSv; rw [hf, decide_eq_false h1]; rfl)⟩
    obtain ⟨xc, hxc, hxc'⟩ := keepC hx
    obtain ⟨yc, hyc, hyc'⟩ := keepC hy
    refine ⟨trivial, y, ((b0.ext e5).ext e9).rc rfl, r, c, x, sm, y, ((b0.ext e5).ext e9).ra, ?_⟩
    have hvw : mapO vW [V.agg 5 [.int .i64 r, .int .i64 c, x, .int .i64 sm, y]] = some [.agg 5 [.int .i64 r, .int .i64 c, xc, .int .i64 sm, yc]] := by
      show optB (optB (optB (some (C0.int .i64 r)) none fun a => optB (optB (some (C0.int .i64 c)) none fun b => optB (optB (cC0 x) none fun c' => optB (optB (some (C0.int .i64 sm)) none fun d => optB (optB (cC0 y) none fun e => some [e]) none fun l => some (d :: l)) none fun l => some (c' :: l)) none fun l => some (b :: l)) none fun l => some (a :: l)) none fun xs => some (W.agg 5 xs)) none (fun w => some [w]) = _
      rw [hxc, hyc]; rfl
    rw [hvw, optB_some]
    refine s98 hxc' hyc' (sides_of hf) (hy.ext ((x0.trans e5).trans e9)) hN fun m19 e19 => ⟨_, rfl, ?_⟩
    have hq := h m19 (((x0.trans e5).trans e9).trans e19)
    have : isSv r c L sm N = decide (∀ n ∈ N, okCnt (r * c) n = true) := by unfold isSv; rw [hf, decide_eq_true h1]; rfl
    rw [this] at hq
    exact hq
end
end Go.Proofs.Ytgkjfhkjgdiodaa

namespace Go.Proofs.Ytgkjfhkjgdiodaa
open _root_.Go.Proofs.Try
open Go.Abs
set_option maxRecDepth 100000
noncomputable section
def prodL : List Int → Int
  | [] => 1
  | v :: L => (v + 1) * prodL L
def manyL (a : Int) : List Int → Int
  | [] => a
  | v :: L => manyL (min 4000 (a * (v + 1))) L
def mulL (a : Int) : List Int → Int
  | [] => a
  | v :: L => mulL (a * (v + 1)) L
def Small (L : List Int) : Prop := ∀ v ∈ L, 0 ≤ v ∧ v ≤ 9
theorem mul_le {a b : Int} (ha : 0 ≤ a) (hb : 1 ≤ b) : a ≤ a * b := by
  have := Int.mul_le_mul_of_nonneg_left hb ha
  omega
theorem mulL_ge : ∀ {L : List Int} {a : Int}, Small L → 0 ≤ a → a ≤ mulL a L
  | [], a, _, _ => Int.le_refl _
  | v :: L, a, h, ha => by
    have hv := h v (List.mem_cons_self ..)
    have h1 := mul_le ha (b := v + 1) (by omega)
    exact Int.le_trans h1 (mulL_ge (fun w hw => h w (List.mem_cons_of_mem _ hw)) (by omega))
theorem manyL_le : ∀ {L : List Int} {a : Int}, Small L → 0 ≤ a → a ≤ 4000 → manyL a L ≤ 4000
  | [], a, _, _, h => h
  | v :: L, a, h, ha, _ => by
    have hv := h v (List.mem_cons_self ..)
    have h1 : 0 ≤ a * (v + 1) := Int.mul_nonneg ha (by omega)
    exact manyL_le (L := L) (a := min 4000 (a * (v + 1))) (fun w hw => h w (List.mem_cons_of_mem _ hw)) (by omega) (by omega)
theorem manyL_ge : ∀ {L : List Int} {a : Int}, Small L → 0 ≤ a → a ≤ 4000 → a ≤ manyL a L
  | [], a, _, _, _ => Int.le_refl _
  | v :: L, a, h, ha, h4 => by
    have hv := h v (List.mem_cons_self ..)
    have h1 := mul_le ha (b := v + 1) (by omega)
    have h2 := manyL_ge (L := L) (a := min 4000 (a * (v + 1))) (fun w hw => h w (List.mem_cons_of_mem _ hw)) (by omega) (by omega)
    show a ≤ manyL (min 4000 (a * (v + 1))) L
    omega
/-- both say whether there are too many -/
theorem many_iff : ∀ {L : List Int} {a : Int}, Small L → 0 ≤ a → a ≤ 4000 → (2000 < manyL a L ↔ 2000 < mulL a L)
  | [], a, _, _, _ => Iff.rfl
  | v :: L, a, h, ha, h4 => by
    have hv := h v (List.mem_cons_self ..)
    have hL : Small L := fun w hw => h w (List.mem_cons_of_mem _ hw)
    have h1 := mul_le ha (b := v + 1) (by omega)
    show 2000 < manyL (min 4000 (a * (v + 1))) L ↔ 2000 < mulL (a * (v + 1)) L
    by_cases hq : a * (v + 1) ≤ 4000
    · rw [Int.min_eq_right hq]
      exact many_iff hL (by omega) hq
    · have h2 := manyL_ge (L := L) (a := min 4000 (a * (v + 1))) hL (by omega) (by omega)
      have h3 := mulL_ge (L := L) (a := a * (v + 1)) hL (by omega)
      omega
theorem ten_pos : ∀ k : Nat, (1 : Int) ≤ 10 ^ k
  | 0 => by simp
  | k + 1 => by rw [Int.pow_succ]; have := ten_pos k; omega
theorem ten_mono (i : Nat) : ∀ j : Nat, (10 : Int) ^ i ≤ 10 ^ (i + j)
  | 0 => Int.le_refl _
  | j + 1 => by rw [← Nat.add_assoc, Int.pow_succ]; have := ten_mono i j; have := ten_pos i; omega
theorem mulL_bd : ∀ {L : List Int} {a : Int} (k : Nat), Small L → L.length ≤ k → 0 ≤ a → mulL a L ≤ a * 10 ^ k
  | [], a, k, _, _, ha => by
    have h1 : (1 : Int) ≤ 10 ^ k := ten_pos k
    exact mul_le ha h1
  | v :: L, a, 0, _, hl, _ => by simp at hl
  | v :: L, a, k + 1, h, hl, ha => by
    have hv := h v (List.mem_cons_self ..)
    have h1 := mulL_bd (L := L) (a := a * (v + 1)) k (fun w hw => h w (List.mem_cons_of_mem _ hw)) (by simpa using hl) (Int.mul_nonneg ha (by omega))
    refine Int.le_trans h1 ?_
    have h2 : a * (v + 1) ≤ a * 10 := Int.mul_le_mul_of_nonneg_left (by omega) ha
    have h3 : (0 : Int) ≤ 10 ^ k := by have := ten_pos k; omega
    have h4 := Int.mul_le_mul_of_nonneg_right h2 h3
    have h5 : a * 10 * 10 ^ k = a * 10 ^ (k + 1) := by rw [Int.mul_assoc, Int.pow_succ, Int.mul_comm (10 ^ k : Int) 10]
    omega
theorem small_drop {L : List Int} (h : Small L) (i : Nat) : Small (L.drop i) := fun v hv => h v (List.mem_of_mem_drop hv)
theorem small_at {L : List Int} (h : Small L) {i : Nat} (hi : i < L.length) : 0 ≤ L[i] ∧ L[i] ≤ 9 := h _ (List.getElem_mem hi)
theorem mulL_step {L : List Int} {i : Nat} (hi : i < L.length) (a : Int) : mulL a (L.drop i) = mulL (a * (L[i] + 1)) (L.drop (i + 1)) := by rw [List.drop_eq_getElem_cons hi]; rfl
theorem manyL_step {L : List Int} {i : Nat} (hi : i < L.length) (a : Int) : manyL a (L.drop i) = manyL (min 4000 (a * (L[i] + 1))) (L.drop (i + 1)) := by rw [List.drop_eq_getElem_cons hi]; rfl
theorem s80 {r c : Int} {x : C} {L : List Int} {m : M} {Q : V → M → Prop} (hx : Li m x L) (hS : Small L) (hL : L.length ≤ 9) (h : ∀ m', Ext m m' → Q (.c (.int .i64 (mulL 1 L))) m') : Wc prog tbl 80 [.agg 3 [.int .i64 r, .int .i64 c, x]] m Q := by
  refine w80 fun m0 e0 => ?_
  obtain ⟨b0, x0⟩ := Bk.new e0
  refine ⟨trivial, x, b0.rc rfl, hx.isSl, fun R2 hstep => ?_⟩
  have hgo : ∀ (d i : Nat) (a : Int), d + i = L.length → 0 ≤ a → a ≤ 10 ^ i → mulL a (L.drop i) = mulL 1 L → R2 [.c (.int .i64 a), .c (.int .i64 (i : Int))] m0 := by
    intro d
    induction d with
    | zero =>
      intro i a hd h0 ha heq
      refine hstep _ _ _ ?_
      rw [hx.slLen, ifB_dec]
      refine ⟨fun h1 => by omega, fun _ => ?_⟩
      rw [List.drop_eq_nil_of_le (by omega)] at heq
      have hq := h m0 x0
      rw [← heq] at hq
      exact hq
    | succ d ih =>
      intro i a hd h0 ha heq
      refine hstep _ _ _ ?_
      rw [hx.slLen, ifB_dec]
      refine ⟨fun _ => ?_, fun h1 => by omega⟩
      have hi : i < L.length := by omega
      have hv := small_at hS hi
      have h1 : a * (L[i] + 1) ≤ a * 10 := Int.mul_le_mul_of_nonneg_left (by omega) h0
      have h2 : a * 10 ≤ 10 ^ (i + 1) := by rw [Int.pow_succ]; exact Int.mul_le_mul_of_nonneg_right ha (by omega)
      have h3 : (10 : Int) ^ (i + 1) ≤ 10 ^ 9 := by have := ten_mono (i + 1) (8 - i); rw [show i + 1 + (8 - i) = 9 by omega] at this; exact this
      have h4 : (10 : Int) ^ 9 = 1000000000 := by decide
      have h5 : 0 ≤ a * (L[i] + 1) := Int.mul_nonneg h0 (by omega)
      refine ⟨i, rfl, hi, L[i], Li.rd (hx.ext x0) (List.getElem?_eq_getElem hi), fits_small (by omega) (by omega), h0, by omega, by simp only [fitsP]; omega, fits_small (by omega) (by omega), ?_⟩
      exact ih (i + 1) _ (by omega) h5 (by omega) (by rw [← mulL_step hi]; exact heq)
  exact hgo L.length 0 1 (by omega) (by omega) (by simp) rfl
theorem s60 {r c : Int} {x : C} {L : List Int} {m : M} {Q : V → M → Prop} (hx : Li m x L) (hS : Small L) (hL : L.length ≤ 1000) (h : ∀ m', Ext m m' → Q (.c (.int .i64 (manyL 1 L))) m') : Wc prog tbl 60 [.agg 3 [.int .i64 r, .int .i64 c, x]] m Q := by
  refine w60 fun m0 e0 R1 hstep => ?_
  obtain ⟨b0, x0⟩ := Bk.new e0
  have hgo : ∀ (d i : Nat) (a : Int), d + i = L.length → 0 ≤ a → a ≤ 4000 → manyL a (L.drop i) = manyL 1 L → R1 [.c (.int .i64 a), .c (.int .i64 (i : Int))] m0 := by
    intro d
    induction d with
    | zero =>
      intro i a hd h0 ha heq
      refine hstep _ _ _ ⟨trivial, x, b0.rc rfl, hx.isSl, ?_⟩
      rw [hx.slLen, ifB_dec]
      refine ⟨fun h1 => by omega, fun _ => ?_⟩
      rw [List.drop_eq_nil_of_le (by omega)] at heq
      have hq := h m0 x0
      rw [← heq] at hq
      exact hq
    | succ d ih =>
      intro i a hd h0 ha heq
      refine hstep _ _ _ ⟨trivial, x, b0.rc rfl, hx.isSl, ?_⟩
      rw [hx.slLen, ifB_dec]
      refine ⟨fun _ => ?_, fun h1 => by omega⟩
      have hi : i < L.length := by omega
      have hv := small_at hS hi
      have h1 : a * (L[i] + 1) ≤ a * 10 := Int.mul_le_mul_of_nonneg_left (by omega) h0
      have h5 : 0 ≤ a * (L[i] + 1) := Int.mul_nonneg h0 (by omega)
      refine ⟨trivial, x, b0.rc rfl, i, rfl, by rw [hx.slLen]; exact hi, L[i], Li.rd (hx.ext x0) (List.getElem?_eq_getElem hi), fits_small (by omega) (by omega), h0, by omega, fits_small (by omega) (by omega), fits_small (by omega) (by omega), ?_⟩
      exact ih (i + 1) _ (by omega) (by omega) (by omega) (by rw [← manyL_step hi]; exact heq)
  exact hgo L.length 0 1 (by omega) (by omega) (by omega) rfl
/-- the error of a survey -/
def svErr (r c : Int) (L : List Int) (sm : Int) (N : List Cnt) : Int := if N.length ≤ 6 then if isSv r c L sm N then if mulL 1 L ≤ 2000 then 0 else 3 else 1 else 3
theorem field_of {r c : Int} {L : List Int} (h : isField r c L = true) : Small L ∧ L.length ≤ 9 ∧ (L.length : Int) = r * c := by
  have h1 : (1 ≤ r ∧ r ≤ 4) ∧ (1 ≤ c ∧ c ≤ 4) ∧ r * c ≤ 9 ∧ (L.length : Int) = r * c ∧ ∀ v ∈ L, 0 ≤ v ∧ v ≤ 9 := of_decide_eq_true h
  exact ⟨h1.2.2.2.2, by omega, h1.2.2.2.1⟩
theorem sv_field {r c : Int} {L : List Int} {sm : Int} {N : List Cnt} (h : isSv r c L sm N = true) : isField r c L = true ∧ (0 ≤ sm ∧ sm ≤ 9) ∧ ∀ n ∈ N, okCnt (r * c) n = true := by
  unfold isSv at h
  rw [Bool.and_eq_true, Bool.and_eq_true] at h
  exact ⟨h.1.1, of_decide_eq_true h.1.2, of_decide_eq_true h.2⟩
theorem s37 {r c sm : Int} {x y : C} {L : List Int} {N : List Cnt} {m : M} {Q : V → M → Prop} (hx : Li m x L) (hL : L.length ≤ 1048576) (hy : Lc m y N) (hN : N.length ≤ 1000) (h : ∀ m', Ext m m' → Q (.c (.int .i64 (svErr r c L sm N))) m') :
    Wc prog tbl 37 [.agg 5 [.int .i64 r, .int .i64 c, x, .int .i64 sm, y]] m Q := by
  refine w37 fun m0 e0 => ?_
  obtain ⟨b0, x0⟩ := Bk.new e0
  have hval : ∀ {v : Int} {m'}, Ext m0 m' → svErr r c L sm N = v → Q (.c (.int .i64 v)) m' := fun {v m'} e hv => by
    have := h m' (x0.trans e); rw [hv] at this; exact this
  refine ⟨trivial, y, b0.rc rfl, hy.isSl, ?_⟩
  rw [hy.slLen, ifB_dec]
  refine ⟨fun h1 => hval (.refl _) (by unfold svErr; rw [if_neg (by omega)]), fun h1 => ?_⟩
  refine ⟨r, c, x, sm, y, b0.ra, s79 (hx.ext x0) hL (hy.ext x0) hN fun m8 e8 => ⟨_, rfl, ?_⟩⟩
  cases hs : isSv r c L sm N with
  | false => exact hval e8 (by unfold svErr; rw [if_pos (by omega), hs]; simp)
  | true =>
    obtain ⟨hf, hsm, hcs⟩ := sv_field hs
    obtain ⟨f1, f2, f3⟩ := field_of hf
    show ifB false _ _
    rw [ifB_false]
    refine ⟨trivial, r, c, x, (b0.ext e8).rp (k := 0) (j := 3) rfl (by omega), s80 (hx.ext (x0.trans e8)) f1 f2 fun m14 e14 => ⟨_, rfl, ?_⟩⟩
    rw [ifB_dec]
    exact ⟨fun h2 => hval (e8.trans e14) (by unfold svErr; rw [if_pos (by omega), hs, if_pos rfl, if_neg (by omega)]), fun h2 => hval (e8.trans e14) (by unfold svErr; rw [if_pos (by omega), hs, if_pos rfl, if_pos (by omega)])⟩
theorem s78 {r c sm : Int} {x y : C} {L : List Int} {N : List Cnt} {m : M} {Q : V → M → Prop} (hx : Li m x L) (hL : L.length ≤ 1048576) (hy : Lc m y N) (hN : N.length ≤ 1000) (h : ∀ m', Ext m m' → Q (.c (.int .i64 (svErr r c L sm N))) m') :
    Wc prog tbl 78 [.agg 5 [.int .i64 r, .int .i64 c, x, .int .i64 sm, y]] m Q := by
  refine w78 fun m0 e0 => ?_
  obtain ⟨b0, x0⟩ := Bk.new e0
  have hval : ∀ {v : Int} {m'}, Ext m0 m' → svErr r c L sm N = v → Q (.c (.int .i64 v)) m' := fun {v m'} e hv => by
    have := h m' (x0.trans e); rw [hv] at this; exact this
  refine ⟨trivial, y, b0.rc rfl, hy.isSl, ?_⟩
  rw [hy.slLen, ifB_dec]
  refine ⟨fun h1 => hval (.refl _) (by unfold svErr; rw [if_neg (by omega)]), fun h1 => ?_⟩
  have hbad : ∀ {m'}, Ext m0 m' → isSv r c L sm N = false → Q (.c (.int .i64 1)) m' := fun e hs => hval e (by unfold svErr; rw [if_pos (by omega), hs]; simp)
  refine ⟨trivial, r, c, x, b0.rp (k := 0) (j := 3) rfl (by omega), s26 (hx.ext x0) hL fun m6 e6 => ⟨_, rfl, ?_⟩⟩
  cases hf : isField r c L with
  | false => exact hbad e6 (by unfold isSv; rw [hf]; rfl)
  | true =>
  obtain ⟨f1, f2, f3⟩ := field_of hf
  show ifB false _ _
  rw [ifB_false]
  refine ⟨trivial, sm, (b0.ext e6).rc rfl, s44 ⟨_, rfl, ?_⟩⟩
  rw [ifB_ndec]
  refine ⟨fun h2 => hbad e6 (by unfold isSv; rw [hf, decide_eq_false h2]; rfl), fun h2 R12 hstep => ?_⟩
  have hgo : ∀ (d i : Nat) (b : Int) (m15 : M), d + i = N.length → (∀ n ∈ N.take i, okCnt (r * c) n = true) → Ext m0 m15 → R12 [.c (.int .i64 b), .c (.int .i64 (i : Int))] m15 := by
    intro d
    induction d with
    | zero =>
      intro i b m15 hd hn he
      refine hstep _ _ _ ⟨trivial, y, (b0.ext he).rc rfl, hy.isSl, ?_⟩
      rw [hy.slLen, ifB_dec]
      refine ⟨fun h1 => by omega, fun _ => ⟨trivial, r, c, x, (b0.ext he).rp (k := 0) (j := 3) rfl (by omega), s60 (hx.ext (x0.trans he)) f1 (by omega) fun m40 e40 => ⟨_, rfl, ?_⟩⟩⟩
      have hs : isSv r c L sm N = true := by
        unfold isSv
        rw [hf, decide_eq_true h2, decide_eq_true fun n hn' => hn n (by rw [List.take_of_length_le (by omega)]; exact hn')]; rfl
      have hmi := many_iff f1 (a := 1) (by omega) (by omega)
      rw [ifB_dec]
      exact ⟨fun h3 => hval (he.trans e40) (by unfold svErr; rw [if_pos (by omega), hs, if_pos rfl, if_neg (by omega)]), fun h3 => hval (he.trans e40) (by unfold svErr; rw [if_pos (by omega), hs, if_pos rfl, if_pos (by omega)])⟩
    | succ d ih =>
      intro i b m15 hd hn he
      refine hstep _ _ _ ⟨trivial, y, (b0.ext he).rc rfl, hy.isSl, ?_⟩
      rw [hy.slLen, ifB_dec]
      refine ⟨fun _ => ?_, fun h1 => by omega⟩
      have hi : i < N.length := by omega
      have hc := List.getElem?_eq_getElem hi
      have hy1 := (hy.ext x0).ext he
      have hnot : okCnt (r * c) N[i] = false → isSv r c L sm N = false := fun hk => by
        unfold isSv
        rw [show decide (∀ n ∈ N, okCnt (r * c) n = true) = false from decide_eq_false fun h => (by have := h _ (List.getElem_mem hi); rw [hk] at this; cases this), Bool.and_false]
      refine ⟨trivial, y, (b0.ext he).rc rfl, i, rfl, by rw [hy.slLen]; exact hi, N[i].p, N[i].lo, N[i].hi, N[i].late, ?_, fun m23 h23 => ?_⟩
      · rw [Ls.rds hy1 (by omega) (cnts_room hi (by omega)), cnts_all hc]; rfl
      obtain ⟨b23, x23⟩ := Bk.new h23
      have k24 := b23.set [.int .i64 N[i].p, .int .i64 N[i].lo, .int .i64 N[i].hi, .bool N[i].late]
      have e24 : Ext m15 (m23.set m15.nxt (.cells 4 [.int .i64 N[i].p, .int .i64 N[i].lo, .int .i64 N[i].hi, .bool N[i].late] false)) := x23.setR (Nat.le_refl _) _
      refine ⟨_, b23.st _, trivial, N[i].p, k24.rc rfl, trivial, trivial, x, ?_⟩
      generalize m23.set m15.nxt (.cells 4 [.int .i64 N[i].p, .int .i64 N[i].lo, .int .i64 N[i].hi, .bool N[i].late] false) = m24 at k24 e24
      have he24 := he.trans e24
      refine ⟨(b0.ext he24).rc rfl, hx.isSl, by rw [hx.slLen]; exact fits_small (by omega) (by omega), s44 ⟨_, rfl, ?_⟩⟩
      rw [hx.slLen, f3, ifB_ndec]
      refine ⟨fun h3 => hbad he24 (hnot (decide_eq_false fun h4 => h3 h4.1)), fun h3 => ⟨trivial, trivial, N[i].lo, k24.rc rfl, trivial, trivial, N[i].hi, k24.rc rfl, s44 ⟨_, rfl, ?_⟩⟩⟩
      rw [ifB_ndec]
      refine ⟨fun h4 => hbad he24 (hnot (decide_eq_false fun h5 => h4 ⟨h5.2.1, h5.2.2.1⟩)), fun h4 => ⟨trivial, trivial, N[i].hi, k24.rc rfl, ?_⟩⟩
      rw [ifB_dec]
      refine ⟨fun h5 => hbad he24 (hnot (decide_eq_false fun h6 => by have := h6.2.2.2; omega)), fun h5 => ⟨by simp only [fitsP]; omega, ih (i + 1) b m24 (by omega) (fun v hv => ?_) he24⟩⟩
      rw [List.take_add_one, hc] at hv
      rcases List.mem_append.1 hv with h6 | h6
      · exact hn v h6
      · have : v = N[i] := by simpa using h6
        rw [this]; exact decide_eq_true ⟨h3, h4.1, h4.2, by omega⟩
  exact hgo N.length 0 0 m6 (by omega) (by simp) e6
theorem s36 {r c sm : Int} {x y : C} {L : List Int} {N : List Cnt} {m : M} {Q : V → M → Prop} (hx : Li m x L) (hL : L.length ≤ 1048576) (hy : Lc m y N) (hN : N.length ≤ 1000) (h : ∀ m', Ext m m' → Q (.c (.int .i64 (svErr r c L sm N))) m') :
    Wc prog tbl 36 [.agg 5 [.int .i64 r, .int .i64 c, x, .int .i64 sm, y]] m Q := by
  refine w36 fun m0 e0 => ?_
  obtain ⟨b0, x0⟩ := Bk.new e0
  exact ⟨r, c, x, sm, y, b0.ra, s78 (hx.ext x0) hL (hy.ext x0) hN fun m7 e7 => ⟨_, rfl, h m7 (x0.trans e7)⟩⟩
end
end Go.Proofs.Ytgkjfhkjgdiodaa

namespace Go.Proofs.Ytgkjfhkjgdiodaa
open _root_.Go.Proofs.Try
open Go.Abs
set_option maxRecDepth 100000
noncomputable section
def sumA (a : Int) : List Int → Int
  | [] => a
  | v :: L => sumA (a + v) L
theorem sumA_step {L : List Int} {i : Nat} (hi : i < L.length) (a : Int) : sumA a (L.drop i) = sumA (a + L[i]) (L.drop (i + 1)) := by rw [List.drop_eq_getElem_cons hi]; rfl
theorem sumA_app : ∀ (L R : List Int) (a : Int), sumA a (L ++ R) = sumA (sumA a L) R
  | [], _, _ => rfl
  | v :: L, R, a => sumA_app L R (a + v)
theorem sumA_zero : ∀ (n : Nat) (a : Int), sumA a (List.replicate n 0) = a
  | 0, _ => rfl
  | n + 1, a => by rw [List.replicate_succ]; show sumA (a + 0) _ = a; rw [Int.add_zero]; exact sumA_zero n a
theorem sumA_ge {L : List Int} (h : ∀ v ∈ L, 0 ≤ v) : ∀ {a : Int}, 0 ≤ a → 0 ≤ sumA a L := by
  induction L with
  | nil => exact fun h => h
  | cons v L ih => exact fun {a} ha => ih (fun w hw => h w (List.mem_cons_of_mem _ hw)) (by have := h v (List.mem_cons_self ..); omega)
theorem sumA_le {L : List Int} (h : ∀ v ∈ L, v ≤ 9) : ∀ {a : Int}, sumA a L ≤ a + 9 * (L.length : Int) := by
  induction L with
  | nil => intro a; show a ≤ _; simp
  | cons v L ih =>
    intro a
    have h1 := ih (fun w hw => h w (List.mem_cons_of_mem _ hw)) (a := a + v)
    have h2 := h v (List.mem_cons_self ..)
    show sumA (a + v) L ≤ _
    rw [List.length_cons]; omega
theorem s96 {x : C} {L : List Int} {m : M} {Q : V → M → Prop} (hx : Li m x L) (hS : Small L) (hL : L.length ≤ 1000) (h : Q (.c (.int .i64 (sumA 0 L))) m) : Wc prog tbl 96 [.c x] m Q := by
  refine w96 ⟨hx.isSl, fun R0 hstep => ?_⟩
  have hgo : ∀ (d i : Nat) (a : Int), d + i = L.length → 0 ≤ a → a ≤ 9 * i → sumA a (L.drop i) = sumA 0 L → R0 [.c (.int .i64 a), .c (.int .i64 (i : Int))] m := by
    intro d
    induction d with
    | zero =>
      intro i a hd h0 ha heq
      refine hstep _ _ _ ?_
      rw [hx.slLen, ifB_dec]
      refine ⟨fun h1 => by omega, fun _ => ?_⟩
      rw [List.drop_eq_nil_of_le (by omega)] at heq
      rw [← heq] at h
      exact h
    | succ d ih =>
      intro i a hd h0 ha heq
      refine hstep _ _ _ ?_
      rw [hx.slLen, ifB_dec]
      refine ⟨fun _ => ?_, fun h1 => by omega⟩
      have hi : i < L.length := by omega
      have hv := small_at hS hi
      exact ⟨i, rfl, hi, L[i], Li.rd hx (List.getElem?_eq_getElem hi), fits_small (by omega) (by omega), fits_small (by omega) (by omega), ih (i + 1) _ (by omega) (by omega) (by omega) (by rw [← sumA_step hi]; exact heq)⟩
  exact hgo L.length 0 0 (by omega) (by omega) (by omega) rfl
theorem nine {H : List Int} (h : H.length = 9) : ∃ a0 a1 a2 a3 a4 a5 a6 a7 a8, H = [a0, a1, a2, a3, a4, a5, a6, a7, a8] := by
  match H, h with
  | [a0, a1, a2, a3, a4, a5, a6, a7, a8], _ => exact ⟨a0, a1, a2, a3, a4, a5, a6, a7, a8, rfl⟩
/-- the hits, with 0 beyond the places there are -/
def pad (H : List Int) : List Int := H ++ List.replicate (9 - H.length) 0
theorem pad_len {H : List Int} (h : H.length ≤ 9) : (pad H).length = 9 := by unfold pad; rw [List.length_append, List.length_replicate]; omega
theorem sum_pad (H : List Int) (a : Int) : sumA a (pad H) = sumA a H := by unfold pad; rw [sumA_app, sumA_zero]
theorem small_pad {H : List Int} (h : Small H) : Small (pad H) := fun v hv => by
  rcases List.mem_append.1 hv with h1 | h1
  · exact h v h1
  · have := (List.mem_replicate.1 h1).2; omega
def shareOf (L H : List Int) : Int := if sumA 0 L = 0 then 0 else sumA 0 H * 100 / sumA 0 L
theorem s75 {r c sm : Int} {x y : C} {L H : List Int} {m : M} {Q : V → M → Prop} (hx : Li m x L) (hS : Small L) (hL : L.length ≤ 9) (hH : H.length = 9) (hHS : Small H) (h : ∀ m', Ext m m' → Q (.c (.int .i64 (shareOf L H))) m') :
    Wc prog tbl 75 [.agg 5 [.int .i64 r, .int .i64 c, x, .int .i64 sm, y], .agg 9 (ints H)] m Q := by
  have hb0 := sumA_ge (L := L) (fun v hv => (hS v hv).1) (a := 0) (by omega)
  have hb1 := sumA_le (L := L) (fun v hv => (hS v hv).2) (a := 0)
  have hh0 := sumA_ge (L := H) (fun v hv => (hHS v hv).1) (a := 0) (by omega)
  have hh1 := sumA_le (L := H) (fun v hv => (hHS v hv).2) (a := 0)
  unfold shareOf at h
  obtain ⟨a0, a1, a2, a3, a4, a5, a6, a7, a8, rfl⟩ := nine hH
  refine w75 fun m0 e0 m1 e1 => ?_
  obtain ⟨b0, x0⟩ := Bk.new e0
  obtain ⟨b1, x1⟩ := Bk.new e1
  have b0' := b0.ext x1
  have x01 := x0.trans x1
  refine ⟨trivial, trivial, x, b0'.rc rfl, s96 (hx.ext x01) hS (by omega) ⟨_, rfl, ?_⟩⟩
  rw [ifB_dec]
  refine ⟨fun h0 => ?_, fun h0 => ?_⟩
  · have hq := h m1 x01
    rw [if_pos h0] at hq
    exact hq
  · have hsl : Li m1 (.sl m0.nxt 0 9 0 (some 9)) [a0, a1, a2, a3, a4, a5, a6, a7, a8] := ⟨rfl, .inr ⟨m0.nxt, 0, 0, some 9, rfl, b1.lt, fun _ => .inl ⟨9, _, false, b1.g, rfl, by simp [ints], rfl⟩⟩⟩
    refine ⟨0, 9, rfl, rfl, _, rfl, s96 hsl hHS (by simp) ⟨_, rfl, ?_⟩⟩
    have h1 : sumA 0 [a0, a1, a2, a3, a4, a5, a6, a7, a8] ≤ 81 := by simp only [List.length_cons, List.length_nil] at hh1; omega
    have h2 : 0 ≤ sumA 0 [a0, a1, a2, a3, a4, a5, a6, a7, a8] * 100 := by omega
    have h3 := Int.ediv_nonneg h2 hb0
    have h4 := Int.ediv_le_self (sumA 0 L) h2
    have hq := h m1 x01
    rw [if_neg h0] at hq
    exact ⟨hh0, by omega, fits_small (by omega) (by omega), h2, by omega, fits_small (by omega) (by omega), hq⟩
theorem s40 {r c : Int} {x y : C} {L H : List Int} {m : M} {Q : V → M → Prop} (hx : Li m x L) (hS : Small L) (hL : L.length ≤ 1000) (hy : Li m y H) (hHS : Small H) (hH : H.length = L.length) (h : ∀ m', Ext m m' → Q (.c (.int .i64 (shareOf L H))) m') :
    Wc prog tbl 40 [.agg 3 [.int .i64 r, .int .i64 c, x], .c y] m Q := by
  refine w40 fun m0 e0 R1 hstep => ?_
  obtain ⟨b0, x0⟩ := Bk.new e0
  have hy0 := hy.ext x0
  have hgo : ∀ (d i : Nat) (a b : Int), d + i = L.length → 0 ≤ a → a ≤ 9 * i → 0 ≤ b → b ≤ 9 * i → sumA a (H.drop i) = sumA 0 H → sumA b (L.drop i) = sumA 0 L → R1 [.c (.int .i64 a), .c (.int .i64 b), .c (.int .i64 (i : Int))] m0 := by
    intro d
    induction d with
    | zero =>
      intro i a b hd h0 ha hb0 hb heq heq2
      refine hstep _ _ _ _ ⟨hy.isSl, ?_⟩
      rw [hy.slLen, ifB_dec]
      refine ⟨fun h1 => by omega, fun _ => ?_⟩
      rw [List.drop_eq_nil_of_le (by omega)] at heq
      rw [List.drop_eq_nil_of_le (by omega)] at heq2
      have hq := h m0 x0
      unfold shareOf at hq
      rw [← heq, ← heq2] at hq
      change Q (.c (.int .i64 (if b = 0 then 0 else a * 100 / b))) m0 at hq
      rw [ifB_dec]
      refine ⟨fun h1 => by rw [if_pos h1] at hq; exact hq, fun h1 => ?_⟩
      rw [if_neg h1] at hq
      have h2 : 0 ≤ a * 100 := by omega
      have h3 := Int.ediv_nonneg h2 hb0
      have h4 := Int.ediv_le_self b h2
      exact ⟨h0, by omega, fits_small (by omega) (by omega), h2, by omega, fits_small (by omega) (by omega), hq⟩
    | succ d ih =>
      intro i a b hd h0 ha hb0 hb heq heq2
      refine hstep _ _ _ _ ⟨hy.isSl, ?_⟩
      rw [hy.slLen, ifB_dec]
      refine ⟨fun _ => ?_, fun h1 => by omega⟩
      have hi : i < L.length := by omega
      have hi2 : i < H.length := by omega
      have hv := small_at hS hi
      have hv2 := small_at hHS hi2
      refine ⟨i, rfl, hi2, H[i], Li.rd hy0 (List.getElem?_eq_getElem hi2), fits_small (by omega) (by omega), trivial, x, b0.rc rfl, i, rfl, by rw [hx.slLen]; exact hi, L[i], Li.rd (hx.ext x0) (List.getElem?_eq_getElem hi), fits_small (by omega) (by omega), fits_small (by omega) (by omega), ?_⟩
      exact ih (i + 1) _ _ (by omega) (by omega) (by omega) (by omega) (by omega) (by rw [← sumA_step hi2]; exact heq) (by rw [← sumA_step hi]; exact heq2)
  exact hgo L.length 0 0 0 (by omega) (by omega) (by omega) (by omega) (by omega) rfl rfl
/-- the list has the hits of each place -/
def listed (L H : List Int) : Bool := decide (H.length = L.length ∧ ∀ i : Nat, i < L.length → 0 ≤ H[i]! ∧ H[i]! ≤ L[i]!)
theorem s39 {r c : Int} {x y : C} {L H : List Int} {m : M} {Q : V → M → Prop} (hx : Li m x L) (hL : L.length ≤ 1000) (hy : Li m y H) (h : ∀ m', Ext m m' → Q (.c (.bool (listed L H))) m') :
    Wc prog tbl 39 [.agg 3 [.int .i64 r, .int .i64 c, x], .c y] m Q := by
  refine w39 fun m0 e0 => ?_
  obtain ⟨b0, x0⟩ := Bk.new e0
  have hy0 := hy.ext x0
  have hfalse : listed L H = false → Q (.c (.bool false)) m0 := fun hf => by
    have := h m0 x0; rw [hf] at this; exact this
  refine ⟨hy.isSl, trivial, x, b0.rc rfl, hx.isSl, ?_⟩
  rw [hy.slLen, hx.slLen, ifB_ndec]
  refine ⟨fun h1 => hfalse (decide_eq_false fun h2 => h1 (by rw [h2.1])), fun h1 R2 hstep => ?_⟩
  have hl : H.length = L.length := by omega
  have hgo : ∀ (d i : Nat) (b : Bool), d + i = L.length → (∀ j : Nat, j < i → 0 ≤ H[j]! ∧ H[j]! ≤ L[j]!) → R2 [.c (.bool b), .c (.int .i64 (i : Int))] m0 := by
    intro d
    induction d with
    | zero =>
      intro i b hd hn
      refine hstep _ _ _ ⟨hy.isSl, ?_⟩
      rw [ifB_dec]
      refine ⟨fun h1 => by omega, fun _ => ?_⟩
      have hq := h m0 x0
      rw [show listed L H = true from decide_eq_true ⟨hl, fun i hi => hn i (by omega)⟩] at hq
      exact hq
    | succ d ih =>
      intro i b hd hn
      refine hstep _ _ _ ⟨hy.isSl, ?_⟩
      rw [ifB_dec]
      refine ⟨fun _ => ?_, fun h1 => by omega⟩
      have hi : i < L.length := by omega
      have hi2 : i < H.length := by omega
      have e1 : H[i]! = H[i] := getElem!_pos H i hi2
      have e2 : L[i]! = L[i] := getElem!_pos L i hi
      refine ⟨i, rfl, hi2, H[i], Li.rd hy0 (List.getElem?_eq_getElem hi2), trivial, x, b0.rc rfl, i, rfl, by rw [hx.slLen]; exact hi, L[i], Li.rd (hx.ext x0) (List.getElem?_eq_getElem hi), s44 ⟨_, rfl, ?_⟩⟩
      rw [ifB_ndec]
      refine ⟨fun h2 => hfalse (decide_eq_false fun h3 => h2 (by have := h3.2 i hi; rw [e1, e2] at this; exact this)), fun h2 => ⟨fits_small (by omega) (by omega), ih (i + 1) b (by omega) fun j hj => ?_⟩⟩
      by_cases hji : j = i
      · subst hji; rw [e1, e2]; exact h2
      · exact hn j (by omega)
  exact hgo L.length 0 false (by omega) (by intro j hj; omega)
end
end Go.Proofs.Ytgkjfhkjgdiodaa

namespace Go.Proofs.Ytgkjfhkjgdiodaa
open _root_.Go.Proofs.Try
open Go.Abs
set_option maxRecDepth 100000
noncomputable section
theorem get9 {m : M} {b : Nat} {P : List Int} (hb : Bk m b 9 (ints P)) (hP : P.length = 9) (T : List C → Prop) (h : T (ints P)) :
    ∃ x0 x1 x2 x3 x4 x5 x6 x7 x8 : Int, ldA m (.ptr b 0) 9 = some [.int .i64 x0, .int .i64 x1, .int .i64 x2, .int .i64 x3, .int .i64 x4, .int .i64 x5, .int .i64 x6, .int .i64 x7, .int .i64 x8] ∧ T [.int .i64 x0, .int .i64 x1, .int .i64 x2, .int .i64 x3, .int .i64 x4, .int .i64 x5, .int .i64 x6, .int .i64 x7, .int .i64 x8] := by
  obtain ⟨a0, a1, a2, a3, a4, a5, a6, a7, a8, rfl⟩ := nine hP
  exact ⟨a0, a1, a2, a3, a4, a5, a6, a7, a8, hb.ra, h⟩
theorem pad_at {H : List Int} {i : Nat} (hi : i < H.length) (h9 : H.length ≤ 9) : (pad H)[i]? = some H[i] := by
  unfold pad; rw [List.getElem?_append_left hi]; exact List.getElem?_eq_getElem hi
theorem pad_set {H : List Int} {i : Nat} (hi : i < H.length) (h9 : H.length ≤ 9) : (pad (H.take i)).set i H[i] = pad (H.take (i + 1)) := by
  unfold pad
  rw [List.length_take, List.length_take, Nat.min_eq_left (by omega), Nat.min_eq_left (by omega), List.take_add_one, List.getElem?_eq_getElem hi]
  rw [show 9 - i = (9 - (i + 1)) + 1 by omega, List.replicate_succ, List.set_append_right _ _ (by rw [List.length_take]; omega)]
  rw [List.length_take, Nat.min_eq_left (by omega), Nat.sub_self, List.append_assoc]
  rfl
theorem ints_set (L : List Int) (i : Nat) (v : Int) : (ints L).set i (.int .i64 v) = ints (L.set i v) := by unfold ints; rw [List.map_set]
def zero9 : List Int := List.replicate 9 0
def hitsV (L H : List Int) : List Int := if listed L H then pad H else zero9
theorem listed_len {L H : List Int} (h : listed L H = true) : H.length = L.length := (of_decide_eq_true h).1
theorem listed_at {L H : List Int} (h : listed L H = true) {i : Nat} (hi : i < L.length) (hi2 : i < H.length) : 0 ≤ H[i] ∧ H[i] ≤ L[i] := by
  have h1 := (of_decide_eq_true h).2 i hi
  rw [getElem!_pos H i hi2, getElem!_pos L i hi] at h1
  exact h1
theorem small_listed {L H : List Int} (hS : Small L) (h : listed L H = true) : Small H := fun v hv => by
  obtain ⟨i, hi, rfl⟩ := List.getElem_of_mem hv
  have hi2 : i < L.length := by rw [← listed_len h]; exact hi
  have := listed_at h hi2 hi
  have := hS _ (List.getElem_mem hi2)
  omega
def Ret9 (Q : V → M → Prop) (b : Bool) (a : Nat) (m8 : M) : Prop := ∃ x9 x10 x11 x12 x13 x14 x15 x16 x17 : Int, ldA m8 (.ptr a 0) 9 = some [.int .i64 x9, .int .i64 x10, .int .i64 x11, .int .i64 x12, .int .i64 x13, .int .i64 x14, .int .i64 x15, .int .i64 x16, .int .i64 x17] ∧ Q (.tup [.agg 9 [.int .i64 x9, .int .i64 x10, .int .i64 x11, .int .i64 x12, .int .i64 x13, .int .i64 x14, .int .i64 x15, .int .i64 x16, .int .i64 x17], .c (.bool b)]) m8
/-- hitsOf -/
theorem s74 {r c : Int} {x y : C} {L H : List Int} {m : M} {Q : V → M → Prop} (hx : Li m x L) (hf : isField r c L = true) (hH : H.length ≤ 1000) (hy : Li m y H)
    (h : ∀ m', Ext m m' → Q (.tup [.agg 9 (ints (hitsV L H)), .c (.bool (listed L H))]) m') : Wc prog tbl 74 [.agg 3 [.int .i64 r, .int .i64 c, x], .c y] m Q := by
  obtain ⟨hS, hL, hrc⟩ := field_of hf
  have hsd := sides_of hf
  have hm := hsd.mul
  refine w74 fun m0 e0 m1 e1 => ?_
  obtain ⟨b0, x0⟩ := Bk.new e0
  obtain ⟨b1, x1⟩ := Bk.new e1
  have b0' := b0.ext x1
  have x01 := x0.trans x1
  refine ⟨hy.isSl, r, c, x, b0'.ra, s88 (by have := hsd.r1; omega) (by have := hsd.c1; omega) (fits_small (by omega) (by omega)) fun m6 e6 => ⟨_, rfl, ?_⟩⟩
  have x06 := x01.trans e6
  have hset : ∀ {m22 : M} (vs : List C), Ext m m22 → m.nxt < m0.nxt → Ext m (m22.set m0.nxt (.cells 9 vs false)) := fun vs e hlt => e.setR (Nat.le_of_lt hlt) _
  have hlt : m.nxt < m0.nxt := b0.lt
  have hfalse : ∀ {m22 : M}, Ext m m22 → Bk m22 m0.nxt 9 (ints zero9) → listed L H = false → (∃ m8 : M, stC m22 (.ptr m0.nxt 0) 9 (ints zero9) = some m8 ∧ Ret9 Q false m0.nxt m8) := fun {m22} e hb hl => by
    refine ⟨_, hb.st _, get9 (hb.set _) rfl (fun l => Q (.tup [.agg 9 l, .c (.bool false)]) _) ?_⟩
    have hq := h _ (hset (ints zero9) e hlt)
    unfold hitsV at hq
    rw [hl] at hq
    exact hq
  rw [hy.slLen, ifB_ndec]
  refine ⟨fun h1 => hfalse x06 (b1.ext e6) (decide_eq_false fun h2 => h1 (by rw [h2.1]; exact hrc)), fun h1 m18 h18 => ⟨hy.isSl, fun R19 hstep => ?_⟩⟩
  have hl : H.length = L.length := by omega
  obtain ⟨b18, x18⟩ := Bk.new h18
  have hgo : ∀ (d i : Nat) (b : Bool) (m22 : M), d + i = L.length → (∀ j : Nat, j < i → 0 ≤ H[j]! ∧ H[j]! ≤ L[j]!) → Ext m6 m22 → Bk m22 m6.nxt 9 (ints (pad (H.take i))) → R19 [.c (.bool b), .c (.int .i64 (i : Int))] m22 := by
    intro d
    induction d with
    | zero =>
      intro i b m22 hd hn he hbk
      refine hstep _ _ _ ?_
      rw [ifB_dec]
      refine ⟨fun h1 => by omega, fun _ => ?_⟩
      have hlt : listed L H = true := decide_eq_true ⟨hl, fun j hj => hn j (by omega)⟩
      have hbk' : Bk m22 m6.nxt 9 (ints (pad H)) := by rw [List.take_of_length_le (by omega)] at hbk; exact hbk
      have b1' := (b1.ext e6).ext he
      refine get9 hbk' (pad_len (by omega)) (fun l => ∃ m59, stC m22 (.ptr m0.nxt 0) 9 l = some m59 ∧ Ret9 Q true m0.nxt m59) ⟨_, b1'.st _, get9 (b1'.set _) (pad_len (by omega)) (fun l => Q (.tup [.agg 9 l, .c (.bool true)]) _) ?_⟩
      have hq := h _ (hset (ints (pad H)) (x06.trans he) b0.lt)
      unfold hitsV at hq
      rw [hlt] at hq
      exact hq
    | succ d ih =>
      intro i b m22 hd hn he hbk
      refine hstep _ _ _ ?_
      rw [ifB_dec]
      refine ⟨fun _ => ?_, fun h1 => by omega⟩
      have hi : i < L.length := by omega
      have hi2 : i < H.length := by omega
      have ex := x06.trans he
      have e1 : H[i]! = H[i] := getElem!_pos H i hi2
      have e2 : L[i]! = L[i] := getElem!_pos L i hi
      have b1' := (b1.ext e6).ext he
      refine ⟨i, rfl, hi2, H[i], Li.rd (hy.ext ex) (List.getElem?_eq_getElem hi2), ?_⟩
      rw [ifB_dec]
      refine ⟨fun h2 => hfalse ex b1' (decide_eq_false fun h3 => by have := h3.2 i hi; rw [e1] at this; omega), fun h2 => ⟨trivial, x, ((b0'.ext e6).ext he).rc rfl, i, rfl, by rw [hx.slLen]; exact hi, L[i], Li.rd (hx.ext ex) (List.getElem?_eq_getElem hi), ?_⟩⟩
      rw [ifB_dec]
      refine ⟨fun h3 => hfalse ex b1' (decide_eq_false fun h4 => by have := h4.2 i hi; rw [e1, e2] at this; omega), fun h3 => ⟨trivial, i, rfl, by omega, ?_⟩⟩
      have hat := stC_at hbk.g (k := 0 + i * 1) (.int .i64 H[i]) (by rw [ints_len, pad_len (by rw [List.length_take]; omega)]; omega) (by rw [ints_len, pad_len (by rw [List.length_take]; omega)]) (by omega)
      refine ⟨_, hat, fits_small (by omega) (by omega), ih (i + 1) b _ (by omega) (fun j hj => ?_) (he.setR (Nat.le_refl _) _) ?_⟩
      · by_cases hji : j = i
        · subst hji; rw [e1, e2]; omega
        · exact hn j (by omega)
      · rw [ints_set, show 0 + i * 1 = i by omega, pad_set hi2 (by omega)]
        exact hbk.set _
  exact hgo L.length 0 false m18 (by omega) (by intro j hj; omega) x18 b18
end
end Go.Proofs.Ytgkjfhkjgdiodaa

namespace Go.Proofs.Ytgkjfhkjgdiodaa
open _root_.Go.Proofs.Try
open Go.Abs
set_option maxRecDepth 100000
noncomputable section
def at' (P : List Int) (k : Int) : Int := P[k.toNat]!
theorem at_rc {m : M} {b : Nat} {P : List Int} (hb : Bk m b 9 (ints P)) {k : Nat} (hk : k < P.length) : ldC m (.ptr b (0 + k * 1)) = some (.int .i64 (at' P (k : Int))) := by
  have h1 : at' P (k : Int) = P[k] := getElem!_pos P k hk
  rw [h1, show 0 + k * 1 = k by omega]
  exact hb.rc (ints_at (List.getElem?_eq_getElem hk))
theorem at_small {P : List Int} (hS : Small P) (k : Int) (hk : k.toNat < P.length) : 0 ≤ at' P k ∧ at' P k ≤ 9 := by
  have h1 : at' P k = P[k.toNat] := getElem!_pos P k.toNat hk
  rw [h1]; exact small_at hS hk
def dif (a b : Int) : Int := max (a - b) (b - a)
theorem s123 {r c sm a b : Int} {x y : C} {m : M} {Q : V → M → Prop} (ha : 0 ≤ a ∧ a ≤ 9) (hb : 0 ≤ b ∧ b ≤ 9) (h : ∀ m', Ext m m' → Q (.c (.bool (decide (sm < dif a b)))) m') :
    Wc prog tbl 123 [.agg 5 [.int .i64 r, .int .i64 c, x, .int .i64 sm, y], .c (.int .i64 a), .c (.int .i64 b)] m Q := by
  refine w123 fun m0 e0 => ?_
  obtain ⟨b0, x0⟩ := Bk.new e0
  exact ⟨fits_small (by omega) (by omega), fits_small (by omega) (by omega), trivial, sm, b0.rc rfl, h m0 x0⟩
def jumpsB (c sm : Int) (P : List Int) (i : Int) : Bool := decide ((0 < i % c ∧ sm < dif (at' P i) (at' P (i - 1))) ∨ (0 ≤ i - c ∧ sm < dif (at' P i) (at' P (i - c))))
theorem s112 {r c sm : Int} {x y : C} {P : List Int} {i : Nat} {m : M} {Q : V → M → Prop} (hP : P.length = 9) (hS : Small P) (hc : 1 ≤ c) (hc4 : c ≤ 4) (hi : i < 9) (h : ∀ m', Ext m m' → Q (.c (.bool (jumpsB c sm P i))) m') :
    Wc prog tbl 112 [.agg 5 [.int .i64 r, .int .i64 c, x, .int .i64 sm, y], .agg 9 (ints P), .c (.int .i64 (i : Int))] m Q := by
  have hsm : ∀ k : Int, 0 ≤ k → k < 9 → 0 ≤ at' P k ∧ at' P k ≤ 9 := fun k h0 h9 => at_small hS k (by omega)
  have hrc : ∀ {m' : M} {b : Nat} {k : Nat}, Bk m' b 9 (ints P) → k < 9 → ldC m' (.ptr b (0 + k * 1)) = some (.int .i64 (at' P (k : Int))) := fun hb hk => at_rc hb (by omega)
  have hmod : 0 ≤ (i : Int) % c := Int.emod_nonneg _ (by omega)
  have hmod2 : (i : Int) % c < c := Int.emod_lt_of_pos _ (by omega)
  have hcol : ∀ {m0 m14 : M}, Ext m m14 → Bk m14 m.nxt 5 [.int .i64 r, .int .i64 c, x, .int .i64 sm, y] → Bk m14 m0.nxt 9 (ints P) → ¬ (0 < (i : Int) % c ∧ sm < dif (at' P i) (at' P ((i : Int) - 1))) →
      ifB (decide ((0 : Int) ≤ ((i : Int) - c))) (∃ x16 : Int, (∃ x17 : Int, (∃ c18 : C, (∃ x19 : Int, (∃ c20 : C, (((ldA m14 (C.ptr (m).nxt 0) 5) = (Option.some [(C.int IntKind.i64 x16), (C.int IntKind.i64 x17), c18, (C.int IntKind.i64 x19), c20])) ∧ (isPt (C.ptr (m0).nxt 0) ∧
        (∃ n21 : Nat, (((i : Int) = ((n21 : Nat) : Int)) ∧ ((n21 < 9) ∧ (∃ x22 : Int, (((ldC m14 (C.ptr (m0).nxt (0 + (n21 * 1)))) = (Option.some (C.int IntKind.i64 x22))) ∧
        (isPt (C.ptr (m0).nxt 0) ∧ (∃ n23 : Nat, ((((i : Int) - c) = ((n23 : Nat) : Int)) ∧ ((n23 < 9) ∧ (∃ x24 : Int, (((ldC m14 (C.ptr (m0).nxt (0 + (n23 * 1)))) = (Option.some (C.int IntKind.i64 x24))) ∧
        (Wc prog tbl 123 [(V.agg 5 [(C.int IntKind.i64 x16), (C.int IntKind.i64 x17), c18, (C.int IntKind.i64 x19), c20]), (V.c (C.int IntKind.i64 x22)), (V.c (C.int IntKind.i64 x24))] m14 (fun v25 m26 =>
        (∃ b27 : Bool, ((v25 = (V.c (C.bool b27))) ∧ (Q (V.c (C.bool b27)) m26))))))))))))))))))))))) (Q (V.c (C.bool false)) m14) := fun {m0 m14} e hb hb1 hno => by
    rw [ifB_dec]
    refine ⟨fun h0 => ?_, fun h0 => ?_⟩
    · obtain ⟨k, hk⟩ : ∃ k : Nat, (i : Int) - c = (k : Int) := ⟨((i : Int) - c).toNat, by omega⟩
      refine ⟨r, c, x, sm, y, hb.ra, trivial, i, rfl, hi, at' P i, hrc hb1 hi, trivial, k, hk, by omega, at' P k, hrc hb1 (by omega), s123 (hsm _ (by omega) (by omega)) (hsm _ (by omega) (by omega)) fun m26 e26 => ⟨_, rfl, ?_⟩⟩
      have hq := h m26 (e.trans e26)
      have : jumpsB c sm P i = decide (sm < dif (at' P i) (at' P k)) := by
        unfold jumpsB
        rw [hk]
        exact decide_eq_decide.2 ⟨fun h1 => h1.elim (fun h2 => absurd h2 hno) fun h2 => h2.2, fun h1 => .inr ⟨by omega, h1⟩⟩
      rw [this] at hq
      exact hq
    · have hq := h m14 e
      have : jumpsB c sm P i = false := decide_eq_false fun h1 => h1.elim hno fun h2 => h0 h2.1
      rw [this] at hq
      exact hq
  obtain ⟨a0, a1, a2, a3, a4, a5, a6, a7, a8, hPe⟩ := nine hP
  rw [show ints P = ints [a0, a1, a2, a3, a4, a5, a6, a7, a8] by rw [← hPe]]
  refine w112 fun m0 e0 m1 e1 => ?_
  obtain ⟨b0, x0⟩ := Bk.new e0
  obtain ⟨b1', x1⟩ := Bk.new e1
  have b1 : Bk m1 m0.nxt 9 (ints P) := by rw [hPe]; exact b1'
  have b0' := b0.ext x1
  have x01 := x0.trans x1
  refine ⟨fits_small (by omega) (by omega), trivial, trivial, c, b0'.rc rfl, fits_small (by omega) (by omega), trivial, trivial, c, b0'.rc rfl, by omega, by omega, fits_small (by omega) (by omega), ?_⟩
  rw [ifB_dec]
  refine ⟨fun h0 => ?_, fun h0 => hcol x01 b0' b1 fun h1 => h0 h1.1⟩
  have hi1 : 1 ≤ i := by
    rcases Nat.eq_zero_or_pos i with rfl | h1
    · simp at h0
    · exact h1
  obtain ⟨k, hk⟩ : ∃ k : Nat, (i : Int) - 1 = (k : Int) := ⟨i - 1, by omega⟩
  refine ⟨r, c, x, sm, y, b0'.ra, trivial, i, rfl, hi, at' P i, hrc b1 hi, trivial, k, hk, by omega, at' P k, hrc b1 (by omega), s123 (hsm _ (by omega) (by omega)) (hsm _ (by omega) (by omega)) fun m14 e14 => ⟨_, rfl, ?_⟩⟩
  have xe := x01.trans e14
  rw [ifB_dec]
  refine ⟨fun h1 => ?_, fun h1 => hcol xe (b0'.ext e14) (b1.ext e14) fun h2 => h1 (by rw [← hk]; exact h2.2)⟩
  have hq := h m14 xe
  have : jumpsB c sm P i = true := decide_eq_true (.inl ⟨h0, by rw [hk]; exact h1⟩)
  rw [this] at hq
  exact hq
end
end Go.Proofs.Ytgkjfhkjgdiodaa
