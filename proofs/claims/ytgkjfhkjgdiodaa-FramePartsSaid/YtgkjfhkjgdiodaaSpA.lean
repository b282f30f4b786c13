/- What functions of the program ask and do. Condition: none; a lemma text of this claim. -/
import Derived.Test.YtgkjfhkjgdiodaaTx
namespace Go.Proofs.Ytgkjfhkjgdiodaa
open _root_.Go.Proofs.Try
open Go.Abs
/-- the first number from n on, around, that is not in D -/
def nf (k : Nat) (D : List Int) : Nat → Int → Int
  | 0, n => n
  | f + 1, n => if n ∈ D then nf k D f ((n + 1) % k) else n
def drawL (k : Nat) (t : Int) : Nat → Int → Int → List Int → List Int
  | 0, _, _, D => D
  | n + 1, i, x, D => drawL k t n (i + 1) ((31 * x + t + i) % 9973) (D ++ [nf k D k (((31 * x + t + i) % 9973) % k)])
theorem nodup_sub {l r : List Int} (hl : l.Nodup) (h : ∀ v ∈ l, v ∈ r) : l.length ≤ r.length := by
  induction l generalizing r with
  | nil => simp
  | cons a l ih =>
    rw [List.nodup_cons] at hl
    have ha := h a (List.mem_cons_self ..)
    have h1 : ∀ v ∈ l, v ∈ r.erase a := fun v hv => by
      have hne : v ≠ a := fun he => hl.1 (he ▸ hv)
      exact (List.mem_erase_of_ne hne).2 (h v (List.mem_cons_of_mem _ hv))
    have h2 := ih hl.2 h1
    rw [List.length_erase_of_mem ha] at h2
    have := List.length_pos_of_mem ha
    simp; omega
/-- some place is free -/
theorem free_in {k : Nat} {D : List Int} {n : Int} (hD : D.length < k) (h0 : 0 ≤ n) (hn : n < k) : ∃ j, j < k ∧ ((n + (j : Int)) % k) ∉ D := by
  refine Classical.byContradiction fun hc => ?_
  have hall : ∀ j : Nat, j < k → ((n + (j : Int)) % k) ∈ D := fun j hj => Classical.byContradiction fun h => hc ⟨j, hj, h⟩
  have h1 : ((List.range k).map fun j : Nat => (n + (j : Int)) % (k : Int)).Nodup := by
    unfold List.Nodup
    rw [List.pairwise_map]
    refine List.Pairwise.imp_of_mem ?_ List.nodup_range
    intro a b ha hb hab h
    rw [List.mem_range] at ha hb
    have e1 : (n + (a : Int)) % k = if n + a < k then n + a else n + a - k := by
      split
      · exact Int.emod_eq_of_lt (by omega) (by omega)
      · rw [← Int.sub_emod_right, Int.emod_eq_of_lt (by omega) (by omega)]
    have e2 : (n + (b : Int)) % k = if n + b < k then n + b else n + b - k := by
      split
      · exact Int.emod_eq_of_lt (by omega) (by omega)
      · rw [← Int.sub_emod_right, Int.emod_eq_of_lt (by omega) (by omega)]
    have h' : (n + (a : Int)) % k = (n + (b : Int)) % k := h
    rw [e1, e2] at h'
    split at h' <;> split at h' <;> omega
  have h2 := nodup_sub h1 (r := D) fun v hv => by
    obtain ⟨j, hj, rfl⟩ := List.mem_map.1 hv
    exact hall j (List.mem_range.1 hj)
  simp at h2
  omega
theorem mod_step {k : Nat} {n : Int} (j : Nat) : ((n + 1) % (k : Int) + (j : Int)) % k = (n + ((j + 1 : Nat) : Int)) % k := by
  rw [Int.emod_add_emod]
  congr 1
  omega
theorem next_in {k : Nat} {n : Int} (h0 : 0 ≤ n) (hk : 0 < k) : 0 ≤ (n + 1) % (k : Int) ∧ (n + 1) % (k : Int) < k :=
  ⟨Int.emod_nonneg _ (by omega), Int.emod_lt_of_pos _ (by omega)⟩
/-- the search ends at a free place -/
theorem nf_ok {k : Nat} {D : List Int} (hk : 0 < k) : ∀ (f : Nat) {n : Int}, 0 ≤ n → n < k → (∃ j, j < f ∧ ((n + (j : Int)) % k) ∉ D) → nf k D f n ∉ D ∧ 0 ≤ nf k D f n ∧ nf k D f n < k
  | 0, n, _, _, h => by obtain ⟨j, hj, _⟩ := h; omega
  | f + 1, n, h0, hn, h => by
    unfold nf
    by_cases hm : n ∈ D
    · rw [if_pos hm]
      obtain ⟨j, hj, h1⟩ := h
      cases j with
      | zero => exact absurd hm (by rw [show (n + ((0 : Nat) : Int)) % (k : Int) = n from by rw [Int.emod_eq_of_lt (by omega) (by omega)]; omega] at h1; exact h1)
      | succ j =>
        obtain ⟨q1, q2⟩ := next_in (n := n) h0 hk
        exact nf_ok hk f q1 q2 ⟨j, by omega, by rw [mod_step]; exact h1⟩
    · rw [if_neg hm]; exact ⟨hm, h0, hn⟩
/-- what has been drawn -/
structure Drawn (k : Nat) (D : List Int) : Prop where
  nd : D.Nodup
  rg : ∀ v ∈ D, 0 ≤ v ∧ v < k
theorem Drawn.push {k : Nat} {D : List Int} (h : Drawn k D) (hk : 0 < k) (hD : D.length < k) {n : Int} (h0 : 0 ≤ n) (hn : n < k) : Drawn k (D ++ [nf k D k n]) := by
  obtain ⟨h1, h2, h3⟩ := nf_ok hk k h0 hn (free_in hD h0 hn)
  refine ⟨?_, fun v hv => ?_⟩
  · rw [List.nodup_append]
    refine ⟨h.nd, by simp, fun a ha b hb hab => ?_⟩
    have : b = nf k D k n := by simpa using hb
    rw [← this, ← hab] at h1
    exact h1 ha
  · rcases List.mem_append.1 hv with h4 | h4
    · exact h.rg v h4
    · have : v = nf k D k n := by simpa using h4
      rw [this]; exact ⟨h2, h3⟩
theorem drawL_ok {k : Nat} {t : Int} (hk : 0 < k) : ∀ (n : Nat) (i x : Int) (D : List Int), Drawn k D → D.length + n ≤ k → Drawn k (drawL k t n i x D) ∧ (drawL k t n i x D).length = D.length + n
  | 0, i, x, D, h, _ => ⟨h, rfl⟩
  | n + 1, i, x, D, h, hn => by
    have h0 : 0 ≤ ((31 * x + t + i) % 9973) % (k : Int) := Int.emod_nonneg _ (by omega)
    have h1 : ((31 * x + t + i) % 9973) % (k : Int) < k := Int.emod_lt_of_pos _ (by omega)
    obtain ⟨q1, q2⟩ := drawL_ok (t := t) hk n (i + 1) ((31 * x + t + i) % 9973) (D ++ [nf k D k (((31 * x + t + i) % 9973) % k)]) (h.push hk (by omega) h0 h1) (by simp; omega)
    exact ⟨q1, q2.trans (by simp; omega)⟩
end Go.Proofs.Ytgkjfhkjgdiodaa

namespace Go.Proofs.Ytgkjfhkjgdiodaa
open _root_.Go.Proofs.Try
open Go.Abs
set_option maxRecDepth 100000
noncomputable section
theorem c111 (n : Int) (b : Nat) {m : M} {Q : V → M → Prop} (h :
    (∃ c0 : C, (((ldC m (C.ptr b 0)) = (Option.some c0)) ∧ (callP prog tbl [(V.c (C.int IntKind.i64 n))] c0 m (fun v1 m2 => 
        (∃ b3 : Bool, ((v1 = (V.c (C.bool b3))) ∧ (Q (V.c (C.bool (!b3))) m2)))))))) : Wc prog tbl 111 [.c (.int .i64 n), .c (.ptr b 0)] m Q :=
  wc_eq (n := 2) rfl (by kernel_rfl) (by kernel_rfl) h

/-- the field is valid -/
def isField (r c : Int) (L : List Int) : Bool := decide ((1 ≤ r ∧ r ≤ 4) ∧ (1 ≤ c ∧ c ≤ 4) ∧ r * c ≤ 9 ∧ (L.length : Int) = r * c ∧ ∀ v ∈ L, 0 ≤ v ∧ v ≤ 9)
def isLot (s t d : Int) (k : Nat) : Bool := decide ((0 ≤ s ∧ s ≤ 9999) ∧ (0 ≤ t ∧ t ≤ 9999) ∧ (0 ≤ d ∧ d ≤ 6) ∧ d ≤ (k : Int))
theorem mul_small {r c : Int} (h1 : 1 ≤ r) (h2 : r ≤ 4) (h3 : 1 ≤ c) (h4 : c ≤ 4) : 0 ≤ r * c ∧ r * c ≤ 16 := by
  have : r = 1 ∨ r = 2 ∨ r = 3 ∨ r = 4 := by omega
  rcases this with rfl | rfl | rfl | rfl <;> omega

theorem s44 {n lo hi : Int} {m : M} {Q : V → M → Prop} (h : Q (.c (.bool (decide (lo ≤ n ∧ n ≤ hi)))) m) : Wc prog tbl 44 [.c (.int .i64 n), .c (.int .i64 lo), .c (.int .i64 hi)] m Q := by
  refine w44 ?_
  rw [ifB_dec]
  exact ⟨fun h1 => by simpa [h1] using h, fun h1 => by simpa [h1] using h⟩
theorem s92 {n lo hi : Int} {m : M} {Q : V → M → Prop} (h : ∀ m', Ext m m' → Q (.c (.bool (decide (lo ≤ n ∧ n ≤ hi)))) m') : Wc prog tbl 92 [.agg 2 [.int .i64 lo, .int .i64 hi], .c (.int .i64 n)] m Q := by
  refine w92 fun m0 e0 => ?_
  obtain ⟨b0, x0⟩ := Bk.new e0
  refine ⟨trivial, lo, b0.rc rfl, ?_⟩
  rw [ifB_dec]
  exact ⟨fun h1 => ⟨trivial, hi, b0.rc rfl, by simpa [h1] using h m0 x0⟩, fun h1 => by simpa [h1] using h m0 x0⟩
theorem s95 {n : Int} {m : M} {Q : V → M → Prop} (h : ∀ m', Ext m m' → Q (.c (.bool (decide (0 ≤ n ∧ n ≤ 9)))) m') : Wc prog tbl 95 [.c (.int .i64 n)] m Q :=
  w95 (s92 fun m' e => ⟨_, rfl, h m' e⟩)
theorem s88 {r c : Int} {x : C} {m : M} {Q : V → M → Prop} (h0 : 0 ≤ r) (h1 : 0 ≤ c) (h2 : fitsP .i64 (r * c)) (h : ∀ m', Ext m m' → Q (.c (.int .i64 (r * c))) m') : Wc prog tbl 88 [.agg 3 [.int .i64 r, .int .i64 c, x]] m Q := by
  refine w88 fun m0 e0 => ?_
  obtain ⟨b0, x0⟩ := Bk.new e0
  exact ⟨trivial, r, b0.rc rfl, trivial, c, b0.rc rfl, h0, h1, h2, h m0 x0⟩
/-- a search through numbers -/
theorem s61 {x : C} {L : List Int} {a : Int} {m : M} {Q : V → M → Prop} (hx : Li m x L) (hL : L.length ≤ 1048576) (h : Q (.c (.bool (decide (a ∈ L)))) m) : Wc prog tbl 61 [.c x, .c (.int .i64 a)] m Q := by
  refine w61 fun R0 hstep => ?_
  have hgo : ∀ (d i : Nat) (b : Bool), d + i = L.length → (∀ v ∈ L.take i, v ≠ a) → R0 [.c (.bool b), .c (.int .i64 (i : Int))] m := by
    intro d
    induction d with
    | zero =>
      intro i b hd hn
      refine hstep _ _ _ ⟨hx.isSl, ?_⟩
      rw [hx.slLen, ifB_dec]
      refine ⟨fun h1 => by omega, fun _ => ?_⟩
      have : ¬ a ∈ L := fun h2 => hn a (by rw [List.take_of_length_le (by omega)]; exact h2) rfl
      simpa [this] using h
    | succ d ih =>
      intro i b hd hn
      refine hstep _ _ _ ⟨hx.isSl, ?_⟩
      rw [hx.slLen, ifB_dec]
      refine ⟨fun _ => ?_, fun h1 => by omega⟩
      have hi : i < L.length := by omega
      refine ⟨i, rfl, hi, L[i], hx.rd (List.getElem?_eq_getElem hi), ?_⟩
      rw [ifB_dec]
      refine ⟨fun h1 => ?_, fun h1 => ⟨by simp only [fitsP]; omega, ?_⟩⟩
      · have : a ∈ L := by rw [← h1]; exact List.getElem_mem hi
        simpa [this] using h
      · exact ih (i + 1) b (by omega) fun v hv => by
          rw [List.take_add_one, List.getElem?_eq_getElem hi] at hv
          rcases List.mem_append.1 hv with h2 | h2
          · exact hn v h2
          · have : v = L[i] := by simpa using h2
            rw [this]; exact h1
  exact hgo L.length 0 false (by omega) (by simp)
theorem s109 {x : C} {L : List Int} {a : Int} {m : M} {Q : V → M → Prop} (hx : Li m x L) (hL : L.length ≤ 1048576) (h : ∀ r : Int, (0 ≤ r ↔ a ∈ L) → Q (.c (.int .i64 r)) m) : Wc prog tbl 109 [.c x, .c (.int .i64 a)] m Q := by
  refine w109 ⟨hx.isSl, fun R0 hstep => ?_⟩
  have hgo : ∀ (d i : Nat) (b : Int), d + i = L.length → (∀ v ∈ L.take i, v ≠ a) → R0 [.c (.int .i64 b), .c (.int .i64 (i : Int))] m := by
    intro d
    induction d with
    | zero =>
      intro i b hd hn
      refine hstep _ _ _ ?_
      rw [hx.slLen, ifB_dec]
      refine ⟨fun h1 => by omega, fun _ => h _ ?_⟩
      have : ¬ a ∈ L := fun h2 => hn a (by rw [List.take_of_length_le (by omega)]; exact h2) rfl
      exact ⟨fun h1 => by omega, fun h1 => absurd h1 this⟩
    | succ d ih =>
      intro i b hd hn
      refine hstep _ _ _ ?_
      rw [hx.slLen, ifB_dec]
      refine ⟨fun _ => ?_, fun h1 => by omega⟩
      have hi : i < L.length := by omega
      refine ⟨i, rfl, hi, L[i], hx.rd (List.getElem?_eq_getElem hi), ?_⟩
      rw [ifB_dec]
      refine ⟨fun h1 => ?_, fun h1 => ⟨by simp only [fitsP]; omega, ?_⟩⟩
      · have : a ∈ L := by rw [h1]; exact List.getElem_mem hi
        exact h _ ⟨fun _ => this, fun _ => Int.natCast_nonneg i⟩
      · exact ih (i + 1) b (by omega) fun v hv => by
          rw [List.take_add_one, List.getElem?_eq_getElem hi] at hv
          rcases List.mem_append.1 hv with h2 | h2
          · exact hn v h2
          · have : v = L[i] := by simpa using h2
            rw [this]; exact fun h => h1 h.symm
  exact hgo L.length 0 0 (by omega) (by simp)
theorem s93 {x : C} {L : List Int} {a : Int} {m : M} {Q : V → M → Prop} (hx : Li m x L) (hL : L.length ≤ 1048576) (h : Q (.c (.bool (decide (a ∈ L)))) m) : Wc prog tbl 93 [.c x, .c (.int .i64 a)] m Q :=
  w93 (s109 hx hL fun r hr => ⟨r, rfl, by simpa [hr] using h⟩)
/-- all numbers of a list are from 0 to 9 -/
theorem s94 {x : C} {L : List Int} {m : M} {Q : V → M → Prop} (hx : Li m x L) (hL : L.length ≤ 1048576) (h : ∀ m', Ext m m' → Q (.c (.bool (decide (∀ v ∈ L, 0 ≤ v ∧ v ≤ 9)))) m') : Wc prog tbl 94 [.c x, .c (.fn (.func 95) [] [])] m Q := by
  refine w94 fun m0 e0 => ?_
  obtain ⟨b0, x0⟩ := Bk.new e0
  have key : ∀ (r : Int) (m' : M), Ext m0 m' → (0 ≤ r ↔ ¬ ∀ v ∈ L, 0 ≤ v ∧ v ≤ 9) → Q (.c (.bool (!decide (0 ≤ r)))) m' := fun r m' e hr => by
    have h1 := h m' (x0.trans e)
    by_cases hc : ∀ v ∈ L, 0 ≤ v ∧ v ≤ 9
    · have : ¬ 0 ≤ r := fun h2 => (hr.1 h2) hc
      simpa [this, decide_eq_true hc] using h1
    · have h2 := hr.2 hc
      simpa [h2, decide_eq_false hc] using h1
  refine w110 (w122 ⟨(hx.ext x0).isSl, fun R0 hstep => ?_⟩)
  have hgo : ∀ (d i : Nat) (b : Int) (m1 : M), d + i = L.length → (∀ v ∈ L.take i, 0 ≤ v ∧ v ≤ 9) → Ext m0 m1 → R0 [.c (.int .i64 b), .c (.int .i64 (i : Int))] m1 := by
    intro d
    induction d with
    | zero =>
      intro i b m1 hd hn he
      refine hstep _ _ _ ?_
      rw [hx.slLen, ifB_dec]
      refine ⟨fun h1 => by omega, fun _ => ⟨_, rfl, _, rfl, key _ m1 he ?_⟩⟩
      refine ⟨fun h1 => by omega, fun h1 => absurd (fun v hv => hn v (by rw [List.take_of_length_le (by omega)]; exact hv)) h1⟩
    | succ d ih =>
      intro i b m1 hd hn he
      refine hstep _ _ _ ?_
      rw [hx.slLen, ifB_dec]
      refine ⟨fun _ => ?_, fun h1 => by omega⟩
      have hi : i < L.length := by omega
      refine ⟨i, rfl, hi, L[i], Li.rd ((hx.ext x0).ext he) (List.getElem?_eq_getElem hi), ?_⟩
      show Wc prog tbl 111 _ m1 _
      refine c111 L[i] m.nxt ⟨_, (b0.ext he).rc rfl, ?_⟩
      show Wc prog tbl 95 _ m1 _
      refine s95 fun m2 e2 => ⟨_, rfl, _, rfl, ?_⟩
      rw [ifB_ndec]
      refine ⟨fun h1 => ⟨_, rfl, _, rfl, key _ m2 (he.trans e2) ⟨fun _ h2 => h1 (h2 _ (List.getElem_mem hi)), fun _ => Int.natCast_nonneg i⟩⟩, fun h1 => ⟨by simp only [fitsP]; omega, ?_⟩⟩
      exact ih (i + 1) b m2 (by omega) (fun v hv => by
          rw [List.take_add_one, List.getElem?_eq_getElem hi] at hv
          rcases List.mem_append.1 hv with h2 | h2
          · exact hn v h2
          · have : v = L[i] := by simpa using h2
            rw [this]; exact h1) (he.trans e2)
  exact hgo L.length 0 0 m0 (by omega) (by simp) (.refl m0)
end
end Go.Proofs.Ytgkjfhkjgdiodaa

namespace Go.Proofs.Ytgkjfhkjgdiodaa
open _root_.Go.Proofs.Try
open Go.Abs
set_option maxRecDepth 100000
noncomputable section
theorem fits_small {n : Int} (h1 : -1000000 ≤ n) (h2 : n ≤ 1000000) : fitsP .i64 n := by simp only [fitsP]; omega
theorem s72 {r c : Int} {x : C} {L : List Int} {m : M} {Q : V → M → Prop} (hx : Li m x L) (hL : L.length ≤ 1048576) (h : ∀ m', Ext m m' → Q (.c (.bool (isField r c L))) m') : Wc prog tbl 72 [.agg 3 [.int .i64 r, .int .i64 c, x]] m Q := by
  refine w72 fun m0 e0 m1 e1 => ?_
  obtain ⟨b0, x0⟩ := Bk.new e0
  obtain ⟨b1, x1⟩ := Bk.new e1
  have b0' := b0.ext x1
  have hne : m.nxt ≠ m0.nxt := by have := b0.lt; omega
  have hb0 := b0'.setNe (c := m0.nxt) hne (.cells 2 [.int .i64 1, .int .i64 4] false)
  have hb1 := b1.set [.int .i64 1, .int .i64 4]
  have hx2 : Ext m (m1.set m0.nxt (.cells 2 [.int .i64 1, .int .i64 4] false)) := (x0.trans x1).setR x0.nxt _
  refine ⟨_, b1.st _, 1, 4, hb1.ra, trivial, r, hb0.rc rfl, s92 fun m7 e7 => ⟨_, rfl, ?_⟩⟩
  generalize hm2 : m1.set m0.nxt (.cells 2 [.int .i64 1, .int .i64 4] false) = m2 at hb0 hb1 hx2 e7
  have hfalse : ∀ m', Ext m2 m' → isField r c L = false → Q (.c (.bool false)) m' := fun m' e hf => by
    have := h m' (hx2.trans e); rw [hf] at this; exact this
  rw [ifB_dec]
  refine ⟨fun h1 => ?_, fun h1 => hfalse m7 e7 (decide_eq_false fun h2 => h1 h2.1)⟩
  refine ⟨1, 4, (hb1.ext e7).ra, trivial, c, (hb0.ext e7).rc rfl, s92 fun m13 e13 => ⟨_, rfl, ?_⟩⟩
  have e13' := e7.trans e13
  rw [ifB_dec]
  refine ⟨fun h2 => ?_, fun h2 => hfalse m13 e13' (decide_eq_false fun h3 => h2 h3.2.1)⟩
  have hs := mul_small h1.1 h1.2 h2.1 h2.2
  refine ⟨r, c, x, (hb0.ext e13').ra, s88 (by omega) (by omega) (fits_small (by omega) (by omega)) fun m19 e19 => ⟨_, rfl, ?_⟩⟩
  have e19' := e13'.trans e19
  rw [ifB_dec]
  refine ⟨fun h3 => ?_, fun h3 => hfalse m19 e19' (decide_eq_false fun h4 => h3 h4.2.2.1)⟩
  refine ⟨trivial, x, (hb0.ext e19').rc rfl, hx.isSl, r, c, x, (hb0.ext e19').ra, s88 (by omega) (by omega) (fits_small (by omega) (by omega)) fun m26 e26 => ⟨_, rfl, ⟨hx.isSl, rfl⟩, ?_⟩⟩
  have e26' := e19'.trans e26
  rw [hx.noFn, hx.slLen]
  refine ⟨(hb0.ext e26').rc rfl, ?_⟩
  rw [ifB_dec]
  refine ⟨fun h4 => ?_, fun h4 => hfalse m26 e26' (decide_eq_false fun h5 => h4 h5.2.2.2.1)⟩
  refine ⟨trivial, x, (hb0.ext e26').rc rfl, s94 (hx.ext (hx2.trans e26')) hL fun m30 e30 => ⟨_, rfl, ?_⟩⟩
  have hq := h m30 ((hx2.trans e26').trans e30)
  have : isField r c L = decide (∀ v ∈ L, 0 ≤ v ∧ v ≤ 9) := by
    unfold isField
    by_cases hv : ∀ v ∈ L, 0 ≤ v ∧ v ≤ 9
    · rw [decide_eq_true hv, decide_eq_true ⟨h1, h2, h3, h4, hv⟩]
    · rw [decide_eq_false hv, decide_eq_false fun h => hv h.2.2.2.2]
  rw [this] at hq
  exact hq
theorem s27 {r c : Int} {x : C} {L : List Int} {m : M} {Q : V → M → Prop} (hx : Li m x L) (hL : L.length ≤ 1048576) (h : ∀ m', Ext m m' → Q (.c (.int .i64 (if isField r c L then 0 else 1))) m') : Wc prog tbl 27 [.agg 3 [.int .i64 r, .int .i64 c, x]] m Q := by
  refine w27 fun m0 e0 => ?_
  obtain ⟨b0, x0⟩ := Bk.new e0
  refine ⟨r, c, x, b0.ra, s72 (hx.ext x0) hL fun m5 e5 => ⟨_, rfl, ?_⟩⟩
  have hq := h m5 (x0.trans e5)
  cases hf : isField r c L with
  | true => rw [hf] at hq; exact hq
  | false => rw [hf] at hq; exact hq
theorem s26 {r c : Int} {x : C} {L : List Int} {m : M} {Q : V → M → Prop} (hx : Li m x L) (hL : L.length ≤ 1048576) (h : ∀ m', Ext m m' → Q (.c (.bool (isField r c L))) m') : Wc prog tbl 26 [.agg 3 [.int .i64 r, .int .i64 c, x]] m Q := by
  refine w26 fun m0 e0 => ?_
  obtain ⟨b0, x0⟩ := Bk.new e0
  have hx0 := hx.ext x0
  have hfalse : isField r c L = false → Q (.c (.bool false)) m0 := fun hf => by
    have := h m0 x0; rw [hf] at this; exact this
  refine ⟨trivial, r, b0.rc rfl, s44 ⟨_, rfl, ?_⟩⟩
  rw [ifB_ndec]
  refine ⟨fun h1 => hfalse (decide_eq_false fun h2 => h1 h2.1), fun h1 => ⟨trivial, c, b0.rc rfl, s44 ⟨_, rfl, ?_⟩⟩⟩
  rw [ifB_ndec]
  refine ⟨fun h2 => hfalse (decide_eq_false fun h3 => h2 h3.2.1), fun h2 => ?_⟩
  have hs := mul_small h1.1 h1.2 h2.1 h2.2
  refine ⟨trivial, r, b0.rc rfl, trivial, c, b0.rc rfl, by omega, by omega, fits_small (by omega) (by omega), ?_⟩
  rw [ifB_dec]
  refine ⟨fun h3 => hfalse (decide_eq_false fun h4 => by have := h4.2.2.1; omega), fun h3 => ⟨trivial, x, b0.rc rfl, hx.isSl, trivial, r, b0.rc rfl, trivial, c, b0.rc rfl, by omega, by omega, fits_small (by omega) (by omega), ?_⟩⟩
  rw [hx.slLen, ifB_ndec]
  refine ⟨fun h4 => hfalse (decide_eq_false fun h5 => h4 h5.2.2.2.1), fun h4 R0 hstep => ?_⟩
  have hgo : ∀ (d i : Nat) (b : Bool), d + i = L.length → (∀ v ∈ L.take i, 0 ≤ v ∧ v ≤ 9) → R0 [.c (.bool b), .c (.int .i64 (i : Int))] m0 := by
    intro d
    induction d with
    | zero =>
      intro i b hd hn
      refine hstep _ _ _ ⟨trivial, x, b0.rc rfl, hx.isSl, ?_⟩
      rw [hx.slLen, ifB_dec]
      refine ⟨fun h1 => by omega, fun _ => ?_⟩
      have : isField r c L = true := decide_eq_true ⟨h1, h2, by omega, h4, fun v hv => hn v (by rw [List.take_of_length_le (by omega)]; exact hv)⟩
      have hq := h m0 x0
      rw [this] at hq; exact hq
    | succ d ih =>
      intro i b hd hn
      refine hstep _ _ _ ⟨trivial, x, b0.rc rfl, hx.isSl, ?_⟩
      rw [hx.slLen, ifB_dec]
      refine ⟨fun _ => ?_, fun h1 => by omega⟩
      have hi : i < L.length := by omega
      refine ⟨trivial, x, b0.rc rfl, i, rfl, by rw [hx.slLen]; exact hi, L[i], Li.rd hx0 (List.getElem?_eq_getElem hi), s44 ⟨_, rfl, ?_⟩⟩
      rw [ifB_ndec]
      refine ⟨fun h5 => hfalse (decide_eq_false fun h6 => h5 (h6.2.2.2.2 _ (List.getElem_mem hi))), fun h5 => ⟨by simp only [fitsP]; omega, ?_⟩⟩
      exact ih (i + 1) b (by omega) fun v hv => by
        rw [List.take_add_one, List.getElem?_eq_getElem hi] at hv
        rcases List.mem_append.1 hv with h2 | h2
        · exact hn v h2
        · have : v = L[i] := by simpa using h2
          rw [this]; exact h5
  exact hgo L.length 0 false (by omega) (by simp)
theorem s28 {r c s t d : Int} {x : C} {L : List Int} {m : M} {Q : V → M → Prop} (hx : Li m x L) (h : ∀ m', Ext m m' → Q (.c (.bool (isLot s t d L.length))) m') : Wc prog tbl 28 [.agg 3 [.int .i64 r, .int .i64 c, x], .agg 3 [.int .i64 s, .int .i64 t, .int .i64 d]] m Q := by
  refine w28 fun m0 e0 m1 e1 => ?_
  obtain ⟨b0, x0⟩ := Bk.new e0
  obtain ⟨b1, x1⟩ := Bk.new e1
  have b0' := b0.ext x1
  have hfalse : isLot s t d L.length = false → Q (.c (.bool false)) m1 := fun hf => by
    have := h m1 (x0.trans x1); rw [hf] at this; exact this
  refine ⟨trivial, s, b1.rc rfl, s44 ⟨_, rfl, ?_⟩⟩
  rw [ifB_dec]
  refine ⟨fun h1 => ⟨trivial, t, b1.rc rfl, s44 ⟨_, rfl, ?_⟩⟩, fun h1 => hfalse (decide_eq_false fun h2 => h1 h2.1)⟩
  rw [ifB_dec]
  refine ⟨fun h2 => ⟨trivial, d, b1.rc rfl, s44 ⟨_, rfl, ?_⟩⟩, fun h2 => hfalse (decide_eq_false fun h3 => h2 h3.2.1)⟩
  rw [ifB_dec]
  refine ⟨fun h3 => ⟨trivial, d, b1.rc rfl, trivial, x, b0'.rc rfl, hx.isSl, ?_⟩, fun h3 => hfalse (decide_eq_false fun h4 => h3 h4.2.2.1)⟩
  rw [hx.slLen]
  have hq := h m1 (x0.trans x1)
  have : isLot s t d L.length = decide (d ≤ (L.length : Int)) := by
    unfold isLot
    by_cases hv : d ≤ (L.length : Int)
    · rw [decide_eq_true hv, decide_eq_true ⟨h1, h2, h3, hv⟩]
    · rw [decide_eq_false hv, decide_eq_false fun h => hv h.2.2.2]
  rw [this] at hq
  exact hq
end
end Go.Proofs.Ytgkjfhkjgdiodaa

namespace Go.Proofs.Ytgkjfhkjgdiodaa
open _root_.Go.Proofs.Try
open Go.Abs
set_option maxRecDepth 100000
noncomputable section
theorem t22 : tk prog 22 = .sl 3 := by kernel_rfl
theorem g3 : growOk prog 3 = true := by kernel_rfl
theorem z3 : prog.cellsOf 3 = 1 := by kernel_rfl
theorem s69 {r c s t d : Int} {x : C} {L : List Int} {m : M} {Q : V → M → Prop} (hx : Li m x L) (hL : L.length ≤ 1048576) (h : ∀ m', Ext m m' → Q (.c (.int .i64 (if isField r c L then if isLot s t d L.length then 0 else 2 else 1))) m') :
    Wc prog tbl 69 [.agg 3 [.int .i64 r, .int .i64 c, x], .agg 3 [.int .i64 s, .int .i64 t, .int .i64 d]] m Q := by
  refine w69 fun m0 e0 m1 e1 => ?_
  obtain ⟨b0, x0⟩ := Bk.new e0
  obtain ⟨b1, x1⟩ := Bk.new e1
  have b0' := b0.ext x1
  have x01 := x0.trans x1
  refine ⟨r, c, x, b0'.ra, s27 (hx.ext x01) hL fun m6 e6 => ⟨_, rfl, ?_⟩⟩
  cases hf : isField r c L with
  | false =>
    simp only [hf] at h
    rw [ifB_ndec]
    exact ⟨fun _ => h m6 (x01.trans e6), fun h1 => absurd h1 (by decide)⟩
  | true =>
    simp only [hf, if_true] at h
    rw [ifB_ndec]
    refine ⟨fun h1 => absurd rfl h1, fun _ m8 e8 => ?_⟩
    obtain ⟨b8, x8⟩ := Bk.new e8
    have hfd : (1 ≤ r ∧ r ≤ 4) ∧ (1 ≤ c ∧ c ≤ 4) ∧ r * c ≤ 9 ∧ (L.length : Int) = r * c ∧ ∀ v ∈ L, 0 ≤ v ∧ v ≤ 9 := of_decide_eq_true hf
    have hs := mul_small hfd.1.1 hfd.1.2 hfd.2.1.1 hfd.2.1.2
    have ex8 := (x01.trans e6).trans x8
    have c0 := ((b0'.ext e6).ext x8)
    have c1 := ((b1.ext e6).ext x8)
    have n0 : m.nxt < m6.nxt := Nat.lt_of_lt_of_le b0'.lt e6.nxt
    have n1 : m0.nxt < m6.nxt := Nat.lt_of_lt_of_le b1.lt e6.nxt
    have d0 := c0.setNe (c := m6.nxt) (by omega) (.cells 2 [.int .i64 0, .int .i64 9999] false)
    have d1 := c1.setNe (c := m6.nxt) (by omega) (.cells 2 [.int .i64 0, .int .i64 9999] false)
    have d8 := b8.set [.int .i64 0, .int .i64 9999]
    have hx9 : Ext m (m8.set m6.nxt (.cells 2 [.int .i64 0, .int .i64 9999] false)) := ex8.setR (x01.trans e6).nxt _
    refine ⟨_, b8.st _, 0, 9999, d8.ra, trivial, s, d1.rc rfl, s92 fun m14 e14 => ⟨_, rfl, ?_⟩⟩
    generalize hm9 : m8.set m6.nxt (.cells 2 [.int .i64 0, .int .i64 9999] false) = m9 at d0 d1 d8 hx9 e14
    have hfalse : ∀ m', Ext m9 m' → isLot s t d L.length = false → Q (.c (.int .i64 2)) m' := fun m' e hf => by
      have := h m' (hx9.trans e); rw [hf] at this; exact this
    rw [ifB_ndec]
    refine ⟨fun h1 => hfalse m14 e14 (decide_eq_false fun h2 => h1 h2.1), fun h1 => ?_⟩
    refine ⟨0, 9999, (d8.ext e14).ra, trivial, t, (d1.ext e14).rc rfl, s92 fun m20 e20 => ⟨_, rfl, ?_⟩⟩
    have e20' := e14.trans e20
    rw [ifB_ndec]
    refine ⟨fun h2 => hfalse m20 e20' (decide_eq_false fun h3 => h2 h3.2.1), fun h2 => ⟨trivial, d, (d1.ext e20').rc rfl, ?_⟩⟩
    rw [ifB_dec]
    refine ⟨fun h3 => hfalse m20 e20' (decide_eq_false fun h4 => by have := h4.2.2.1.1; omega), fun h3 => ?_⟩
    refine ⟨trivial, d, (d1.ext e20').rc rfl, r, c, x, (d0.ext e20').ra, s88 (by omega) (by omega) (fits_small (by omega) (by omega)) fun m28 e28 => ⟨_, rfl, ((d1.ext e20').ext e28).rc rfl, ?_⟩⟩
    have e28' := e20'.trans e28
    rw [ifB_dec]
    have hmin : min (6 : Int) (r * c) < d ↔ (6 < d ∨ (L.length : Int) < d) := by rw [hfd.2.2.2.1]; omega
    refine ⟨fun h4 => hfalse m28 e28' (decide_eq_false fun h5 => ?_), fun h4 => ?_⟩
    · have := h5.2.2.1.2
      have := h5.2.2.2
      have := hmin.1 h4
      omega
    · have hq := h m28 (hx9.trans e28')
      have : isLot s t d L.length = true := decide_eq_true ⟨h1, h2, ⟨by omega, by
        have := fun h => h4 (hmin.2 (.inl h)); omega⟩, by have := fun h => h4 (hmin.2 (.inr h)); omega⟩
      rw [this] at hq
      exact hq
/-- numbers are copied -/
theorem s34 {x : C} {L : List Int} {m : M} {Q : V → M → Prop} (hx : Li m x L) (hL : L.length ≤ 1048576) (h : ∀ y m', Ext m m' → Own1 m' 1 y (ints L) L.length → Fr m y → Q (.c y) m') : Wc prog tbl 34 [.c x] m Q := by
  refine w34 fun m0 e0 => ?_
  obtain ⟨b0, x0⟩ := Bk.new e0
  have ho : Own1 m0 1 (.sl m.nxt 0 0 0 (some 0)) [] 0 := ⟨by simp, .lit m.nxt b0.g b0.lt⟩
  have hx0 := hx.ext x0
  cases L with
  | nil => exact ⟨_, m0, ap_none t22 g3 z3 ho hx0, h _ m0 x0 ho fun b o n s d he => by cases he; omega⟩
  | cons v L =>
    obtain ⟨m', h1, h2, h3, h4, h5⟩ := ap_own t22 g3 z3 ho hx0 (by simp) (by omega) (by simp at hL ⊢; omega)
    refine ⟨_, m', h1, h _ m' ⟨?_, fun b hb => ?_, by rw [h4]; exact x0.vw⟩ ?_ fun b o n s d he => by cases he; exact x0.nxt⟩
    · have := x0.nxt; omega
    · have := x0.nxt
      rw [h5 b (by omega) (by intro h; cases h)]; exact x0.g b hb
    · simp only [List.nil_append, Nat.zero_add] at h2 ⊢
      exact h2
theorem s22 {r c : Int} {x : C} {L : List Int} {m : M} {Q : V → M → Prop} (hx : Li m x L) (hL : L.length ≤ 1048576) (h : ∀ y m', Ext m m' → Li m' y L → Fr m y → Q (.agg 3 [.int .i64 r, .int .i64 c, y]) m') : Wc prog tbl 22 [.agg 3 [.int .i64 r, .int .i64 c, x]] m Q := by
  refine w22 fun m0 e0 m1 e1 => ?_
  obtain ⟨b0, x0⟩ := Bk.new e0
  obtain ⟨b1, x1⟩ := Bk.new e1
  have b0' := b0.ext x1
  have x01 := x0.trans x1
  refine ⟨trivial, r, b0'.rc rfl, trivial, c, b0'.rc rfl, trivial, x, b0'.rc rfl, s34 (hx.ext x01) hL fun y m6 e6 hy hf => ⟨y, rfl, (b0'.ext e6).rc rfl, (b0'.ext e6).rc rfl, _, (b1.ext e6).st _, r, c, y, ((b1.ext e6).set _).ra, ?_⟩⟩
  refine h y _ ((x01.trans e6).setR x0.nxt _) (hy.ls.setNe (fun b o n s d he => ?_) _) (hf.mono x01.nxt)
  have := hf b o n s d he
  have := b1.lt
  omega
theorem s23 {s t d : Int} {m : M} {Q : V → M → Prop} (h : ∀ m', Ext m m' → Q (.agg 3 [.int .i64 s, .int .i64 t, .int .i64 d]) m') : Wc prog tbl 23 [.agg 3 [.int .i64 s, .int .i64 t, .int .i64 d]] m Q := by
  refine w23 fun m0 e0 m1 e1 => ?_
  obtain ⟨b0, x0⟩ := Bk.new e0
  obtain ⟨b1, x1⟩ := Bk.new e1
  have b0' := b0.ext x1
  exact ⟨trivial, s, b0'.rc rfl, trivial, t, b0'.rc rfl, trivial, d, b0'.rc rfl, _, b1.st _, s, t, d, (b1.set _).ra, h _ ((x0.trans x1).setR x0.nxt _)⟩
theorem s45 {a b : Int} {m : M} {Q : V → M → Prop} (h : ∀ m', Ext m m' → Q (.agg 2 [.int .i64 a, .int .i64 b]) m') : Wc prog tbl 45 [.agg 2 [.int .i64 a, .int .i64 b]] m Q := by
  refine w45 fun m0 e0 m1 e1 => ?_
  obtain ⟨b0, x0⟩ := Bk.new e0
  obtain ⟨b1, x1⟩ := Bk.new e1
  have b0' := b0.ext x1
  exact ⟨trivial, a, b0'.rc rfl, trivial, b, b0'.rc rfl, _, b1.st _, a, b, (b1.set _).ra, h _ ((x0.trans x1).setR x0.nxt _)⟩
theorem s19 {r c t : Int} {x y : C} {k1 k2 n1 n2 : Nat} {v1 v2 : List C} {m : M} {Q : V → M → Prop} (hx : Ls m k1 x v1 n1) (hy : Ls m k2 y v2 n2) (h : ∀ m', Ext m m' → Q (.c (.bool (decide (n1 ≤ 12 ∧ n2 ≤ 9)))) m') :
    Wc prog tbl 19 [.agg 5 [.int .i64 r, .int .i64 c, x, .int .i64 t, y]] m Q := by
  refine w19 fun m0 e0 => ?_
  obtain ⟨b0, x0⟩ := Bk.new e0
  refine ⟨trivial, trivial, x, b0.rc rfl, hx.isSl, ?_⟩
  rw [hx.slLen, ifB_dec]
  refine ⟨fun h1 => ⟨trivial, y, b0.rc rfl, hy.isSl, ?_⟩, fun h1 => ?_⟩
  · have hq := h m0 x0
    have : decide (n1 ≤ 12 ∧ n2 ≤ 9) = decide ((n2 : Int) ≤ 9) := by
      by_cases h2 : n2 ≤ 9
      · rw [decide_eq_true (show n1 ≤ 12 ∧ n2 ≤ 9 from ⟨by omega, h2⟩), decide_eq_true (show (n2 : Int) ≤ 9 by omega)]
      · rw [decide_eq_false (show ¬ (n1 ≤ 12 ∧ n2 ≤ 9) by omega), decide_eq_false (show ¬ (n2 : Int) ≤ 9 by omega)]
    rw [this] at hq
    rw [hy.slLen]; exact hq
  · have hq := h m0 x0
    rw [decide_eq_false (show ¬ (n1 ≤ 12 ∧ n2 ≤ 9) by omega)] at hq
    exact hq
/-- equal lists: neither is before the other -/
theorem s73 {x y : C} {L : List Int} {m : M} {Q : V → M → Prop} (hx : Li m x L) (hy : Li m y L) (hL : L.length ≤ 1048576) (h : Q (.c (.bool false)) m) : Wc prog tbl 73 [.c x, .c y] m Q := by
  refine w73 fun R0 hstep => ?_
  have hgo : ∀ (d i : Nat) (b : Bool), d + i = L.length → R0 [.c (.bool b), .c (.int .i64 (i : Int))] m := by
    intro d
    induction d with
    | zero =>
      intro i b hd
      refine hstep _ _ _ ⟨hx.isSl, ?_⟩
      rw [hx.slLen, hy.slLen, ifB_dec]
      refine ⟨fun h1 => by omega, fun _ => ⟨hx.isSl, hy.isSl, ?_⟩⟩
      rw [decide_eq_false (by omega)]
      exact h
    | succ d ih =>
      intro i b hd
      refine hstep _ _ _ ⟨hx.isSl, ?_⟩
      rw [hx.slLen, hy.slLen, ifB_dec]
      refine ⟨fun _ => ⟨hy.isSl, ?_⟩, fun h1 => by omega⟩
      rw [ifB_dec]
      refine ⟨fun _ => ?_, fun h1 => by omega⟩
      have hi : i < L.length := by omega
      refine ⟨i, rfl, hi, L[i], Li.rd hx (List.getElem?_eq_getElem hi), i, rfl, hi, L[i], Li.rd hy (List.getElem?_eq_getElem hi), ?_⟩
      rw [ifB_ndec]
      exact ⟨fun h1 => absurd rfl h1, fun _ => ⟨by simp only [fitsP]; omega, ih (i + 1) b (by omega)⟩⟩
  exact hgo L.length 0 false (by omega)
theorem s29 {x y : C} {L : List Int} {m : M} {Q : V → M → Prop} (hx : Li m x L) (hy : Li m y L) (hL : L.length ≤ 1048576) (h : Q (.c (.bool true)) m) : Wc prog tbl 29 [.c x, .c y] m Q := by
  refine w29 ⟨hx.isSl, hy.isSl, ?_⟩
  rw [hx.slLen, hy.slLen, ifB_dec]
  refine ⟨fun _ => s73 hx hy hL ⟨_, rfl, ?_⟩, fun h1 => absurd rfl h1⟩
  exact s73 hy hx hL ⟨_, rfl, h⟩
end
end Go.Proofs.Ytgkjfhkjgdiodaa
