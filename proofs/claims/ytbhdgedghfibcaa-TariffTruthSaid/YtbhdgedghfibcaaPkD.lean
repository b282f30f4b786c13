/- TariffTruth, for all that it can be called with, returns true. Condition: none. -/
import Derived.Test.YtbhdgedghfibcaaPkC
import Derived.KernelRfl
import Derived.ProofKit
import Derived.Test.YtbhdgedghfibcaaRows

namespace Go.Abs
set_option maxRecDepth 100000
noncomputable section
theorem fI {n : Int} (h : -9223372036854775808 ≤ n ∧ n < 9223372036854775808) : fitsP .i64 n := h
theorem fU8 {n : Int} (h : fitsP .u8 n) : 0 ≤ n ∧ n < 256 := h
theorem wz {k : IntKind} {n : Int} (h : fitsP k n) : wrapZ k n = n := by unfold wrapZ; rw [fits_of h]; rfl
theorem idx_at {α : Type} {l : List α} {k : Nat} {a : α} (h : l[k]? = some a) : idx l (k : Int) = some a := by rw [idx_nat]; exact h
theorem idx_get {α : Type} {l : List α} {i : Int} {k : Nat} (hi : i = (k : Int)) (h : k < l.length) : idx l i = some l[k] := by subst hi; rw [idx_nat, List.getElem?_eq_getElem h]
theorem idx_pred {α : Type} {l : List α} {k : Nat} {a : α} (hk : 0 < k) (h : l[k - 1]? = some a) : idx l ((k : Int) - 1) = some a := by rw [show (k : Int) - 1 = ((k - 1 : Nat) : Int) by omega]; exact idx_at h
theorem idx_zero {α : Type} {l : List α} {a : α} (h : l[0]? = some a) : idx l (0 : Int) = some a := idx_at (k := 0) h
/-- a truth value that says P -/
def Ev (o : Option Bool) (P : Prop) : Prop := ∃ b, o = some b ∧ (b = true ↔ P)
namespace Ev
variable {o k : Option Bool} {P K : Prop}
theorem dec {p : Prop} [Decidable p] (h : p ↔ P) : Ev (some (decide p)) P := ⟨_, rfl, decide_eq_true_iff.trans h⟩
theorem ff (h : ¬ P) : Ev (some false) P := ⟨false, rfl, ⟨fun h => (by cases h), fun h' => absurd h' h⟩⟩
theorem tt (h : P) : Ev (some true) P := ⟨true, rfl, ⟨fun _ => h, fun _ => rfl⟩⟩
theorem imp (h : Ev o P) (hp : P ↔ K) : Ev o K := by obtain ⟨b, h1, h2⟩ := h; exact ⟨b, h1, h2.trans hp⟩
theorem ret (h : Ev o P) : Ev (o.bind fun r => some r) P := by obtain ⟨b, h1, h2⟩ := h; exact ⟨b, by rw [h1]; rfl, h2⟩
theorem and (h : Ev o P) (hk : P → Ev k K) : Ev (o.bind fun r => if r = true then k else some false) (P ∧ K) := by
  obtain ⟨b, h1, h2⟩ := h
  rw [h1, Option.bind_some]
  cases b with
  | true =>
    rw [if_pos rfl]
    have hp := h2.1 rfl
    exact (hk hp).imp ⟨fun h => ⟨hp, h⟩, fun h => h.2⟩
  | false => rw [if_neg (by simp)]; exact ff fun h => by have := h2.2 h.1; cases this
theorem ite {p : Prop} [Decidable p] (hk : p → Ev k K) : Ev (if p then k else some false) (p ∧ K) := by
  by_cases hp : p
  · rw [if_pos hp]; exact (hk hp).imp ⟨fun h => ⟨hp, h⟩, fun h => h.2⟩
  · rw [if_neg hp]; exact ff fun h => hp h.1
theorem itn {p : Prop} [Decidable p] (hk : ¬ p → Ev k K) : Ev (if p then some false else k) (¬ p ∧ K) := by
  by_cases hp : p
  · rw [if_pos hp]; exact ff fun h => h.1 hp
  · rw [if_neg hp]; exact (hk hp).imp ⟨fun h => ⟨hp, h⟩, fun h => h.2⟩
theorem gd {p : Prop} (hp : p) (h : Ev o P) : Ev (Go.Abs.gd p o) P := by rw [gd_pos hp]; exact h
theorem bind {α : Type} {x : Option α} {a : α} {f : α → Option Bool} (hx : x = some a) (h : Ev (f a) P) : Ev (x.bind f) P := by rw [hx, Option.bind_some]; exact h
theorem neg (h : Ev o P) : Ev (o.bind fun r => some (!r)) (¬ P) := by
  obtain ⟨b, h1, h2⟩ := h
  refine ⟨!b, by rw [h1]; rfl, ?_⟩
  cases b with
  | true => exact ⟨fun h => (by cases h), fun h => absurd (h2.1 rfl) h⟩
  | false => exact ⟨fun _ hp => (by have := h2.2 hp; cases this), fun _ => rfl⟩
/-- a choice by a truth value -/
theorem pick {α : Type} {f : Bool → Option α} {r : α} (h : Ev o P) (ht : P → f true = some r) (hf : ¬ P → f false = some r) : o.bind f = some r := by
  obtain ⟨b, h1, h2⟩ := h
  rw [h1, Option.bind_some]
  cases b with
  | true => exact ht (h2.1 rfl)
  | false => exact hf fun hp => by have := h2.2 hp; cases this
theorem some_of (h : Ev o P) (hp : P) : o = some true := by obtain ⟨b, h1, h2⟩ := h; rw [h1, h2.2 hp]
end Ev
open Classical in
theorem loopAll {β : Type} (n : Nat) (F : Nat → Int → Option β) (ok : Nat → Prop) (bad fin : Option β)
    (hstep : ∀ d k, k < n → F (d + 1) (k : Int) = if ok k then F d ((k : Int) + 1) else bad) (hend : ∀ d, F (d + 1) (n : Int) = fin) :
    ∀ d k, k ≤ n → n - k < d → F d (k : Int) = if (∀ j, k ≤ j → j < n → ok j) then fin else bad
  | 0, k, _, h => by omega
  | d + 1, k, hk, h => by
    by_cases hkn : k = n
    · subst hkn
      rw [hend, if_pos fun j h1 h2 => by omega]
    · rw [hstep d k (by omega)]
      by_cases ho : ok k
      · rw [if_pos ho, show (k : Int) + 1 = ((k + 1 : Nat) : Int) by omega, loopAll n F ok bad fin hstep hend d (k + 1) (by omega) (by omega)]
        by_cases ha : ∀ j, k + 1 ≤ j → j < n → ok j
        · rw [if_pos ha, if_pos fun j h1 h2 => by
            rcases Nat.eq_or_lt_of_le h1 with h3 | h3
            · subst h3; exact ho
            · exact ha j h3 h2]
        · rw [if_neg ha, if_neg fun h' => ha fun j h1 h2 => h' j (by omega) h2]
      · rw [if_neg ho, if_neg fun h' => ho (h' k (Nat.le_refl _) (by omega))]
/-- the same, from the start -/
theorem loopAll_tt {β : Type} {n : Nat} {F : Nat → Int → Option β} {ok : Nat → Prop} {bad fin : Option β}
    (hstep : ∀ d k, k < n → (ok k → F (d + 1) (k : Int) = F d ((k : Int) + 1)) ∧ (¬ ok k → F (d + 1) (k : Int) = bad)) (hend : ∀ d, F (d + 1) (n : Int) = fin) {d : Nat} (hd : n < d) :
    ((∀ j, j < n → ok j) → F d 0 = fin) ∧ (¬ (∀ j, j < n → ok j) → F d 0 = bad) := by
  have h := loopAll n F ok bad fin (fun d k hk => by
    by_cases ho : ok k
    · rw [if_pos ho]; exact (hstep d k hk).1 ho
    · rw [if_neg ho]; exact (hstep d k hk).2 ho) hend d 0 (Nat.zero_le _) (by omega)
  have h : F d 0 = _ := h
  refine ⟨fun ha => ?_, fun ha => ?_⟩
  · rw [h, if_pos fun j _ => ha j]
  · rw [h, if_neg fun h' => ha fun j => h' j (Nat.zero_le _)]
theorem Ev.loop {n : Nat} {F : Nat → Int → Option Bool} {ok : Nat → Prop} {fin : Option Bool} {P : Prop}
    (hstep : ∀ d k, k < n → (ok k → F (d + 1) (k : Int) = F d ((k : Int) + 1)) ∧ (¬ ok k → F (d + 1) (k : Int) = some false)) (hend : ∀ d, F (d + 1) (n : Int) = fin) {d : Nat} (hd : n < d)
    (hf : (∀ j, j < n → ok j) → Ev fin P) : Ev (F d 0) ((∀ j, j < n → ok j) ∧ P) := by
  obtain ⟨h1, h2⟩ := loopAll_tt hstep hend hd
  by_cases ha : ∀ j, j < n → ok j
  · rw [h1 ha]; exact (hf ha).imp ⟨fun h => ⟨ha, h⟩, fun h => h.2⟩
  · rw [h2 ha]; exact Ev.ff fun h => ha h.1
/-- a loop that makes a list -/
theorem loopApp {α γ β : Type} (l : List α) (g : α → γ) (F : Nat → List γ → Int → Option β) (fin : List γ → Option β)
    (hstep : ∀ d (k : Nat) acc a, l[k]? = some a → acc.length = k → F (d + 1) acc (k : Int) = F d (acc ++ [g a]) ((k : Int) + 1)) (hend : ∀ d acc, F (d + 1) acc (l.length : Int) = fin acc) :
    ∀ d (k : Nat) acc, k ≤ l.length → l.length - k < d → acc = (l.take k).map g → F d acc (k : Int) = fin (l.map g)
  | 0, k, _, _, h, _ => by omega
  | d + 1, k, acc, hk, h, ha => by
    by_cases hkn : k = l.length
    · subst hkn
      rw [hend, ha, List.take_length]
    · have hlt : k < l.length := by omega
      have hget := List.getElem?_eq_getElem hlt
      rw [hstep d k acc _ hget (by rw [ha, List.length_map, List.length_take]; omega), show (k : Int) + 1 = ((k + 1 : Nat) : Int) by omega]
      exact loopApp l g F fin hstep hend d (k + 1) _ (by omega) (by omega) (by rw [ha, List.take_add_one, hget, List.map_append]; rfl)
theorem loopApp0 {α γ β : Type} {l : List α} (g : α → γ) {F : Nat → List γ → Int → Option β} (fin : List γ → Option β)
    (hstep : ∀ d (k : Nat) acc a, l[k]? = some a → acc.length = k → F (d + 1) acc (k : Int) = F d (acc ++ [g a]) ((k : Int) + 1)) (hend : ∀ d acc, F (d + 1) acc (l.length : Int) = fin acc) {d : Nat} (hd : l.length < d) : F d [] 0 = fin (l.map g) :=
  loopApp l g F fin hstep hend d 0 [] (Nat.zero_le _) (by omega) (by simp)
def gIdx {α : Type} (l : List α) (p : α → Option Bool) : Nat → Int → Option Int
  | 0, _ => none
  | d + 1, x => if x < (l.length : Int) then ((idx l x).bind fun v => (p v).bind fun r => if r = true then some x else gd (fitsP .i64 (x + (1 : Int))) (gIdx l p d (x + (1 : Int)))) else some (-1 : Int)
theorem gIdx_ev {α : Type} {l : List α} {p : α → Option Bool} {q : α → Prop} (hp : ∀ a ∈ l, Ev (p a) (q a)) (hl : l.length < 4611686018427387904) :
    ∀ d (k : Nat), k ≤ l.length → l.length - k < d → ∃ r, gIdx l p d (k : Int) = some r ∧ (0 ≤ r ↔ ∃ a ∈ l.drop k, q a)
  | 0, _, _, h => by omega
  | d + 1, k, hk, h => by
    unfold gIdx
    by_cases hkn : k = l.length
    · subst hkn
      rw [if_neg (Int.lt_irrefl _)]
      exact ⟨_, rfl, by simp⟩
    · have hlt : k < l.length := by omega
      have hget := List.getElem?_eq_getElem hlt
      rw [if_pos (by omega), idx_at hget, Option.bind_some]
      have hd := List.drop_eq_getElem_cons hlt
      obtain ⟨b, h1, h2⟩ := hp _ (List.getElem_mem hlt)
      rw [h1, Option.bind_some]
      cases b with
      | true => rw [if_pos rfl]; exact ⟨_, rfl, ⟨fun _ => ⟨_, by rw [hd]; exact List.mem_cons_self .., h2.1 rfl⟩, fun _ => by omega⟩⟩
      | false =>
        rw [if_neg (by simp), gd_pos (fI (by omega)), show (k : Int) + 1 = ((k + 1 : Nat) : Int) by omega]
        obtain ⟨r, h3, h4⟩ := gIdx_ev hp hl d (k + 1) (by omega) (by omega)
        refine ⟨r, h3, h4.trans ⟨fun ⟨a, ha, hq⟩ => ⟨a, by rw [hd]; exact List.mem_cons_of_mem _ ha, hq⟩, fun ⟨a, ha, hq⟩ => ?_⟩⟩
        rw [hd] at ha
        rcases List.mem_cons.1 ha with rfl | ha
        · have := h2.2 hq; cases this
        · exact ⟨a, ha, hq⟩
theorem Ev.contains {α : Type} {l : List α} {p : α → Option Bool} {q : α → Prop} (hp : ∀ a ∈ l, Ev (p a) (q a)) (hl : l.length < 4611686018427387904) {o : Option Int} (ho : o = gIdx l p (l.length + 1) (0 : Int)) :
    Ev (o.bind fun r => some (decide ((0 : Int) ≤ r))) (∃ a ∈ l, q a) := by
  obtain ⟨r, h1, h2⟩ := gIdx_ev hp hl (l.length + 1) 0 (Nat.zero_le _) (by omega)
  have h1 : gIdx l p (l.length + 1) 0 = some r := h1
  rw [ho, h1, Option.bind_some]
  exact Ev.dec (by rw [h2, List.drop_zero])
theorem Ev.each {α : Type} {l : List α} {p : α → Option Bool} {q : α → Prop} (hp : ∀ a ∈ l, Ev (p a) (q a)) (hl : l.length < 4611686018427387904) {o : Option Int} (ho : o = gIdx l (fun a => (p a).bind fun r => some (!r)) (l.length + 1) (0 : Int)) :
    Ev ((o.bind fun r => some (decide ((0 : Int) ≤ r))).bind fun r => some (!r)) (∀ a ∈ l, q a) :=
  ((Ev.contains (q := fun a => ¬ q a) (fun a ha => (hp a ha).neg) hl ho).neg).imp (by
    constructor
    · intro h a ha; exact Classical.byContradiction fun hq => h ⟨a, ha, hq⟩
    · rintro h ⟨a, ha, hq⟩; exact hq (h a ha))
end
end Go.Abs

namespace Go.Proofs.Ytbhdgedghfibcaa
open _root_.Go.Proofs.Try
open Go.Abs
set_option maxRecDepth 100000
noncomputable section
/-- the index of the last number of a list that is at most n -/
def lastN : List Int → Int → Nat
  | x :: y :: l, n => if y ≤ n then lastN (y :: l) n + 1 else 0
  | _, _ => 0
theorem lastN_lt : ∀ (l : List Int) (n : Int), l ≠ [] → lastN l n < l.length
  | [], _, h => absurd rfl h
  | [_], _, _ => by simp [lastN]
  | x :: y :: l, n, _ => by
    unfold lastN
    split
    · have := lastN_lt (y :: l) n (by simp)
      simp only [List.length_cons] at this ⊢; omega
    · simp
theorem lastN_le : ∀ (l : List Int) (n : Int), (∀ x, l.head? = some x → x ≤ n) → ∀ x, l[lastN l n]? = some x → x ≤ n
  | [], _, _, x, h => by simp at h
  | [a], n, h0, x, h => by
    simp [lastN] at h; subst h; exact h0 a rfl
  | a :: y :: l, n, h0, x, h => by
    unfold lastN at h
    split at h
    · rename_i hy
      rw [List.getElem?_cons_succ] at h
      exact lastN_le (y :: l) n (fun z hz => by simp at hz; omega) x h
    · simp at h; subst h; exact h0 _ rfl
theorem lastN_gt : ∀ (l : List Int) (n : Int), l.Pairwise (· < ·) → ∀ j, lastN l n < j → ∀ x, l[j]? = some x → n < x
  | [], _, _, j, _, x, h => by simp at h
  | [a], n, _, j, hj, x, h => by
    have : j < [a].length := (List.getElem?_eq_some_iff.1 h).1
    simp at this; omega
  | a :: y :: l, n, hp, j, hj, x, h => by
    have hp' := (List.pairwise_cons.1 hp).2
    unfold lastN at hj
    cases j with
    | zero => omega
    | succ j =>
      rw [List.getElem?_cons_succ] at h
      split at hj
      · exact lastN_gt (y :: l) n hp' j (by omega) x h
      · rename_i hy
        have hx : x ∈ y :: l := List.mem_of_getElem? h
        rcases List.mem_cons.1 hx with hx | hx
        · omega
        · have := (List.pairwise_cons.1 hp').1 x hx; omega
/-- only one is so -/
theorem pw_lt {l : List Int} (hp : l.Pairwise (· < ·)) {i j : Nat} {x y : Int} (hx : l[i]? = some x) (hy : l[j]? = some y) (hij : i < j) : x < y := by
  obtain ⟨h1, h2⟩ := List.getElem?_eq_some_iff.1 hx
  obtain ⟨h3, h4⟩ := List.getElem?_eq_some_iff.1 hy
  rw [← h2, ← h4]
  exact List.pairwise_iff_getElem.1 hp i j h1 h3 hij
theorem lastN_uniq {l : List Int} {n : Int} (hp : l.Pairwise (· < ·)) {k : Nat} (hk : k < l.length) (h1 : ∀ x, l[k]? = some x → x ≤ n) (h2 : ∀ x, l[k + 1]? = some x → n < x) (h0 : ∀ x, l.head? = some x → x ≤ n) : lastN l n = k := by
  have hne : l ≠ [] := fun h => by subst h; simp at hk
  have hl := lastN_lt l n hne
  obtain ⟨a, ha⟩ : ∃ a, l[lastN l n]? = some a := ⟨_, List.getElem?_eq_getElem hl⟩
  obtain ⟨b, hb⟩ : ∃ b, l[k]? = some b := ⟨_, List.getElem?_eq_getElem hk⟩
  have h3 := lastN_le l n h0 a ha
  have h4 := h1 b hb
  rcases Nat.lt_trichotomy (lastN l n) k with h | h | h
  · have := lastN_gt l n hp k h b hb; omega
  · exact h
  · have hk1 : k + 1 < l.length := by omega
    have h5 := h2 _ (List.getElem?_eq_getElem hk1)
    rcases Nat.lt_or_ge (k + 1) (lastN l n) with h6 | h6
    · have := pw_lt hp (List.getElem?_eq_getElem hk1) ha h6; omega
    · have h7 : lastN l n = k + 1 := by omega
      rw [h7, List.getElem?_eq_getElem hk1] at ha
      cases ha; omega
end
end Go.Proofs.Ytbhdgedghfibcaa

namespace Go.Proofs.Ytbhdgedghfibcaa
open _root_.Go.Proofs.Try
open Go.Abs
set_option maxRecDepth 100000
noncomputable section
/-- the number i of a list, or 0 -/
def nth (l : List Int) (i : Nat) : Int := l.getD i 0
theorem nth_of {l : List Int} {i : Nat} {x : Int} (h : l[i]? = some x) : nth l i = x := by
  unfold nth; rw [List.getD_eq_getElem?_getD, h]; rfl
theorem nth_some {l : List Int} {i : Nat} (h : i < l.length) : l[i]? = some (nth l i) := by
  rw [List.getElem?_eq_getElem h, nth_of (List.getElem?_eq_getElem h)]
/-- the loss: on a straight line between the rates -/
def lineN (a b x y n : Int) : Int := (x * (b - n) + y * (n - a)) / (b - a)
def lossN (counts rates : List Int) (n : Int) : Int :=
  let i := lastN counts n
  if nth counts i = n then nth rates i else lineN (nth counts i) (nth counts (i + 1)) (nth rates i) (nth rates (i + 1)) n
/-- between any bounds of both rates -/
theorem line_le {a b x y n z : Int} (h1 : a ≤ n) (h2 : n ≤ b) (hab : a < b) (hx : 0 ≤ x) (hy : 0 ≤ y) (hxz : x ≤ z) (hyz : y ≤ z) : lineN a b x y n ≤ z := by
  unfold lineN
  have e1 : x * (b - n) ≤ z * (b - n) := Int.mul_le_mul_of_nonneg_right hxz (by omega)
  have e2 : y * (n - a) ≤ z * (n - a) := Int.mul_le_mul_of_nonneg_right hyz (by omega)
  have e3 : z * (b - n) + z * (n - a) = z * (b - a) := by rw [← Int.mul_add]; congr 1; omega
  have : x * (b - n) + y * (n - a) ≤ z * (b - a) := by omega
  calc (x * (b - n) + y * (n - a)) / (b - a) ≤ (z * (b - a)) / (b - a) := Int.ediv_le_ediv (by omega) this
    _ = z := Int.mul_ediv_cancel _ (by omega)
theorem line_ge {a b x y n z : Int} (h1 : a ≤ n) (h2 : n ≤ b) (hab : a < b) (hz : 0 ≤ z) (hxz : z ≤ x) (hyz : z ≤ y) : z ≤ lineN a b x y n := by
  unfold lineN
  have e1 : z * (b - n) ≤ x * (b - n) := Int.mul_le_mul_of_nonneg_right hxz (by omega)
  have e2 : z * (n - a) ≤ y * (n - a) := Int.mul_le_mul_of_nonneg_right hyz (by omega)
  have e3 : z * (b - n) + z * (n - a) = z * (b - a) := by rw [← Int.mul_add]; congr 1; omega
  have : z * (b - a) ≤ x * (b - n) + y * (n - a) := by omega
  calc z = (z * (b - a)) / (b - a) := (Int.mul_ediv_cancel _ (by omega)).symm
    _ ≤ _ := Int.ediv_le_ediv (by omega) this
/-- counts that are so, and rates -/
structure Cnt (counts : List Int) : Prop where
  pw : counts.Pairwise (· < ·)
  hd : counts.head? = some 0
  lst : counts.getLast? = some 100
structure Rts (counts rates : List Int) : Prop extends Cnt counts where
  len : rates.length = counts.length
  rng : ∀ r ∈ rates, 0 ≤ r ∧ r ≤ 100
variable {cs rs : List Int}
theorem Cnt.ne (h : Cnt cs) : cs ≠ [] := fun e => by have := h.hd; rw [e] at this; cases this
theorem Cnt.h0 (h : Cnt cs) {n : Int} (hn : 0 ≤ n) : ∀ x, cs.head? = some x → x ≤ n := fun x hx => by
  have := h.hd; rw [this] at hx; cases hx; exact hn
theorem Cnt.lt (h : Cnt cs) (n : Int) : lastN cs n < cs.length := lastN_lt cs n h.ne
/-- a count that is not listed is between two that are -/
theorem Cnt.btw (h : Cnt cs) {n : Int} (hn : 0 ≤ n) (h100 : n ≤ 100) : nth cs (lastN cs n) ≤ n ∧ (nth cs (lastN cs n) ≠ n → lastN cs n + 1 < cs.length ∧ n < nth cs (lastN cs n + 1)) := by
  have hl := h.lt n
  have h1 := lastN_le cs n (h.h0 hn) _ (nth_some hl)
  refine ⟨h1, fun hne => ?_⟩
  have hlast : cs[cs.length - 1]? = some 100 := by rw [← h.lst, List.getLast?_eq_getElem?]
  have hlt : lastN cs n + 1 < cs.length := by
    rcases Nat.lt_or_ge (lastN cs n + 1) cs.length with hh | hh
    · exact hh
    · have : lastN cs n = cs.length - 1 := by omega
      rw [this] at hne h1
      have := nth_of hlast
      omega
  exact ⟨hlt, lastN_gt cs n h.pw _ (Nat.lt_succ_self _) _ (nth_some hlt)⟩
theorem Rts.at (h : Rts cs rs) {i : Nat} (hi : i < cs.length) : 0 ≤ nth rs i ∧ nth rs i ≤ 100 := by
  have : i < rs.length := by rw [h.len]; exact hi
  exact h.rng _ (List.mem_of_getElem? (nth_some this))
theorem Rts.loss_rng (h : Rts cs rs) {n : Int} (hn : 0 ≤ n) (h100 : n ≤ 100) : 0 ≤ lossN cs rs n ∧ lossN cs rs n ≤ 100 := by
  obtain ⟨h1, h2⟩ := h.btw hn h100
  have hi := h.at (h.lt n)
  unfold lossN; dsimp only
  split
  · exact hi
  · rename_i hne
    obtain ⟨h3, h4⟩ := h2 hne
    have hi2 := h.at h3
    exact ⟨line_ge h1 (by omega) (by omega) (Int.le_refl _) hi.1 hi2.1, line_le h1 (by omega) (by omega) hi.1 hi2.1 hi.2 hi2.2⟩
/-- the loss at a count that is listed -/
theorem Cnt.last_at (h : Cnt cs) {i : Nat} (hi : i < cs.length) : lastN cs (nth cs i) = i := by
  refine lastN_uniq h.pw hi (fun x hx => ?_) (fun x hx => ?_) fun x hx => ?_
  · rw [nth_of hx]; exact Int.le_refl _
  · exact pw_lt h.pw (nth_some hi) hx (Nat.lt_succ_self _)
  · have h0 : cs[0]? = some x := by rw [← hx]; cases cs <;> rfl
    rcases Nat.eq_zero_or_pos i with h5 | h5
    · subst h5; rw [nth_of h0]; exact Int.le_refl _
    · exact Int.le_of_lt (pw_lt h.pw h0 (nth_some hi) h5)
end
end Go.Proofs.Ytbhdgedghfibcaa

namespace Go.Proofs.Ytbhdgedghfibcaa
open _root_.Go.Proofs.Try
open Go.Abs
set_option maxRecDepth 100000
noncomputable section
structure VT (t : Tf) : Prop where
  frm : 0 ≤ t.From ∧ t.From ≤ 120
  lst : 0 ≤ t.Least ∧ t.Least ≤ 100
  wks : t.Weeks.Pairwise (· < ·) ∧ t.Weeks.head? = some 0 ∧ ∀ x ∈ t.Weeks, 0 ≤ x ∧ x ≤ 120
  cts : t.Counts.Pairwise (· < ·) ∧ t.Counts.head? = some 0 ∧ ∀ x ∈ t.Counts, 0 ≤ x ∧ x ≤ 100
  c100 : t.Counts.getLast? = some 100
  rne : t.Rates ≠ []
  rts : ∀ c ∈ t.Rates, c.length = t.Weeks.length ∧ ∀ w ∈ c, w.length = t.Counts.length ∧ ∀ r ∈ w, 0 ≤ r ∧ r ≤ 100
def cropsN (l : List Tf) : Nat := match l with | [] => 0 | t :: _ => t.Rates.length
structure VL (l : List Tf) : Prop where
  ne : l ≠ []
  vt : ∀ t ∈ l, VT t
  pw : (l.map (·.From)).Pairwise (· < ·)
  hd : (l.map (·.From)).head? = some 0
  crp : ∀ t ∈ l, t.Rates.length = cropsN l
def tooManyN (t : Tf) : Prop := 4 < t.Weeks.length ∨ 5 < t.Counts.length ∨ 3 < t.Rates.length
def ManyN (l : List Tf) : Prop := 3 < l.length ∨ ∃ t ∈ l, tooManyN t
open Classical in
def faultN (l : List Tf) : Int := if ManyN l then 3 else if VL l then 0 else 1
theorem faultN_zero {l : List Tf} : faultN l = 0 ↔ ¬ ManyN l ∧ VL l := by
  unfold faultN
  split
  · rename_i h; exact ⟨fun h => by omega, fun h' => absurd h h'.1⟩
  · rename_i h
    split
    · rename_i h2; exact ⟨fun _ => ⟨h, h2⟩, fun _ => rfl⟩
    · rename_i h2; exact ⟨fun h => by omega, fun h' => absurd h'.2 h2⟩
/-- the rates of a crop and a day -/
def ratesN (t : Tf) (crop day : Int) : List Int := (t.Rates.getD crop.toNat []).getD (lastN t.Weeks day) []
def payTN (t : Tf) (loss : Int) : Int := if loss < t.Least then 0 else if t.Whole = true then loss else loss - t.Least
def partT (t : Tf) (crop day count : Int) : Int := payTN t (lossN t.Counts (ratesN t crop day) count)
instance : Inhabited Tf := ⟨⟨0, false, 0, [], [], []⟩⟩
def ofN (l : List Tf) (day : Int) : Tf := l.getD (lastN (l.map (·.From)) day) default
def partN (l : List Tf) (crop day count : Int) : Int := partT (ofN l day) crop day count
theorem VT.wlt {t : Tf} (h : VT t) (d : Int) : lastN t.Weeks d < t.Weeks.length := lastN_lt _ _ fun e => by have := h.wks.2.1; rw [e] at this; cases this
theorem VT.cnt {t : Tf} (h : VT t) : Cnt t.Counts := ⟨h.cts.1, h.cts.2.1, h.c100⟩
theorem VT.rates {t : Tf} (h : VT t) {crop : Int} (h0 : 0 ≤ crop) (h1 : crop < t.Rates.length) (day : Int) :
    ∃ wks, t.Rates[crop.toNat]? = some wks ∧ wks[lastN t.Weeks day]? = some (ratesN t crop day) ∧ Rts t.Counts (ratesN t crop day) := by
  have hc : crop.toNat < t.Rates.length := by omega
  have e1 := List.getElem?_eq_getElem hc
  obtain ⟨q1, q2⟩ := h.rts _ (List.getElem_mem hc)
  have hw : lastN t.Weeks day < t.Rates[crop.toNat].length := by rw [q1]; exact h.wlt day
  have e2 := List.getElem?_eq_getElem hw
  have e3 : ratesN t crop day = t.Rates[crop.toNat][lastN t.Weeks day] := by
    have e4 : t.Rates.getD crop.toNat [] = t.Rates[crop.toNat] := by rw [List.getD_eq_getElem?_getD, e1]; rfl
    unfold ratesN
    rw [e4, List.getD_eq_getElem?_getD, e2, Option.getD_some]
  obtain ⟨q3, q4⟩ := q2 _ (List.getElem_mem hw)
  refine ⟨_, e1, by rw [e2, e3], ⟨h.cnt, by rw [e3]; exact q3, by rw [e3]; exact q4⟩⟩
theorem VL.of {l : List Tf} (h : VL l) (day : Int) : l[lastN (l.map (·.From)) day]? = some (ofN l day) ∧ ofN l day ∈ l := by
  have hl := lastN_lt (l.map (·.From)) day fun e => h.ne (List.map_eq_nil_iff.1 e)
  rw [List.length_map] at hl
  have e : l[lastN (l.map (·.From)) day]? = some (ofN l day) := by
    unfold ofN
    rw [List.getD_eq_getElem?_getD, List.getElem?_eq_getElem hl, Option.getD_some]
  exact ⟨e, List.mem_of_getElem? e⟩
theorem payT_rng {t : Tf} (h : VT t) {x : Int} (h0 : 0 ≤ x) (h1 : x ≤ 100) : 0 ≤ payTN t x ∧ payTN t x ≤ 100 := by
  have := h.lst
  unfold payTN
  split
  · omega
  · split <;> omega
theorem VL.vof {l : List Tf} (h : VL l) (day : Int) : VT (ofN l day) := h.vt _ (h.of day).2
theorem VL.cof {l : List Tf} (h : VL l) (day : Int) : (ofN l day).Rates.length = cropsN l := h.crp _ (h.of day).2
theorem VL.rts {l : List Tf} (h : VL l) {crop : Int} (h0 : 0 ≤ crop) (h1 : crop < cropsN l) (day : Int) : Rts (ofN l day).Counts (ratesN (ofN l day) crop day) := by
  obtain ⟨_, _, _, q⟩ := (h.vof day).rates h0 (by rw [h.cof]; exact h1) day
  exact q
theorem VL.part_rng {l : List Tf} (h : VL l) {crop n : Int} (h0 : 0 ≤ crop) (h1 : crop < cropsN l) (hn : 0 ≤ n) (hn1 : n ≤ 100) (day : Int) : 0 ≤ partN l crop day n ∧ partN l crop day n ≤ 100 := by
  obtain ⟨q1, q2⟩ := (h.rts h0 h1 day).loss_rng hn hn1
  exact payT_rng (h.vof day) q1 q2
end
end Go.Proofs.Ytbhdgedghfibcaa

namespace Go.Proofs.Ytbhdgedghfibcaa
open _root_.Go.Proofs.Try
open Go.Abs
set_option maxRecDepth 100000
noncomputable section
/-- another Least, or Whole -/
structure Same (t u : Tf) : Prop where
  frm : u.From = t.From
  wks : u.Weeks = t.Weeks
  cts : u.Counts = t.Counts
  rts : u.Rates = t.Rates
theorem VT.same {t u : Tf} (h : VT t) (s : Same t u) (hl : 0 ≤ u.Least ∧ u.Least ≤ 100) : VT u :=
  ⟨by rw [s.frm]; exact h.frm, hl, by rw [s.wks]; exact h.wks, by rw [s.cts]; exact h.cts, by rw [s.cts]; exact h.c100, by rw [s.rts]; exact h.rne, by rw [s.rts, s.wks, s.cts]; exact h.rts⟩
theorem crops_map {f : Tf → Tf} {l : List Tf} (hs : ∀ t ∈ l, Same t (f t)) : cropsN (l.map f) = cropsN l := by
  cases l with
  | nil => rfl
  | cons t l => show (f t).Rates.length = t.Rates.length; rw [(hs t (List.mem_cons_self ..)).rts]
theorem from_map {f : Tf → Tf} {l : List Tf} (hs : ∀ t ∈ l, Same t (f t)) : (l.map f).map (·.From) = l.map (·.From) := by
  rw [List.map_map]
  exact List.map_congr_left fun t ht => (hs t ht).frm
theorem VL.map {f : Tf → Tf} {l : List Tf} (h : VL l) (hs : ∀ t ∈ l, Same t (f t)) (hl : ∀ t ∈ l, 0 ≤ (f t).Least ∧ (f t).Least ≤ 100) : VL (l.map f) := by
  have hf := from_map hs
  refine ⟨fun e => h.ne (List.map_eq_nil_iff.1 e), fun u hu => ?_, by rw [hf]; exact h.pw, by rw [hf]; exact h.hd, fun u hu => ?_⟩
  · obtain ⟨t, ht, rfl⟩ := List.mem_map.1 hu
    exact (h.vt t ht).same (hs t ht) (hl t ht)
  · obtain ⟨t, ht, rfl⟩ := List.mem_map.1 hu
    rw [crops_map hs, (hs t ht).rts]
    exact h.crp t ht
end
end Go.Proofs.Ytbhdgedghfibcaa

namespace Go.Proofs.Ytbhdgedghfibcaa
open _root_.Go.Proofs.Try
open Go.Abs
set_option maxRecDepth 100000
noncomputable section
theorem In_ev {n lo hi : Int} : Ev (prIn n lo hi) (lo ≤ n ∧ n ≤ hi) := Ev.ite fun _ => Ev.dec Iff.rfl
theorem has_ev {r : Rg} {n : Int} : Ev (phas r n) (r.Lo ≤ n ∧ n ≤ r.Hi) := Ev.ite fun _ => Ev.dec Iff.rfl
theorem isDay_ev {n : Int} : Ev (pisDay n) (0 ≤ n ∧ n ≤ 120) := has_ev.ret
theorem isCount_ev {n : Int} : Ev (pisCount n) (0 ≤ n ∧ n ≤ 100) := has_ev.ret
theorem isHundredths_ev {n : Int} : Ev (pisHundredths n) (0 ≤ n ∧ n ≤ 100) := has_ev.ret
theorem isIndex_ev {n s : Int} (hs : 0 ≤ s ∧ s ≤ 4611686018427387904) : Ev (pisIndex n s) (0 ≤ n ∧ n < s) := Ev.gd (fI (by omega)) (has_ev.ret.imp (by show 0 ≤ n ∧ n ≤ s - 1 ↔ _; omega))
/-- lists that are not too long -/
def shrt {α : Type} (l : List α) : Prop := l.length ≤ 1048576
theorem shrt.lt {α : Type} {l : List α} (h : shrt l) : l.length < 4611686018427387904 := by unfold shrt at h; omega
theorem nth_at {l : List Int} {k : Nat} (h : k < l.length) : idx l (k : Int) = some (nth l k) := idx_at (nth_some h)
theorem nth_pred {l : List Int} {k : Nat} (h0 : 0 < k) (h : k - 1 < l.length) : idx l ((k : Int) - 1) = some (nth l (k - 1)) := idx_pred h0 (nth_some h)
theorem pw_steps : ∀ {l : List Int}, (∀ j, 0 < j → j < l.length → nth l (j - 1) < nth l j) → l.Pairwise (· < ·)
  | [], _ => .nil
  | [a], _ => List.pairwise_singleton _ _
  | a :: b :: l, h => by
    have h1 : (b :: l).Pairwise (· < ·) := pw_steps fun j h0 hj => by
      have := h (j + 1) (by omega) (by simp at hj ⊢; omega)
      obtain ⟨i, rfl⟩ : ∃ i, j = i + 1 := ⟨j - 1, by omega⟩
      exact this
    have h2 : a < b := h 1 (by omega) (by simp)
    refine List.pairwise_cons.2 ⟨fun x hx => ?_, h1⟩
    rcases List.mem_cons.1 hx with rfl | hx
    · exact h2
    · exact Int.lt_trans h2 ((List.pairwise_cons.1 h1).1 x hx)
theorem pw_steps_iff {l : List Int} : (∀ j, 0 < j → j < l.length → nth l (j - 1) < nth l j) ↔ l.Pairwise (· < ·) :=
  ⟨pw_steps, fun h j h0 hj => pw_lt h (nth_some (by omega)) (nth_some hj) (by omega)⟩
theorem rises_ev {l : List Int} (hl : shrt l) : Ev (prises l) (l.Pairwise (· < ·) ∧ l.head? = some 0) := by
  have hl := hl.lt
  have key : Ev (prises_L0 l (l.length + 1) 0) ((∀ j, j < l.length → (0 < j → nth l (j - 1) < nth l j)) ∧ l.head? = some 0) := by
    refine Ev.loop (F := prises_L0 l) (fin := if (0 : Int) < (l.length : Int) then ((idx l (0 : Int)).bind fun x => some (decide (x = (0 : Int)))) else some false) (fun d k hk => ?_) (fun d => ?_) (by omega) fun _ => ?_
    · rw [prises_L0, if_pos (by omega), nth_at hk, Option.bind_some]
      by_cases h0 : 0 < k
      · rw [if_pos (show (0 : Int) < k by omega), gd_pos (fI (by omega)), nth_pred h0 (by omega), Option.bind_some, gd_pos (fI (by omega))]
        refine ⟨fun h => ?_, fun h => ?_⟩
        · rw [if_neg (by have := h h0; omega)]
        · rw [if_pos (by
            rcases Int.lt_or_le (nth l (k - 1)) (nth l k) with h1 | h1
            · exact absurd (fun _ => h1) h
            · exact h1)]
      · rw [if_neg (show ¬ (0 : Int) < k by omega), gd_pos (fI (by omega))]
        exact ⟨fun _ => rfl, fun h => absurd (fun h' => absurd h' h0) h⟩
    · rw [prises_L0, if_neg (Int.lt_irrefl _)]
    · cases l with
      | nil => exact Ev.ff (by simp)
      | cons a l => rw [if_pos (by simp)]; exact Ev.bind (idx_zero rfl) (Ev.dec (by simp))
  exact key.imp (and_congr ⟨fun h => pw_steps fun j h0 hj => h j hj h0, fun h j hj h0 => pw_steps_iff.2 h j h0 hj⟩ Iff.rfl)
theorem rRises_ev {l : List Int} {most : Int} (hl : shrt l) : Ev (prRises l most) ((l.Pairwise (· < ·) ∧ l.head? = some 0) ∧ ∀ x ∈ l, 0 ≤ x ∧ x ≤ most) := by
  have hl := hl.lt
  have key : Ev (prRises_L0 l most (l.length + 1) 0) ((∀ j, j < l.length → ((0 ≤ nth l j ∧ nth l j ≤ most) ∧ (0 < j → nth l (j - 1) < nth l j))) ∧ l.head? = some 0) := by
    refine Ev.loop (F := prRises_L0 l most) (fin := if (0 : Int) < (l.length : Int) then ((idx l (0 : Int)).bind fun x => some (decide (x = (0 : Int)))) else some false) (fun d k hk => ?_) (fun d => ?_) (by omega) fun _ => ?_
    · rw [prRises_L0, if_pos (by omega), nth_at hk, Option.bind_some]
      obtain ⟨b, h1, h2⟩ := In_ev (n := nth l k) (lo := 0) (hi := most)
      rw [h1, Option.bind_some]
      cases b with
      | false =>
        rw [if_neg (by simp)]
        exact ⟨fun h => (by have := h2.2 h.1; cases this), fun _ => rfl⟩
      | true =>
        have h3 := h2.1 rfl
        rw [if_pos rfl]
        by_cases h0 : 0 < k
        · rw [if_pos (show (0 : Int) < k by omega), Option.bind_some, gd_pos (fI (by omega)), nth_pred h0 (by omega), Option.bind_some, gd_pos (fI (by omega))]
          refine ⟨fun h => ?_, fun h => ?_⟩
          · rw [if_neg (by have := h.2 h0; omega)]
          · rw [if_pos (by
              rcases Int.lt_or_le (nth l (k - 1)) (nth l k) with h1 | h1
              · exact absurd ⟨h3, fun _ => h1⟩ h
              · exact h1)]
        · rw [if_neg (show ¬ (0 : Int) < k by omega), gd_pos (fI (by omega))]
          exact ⟨fun _ => rfl, fun h => absurd ⟨h3, fun h' => absurd h' h0⟩ h⟩
    · rw [prRises_L0, if_neg (Int.lt_irrefl _)]
    · cases l with
      | nil => exact Ev.ff (by simp)
      | cons a l => rw [if_pos (by simp)]; exact Ev.bind (idx_zero rfl) (Ev.dec (by simp))
  refine key.imp ⟨fun ⟨h1, h2⟩ => ⟨⟨pw_steps fun j h0 hj => (h1 j hj).2 h0, h2⟩, fun x hx => ?_⟩, fun ⟨⟨h1, h2⟩, h3⟩ => ⟨fun j hj => ⟨h3 _ (List.mem_of_getElem? (nth_some hj)), fun h0 => pw_steps_iff.2 h1 j h0 hj⟩, h2⟩⟩
  obtain ⟨i, hi⟩ := List.mem_iff_getElem?.1 hx
  rw [← nth_of hi]
  exact (h1 i (List.getElem?_eq_some_iff.1 hi).1).1
theorem gTf {l : List Tf} {p : Tf → Option Bool} : ∀ {d : Nat} {x : Int}, pindexTf_L0 l p d x = gIdx l p d x
  | 0, _ => rfl
  | d + 1, x => by unfold pindexTf_L0 gIdx; simp only [gTf (d := d)]
theorem gTfs {l : List Tf} {p : Tf → Option Bool} : ∀ {d : Nat} {x : Int}, pindexTfs_L0 l p d x = gIdx l p d x
  | 0, _ => rfl
  | d + 1, x => by unfold pindexTfs_L0 gIdx; simp only [gTfs (d := d)]
theorem gCl {l : List Clm} {p : Clm → Option Bool} : ∀ {d : Nat} {x : Int}, pindexCl_L0 l p d x = gIdx l p d x
  | 0, _ => rfl
  | d + 1, x => by unfold pindexCl_L0 gIdx; simp only [gCl (d := d)]
theorem gI {l : List Int} {p : Int → Option Bool} : ∀ {d : Nat} {x : Int}, pindexI_L0 l p d x = gIdx l p d x
  | 0, _ => rfl
  | d + 1, x => by unfold pindexI_L0 gIdx; simp only [gI (d := d)]
theorem gL {l : List (List Int)} {p : List Int → Option Bool} : ∀ {d : Nat} {x : Int}, pindexL_L0 l p d x = gIdx l p d x
  | 0, _ => rfl
  | d + 1, x => by unfold pindexL_L0 gIdx; simp only [gL (d := d)]
theorem gLL {l : List (List (List Int))} {p : List (List Int) → Option Bool} : ∀ {d : Nat} {x : Int}, pindexLL_L0 l p d x = gIdx l p d x
  | 0, _ => rfl
  | d + 1, x => by unfold pindexLL_L0 gIdx; simp only [gLL (d := d)]
theorem eachTf_ev {l : List Tf} {p : Tf → Option Bool} {q : Tf → Prop} (hp : ∀ a ∈ l, Ev (p a) (q a)) (hl : shrt l) : Ev (peachTf l p) (∀ a ∈ l, q a) := Ev.each hp hl.lt gTf
theorem eachCl_ev {l : List Clm} {p : Clm → Option Bool} {q : Clm → Prop} (hp : ∀ a ∈ l, Ev (p a) (q a)) (hl : shrt l) : Ev (peachCl l p) (∀ a ∈ l, q a) := Ev.each hp hl.lt gCl
theorem eachI_ev {l : List Int} {p : Int → Option Bool} {q : Int → Prop} (hp : ∀ a ∈ l, Ev (p a) (q a)) (hl : shrt l) : Ev (peachI l p) (∀ a ∈ l, q a) := Ev.each hp hl.lt gI
theorem eachL_ev {l : List (List Int)} {p : List Int → Option Bool} {q : List Int → Prop} (hp : ∀ a ∈ l, Ev (p a) (q a)) (hl : shrt l) : Ev (peachL l p) (∀ a ∈ l, q a) := Ev.each hp hl.lt gL
theorem eachLL_ev {l : List (List (List Int))} {p : List (List Int) → Option Bool} {q : List (List Int) → Prop} (hp : ∀ a ∈ l, Ev (p a) (q a)) (hl : shrt l) : Ev (peachLL l p) (∀ a ∈ l, q a) := Ev.each hp hl.lt gLL
theorem containsTfs_ev {l : List Tf} {p : Tf → Option Bool} {q : Tf → Prop} (hp : ∀ a ∈ l, Ev (p a) (q a)) (hl : shrt l) : Ev (pcontainsTfs l p) (∃ a ∈ l, q a) := Ev.contains hp hl.lt gTfs
end
end Go.Proofs.Ytbhdgedghfibcaa

namespace Go.Proofs.Ytbhdgedghfibcaa
open _root_.Go.Proofs.Try
open Go.Abs
set_option maxRecDepth 100000
noncomputable section
theorem last_at {l : List Int} (h : l ≠ []) : ∃ x, idx l ((l.length : Int) - 1) = some x ∧ l.getLast? = some x := by
  have hl : 0 < l.length := List.length_pos_iff.2 h
  refine ⟨l[l.length - 1], idx_get (by omega) (by omega), ?_⟩
  rw [List.getLast?_eq_getElem?, List.getElem?_eq_getElem]
theorem few {t : Tf} (h : ¬ tooManyN t) : t.Weeks.length ≤ 4 ∧ t.Counts.length ≤ 5 ∧ t.Rates.length ≤ 3 := by unfold tooManyN at h; omega
theorem fewS {α : Type} {l : List α} {n : Nat} (h : l.length ≤ n) (hn : n ≤ 1048576) : shrt l := Nat.le_trans h hn
theorem ne_of_head {l : List Int} {x : Int} (h : l.head? = some x) : l ≠ [] := fun e => by rw [e] at h; cases h
theorem validWeek_ev {t : Tf} (h : ¬ tooManyN t) {w : List Int} : Ev (pvalidWeek t w) (w.length = t.Counts.length ∧ ∀ r ∈ w, 0 ≤ r ∧ r ≤ 100) := by
  have hf := few h
  exact (Ev.ite fun hl => (eachI_ev (q := fun r => 0 ≤ r ∧ r ≤ 100) (fun _ _ => isHundredths_ev) (fewS (n := 5) (by omega) (by omega))).ret).imp (and_congr Int.ofNat_inj Iff.rfl)
theorem validCrop_ev {t : Tf} (h : ¬ tooManyN t) {c : List (List Int)} : Ev (pvalidCrop t c) (c.length = t.Weeks.length ∧ ∀ w ∈ c, w.length = t.Counts.length ∧ ∀ r ∈ w, 0 ≤ r ∧ r ≤ 100) := by
  have hf := few h
  exact (Ev.ite fun hl => (eachL_ev (fun _ _ => validWeek_ev h) (fewS (n := 4) (by omega) (by omega))).ret).imp (and_congr Int.ofNat_inj Iff.rfl)
theorem VT_iff {t : Tf} : VT t ↔ ((0 ≤ t.From ∧ t.From ≤ 120) ∧ (0 ≤ t.Least ∧ t.Least ≤ 100) ∧ (t.Weeks.Pairwise (· < ·) ∧ t.Weeks.head? = some 0) ∧ (∀ x ∈ t.Weeks, 0 ≤ x ∧ x ≤ 120) ∧ (t.Counts.Pairwise (· < ·) ∧ t.Counts.head? = some 0) ∧ t.Counts.getLast? = some 100 ∧ t.Rates ≠ [] ∧ ∀ c ∈ t.Rates, c.length = t.Weeks.length ∧ ∀ w ∈ c, w.length = t.Counts.length ∧ ∀ r ∈ w, 0 ≤ r ∧ r ≤ 100) := by
  constructor
  · intro h; exact ⟨h.frm, h.lst, ⟨h.wks.1, h.wks.2.1⟩, h.wks.2.2, ⟨h.cts.1, h.cts.2.1⟩, h.c100, h.rne, h.rts⟩
  · rintro ⟨h1, h2, h3, h4, h5, h6, h7, h8⟩
    refine ⟨h1, h2, ⟨h3.1, h3.2, h4⟩, ⟨h5.1, h5.2, fun x hx => ?_⟩, h6, h7, h8⟩
    obtain ⟨i, hi⟩ := List.mem_iff_getElem?.1 hx
    have hil := (List.getElem?_eq_some_iff.1 hi).1
    have h0 : t.Counts[0]? = some 0 := by rw [← h5.2]; cases t.Counts <;> rfl
    have hl : t.Counts[t.Counts.length - 1]? = some 100 := by rw [← h6, List.getLast?_eq_getElem?]
    constructor
    · rcases Nat.eq_zero_or_pos i with h9 | h9
      · subst h9; rw [h0] at hi; cases hi; exact Int.le_refl _
      · exact Int.le_of_lt (pw_lt h5.1 h0 hi h9)
    · rcases Nat.lt_or_ge i (t.Counts.length - 1) with h9 | h9
      · exact Int.le_of_lt (pw_lt h5.1 hi hl h9)
      · rw [show i = t.Counts.length - 1 by omega, hl] at hi; cases hi; exact Int.le_refl _
theorem tfValid_ev {t : Tf} (h : ¬ tooManyN t) : Ev (ptfValid t) (VT t) := by
  have hf := few h
  have hw : shrt t.Weeks := fewS (n := 4) (by omega) (by omega)
  have hc : shrt t.Counts := fewS (n := 5) (by omega) (by omega)
  have hr : shrt t.Rates := fewS (n := 3) (by omega) (by omega)
  refine Ev.imp (Ev.and isDay_ev fun _ => Ev.and isHundredths_ev fun _ => Ev.and (rises_ev hw) fun _ => Ev.and (eachI_ev (q := fun r => 0 ≤ r ∧ r ≤ 120) (fun _ _ => isDay_ev) hw) fun _ => Ev.and (K := t.Counts.getLast? = some 100 ∧ t.Rates ≠ [] ∧ ∀ c ∈ t.Rates, c.length = t.Weeks.length ∧ ∀ w ∈ c, w.length = t.Counts.length ∧ ∀ r ∈ w, 0 ≤ r ∧ r ≤ 100) (rises_ev hc) fun hr2 => ?_) VT_iff.symm
  obtain ⟨x, hx, hx2⟩ := last_at (ne_of_head hr2.2)
  refine Ev.gd (fI (by omega)) (Ev.bind hx (Ev.imp (Ev.ite fun _ => Ev.ite fun _ => (eachLL_ev (fun _ _ => validCrop_ev h) hr).ret) ?_))
  rw [hx2]
  refine and_congr ⟨fun h => by rw [h], fun h => Option.some.inj h⟩ (and_congr ?_ Iff.rfl)
  rw [← List.length_pos_iff]; omega
theorem rT_L2 {t : Tf} {c w : Nat} {wks : List (List Int)} {rs : List Int} (hc : t.Rates[c]? = some wks) (hw : wks[w]? = some rs) (hl : rs.length = t.Counts.length) (h5 : t.Counts.length ≤ 5) (hw4 : w ≤ 4) {K : Bool → Int → Option Bool} {b : Bool} :
    ((∀ r ∈ rs, 0 ≤ r ∧ r ≤ 100) → prIsTariff_L2 t (c : Int) (w : Int) K 1000000 b 0 = K b ((w : Int) + 1)) ∧ (¬ (∀ r ∈ rs, 0 ≤ r ∧ r ≤ 100) → prIsTariff_L2 t (c : Int) (w : Int) K 1000000 b 0 = some false) := by
  have key := loopAll_tt (n := rs.length) (F := fun d x => prIsTariff_L2 t (c : Int) (w : Int) K d b x) (ok := fun j => 0 ≤ nth rs j ∧ nth rs j ≤ 100) (bad := some false) (fin := K b ((w : Int) + 1)) (fun d k hk => by
    rw [prIsTariff_L2, if_pos (by omega), idx_at hc, Option.bind_some, idx_at hw, Option.bind_some, nth_at hk, Option.bind_some]
    obtain ⟨b', h1, h2⟩ := In_ev (n := nth rs k) (lo := 0) (hi := 100)
    rw [h1, Option.bind_some]
    cases b' with
    | true => rw [if_pos rfl, gd_pos (fI (by omega))]; exact ⟨fun _ => rfl, fun h => absurd (h2.1 rfl) h⟩
    | false => rw [if_neg (by simp)]; exact ⟨fun h => (by have := h2.2 h; cases this), fun _ => rfl⟩) (fun d => by rw [prIsTariff_L2, if_neg (by omega), gd_pos (fI (by omega))]) (d := 1000000) (by omega)
  have hiff : (∀ j, j < rs.length → 0 ≤ nth rs j ∧ nth rs j ≤ 100) ↔ ∀ r ∈ rs, 0 ≤ r ∧ r ≤ 100 := ⟨fun h r hr => by
    obtain ⟨i, hi⟩ := List.mem_iff_getElem?.1 hr
    rw [← nth_of hi]; exact h i (List.getElem?_eq_some_iff.1 hi).1, fun h j hj => h _ (List.mem_of_getElem? (nth_some hj))⟩
  rw [hiff] at key
  exact key
def wkOk (t : Tf) (rs : List Int) : Prop := rs.length = t.Counts.length ∧ ∀ r ∈ rs, 0 ≤ r ∧ r ≤ 100
theorem mem_iff_nat {α : Type} {l : List α} {P : α → Prop} : (∀ j, j < l.length → ∀ a, l[j]? = some a → P a) ↔ ∀ a ∈ l, P a :=
  ⟨fun h a ha => by
    obtain ⟨i, hi⟩ := List.mem_iff_getElem?.1 ha
    exact h i (List.getElem?_eq_some_iff.1 hi).1 a hi, fun h j _ a ha => h a (List.mem_of_getElem? ha)⟩
theorem rT_L1 {t : Tf} (h : ¬ tooManyN t) {c : Nat} {wks : List (List Int)} (hc : t.Rates[c]? = some wks) (hl : wks.length = t.Weeks.length) {K : Bool → Int → Option Bool} {b : Bool} :
    ((∀ w ∈ wks, wkOk t w) → prIsTariff_L1 t (c : Int) K 1000000 b 0 = K b ((c : Int) + 1)) ∧ (¬ (∀ w ∈ wks, wkOk t w) → prIsTariff_L1 t (c : Int) K 1000000 b 0 = some false) := by
  have hf := few h
  have hcl : c < t.Rates.length := (List.getElem?_eq_some_iff.1 hc).1
  have key := loopAll_tt (n := wks.length) (F := fun d x => prIsTariff_L1 t (c : Int) K d b x) (ok := fun j => ∀ rs, wks[j]? = some rs → wkOk t rs) (bad := some false) (fin := K b ((c : Int) + 1)) (fun d k hk => by
    have hw := List.getElem?_eq_getElem hk
    rw [prIsTariff_L1, if_pos (by omega), idx_at hc, Option.bind_some, idx_at hw, Option.bind_some]
    by_cases hlen : wks[k].length = t.Counts.length
    · rw [if_pos (by omega)]
      obtain ⟨q1, q2⟩ := rT_L2 (t := t) (b := b) (K := prIsTariff_L1 t (c : Int) K d) hc hw hlen hf.2.1 (by omega)
      exact ⟨fun hok => q1 (hok _ hw).2, fun hok => q2 fun h' => hok fun rs hrs => by rw [hw] at hrs; cases hrs; exact ⟨hlen, h'⟩⟩
    · rw [if_neg (by omega)]
      exact ⟨fun hok => absurd (hok _ hw).1 hlen, fun _ => rfl⟩) (fun d => by rw [prIsTariff_L1, if_neg (by omega), gd_pos (fI (by omega))]) (d := 1000000) (by omega)
  rw [mem_iff_nat (P := wkOk t)] at key
  exact key
theorem rT_L0 {t : Tf} (h : ¬ tooManyN t) : Ev (prIsTariff_L0 t 1000000 false 0) (∀ c ∈ t.Rates, c.length = t.Weeks.length ∧ ∀ w ∈ c, wkOk t w) := by
  have hf := few h
  have key := Ev.loop (n := t.Rates.length) (F := fun d x => prIsTariff_L0 t d false x) (ok := fun j => ∀ c, t.Rates[j]? = some c → c.length = t.Weeks.length ∧ ∀ w ∈ c, wkOk t w) (fin := some true) (P := True) (fun d k hk => by
    have hc := List.getElem?_eq_getElem hk
    rw [prIsTariff_L0, if_pos (by omega), idx_at hc, Option.bind_some]
    by_cases hlen : t.Rates[k].length = t.Weeks.length
    · rw [if_pos (by omega)]
      obtain ⟨q1, q2⟩ := rT_L1 h (b := false) (K := prIsTariff_L0 t d) hc hlen
      exact ⟨fun hok => q1 (hok _ hc).2, fun hok => q2 fun h' => hok fun rs hrs => by rw [hc] at hrs; cases hrs; exact ⟨hlen, h'⟩⟩
    · rw [if_neg (by omega)]
      exact ⟨fun hok => absurd (hok _ hc).1 hlen, fun _ => rfl⟩) (fun d => by rw [prIsTariff_L0, if_neg (Int.lt_irrefl _)]) (d := 1000000) (by omega) fun _ => Ev.tt trivial
  refine key.imp ⟨fun h => mem_iff_nat.1 h.1, fun h => ⟨mem_iff_nat.2 h, trivial⟩⟩
theorem rIsTariff_ev {t : Tf} (h : ¬ tooManyN t) : Ev (prIsTariff t) (VT t) := by
  have hf := few h
  have hw : shrt t.Weeks := fewS (n := 4) (by omega) (by omega)
  have hc : shrt t.Counts := fewS (n := 5) (by omega) (by omega)
  refine Ev.imp (Ev.and In_ev fun _ => Ev.and In_ev fun _ => Ev.and (rRises_ev hw) fun _ => Ev.and (K := t.Counts.getLast? = some 100 ∧ t.Rates ≠ [] ∧ ∀ c ∈ t.Rates, c.length = t.Weeks.length ∧ ∀ w ∈ c, wkOk t w) (rRises_ev hc) fun hr2 => ?_) ?_
  · obtain ⟨x, hx, hx2⟩ := last_at (ne_of_head hr2.1.2)
    refine Ev.gd (fI (by omega)) (Ev.bind hx (Ev.imp (Ev.ite fun _ => Ev.itn fun _ => rT_L0 h) ?_))
    rw [hx2]
    refine and_congr ⟨fun h => by rw [h], fun h => Option.some.inj h⟩ (and_congr ?_ Iff.rfl)
    rw [← List.length_pos_iff]; omega
  · refine ⟨fun ⟨h1, h2, h3, h4, h5, h6, h7⟩ => ⟨h1, h2, ⟨h3.1.1, h3.1.2, h3.2⟩, ⟨h4.1.1, h4.1.2, h4.2⟩, h5, h6, h7⟩, fun h => ⟨h.frm, h.lst, ⟨⟨h.wks.1, h.wks.2.1⟩, h.wks.2.2⟩, ⟨⟨h.cts.1, h.cts.2.1⟩, h.cts.2.2⟩, h.c100, h.rne, h.rts⟩⟩
end
end Go.Proofs.Ytbhdgedghfibcaa

namespace Go.Proofs.Ytbhdgedghfibcaa
open _root_.Go.Proofs.Try
open Go.Abs
set_option maxRecDepth 100000
noncomputable section
theorem tfTooMany_ev {t : Tf} : Ev (ptfTooMany t) (tooManyN t) := by
  unfold ptfTooMany tooManyN
  by_cases h1 : (4 : Int) < (t.Weeks.length : Int)
  · rw [if_pos h1]; exact Ev.tt (.inl (by omega))
  · rw [if_neg h1]
    by_cases h2 : (5 : Int) < (t.Counts.length : Int)
    · rw [if_pos h2]; exact Ev.tt (.inr (.inl (by omega)))
    · rw [if_neg h2]; exact Ev.dec (by omega)
theorem tooMany_ev {l : List Tf} : Ev (ptooMany l) (ManyN l) := by
  unfold ptooMany ManyN
  by_cases h1 : (3 : Int) < (l.length : Int)
  · rw [if_pos h1]; exact Ev.tt (.inl (by omega))
  · rw [if_neg h1]
    exact (containsTfs_ev (fun _ _ => tfTooMany_ev) (fewS (n := 3) (by omega) (by omega))).ret.imp ⟨fun h => .inr h, fun h => h.elim (fun h => by omega) id⟩
theorem froms_eq {l : List Tf} (hl : shrt l) : pfroms l = some (l.map (·.From)) := by
  unfold shrt at hl
  exact loopApp0 (l := l) (F := pfroms_L0 l) (fun t : Tf => t.From) some (fun d k acc a ha hac => by
    have hk := (List.getElem?_eq_some_iff.1 ha).1
    rw [pfroms_L0, if_pos (by omega), idx_at ha, Option.bind_some, gd_pos (show acc.length < 1048576 by omega), gd_pos (fI (by omega))]) (fun d acc => by rw [pfroms_L0, if_neg (Int.lt_irrefl _)]) (by omega)
theorem head_zero {l : List Tf} (h : l ≠ []) : ∃ t, l[0]? = some t ∧ cropsN l = t.Rates.length := by
  cases l with
  | nil => exact absurd rfl h
  | cons t l => exact ⟨t, rfl, rfl⟩
theorem sameCrops_ev {l : List Tf} (h : l ≠ []) {t : Tf} : Ev (psameCrops l t) (t.Rates.length = cropsN l) := by
  obtain ⟨u, h1, h2⟩ := head_zero h
  exact Ev.bind (idx_zero h1) (Ev.dec (by rw [h2]; exact Int.ofNat_inj))
theorem not_many {l : List Tf} (h : ¬ ManyN l) : l.length ≤ 3 ∧ ∀ t ∈ l, ¬ tooManyN t := by
  unfold ManyN at h
  exact ⟨by rcases Nat.lt_or_ge 3 l.length with h1 | h1; exact absurd (.inl h1) h; exact h1, fun t ht h1 => h (.inr ⟨t, ht, h1⟩)⟩
theorem tfsValid_ev {l : List Tf} (h : ¬ ManyN l) : Ev (ptfsValid l) (VL l) := by
  obtain ⟨h3, ht⟩ := not_many h
  have hs : shrt l := fewS h3 (by omega)
  have key : Ev (ptfsValid l) ((∀ t ∈ l, VT t) ∧ ((l.map (·.From)).Pairwise (· < ·) ∧ (l.map (·.From)).head? = some 0) ∧ ∀ t ∈ l, t.Rates.length = cropsN l) := by
    refine Ev.and (eachTf_ev (fun t h' => tfValid_ev (ht t h')) hs) fun _ => Ev.bind (froms_eq hs) (Ev.and (rises_ev (by unfold shrt; rw [List.length_map]; exact hs)) fun hr => (eachTf_ev (fun t _ => sameCrops_ev (fun e => by rw [e] at hr; cases hr.2)) hs).ret)
  exact key.imp ⟨fun ⟨h1, h2, h4⟩ => ⟨fun e => (by rw [e] at h2; cases h2.2), h1, h2.1, h2.2, h4⟩, fun h => ⟨h.vt, ⟨h.pw, h.hd⟩, h.crp⟩⟩
theorem check_eq {l : List Tf} : pcheck l = some (faultN l) := by
  unfold pcheck
  refine tooMany_ev.pick (fun h => ?_) fun h => ?_
  · rw [if_pos rfl]; unfold faultN; rw [if_pos h]
  · rw [if_neg (by simp)]
    refine (tfsValid_ev h).pick (fun hv => ?_) fun hv => ?_
    · rw [if_pos rfl]; unfold faultN; rw [if_neg h, if_pos hv]
    · rw [if_neg (by simp)]; unfold faultN; rw [if_neg h, if_neg hv]
def okAt (l : List Tf) (j : Nat) (t : Tf) : Prop := VT t ∧ t.Rates.length = cropsN l ∧ (j = 0 → t.From = 0) ∧ (0 < j → ∀ u, l[j - 1]? = some u → u.From < t.From)
theorem fault_L1 {l : List Tf} (h : ¬ ManyN l) (hne : l ≠ []) : ((∀ j, j < l.length → ∀ t, l[j]? = some t → okAt l j t) → prFault_L1 l (l.length + 1) 0 = some 0) ∧ (¬ (∀ j, j < l.length → ∀ t, l[j]? = some t → okAt l j t) → prFault_L1 l (l.length + 1) 0 = some 1) := by
  obtain ⟨h3, ht⟩ := not_many h
  obtain ⟨u0, hu0, hcr⟩ := head_zero hne
  refine loopAll_tt (F := prFault_L1 l) (fun d k hk => ?_) (fun d => by rw [prFault_L1, if_neg (Int.lt_irrefl _), if_neg (by have := List.length_pos_iff.2 hne; omega)]) (Nat.lt_succ_self _)
  have hg := List.getElem?_eq_getElem hk
  generalize l[k] = t at hg
  have hT := rIsTariff_ev (ht t (List.mem_of_getElem? hg))
  have hgo : ∀ {P : Prop}, (∀ t', l[k]? = some t' → P) → P := fun f => f _ hg
  rw [prFault_L1, if_pos (by omega), idx_at hg, Option.bind_some]
  have hone : ∀ {P : Tf → Prop}, (∀ t', l[k]? = some t' → P t') ↔ P t := ⟨fun f => f _ hg, fun f t' ht' => by rw [hg] at ht'; cases ht'; exact f⟩
  rw [hone]
  have done : ∀ {o : Option Int}, (VT t → t.Rates.length = cropsN l → (k = 0 → t.From = 0) → (0 < k → ∀ u, l[k - 1]? = some u → u.From < t.From) → o = prFault_L1 l d ((k : Int) + 1)) → (¬ okAt l k t → o = some 1) → (okAt l k t → o = prFault_L1 l d ((k : Int) + 1)) ∧ (¬ okAt l k t → o = some 1) := fun a b => ⟨fun h => a h.1 h.2.1 h.2.2.1 h.2.2.2, b⟩
  obtain ⟨b, hb, hb2⟩ := hT
  rw [hb, Option.bind_some]
  cases b with
  | false => rw [if_neg (by simp)]; exact ⟨fun h => (by have := hb2.2 h.1; cases this), fun _ => rfl⟩
  | true =>
    have hv := hb2.1 rfl
    rw [if_pos rfl, Option.bind_some, idx_zero hu0, Option.bind_some]
    by_cases hr : t.Rates.length = u0.Rates.length
    · rw [if_pos (by omega)]
      have hr' : t.Rates.length = cropsN l := by omega
      by_cases h0 : k = 0
      · rw [if_pos (by omega), Option.bind_some]
        by_cases hf : t.From = 0
        · rw [if_pos hf, if_neg (by omega), gd_pos (fI (by omega))]
          exact ⟨fun _ => rfl, fun hn => absurd ⟨hv, hr', fun _ => hf, fun h' => by omega⟩ hn⟩
        · rw [if_neg hf]
          exact ⟨fun h' => absurd (h'.2.2.1 h0) hf, fun _ => rfl⟩
      · rw [if_neg (by omega), if_pos (by omega), Option.bind_some, gd_pos (fI (by omega))]
        have hp : k - 1 < l.length := by omega
        have hgp := List.getElem?_eq_getElem hp
        generalize l[k - 1] = u at hgp
        rw [idx_pred (by omega) hgp, Option.bind_some]
        by_cases hle : t.From ≤ u.From
        · rw [if_pos hle]
          exact ⟨fun h' => by have := h'.2.2.2 (by omega) u hgp; omega, fun _ => rfl⟩
        · rw [if_neg hle, gd_pos (fI (by omega))]
          exact ⟨fun _ => rfl, fun hn => absurd ⟨hv, hr', fun h' => absurd h' h0, fun _ u' hu' => by rw [hgp] at hu'; cases hu'; omega⟩ hn⟩
    · rw [if_neg (by omega)]
      exact ⟨fun h' => by have := h'.2.1; omega, fun _ => rfl⟩
theorem okAt_iff {l : List Tf} (hne : l ≠ []) : (∀ j, j < l.length → ∀ t, l[j]? = some t → okAt l j t) ↔ VL l := by
  have hm : ∀ j t, l[j]? = some t → nth (l.map (·.From)) j = t.From := fun j t h => nth_of (by rw [List.getElem?_map, h]; rfl)
  constructor
  · intro h
    refine ⟨hne, fun t ht => ?_, pw_steps fun j h0 hj => ?_, ?_, fun t ht => ?_⟩
    · obtain ⟨i, hi⟩ := List.mem_iff_getElem?.1 ht
      exact (h i (List.getElem?_eq_some_iff.1 hi).1 t hi).1
    · rw [List.length_map] at hj
      have h1 := List.getElem?_eq_getElem hj
      have h2 := List.getElem?_eq_getElem (show j - 1 < l.length by omega)
      rw [hm _ _ h1, hm _ _ h2]
      exact (h j hj _ h1).2.2.2 h0 _ h2
    · obtain ⟨t, h1, _⟩ := head_zero hne
      have := (h 0 (List.getElem?_eq_some_iff.1 h1).1 t h1).2.2.1 rfl
      cases l with
      | nil => cases h1
      | cons a l => cases h1; simp [this]
    · obtain ⟨i, hi⟩ := List.mem_iff_getElem?.1 ht
      exact (h i (List.getElem?_eq_some_iff.1 hi).1 t hi).2.1
  · intro h j hj t ht
    refine ⟨h.vt t (List.mem_of_getElem? ht), h.crp t (List.mem_of_getElem? ht), fun h0 => ?_, fun h0 u hu => ?_⟩
    · subst h0
      have := h.hd
      cases l with
      | nil => cases ht
      | cons a l => cases ht; simpa using this
    · have := pw_steps_iff.2 h.pw j h0 (by rw [List.length_map]; exact hj)
      rwa [hm _ _ ht, hm _ _ hu] at this
theorem rFault_eq {l : List Tf} : prFault l = some (faultN l) := by
  unfold prFault
  by_cases h1 : (3 : Int) < (l.length : Int)
  · rw [if_pos h1]; unfold faultN; rw [if_pos (.inl (by omega))]
  · rw [if_neg h1]
    have key := loopAll_tt (n := l.length) (F := fun d x => prFault_L0 l d 0 x) (ok := fun j => ∀ t, l[j]? = some t → ¬ tooManyN t) (bad := some 3) (fin := prFault_L1 l (l.length + 1) 0) (fun d k hk => by
      have hg := List.getElem?_eq_getElem hk
      generalize l[k] = t at hg
      have hone : (∀ t', l[k]? = some t' → ¬ tooManyN t') ↔ ¬ tooManyN t := ⟨fun f => f _ hg, fun f t' ht' => by rw [hg] at ht'; cases ht'; exact f⟩
      rw [hone, prFault_L0, if_pos (by omega), idx_at hg, Option.bind_some]
      unfold tooManyN
      by_cases h4 : (4 : Int) < (t.Weeks.length : Int)
      · rw [if_pos h4]; exact ⟨fun h => by omega, fun _ => rfl⟩
      · rw [if_neg h4, Option.bind_some]
        by_cases h5 : (5 : Int) < (t.Counts.length : Int)
        · rw [if_pos h5]; exact ⟨fun h => by omega, fun _ => rfl⟩
        · rw [if_neg h5, Option.bind_some]
          by_cases h6 : (3 : Int) < (t.Rates.length : Int)
          · rw [if_pos h6]; exact ⟨fun h => by omega, fun _ => rfl⟩
          · rw [if_neg h6, gd_pos (fI (by omega))]; exact ⟨fun _ => rfl, fun h => by omega⟩) (fun d => by rw [prFault_L0, if_neg (Int.lt_irrefl _)]) (d := l.length + 1) (by omega)
    rw [mem_iff_nat (P := fun t => ¬ tooManyN t)] at key
    by_cases hm : ManyN l
    · unfold faultN
      rw [if_pos hm]
      refine key.2 fun hh => ?_
      rcases hm with hm | ⟨t, ht, hm⟩
      · omega
      · exact hh t ht hm
    · refine (key.1 (not_many hm).2).trans ?_
      unfold faultN
      rw [if_neg hm]
      by_cases hne : l = []
      · subst hne
        rw [if_neg fun h => h.ne rfl]
        rfl
      · obtain ⟨q1, q2⟩ := fault_L1 hm hne
        rw [okAt_iff hne] at q1 q2
        by_cases hv : VL l
        · rw [if_pos hv, q1 hv]
        · rw [if_neg hv, q2 hv]
theorem lFault_eq {l : List Tf} : plFault l = some (faultN l) := by unfold plFault; rw [rFault_eq]; rfl
end
end Go.Proofs.Ytbhdgedghfibcaa

namespace Go.Proofs.Ytbhdgedghfibcaa
open _root_.Go.Proofs.Try
open Go.Abs
set_option maxRecDepth 100000
noncomputable section
structure ThinT (t : Tf) : Prop where
  w : t.Weeks.length ≤ 7
  c : t.Counts.length ≤ 7
  r : t.Rates.length ≤ 5
  rr : ∀ c ∈ t.Rates, c.length ≤ 7 ∧ ∀ w ∈ c, w.length ≤ 7
def ThinN (l : List Tf) : Prop := l.length ≤ 5 ∧ ∀ t ∈ l, ThinT t
theorem hone {α : Type} {l : List α} {k : Nat} {a : α} (h : l[k]? = some a) {P : α → Prop} : (∀ x, l[k]? = some x → P x) ↔ P a := ⟨fun f => f _ h, fun f x hx => by rw [h] at hx; cases hx; exact f⟩
theorem thin_L2 {l : List Tf} {i c : Nat} {t : Tf} {wks : List (List Int)} (hi : l[i]? = some t) (hc : t.Rates[c]? = some wks) (h7 : wks.length ≤ 7) (h5 : c < 5) {K : Bool → Int → Option Bool} {b : Bool} :
    ((∀ w ∈ wks, w.length ≤ 7) → plThin_L2 l (i : Int) (c : Int) K 1000000 b 0 = K b ((c : Int) + 1)) ∧ (¬ (∀ w ∈ wks, w.length ≤ 7) → plThin_L2 l (i : Int) (c : Int) K 1000000 b 0 = some false) := by
  have key := loopAll_tt (n := wks.length) (F := fun d x => plThin_L2 l (i : Int) (c : Int) K d b x) (ok := fun j => ∀ w, wks[j]? = some w → w.length ≤ 7) (bad := some false) (fin := K b ((c : Int) + 1)) (fun d k hk => by
    have hg := List.getElem?_eq_getElem hk
    generalize wks[k] = w at hg
    rw [hone hg (P := fun w => w.length ≤ 7), plThin_L2, idx_at hi, Option.bind_some, idx_at hc, Option.bind_some, if_pos (by omega), Option.bind_some, idx_at hc, Option.bind_some, idx_at hg, Option.bind_some]
    by_cases h : (7 : Int) < (w.length : Int)
    · rw [if_pos h]; exact ⟨fun h => by omega, fun _ => rfl⟩
    · rw [if_neg h, gd_pos (fI (by omega))]; exact ⟨fun _ => rfl, fun h => by omega⟩) (fun d => by rw [plThin_L2, idx_at hi, Option.bind_some, idx_at hc, Option.bind_some, if_neg (Int.lt_irrefl _), gd_pos (fI (by omega))]) (d := 1000000) (by omega)
  rw [mem_iff_nat (l := wks) (P := fun w : List Int => w.length ≤ 7)] at key
  exact key
theorem thin_L1 {l : List Tf} {i : Nat} {t : Tf} (hi : l[i]? = some t) (h5 : t.Rates.length ≤ 5) (hi5 : i < 5) {K : Bool → Int → Option Bool} {b : Bool} :
    ((∀ c ∈ t.Rates, c.length ≤ 7 ∧ ∀ w ∈ c, w.length ≤ 7) → plThin_L1 l (i : Int) K 1000000 b 0 = K b ((i : Int) + 1)) ∧ (¬ (∀ c ∈ t.Rates, c.length ≤ 7 ∧ ∀ w ∈ c, w.length ≤ 7) → plThin_L1 l (i : Int) K 1000000 b 0 = some false) := by
  have key := loopAll_tt (n := t.Rates.length) (F := fun d x => plThin_L1 l (i : Int) K d b x) (ok := fun j => ∀ c, t.Rates[j]? = some c → c.length ≤ 7 ∧ ∀ w ∈ c, w.length ≤ 7) (bad := some false) (fin := K b ((i : Int) + 1)) (fun d k hk => by
    have hg := List.getElem?_eq_getElem hk
    generalize t.Rates[k] = c at hg
    rw [hone hg (P := fun c => c.length ≤ 7 ∧ ∀ w ∈ c, w.length ≤ 7), plThin_L1, idx_at hi, Option.bind_some, if_pos (by omega), Option.bind_some, idx_at hg, Option.bind_some]
    by_cases h : (7 : Int) < (c.length : Int)
    · rw [if_pos h]; exact ⟨fun h => by omega, fun _ => rfl⟩
    · rw [if_neg h]
      obtain ⟨q1, q2⟩ := thin_L2 (K := plThin_L1 l (i : Int) K d) (b := b) hi hg (by omega) (by omega)
      exact ⟨fun h' => q1 h'.2, fun h' => q2 fun h2 => h' ⟨by omega, h2⟩⟩) (fun d => by rw [plThin_L1, idx_at hi, Option.bind_some, if_neg (Int.lt_irrefl _), gd_pos (fI (by omega))]) (d := 1000000) (by omega)
  rw [mem_iff_nat (l := t.Rates) (P := fun c : List (List Int) => c.length ≤ 7 ∧ ∀ w ∈ c, w.length ≤ 7)] at key
  exact key
theorem thin_ev {l : List Tf} : Ev (plThin l) (ThinN l) := by
  unfold plThin ThinN
  refine (Ev.itn (p := (5 : Int) < (l.length : Int)) (K := ∀ t ∈ l, ThinT t) fun h5 => ?_).imp (and_congr (by omega) Iff.rfl)
  have key := Ev.loop (n := l.length) (F := fun d x => plThin_L0 l d false x) (ok := fun j => ∀ t, l[j]? = some t → ThinT t) (fin := some true) (P := True) (fun d k hk => by
    have hg := List.getElem?_eq_getElem hk
    generalize l[k] = t at hg
    rw [hone hg (P := ThinT), plThin_L0, if_pos (by omega), idx_at hg, Option.bind_some]
    by_cases h1 : (7 : Int) < (t.Weeks.length : Int)
    · rw [if_pos h1]; exact ⟨fun h => by have := h.w; omega, fun _ => rfl⟩
    · rw [if_neg h1, Option.bind_some]
      by_cases h2 : (7 : Int) < (t.Counts.length : Int)
      · rw [if_pos h2]; exact ⟨fun h => by have := h.c; omega, fun _ => rfl⟩
      · rw [if_neg h2, Option.bind_some]
        by_cases h3 : (5 : Int) < (t.Rates.length : Int)
        · rw [if_pos h3]; exact ⟨fun h => by have := h.r; omega, fun _ => rfl⟩
        · rw [if_neg h3]
          obtain ⟨q1, q2⟩ := thin_L1 (K := plThin_L0 l d) (b := false) hg (by omega) (by omega)
          exact ⟨fun h => q1 h.rr, fun h => q2 fun h' => h ⟨by omega, by omega, by omega, h'⟩⟩) (fun d => by rw [plThin_L0, if_neg (Int.lt_irrefl _)]) (d := l.length + 1) (by omega) fun _ => Ev.tt trivial
  exact key.imp ⟨fun h => mem_iff_nat.1 h.1, fun h => ⟨mem_iff_nat.2 h, trivial⟩⟩
theorem list_eq {l : List Int} (h : l.length ≤ 1048576) : plList l = some l := by unfold plList; rw [gd_pos (by simp; omega)]; simp
theorem tar_L2 {l : List Tf} {i c : Nat} {t : Tf} {wks : List (List Int)} (hi : l[i]? = some t) (hc : t.Rates[c]? = some wks) (h7 : wks.length ≤ 7) (hw : ∀ w ∈ wks, w.length ≤ 7) (h5 : c < 5) {a1 : Int} {a2 : Bool} {a3 : Int} {a4 : List (List (List Int))} (h4 : a4.length < 5) {K : Int → Bool → Int → List (List (List Int)) → Int → Option (List Tf)} :
    plTariffs_L2 l (i : Int) a1 a2 a3 a4 (c : Int) K 1000000 [] 0 = K a1 a2 a3 (a4 ++ [wks]) ((c : Int) + 1) := by
  have key := loopApp0 (l := wks) (fun w => w) (F := fun d acc x => plTariffs_L2 l (i : Int) a1 a2 a3 a4 (c : Int) K d acc x) (fun acc => K a1 a2 a3 (a4 ++ [acc]) ((c : Int) + 1)) (fun d k acc a ha hac => by
    have hk := (List.getElem?_eq_some_iff.1 ha).1
    have hs := hw a (List.mem_of_getElem? ha)
    rw [plTariffs_L2, idx_at hi, Option.bind_some, idx_at hc, Option.bind_some, if_pos (by omega), Option.bind_some, idx_at hc, Option.bind_some, idx_at ha, Option.bind_some, list_eq (by omega), Option.bind_some, gd_pos (show acc.length < 1048576 by omega), gd_pos (fI (by omega))]) (fun d acc => by
    rw [plTariffs_L2, idx_at hi, Option.bind_some, idx_at hc, Option.bind_some, if_neg (Int.lt_irrefl _), gd_pos (show a4.length < 1048576 by omega), gd_pos (fI (by omega))]) (d := 1000000) (by omega)
  rw [List.map_id'] at key
  exact key
theorem tar_L1 {l out : List Tf} {i : Nat} {t : Tf} (hi : l[i]? = some t) (ht : ThinT t) (hi5 : i < 5) (ho : out.length < 5) {r1 r2 : List Int} {a1 : Int} {a2 : Bool} {a3 : Int} {K : List Tf → Int → Option (List Tf)} :
    plTariffs_L1 l out (i : Int) r1 r2 K 1000000 a1 a2 a3 [] 0 = K (out ++ [⟨a1, a2, a3, r1, r2, t.Rates⟩]) ((i : Int) + 1) := by
  have hr := ht.r
  have key := loopApp0 (l := t.Rates) (fun w => w) (F := fun d acc x => plTariffs_L1 l out (i : Int) r1 r2 K d a1 a2 a3 acc x) (fun acc => K (out ++ [⟨a1, a2, a3, r1, r2, acc⟩]) ((i : Int) + 1)) (fun d k acc a ha hac => by
    have hk := (List.getElem?_eq_some_iff.1 ha).1
    obtain ⟨q1, q2⟩ := ht.rr a (List.mem_of_getElem? ha)
    rw [plTariffs_L1, idx_at hi, Option.bind_some, if_pos (by omega), tar_L2 hi ha q1 q2 (by omega) (by omega)]) (fun d acc => by
    rw [plTariffs_L1, idx_at hi, Option.bind_some, if_neg (Int.lt_irrefl _), gd_pos (show out.length < 1048576 by omega), gd_pos (fI (by omega))]) (d := 1000000) (by omega)
  rw [List.map_id'] at key
  exact key
theorem lTariffs_eq {l : List Tf} (h : ThinN l) : plTariffs l = some l := by
  obtain ⟨h5, ht⟩ := h
  have key := loopApp0 (l := l) (fun w => w) (F := plTariffs_L0 l) some (fun d k acc a ha hac => by
    have hk := (List.getElem?_eq_some_iff.1 ha).1
    have hT := ht a (List.mem_of_getElem? ha)
    have h1 := hT.w
    have h2 := hT.c
    rw [plTariffs_L0, if_pos (by omega), idx_at ha]
    simp only [Option.bind_some]
    rw [list_eq (by omega), Option.bind_some, list_eq (by omega), Option.bind_some, tar_L1 ha hT (by omega) (by omega)]) (fun d acc => by rw [plTariffs_L0, if_neg (Int.lt_irrefl _)]) (d := l.length + 1) (by omega)
  rw [List.map_id'] at key
  exact key
/-- numbers of a tariff that are multiplied -/
theorem prod_le {x y : Int} (hx : 0 ≤ x ∧ x ≤ 100) (hy : 0 ≤ y ∧ y ≤ 100) : 0 ≤ x * y ∧ x * y ≤ 10000 := by
  refine ⟨Int.mul_nonneg hx.1 hy.1, ?_⟩
  have h1 : x * y ≤ 100 * y := Int.mul_le_mul_of_nonneg_right hx.2 hy.1
  omega
theorem line_rng {a b x y n : Int} (h1 : 0 ≤ a ∧ a ≤ n) (h2 : n ≤ b ∧ b ≤ 100) (hab : a < b) (hx : 0 ≤ x ∧ x ≤ 100) (hy : 0 ≤ y ∧ y ≤ 100) : 0 ≤ lineN a b x y n ∧ lineN a b x y n ≤ 100 :=
  ⟨line_ge h1.2 h2.1 hab (Int.le_refl _) hx.1 hy.1, line_le h1.2 h2.1 hab hx.1 hy.1 hx.2 hy.2⟩
theorem Cnt.rng {t : Tf} (h : VT t) {i : Nat} (hi : i < t.Counts.length) : 0 ≤ nth t.Counts i ∧ nth t.Counts i ≤ 100 := h.cts.2.2 _ (List.mem_of_getElem? (nth_some hi))
theorem rCrops_eq {l : List Tf} (h : l ≠ []) : prCrops l = some (cropsN l : Int) := by
  obtain ⟨t, h1, h2⟩ := head_zero h
  unfold prCrops; rw [idx_zero h1, Option.bind_some, h2]
end
end Go.Proofs.Ytbhdgedghfibcaa

namespace Go.Proofs.Ytbhdgedghfibcaa
open _root_.Go.Proofs.Try
open Go.Abs
set_option maxRecDepth 100000
noncomputable section
theorem isNaN_eq {x : Int} : pisNaN x = some false := by unfold pisNaN; simp
theorem sNaN_eq {x : Int} : psNaN x = some false := by unfold psNaN; simp
theorem less_ev {x y : Int} : Ev (pless x y) (x < y) := by
  unfold pless
  rw [isNaN_eq, Option.bind_some, if_neg (by simp)]
  exact Ev.dec Iff.rfl
theorem fU {n : Int} (h : 0 ≤ n ∧ n < 18446744073709551616) : fitsP .u64 n := h
theorem nth_le {l : List Int} (hp : l.Pairwise (· < ·)) {i j : Nat} (hij : i ≤ j) (hj : j < l.length) : nth l i ≤ nth l j := by
  rcases Nat.lt_or_ge i j with h | h
  · exact Int.le_of_lt (pw_lt hp (nth_some (by omega)) (nth_some hj) h)
  · rw [show i = j by omega]; exact Int.le_refl _
theorem bsearch_go {l : List Int} {x : Int} (hp : l.Pairwise (· < ·)) (hl : l.length ≤ 1048576) : ∀ d (i j : Nat), i ≤ j → j ≤ l.length → j - i < d → (∀ m, m < i → nth l m < x) → (∀ m, j ≤ m → m < l.length → x ≤ nth l m) →
    ∃ (k : Nat) (f : Bool), pbsearch_L0 l x d (i : Int) (j : Int) = some ((k : Int), f) ∧ k ≤ l.length ∧ (∀ m, m < k → nth l m < x) ∧ (∀ m, k ≤ m → m < l.length → x ≤ nth l m) ∧ (f = true ↔ k < l.length ∧ nth l k = x)
  | 0, i, j, _, _, h, _, _ => by omega
  | d + 1, i, j, hij, hj, h, hlo, hhi => by
    rw [pbsearch_L0]
    by_cases hlt : i < j
    · have e1 : wrapZ .u64 ((i : Int) + (j : Int)) = ((i + j : Nat) : Int) := by rw [wz (fU (by omega))]; omega
      have e2 : ((i + j : Nat) : Int) / 2 = (((i + j) / 2 : Nat) : Int) := by omega
      have hm : (i + j) / 2 < l.length := by omega
      have e3 : wrapZ .i64 (((i + j) / 2 : Nat) : Int) = (((i + j) / 2 : Nat) : Int) := wz (fI (by omega))
      rw [if_pos (by omega), gd_pos (fI (by omega)), e1, gd_pos (by omega), gd_pos (by omega), gd_pos (by omega), e2, gd_pos (fU (by omega)), e3, nth_at hm, Option.bind_some]
      generalize hmid : (i + j) / 2 = md at *
      obtain ⟨b, h1, h2⟩ := less_ev (x := nth l md) (y := x)
      rw [h1, Option.bind_some]
      cases b with
      | true =>
        rw [if_pos rfl, gd_pos (fI (by omega)), show (md : Int) + 1 = ((md + 1 : Nat) : Int) by omega]
        have h3 := h2.1 rfl
        exact bsearch_go hp hl d (md + 1) j (by omega) hj (by omega) (fun m hm' => by have := nth_le hp (show m ≤ md by omega) hm; omega) hhi
      | false =>
        rw [if_neg (by simp)]
        have h3 : x ≤ nth l md := by
          rcases Int.lt_or_le (nth l md) x with h4 | h4
          · have := h2.2 h4; cases this
          · exact h4
        exact bsearch_go hp hl d i md (by omega) (by omega) (by omega) hlo (fun m hm' hml => by have := nth_le hp hm' hml; omega)
    · have hij' : i = j := by omega
      subst hij'
      rw [if_neg (Int.lt_irrefl _)]
      by_cases hil : i < l.length
      · rw [if_pos (by omega), nth_at hil, Option.bind_some]
        by_cases he : nth l i = x
        · rw [if_pos he]; exact ⟨i, true, rfl, hj, hlo, hhi, ⟨fun _ => ⟨hil, he⟩, fun _ => rfl⟩⟩
        · rw [if_neg he, Option.bind_some, sNaN_eq, Option.bind_some, if_neg (by simp)]
          exact ⟨i, false, rfl, hj, hlo, hhi, ⟨fun h => (by cases h), fun h => absurd h.2 he⟩⟩
      · rw [if_neg (by omega)]
        exact ⟨i, false, rfl, hj, hlo, hhi, ⟨fun h => (by cases h), fun h => absurd h.1 hil⟩⟩
theorem bsearch_eq {l : List Int} {x : Int} (hp : l.Pairwise (· < ·)) (hl : l.length ≤ 1048576) :
    ∃ (k : Nat) (f : Bool), pbsearch l x = some ((k : Int), f) ∧ k ≤ l.length ∧ (∀ m, m < k → nth l m < x) ∧ (∀ m, k ≤ m → m < l.length → x ≤ nth l m) ∧ (f = true ↔ k < l.length ∧ nth l k = x) :=
  bsearch_go hp hl (l.length + 1) 0 l.length (Nat.zero_le _) (Nat.le_refl _) (by omega) (fun m h => by omega) (fun m h1 h2 => by omega)
theorem head_nth {l : List Int} {z : Int} (h : l.head? = some z) : nth l 0 = z ∧ 0 < l.length := by
  cases l with
  | nil => cases h
  | cons a l => cases h; exact ⟨rfl, Nat.succ_pos _⟩
theorem last_eq {l : List Int} {n : Int} (hp : l.Pairwise (· < ·)) (hh : l.head? = some 0) (hl : l.length ≤ 1000) (hn : 0 ≤ n ∧ n ≤ 1000) : plast l n = some (lastN l n : Int) := by
  obtain ⟨k, f, h1, h2, h3, h4, _⟩ := bsearch_eq (x := n + 1) hp (by omega)
  obtain ⟨e0, l0⟩ := head_nth hh
  have hk : 0 < k := by
    rcases Nat.eq_zero_or_pos k with h | h
    · have := h4 0 (by omega) l0; omega
    · exact h
  have hu : lastN l n = k - 1 := lastN_uniq hp (by omega) (fun x hx => by rw [← nth_of hx]; have := h3 (k - 1) (by omega); omega) (fun x hx => by
    have hlt := (List.getElem?_eq_some_iff.1 hx).1
    rw [← nth_of hx]; have := h4 (k - 1 + 1) (by omega) hlt; omega) (fun x hx => by rw [hh] at hx; cases hx; exact hn.1)
  unfold plast
  rw [gd_pos (fI (by omega)), h1, Option.bind_some, gd_pos (fI (by show _ ≤ (k : Int) - 1 ∧ _; omega)), hu]
  congr 1
  show (k : Int) - 1 = _
  omega
theorem tfOf_eq {l : List Tf} (h : VL l) (hl : l.length ≤ 3) {d : Int} (hd : 0 ≤ d ∧ d ≤ 120) : ptfOf l d = some (ofN l d) := by
  obtain ⟨h1, _⟩ := h.of d
  unfold ptfOf
  rw [froms_eq (fewS hl (by omega)), Option.bind_some, last_eq h.pw h.hd (by rw [List.length_map]; omega) (by omega), Option.bind_some, idx_at h1, Option.bind_some]
theorem loss_eq {t : Tf} (h : VT t) (hf : ¬ tooManyN t) {hh : Ht} (h0 : 0 ≤ hh.crop) (h1 : hh.crop < t.Rates.length) (hn : 0 ≤ hh.Count) (h100 : hh.Count ≤ 100) (hd : 0 ≤ hh.Day ∧ hh.Day ≤ 120) : ploss t hh = some (lossN t.Counts (ratesN t hh.crop hh.Day) hh.Count) := by
  obtain ⟨day, n, crop⟩ := hh
  dsimp only at h0 h1 hn h100 hd
  have hfew := few hf
  obtain ⟨wks, q1, q2, q3⟩ := h.rates h0 h1 day
  have hc := h.cnt
  obtain ⟨b1, b2⟩ := q3.btw hn h100
  obtain ⟨k, f, k1, k2, k3, k4, k5⟩ := bsearch_eq (x := n) h.cts.1 (show t.Counts.length ≤ 1048576 by omega)
  obtain ⟨e0, l0⟩ := head_nth h.cts.2.1
  unfold ploss
  dsimp only
  rw [show idx t.Rates crop = idx t.Rates ((crop.toNat : Nat) : Int) by rw [Int.toNat_of_nonneg h0], idx_at q1, Option.bind_some, last_eq h.wks.1 h.wks.2.1 (by omega) (by omega), Option.bind_some, idx_at q2, Option.bind_some, k1, Option.bind_some]
  dsimp only
  by_cases hfl : f = true
  · obtain ⟨c1, c2⟩ := k5.1 hfl
    have hu : lastN t.Counts n = k := by rw [← c2]; exact hc.last_at c1
    rw [if_pos hfl, nth_at (by rw [q3.len]; exact c1), Option.bind_some]
    unfold lossN
    dsimp only
    rw [hu, if_pos c2]
  · have hne : ∀ m, m < t.Counts.length → nth t.Counts m ≠ n := fun m hm he => by
      rcases Nat.lt_or_ge m k with h6 | h6
      · have := k3 m h6; omega
      · rcases Nat.lt_or_ge k m with h7 | h7
        · have h8 := k4 k (Nat.le_refl _) (by omega)
          have := pw_lt h.cts.1 (nth_some (show k < t.Counts.length by omega)) (nth_some hm) h7
          omega
        · have : m = k := by omega
          subst this
          exact hfl (k5.2 ⟨hm, he⟩)
    obtain ⟨b3, b4⟩ := b2 (hne _ (hc.lt n))
    have hu : lastN t.Counts n + 1 = k := by
      rcases Nat.lt_trichotomy (lastN t.Counts n + 1) k with h6 | h6 | h6
      · have := k3 _ h6; omega
      · exact h6
      · have := k4 (lastN t.Counts n) (by omega) (hc.lt n)
        have := hne _ (hc.lt n)
        omega
    subst hu
    have hl := hc.lt n
    have hlr : lastN t.Counts n < (ratesN t crop day).length := by rw [q3.len]; exact hl
    have hlr2 : lastN t.Counts n + 1 < (ratesN t crop day).length := by rw [q3.len]; exact b3
    have hi := q3.at hl
    have hi2 := q3.at b3
    have c1 := Cnt.rng h hl
    have c2 := Cnt.rng h b3
    have hcast : ((lastN t.Counts n + 1 : Nat) : Int) - 1 = ((lastN t.Counts n : Nat) : Int) := by omega
    rw [if_neg hfl, gd_pos (fI (by omega)), hcast, nth_at hl, Option.bind_some, nth_at b3, Option.bind_some, gd_pos (fI (by omega)), nth_at hlr, Option.bind_some, nth_at hlr2]
    have hline := line_rng ⟨c1.1, b1⟩ ⟨Int.le_of_lt b4, c2.2⟩ (by omega) hi hi2
    unfold lossN
    dsimp only
    rw [if_neg (hne _ hl)]
    unfold lineN at hline ⊢
    generalize nth t.Counts (lastN t.Counts n) = a at *
    generalize nth t.Counts (lastN t.Counts n + 1) = b at *
    generalize nth (ratesN t crop day) (lastN t.Counts n) = x at *
    generalize nth (ratesN t crop day) (lastN t.Counts n + 1) = y at *
    have p1 := prod_le hi (show 0 ≤ b - n ∧ b - n ≤ 100 by omega)
    have p2 := prod_le hi2 (show 0 ≤ n - a ∧ n - a ≤ 100 by omega)
    rw [gd_pos (fI (by omega)), gd_pos (by omega), gd_pos (by omega), gd_pos (fI (by omega)), Option.bind_some, gd_pos (fI (by omega)), gd_pos (by omega), gd_pos (by omega), gd_pos (fI (by omega)), gd_pos (fI (by omega)), gd_pos (fI (by omega)), gd_pos (by omega), gd_pos (by omega), gd_pos (fI (by omega))]
theorem tfPart_eq {t : Tf} (h : VT t) (hf : ¬ tooManyN t) {hh : Ht} (h0 : 0 ≤ hh.crop) (h1 : hh.crop < t.Rates.length) (hn : 0 ≤ hh.Count) (h100 : hh.Count ≤ 100) (hd : 0 ≤ hh.Day ∧ hh.Day ≤ 120) : ptfPart t hh = some (partT t hh.crop hh.Day hh.Count) := by
  obtain ⟨_, _, _, q3⟩ := h.rates h0 h1 hh.Day
  have hr := q3.loss_rng hn h100
  have hls := h.lst
  unfold ptfPart partT payTN
  rw [loss_eq h hf h0 h1 hn h100 hd, Option.bind_some]
  generalize lossN t.Counts (ratesN t hh.crop hh.Day) hh.Count = x at *
  by_cases h4 : x < t.Least
  · rw [if_pos h4, if_pos h4]
  · rw [if_neg h4, if_neg h4]
    unfold pmanner
    by_cases h5 : t.Whole = true
    · rw [if_pos h5, if_pos h5, Option.bind_some]; rfl
    · rw [if_neg h5, if_neg h5, Option.bind_some]
      show Option.bind (paboveLeast t x) _ = _
      unfold paboveLeast
      rw [gd_pos (fI (by omega)), Option.bind_some]
end
end Go.Proofs.Ytbhdgedghfibcaa

namespace Go.Proofs.Ytbhdgedghfibcaa
open _root_.Go.Proofs.Try
open Go.Abs
set_option maxRecDepth 100000
noncomputable section
def MemoOk (l : List Tf) (M : Option (Ht → Option Int)) : Prop := ∃ f, M = some f ∧ ∀ h v, f h = some v → v = partN l h.crop h.Day h.Count
structure HtOk (l : List Tf) (h : Ht) : Prop where
  c : 0 ≤ h.crop ∧ h.crop < cropsN l
  n : 0 ≤ h.Count ∧ h.Count ≤ 100
  d : 0 ≤ h.Day ∧ h.Day ≤ 120
theorem crops_rng {l : List Tf} (hf : faultN l = 0) : 0 < cropsN l ∧ cropsN l ≤ 3 := by
  obtain ⟨hm, hv⟩ := faultN_zero.1 hf
  obtain ⟨h3, ht⟩ := not_many hm
  obtain ⟨t, h1, h2⟩ := head_zero hv.ne
  have hmem := List.mem_of_getElem? h1
  have := few (ht t hmem)
  have := List.length_pos_iff.2 (hv.vt t hmem).rne
  omega
theorem part_eq {l : List Tf} (hf : faultN l = 0) {M : Option (Ht → Option Int)} (hM : MemoOk l M) {h : Ht} (hh : HtOk l h) : ∃ M', ppart ⟨l, M⟩ h = some (partN l h.crop h.Day h.Count, M') ∧ MemoOk l M' := by
  obtain ⟨hm, hv⟩ := faultN_zero.1 hf
  obtain ⟨h3, ht⟩ := not_many hm
  have hcr := crops_rng hf
  obtain ⟨f, rfl, hf2⟩ := hM
  have hc := hh.c
  have hn := hh.n
  have hd := hh.d
  unfold ppart
  rw [gd_pos (show MK.fit h from ⟨fI (by omega), fI (by omega), fI (by omega), trivial⟩)]
  cases hg : mget (some f) h with
  | some v =>
    rw [mcase_some rfl]
    have : v = _ := hf2 h v hg
    subst this
    exact ⟨_, rfl, f, rfl, hf2⟩
  | none =>
    rw [mcase_none rfl, tfOf_eq hv h3 hd, Option.bind_some, tfPart_eq (hv.vof _) (ht _ (hv.of _).2) hc.1 (by rw [hv.cof]; exact hc.2) hn.1 hn.2 hd, Option.bind_some, gd_pos (show MK.fit h from ⟨fI (by omega), fI (by omega), fI (by omega), trivial⟩)]
    refine ⟨_, rfl, _, rfl, fun k v hk => ?_⟩
    by_cases hkh : k = h
    · subst hkh
      rw [if_pos rfl] at hk
      exact (Option.some.inj hk).symm
    · rw [if_neg hkh] at hk; exact hf2 k v hk
theorem memo0 {l : List Tf} : MemoOk l (some fun _ => none) := ⟨_, rfl, fun _ _ h => by cases h⟩
theorem open_ok {l : List Tf} (hf : faultN l = 0) : popen l = some (⟨l, some fun _ => none⟩, 0) := by unfold popen; rw [check_eq, Option.bind_some, if_pos hf]
theorem hasCrop_ev {l : List Tf} (hf : faultN l = 0) {n : Int} : Ev (phasCrop l n) (0 ≤ n ∧ n < cropsN l) := by
  obtain ⟨hm, hv⟩ := faultN_zero.1 hf
  obtain ⟨t, h1, h2⟩ := head_zero hv.ne
  have := crops_rng hf
  refine Ev.bind (idx_zero h1) ?_
  rw [← h2]
  exact (isIndex_ev (by omega)).ret
structure ClaimN (l : List Tf) (c : Clm) : Prop where
  crop : 0 ≤ c.Crop ∧ c.Crop < cropsN l
  val : 0 ≤ c.Value ∧ c.Value ≤ 100000
  day : 0 ≤ c.Day.Lo ∧ c.Day.Lo ≤ c.Day.Hi ∧ c.Day.Hi ≤ 120 ∧ c.Day.Hi - c.Day.Lo ≤ 10
  cnt : 0 ≤ c.Count.Lo ∧ c.Count.Lo ≤ c.Count.Hi ∧ c.Count.Hi ≤ 100
theorem within_ev {r : Rg} {p : Int → Option Bool} {q : Int → Prop} (hp : ∀ n, Ev (p n) (q n)) : Ev (pwithin r p) (r.Lo ≤ r.Hi ∧ q r.Lo ∧ q r.Hi) := Ev.ite fun _ => Ev.and (hp _) fun _ => (hp _).ret
theorem validClaim_ev {l : List Tf} (hf : faultN l = 0) {c : Clm} : Ev (pvalidClaim l c) (ClaimN l c) := by
  refine Ev.imp (Ev.and (hasCrop_ev hf) fun _ => Ev.and has_ev fun _ => Ev.and (K := c.Day.Hi - c.Day.Lo ≤ 10 ∧ (c.Count.Lo ≤ c.Count.Hi ∧ (0 ≤ c.Count.Lo ∧ c.Count.Lo ≤ 100) ∧ (0 ≤ c.Count.Hi ∧ c.Count.Hi ≤ 100))) (within_ev (fun _ => isDay_ev)) fun hd => Ev.gd (fI (by omega)) (Ev.ite fun _ => (within_ev (fun _ => isCount_ev)).ret)) ?_
  dsimp only
  exact ⟨fun ⟨h1, h2, h3, h4⟩ => ⟨h1, h2, by omega, by omega⟩, fun h => by
    have h3 := h.day
    have h4 := h.cnt
    exact ⟨h.crop, h.val, by omega, by omega⟩⟩
theorem rIsClaim_ev {l : List Tf} (hf : faultN l = 0) {c : Clm} : Ev (prIsClaim l c) (ClaimN l c) := by
  obtain ⟨hm, hv⟩ := faultN_zero.1 hf
  have hcr := crops_rng hf
  refine Ev.imp (P := (0 ≤ c.Crop ∧ c.Crop ≤ (cropsN l : Int) - 1) ∧ (0 ≤ c.Value ∧ c.Value ≤ 100000) ∧ 0 ≤ c.Day.Lo ∧ c.Day.Lo ≤ c.Day.Hi ∧ c.Day.Hi ≤ 120 ∧ c.Day.Hi - c.Day.Lo ≤ 10 ∧ 0 ≤ c.Count.Lo ∧ c.Count.Lo ≤ c.Count.Hi ∧ c.Count.Hi ≤ 100) (Ev.bind (rCrops_eq hv.ne) (Ev.gd (fI (by omega)) (Ev.and In_ev fun _ => Ev.and In_ev fun _ => Ev.ite fun h0 => Ev.ite fun h1 => Ev.ite fun h2 => Ev.gd (fI (by omega)) (Ev.ite fun _ => Ev.ite fun _ => Ev.ite fun _ => Ev.dec Iff.rfl)))) ?_
  exact ⟨fun ⟨h1, h2, h3⟩ => ⟨by omega, h2, by omega, by omega⟩, fun h => by
    have h1 := h.crop
    have h3 := h.day
    have h4 := h.cnt
    exact ⟨by omega, h.val, by omega⟩⟩
open Classical in
def claimN (l : List Tf) (c : Clm) : Int := if faultN l = 0 then (if ClaimN l c then 0 else 2) else faultN l
theorem lClaimed_eq {l : List Tf} {c : Clm} : plClaimed l c = some (claimN l c) := by
  unfold plClaimed claimN
  rw [lFault_eq, Option.bind_some]
  by_cases hf : faultN l = 0
  · rw [if_pos hf, if_pos hf]
    refine (rIsClaim_ev hf).pick (fun h => ?_) fun h => ?_
    · rw [if_pos rfl, if_pos h]
    · rw [if_neg (by simp), if_neg h]
  · rw [if_neg hf, if_neg hf]
theorem claimN_zero {l : List Tf} {c : Clm} : claimN l c = 0 ↔ faultN l = 0 ∧ ClaimN l c := by
  unfold claimN
  by_cases hf : faultN l = 0
  · rw [if_pos hf]
    by_cases h : ClaimN l c
    · rw [if_pos h]; exact ⟨fun _ => ⟨hf, h⟩, fun _ => rfl⟩
    · rw [if_neg h]; exact ⟨fun h' => by omega, fun h' => absurd h'.2 h⟩
  · rw [if_neg hf]; exact ⟨fun h => absurd h hf, fun h => absurd h.1 hf⟩
theorem fine_ev {l : List Tf} {c : Clm} : Ev (plFine l c) (ThinN l ∧ faultN l = 0 ∧ ClaimN l c) := Ev.and thin_ev fun _ => Ev.bind lClaimed_eq (Ev.dec claimN_zero)
def TruthN (c : Clm) (t : Tr) : Prop := (c.Day.Lo ≤ t.Day ∧ t.Day ≤ c.Day.Hi) ∧ (c.Count.Lo ≤ t.Count ∧ t.Count ≤ c.Count.Hi)
theorem clHas_ev {c : Clm} {t : Tr} : Ev (pclHas c t) (TruthN c t) := Ev.and has_ev fun _ => has_ev.ret
def payN (l : List Tf) (c : Clm) (t : Tr) : Int := c.Value * partN l c.Crop t.Day t.Count / 100
theorem openFor_eq {l : List Tf} {cs : List Clm} (hf : faultN l = 0) (h5 : cs.length ≤ 5) (hc : ∀ c ∈ cs, ClaimN l c) : popenFor l cs = some (⟨l, some fun _ => none⟩, 0) := by
  unfold popenFor
  rw [open_ok hf, Option.bind_some, if_pos rfl, if_neg (by omega), (eachCl_ev (fun c _ => validClaim_ev hf) (fewS h5 (by omega))).some_of hc, Option.bind_some, if_pos rfl]
theorem htOk {l : List Tf} {c : Clm} (hc : ClaimN l c) {t : Tr} (ht : TruthN c t) : HtOk l ⟨t.Day, t.Count, c.Crop⟩ := by
  have h1 := hc.day
  have h2 := hc.cnt
  obtain ⟨h3, h4⟩ := ht
  exact ⟨hc.crop, by show 0 ≤ t.Count ∧ t.Count ≤ 100; omega, by show 0 ≤ t.Day ∧ t.Day ≤ 120; omega⟩
theorem part_htOk {l : List Tf} (hf : faultN l = 0) {h : Ht} (hh : HtOk l h) : 0 ≤ partN l h.crop h.Day h.Count ∧ partN l h.crop h.Day h.Count ≤ 100 :=
  (faultN_zero.1 hf).2.part_rng hh.c.1 hh.c.2 hh.n.1 hh.n.2 _
theorem val_le {v p : Int} (hv : 0 ≤ v ∧ v ≤ 100000) (hp : 0 ≤ p ∧ p ≤ 100) : 0 ≤ v * p ∧ v * p ≤ 10000000 := by
  refine ⟨Int.mul_nonneg hv.1 hp.1, ?_⟩
  have h1 : v * p ≤ 100000 * p := Int.mul_le_mul_of_nonneg_right hv.2 hp.1
  omega
theorem payment_eq {l : List Tf} (hf : faultN l = 0) {M : Option (Ht → Option Int)} (hM : MemoOk l M) {c : Clm} (hc : ClaimN l c) {t : Tr} (ht : TruthN c t) : ∃ M', ppayment ⟨l, M⟩ c t = some (payN l c t, M') ∧ MemoOk l M' := by
  have hh := htOk hc ht
  obtain ⟨M', h1, h2⟩ := part_eq hf hM hh
  have hp := part_htOk hf hh
  have hv := val_le hc.val hp
  have hval := hc.val
  refine ⟨M', ?_, h2⟩
  unfold ppayment
  rw [h1, Option.bind_some]
  dsimp only at hp hv ⊢
  rw [gd_pos (by omega), gd_pos (by omega), gd_pos (fI (by omega)), gd_pos (by omega), gd_pos (by omega), gd_pos (fI (by omega))]
  rfl
theorem mem1 {α : Type} {a : α} {P : α → Prop} : (∀ x ∈ [a], P x) ↔ P a := by simp
theorem Pay_ok {l : List Tf} (hf : faultN l = 0) {c : Clm} (hc : ClaimN l c) {t : Tr} (ht : TruthN c t) : pPay l c t = some (payN l c t, 0) := by
  obtain ⟨M', h1, _⟩ := payment_eq hf memo0 hc ht
  unfold pPay; rw [openFor_eq hf (by simp) (mem1.2 hc), Option.bind_some, if_pos rfl, clHas_ev.some_of ht, Option.bind_some, if_pos rfl, h1, Option.bind_some]
theorem lClaim_eq {c : Clm} : plClaim c = some c := rfl
theorem lTruth_eq {t : Tr} : plTruth t = some t := rfl
end
end Go.Proofs.Ytbhdgedghfibcaa

namespace Go.Proofs.Ytbhdgedghfibcaa
open _root_.Go.Proofs.Try
open Go.Abs
set_option maxRecDepth 100000
noncomputable section
theorem aw : pawake = some true := rfl
def OkL (l : List Tf) : Prop := l.length ≤ maxLen ∧ ∀ a ∈ l, ok_Tf a
theorem provePay_of {l : List Tf} {c : Clm} {t : Tr} {n e p : Int} (h : pPay l c t = some (n, e)) : pprovePay l c t p = some (decide (e = 0) && decide (n = p)) := by
  unfold pprovePay
  rw [h, Option.bind_some]
  dsimp only
  by_cases he : e = 0
  · rw [if_pos he, decide_eq_true he, Bool.true_and]
  · rw [if_neg he, decide_eq_false he, Bool.false_and]
end
end Go.Proofs.Ytbhdgedghfibcaa

namespace Go.Proofs.Ytbhdgedghfibcaa
open _root_.Go.Proofs.Try
open Go.Abs
set_option maxRecDepth 100000
noncomputable section
theorem picked_eq {l : List Tf} {c : Clm} (h : ClaimN l c) {day count : Int} (hd : 0 ≤ day ∧ day < 256) (hn : 0 ≤ count ∧ count < 256) :
    plPicked c day count = some ⟨c.Day.Lo + day % (c.Day.Hi - c.Day.Lo + 1), c.Count.Lo + count % (c.Count.Hi - c.Count.Lo + 1)⟩ ∧ TruthN c ⟨c.Day.Lo + day % (c.Day.Hi - c.Day.Lo + 1), c.Count.Lo + count % (c.Count.Hi - c.Count.Lo + 1)⟩ := by
  have h1 := h.day
  have h2 := h.cnt
  have e1 := Int.emod_nonneg day (show c.Day.Hi - c.Day.Lo + 1 ≠ 0 by omega)
  have e2 := Int.emod_lt_of_pos day (show 0 < c.Day.Hi - c.Day.Lo + 1 by omega)
  have e3 := Int.emod_nonneg count (show c.Count.Hi - c.Count.Lo + 1 ≠ 0 by omega)
  have e4 := Int.emod_lt_of_pos count (show 0 < c.Count.Hi - c.Count.Lo + 1 by omega)
  refine ⟨?_, ?_, ?_⟩
  · unfold plPicked
    rw [wz (show fitsP .i64 day from fI (by omega)), wz (show fitsP .i64 count from fI (by omega)), gd_pos (fI (by omega)), gd_pos (fI (by omega)), gd_pos (by omega), gd_pos (by omega), gd_pos (fI (by omega)), gd_pos (fI (by omega)), gd_pos (fI (by omega)), gd_pos (fI (by omega)), gd_pos (by omega), gd_pos (by omega), gd_pos (fI (by omega)), gd_pos (fI (by omega))]
  · show c.Day.Lo ≤ c.Day.Lo + _ ∧ c.Day.Lo + _ ≤ c.Day.Hi; omega
  · show c.Count.Lo ≤ c.Count.Lo + _ ∧ c.Count.Lo + _ ≤ c.Count.Hi; omega
end
end Go.Proofs.Ytbhdgedghfibcaa

namespace Go.Proofs.Ytbhdgedghfibcaa
open _root_.Go.Proofs.Try
open Go.Abs
set_option maxRecDepth 100000
noncomputable section
theorem loopFold {α β S : Type} {l : List α} (f : S → α → S) (F : Nat → S → Int → Option β) (fin : S → Option β)
    (hstep : ∀ d (k : Nat) s a, l[k]? = some a → F (d + 1) s (k : Int) = F d (f s a) ((k : Int) + 1)) (hend : ∀ d s, F (d + 1) s (l.length : Int) = fin s) :
    ∀ d (k : Nat) s, k ≤ l.length → l.length - k < d → F d s (k : Int) = fin ((l.drop k).foldl f s)
  | 0, k, _, _, h => by omega
  | d + 1, k, s, hk, h => by
    by_cases hkn : k = l.length
    · subst hkn
      rw [hend, List.drop_length]; rfl
    · have hlt : k < l.length := by omega
      rw [hstep d k s _ (List.getElem?_eq_getElem hlt), show (k : Int) + 1 = ((k + 1 : Nat) : Int) by omega, loopFold f F fin hstep hend d (k + 1) _ (by omega) (by omega), List.drop_eq_getElem_cons hlt]; rfl
def minL : List Int → Int | [] => 0 | x :: l => l.foldl min x
def maxL : List Int → Int | [] => 0 | x :: l => l.foldl max x
theorem foldl_min : ∀ (l : List Int) (x : Int), (l.foldl min x = x ∨ l.foldl min x ∈ l) ∧ l.foldl min x ≤ x ∧ ∀ y ∈ l, l.foldl min x ≤ y
  | [], x => ⟨.inl rfl, Int.le_refl _, by simp⟩
  | a :: l, x => by
    obtain ⟨h1, h2, h3⟩ := foldl_min l (min x a)
    refine ⟨?_, ?_, ?_⟩
    · show l.foldl min (min x a) = x ∨ l.foldl min (min x a) ∈ a :: l
      rcases h1 with h1 | h1
      · rw [h1]
        rcases Int.le_total x a with h | h
        · rw [Int.min_eq_left h]; exact .inl rfl
        · rw [Int.min_eq_right h]; exact .inr (List.mem_cons_self ..)
      · exact .inr (List.mem_cons_of_mem _ h1)
    · show l.foldl min (min x a) ≤ x; omega
    · intro y hy
      show l.foldl min (min x a) ≤ y
      rcases List.mem_cons.1 hy with rfl | hy
      · omega
      · exact h3 y hy
theorem foldl_max : ∀ (l : List Int) (x : Int), (l.foldl max x = x ∨ l.foldl max x ∈ l) ∧ x ≤ l.foldl max x ∧ ∀ y ∈ l, y ≤ l.foldl max x
  | [], x => ⟨.inl rfl, Int.le_refl _, by simp⟩
  | a :: l, x => by
    obtain ⟨h1, h2, h3⟩ := foldl_max l (max x a)
    refine ⟨?_, ?_, ?_⟩
    · show l.foldl max (max x a) = x ∨ l.foldl max (max x a) ∈ a :: l
      rcases h1 with h1 | h1
      · rw [h1]
        rcases Int.le_total x a with h | h
        · rw [Int.max_eq_right h]; exact .inr (List.mem_cons_self ..)
        · rw [Int.max_eq_left h]; exact .inl rfl
      · exact .inr (List.mem_cons_of_mem _ h1)
    · show x ≤ l.foldl max (max x a); omega
    · intro y hy
      show y ≤ l.foldl max (max x a)
      rcases List.mem_cons.1 hy with rfl | hy
      · omega
      · exact h3 y hy
theorem minL_mem {l : List Int} (h : l ≠ []) : minL l ∈ l ∧ ∀ y ∈ l, minL l ≤ y := by
  cases l with
  | nil => exact absurd rfl h
  | cons x l =>
    obtain ⟨h1, h2, h3⟩ := foldl_min l x
    refine ⟨?_, fun y hy => ?_⟩
    · show l.foldl min x ∈ _
      rcases h1 with h1 | h1
      · rw [h1]; exact List.mem_cons_self ..
      · exact List.mem_cons_of_mem _ h1
    · rcases List.mem_cons.1 hy with rfl | hy
      · exact h2
      · exact h3 y hy
theorem maxL_mem {l : List Int} (h : l ≠ []) : maxL l ∈ l ∧ ∀ y ∈ l, y ≤ maxL l := by
  cases l with
  | nil => exact absurd rfl h
  | cons x l =>
    obtain ⟨h1, h2, h3⟩ := foldl_max l x
    refine ⟨?_, fun y hy => ?_⟩
    · show l.foldl max x ∈ _
      rcases h1 with h1 | h1
      · rw [h1]; exact List.mem_cons_self ..
      · exact List.mem_cons_of_mem _ h1
    · rcases List.mem_cons.1 hy with rfl | hy
      · exact h2
      · exact h3 y hy
theorem minimum_eq {l : List Int} (h : l ≠ []) (hl : shrt l) : pminimum l = some (minL l) := by
  have hl := hl.lt
  cases l with
  | nil => exact absurd rfl h
  | cons x l =>
    unfold pminimum
    rw [if_neg (by simp; omega), idx_zero rfl, Option.bind_some]
    have key := loopFold (l := x :: l) (fun s a => min s a) (fun d s k => pminimum_L0 (x :: l) d s k) some (fun d k s a ha => by
      have hk := (List.getElem?_eq_some_iff.1 ha).1
      rw [pminimum_L0, if_pos (by omega), idx_at ha, Option.bind_some]
      by_cases hc : a < s
      · rw [if_pos hc, gd_pos (fI (by omega)), Int.min_eq_right (by omega)]
      · rw [if_neg hc, gd_pos (fI (by omega)), Int.min_eq_left (by omega)]) (fun d s => by rw [pminimum_L0, if_neg (Int.lt_irrefl _)]) ((x :: l).length + 1) 0 x (Nat.zero_le _) (by omega)
    refine key.trans ?_
    rw [List.drop_zero]
    show some (l.foldl min (min x x)) = _
    rw [Int.min_self]; rfl
theorem max_eq {l : List Int} (h : l ≠ []) (hl : shrt l) : psMax l = some (maxL l) := by
  have hl := hl.lt
  cases l with
  | nil => exact absurd rfl h
  | cons x l =>
    unfold psMax
    rw [if_neg (by simp; omega), idx_zero rfl, Option.bind_some]
    have key := loopFold (l := x :: l) (fun s a => max s a) (fun d s k => psMax_L0 (x :: l) d s k) some (fun d k s a ha => by
      have hk := (List.getElem?_eq_some_iff.1 ha).1
      rw [psMax_L0, if_pos (by omega), idx_at ha, Option.bind_some, gd_pos (fI (by omega))]) (fun d s => by rw [psMax_L0, if_neg (Int.lt_irrefl _)]) ((((x :: l).length : Int) - 1).toNat + 1) 1 x (by simp) (by simp only [List.length_cons]; omega)
    exact key
def seg (lo : Int) : Nat → List Int
  | 0 => []
  | n + 1 => lo :: seg (lo + 1) n
theorem mem_seg {x : Int} : ∀ {n : Nat} {lo : Int}, x ∈ seg lo n ↔ lo ≤ x ∧ x < lo + n
  | 0, lo => by simp [seg]
  | n + 1, lo => by
    unfold seg
    rw [List.mem_cons, mem_seg]; omega
theorem seg_len : ∀ {n : Nat} {lo : Int}, (seg lo n).length = n
  | 0, _ => rfl
  | n + 1, lo => by unfold seg; rw [List.length_cons, seg_len]
def truthsL (c : Clm) : List Tr := (seg c.Day.Lo (c.Day.Hi - c.Day.Lo + 1).toNat).flatMap fun d => (seg c.Count.Lo (c.Count.Hi - c.Count.Lo + 1).toNat).map fun n => ⟨d, n⟩
theorem mem_truths {c : Clm} (h1 : c.Day.Lo ≤ c.Day.Hi) (h2 : c.Count.Lo ≤ c.Count.Hi) {t : Tr} : t ∈ truthsL c ↔ TruthN c t := by
  unfold truthsL TruthN
  rw [List.mem_flatMap]
  constructor
  · rintro ⟨d, hd, ht⟩
    obtain ⟨n, hn, rfl⟩ := List.mem_map.1 ht
    have hd := mem_seg.1 hd
    have hn := mem_seg.1 hn
    dsimp only
    omega
  · intro ⟨h3, h4⟩
    exact ⟨t.Day, mem_seg.2 (by omega), List.mem_map.2 ⟨t.Count, mem_seg.2 (by omega), rfl⟩⟩
theorem truths_L1 {c : Clm} {x : Int} (hx : -1000 ≤ x ∧ x ≤ 1000) (hh : -1000 ≤ c.Count.Lo ∧ c.Count.Hi ≤ 1000) {K : Int → Option (List Tr)} {r : List Tr} (hK : K (x + 1) = some r) : ∀ (d n : Nat) (k : Int), c.Count.Lo ≤ k → n < d → k + n = c.Count.Hi + 1 → ptruthsI_L1 c x K d k = some ((seg k n).map (fun n => ⟨x, n⟩) ++ r)
  | 0, n, k, _, h, _ => by omega
  | d + 1, 0, k, _, _, hk => by
    rw [ptruthsI_L1, if_neg (by omega), gd_pos (fI (by omega)), hK]; rfl
  | d + 1, n + 1, k, h0, h, hk => by
    rw [ptruthsI_L1, if_pos (by omega), gd_pos (fI (by omega)), truths_L1 hx hh hK d n (k + 1) (by omega) (by omega) (by omega), Option.bind_some]; rfl
theorem truths_L0 {c : Clm} (hd : -1000 ≤ c.Day.Lo ∧ c.Day.Hi ≤ 1000) (hh : -1000 ≤ c.Count.Lo ∧ c.Count.Hi ≤ 1000) (h2 : c.Count.Lo ≤ c.Count.Hi) : ∀ (d n : Nat) (x : Int), c.Day.Lo ≤ x → n < d → x + n = c.Day.Hi + 1 → ptruthsI_L0 c d x = some ((seg x n).flatMap fun d => (seg c.Count.Lo (c.Count.Hi - c.Count.Lo + 1).toNat).map fun n => ⟨d, n⟩)
  | 0, n, x, _, h, _ => by omega
  | d + 1, 0, x, _, _, hx => by rw [ptruthsI_L0, if_neg (by omega)]; rfl
  | d + 1, n + 1, x, h0, h, hx => by
    rw [ptruthsI_L0, if_pos (by omega), truths_L1 (by omega) hh (truths_L0 hd hh h2 d n (x + 1) (by omega) (by omega) (by omega)) _ (c.Count.Hi - c.Count.Lo + 1).toNat c.Count.Lo (Int.le_refl _) (by omega) (by omega)]; rfl
theorem truths_eq {l : List Tf} {c : Clm} (h : ClaimN l c) : ptruths c = some (truthsL c) := by
  have h1 := h.day
  have h2 := h.cnt
  unfold ptruths ptruthsI
  rw [truths_L0 (by omega) (by omega) (by omega) _ (c.Day.Hi - c.Day.Lo + 1).toNat c.Day.Lo (Int.le_refl _) (by omega) (by omega)]; rfl
theorem truths_len {l : List Tf} {c : Clm} (h : ClaimN l c) : 0 < (truthsL c).length ∧ (truthsL c).length ≤ 1111 := by
  have h1 := h.day
  have h2 := h.cnt
  have : (truthsL c).length = (c.Day.Hi - c.Day.Lo + 1).toNat * (c.Count.Hi - c.Count.Lo + 1).toNat := by
    unfold truthsL
    rw [List.length_flatMap]
    simp only [List.length_map, seg_len]
    generalize (c.Day.Hi - c.Day.Lo + 1).toNat = n
    generalize (c.Count.Hi - c.Count.Lo + 1).toNat = k
    generalize c.Day.Lo = x
    induction n generalizing x with
    | zero => simp [seg]
    | succ n ih => unfold seg; rw [List.map_cons, List.sum_cons, ih, Nat.succ_mul]; omega
  rw [this]
  have a1 : 1 ≤ (c.Day.Hi - c.Day.Lo + 1).toNat := by omega
  have a2 : (c.Day.Hi - c.Day.Lo + 1).toNat ≤ 11 := by omega
  have a3 : 1 ≤ (c.Count.Hi - c.Count.Lo + 1).toNat := by omega
  have a4 : (c.Count.Hi - c.Count.Lo + 1).toNat ≤ 101 := by omega
  exact ⟨Nat.mul_pos a1 a3, Nat.mul_le_mul a2 a4⟩
/-- the bounds -/
def bndN (l : List Tf) (c : Clm) : Rg := ⟨minL ((truthsL c).map (payN l c)), maxL ((truthsL c).map (payN l c))⟩
theorem pay_rng {l : List Tf} (hf : faultN l = 0) {c : Clm} (hc : ClaimN l c) {t : Tr} (ht : TruthN c t) : 0 ≤ payN l c t ∧ payN l c t ≤ 100000 := by
  have hp := part_htOk hf (htOk hc ht)
  have hv := val_le hc.val hp
  unfold payN
  dsimp only at hv
  omega
theorem bnd_spec {l : List Tf} {c : Clm} (hc : ClaimN l c) : (∀ t, TruthN c t → (bndN l c).Lo ≤ payN l c t ∧ payN l c t ≤ (bndN l c).Hi) ∧ (∃ t, TruthN c t ∧ payN l c t = (bndN l c).Lo) ∧ ∃ t, TruthN c t ∧ payN l c t = (bndN l c).Hi := by
  have h1 := hc.day
  have h2 := hc.cnt
  have hm : ∀ {t : Tr}, t ∈ truthsL c ↔ TruthN c t := mem_truths (by omega) (by omega)
  have hne : (truthsL c).map (payN l c) ≠ [] := fun e => by
    have := (truths_len hc).1
    rw [List.map_eq_nil_iff.1 e] at this
    simp at this
  obtain ⟨a1, a2⟩ := minL_mem hne
  obtain ⟨b1, b2⟩ := maxL_mem hne
  refine ⟨fun t ht => ⟨a2 _ (List.mem_map.2 ⟨t, hm.2 ht, rfl⟩), b2 _ (List.mem_map.2 ⟨t, hm.2 ht, rfl⟩)⟩, ?_, ?_⟩
  · obtain ⟨t, h3, h4⟩ := List.mem_map.1 a1
    exact ⟨t, hm.1 h3, h4⟩
  · obtain ⟨t, h3, h4⟩ := List.mem_map.1 b1
    exact ⟨t, hm.1 h3, h4⟩
theorem bnd_rng {l : List Tf} (hf : faultN l = 0) {c : Clm} (hc : ClaimN l c) : 0 ≤ (bndN l c).Lo ∧ (bndN l c).Lo ≤ 100000 ∧ 0 ≤ (bndN l c).Hi ∧ (bndN l c).Hi ≤ 100000 := by
  obtain ⟨_, ⟨t, h1, h2⟩, ⟨u, h3, h4⟩⟩ := bnd_spec (l := l) hc
  have := pay_rng hf hc h1
  have := pay_rng hf hc h3
  omega
theorem bounds_L0 {l : List Tf} (hf : faultN l = 0) {c : Clm} (hc : ClaimN l c) {w : Wk} (hw : w.tariffs = l) : ∀ (ts : List Tr) (acc : List Int) (M : Option (Ht → Option Int)), (∀ t ∈ ts, TruthN c t) → MemoOk l M → ts.length + acc.length ≤ 1111 → acc ++ ts.map (payN l c) ≠ [] →
    ∃ M', pbounds_L0 w c ts acc M = some (⟨minL (acc ++ ts.map (payN l c)), maxL (acc ++ ts.map (payN l c))⟩, M') ∧ MemoOk l M'
  | [], acc, M, _, hM, hl, hne => by
    rw [List.map_nil, List.append_nil] at hne ⊢
    have hs : shrt acc := Nat.le_trans (Nat.le_trans (Nat.le_add_left _ _) hl) (by omega)
    refine ⟨M, ?_, hM⟩
    rw [pbounds_L0, minimum_eq hne hs, Option.bind_some, max_eq hne hs, Option.bind_some]
  | t :: ts, acc, M, hts, hM, hl, hne => by
    obtain ⟨M1, h1, h2⟩ := payment_eq hf hM hc (hts t (List.mem_cons_self ..))
    rw [List.length_cons] at hl
    obtain ⟨M', h3, h4⟩ := bounds_L0 hf hc hw ts (acc ++ [payN l c t]) M1 (fun u hu => hts u (List.mem_cons_of_mem _ hu)) h2 (by rw [List.length_append]; simp; omega) (by simp)
    refine ⟨M', ?_, h4⟩
    rw [pbounds_L0, hw, h1, Option.bind_some]
    dsimp only
    rw [gd_pos (by omega), h3, List.append_assoc]; rfl
theorem bounds_eq {l : List Tf} (hf : faultN l = 0) {c : Clm} (hc : ClaimN l c) {M : Option (Ht → Option Int)} (hM : MemoOk l M) : ∃ M', pbounds ⟨l, M⟩ c = some (bndN l c, M') ∧ MemoOk l M' := by
  have h1 := hc.day
  have h2 := hc.cnt
  have hlen := truths_len hc
  unfold pbounds
  rw [truths_eq hc, Option.bind_some]
  exact bounds_L0 hf hc rfl (truthsL c) [] M (fun t ht => (mem_truths (by omega) (by omega)).1 ht) hM (by simp; omega) (by
    intro e
    rw [List.nil_append] at e
    rw [List.map_eq_nil_iff.1 e] at hlen
    exact absurd hlen.1 (by simp))
theorem Bounds_ok {l : List Tf} (hf : faultN l = 0) {c : Clm} (hc : ClaimN l c) : pBounds l c = some (bndN l c, 0) := by
  obtain ⟨M', h1, _⟩ := bounds_eq hf hc memo0
  unfold pBounds
  rw [openFor_eq hf (by simp) (mem1.2 hc), Option.bind_some, if_pos rfl, h1, Option.bind_some]
end
end Go.Proofs.Ytbhdgedghfibcaa

namespace Go.Proofs.Ytbhdgedghfibcaa
open _root_.Go.Proofs.Try
open Go.Abs
set_option maxRecDepth 100000
noncomputable section
def amin (l : List Tf) (c : Clm) (b a : Tr) : Tr := if payN l c a < payN l c b then a else b
def amax (l : List Tf) (c : Clm) (b a : Tr) : Tr := if payN l c b < payN l c a then a else b
def argmin (l : List Tf) (c : Clm) : List Tr → Tr | [] => ⟨0, 0⟩ | t :: ts => ts.foldl (amin l c) t
def argmax (l : List Tf) (c : Clm) : List Tr → Tr | [] => ⟨0, 0⟩ | t :: ts => ts.foldl (amax l c) t
theorem amin_fold {l : List Tf} {c : Clm} : ∀ (ts : List Tr) (t : Tr), payN l c (ts.foldl (amin l c) t) = (ts.map (payN l c)).foldl min (payN l c t) ∧ (ts.foldl (amin l c) t = t ∨ ts.foldl (amin l c) t ∈ ts)
  | [], t => ⟨rfl, .inl rfl⟩
  | a :: ts, t => by
    obtain ⟨h1, h2⟩ := amin_fold (l := l) (c := c) ts (amin l c t a)
    have e : payN l c (amin l c t a) = min (payN l c t) (payN l c a) := by
      unfold amin
      split <;> omega
    refine ⟨?_, ?_⟩
    · show payN l c (ts.foldl (amin l c) (amin l c t a)) = (ts.map (payN l c)).foldl min (min (payN l c t) (payN l c a))
      rw [h1, e]
    · show ts.foldl (amin l c) (amin l c t a) = t ∨ ts.foldl (amin l c) (amin l c t a) ∈ a :: ts
      rcases h2 with h2 | h2
      · rw [h2]; unfold amin
        split
        · exact .inr (List.mem_cons_self ..)
        · exact .inl rfl
      · exact .inr (List.mem_cons_of_mem _ h2)
theorem amax_fold {l : List Tf} {c : Clm} : ∀ (ts : List Tr) (t : Tr), payN l c (ts.foldl (amax l c) t) = (ts.map (payN l c)).foldl max (payN l c t) ∧ (ts.foldl (amax l c) t = t ∨ ts.foldl (amax l c) t ∈ ts)
  | [], t => ⟨rfl, .inl rfl⟩
  | a :: ts, t => by
    obtain ⟨h1, h2⟩ := amax_fold (l := l) (c := c) ts (amax l c t a)
    have e : payN l c (amax l c t a) = max (payN l c t) (payN l c a) := by
      unfold amax
      split <;> omega
    refine ⟨?_, ?_⟩
    · show payN l c (ts.foldl (amax l c) (amax l c t a)) = (ts.map (payN l c)).foldl max (max (payN l c t) (payN l c a))
      rw [h1, e]
    · show ts.foldl (amax l c) (amax l c t a) = t ∨ ts.foldl (amax l c) (amax l c t a) ∈ a :: ts
      rcases h2 with h2 | h2
      · rw [h2]; unfold amax
        split
        · exact .inr (List.mem_cons_self ..)
        · exact .inl rfl
      · exact .inr (List.mem_cons_of_mem _ h2)
theorem truths_cons {l : List Tf} {c : Clm} (hc : ClaimN l c) : ∃ t ts, truthsL c = t :: ts := by
  have := (truths_len hc).1
  cases h : truthsL c with
  | nil => rw [h] at this; simp at this
  | cons t ts => exact ⟨t, ts, rfl⟩
theorem truthsL_iff {l : List Tf} {c : Clm} (hc : ClaimN l c) {t : Tr} : t ∈ truthsL c ↔ TruthN c t := by
  have h1 := hc.day
  have h2 := hc.cnt
  exact mem_truths (by omega) (by omega)
theorem argmin_spec {l : List Tf} {c : Clm} (hc : ClaimN l c) : TruthN c (argmin l c (truthsL c)) ∧ payN l c (argmin l c (truthsL c)) = (bndN l c).Lo := by
  obtain ⟨t, ts, h⟩ := truths_cons hc
  obtain ⟨h1, h2⟩ := amin_fold (l := l) (c := c) ts t
  refine ⟨(truthsL_iff hc).1 ?_, ?_⟩
  · rw [h]
    show ts.foldl (amin l c) t ∈ _
    rcases h2 with h2 | h2
    · rw [h2]; exact List.mem_cons_self ..
    · exact List.mem_cons_of_mem _ h2
  · unfold bndN; rw [h]; exact h1
theorem argmax_spec {l : List Tf} {c : Clm} (hc : ClaimN l c) : TruthN c (argmax l c (truthsL c)) ∧ payN l c (argmax l c (truthsL c)) = (bndN l c).Hi := by
  obtain ⟨t, ts, h⟩ := truths_cons hc
  obtain ⟨h1, h2⟩ := amax_fold (l := l) (c := c) ts t
  refine ⟨(truthsL_iff hc).1 ?_, ?_⟩
  · rw [h]
    show ts.foldl (amax l c) t ∈ _
    rcases h2 with h2 | h2
    · rw [h2]; exact List.mem_cons_self ..
    · exact List.mem_cons_of_mem _ h2
  · unfold bndN; rw [h]; exact h1
theorem compare_eq {x y : Int} : pcompare x y = some (if x < y then -1 else if y < x then 1 else 0) := by
  unfold pcompare
  rw [isNaN_eq, Option.bind_some, isNaN_eq, Option.bind_some, if_neg (by simp), if_neg (by simp)]
  split
  · rfl
  · split <;> rfl
theorem show1_eq {l : List Tf} (hf : faultN l = 0) {M : Option (Ht → Option Int)} (hM : MemoOk l M) {c : Clm} (hc : ClaimN l c) {t u : Tr} (ht : TruthN c t) (hu : TruthN c u) :
    ∃ M', pshow1 t u ⟨l, M⟩ c = some (if payN l c t < payN l c u then -1 else if payN l c u < payN l c t then 1 else 0, M') ∧ MemoOk l M' := by
  obtain ⟨M1, h1, h2⟩ := payment_eq hf hM hc ht
  obtain ⟨M2, h3, h4⟩ := payment_eq hf h2 hc hu
  refine ⟨M2, ?_, h4⟩
  unfold pshow1
  rw [h1, Option.bind_some, h3, Option.bind_some, compare_eq, Option.bind_some]
theorem maxFunc_L0 {l : List Tf} (hf : faultN l = 0) {c : Clm} (hc : ClaimN l c) {ts : List Tr} (hts : ∀ t ∈ ts, TruthN c t) (hlen : ts.length ≤ 2000) : ∀ d (k : Nat) (b : Tr) M, k ≤ ts.length → ts.length - k < d → TruthN c b → MemoOk l M →
    ∃ M', pmaxFunc_L0 ts (fun a1 a2 M_ => pshow1 a1 a2 ⟨l, M_⟩ c) d b.Day b.Count M (k : Int) = some ((ts.drop k).foldl (amax l c) b, M') ∧ MemoOk l M'
  | 0, k, _, _, _, h, _, _ => by omega
  | d + 1, k, b, M, hk, h, hb, hM => by
    by_cases hkn : k = ts.length
    · subst hkn
      rw [pmaxFunc_L0, if_neg (Int.lt_irrefl _), List.drop_length]
      exact ⟨M, rfl, hM⟩
    · have hlt : k < ts.length := by omega
      have hget := List.getElem?_eq_getElem hlt
      have hmem := hts _ (List.getElem_mem hlt)
      obtain ⟨M1, h1, h2⟩ := show1_eq hf hM hc hmem hb
      rw [pmaxFunc_L0, if_pos (by omega), idx_at hget, Option.bind_some]
      try dsimp only
      rw [h1, Option.bind_some]
      try dsimp only
      rw [List.drop_eq_getElem_cons hlt]
      show ∃ M', _ = some ((ts.drop (k + 1)).foldl (amax l c) (amax l c b ts[k]), M') ∧ _
      by_cases h3 : payN l c b < payN l c ts[k]
      · rw [if_neg (show ¬ payN l c ts[k] < payN l c b by omega), if_pos h3, if_pos (by decide), Option.bind_some, gd_pos (fI (by omega)), show (k : Int) + 1 = ((k + 1 : Nat) : Int) by omega]
        obtain ⟨M', h4, h5⟩ := maxFunc_L0 hf hc hts hlen d (k + 1) ts[k] M1 (by omega) (by omega) hmem h2
        exact ⟨M', by rw [h4, show amax l c b ts[k] = ts[k] from if_pos h3], h5⟩
      · rw [if_neg h3, if_neg (by split <;> omega), gd_pos (fI (by omega)), show (k : Int) + 1 = ((k + 1 : Nat) : Int) by omega]
        obtain ⟨M', h4, h5⟩ := maxFunc_L0 hf hc hts hlen d (k + 1) b M1 (by omega) (by omega) hb h2
        exact ⟨M', by rw [h4, show amax l c b ts[k] = b from if_neg h3], h5⟩
theorem minFunc_L0 {l : List Tf} (hf : faultN l = 0) {c : Clm} (hc : ClaimN l c) {ts : List Tr} (hts : ∀ t ∈ ts, TruthN c t) (hlen : ts.length ≤ 2000) : ∀ d (k : Nat) (b : Tr) M, k ≤ ts.length → ts.length - k < d → TruthN c b → MemoOk l M →
    ∃ M', pminFunc_L0 ts (fun a1 a2 M_ => pshow1 a1 a2 ⟨l, M_⟩ c) d b.Day b.Count M (k : Int) = some ((ts.drop k).foldl (amin l c) b, M') ∧ MemoOk l M'
  | 0, k, _, _, _, h, _, _ => by omega
  | d + 1, k, b, M, hk, h, hb, hM => by
    by_cases hkn : k = ts.length
    · subst hkn
      rw [pminFunc_L0, if_neg (Int.lt_irrefl _), List.drop_length]
      exact ⟨M, rfl, hM⟩
    · have hlt : k < ts.length := by omega
      have hget := List.getElem?_eq_getElem hlt
      have hmem := hts _ (List.getElem_mem hlt)
      obtain ⟨M1, h1, h2⟩ := show1_eq hf hM hc hmem hb
      rw [pminFunc_L0, if_pos (by omega), idx_at hget, Option.bind_some]
      try dsimp only
      rw [h1, Option.bind_some]
      try dsimp only
      rw [List.drop_eq_getElem_cons hlt]
      show ∃ M', _ = some ((ts.drop (k + 1)).foldl (amin l c) (amin l c b ts[k]), M') ∧ _
      by_cases h3 : payN l c ts[k] < payN l c b
      · rw [if_pos h3, if_pos (by decide), Option.bind_some, gd_pos (fI (by omega)), show (k : Int) + 1 = ((k + 1 : Nat) : Int) by omega]
        obtain ⟨M', h4, h5⟩ := minFunc_L0 hf hc hts hlen d (k + 1) ts[k] M1 (by omega) (by omega) hmem h2
        exact ⟨M', by rw [h4, show amin l c b ts[k] = ts[k] from if_pos h3], h5⟩
      · rw [if_neg h3, if_neg (by split <;> omega), gd_pos (fI (by omega)), show (k : Int) + 1 = ((k + 1 : Nat) : Int) by omega]
        obtain ⟨M', h4, h5⟩ := minFunc_L0 hf hc hts hlen d (k + 1) b M1 (by omega) (by omega) hb h2
        exact ⟨M', by rw [h4, show amin l c b ts[k] = b from if_neg h3], h5⟩
theorem appendSeq_go : ∀ (ts acc : List Tr), ts.length + acc.length ≤ 2000 → pappendSeq_L0 ts acc = some (acc ++ ts)
  | [], acc, _ => by rw [pappendSeq_L0, List.append_nil]
  | t :: ts, acc, h => by
    rw [List.length_cons] at h
    rw [pappendSeq_L0, gd_pos (by omega), appendSeq_go ts _ (by rw [List.length_append]; simp; omega), List.append_assoc]; rfl
theorem collect_eq {ts : List Tr} (h : ts.length ≤ 2000) : pcollect ts = some ts := by
  unfold pcollect pappendSeq
  rw [appendSeq_go ts [] (by simpa using h), Option.bind_some]; rfl
theorem Show_ok {l : List Tf} (hf : faultN l = 0) {c : Clm} (hc : ClaimN l c) : pShow l c true = some (argmax l c (truthsL c), 0) ∧ pShow l c false = some (argmin l c (truthsL c), 0) := by
  obtain ⟨t, ts, h⟩ := truths_cons hc
  have hlen := truths_len hc
  have hts : ∀ u ∈ t :: ts, TruthN c u := fun u hu => (truthsL_iff hc).1 (by rw [h]; exact hu)
  have ht := hts t (List.mem_cons_self ..)
  rw [h] at hlen
  simp only [List.length_cons] at hlen
  constructor
  · obtain ⟨M', h1, _⟩ := maxFunc_L0 hf hc hts (by simp; omega) (((((t :: ts).length : Nat) : Int) - 1).toNat + 1) 1 t _ (by simp) (by simp only [List.length_cons]; omega) ht memo0
    unfold pShow
    rw [openFor_eq hf (by simp) (mem1.2 hc), Option.bind_some, if_pos rfl, truths_eq hc, Option.bind_some, collect_eq (by rw [h]; simp; omega), Option.bind_some, if_pos rfl, h]
    unfold pmaxFunc
    rw [if_neg (by simp only [List.length_cons]; omega), idx_zero rfl, Option.bind_some]
    exact (congrArg (fun o => Option.bind o _) h1).trans rfl
  · obtain ⟨M', h1, _⟩ := minFunc_L0 hf hc hts (by simp; omega) (((((t :: ts).length : Nat) : Int) - 1).toNat + 1) 1 t _ (by simp) (by simp only [List.length_cons]; omega) ht memo0
    unfold pShow
    rw [openFor_eq hf (by simp) (mem1.2 hc), Option.bind_some, if_pos rfl, truths_eq hc, Option.bind_some, collect_eq (by rw [h]; simp; omega), Option.bind_some, if_neg (by simp), h]
    unfold pminFunc
    rw [if_neg (by simp only [List.length_cons]; omega), idx_zero rfl, Option.bind_some]
    exact (congrArg (fun o => Option.bind o _) h1).trans rfl
def verdN (r : Rg) : Int := if 0 < r.Lo then 1 else if r.Hi = 0 then 2 else 3
theorem Paid_ok {l : List Tf} (hf : faultN l = 0) {c : Clm} (hc : ClaimN l c) : pPaid l c = some (verdN (bndN l c), 0) := by
  unfold pPaid
  rw [Bounds_ok hf hc, Option.bind_some, if_pos rfl]
  unfold verdN
  dsimp only
  split
  · rfl
  · split <;> rfl
theorem m_TariffTruth {l : List Tf} {c : Clm} {day count : Int} (_ : OkL l) (_ : ok_Clm c) (hd : fitsP .u8 day) (hn : fitsP .u8 count) : pTariffTruth l c day count = some true := by
  unfold pTariffTruth
  refine fine_ev.pick (fun ⟨ht, hf, hc⟩ => ?_) fun _ => by rw [if_neg (by simp), aw, Option.bind_some]
  rw [if_pos rfl]
  obtain ⟨p1, p2⟩ := picked_eq hc (day := day) (count := count) (fU8 hd) (fU8 hn)
  rw [p1, Option.bind_some]
  generalize (⟨c.Day.Lo + day % (c.Day.Hi - c.Day.Lo + 1), c.Count.Lo + count % (c.Count.Hi - c.Count.Lo + 1)⟩ : Tr) = t at p2
  obtain ⟨s1, s2⟩ := Show_ok hf hc
  obtain ⟨a1, a2⟩ := argmin_spec (l := l) hc
  obtain ⟨b1, b2⟩ := argmax_spec (l := l) hc
  obtain ⟨e1, _⟩ := bnd_spec (l := l) hc
  obtain ⟨e2, e3⟩ := e1 t p2
  have hr := bnd_rng hf hc
  have v1 : pprovePay l c (argmin l c (truthsL c)) (bndN l c).Lo = some true := by rw [provePay_of (Pay_ok hf hc a1), a2]; simp
  have v2 : pprovePay l c (argmax l c (truthsL c)) (bndN l c).Hi = some true := by rw [provePay_of (Pay_ok hf hc b1), b2]; simp
  have hin : prIn (verdN (bndN l c)) 1 3 = some true := In_ev.some_of (by
    unfold verdN
    split
    · omega
    · split <;> omega)
  simp only [lTariffs_eq ht, lClaim_eq, lTruth_eq, Option.bind_some, aw, Bounds_ok hf hc, Pay_ok hf hc p2, s1, s2, Paid_ok hf hc, v1, v2, hin, if_true]
  rw [if_neg (by omega), if_neg (by omega)]
  by_cases h1 : verdN (bndN l c) = 1
  · have : 0 < (bndN l c).Lo := by
      unfold verdN at h1
      by_cases h : 0 < (bndN l c).Lo
      · exact h
      · rw [if_neg h] at h1; split at h1 <;> omega
    rw [if_pos h1, if_neg (by omega), if_neg (by omega)]
  · rw [if_neg h1]
    by_cases h2 : verdN (bndN l c) = 2
    · have : (bndN l c).Hi = 0 := by
        unfold verdN at h2
        by_cases h : (bndN l c).Hi = 0
        · exact h
        · split at h2
          · omega
          · first | omega | (split at h2 <;> omega)
      rw [if_pos h2, if_neg (by omega)]
    · rw [if_neg h2]
end
end Go.Proofs.Ytbhdgedghfibcaa

namespace Go.Abs
set_option maxRecDepth 100000
noncomputable section
/-- a memory that can only be read, and where it lies -/
structure Lay (W : World) (e : Env) (m : M) : Prop where
  hr : HR e (toH m) W
  g : ∀ b, m.g b = none
  vz : ∀ b, m.nxt ≤ b → m.vw b = none
  base : e.base = W.heap
theorem Lay.nil (W : World) : Lay W { ρ := fun _ => none, sz := fun _ => 0, es := fun _ => 0, base := W.heap } { nxt := 0, g := fun _ => none, vw := fun _ => none } :=
  ⟨⟨fun _ _ => rfl, fun b o h => (by cases h), fun b b' o o' c h => (by cases h), Nat.le_refl _, fun b o c h => (by cases h), fun c cs t fr h => h, fun b q h => (by cases h)⟩, fun _ => rfl, fun _ _ => rfl, rfl⟩
theorem Lay.pre {W : World} {e : Env} {m : M} (h : Lay W e m) : Pre m m := ⟨.refl m, fun b _ => h.g b, h.vz⟩
/-- one more part of the heap can be read -/
theorem Lay.view {W : World} {e : Env} {m : M} (h : Lay W e m) {cb : Nat} (q : Option (Nat × List C)) (hq : ∀ q', q = some q' → ∃ c t fr, W.heap[cb]? = some (.cells c t fr) ∧ q'.1 + q'.2.length ≤ c.size ∧ All2 (CR e) q'.2 ((c.toList.drop q'.1).take q'.2.length)) :
    ∃ e' m', e.le e' ∧ SubV m m' ∧ Lay W e' m' ∧ m'.nxt = m.nxt + 1 ∧ e'.ρ m.nxt = some cb ∧ m'.vw m.nxt = q := by
  let e' : Env := { ρ := fun j => if j = m.nxt then some cb else e.ρ j, sz := e.sz, es := e.es, base := e.base }
  let m' : M := { nxt := m.nxt + 1, g := m.g, vw := fun j => if j = m.nxt then q else m.vw j }
  have hfresh : e.ρ m.nxt = none := h.hr.fresh _ (Nat.le_refl m.nxt)
  have hle : e.le e' := ⟨fun k c hk => by
    show (if k = m.nxt then some cb else e.ρ k) = some c
    rw [if_neg fun hkn => by rw [hkn, hfresh] at hk; cases hk]; exact hk, fun _ _ _ => rfl, fun _ _ _ => rfl, rfl⟩
  refine ⟨e', m', hle, ⟨Nat.le_succ _, fun b hb => if_neg (by omega), fun _ _ _ => rfl⟩, ⟨⟨fun b hb => ?_, fun b o hb => ?_, fun b b' o o' c hb => ?_, ?_⟩, h.g, fun b hb => ?_, h.base⟩, rfl, if_pos rfl, if_pos rfl⟩
  · have hb : m.nxt + 1 ≤ b := hb
    show (if b = m.nxt then some cb else e.ρ b) = none
    rw [if_neg (by omega)]
    exact h.hr.fresh b (show m.nxt ≤ b by omega)
  · have : m.g b = some o := hb
    rw [h.g b] at this; cases this
  · have : m.g b = some o := hb
    rw [h.g b] at this; cases this
  · refine ⟨h.hr.vws.lim, fun b o c hb => ?_, h.hr.vws.kept, fun b q' hb => ?_⟩
    · have : m.g b = some o := hb
      rw [h.g b] at this; cases this
    · have hb : (if b = m.nxt then q else m.vw b) = some q' := hb
      by_cases hbn : b = m.nxt
      · subst hbn
        rw [if_pos rfl] at hb
        obtain ⟨c, t, fr, h1, h2, h3⟩ := hq q' hb
        exact ⟨cb, c, t, fr, if_pos rfl, by show e.base[cb]? = _; rw [h.base]; exact h1, h2, h3.mono fun _ _ => CR.mono hle⟩
      · rw [if_neg hbn] at hb
        exact (h.hr.vws.view b q' hb).mono hle
  · have hb : m.nxt + 1 ≤ b := hb
    show (if b = m.nxt then q else m.vw b) = none
    rw [if_neg (by omega)]
    exact h.vz b (by omega)
/-- values of the type t are like α -/
def Opens (P : Program) (t : TypeId) (α : Type) [Rp α] (ok : α → Prop) : Prop :=
  ∀ (H : Type) (enc : TypeId × Value → H) (W : World) (held : Bool) (n : Nat) (cs : List Value) (x : DataW H × List MemPlace), DataW.trod enc P W 0 (fun _ => true) held n t cs = some x →
    ∀ (e : Env) (m : M), Lay W e m → ∃ e' m' vs a, e.le e' ∧ SubV m m' ∧ Lay W e' m' ∧ All2 (CR e') vs cs ∧ Rp.rep m' vs a ∧ ok a
variable {P : Program} {α β : Type} [Rp α] [Rp β]
theorem opens_int {t : TypeId} (hu : P.underlying t = some (.int .i64)) : Opens P t Int (fitsP .i64) := fun H enc W held n cs x hx e m hl => by
  obtain ⟨i, rfl, _, hw⟩ := DataW.trod_int hu hx
  exact ⟨e, m, [.int .i64 i], i, .refl _, .refl _, hl, .cons rfl .nil, rfl, wf_fits hw⟩
theorem opens_bool {t : TypeId} (hu : P.underlying t = some .bool) : Opens P t Bool (fun _ => True) := fun H enc W held n cs x hx e m hl => by
  obtain ⟨b, rfl, _⟩ := DataW.trod_bool hu hx
  exact ⟨e, m, [.bool b], b, .refl _, .refl _, hl, .cons rfl .nil, rfl, trivial⟩
/-- the elements of a slice, one after the other -/
theorem open_els {t : TypeId} {ok : α → Prop} (h : Opens P t α ok) {H : Type} {enc : TypeId × Value → H} {W : World} {held : Bool} {n b o : Nat} {c : Array Value} {tt : TypeId} {fr : Nat × Nat} (hb : W.heap[b]? = some (Obj.cells c tt fr)) :
    ∀ (len : Nat), (∀ i, i < len → ∃ cs x, W.cells? 0 ((⟨b, o, none⟩ : Addr).add (i * Rp.k α)) (Rp.k α) = some cs ∧ DataW.trod enc P W 0 (fun _ => true) held n t cs = some x) → ∀ (e : Env) (m : M), Lay W e m →
      ∃ e' m' vs l, e.le e' ∧ SubV m m' ∧ Lay W e' m' ∧ All2 (CR e') vs ((c.toList.drop o).take (len * Rp.k α)) ∧ Cat m' vs l ∧ l.length = len ∧ (∀ a ∈ l, ok a) ∧ vs.length = len * Rp.k α ∧ (0 < len → o + len * Rp.k α ≤ c.size)
  | 0, _, e, m, hl => ⟨e, m, [], ([] : List α), .refl _, .refl _, hl, by simp; exact .nil, rfl, rfl, by simp, by simp, fun h => by omega⟩
  | len + 1, hh, e, m, hl => by
    obtain ⟨e1, m1, vs, l, q1, q2, q3, q4, q5, q6, q7, q8, q9⟩ := open_els h hb len (fun i hi => hh i (by omega)) e m hl
    obtain ⟨cs, x, r1, r2⟩ := hh len (by omega)
    obtain ⟨e2, m2, ws, a, s1, s2, s3, s4, s5, s6⟩ := h H enc W held n cs x r2 e1 m1 q3
    obtain ⟨l1, l2⟩ := cells?_at r1
    have hk := Rp.pos (α := α)
    have hcell : ∀ j, j < Rp.k α → c[o + len * Rp.k α + j]? = cs[j]? := fun j hj => by
      rw [← l2 j hj, add_add, cell_of_row W b _ c tt fr hb]
    have hseg : cs = (c.toList.drop (o + len * Rp.k α)).take (Rp.k α) := by
      apply List.ext_getElem?
      intro j
      rw [List.getElem?_take]
      split
      · rename_i hj
        rw [List.getElem?_drop, ← hcell j hj]; simp
      · rw [List.getElem?_eq_none (by omega)]
    refine ⟨e2, m2, vs ++ ws, l ++ [a], q1.trans s1, q2.trans s2, s3, ?_, (Cat.subv s2 q5).app (Cat.one s5), by simp [q6], fun b hb => ?_, ?_, fun _ => ?_⟩
    · rw [Nat.add_mul, Nat.one_mul, List.take_add, List.drop_drop]
      exact (q4.mono fun _ _ => CR.mono s1).app (by rw [← hseg]; exact s4)
    · rcases List.mem_append.1 hb with hb | hb
      · exact q7 b hb
      · rw [List.mem_singleton.1 hb]; exact s6
    · rw [List.length_append, q8, Rp.len s5, Nat.add_mul, Nat.one_mul]
    · have := hcell (Rp.k α - 1) (by omega)
      rw [List.getElem?_eq_getElem (by omega)] at this
      have := (Array.getElem?_eq_some_iff.1 this).1
      rw [Nat.add_mul, Nat.one_mul]; omega
theorem opens_slice {t e : TypeId} {ok : α → Prop} (hu : P.underlying t = some (.slice e)) (hk : P.cellsOf e = Rp.k α) (h : Opens P e α ok) : Opens P t (List α) (fun l => l.length ≤ maxLen ∧ ∀ a ∈ l, ok a) := fun H enc W held n cs x hx en m hl => by
  rcases DataW.trod_slice hu hx with ⟨rfl, _⟩ | ⟨a, len, cap, elems, rest, m', rfl, rfl, _, _, hlc, hcm, hel, hat, hrest, _⟩
  · exact ⟨en, m, [.sl0], ([] : List α), .refl _, .refl _, hl, .cons rfl .nil, ⟨_, rfl, Sl.nil m⟩, Nat.zero_le _, by simp⟩
  · obtain ⟨hrl, hrat⟩ := hrest rfl
    rw [hk] at hat hrat
    have hpos := Rp.pos (α := α)
    have hany : ∀ i, i < cap → ∃ cs y, W.cells? 0 (a.add (i * Rp.k α)) (Rp.k α) = some cs ∧ DataW.trod enc P W 0 (fun _ => true) held m' e cs = some y := fun i hi => by
      have : ∃ y, (W.cells? 0 (a.add (i * Rp.k α)) (Rp.k α)).bind (DataW.trod enc P W 0 (fun _ => true) held m' e) = some y := by
        by_cases hil : i < len
        · have := hat i hil
          rw [List.getElem?_eq_getElem (by omega)] at this
          exact ⟨_, this⟩
        · have := hrat (i - len) (by omega)
          rw [List.getElem?_eq_getElem (by omega), show len + (i - len) = i by omega] at this
          exact ⟨_, this⟩
      obtain ⟨y, hy⟩ := this
      cases hc : W.cells? 0 (a.add (i * Rp.k α)) (Rp.k α) with
      | none => rw [hc] at hy; cases hy
      | some cs => rw [hc] at hy; exact ⟨cs, y, rfl, hy⟩
    by_cases hc0 : cap = 0
    · have hl0 : len = 0 := by omega
      subst hl0
      obtain ⟨e', m2, q1, q2, q3, q4, q5, q6⟩ := hl.view (cb := a.block) none (fun q h => by cases h)
      refine ⟨e', m2, [.sl m.nxt a.off 0 0 (some cap)], ([] : List α), q1, q2, q3, .cons ⟨a.block, a.spot, q5, rfl, Nat.zero_le _, hcm, .inr hc0⟩ .nil, ⟨_, rfl, [], ⟨by simp, .inr ⟨m.nxt, a.off, 0, some cap, rfl, by omega, fun h => absurd rfl h⟩⟩, rfl, .inr (.inl ⟨_, _, _, _, rfl, Nat.zero_le _⟩)⟩, Nat.zero_le _, by simp⟩
    · have hfirst : ∃ v, W.cell? a = some v := by
        obtain ⟨cs, y, h4, _⟩ := hany 0 (by omega)
        obtain ⟨l1, l2⟩ := cells?_at h4
        have := l2 0 hpos
        rw [List.getElem?_eq_getElem (by omega), Nat.zero_mul] at this
        exact ⟨_, this⟩
      obtain ⟨v, hv⟩ := hfirst
      unfold World.cell? at hv
      cases hb : W.heap[a.block]? with
      | none => rw [hb] at hv; cases hv
      | some ob =>
        rw [hb] at hv
        cases ob with
        | cells c tt fr =>
          have hsp : a.spot = none := by
            cases hq : a.spot with
            | none => rfl
            | some z => rw [hq] at hv; cases hv
          obtain ⟨b, o, sp⟩ := a
          have : sp = none := hsp
          subst this
          obtain ⟨e1, m1, vs, l, q1, q2, q3, q4, q5, q6, q7, q8, q9⟩ := open_els h (o := o) hb len (fun i hi => by
            obtain ⟨cs, y, h4, h5⟩ := hany i (by omega)
            exact ⟨cs, y, h4, h5⟩) en m hl
          obtain ⟨e', m2, r1, r2, r3, r4, r5, r6⟩ := q3.view (cb := b) (if len = 0 then none else some (o, vs)) (fun q' hq' => by
            by_cases hl0 : len = 0
            · rw [if_pos hl0] at hq'; cases hq'
            · rw [if_neg hl0] at hq'
              cases hq'
              refine ⟨c, tt, fr, hb, ?_, by rw [q8]; exact q4⟩
              show o + vs.length ≤ c.size
              rw [q8]; exact q9 (by omega))
          have hll : l.length = len := q6
          refine ⟨e', m2, [.sl m1.nxt o len 0 (some cap)], l, q1.trans r1, q2.trans r2, r3, .cons ⟨b, none, r5, rfl, hlc, hcm, .inl rfl⟩ .nil, ⟨_, rfl, vs, ⟨by rw [q8, hll], .inr ⟨m1.nxt, o, 0, some cap, by rw [hll], by omega, fun hne => .inr ⟨r3.g _, (o, vs), ?_, Nat.le_refl _, ?_, ?_⟩⟩⟩, Cat.subv r2 q5, .inr (.inl ⟨_, _, _, _, by rw [hll], by rw [hll]; exact hlc⟩)⟩, ?_, q7⟩
          · rw [r6, if_neg (by rw [← hll]; exact hne)]
          · show o - o + vs.length ≤ vs.length
            omega
          · show (vs.drop (o - o)).take vs.length = vs
            rw [Nat.sub_self, List.drop_zero, List.take_of_length_le (Nat.le_refl _)]
          · rw [hll]; omega
        | _ => cases hv
/-- the fields of a structure -/
def fieldsOf (P : Program) (t : TypeId) : Array Field := match P.underlying t with | some (.struct fs) => fs | _ => #[]
/-- fields (type and place), one after the other -/
def OpensFs (P : Program) (fs : List (TypeId × Nat)) (o : Nat) (n : Nat) (R : M → List C → Prop) : Prop :=
  ∀ (H : Type) (enc : TypeId × Value → H) (W : World) (held : Bool) (fu : Nat) (cs : List Value), (∀ f ∈ fs, ∃ x, DataW.trod enc P W 0 (fun _ => true) held fu f.1 ((cs.drop f.2).take (P.cellsOf f.1)) = some x) →
    ∀ (e : Env) (m : M), Lay W e m → ∃ e' m' vs, e.le e' ∧ SubV m m' ∧ Lay W e' m' ∧ All2 (CR e') vs ((cs.drop o).take n) ∧ R m' vs
theorem opensFs_nil {o : Nat} : OpensFs P [] o 0 (fun _ vs => vs = []) := fun H enc W held fu cs _ e m hl => ⟨e, m, [], .refl _, .refl _, hl, by simp; exact .nil, rfl⟩
theorem opensFs_cons {ft : TypeId} {fs : List (TypeId × Nat)} {o n k : Nat} {ok : α → Prop} {R : M → List C → Prop} (h : Opens P ft α ok) (hk : P.cellsOf ft = k) (hk' : Rp.k α = k) (h2 : OpensFs P fs (o + k) n R) :
    OpensFs P ((ft, o) :: fs) o (k + n) (fun m vs => ∃ a c r m0, vs = c ++ r ∧ Rp.rep m c (a : α) ∧ ok a ∧ SubV m0 m ∧ R m r) := fun H enc W held fu cs hf e m hl => by
  obtain ⟨x, hx⟩ := hf (ft, o) (List.mem_cons_self ..)
  obtain ⟨e1, m1, c, a, q1, q2, q3, q4, q5, q6⟩ := h H enc W held fu _ x hx e m hl
  obtain ⟨e2, m2, r, s1, s2, s3, s4, s5⟩ := h2 H enc W held fu cs (fun g hg => hf g (List.mem_cons_of_mem _ hg)) e1 m1 q3
  refine ⟨e2, m2, c ++ r, q1.trans s1, q2.trans s2, s3, ?_, a, c, r, m1, rfl, Rp.subv q5 s2, q6, s2, s5⟩
  rw [show P.cellsOf ((ft, o) : TypeId × Nat).1 = k from hk] at q4
  rw [List.take_add, List.drop_drop]
  exact (q4.mono fun _ _ => CR.mono s1).app s4
theorem opens_struct {t : TypeId} {fs : List (TypeId × Nat)} {n : Nat} {R : M → List C → Prop} {ok : β → Prop} (hu : P.underlying t = some (.struct (fieldsOf P t))) (hfs : (fieldsOf P t).toList.map (fun f => (f.type, f.offset)) = fs) (h : OpensFs P fs 0 n R) (hn : P.cellsOf t = n) (hR : ∀ m vs, R m vs → ∃ b : β, Rp.rep m vs b ∧ ok b) : Opens P t β ok := fun H enc W held nn cs x hx e m hl => by
  obtain ⟨ys, m', rfl, _, hl', hyl, hf⟩ := DataW.trod_struct hu hx
  obtain ⟨e', m2, vs, q1, q2, q3, q4, q5⟩ := h H enc W held m' cs (fun g hg => by
    rw [← hfs] at hg
    obtain ⟨f, hf', rfl⟩ := List.mem_map.1 hg
    obtain ⟨i, hi⟩ := List.mem_iff_getElem?.1 hf'
    have hi' : (fieldsOf P t)[i]? = some f := by simpa using hi
    have h3 := hf i f hi'
    have hlt : i < ys.length := by rw [hyl]; exact (Array.getElem?_eq_some_iff.1 hi').1
    rw [List.getElem?_eq_getElem hlt] at h3
    exact ⟨_, h3⟩) e m hl
  obtain ⟨b, r1, r2⟩ := hR _ _ q5
  refine ⟨e', m2, vs, b, q1, q2, q3, ?_, r1, r2⟩
  rw [List.drop_zero, List.take_of_length_le (by omega)] at q4
  exact q4
/-- after a call nothing of before is changed -/
theorem Lay.below {W W' : World} {e : Env} {m : M} (h : Lay W e m) {e' : Env} {h' : H} (hs : Step e (toH m) W e' h' W') : RowKit.Below W.heap.size W W' :=
  ⟨hs.os, hs.tape, hs.output, hs.size, fun k hk => hs.keep k hk fun b o hb => by
    have hb : m.g b = some o := hb
    rw [h.g b] at hb; cases hb⟩
theorem Lay.kept {W W' : World} {e : Env} {m : M} (h : Lay W e m) {e' : Env} {h' : H} (hs : Step e (toH m) W e' h' W') (may : MemPlace → Prop) : W.keptBut W' may := by
  refine ⟨hs.os, hs.output, fun i hi => ?_⟩
  rw [hs.keep i hi (fun b o hb => by
    have hb : m.g b = some o := hb
    rw [h.g b] at hb; cases hb)]
  cases W.heap[i]? with
  | none => rfl
  | some o => cases o <;> first | exact ⟨rfl, rfl, rfl, fun _ _ => rfl⟩ | exact Or.inr ⟨rfl, rfl⟩ | rfl
end
end Go.Abs

namespace Go.Proofs.Ytbhdgedghfibcaa
open _root_.Go.Proofs.Try
open Go.ChangeShapes Go.WideShapes Go.ChangeAt Go.RowKit Go.Abs
set_option maxRecDepth 100000
theorem op3 : Opens prog 3 Int (fitsP .i64) := opens_int (by kernel_rfl)
theorem op4 : Opens prog 4 Bool (fun _ => True) := opens_bool (by kernel_rfl)
theorem op73 : Opens prog 73 (List Int) (fun l => l.length ≤ maxLen ∧ ∀ a0 ∈ l, fitsP .i64 a0) := opens_slice (by kernel_rfl) (by kernel_rfl) op3
theorem op77 : Opens prog 77 (List (List Int)) (fun l => l.length ≤ maxLen ∧ ∀ a0 ∈ l, a0.length ≤ maxLen ∧ ∀ a1 ∈ a0, fitsP .i64 a1) := opens_slice (by kernel_rfl) (by kernel_rfl) op73
theorem op74 : Opens prog 74 (List (List (List Int))) (fun l => l.length ≤ maxLen ∧ ∀ a0 ∈ l, a0.length ≤ maxLen ∧ ∀ a1 ∈ a0, a1.length ≤ maxLen ∧ ∀ a2 ∈ a1, fitsP .i64 a2) := opens_slice (by kernel_rfl) (by kernel_rfl) op77
theorem op84 : Opens prog 84 Tf ok_Tf := opens_struct (fs := [(3, 0), (4, 1), (3, 2), (73, 3), (73, 4), (74, 5)]) (by kernel_rfl) (by kernel_rfl) (opensFs_cons (α := Int) (ok := fitsP .i64) (k := 1) op3 (by kernel_rfl) rfl (opensFs_cons (α := Bool) (ok := (fun _ => True)) (k := 1) op4 (by kernel_rfl) rfl (opensFs_cons (α := Int) (ok := fitsP .i64) (k := 1) op3 (by kernel_rfl) rfl (opensFs_cons (α := List Int) (ok := (fun l => l.length ≤ maxLen ∧ ∀ a0 ∈ l, fitsP .i64 a0)) (k := 1) op73 (by kernel_rfl) rfl (opensFs_cons (α := List Int) (ok := (fun l => l.length ≤ maxLen ∧ ∀ a0 ∈ l, fitsP .i64 a0)) (k := 1) op73 (by kernel_rfl) rfl (opensFs_cons (α := List (List (List Int))) (ok := (fun l => l.length ≤ maxLen ∧ ∀ a0 ∈ l, a0.length ≤ maxLen ∧ ∀ a1 ∈ a0, a1.length ≤ maxLen ∧ ∀ a2 ∈ a1, fitsP .i64 a2)) (k := 1) op74 (by kernel_rfl) rfl opensFs_nil)))))) (by kernel_rfl) fun m vs h => by
  obtain ⟨a0, c0, r0, m0, h0, p0, k0, s0, ⟨a1, c1, r1, m1, h1, p1, k1, s1, ⟨a2, c2, r2, m2, h2, p2, k2, s2, ⟨a3, c3, r3, m3, h3, p3, k3, s3, ⟨a4, c4, r4, m4, h4, p4, k4, s4, ⟨a5, c5, r5, m5, h5, p5, k5, s5, rfl⟩⟩⟩⟩⟩⟩ := h
  have p0 : c0 = [.int .i64 a0] := p0; subst p0
  have p1 : c1 = [.bool a1] := p1; subst p1
  have p2 : c2 = [.int .i64 a2] := p2; subst p2
  obtain ⟨d3, rfl, p3⟩ := p3
  obtain ⟨d4, rfl, p4⟩ := p4
  obtain ⟨d5, rfl, p5⟩ := p5
  subst h5 h4 h3 h2 h1 h0
  exact ⟨⟨a0, a1, a2, a3, a4, a5⟩, ⟨_, _, _, rfl, p3, p4, p5⟩, ⟨k0, k1, k2, k3, k4, k5⟩⟩
theorem op22 : Opens prog 22 (List Tf) (fun l => l.length ≤ maxLen ∧ ∀ a0 ∈ l, ok_Tf a0) := opens_slice (by kernel_rfl) (by kernel_rfl) op84
theorem op37 : Opens prog 37 Rg ok_Rg := opens_struct (fs := [(3, 0), (3, 1)]) (by kernel_rfl) (by kernel_rfl) (opensFs_cons (α := Int) (ok := fitsP .i64) (k := 1) op3 (by kernel_rfl) rfl (opensFs_cons (α := Int) (ok := fitsP .i64) (k := 1) op3 (by kernel_rfl) rfl opensFs_nil)) (by kernel_rfl) fun m vs h => by
  obtain ⟨a0, c0, r0, m0, h0, p0, k0, s0, ⟨a1, c1, r1, m1, h1, p1, k1, s1, rfl⟩⟩ := h
  have p0 : c0 = [.int .i64 a0] := p0; subst p0
  have p1 : c1 = [.int .i64 a1] := p1; subst p1
  subst h1 h0
  exact ⟨⟨a0, a1⟩, rfl, ⟨k0, k1⟩⟩
theorem op39 : Opens prog 39 Clm ok_Clm := opens_struct (fs := [(3, 0), (3, 1), (37, 2), (37, 4)]) (by kernel_rfl) (by kernel_rfl) (opensFs_cons (α := Int) (ok := fitsP .i64) (k := 1) op3 (by kernel_rfl) rfl (opensFs_cons (α := Int) (ok := fitsP .i64) (k := 1) op3 (by kernel_rfl) rfl (opensFs_cons (α := Rg) (ok := ok_Rg) (k := 2) op37 (by kernel_rfl) rfl (opensFs_cons (α := Rg) (ok := ok_Rg) (k := 2) op37 (by kernel_rfl) rfl opensFs_nil)))) (by kernel_rfl) fun m vs h => by
  obtain ⟨a0, c0, r0, m0, h0, p0, k0, s0, ⟨a1, c1, r1, m1, h1, p1, k1, s1, ⟨a2, c2, r2, m2, h2, p2, k2, s2, ⟨a3, c3, r3, m3, h3, p3, k3, s3, rfl⟩⟩⟩⟩ := h
  have p0 : c0 = [.int .i64 a0] := p0; subst p0
  have p1 : c1 = [.int .i64 a1] := p1; subst p1
  have p2 : c2 = [.int .i64 a2.Lo, .int .i64 a2.Hi] := p2; subst p2
  have p3 : c3 = [.int .i64 a3.Lo, .int .i64 a3.Hi] := p3; subst p3
  subst h3 h2 h1 h0
  exact ⟨⟨a0, a1, a2, a3⟩, rfl, ⟨k0, k1, k2, k3⟩⟩
theorem laid : laidOutB prog = true := by kernel_rfl
theorem ownNone : ownKnob prog.godebug = none := by kernel_rfl
theorem TariffTruth_lifted (os : Os) (started : os.Started) (H : Type) (enc : TypeId × Value → H) :
    ReturnsInHanded {} Try.checked os 8 .any (Rows.tariffTruthSpec.pre6 enc Try.prog Try.f8 Rows.tariffTruthRow.domain false) (Rows.tariffTruthSpec.post enc Try.prog Try.f8 false true false false) := by
  refine returnsInHanded_of_change (C := Try.checked) ownNone started (by kernel_rfl) Try.func8
    (ChangeSpec.witness6 (enc := enc) (C := Try.checked) false ⟨#[], #[.slice none 0 0, .agg #[.int .i64 0, .int .i64 0, .int .i64 0, .int .i64 0, .int .i64 0, .int .i64 0], .int .u8 0, .int .u8 0], []⟩ 8 (by kernel_rfl) (by kernel_rfl) (by kernel_rfl) (by kernel_rfl)) ?_
  intro W base args ds gs before hval0 hW hcnd _
  have hval : ∀ (j : Nat) t v, Try.f8.params[j]? = some t → args[j]? = some v → Value.okWide Try.prog W .any base t v := hval0
  have hW' := hW
  obtain ⟨p, q, hA0, hV, rfl, hfz, hnd⟩ := hW
  have hA : DataW.TrodAll enc Try.prog W 0 (fun _ => true) true Try.f8.params.toList args.toList ds p := hA0
  rw [Try.params8] at hA hval
  obtain ⟨v0, v1, v2, v3, d0, d1, d2, d3, p0, p1, p2, p3, rfl, rfl, rfl, h0, h1, h2, h3⟩ := trodAll_four hA
  obtain ⟨rfl, rfl⟩ := trodVars_none hV
  obtain ⟨a0, len0, cap0, hv0⟩ := okWide_slice Try.underlying22 (hval 0 22 v0 rfl rfl)
  obtain ⟨n2, hv2⟩ := okWide_int Try.underlying5 (hval 2 5 v2 rfl rfl)
  obtain ⟨n3, hv3⟩ := okWide_int Try.underlying5 (hval 3 5 v3 rfl rfl)
  have hlt : ∀ x ∈ p0 ++ p1 ++ p2 ++ p3, x.block < W.heap.size := fun x hx => by simpa using hW'.lt x (by simpa using hx)
  obtain ⟨fu0, hf0⟩ := id h0
  obtain ⟨fu1, hf1⟩ := id h1
  obtain ⟨fu2, hf2⟩ := id h2
  obtain ⟨fu3, hf3⟩ := id h3
  clear hA0 hval0
  obtain ⟨e0, m0, w0, a_0, le0, sv0, lay0, cr0, rep0, ok0⟩ := op22 H enc W true _ _ _ hf0 _ _ (Lay.nil W)
  obtain ⟨e1, m1, w1, a_1, le1, sv1, lay1, cr1, rep1, ok1⟩ := op39 H enc W true _ _ _ hf1 e0 m0 lay0
  obtain ⟨i2, hc2, _, hw2⟩ := DataW.trod_int Try.underlying5 hf2
  obtain ⟨i3, hc3, _, hw3⟩ := DataW.trod_int Try.underlying5 hf3
  subst hv0
  obtain ⟨c0, rfl, rep0⟩ := rep0
  have cv0 : CR e1 c0 (.slice a0 len0 cap0) := by
    cases cr0 with
    | cons h _ => exact CR.mono le1 h
  have rep1 : w1 = [.int .i64 a_1.Crop, .int .i64 a_1.Value, .int .i64 a_1.Day.Lo, .int .i64 a_1.Day.Hi, .int .i64 a_1.Count.Lo, .int .i64 a_1.Count.Hi] := rep1
  subst rep1
  obtain ⟨cs1, hv1, cl1⟩ : ∃ cs, v1 = .agg cs ∧ v1.cells.toList = cs.toList := by
    have hl := cr1.length
    cases v1 with
    | agg cs => exact ⟨cs, rfl, rfl⟩
    | _ => exact absurd hl (by simp [Value.cells])
  subst hv1
  subst hv2
  have hi2 : i2 = n2 := by
    have h : [Value.int .u8 n2] = [.int .u8 i2] := hc2
    cases h; rfl
  subst hi2
  subst hv3
  have hi3 : i3 = n3 := by
    have h : [Value.int .u8 n3] = [.int .u8 i3] := hc3
    cases h; rfl
  subst hi3
  have hargs : All2 (VR e1) [.c c0, .agg 6 [.int .i64 a_1.Crop, .int .i64 a_1.Value, .int .i64 a_1.Day.Lo, .int .i64 a_1.Day.Hi, .int .i64 a_1.Count.Lo, .int .i64 a_1.Count.Hi], .c (.int .u8 i2), .c (.int .u8 i3)] [.slice a0 len0 cap0, .agg cs1, .int .u8 i2, .int .u8 i3] := .cons cv0 (.cons ⟨cs1, rfl, cr1, rfl⟩ (.cons rfl (.cons rfl .nil)))
  refine (callsIn_wide.1 (call_of fits htab (s_TariffTruth (l := a_0) (c := a_1) (day := i2) (count := i3) lay1.pre (rep0.subv sv1) (m_TariffTruth ok0 ok1 (wf_fits hw2) (wf_fits hw3)) (Q := fun v _ => v = .c (.bool true)) fun _ _ => rfl) lay1.hr (args' := #[.slice a0 len0 cap0, .agg cs1, .int .u8 i2, .int .u8 i3]) hargs 0)).mono fun en W' hp => ?_
  obtain ⟨v, v', e', m', rfl, hst, hvr, rfl⟩ := hp
  have hv' : v' = .bool true := hvr
  subst hv'
  have hbelow := lay1.below hst
  refine ⟨_, rfl, [d0, d1, d2, d3], [], p0 ++ p1 ++ p2 ++ p3, [], p0 ++ (p1 ++ (p2 ++ p3)), [], by simpa using hW', trodAll_mk1 (shut_bool Try.underlying4 _),
    trodAll_mk4 (Below.trod laid (by kernel_rfl) (of_decide_eq_true (by kernel_rfl)) h0 hbelow fun x hx => hlt x (by simp [hx])) (Below.trod laid (by kernel_rfl) (of_decide_eq_true (by kernel_rfl)) h1 hbelow fun x hx => hlt x (by simp [hx])) (Below.trod laid (by kernel_rfl) (of_decide_eq_true (by kernel_rfl)) h2 hbelow fun x hx => hlt x (by simp [hx])) (Below.trod laid (by kernel_rfl) (of_decide_eq_true (by kernel_rfl)) h3 hbelow fun x hx => hlt x (by simp [hx])), rfl, lay1.kept hst _, fun hc => by cases hc⟩
theorem TariffTruth_holds : Rows.TariffTruthSaid :=
  OpenClaim.holds_of_wide 8 Try.f8 rfl rfl rfl rfl rfl rfl rfl ⟨rfl, rfl, rfl, rfl, rfl⟩ rfl rfl rfl rfl rfl (by kernel_rfl) Try.func8 (by kernel_rfl)
    (of_decide_eq_true (by kernel_rfl)) (by unfold Func.isWrapper; first | (rw [if_pos (by decide +kernel)]; kernel_rfl) | (rw [if_neg (by decide +kernel)]; exact ⟨rfl, rfl⟩))
    (fun os started H enc _ => TariffTruth_lifted os started H enc)
end Go.Proofs.Ytbhdgedghfibcaa

