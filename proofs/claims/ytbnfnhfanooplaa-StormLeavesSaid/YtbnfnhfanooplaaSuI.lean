/- StormLeaves, for all that it can be called with, returns true. Condition: none. -/
import Derived.Test.YtbnfnhfanooplaaSuH
import GoSem.Step
import GoSem.ClaimKeys
import Derived.DeepKeys2
import Derived.RangeFuncLeaves
import Derived.OrdersIn
import Derived.Laws.World
import Derived.Laws.Sem
import Derived.RangeFuncRecord
import Derived.Laws.CopyRow
import Derived.Laws.Append
import Derived.Laws.Rows
import Derived.Laws.Slices
import Derived.Laws.Entries
import Derived.ChangeKeysEq
import Derived.IntWalk
import Derived.DeepKeys
import Derived.DeepKeys3
import Derived.Laws.StructEq
import Derived.MapKept
import Derived.Laws.AppendOwn
import Derived.ChangeArms
import Derived.ChangeOld
import Derived.Carry
import Derived.ChangeShapes
import Derived.KernelRfl
import Derived.ProofKit
import Derived.Test.YtbnfnhfanooplaaRows

namespace Go.Proofs.Ytbnfnhfanooplaa
open _root_.Go.Proofs.Try
open Go.Abs Go.Abs.Grow
set_option maxRecDepth 100000
noncomputable section
def mkC (S : Nat → Bool) : Cds := ⟨S 0, S 1, S 2, S 3, S 4, S 5⟩
def upd (S : Nat → Bool) (x : Int) (v : Bool) : Nat → Bool := fun j => sti x j v (S j)
theorem mkC_congr {S S' : Nat → Bool} (h : ∀ j, j < 6 → S j = S' j) : mkC S = mkC S' := by
 unfold mkC
 rw [h 0 (by omega), h 1 (by omega), h 2 (by omega), h 3 (by omega), h 4 (by omega), h 5 (by omega)]
theorem upd_nat {S : Nat → Bool} {k : Nat} {v : Bool} (j : Nat) : upd S (k : Int) v j = if k = j then v else S j := by
 unfold upd sti
 by_cases h : k = j
 ·rw [if_pos (by omega), if_pos h]
 ·rw [if_neg (by omega), if_neg h]
def eqC (a b : Cds) : Bool := (a.c0 == b.c0) && ((a.c1 == b.c1) && ((a.c2 == b.c2) && ((a.c3 == b.c3) && ((a.c4 == b.c4) && (a.c5 == b.c5)))))
theorem eqC_mk {S S' : Nat → Bool} : eqC (mkC S) (mkC S') = true ↔ ∀ j, j < 6 → S j = S' j := by
 unfold eqC mkC
 simp only [Bool.and_eq_true, beq_iff_eq]
 constructor
 ·rintro ⟨a, b, c, d, e, f⟩ j hj
  match j, hj with
  | 0, _ => exact a
  | 1, _ => exact b
  | 2, _ => exact c
  | 3, _ => exact d
  | 4, _ => exact e
  | 5, _ => exact f
 ·intro h
  exact ⟨h 0 (by omega), h 1 (by omega), h 2 (by omega), h 3 (by omega), h 4 (by omega), h 5 (by omega)⟩
theorem idx6 {S : Nat → Bool} {k : Nat} (h : k < 6) : idx ([S 0, S 1, S 2, S 3, S 4, S 5] : List Bool) (k : Int) = some (S k) := by
 rw [idx_nat]
 match k, h with
 | 0, _ => rfl
 | 1, _ => rfl
 | 2, _ => rfl
 | 3, _ => rfl
 | 4, _ => rfl
 | 5, _ => rfl
theorem upTo_go {n : Nat} (hn : n ≤ 6) {last : Int} (hl : last + 1 = n) : ∀ (d k : Nat) (S : Nat → Bool), k ≤ n → n - k < d → pupTo_L0 last d (S 0) (S 1) (S 2) (S 3) (S 4) (S 5) (k : Int) = some (mkC fun j => (decide (k ≤ j) && decide (j < n)) || S j)
 | 0, _, _, _, h => by omega
 | d + 1, k, S, hk, hd => by
  unfold pupTo_L0
  by_cases hkn : k = n
  ·rw [if_neg (by omega)]
   refine congrArg some (mkC_congr (S := S) fun j _ => ?_)
   have : (decide (k ≤ j) && decide (j < n)) = false := by
    by_cases h9 : k ≤ j
    ·rw [decide_eq_false (show ¬ j < n by omega)]; simp
    ·rw [decide_eq_false h9]; rfl
   rw [this]; rfl
  ·rw [if_pos (by omega), gd_pos (by omega), gd_pos (fI (by omega)), show (k : Int) + 1 = ((k + 1 : Nat) : Int) by omega]
   refine (upTo_go hn hl d (k + 1) (upd S (k : Int) true) (by omega) (by omega)).trans (congrArg some (mkC_congr fun j _ => ?_))
   rw [upd_nat]
   by_cases h9 : k = j
   ·subst h9
    rw [if_pos rfl, decide_eq_true (Nat.le_refl k), decide_eq_true (show k < n by omega)]; simp
   ·rw [if_neg h9, show decide (k + 1 ≤ j) = decide (k ≤ j) from decide_eq_decide.2 (by omega)]
theorem upTo_eq {n : Nat} (hn : n ≤ 6) {last : Int} (hl : last + 1 = n) : pupTo last = some (mkC fun j => decide (j < n)) := by
 unfold pupTo
 rw [gd_pos (fI (by omega))]
 have := upTo_go hn hl ((last + 1).toNat + 1) 0 (fun _ => false) (Nat.zero_le _) (by omega)
 refine Eq.trans this (congrArg some (mkC_congr fun j _ => ?_))
 simp
theorem allCards_eq {W : Wk} (h : W.s.Cards.length ≤ 6) : pallCards W = some (mkC fun j => decide (j < W.s.Cards.length)) := by
 unfold pallCards
 rw [gd_pos (fI (by omega)), upTo_eq h (by omega), obs]
theorem among_go {C S0 : Nat → Bool} : ∀ (d k : Nat) (S : Nat → Bool), k ≤ 6 → 6 - k < d → (∀ j, j < 6 → S j = if j < k then (S0 j && C j) else S0 j) → pamong_L0 (mkC C) d (S 0) (S 1) (S 2) (S 3) (S 4) (S 5) (k : Int) = some (mkC fun j => S0 j && C j)
 | 0, _, _, _, h, _ => by omega
 | d + 1, k, S, hk, hd, hS => by
  unfold pamong_L0
  by_cases hkn : k = 6
  ·rw [if_neg (by omega)]
   exact congrArg some (mkC_congr (S := S) fun j hj => by rw [hS j hj, if_pos (by omega)])
  ·rw [if_pos (by omega), idx6 (by omega), obs]
   have hSk := hS k (by omega)
   rw [if_neg (Nat.lt_irrefl k)] at hSk
   have nx : ∀ v, v = (S0 k && C k) → ∀ j, j < 6 → upd S (k : Int) v j = if j < k + 1 then (S0 j && C j) else S0 j := fun v hv j hj => by
    rw [upd_nat]
    by_cases h9 : k = j
    ·subst h9; rw [if_pos rfl, if_pos (by omega)]; exact hv
    ·rw [if_neg h9, hS j hj]
     by_cases h8 : j < k
     ·rw [if_pos h8, if_pos (by omega)]
     ·rw [if_neg h8, if_neg (by omega)]
   by_cases hs : S k = true
   ·rw [if_pos hs]
    have e : idx ([(mkC C).c0, (mkC C).c1, (mkC C).c2, (mkC C).c3, (mkC C).c4, (mkC C).c5] : List Bool) (k : Int) = some (C k) := idx6 (S := C) (by omega)
    rw [e, obs, gd_pos (by omega), gd_pos (fI (by omega)), show (k : Int) + 1 = ((k + 1 : Nat) : Int) by omega]
    exact among_go d (k + 1) (upd S (k : Int) (C k)) (by omega) (by omega) (nx _ (by rw [← hSk, hs]; rfl))
   ·rw [if_neg hs, gd_pos (by omega), gd_pos (fI (by omega)), show (k : Int) + 1 = ((k + 1 : Nat) : Int) by omega]
    exact among_go d (k + 1) (upd S (k : Int) false) (by omega) (by omega) (nx _ (by rw [← hSk]; simp at hs; rw [hs]; rfl))
theorem among_eq {C S : Nat → Bool} : pamong (mkC C) (mkC S) = some (mkC fun j => S j && C j) := by
 unfold pamong
 exact among_go _ 0 S (by omega) (by decide) fun j _ => by rw [if_neg (by omega)]
open Classical in
def SB (s : Stm) (t : Trh) (j : Nat) : Bool := decide (∃ c, s.Cards[j]? = some c ∧ RT s t c)
open Classical in
theorem SB_iff {s : Stm} {t : Trh} {j : Nat} : SB s t j = true ↔ ∃ c, s.Cards[j]? = some c ∧ RT s t c := by unfold SB; exact decide_eq_true_iff
theorem SB_out {s : Stm} {t : Trh} {j : Nat} (h : s.Cards.length ≤ j) : SB s t j = false := by
 cases hb : SB s t j with
 | false => rfl
 | true =>
  obtain ⟨c, hc, _⟩ := SB_iff.1 hb
  have := (List.getElem?_eq_some_iff.1 hc).1
  omega
theorem rightCards_eq {W : Wk} {s : Stm} (hs : W.s = s) (h : VS0 s) (hm : ¬ ManyS s) {t : Trh} (ht : isT s t) : prightCards W t = some (mkC (SB s t)) := by
 obtain ⟨_, _, h3⟩ := not_many hm
 have go : ∀ (d k : Nat) (S : Nat → Bool), k ≤ s.Cards.length → s.Cards.length - k < d → (∀ j, S j = if j < k then SB s t j else false) → prightCards_L0 W t d (S 0) (S 1) (S 2) (S 3) (S 4) (S 5) (k : Int) = some (mkC (SB s t)) := by
  intro d
  induction d with
  | zero => intro k S _ h; omega
  | succ d ih =>
   intro k S hk hd hS
   unfold prightCards_L0
   rw [hs]
   by_cases hkn : k = s.Cards.length
   ·rw [if_neg (by omega)]
    refine congrArg some (mkC_congr (S := S) fun j hj => ?_)
    rw [hS j]
    by_cases h9 : j < k
    ·rw [if_pos h9]
    ·rw [if_neg h9, SB_out (by omega)]
   ·have hlt : k < s.Cards.length := by omega
    have hg := List.getElem?_eq_getElem hlt
    have hc := h.cards _ (List.getElem_mem hlt)
    generalize s.Cards[k] = c at hg hc
    obtain ⟨b, b1, b2⟩ := isRight_ev h hm ht hc
    have hb : b = SB s t k := by
     rw [Bool.eq_iff_iff, b2, SB_iff]
     exact ⟨fun q => ⟨c, hg, q⟩, fun ⟨c', q1, q2⟩ => by rw [hg] at q1; cases q1; exact q2⟩
    rw [if_pos (by omega), idx_at hg, obs, b1, obs, gd_pos (by omega), gd_pos (fI (by omega)), show (k : Int) + 1 = ((k + 1 : Nat) : Int) by omega]
    refine ih (k + 1) (upd S (k : Int) b) (by omega) (by omega) fun j => ?_
    rw [upd_nat]
    by_cases h9 : k = j
    ·subst h9; rw [if_pos rfl, if_pos (by omega)]; exact hb
    ·rw [if_neg h9, hS j]
     by_cases h8 : j < k
     ·rw [if_pos h8, if_pos (by omega)]
     ·rw [if_neg h8, if_neg (by omega)]
 unfold prightCards
 rw [hs]
 exact go _ 0 (fun _ => false) (Nat.zero_le _) (by omega) fun j => by rw [if_neg (by omega)]
structure WOk (s : Stm) (W : Wk) : Prop where
 v0 : VS0 s
 many : ¬ ManyS s
 ss : W.s = s
 m : ∀ t, isT s t → mget W.right t = some (mkC (SB s t))
theorem isT.fit {s : Stm} {t : Trh} (ht : isT s t) (h : VS0 s) (hm : ¬ ManyS s) : MK.fit t := by
 obtain ⟨_, hh, _⟩ := not_many hm
 obtain ⟨a, b, c, d⟩ := ht.rng h
 exact ⟨fI (by omega), fI (by omega), fI (by omega), fI (by omega), trivial⟩
open Classical in
theorem open_L0 {s : Stm} (h : VS0 s) (hm : ¬ ManyS s) : ∀ (l : List Trh) (D : Trh → Prop) (m : Trh → Option Cds), (∀ t ∈ l, isT s t) → (∀ t, D t → m t = some (mkC (SB s t))) →
  ∃ g, popen_L0 s l (some m) = some ⟨s, some g⟩ ∧ ∀ t, (D t ∨ t ∈ l) → g t = some (mkC (SB s t))
 | [], D, m, _, hD => ⟨m, rfl, fun t ht => ht.elim (hD t) fun h => by cases h⟩
 | t :: l, D, m, hl, hD => by
  have ht := hl t (List.mem_cons_self ..)
  unfold popen_L0
  rw [rightCards_eq (s := s) rfl h hm ht, obs, gd_pos (ht.fit h hm), show mset (some m) t (mkC (SB s t)) = some (some fun k => if k = t then some (mkC (SB s t)) else m k) from rfl, obs]
  obtain ⟨g, g1, g2⟩ := open_L0 h hm l (fun x => D x ∨ x = t) (fun k => if k = t then some (mkC (SB s t)) else m k) (fun x hx => hl x (List.mem_cons_of_mem _ hx)) fun x hx => by
   by_cases h9 : x = t
   ·rw [if_pos h9, h9]
   ·rw [if_neg h9]; exact hD x (hx.elim id fun q => absurd q h9)
  refine ⟨g, g1, fun x hx => g2 x ?_⟩
  rcases hx with hx | hx
  ·exact .inl (.inl hx)
  ·rcases List.mem_cons.1 hx with h9 | h9
   ·exact .inl (.inr h9)
   ·exact .inr h9
theorem open_eq {s : Stm} (h : VS s) : ∃ W, popen s = some W ∧ WOk s W := by
 obtain ⟨g, g1, g2⟩ := open_L0 h.toVS0 h.many (chL s) (fun _ => False) (fun _ => none) (fun t ht => (mem_chL h.toVS0).1 ht) fun _ h => h.elim
 refine ⟨⟨s, some g⟩, ?_, h.toVS0, h.many, rfl, fun t ht => g2 t (.inr ((mem_chL h.toVS0).2 ht))⟩
 unfold popen
 rw [choices_eq h.toVS0 h.many, obs]
 exact g1
theorem hold_iff {s : Stm} {t : Trh} {S : Nat → Bool} (hn : s.Cards.length ≤ 6) (hS : ∀ j, S j = true → j < s.Cards.length) : (∀ j, j < 6 → (S j && SB s t j) = S j) ↔ ∀ j, S j = true → ∀ c, s.Cards[j]? = some c → RT s t c := by
 constructor
 ·intro h j hj c hc
  have hjl := hS j hj
  have := h j (by omega)
  rw [hj, Bool.true_and] at this
  obtain ⟨c', q1, q2⟩ := SB_iff.1 this
  rw [hc] at q1; cases q1; exact q2
 ·intro h j hj
  cases hs : S j with
  | false => rfl
  | true =>
   have hjl := hS j hs
   rw [SB_iff.2 ⟨_, List.getElem?_eq_getElem hjl, h j hs _ (List.getElem?_eq_getElem hjl)⟩]; rfl
theorem canHold_ev {s : Stm} {W : Wk} (h : WOk s W) {S : Nat → Bool} (hS : ∀ j, S j = true → j < s.Cards.length) : Ev (pcanHold W (mkC S)) (CanS s S) := by
 obtain ⟨_, _, h3⟩ := not_many h.many
 have go : ∀ (l : List Trh) (b : Bool), (∀ t ∈ l, isT s t) → Ev (pcanHold_L0 W (mkC S) l b) (∃ t ∈ l, ∀ j, S j = true → ∀ c, s.Cards[j]? = some c → RT s t c) := by
  intro l
  induction l with
  | nil => intro b _; unfold pcanHold_L0; exact Ev.ff fun ⟨t, ht, _⟩ => by cases ht
  | cons t l ih =>
   intro b hl
   have ht := hl t (List.mem_cons_self ..)
   unfold pcanHold_L0
   rw [gd_pos (ht.fit h.v0 h.many), mcase_some (h.m t ht), among_eq, obs]
   have heq := (eqC_mk (S := fun j => S j && SB s t j) (S' := S)).trans (hold_iff (t := t) h3 hS)
   show Ev (ite (eqC (mkC fun j => S j && SB s t j) (mkC S) = true) _ _) _
   by_cases hh : ∀ j, S j = true → ∀ c, s.Cards[j]? = some c → RT s t c
   ·rw [if_pos (heq.2 hh)]; exact Ev.tt ⟨t, List.mem_cons_self .., hh⟩
   ·rw [if_neg fun q => hh (heq.1 q)]
    exact (ih b fun x hx => hl x (List.mem_cons_of_mem _ hx)).imp ⟨fun ⟨x, hx, q⟩ => ⟨x, List.mem_cons_of_mem _ hx, q⟩, fun ⟨x, hx, q⟩ => by
     rcases List.mem_cons.1 hx with rfl | hx
     ·exact absurd q hh
     ·exact ⟨x, hx, q⟩⟩
 unfold pcanHold
 rw [h.ss, choices_eq h.v0 h.many, obs]
 exact (go _ false fun t ht => (mem_chL h.v0).1 ht).imp ⟨fun ⟨t, h1, h2⟩ => ⟨t, (mem_chL h.v0).1 h1, h2⟩, fun ⟨t, h1, h2⟩ => ⟨t, (mem_chL h.v0).2 h1, h2⟩⟩
theorem hasTruth_ev {s : Stm} {W : Wk} (h : WOk s W) : Ev (phasTruth W) (HT s) := by
 obtain ⟨_, _, h3⟩ := not_many h.many
 unfold phasTruth
 rw [allCards_eq (by rw [h.ss]; exact h3), obs, h.ss]
 refine (canHold_ev h fun j hj => of_decide_eq_true hj).ret.imp ?_
 rw [HT_can]
 exact CanS.congr fun j hj => decide_eq_true hj
end
end Go.Proofs.Ytbnfnhfanooplaa

namespace Go.Proofs.Ytbnfnhfanooplaa
open _root_.Go.Proofs.Try
open Go.Abs
set_option maxRecDepth 100000
noncomputable section
def Inc (n fr : Nat) (T : List Int) : Prop := T.Pairwise (· < ·) ∧ ∀ v ∈ T, (fr : Int) ≤ v ∧ v < n
theorem Inc.cons {n fr : Nat} {x : Int} {T : List Int} : Inc n fr (x :: T) ↔ ((fr : Int) ≤ x ∧ x < n) ∧ Inc n (x + 1).toNat T := by
 unfold Inc
 rw [List.pairwise_cons]
 constructor
 ·rintro ⟨⟨h1, h2⟩, h3⟩
  have hx := h3 x (List.mem_cons_self ..)
  exact ⟨hx, h2, fun v hv => by have := h1 v hv; have := h3 v (List.mem_cons_of_mem _ hv); omega⟩
 ·rintro ⟨hx, h2, h3⟩
  refine ⟨⟨fun v hv => by have := h3 v hv; omega, h2⟩, fun v hv => ?_⟩
  rcases List.mem_cons.1 hv with rfl | hv
  ·exact hx
  ·have := h3 v hv; omega
theorem mem_combs {n : Nat} {D : List Int} : ∀ {d : Nat} {pre : List Int} {fr : Nat}, D ∈ combs n d pre fr ↔ ∃ T, D = pre ++ T ∧ T.length = d ∧ Inc n fr T
 | 0, pre, fr => by
  show D ∈ [pre] ↔ _
  rw [List.mem_singleton]
  constructor
  ·rintro rfl; exact ⟨[], by simp, rfl, .nil, fun v hv => by cases hv⟩
  ·rintro ⟨T, h1, h2, _⟩
   rw [List.eq_nil_of_length_eq_zero h2, List.append_nil] at h1; exact h1
 | d + 1, pre, fr => by
  show D ∈ rests (fun x => combs n d (pre ++ [(x : Int)]) (x + 1)) (n - fr) fr ↔ _
  rw [mem_rests]
  constructor
  ·rintro ⟨x, h1, h2, h3⟩
   obtain ⟨T, h4, h5, h6⟩ := mem_combs.1 h3
   refine ⟨(x : Int) :: T, by rw [h4]; simp, by simp [h5], Inc.cons.2 ⟨by omega, ?_⟩⟩
   rw [show ((x : Int) + 1).toNat = x + 1 by omega]; exact h6
  ·rintro ⟨T, h1, h2, h3⟩
   cases T with
   | nil => simp at h2
   | cons v T =>
    obtain ⟨h4, h5⟩ := Inc.cons.1 h3
    refine ⟨v.toNat, by omega, by omega, mem_combs.2 ⟨T, ?_, by simpa using h2, ?_⟩⟩
    ·rw [show ((v.toNat : Nat) : Int) = v by omega, h1]; simp
    ·rw [show v.toNat + 1 = (v + 1).toNat by omega]; exact h5
theorem inc_len {n : Nat} : ∀ {T : List Int} {fr : Nat}, Inc n fr T → T.length ≤ n - fr
 | [], _, _ => Nat.zero_le _
 | v :: T, fr, h => by
  obtain ⟨h1, h2⟩ := Inc.cons.1 h
  have := inc_len h2
  simp only [List.length_cons]
  omega
theorem mem_allL {n : Nat} {D : List Int} : D ∈ allL n ↔ Inc n 0 D := by
 unfold allL
 rw [mem_rests]
 constructor
 ·rintro ⟨s, _, _, h⟩
  obtain ⟨T, h1, _, h2⟩ := mem_combs.1 h
  rw [h1]; exact h2
 ·intro h
  have := inc_len h
  exact ⟨D.length, Nat.zero_le _, by omega, mem_combs.2 ⟨D, rfl, rfl, h⟩⟩
def inD (D : List Int) (j : Nat) : Bool := decide ((j : Int) ∈ D)
def bitsF (b : Nat) : Nat → List Int
 | 0 => []
 | p + 1 => bitsF b p ++ (if b.testBit p then [(p : Int)] else [])
def bitsL (b : Nat) : List Int := bitsF b 16
theorem mem_bitsF {b : Nat} {v : Int} : ∀ {p : Nat}, v ∈ bitsF b p ↔ 0 ≤ v ∧ v < p ∧ b.testBit v.toNat = true
 | 0 => ⟨fun h => (by cases h), fun h => by omega⟩
 | p + 1 => by
  show v ∈ bitsF b p ++ _ ↔ _
  rw [List.mem_append, mem_bitsF]
  constructor
  ·rintro (h | h)
   ·exact ⟨h.1, by omega, h.2.2⟩
   ·by_cases hb : b.testBit p = true
    ·rw [if_pos hb, List.mem_singleton] at h
     subst h; exact ⟨by omega, by omega, hb⟩
    ·rw [if_neg hb] at h; cases h
  ·rintro ⟨h1, h2, h3⟩
   by_cases hv : v = (p : Int)
   ·subst hv
    have h4 : b.testBit p = true := h3
    rw [if_pos h4]; exact .inr (List.mem_singleton.2 rfl)
   ·exact .inl ⟨h1, by omega, h3⟩
theorem sorted_bitsF {b : Nat} : ∀ p : Nat, (bitsF b p).Pairwise (· < ·)
 | 0 => .nil
 | p + 1 => by
  show (bitsF b p ++ _).Pairwise _
  rw [List.pairwise_append]
  refine ⟨sorted_bitsF p, ?_, fun a ha c hc => ?_⟩
  ·split
   ·exact List.pairwise_singleton _ _
   ·exact .nil
  ·have := mem_bitsF.1 ha
   split at hc
   ·rw [List.mem_singleton] at hc; omega
   ·cases hc
theorem bitsF_more {b p : Nat} (h : ∀ q, p ≤ q → b.testBit q = false) : ∀ k, bitsF b (p + k) = bitsF b p
 | 0 => rfl
 | k + 1 => by
  show bitsF b (p + k) ++ (if b.testBit (p + k) then _ else _) = _
  rw [h (p + k) (by omega), bitsF_more h k]; simp
theorem lenF {b : Nat} : ∀ p, (bitsF b p).length ≤ p
 | 0 => Nat.le_refl _
 | p + 1 => by
  show (bitsF b p ++ _).length ≤ _
  rw [List.length_append]
  have := lenF (b := b) p
  split <;> simp <;> omega
theorem bit_zero {b p q : Nat} (h : b / 2 ^ p = 0) (hq : p ≤ q) : b.testBit q = false := by
 have h1 : b < 2 ^ p := by
  rcases Nat.lt_or_ge b (2 ^ p) with h2 | h2
  ·exact h2
  ·have := Nat.div_pos h2 (Nat.two_pow_pos p); omega
 exact Nat.testBit_lt_two_pow (Nat.lt_of_lt_of_le h1 (Nat.pow_le_pow_right (by omega) hq))
def bef : List Int → List Int → Bool
 | [], [] => false
 | [], _ :: _ => true
 | _ :: _, [] => false
 | x :: a, y :: b => if x = y then bef a b else decide (x < y)
def shB (a b : List Int) : Bool := decide (a.length < b.length) || (decide (a.length = b.length) && bef a b)
theorem bef_irr : ∀ A : List Int, bef A A = false
 | [] => rfl
 | x :: A => by show (if x = x then bef A A else _) = _; rw [if_pos rfl, bef_irr A]
theorem bef_asym : ∀ {A B : List Int}, bef A B = true → bef B A = false
 | [], [], h => by cases h
 | [], _ :: _, _ => rfl
 | _ :: _, [], h => by cases h
 | x :: A, y :: B, h => by
  have h' : (if x = y then bef A B else decide (x < y)) = true := h
  show (if y = x then bef B A else decide (y < x)) = false
  by_cases hxy : x = y
  ·rw [if_pos hxy] at h'; rw [if_pos hxy.symm]; exact bef_asym h'
  ·rw [if_neg hxy] at h'; rw [if_neg fun h => hxy h.symm]
   have := of_decide_eq_true h'
   exact decide_eq_false (by omega)
theorem bef_total : ∀ A B : List Int, A = B ∨ bef A B = true ∨ bef B A = true
 | [], [] => .inl rfl
 | [], _ :: _ => .inr (.inl rfl)
 | _ :: _, [] => .inr (.inr rfl)
 | x :: A, y :: B => by
  show x :: A = y :: B ∨ (if x = y then bef A B else decide (x < y)) = true ∨ (if y = x then bef B A else decide (y < x)) = true
  by_cases hxy : x = y
  ·subst hxy
   rw [if_pos rfl, if_pos rfl]
   rcases bef_total A B with h | h | h
   ·exact .inl (by rw [h])
   ·exact .inr (.inl h)
   ·exact .inr (.inr h)
  ·rw [if_neg hxy, if_neg fun h => hxy h.symm]
   by_cases h : x < y
   ·exact .inr (.inl (decide_eq_true h))
   ·exact .inr (.inr (decide_eq_true (by omega)))
theorem bef_trans : ∀ {A B E : List Int}, bef A B = true → bef B E = true → bef A E = true
 | [], [], _, h, _ => by cases h
 | [], _ :: _, [], _, h => by cases h
 | [], _ :: _, _ :: _, _, _ => rfl
 | _ :: _, [], _, h, _ => by cases h
 | _ :: _, _ :: _, [], _, h => by cases h
 | x :: A, y :: B, z :: E, h1, h2 => by
  have h1' : (if x = y then bef A B else decide (x < y)) = true := h1
  have h2' : (if y = z then bef B E else decide (y < z)) = true := h2
  show (if x = z then bef A E else decide (x < z)) = true
  by_cases hxy : x = y
  ·rw [if_pos hxy] at h1'
   by_cases hyz : y = z
   ·rw [if_pos hyz] at h2'
    rw [if_pos (hxy.trans hyz)]; exact bef_trans h1' h2'
   ·rw [if_neg hyz] at h2'
    rw [if_neg (by rw [hxy]; exact hyz)]
    have := of_decide_eq_true h2'
    exact decide_eq_true (by omega)
  ·rw [if_neg hxy] at h1'
   have h3 := of_decide_eq_true h1'
   by_cases hyz : y = z
   ·rw [if_neg (by omega)]; exact decide_eq_true (by omega)
   ·rw [if_neg hyz] at h2'
    have := of_decide_eq_true h2'
    rw [if_neg (by omega)]; exact decide_eq_true (by omega)
theorem shB_iff {A B : List Int} : shB A B = true ↔ A.length < B.length ∨ (A.length = B.length ∧ bef A B = true) := by
 unfold shB
 rw [Bool.or_eq_true, Bool.and_eq_true, decide_eq_true_eq, decide_eq_true_eq]
theorem shB_trans {A B E : List Int} (h1 : shB A B = true) (h2 : shB B E = true) : shB A E = true := by
 rw [shB_iff] at h1 h2 ⊢
 rcases h1 with h1 | ⟨h1, h3⟩
 ·rcases h2 with h2 | ⟨h2, _⟩
  ·exact .inl (by omega)
  ·exact .inl (by omega)
 ·rcases h2 with h2 | ⟨h2, h4⟩
  ·exact .inl (by omega)
  ·exact .inr ⟨by omega, bef_trans h3 h4⟩
theorem shB_total (A B : List Int) : A = B ∨ shB A B = true ∨ shB B A = true := by
 rw [shB_iff, shB_iff]
 rcases Nat.lt_trichotomy A.length B.length with h | h | h
 ·exact .inr (.inl (.inl h))
 ·rcases bef_total A B with h1 | h1 | h1
  ·exact .inl h1
  ·exact .inr (.inl (.inr ⟨h, h1⟩))
  ·exact .inr (.inr (.inr ⟨h.symm, h1⟩))
 ·exact .inr (.inr (.inl h))
theorem shB_asym {A B : List Int} (h : shB A B = true) : shB B A = false := by
 unfold shB at h ⊢
 rw [Bool.or_eq_true, Bool.and_eq_true, decide_eq_true_eq, decide_eq_true_eq] at h
 rcases h with h | ⟨h1, h2⟩
 ·rw [decide_eq_false (by omega), decide_eq_false (by omega)]; rfl
 ·rw [decide_eq_false (by omega), bef_asym h2]; simp
theorem bef_app (x y : Int) (A B : List Int) (hxy : x < y) : ∀ pre : List Int, bef (pre ++ x :: A) (pre ++ y :: B) = true
 | [] => by show (if x = y then _ else decide (x < y)) = true; rw [if_neg (by omega), decide_eq_true hxy]
 | p :: pre => by show (if p = p then bef (pre ++ x :: A) (pre ++ y :: B) else _) = true; rw [if_pos rfl]; exact bef_app x y A B hxy pre
theorem rests_pairwise {α : Type} {R : α → α → Prop} (g : Nat → List α) (h1 : ∀ x, (g x).Pairwise R) (h2 : ∀ x y, x < y → ∀ a ∈ g x, ∀ b ∈ g y, R a b) : ∀ e x, (rests g e x).Pairwise R
 | 0, _ => .nil
 | e + 1, x => by
  show (g x ++ rests g e (x + 1)).Pairwise R
  rw [List.pairwise_append]
  refine ⟨h1 x, rests_pairwise g h1 h2 e (x + 1), fun a ha b hb => ?_⟩
  obtain ⟨j, h3, _, h4⟩ := (mem_rests g b e (x + 1)).1 hb
  exact h2 x j (by omega) a ha b h4
theorem combs_pairwise {n : Nat} : ∀ (d : Nat) (pre : List Int) (fr : Nat), (combs n d pre fr).Pairwise fun a b => bef a b = true
 | 0, pre, fr => List.pairwise_singleton _ _
 | d + 1, pre, fr => rests_pairwise _ (fun x => combs_pairwise d _ _) (fun x y hxy a ha b hb => by
  obtain ⟨T, h1, _, _⟩ := mem_combs.1 ha
  obtain ⟨T', h2, _, _⟩ := mem_combs.1 hb
  rw [h1, h2, List.append_assoc, List.append_assoc]
  exact bef_app _ _ _ _ (by omega) pre) _ _
theorem allL_pairwise (n : Nat) : (allL n).Pairwise fun a b => shB a b = true :=
 rests_pairwise _ (fun s => (combs_pairwise s [] 0).imp_of_mem fun {a b} ha hb hab => by
  have h1 := combs_len ha
  have h2 := combs_len hb
  unfold shB
  rw [hab, decide_eq_true (show a.length = b.length by omega)]; simp) (fun s s' hs a ha b hb => by
  have h1 := combs_len ha
  have h2 := combs_len hb
  unfold shB
  rw [decide_eq_true (by omega)]; rfl) _ _
theorem find_min {t : List Int → Bool} : ∀ {l : List (List Int)}, l.Pairwise (fun a b => shB a b = true) → ∀ {D D' : List Int}, l.find? t = some D → D' ∈ l → t D' = true → D' = D ∨ shB D D' = true
 | [], _, _, _, h, _, _ => by cases h
 | a :: l, hp, D, D', h, hm, ht => by
  rw [List.pairwise_cons] at hp
  rw [List.find?_cons] at h
  cases hta : t a with
  | true =>
   rw [hta] at h
   have : a = D := Option.some.inj h
   subst this
   rcases List.mem_cons.1 hm with rfl | h1
   ·exact .inl rfl
   ·exact .inr (hp.1 _ h1)
  | false =>
   rw [hta] at h
   rcases List.mem_cons.1 hm with rfl | h1
   ·rw [hta] at ht; cases ht
   ·exact find_min hp.2 h h1 ht
theorem shortL_spec {n : Nat} {t : List Int → Bool} (h : ∃ D, Inc n 0 D ∧ t D = true) : Inc n 0 (shortL n t) ∧ t (shortL n t) = true ∧ ∀ D, Inc n 0 D → t D = true → D = shortL n t ∨ shB (shortL n t) D = true := by
 obtain ⟨D0, h1, h2⟩ := h
 unfold shortL
 cases hf : (allL n).find? t with
 | none => exact absurd h2 (by have := List.find?_eq_none.1 hf D0 (mem_allL.2 h1); simpa using this)
 | some D => exact ⟨mem_allL.1 (List.mem_of_find?_eq_some hf), List.find?_some hf, fun D' h3 h4 => find_min (allL_pairwise n) hf (mem_allL.2 h3) h4⟩
theorem mask_ex : ∀ (n : Nat) (S : Nat → Bool), ∃ b, b < 2 ^ n ∧ ∀ q, q < n → b.testBit q = S q
 | 0, S => ⟨0, by decide, fun q hq => by omega⟩
 | n + 1, S => by
  obtain ⟨b, h1, h2⟩ := mask_ex n fun q => S (q + 1)
  refine ⟨2 * b + (if S 0 then 1 else 0), ?_, fun q hq => ?_⟩
  ·rw [Nat.pow_succ]; split <;> omega
  ·cases q with
   | zero =>
    rw [Nat.testBit_zero]
    cases S 0 with
    | true => exact decide_eq_true (by simp only [if_true]; omega)
    | false => exact decide_eq_false (by simp)
   | succ q =>
    rw [Nat.testBit_succ, ← h2 q (by omega)]
    congr 1
    split <;> omega
theorem sorted_ext : ∀ {A B : List Int}, A.Pairwise (· < ·) → B.Pairwise (· < ·) → (∀ v, v ∈ A ↔ v ∈ B) → A = B
 | [], [], _, _, _ => rfl
 | [], b :: B, _, _, h => by have := (h b).2 (List.mem_cons_self ..); cases this
 | a :: A, [], _, _, h => by have := (h a).1 (List.mem_cons_self ..); cases this
 | a :: A, b :: B, hA, hB, h => by
  rw [List.pairwise_cons] at hA hB
  have hab : a = b := by
   rcases List.mem_cons.1 ((h a).1 (List.mem_cons_self ..)) with h1 | h1
   ·exact h1
   ·rcases List.mem_cons.1 ((h b).2 (List.mem_cons_self ..)) with h2 | h2
    ·exact h2.symm
    ·have := hA.1 _ h2; have := hB.1 _ h1; omega
  subst hab
  congr 1
  refine sorted_ext hA.2 hB.2 fun v => ?_
  have hv := h v
  rw [List.mem_cons, List.mem_cons] at hv
  constructor
  ·intro h1
   rcases hv.1 (.inr h1) with h2 | h2
   ·have := hA.1 _ h1; omega
   ·exact h2
  ·intro h1
   rcases hv.2 (.inr h1) with h2 | h2
   ·have := hB.1 _ h1; omega
   ·exact h2
theorem bits_inc {n b : Nat} (_hn : n ≤ 16) (hb : b < 2 ^ n) : Inc n 0 (bitsL b) :=
 ⟨sorted_bitsF 16, fun v hv => by
  obtain ⟨h1, h2, h3⟩ := mem_bitsF.1 hv
  refine ⟨by omega, ?_⟩
  by_cases h4 : v < n
  ·exact h4
  ·have := Nat.testBit_lt_two_pow (Nat.lt_of_lt_of_le hb (Nat.pow_le_pow_right (by omega) (show n ≤ v.toNat by omega)))
   rw [this] at h3; cases h3⟩
theorem inD_bits {n b k : Nat} (hn : n ≤ 16) (hk : k < n) : inD (bitsL b) k = b.testBit k := by
 unfold inD
 have : ((k : Nat) : Int) ∈ bitsL b ↔ b.testBit k = true := by
  unfold bitsL
  rw [mem_bitsF]
  exact ⟨fun h => h.2.2, fun h => ⟨by omega, by omega, h⟩⟩
 cases hb : b.testBit k with
 | true => exact decide_eq_true (this.2 hb)
 | false => exact decide_eq_false fun h => by rw [this.1 h] at hb; cases hb
theorem inc_bits {n : Nat} {D : List Int} (hn : n ≤ 16) (hD : Inc n 0 D) : ∃ b, b < 2 ^ n ∧ bitsL b = D := by
 obtain ⟨b, h1, h2⟩ := mask_ex n (inD D)
 refine ⟨b, h1, sorted_ext (sorted_bitsF 16) hD.1 fun v => ?_⟩
 constructor
 ·intro hv
  obtain ⟨h3, h4⟩ := (bits_inc hn h1).2 v hv
  obtain ⟨_, _, h5⟩ := mem_bitsF.1 hv
  rw [h2 _ (by omega)] at h5
  have := of_decide_eq_true h5
  rwa [show ((v.toNat : Nat) : Int) = v by omega] at this
 ·intro hv
  have h3 := hD.2 v hv
  refine mem_bitsF.2 ⟨by omega, by omega, ?_⟩
  rw [h2 _ (by omega)]
  exact decide_eq_true (by rw [show ((v.toNat : Nat) : Int) = v by omega]; exact hv)
end
end Go.Proofs.Ytbnfnhfanooplaa

namespace Go.Proofs.Ytbnfnhfanooplaa
open _root_.Go.Proofs.Try
open Go.Abs Go.Abs.Grow
set_option maxRecDepth 100000
noncomputable section
theorem First_eq {s : Stm} (h : VS s) : (∃ j, j < s.Cards.length ∧ (∀ i, i < j → CanS s fun k => decide (k < i + 1)) ∧ ¬ CanS s (fun k => decide (k < j + 1)) ∧ pFirst s = some ((j : Int), 0)) ∨ ((∀ i, i < s.Cards.length → CanS s fun k => decide (k < i + 1)) ∧ pFirst s = some (0, 7)) := by
 obtain ⟨_, _, h3⟩ := not_many h.many
 obtain ⟨W, h1, hw⟩ := open_eq h
 unfold pFirst
 rw [check_eq, fault_zero.2 h, obs, if_pos rfl, h1, obs]
 have go : ∀ (d k : Nat), k ≤ s.Cards.length → s.Cards.length - k < d → (∀ i, i < k → CanS s fun j => decide (j < i + 1)) → (∃ j, j < s.Cards.length ∧ (∀ i, i < j → CanS s fun k => decide (k < i + 1)) ∧ ¬ CanS s (fun k => decide (k < j + 1)) ∧ pFirst_L0 W d (k : Int) = some ((j : Int), 0)) ∨ ((∀ i, i < s.Cards.length → CanS s fun k => decide (k < i + 1)) ∧ pFirst_L0 W d (k : Int) = some (0, 7)) := by
  intro d
  induction d with
  | zero => intro k _ h; omega
  | succ d ih =>
   intro k hk hd hb
   unfold pFirst_L0
   rw [hw.ss]
   by_cases hkn : k = s.Cards.length
   ·rw [if_neg (by omega)]
    exact .inr ⟨fun i hi => hb i (by omega), rfl⟩
   ·rw [if_pos (by omega), upTo_eq (n := k + 1) (by omega) (by omega), obs]
    obtain ⟨b, q1, q2⟩ := canHold_ev hw (S := fun j => decide (j < k + 1)) fun j hj => by have := of_decide_eq_true hj; omega
    rw [q1, obs]
    cases b with
    | true =>
     rw [if_pos rfl, gd_pos (fI (by omega)), show (k : Int) + 1 = ((k + 1 : Nat) : Int) by omega]
     refine ih (k + 1) (by omega) (by omega) fun i hi => ?_
     by_cases h9 : i = k
     ·subst h9; exact q2.1 rfl
     ·exact hb i (by omega)
    | false =>
     rw [if_neg (by simp)]
     exact .inl ⟨k, by omega, hb, fun q => (by have := q2.2 q; cases this), rfl⟩
 rw [hw.ss]
 exact go _ 0 (Nat.zero_le _) (by omega) fun i hi => by omega
theorem First_bad {s : Stm} (h : faultN s ≠ 0) : pFirst s = some (0, faultN s) := by
 unfold pFirst
 rw [check_eq, obs, if_neg h]
def allI (n : Nat) : List Int := (List.range n).map fun j => ((j : Nat) : Int)
theorem all_inc (n : Nat) : Inc n 0 (allI n) := by
 refine ⟨?_, fun v hv => ?_⟩
 ·unfold allI
  rw [List.pairwise_map]
  exact List.pairwise_lt_range.imp fun h => by omega
 ·obtain ⟨j, hj, rfl⟩ := List.mem_map.1 hv
  have := List.mem_range.1 hj
  omega
theorem all_in {n j : Nat} (h : j < n) : inD (allI n) j = true := decide_eq_true (List.mem_map.2 ⟨j, List.mem_range.2 h, rfl⟩)
structure MinP (n : Nat) (P : (Nat → Bool) → Prop) (M : List Int) : Prop where
 inc : Inc n 0 M
 ok : P (inD M)
 min : ∀ D, Inc n 0 D → P (inD D) → D = M ∨ shB M D = true
theorem MinP.uniq {n : Nat} {P : (Nat → Bool) → Prop} {M M' : List Int} (h : MinP n P M) (h' : MinP n P M') : M = M' := by
 rcases h.min M' h'.inc h'.ok with h1 | h1
 ·exact h1.symm
 ·rcases h'.min M h.inc h.ok with h2 | h2
  ·exact h2
  ·rw [shB_asym h1] at h2; cases h2
theorem inc_lt {n : Nat} {D : List Int} (h : Inc n 0 D) {j : Nat} (hj : inD D j = true) : j < n := by
 have := of_decide_eq_true hj
 have := (h.2 _ this).2
 omega
theorem inc_mem {n : Nat} {D : List Int} (h : Inc n 0 D) {v : Int} (hv : v ∈ D) : ∃ j : Nat, v = (j : Int) ∧ j < n := by
 have := h.2 v hv
 exact ⟨v.toNat, by omega, by omega⟩
theorem clash_ev {s : Stm} {W : Wk} (h : WOk s W) {D : List Int} (hD : Inc s.Cards.length 0 D) : Ev (pclash W D) (¬ CanS s (inD D)) := by
 obtain ⟨_, _, h3⟩ := not_many h.many
 have hlen := inc_len hD
 have go : ∀ (d i : Nat) (S : Nat → Bool), i ≤ D.length → D.length - i < d → (∀ j, S j = decide ((j : Int) ∈ D.take i)) → Ev (pclash_L0 W D d (S 0) (S 1) (S 2) (S 3) (S 4) (S 5) (i : Int)) (¬ CanS s (inD D)) := by
  intro d
  induction d with
  | zero => intro i S _ h; omega
  | succ d ih =>
   intro i S hi hd hS
   unfold pclash_L0
   by_cases hin : i = D.length
   ·rw [if_neg (by omega)]
    rw [hin, List.take_length] at hS
    have hS' : S = inD D := funext hS
    subst hS'
    exact (canHold_ev h (S := inD D) fun j hj => inc_lt hD hj).neg
   ·have hlt : i < D.length := by omega
    have hg := List.getElem?_eq_getElem hlt
    have hm := List.getElem_mem hlt
    generalize D[i] = v at hg hm
    obtain ⟨k, rfl, hk⟩ := inc_mem hD hm
    rw [if_pos (by omega), idx_at hg, obs, gd_pos (by omega), gd_pos (fI (by omega)), show (i : Int) + 1 = ((i + 1 : Nat) : Int) by omega]
    refine ih (i + 1) (upd S (k : Int) true) (by omega) (by omega) fun j => ?_
    rw [upd_nat, List.take_add_one, hg]
    by_cases h9 : k = j
    ·subst h9; rw [if_pos rfl]; exact (decide_eq_true (by simp)).symm
    ·rw [if_neg h9, hS j]
     refine decide_eq_decide.2 ?_
     simp only [Option.toList_some, List.mem_append, List.mem_singleton]
     exact ⟨.inl, fun q => q.elim id fun q => absurd (by omega) h9⟩
 unfold pclash
 exact go _ 0 (fun _ => false) (Nat.zero_le _) (by omega) fun j => by simp
theorem canLeave_ev {s : Stm} {W : Wk} (h : WOk s W) {D : List Int} (hD : Inc s.Cards.length 0 D) : Ev (pcanLeave W D) (CanS s fun j => !inD D j) := by
 obtain ⟨_, _, h3⟩ := not_many h.many
 have hlen := inc_len hD
 have go : ∀ (d i : Nat) (S : Nat → Bool), i ≤ D.length → D.length - i < d → (∀ j, j < 6 → S j = (decide (j < s.Cards.length) && !decide ((j : Int) ∈ D.take i))) → Ev (pcanLeave_L0 W D d (S 0) (S 1) (S 2) (S 3) (S 4) (S 5) (i : Int)) (CanS s fun j => !inD D j) := by
  intro d
  induction d with
  | zero => intro i S _ h; omega
  | succ d ih =>
   intro i S hi hd hS
   unfold pcanLeave_L0
   by_cases hin : i = D.length
   ·rw [if_neg (by omega)]
    rw [hin, List.take_length] at hS
    have e : (mkC S) = mkC fun j => decide (j < s.Cards.length) && !inD D j := mkC_congr hS
    show Ev ((pcanHold W (mkC S)).bind fun r => some r) _
    rw [e]
    refine (canHold_ev h (S := fun j => decide (j < s.Cards.length) && !inD D j) fun j hj => ?_).ret.imp (CanS.congr fun j hj => ?_)
    ·rw [Bool.and_eq_true] at hj; exact of_decide_eq_true hj.1
    ·rw [decide_eq_true hj]; rfl
   ·have hlt : i < D.length := by omega
    have hg := List.getElem?_eq_getElem hlt
    have hm := List.getElem_mem hlt
    generalize D[i] = v at hg hm
    obtain ⟨k, rfl, hk⟩ := inc_mem hD hm
    rw [if_pos (by omega), idx_at hg, obs, gd_pos (by omega), gd_pos (fI (by omega)), show (i : Int) + 1 = ((i + 1 : Nat) : Int) by omega]
    refine ih (i + 1) (upd S (k : Int) false) (by omega) (by omega) fun j hj6 => ?_
    rw [upd_nat, List.take_add_one, hg]
    by_cases h9 : k = j
    ·subst h9; rw [if_pos rfl, decide_eq_true (show ((k : Int) ∈ D.take i ++ (some (k : Int)).toList) by simp)]; simp
    ·rw [if_neg h9, hS j hj6]
     congr 2
     refine decide_eq_decide.2 ?_
     simp only [Option.toList_some, List.mem_append, List.mem_singleton]
     exact ⟨.inl, fun q => q.elim id fun q => absurd (by omega) h9⟩
 unfold pcanLeave
 rw [allCards_eq (by rw [h.ss]; exact h3), obs, h.ss]
 exact go _ 0 (fun j => decide (j < s.Cards.length)) (Nat.zero_le _) (by omega) fun j _ => by simp
theorem shortX {s : Stm} {W : Wk} (hw : WOk s W) {f : Wk → List Int → Option Bool} {P : (Nat → Bool) → Prop} (hf : ∀ D, Inc s.Cards.length 0 D → Ev (f W D) (P (inD D))) (hex : ∃ D, Inc s.Cards.length 0 D ∧ P (inD D)) : ∃ M, pshortestX W ⟨f⟩ = some M ∧ MinP s.Cards.length P M := by
 obtain ⟨_, _, h3⟩ := not_many hw.many
 have ht : ∀ D, Inc s.Cards.length 0 D → (((f W D).getD false) = true ↔ P (inD D)) := fun D hD => by
  obtain ⟨b, q1, q2⟩ := hf D hD
  rw [q1]; exact q2
 obtain ⟨D0, d1, d2⟩ := hex
 obtain ⟨s1, s2, s3⟩ := shortL_spec (n := s.Cards.length) (t := fun L => (f W L).getD false) ⟨D0, d1, (ht _ d1).2 d2⟩
 refine ⟨shortL s.Cards.length fun L => (f W L).getD false, ?_, s1, (ht _ s1).1 s2, fun D hD hD2 => s3 D hD ((ht D hD).2 hD2)⟩
 unfold pshortestX pshortest pshortest1
 have e : ∀ a, ((f W a).bind fun r => some r) = f W a := fun a => by cases f W a <;> rfl
 simp only [e, hw.ss]
 rw [gd_pos ⟨by omega, by omega, fun L hL => by
  have hI : Inc s.Cards.length 0 L := by rw [Int.toNat_natCast] at hL; exact mem_allL.1 hL
  obtain ⟨b, q1, _⟩ := hf L hI
  rw [q1]; rfl⟩, obs, Int.toNat_natCast]
theorem Leave_eq {s : Stm} (h : VS s) : ∃ M, pLeave s = some (M, 0) ∧ MinP s.Cards.length (fun S => CanS s fun j => !S j) M := by
 obtain ⟨W, h1, hw⟩ := open_eq h
 obtain ⟨M, a1, a2⟩ := shortX hw (f := fun a b => pcanLeave a b) (P := fun S => CanS s fun j => !S j) (fun D hD => canLeave_ev hw hD) ⟨allI s.Cards.length, all_inc _, by
  obtain ⟨t, ht⟩ := isT_ex h.toVS0
  exact ⟨t, ht, fun j hj c hc => by replace hj : (!inD (allI s.Cards.length) j) = true := hj; rw [all_in (List.getElem?_eq_some_iff.1 hc).1] at hj; cases hj⟩⟩
 refine ⟨M, ?_, a2⟩
 unfold pLeave
 rw [check_eq, fault_zero.2 h, obs, if_pos rfl, h1, obs, a1, obs]
theorem Leave_bad {s : Stm} (h : faultN s ≠ 0) : pLeave s = some ([], faultN s) := by
 unfold pLeave
 rw [check_eq, obs, if_neg h]
theorem Clash_ok {s : Stm} (h : VS s) (ht : HT s) : pClash s = some ([], 7) := by
 obtain ⟨W, h1, hw⟩ := open_eq h
 unfold pClash
 rw [check_eq, fault_zero.2 h, obs, if_pos rfl, h1, obs, (hasTruth_ev hw).some_of ht, obs, if_pos rfl]
theorem Clash_eq {s : Stm} (h : VS s) (ht : ¬ HT s) : ∃ M, pClash s = some (M, 0) ∧ MinP s.Cards.length (fun S => ¬ CanS s S) M := by
 obtain ⟨W, h1, hw⟩ := open_eq h
 obtain ⟨M, a1, a2⟩ := shortX hw (f := fun a b => pclash a b) (P := fun S => ¬ CanS s S) (fun D hD => clash_ev hw hD) ⟨allI s.Cards.length, all_inc _, fun q => ht (HT_can.2 ((CanS.congr fun j hj => all_in hj).1 q))⟩
 refine ⟨M, ?_, a2⟩
 unfold pClash
 rw [check_eq, fault_zero.2 h, obs, if_pos rfl, h1, obs, (hasTruth_ev hw).some_not ht, obs, if_neg (by simp), a1, obs]
theorem Clash_bad {s : Stm} (h : faultN s ≠ 0) : pClash s = some ([], faultN s) := by
 unfold pClash
 rw [check_eq, obs, if_neg h]
end
end Go.Proofs.Ytbnfnhfanooplaa

namespace Go.Proofs.Ytbnfnhfanooplaa
open _root_.Go.Proofs.Try
open Go.Abs Go.Abs.Grow
set_option maxRecDepth 100000
noncomputable section
theorem aw : (pawake.bind fun r => some r) = some true := rfl
def ThinN (s : Stm) : Prop := s.Cards.length ≤ 9 ∧ (faultN s = 0 → manyN s ≤ 300)
theorem thin_ev {s : Stm} : Ev (plThin s) (ThinN s) := by
 unfold plThin ThinN
 refine (Ev.ite (K := faultN s = 0 → manyN s ≤ 300) fun h1 => ?_).imp (and_congr (by omega) Iff.rfl)
 rw [rFault_eq, obs]
 by_cases hf : faultN s = 0
 ·have h := fault_zero.1 hf
  rw [if_pos hf, rMany_eq h.toVS0 h.many, obs]
  exact Ev.dec ⟨fun h _ => h, fun h => h hf⟩
 ·rw [if_neg hf]; exact Ev.tt fun h => absurd h hf
theorem lStorm_eq {s : Stm} (h : s.Cards.length ≤ 9) : plStorm s = some s := by
 have k1 := loopApp0 (l := s.Cards) (F := fun d acc x => plStorm_L0 s d s.Wide s.High s.Fall s.A.Lo s.A.Hi s.B.Lo s.B.Hi s.Half.Lo s.Half.Hi s.Peak.Lo s.Peak.Hi acc x) (fun c : Crd => c) (fun acc => some ({ s with Cards := acc } : Stm)) (fun d k acc a ha hac => by
  have hk := (List.getElem?_eq_some_iff.1 ha).1
  show plStorm_L0 s (d + 1) _ _ _ _ _ _ _ _ _ _ _ _ _ = _
  rw [plStorm_L0, if_pos (by omega), idx_at ha, obs]
  unfold plTo
  rw [obs, obs, obs, gd_pos (by omega), gd_pos (fI (by omega))]) (fun d acc => by show plStorm_L0 s (d + 1) _ _ _ _ _ _ _ _ _ _ _ _ _ = _; rw [plStorm_L0, if_neg (Int.lt_irrefl _)]) (d := 1000000) (by omega)
 unfold plStorm plTo
 rw [obs, obs, obs, obs]
 refine k1.trans ?_
 rw [List.map_id']
theorem wu {n : Nat} (h : n ≤ 64) : wrapZ .u64 (n : Int) = (n : Int) := wz (show (0 : Int) ≤ n ∧ (n : Int) < 18446744073709551616 by omega)
theorem pow6 {i : Nat} (h : i ≤ 6) : 2 ^ i ≤ 64 := Nat.le_trans (Nat.pow_le_pow_right (by omega) h) (by decide)
theorem rEvery_eq {s : Stm} (hn : s.Cards.length ≤ 6) : prEvery s = some ((2 ^ s.Cards.length - 1 : Nat) : Int) := by
 have hp := pow6 hn
 have h0 := Nat.two_pow_pos s.Cards.length
 have e : (1 : Int) * 2 ^ (Int.toNat (s.Cards.length : Int)) = ((2 ^ s.Cards.length : Nat) : Int) := by rw [Int.toNat_natCast, Int.one_mul, Int.natCast_pow]; rfl
 unfold prEvery
 rw [wu (by omega), e, gd_pos (by omega), gd_pos (by omega), gd_pos (by omega), gd_pos (fI (by omega)), gd_pos (fI (by omega))]
 congr 1; omega
end
end Go.Proofs.Ytbnfnhfanooplaa

namespace Go.Proofs.Ytbnfnhfanooplaa
open _root_.Go.Proofs.Try
open Go.Abs Go.Abs.Grow
set_option maxRecDepth 100000
noncomputable section
theorem rBits_go {b : Nat} (hb : b < 65536) : ∀ (d p : Nat) (acc : List Int), p ≤ 16 → 16 - p < d → acc = bitsF b p → prBits_L0 (b : Int) d acc (p : Int) = some (bitsL b)
 | 0, _, _, _, h, _ => by omega
 | d + 1, p, acc, hp, h, ha => by
  have hle : b / 2 ^ p ≤ b := Nat.div_le_self _ _
  rw [prBits_L0, wu (show p ≤ 64 by omega)]
  have hq : (b : Int) / 2 ^ ((p : Int)).toNat = ((b / 2 ^ p : Nat) : Int) := by rw [Int.toNat_natCast]; simp
  rw [hq]
  clear hq
  have hl := lenF (b := b) p
  have hbit : b.testBit p = decide (b / 2 ^ p % 2 = 1) := Nat.testBit_eq_decide_div_mod_eq ..
  have h16 : p = 16 → b / 2 ^ p = 0 := fun he => by subst he; exact Nat.div_eq_of_lt (by omega)
  have h0' : b / 2 ^ p = 0 → bitsF b p = bitsL b := fun h9 => by
   have := bitsF_more (b := b) (p := p) (fun q hq => bit_zero h9 hq) (16 - p)
   rw [show p + (16 - p) = 16 by omega] at this
   exact this.symm
  generalize b / 2 ^ p = q at hle hbit h16 h0' ⊢
  rw [gd_pos (by omega), gd_pos (by omega), gd_pos (by omega), gd_pos (fI (by omega))]
  by_cases h0 : 0 < q
  ·have hp16 : p < 16 := by
    rcases Nat.lt_or_ge p 16 with h1 | h1
    ·exact h1
    ·have := h16 (by omega); omega
   rw [if_pos (by omega), gd_pos (by omega), gd_pos (by omega), gd_pos (by omega), gd_pos (fI (by omega)), gd_pos (by omega), gd_pos (by omega), gd_pos (fI (by omega))]
   by_cases h1 : q % 2 = 1
   ·rw [if_pos (by omega), gd_pos (show acc.length < 1048576 by rw [ha]; omega), gd_pos (fI (by omega)), show (p : Int) + 1 = ((p + 1 : Nat) : Int) by omega]
    refine rBits_go hb d (p + 1) _ (by omega) (by omega) ?_
    show _ = bitsF b p ++ (if b.testBit p then [(p : Int)] else [])
    rw [ha, hbit, h1]; rfl
   ·rw [if_neg (by omega), gd_pos (fI (by omega)), show (p : Int) + 1 = ((p + 1 : Nat) : Int) by omega]
    refine rBits_go hb d (p + 1) _ (by omega) (by omega) ?_
    show _ = bitsF b p ++ (if b.testBit p then [(p : Int)] else [])
    rw [ha, hbit, decide_eq_false h1]; simp
  ·rw [if_neg (by omega), ha]
   exact congrArg some (h0' (by omega))
theorem rBits_eq {b : Nat} (hb : b < 65536) : prBits (b : Int) = some (bitsL b) := rBits_go hb 1000000 0 [] (Nat.zero_le _) (by omega) rfl
theorem rBefore_go {a b : List Int} (hl : a.length ≤ 1000) : ∀ (d k : Nat), k ≤ a.length → a.length - k < d → prBefore_L0 a b d (k : Int) = some (bef (a.drop k) (b.drop k))
 | 0, _, _, h => by omega
 | d + 1, k, hk, h => by
  rw [prBefore_L0]
  by_cases hka : k < a.length
  ·rw [if_pos (by omega)]
   have da := List.drop_eq_getElem_cons hka
   have ga := List.getElem?_eq_getElem hka
   by_cases hkb : k < b.length
   ·have db := List.drop_eq_getElem_cons hkb
    have gb := List.getElem?_eq_getElem hkb
    rw [if_pos (by omega), idx_at ga, obs, idx_at gb, obs, da, db]
    unfold bef
    by_cases he : a[k] = b[k]
    ·rw [if_pos he, if_pos he, gd_pos (fI (by omega)), show (k : Int) + 1 = ((k + 1 : Nat) : Int) by omega]
     exact rBefore_go hl d (k + 1) (by omega) (by omega)
    ·rw [if_neg he, if_neg he, obs, obs]
   ·rw [if_neg (by omega), da, List.drop_eq_nil_of_le (show b.length ≤ k by omega), decide_eq_false (by omega)]; rfl
  ·rw [if_neg (by omega), List.drop_eq_nil_of_le (show a.length ≤ k by omega)]
   by_cases hkb : k < b.length
   ·rw [List.drop_eq_getElem_cons hkb, decide_eq_true (by omega)]; rfl
   ·rw [List.drop_eq_nil_of_le (show b.length ≤ k by omega), decide_eq_false (by omega)]; rfl
theorem rBefore_eq {a b : List Int} (hl : a.length ≤ 1000) : prBefore a b = some (bef a b) := rBefore_go hl (a.length + 1) 0 (Nat.zero_le _) (by omega)
theorem rShorter_eq {a b : List Int} (hl : a.length ≤ 1000) : prShorter a b = some (shB a b) := by
 unfold prShorter shB
 by_cases h1 : a.length < b.length
 ·rw [if_pos (by omega), decide_eq_true h1]; rfl
 ·rw [if_neg (by omega), decide_eq_false h1]
  by_cases h2 : a.length = b.length
  ·rw [if_pos (by omega), rBefore_eq hl, decide_eq_true h2]; simp
  ·rw [if_neg (by omega), decide_eq_false h2]; simp
theorem len_bits {b : Nat} : (bitsL b).length ≤ 16 := lenF 16
theorem clear_bit {n b : Nat} (_hb : b < 2 ^ n) : Nat.xor (2 ^ n - 1) (Nat.land (2 ^ n - 1) b) < 2 ^ n ∧ ∀ j, j < n → (Nat.xor (2 ^ n - 1) (Nat.land (2 ^ n - 1) b)).testBit j = !b.testBit j := by
 have e : ∀ j, (Nat.xor (2 ^ n - 1) (Nat.land (2 ^ n - 1) b)).testBit j = (decide (j < n) ^^ (decide (j < n) && b.testBit j)) := fun j => by
  show ((2 ^ n - 1) ^^^ ((2 ^ n - 1) &&& b)).testBit j = _
  rw [Nat.testBit_xor, Nat.testBit_and, Nat.testBit_two_pow_sub_one]
 refine ⟨Nat.lt_pow_two_of_testBit _ fun j hj => ?_, fun j hj => ?_⟩
 ·rw [e, decide_eq_false (by omega)]; rfl
 ·rw [e, decide_eq_true hj]
  cases b.testBit j <;> rfl
theorem pow_cast (j : Nat) (c : Int) : c * 2 ^ (Int.toNat (j : Int)) = c * ((2 ^ j : Nat) : Int) := by rw [Int.toNat_natCast, Int.natCast_pow]; rfl
theorem can_none {s : Stm} (h : VS s) {S : Nat → Bool} (hS : ∀ j, j < s.Cards.length → S j = false) : CanS s S := by
 obtain ⟨t, ht⟩ := isT_ex h.toVS0
 exact ⟨t, ht, fun j hj c hc => by rw [hS j (List.getElem?_eq_some_iff.1 hc).1] at hj; cases hj⟩
theorem CanS.bits {s : Stm} {b : Nat} (hn : s.Cards.length ≤ 6) : CanS s (fun j => !inD (bitsL b) j) ↔ CanS s fun j => !b.testBit j := CanS.congr fun j hj => by rw [inD_bits (n := s.Cards.length) (by omega) hj]
end
end Go.Proofs.Ytbnfnhfanooplaa

namespace Go.Proofs.Ytbnfnhfanooplaa
open _root_.Go.Proofs.Try
open Go.Abs Go.Abs.Grow
set_option maxRecDepth 100000
noncomputable section
theorem lInts_self {l : List Int} (hl : l.length ≤ 1000) : plInts l l = some true := by
 have key : ∀ (d k : Nat), k ≤ l.length → l.length - k < d → plInts_L0 l l d (k : Int) = some true := by
  intro d
  induction d with
  | zero => intro k _ h; omega
  | succ d ih =>
   intro k hk hd
   unfold plInts_L0
   by_cases hkn : k = l.length
   ·rw [if_neg (by omega)]
   ·have hg := List.getElem?_eq_getElem (show k < l.length by omega)
    rw [if_pos (by omega), idx_at hg, obs, obs, if_pos rfl, gd_pos (fI (by omega)), show (k : Int) + 1 = ((k + 1 : Nat) : Int) by omega]
    exact ih (k + 1) (by omega) (by omega)
 unfold plInts
 rw [if_pos rfl]
 exact key _ 0 (Nat.zero_le _) (by omega)
end
end Go.Proofs.Ytbnfnhfanooplaa

namespace Go.Proofs.Ytbnfnhfanooplaa
open _root_.Go.Proofs.Try
open Go.Abs Go.Abs.Grow
set_option maxRecDepth 100000
noncomputable section
theorem Inc.cut {n : Nat} {D : List Int} (h : Inc (n + 1) 0 D) : ∃ E, Inc n 0 E ∧ E.length ≤ D.length ∧ D.length ≤ E.length + 1 ∧ ∀ j, j < n → inD E j = inD D j := by
 refine ⟨D.filter fun v => decide (v < (n : Int)), ⟨h.1.filter _, fun v hv => ?_⟩, List.length_filter_le _ _, ?_, fun j hj => ?_⟩
 ·obtain ⟨h1, h2⟩ := List.mem_filter.1 hv
  have := h.2 v h1
  have := of_decide_eq_true h2
  omega
 ·have key : ∀ L : List Int, L.Pairwise (· < ·) → (∀ v ∈ L, v < (n : Int) + 1) → L.length ≤ (L.filter fun v => decide (v < (n : Int))).length + 1 := by
   intro L
   induction L with
   | nil => intro _ _; simp
   | cons a L ih =>
    intro hp hb
    rw [List.pairwise_cons] at hp
    have ha := hb a (List.mem_cons_self ..)
    rw [List.filter_cons]
    by_cases hlt : a < (n : Int)
    ·rw [if_pos (decide_eq_true hlt)]
     have := ih hp.2 fun v hv => hb v (List.mem_cons_of_mem _ hv)
     simp only [List.length_cons]; omega
    ·have hL : L = [] := by
      cases L with
      | nil => rfl
      | cons b L =>
       have h1 := hp.1 b (List.mem_cons_self ..)
       have h2 := hb b (by simp)
       omega
     subst hL; simp
  exact key D h.1 fun v hv => by have := (h.2 v hv).2; omega
 ·unfold inD
  refine decide_eq_decide.2 ⟨fun hh => (List.mem_filter.1 hh).1, fun hh => List.mem_filter.2 ⟨hh, decide_eq_true (by omega)⟩⟩
end
end Go.Proofs.Ytbnfnhfanooplaa

namespace Go.Proofs.Ytbnfnhfanooplaa
open _root_.Go.Proofs.Try
open Go.Abs Go.Abs.Grow
set_option maxRecDepth 100000
noncomputable section
theorem rNth_eq {s : Stm} (h : VS0 s) (hm : ¬ ManyS s) {n : Int} (h0 : 0 ≤ n) (hn : n < manyN s) : prNth s n = some (nthT s n) := by
 obtain ⟨h1, h2, h3, h4, _, _, h7⟩ := many_rng h hm
 obtain ⟨e1, e2, e3, e4, e5, e6⟩ := nth_rng h hm h0 hn
 obtain ⟨a, b, c, d⟩ := h.ws hm
 have a' := a; have b' := b; have c' := c; have d' := d
 have p1 : n / cnt s.A ≤ n := Int.ediv_le_self _ h0
 have p2 : n / cnt s.A / cnt s.B ≤ n / cnt s.A := Int.ediv_le_self _ e2
 unfold Wi at a' b' c' d'
 unfold prNth
 simp only [rCount_eq a, rCount_eq b, rCount_eq c, obs]
 unfold nthT
 generalize n / cnt s.A / cnt s.B / cnt s.Half = x4 at *
 generalize n / cnt s.A / cnt s.B % cnt s.Half = x3 at *
 generalize n / cnt s.A / cnt s.B = x5 at *
 generalize n / cnt s.A % cnt s.B = x2 at *
 generalize n / cnt s.A = x6 at *
 generalize n % cnt s.A = x1 at *
 repeat rw [gd_pos (by first | exact fI (by omega) | omega)]
end
end Go.Proofs.Ytbnfnhfanooplaa

namespace Go.Proofs.Ytbnfnhfanooplaa
open _root_.Go.Proofs.Try
open Go.Abs Go.Abs.Grow
set_option maxRecDepth 100000
noncomputable section
def RR (s : Stm) (t : Trh) (c : Crd) (x y : Int) : Prop := (hitP s t x y ↔ c.Hail = true) ∧ inR c.Size (szN s t x y)
open Classical in
theorem rR_inner {s : Stm} (h : VS0 s) (hm : ¬ ManyS s) {t : Trh} (ht : isT s t) {c : Crd} (hc : CV s c) {x : Int} (hx : inR c.X x) {K : Bool → Int → Option Bool} : ∀ (d m : Nat) (y : Int) (b : Bool), c.Y.Lo ≤ y → y + m = c.Y.Hi + 1 → m < d →
  prRight_L1 s t c x K d b y = if ∃ y', y ≤ y' ∧ y' ≤ c.Y.Hi ∧ RR s t c x y' then some true else K b (x + 1)
 | 0, m, _, _, _, _, h => by omega
 | d + 1, m, y, b, hy, hm', hd => by
  obtain ⟨⟨hX, hY⟩, hS, hH⟩ := id hc
  obtain ⟨g1, g2, _⟩ := not_many hm
  unfold Wi at hX hY
  dsimp only at hX hY
  have hx' := hx
  unfold inR at hx'
  unfold prRight_L1
  cases m with
  | zero => rw [if_neg (by omega), gd_pos (fI (by omega)), if_neg fun ⟨y', q1, q2, _⟩ => by omega]
  | succ m =>
   have hg : gr s x y := by unfold gr; omega
   have ih := rR_inner h hm ht hc hx (K := K) d m (y + 1) b (by omega) (by omega) (by omega)
   have nx : ¬ RR s t c x y → (gd (fitsP .i64 (y + 1)) (prRight_L1 s t c x K d b (y + 1))) = if ∃ y', y ≤ y' ∧ y' ≤ c.Y.Hi ∧ RR s t c x y' then some true else K b (x + 1) := fun hn => by
    rw [gd_pos (fI (by omega)), ih]
    by_cases he : ∃ y', y + 1 ≤ y' ∧ y' ≤ c.Y.Hi ∧ RR s t c x y'
    ·obtain ⟨y', q1, q2, q3⟩ := he
     rw [if_pos ⟨y', q1, q2, q3⟩, if_pos ⟨y', by omega, q2, q3⟩]
    ·rw [if_neg he, if_neg fun ⟨y', q1, q2, q3⟩ => he ⟨y', by
      rcases Int.lt_or_eq_of_le q1 with h9 | h9
      ·omega
      ·rw [← h9] at q3; exact absurd q3 hn, q2, q3⟩]
   have yes : RR s t c x y → some true = if ∃ y', y ≤ y' ∧ y' ≤ c.Y.Hi ∧ RR s t c x y' then some true else K b (x + 1) := fun hh => by
    rw [if_pos ⟨y, Int.le_refl _, by omega, hh⟩]
   rw [if_pos (by omega)]
   by_cases hl : c.Hail = true
   ·rw [if_pos hl, rHit_ev h hm ht hg, obs]
    by_cases hh : hitP s t x y
    ·rw [if_pos (decide_eq_true hh), rSize_eq h hm ht hg, obs]
     obtain ⟨b', q1, q2⟩ := In_ev (n := szN s t x y) (lo := c.Size.Lo) (hi := c.Size.Hi)
     rw [q1, obs]
     cases b' with
     | true => rw [if_pos rfl]; exact yes ⟨⟨fun _ => hl, fun _ => hh⟩, q2.1 rfl⟩
     | false => rw [if_neg (by simp)]; exact nx fun q => by have := q2.2 q.2; cases this
    ·rw [if_neg (by rw [decide_eq_false hh]; simp)]; exact nx fun q => hh (q.1.2 hl)
   ·have hsz : c.Size = ⟨0, 0⟩ := hH.resolve_left hl
    rw [if_neg hl, rHit_ev h hm ht hg, obs]
    by_cases hh : hitP s t x y
    ·rw [if_pos (decide_eq_true hh)]; exact nx fun q => hl (q.1.1 hh)
    ·rw [if_neg (by rw [decide_eq_false hh]; simp)]
     refine yes ⟨⟨fun q => absurd q hh, fun q => absurd q hl⟩, ?_⟩
     have : szN s t x y = 0 := by unfold szN; rw [if_neg hh]
     rw [this, hsz]; unfold inR; dsimp only; omega
theorem rRight_ev {s : Stm} (h : VS0 s) (hm : ¬ ManyS s) {t : Trh} (ht : isT s t) {c : Crd} (hc : CV s c) : Ev (prRight s t c) (RT s t c) := by
 obtain ⟨⟨hX, hY⟩, _⟩ := id hc
 obtain ⟨g1, g2, _⟩ := not_many hm
 unfold Wi at hX hY
 dsimp only at hX hY
 have go : ∀ (d m : Nat) (x : Int) (b : Bool), c.X.Lo ≤ x → x + m = c.X.Hi + 1 → m < d → Ev (prRight_L0 s t c d b x) (∃ x', x ≤ x' ∧ x' ≤ c.X.Hi ∧ ∃ y', c.Y.Lo ≤ y' ∧ y' ≤ c.Y.Hi ∧ RR s t c x' y') := by
  intro d
  induction d with
  | zero => intro m _ _ _ _ h; omega
  | succ d ih =>
   intro m x b hx hm' hd
   unfold prRight_L0
   cases m with
   | zero => rw [if_neg (by omega)]; exact Ev.ff fun ⟨x', q1, q2, _⟩ => by omega
   | succ m =>
    rw [if_pos (by omega), rR_inner h hm ht hc (x := x) (by unfold inR; omega) 1000000 (c.Y.Hi + 1 - c.Y.Lo).toNat c.Y.Lo b (Int.le_refl _) (by omega) (by omega)]
    by_cases he : ∃ y', c.Y.Lo ≤ y' ∧ y' ≤ c.Y.Hi ∧ RR s t c x y'
    ·rw [if_pos he]; exact Ev.tt ⟨x, Int.le_refl _, by omega, he⟩
    ·rw [if_neg he]
     exact (ih m (x + 1) b (by omega) (by omega) (by omega)).imp ⟨fun ⟨x', q1, q2, q3⟩ => ⟨x', by omega, q2, q3⟩, fun ⟨x', q1, q2, q3⟩ => ⟨x', by
      rcases Int.lt_or_eq_of_le q1 with h9 | h9
      ·omega
      ·rw [← h9] at q3; exact absurd q3 he, q2, q3⟩⟩
 unfold prRight
 exact (go 1000000 (c.X.Hi + 1 - c.X.Lo).toNat c.X.Lo false (Int.le_refl _) (by omega) (by omega)).imp ⟨fun ⟨x, q1, q2, y, q3, q4, q5⟩ => ⟨x, y, ⟨⟨q1, q2⟩, q3, q4⟩, q5⟩, fun ⟨x, y, ⟨⟨q1, q2⟩, q3, q4⟩, q5⟩ => ⟨x, q1, q2, y, q3, q4, q5⟩⟩
end
end Go.Proofs.Ytbnfnhfanooplaa

namespace Go.Proofs.Ytbnfnhfanooplaa
open _root_.Go.Proofs.Try
open Go.Abs Go.Abs.Grow
set_option maxRecDepth 100000
noncomputable section
def macc (S : Nat → Bool) : Nat → Nat
 | 0 => 0
 | i + 1 => if S i = true then macc S i ||| 2 ^ i else macc S i
theorem macc_bit (S : Nat → Bool) (j : Nat) : ∀ i, (macc S i).testBit j = (decide (j < i) && S j)
 | 0 => by simp [macc]
 | i + 1 => by
  have ih := macc_bit S j i
  unfold macc
  by_cases hs : S i = true
  ·rw [if_pos hs, Nat.testBit_or, ih, Nat.testBit_two_pow]
   by_cases h : i = j
   ·subst h; simp [hs]
   ·have : decide (j < i + 1) = decide (j < i) := decide_eq_decide.2 (by omega)
    rw [this]; simp [h]
  ·rw [if_neg hs, ih]
   by_cases h : i = j
   ·subst h
    have : S i = false := by simpa using hs
    rw [this]; simp
   ·have : decide (j < i + 1) = decide (j < i) := decide_eq_decide.2 (by omega)
    rw [this]
theorem macc_lt (S : Nat → Bool) (i : Nat) : macc S i < 2 ^ i := by
 apply Nat.lt_pow_two_of_testBit
 intro j hj
 rw [macc_bit, decide_eq_false (by omega)]; rfl
def allN (s : Stm) (t : Trh) : Nat := macc (SB s t) s.Cards.length
theorem all_L1 {s : Stm} (h : VS s) {n : Int} (h0 : 0 ≤ n) (hn : n < manyN s) {l : List Int} {K : List Int → Int → Option (List Int)} (hl : l.length < 1048576) : ∀ (d i : Nat), i ≤ s.Cards.length → s.Cards.length - i < d →
  prAll_L1 s l n K d (macc (SB s (nthT s n)) i : Int) (i : Int) = K (l ++ [(allN s (nthT s n) : Int)]) (n + 1)
 | 0, i, _, hd => by omega
 | d + 1, i, hi, hd => by
  obtain ⟨_, _, h3⟩ := not_many h.many
  have hmr := many_rng h.toVS0 h.many
  unfold prAll_L1
  by_cases hin : i = s.Cards.length
  ·rw [if_neg (by omega), gd_pos hl, gd_pos (fI (by omega)), hin]; rfl
  have hlt : i < s.Cards.length := by omega
  have hg := List.getElem?_eq_getElem hlt
  have hc := h.cards _ (List.getElem_mem hlt)
  generalize s.Cards[i] = c at hg hc
  have ht := nth_isT h.toVS0 h.many h0 hn
  have ih := all_L1 h h0 hn (K := K) hl d (i + 1) (by omega) (by omega)
  have hSB : SB s (nthT s n) i = true ↔ RT s (nthT s n) c := SB_iff.trans ⟨fun ⟨c', q1, q2⟩ => by rw [hg] at q1; cases q1; exact q2, fun q => ⟨c, hg, q⟩⟩
  have hb := macc_lt (SB s (nthT s n)) i
  have hp := pow6 (i := i) (by omega)
  have hp2 := pow6 (i := i + 1) (by omega)
  have hb2 := macc_lt (SB s (nthT s n)) (i + 1)
  have hpow : (1 : Int) * 2 ^ (Int.toNat (wrapZ .u64 (i : Int))) = ((2 ^ i : Nat) : Int) := by rw [wu (by omega), pow_cast, Int.one_mul]
  rw [if_pos (by omega), rNth_eq h.toVS0 h.many h0 hn, obs, idx_at hg, obs]
  obtain ⟨b, q1, q2⟩ := rRight_ev h.toVS0 h.many ht hc
  rw [q1, obs, show (i : Int) + 1 = ((i + 1 : Nat) : Int) by omega]
  by_cases hr : RT s (nthT s n) c
  ·have hm : Nat.lor (macc (SB s (nthT s n)) i) (2 ^ i) = macc (SB s (nthT s n)) (i + 1) := by
    conv => rhs; unfold macc
    rw [if_pos (hSB.2 hr)]; rfl
   rw [if_pos (q2.2 hr), hpow, Int.toNat_natCast, Int.toNat_natCast, hm, wu (by omega), gd_pos (by omega), gd_pos (by omega), gd_pos (by omega), gd_pos (fI (by omega)), gd_pos (by omega), gd_pos (by omega), gd_pos (fI (by omega)), gd_pos (fI (by omega)), gd_pos (fI (by omega)), gd_pos (fI (by omega))]
   exact ih
  ·have hm : macc (SB s (nthT s n)) (i + 1) = macc (SB s (nthT s n)) i := by
    conv => lhs; unfold macc
    rw [if_neg fun q => hr (hSB.1 q)]
   rw [if_neg fun q => hr (q2.1 q), gd_pos (fI (by omega)), ← hm]
   exact ih
def allL' (s : Stm) : List Int := (segI 0 (manyN s).toNat).map fun n => ((allN s (nthT s n) : Nat) : Int)
theorem rAll_eq {s : Stm} (h : VS s) : prAll s = some (allL' s) := by
 obtain ⟨_, _, h3⟩ := not_many h.many
 have hmr := (many_rng h.toVS0 h.many).2.2.2.2.2.2
 have key : ∀ (d m : Nat) (n : Int) (acc : List Int), 0 ≤ n → n + m = manyN s → m < d → acc.length = n.toNat → prAll_L0 s d acc n = some (acc ++ (segI n m).map fun n => ((allN s (nthT s n) : Nat) : Int)) := by
  intro d
  induction d with
  | zero => intro m n acc _ _ h; omega
  | succ d ih =>
   intro m n acc h0 hm hd hacc
   unfold prAll_L0
   rw [rMany_eq h.toVS0 h.many, obs]
   cases m with
   | zero => rw [if_neg (by omega)]; simp [segI]
   | succ m =>
    rw [if_pos (by omega)]
    have := all_L1 h h0 (by omega) (l := acc) (K := prAll_L0 s d) (by omega) 1000000 0 (Nat.zero_le _) (by omega)
    refine Eq.trans this ?_
    rw [ih m (n + 1) _ (by omega) (by omega) (by omega) (by rw [List.length_append, hacc]; simp only [List.length_cons, List.length_nil]; omega), List.append_assoc]
    rfl
 unfold prAll
 have := key 1000000 (manyN s).toNat 0 [] (Int.le_refl _) (by omega) (by omega) rfl
 rw [this, List.nil_append]; rfl
theorem allL_len {s : Stm} : (allL' s).length = (manyN s).toNat := by unfold allL'; rw [List.length_map, segI_len]
theorem allL_get {s : Stm} {n : Nat} (hn : (n : Int) < manyN s) : (allL' s)[n]? = some ((allN s (nthT s n) : Nat) : Int) := by
 unfold allL'
 rw [List.getElem?_map, segI_get (by omega), Int.zero_add]; rfl
end
end Go.Proofs.Ytbnfnhfanooplaa

namespace Go.Proofs.Ytbnfnhfanooplaa
open _root_.Go.Proofs.Try
open Go.Abs Go.Abs.Grow
set_option maxRecDepth 100000
noncomputable section
theorem land_iff {n b : Nat} : Nat.land n b = b ↔ ∀ j, b.testBit j = true → n.testBit j = true := by
 constructor
 ·intro h j hj
  have : (n &&& b).testBit j = true := by rw [show n &&& b = b from h]; exact hj
  rw [Nat.testBit_and, Bool.and_eq_true] at this
  exact this.1
 ·intro h
  apply Nat.eq_of_testBit_eq
  intro j
  show (n &&& b).testBit j = _
  rw [Nat.testBit_and]
  cases hb : b.testBit j with
  | false => simp
  | true => rw [h j hb]; rfl
theorem rCan_ev {s : Stm} (h : VS s) {b : Nat} (hb : b < 2 ^ s.Cards.length) : Ev (prCan (allL' s) (b : Int)) (CanS s fun j => b.testBit j) := by
 obtain ⟨_, _, h3⟩ := not_many h.many
 have hp6 := pow6 h3
 have hfew := h.few
 have hmr := (many_rng h.toVS0 h.many).2.2.2.2.2.2
 have hlen := allL_len (s := s)
 have hok : ∀ t, isT s t → (Nat.land (allN s t) b = b ↔ ∀ j, b.testBit j = true → ∀ c, s.Cards[j]? = some c → RT s t c) := fun t _ => by
  rw [land_iff]
  constructor
  ·intro q j hj c hc
   have := q j hj
   unfold allN at this
   rw [macc_bit, Bool.and_eq_true] at this
   obtain ⟨c', q1, q2⟩ := SB_iff.1 this.2
   rw [hc] at q1; cases q1; exact q2
  ·intro q j hj
   have hjl : j < s.Cards.length := by
    rcases Nat.lt_or_ge j s.Cards.length with h1 | h1
    ·exact h1
    ·rw [Nat.testBit_lt_two_pow (Nat.lt_of_lt_of_le hb (Nat.pow_le_pow_right (by omega) h1))] at hj; cases hj
   unfold allN
   rw [macc_bit, decide_eq_true hjl, Bool.true_and]
   exact SB_iff.2 ⟨_, List.getElem?_eq_getElem hjl, q j hj _ (List.getElem?_eq_getElem hjl)⟩
 have go : ∀ (d i : Nat), i ≤ (allL' s).length → (allL' s).length - i < d → Ev (prCan_L0 (allL' s) (b : Int) d (i : Int)) (∃ j : Nat, i ≤ j ∧ j < (allL' s).length ∧ Nat.land (allN s (nthT s (j : Int))) b = b) := by
  intro d
  induction d with
  | zero => intro i _ h; omega
  | succ d ih =>
   intro i hi hd
   unfold prCan_L0
   by_cases hin : i = (allL' s).length
   ·rw [if_neg (by omega)]; exact Ev.ff fun ⟨j, q1, q2, _⟩ => by omega
   ·have hg := allL_get (s := s) (n := i) (by omega)
    have hb2 := macc_lt (SB s (nthT s (i : Int))) s.Cards.length
    have hle : Nat.land (allN s (nthT s (i : Int))) b ≤ b := Nat.and_le_right
    have ih' := ih (i + 1) (by omega) (by omega)
    have ha : allN s (nthT s (i : Int)) < 2 ^ s.Cards.length := hb2
    have hS : (∃ j : Nat, i + 1 ≤ j ∧ j < (allL' s).length ∧ Nat.land (allN s (nthT s (j : Int))) b = b) → ∃ j : Nat, i ≤ j ∧ j < (allL' s).length ∧ Nat.land (allN s (nthT s (j : Int))) b = b := fun ⟨j, q1, q2, q3⟩ => ⟨j, by omega, q2, q3⟩
    by_cases hq : Nat.land (allN s (nthT s (i : Int))) b = b
    ·rw [if_pos (by omega), idx_at hg, obs, Int.toNat_natCast, Int.toNat_natCast, hq, gd_pos (by omega), gd_pos (by omega), gd_pos (fI (by omega)), gd_pos (fI (by omega)), gd_pos (fI (by omega)), if_pos rfl]
     exact Ev.tt ⟨i, Nat.le_refl _, by omega, hq⟩
    ·rw [if_pos (by omega), idx_at hg, obs, Int.toNat_natCast, Int.toNat_natCast, gd_pos (by omega), gd_pos (by omega), gd_pos (fI (by omega)), gd_pos (fI (by omega)), gd_pos (fI (by omega)), if_neg (by omega), gd_pos (fI (by omega)), show (i : Int) + 1 = ((i + 1 : Nat) : Int) by omega]
     exact ih'.imp ⟨hS, fun ⟨j, q1, q2, q3⟩ => ⟨j, by
      rcases Nat.eq_or_lt_of_le q1 with h9 | h9
      ·subst h9; exact absurd q3 hq
      ·omega, q2, q3⟩⟩
 unfold prCan
 refine (go _ 0 (Nat.zero_le _) (by omega)).imp ⟨fun ⟨j, _, q2, q3⟩ => ?_, fun ⟨t, q1, q2⟩ => ?_⟩
 ·have ht := nth_isT h.toVS0 h.many (n := (j : Int)) (by omega) (by omega)
  exact ⟨_, ht, (hok _ ht).1 q3⟩
 ·obtain ⟨n, n1, n2, n3⟩ := isT_nth h.toVS0 h.many q1
  exact ⟨n.toNat, Nat.zero_le _, by omega, by rw [show ((n.toNat : Nat) : Int) = n by omega, n3]; exact (hok _ q1).2 q2⟩
theorem rFirst_go {s : Stm} (h : VS s) : ∀ (d i : Nat), i ≤ s.Cards.length → s.Cards.length - i < d → (∀ k, k < i → CanS s fun j => decide (j < k + 1)) →
  (∃ j, j < s.Cards.length ∧ (∀ k, k < j → CanS s fun i => decide (i < k + 1)) ∧ ¬ CanS s (fun k => decide (k < j + 1)) ∧ prFirst_L0 s (allL' s) d (i : Int) = some (j : Int)) ∨ ((∀ k, k < s.Cards.length → CanS s fun j => decide (j < k + 1)) ∧ prFirst_L0 s (allL' s) d (i : Int) = some (-1))
 | 0, i, _, h, _ => by omega
 | d + 1, i, hi, hd, hb => by
  obtain ⟨_, _, h3⟩ := not_many h.many
  unfold prFirst_L0
  by_cases hin : i = s.Cards.length
  ·rw [if_neg (by omega)]
   exact .inr ⟨fun k hk => hb k (by omega), rfl⟩
  ·have hp := pow6 (show i ≤ 6 by omega)
   have hp1 := pow6 (show i + 1 ≤ 6 by omega)
   have hp0 := Nat.two_pow_pos i
   have p1 : 2 ^ (i + 1) = 2 * 2 ^ i := by rw [Nat.pow_succ]; omega
   have hle : 2 ^ (i + 1) ≤ 2 ^ s.Cards.length := Nat.pow_le_pow_right (by omega) (by omega)
   have e2 : (2 : Int) * ((2 ^ i : Nat) : Int) - 1 = ((2 ^ (i + 1) - 1 : Nat) : Int) := by omega
   obtain ⟨b, q1, q2⟩ := rCan_ev h (b := 2 ^ (i + 1) - 1) (by omega)
   have q2 : b = true ↔ CanS s fun j => decide (j < i + 1) := q2.trans (CanS.congr fun k _ => by rw [Nat.testBit_two_pow_sub_one])
   rw [if_pos (by omega), wu (by omega), pow_cast, e2, gd_pos (by omega), gd_pos (by omega), gd_pos (by omega), gd_pos (fI (by omega)), gd_pos (fI (by omega)), q1, obs]
   cases b with
   | true =>
    rw [if_pos rfl, gd_pos (fI (by omega)), show (i : Int) + 1 = ((i + 1 : Nat) : Int) by omega]
    refine rFirst_go h d (i + 1) (by omega) (by omega) fun k hk => ?_
    by_cases h9 : k = i
    ·subst h9; exact q2.1 rfl
    ·exact hb k (by omega)
   | false =>
    rw [if_neg (by simp)]
    exact .inl ⟨i, by omega, hb, fun q => (by have := q2.2 q; cases this), rfl⟩
end
end Go.Proofs.Ytbnfnhfanooplaa

namespace Go.Proofs.Ytbnfnhfanooplaa
open _root_.Go.Proofs.Try
open Go.Abs Go.Abs.Grow
set_option maxRecDepth 100000
noncomputable section
theorem rLeave_go {s : Stm} (h : VS s) : ∀ (d x : Nat) (best : List Int), x ≤ 2 ^ s.Cards.length → 2 ^ s.Cards.length - x < d → Inc s.Cards.length 0 best → (CanS s fun j => !inD best j) → (∀ b, b < x → (CanS s fun j => !b.testBit j) → bitsL b = best ∨ shB best (bitsL b) = true) →
  ∃ M, prLeave_L0 s (allL' s) d best (x : Int) = some M ∧ MinP s.Cards.length (fun S => CanS s fun j => !S j) M
 | 0, x, best, _, hd, _, _, _ => by omega
 | d + 1, x, best, hx, hd, h1, h2, h3 => by
  obtain ⟨_, _, h4⟩ := not_many h.many
  have hp := pow6 h4
  have hp0 := Nat.two_pow_pos s.Cards.length
  rw [prLeave_L0, rEvery_eq h4, obs]
  by_cases hxe : x = 2 ^ s.Cards.length
  ·rw [if_neg (by omega)]
   refine ⟨best, rfl, h1, h2, fun D hD hD2 => ?_⟩
   obtain ⟨b, hb, rfl⟩ := inc_bits (n := s.Cards.length) (by omega) hD
   exact h3 b (by omega) ((CanS.bits h4).1 hD2)
  ·have hl := len_bits (b := x)
   have hxl : x < 2 ^ s.Cards.length := by omega
   rw [if_pos (by omega), rBits_eq (by omega), obs, rShorter_eq (by omega), obs]
   have hi : Inc s.Cards.length 0 (bitsL x) := bits_inc (by omega) hxl
   have hnext : (x : Int) + 1 = ((x + 1 : Nat) : Int) := by omega
   obtain ⟨c1, c2⟩ := clear_bit (n := s.Cards.length) hxl
   cases hs : shB (bitsL x) best with
   | true =>
    rw [if_pos rfl, obs, gd_pos (by omega), gd_pos (by omega), gd_pos (fI (by omega)), gd_pos (fI (by omega)), Int.toNat_natCast, Int.toNat_natCast, gd_pos (fI (by omega))]
    have hc := (rCan_ev h (b := Nat.xor (2 ^ s.Cards.length - 1) (Nat.land (2 ^ s.Cards.length - 1) x)) c1).imp (CanS.congr c2)
    obtain ⟨c, hc1, hc2⟩ := hc
    rw [hc1, obs]
    cases c with
    | true =>
     rw [if_pos rfl, gd_pos (fI (by omega)), hnext]
     refine rLeave_go h d (x + 1) _ (by omega) (by omega) hi ((CanS.bits h4).2 (hc2.1 rfl)) fun b hb hbr => ?_
     rcases Nat.lt_or_ge b x with h5 | h5
     ·rcases h3 b h5 hbr with h6 | h6
      ·rw [h6]; exact .inr hs
      ·exact .inr (shB_trans hs h6)
     ·rw [show b = x by omega]; exact .inl rfl
    | false =>
     rw [if_neg (by simp), gd_pos (fI (by omega)), hnext]
     refine rLeave_go h d (x + 1) _ (by omega) (by omega) h1 h2 fun b hb hbr => ?_
     rcases Nat.lt_or_ge b x with h5 | h5
     ·exact h3 b h5 hbr
     ·rw [show b = x by omega] at hbr
      have := hc2.2 hbr
      cases this
   | false =>
    rw [if_neg (by simp), gd_pos (fI (by omega)), hnext]
    refine rLeave_go h d (x + 1) _ (by omega) (by omega) h1 h2 fun b hb hbr => ?_
    rcases Nat.lt_or_ge b x with h5 | h5
    ·exact h3 b h5 hbr
    ·rw [show b = x by omega]
     rcases shB_total (bitsL x) best with h6 | h6 | h6
     ·exact .inl h6
     ·rw [hs] at h6; cases h6
     ·exact .inr h6
theorem rLeave_eq {s : Stm} (h : VS s) : ∃ M, prLeave s (allL' s) = some M ∧ MinP s.Cards.length (fun S => CanS s fun j => !S j) M := by
 obtain ⟨_, _, h4⟩ := not_many h.many
 have hp := pow6 h4
 have hp0 := Nat.two_pow_pos s.Cards.length
 unfold prLeave
 rw [rEvery_eq h4, obs, rBits_eq (by omega), obs]
 refine rLeave_go h 1000000 0 _ (Nat.zero_le _) (by omega) (bits_inc (by omega) (by omega)) ?_ fun b hb => by omega
 exact (CanS.bits h4).2 (can_none h fun j hj => by rw [Nat.testBit_two_pow_sub_one, decide_eq_true hj]; rfl)
theorem can_in {s : Stm} {b : Nat} (hn : s.Cards.length ≤ 6) : CanS s (inD (bitsL b)) ↔ CanS s fun j => b.testBit j := CanS.congr fun j hj => inD_bits (n := s.Cards.length) (by omega) hj
theorem rClash_go {s : Stm} (h : VS s) : ∀ (d x : Nat) (best : List Int) (f : Bool), x ≤ 2 ^ s.Cards.length → 2 ^ s.Cards.length - x < d → (f = false → best = [] ∧ ∀ b, b < x → CanS s fun j => b.testBit j) → (f = true → Inc s.Cards.length 0 best ∧ ¬ CanS s (inD best) ∧ ∀ b, b < x → ¬ (CanS s fun j => b.testBit j) → bitsL b = best ∨ shB best (bitsL b) = true) →
  (∃ M, prClash_L0 s (allL' s) d best f (x : Int) = some (M, true) ∧ MinP s.Cards.length (fun S => ¬ CanS s S) M) ∨ (HT s ∧ prClash_L0 s (allL' s) d best f (x : Int) = some ([], false))
 | 0, x, best, _, _, hd, _, _ => by omega
 | d + 1, x, best, f, hx, hd, hf, ht => by
  obtain ⟨_, _, h4⟩ := not_many h.many
  have hp := pow6 h4
  have hp0 := Nat.two_pow_pos s.Cards.length
  rw [prClash_L0, rEvery_eq h4, obs]
  by_cases hxe : x = 2 ^ s.Cards.length
  ·rw [if_neg (by omega)]
   cases f with
   | true =>
    obtain ⟨a1, a2, a3⟩ := ht rfl
    refine .inl ⟨best, rfl, a1, a2, fun D hD hD2 => ?_⟩
    obtain ⟨b, hb, rfl⟩ := inc_bits (n := s.Cards.length) (by omega) hD
    exact a3 b (by omega) fun q => hD2 ((can_in h4).2 q)
   | false =>
    obtain ⟨rfl, a2⟩ := hf rfl
    exact .inr ⟨HT_can.2 ((CanS.congr fun j hj => by rw [Nat.testBit_two_pow_sub_one, decide_eq_true hj]).1 (a2 (2 ^ s.Cards.length - 1) (by omega))), rfl⟩
  ·have hl := len_bits (b := x)
   have hxl : x < 2 ^ s.Cards.length := by omega
   have hi : Inc s.Cards.length 0 (bitsL x) := bits_inc (by omega) hxl
   have hnext : (x : Int) + 1 = ((x + 1 : Nat) : Int) := by omega
   obtain ⟨c, hc1, hc2⟩ := rCan_ev h hxl
   rw [if_pos (by omega), rBits_eq (by omega), obs]
   cases f with
   | true =>
    obtain ⟨a1, a2, a3⟩ := ht rfl
    rw [if_pos rfl, rShorter_eq (by omega), obs]
    have keep : (¬ (CanS s fun j => x.testBit j) → bitsL x = best ∨ shB best (bitsL x) = true) → ∀ b, b < x + 1 → ¬ (CanS s fun j => b.testBit j) → bitsL b = best ∨ shB best (bitsL b) = true := fun q b hb hbr => by
     rcases Nat.lt_or_ge b x with h5 | h5
     ·exact a3 b h5 hbr
     ·have : b = x := by omega
      subst this; exact q hbr
    cases hs : shB (bitsL x) best with
    | true =>
     rw [if_pos rfl, hc1, obs]
     cases c with
     | true =>
      rw [if_pos rfl, gd_pos (fI (by omega)), hnext]
      exact rClash_go h d (x + 1) best true (by omega) (by omega) (fun q => by cases q) fun _ => ⟨a1, a2, keep fun q => absurd (hc2.1 rfl) q⟩
     | false =>
      rw [if_neg (by simp), gd_pos (fI (by omega)), hnext]
      refine rClash_go h d (x + 1) _ true (by omega) (by omega) (fun q => by cases q) fun _ => ⟨hi, fun q => (by have := hc2.2 ((can_in h4).1 q); cases this), fun b hb hbr => ?_⟩
      rcases Nat.lt_or_ge b x with h5 | h5
      ·rcases a3 b h5 hbr with h6 | h6
       ·rw [h6]; exact .inr hs
       ·exact .inr (shB_trans hs h6)
      ·rw [show b = x by omega]; exact .inl rfl
    | false =>
     rw [if_neg (by simp), gd_pos (fI (by omega)), hnext]
     refine rClash_go h d (x + 1) best true (by omega) (by omega) (fun q => by cases q) fun _ => ⟨a1, a2, keep fun _ => ?_⟩
     rcases shB_total (bitsL x) best with h6 | h6 | h6
     ·exact .inl h6
     ·rw [hs] at h6; cases h6
     ·exact .inr h6
   | false =>
    obtain ⟨rfl, a2⟩ := hf rfl
    rw [if_neg (by simp), hc1, obs]
    cases c with
    | true =>
     rw [if_pos rfl, gd_pos (fI (by omega)), hnext]
     refine rClash_go h d (x + 1) [] false (by omega) (by omega) (fun _ => ⟨rfl, fun b hb => ?_⟩) fun q => by cases q
     rcases Nat.lt_or_ge b x with h5 | h5
     ·exact a2 b h5
     ·have : b = x := by omega
      subst this; exact hc2.1 rfl
    | false =>
     rw [if_neg (by simp), gd_pos (fI (by omega)), hnext]
     refine rClash_go h d (x + 1) _ true (by omega) (by omega) (fun q => by cases q) fun _ => ⟨hi, fun q => (by have := hc2.2 ((can_in h4).1 q); cases this), fun b hb hbr => ?_⟩
     rcases Nat.lt_or_ge b x with h5 | h5
     ·exact absurd (a2 b h5) hbr
     ·rw [show b = x by omega]; exact .inl rfl
theorem rClash_eq {s : Stm} (h : VS s) : (∃ M, prClash s (allL' s) = some (M, true) ∧ MinP s.Cards.length (fun S => ¬ CanS s S) M) ∨ (HT s ∧ prClash s (allL' s) = some ([], false)) := by
 have hp0 := Nat.two_pow_pos s.Cards.length
 have hp := pow6 (not_many h.many).2.2
 have := rClash_go h 1000000 1 [] false (by omega) (by omega) (fun _ => ⟨rfl, fun b hb => can_none h fun j _ => by rw [show b = 0 by omega]; exact Nat.zero_testBit j⟩) fun q => by cases q
 exact this
theorem rFirst_eq {s : Stm} (h : VS s) : (∃ j, j < s.Cards.length ∧ (∀ k, k < j → CanS s fun i => decide (i < k + 1)) ∧ ¬ CanS s (fun k => decide (k < j + 1)) ∧ prFirst s (allL' s) = some (j : Int)) ∨ ((∀ k, k < s.Cards.length → CanS s fun j => decide (j < k + 1)) ∧ prFirst s (allL' s) = some (-1)) :=
 rFirst_go h 1000000 0 (Nat.zero_le _) (by have := (not_many h.many).2.2; omega) fun k hk => by omega
theorem m_StormLeaves {s : Stm} (_hs : ok_Stm s) : pStormLeaves s = some true := by
 unfold pStormLeaves
 refine thin_ev.pick (fun ht => ?_) fun _ => by rw [if_neg (by simp), aw]
 have hf : plFault s = some (faultN s) := by unfold plFault; rw [rFault_eq]; rfl
 rw [if_pos rfl, lStorm_eq ht.1]
 simp only [obs, hf]
 by_cases h0 : faultN s = 0
 ·have h := fault_zero.1 h0
  obtain ⟨_, _, h3⟩ := not_many h.many
  obtain ⟨M, q1, q2⟩ := Leave_eq h
  obtain ⟨M', q3, q4⟩ := rLeave_eq h
  have hM : M' = M := q4.uniq q2
  subst hM
  have hMl := inc_len q2.inc
  have full : (∀ i, i < s.Cards.length → CanS s fun k => decide (k < i + 1)) → HT s := fun q => by
   rw [HT_can]
   by_cases hn : s.Cards.length = 0
   ·exact can_none h fun j hj => by omega
   ·exact (CanS.congr fun j hj => decide_eq_true (by omega)).1 (q (s.Cards.length - 1) (by omega))
  by_cases hT : HT s
  ·have hF : pFirst s = some (0, 7) := by
    rcases First_eq h with ⟨j, hj, _, h2, _⟩ | ⟨_, h2⟩
    ·exact absurd (CanS.mono (fun _ _ => rfl) (HT_can.1 hT)) h2
    ·exact h2
   have hC : prClash s (allL' s) = some ([], false) := by
    rcases rClash_eq h with ⟨C, _, c2⟩ | ⟨_, c2⟩
    ·exact absurd (CanS.mono (fun _ _ => rfl) (HT_can.1 hT)) c2.ok
    ·exact c2
   rw [hF, obs, q1, obs, Clash_ok h hT, obs, if_pos h0, rAll_eq h, obs, if_pos rfl, q3, obs, lInts_self (by dsimp only; omega), obs, if_pos rfl, hC, obs, if_neg (by simp), if_pos rfl, if_pos rfl, if_pos rfl, if_pos (show ((([] : List Int).length : Nat) : Int) = 0 from rfl), aw]
  ·obtain ⟨C, c1, c2⟩ := Clash_eq h hT
   obtain ⟨C', c3, c4⟩ : ∃ C', prClash s (allL' s) = some (C', true) ∧ MinP s.Cards.length (fun S => ¬ CanS s S) C' := by
    rcases rClash_eq h with h9 | ⟨h9, _⟩
    ·exact h9
    ·exact absurd h9 hT
   have hC : C' = C := c4.uniq c2
   subst hC
   have hCl := inc_len c2.inc
   obtain ⟨j, j1, j2, j3, j4⟩ : ∃ j, j < s.Cards.length ∧ (∀ i, i < j → CanS s fun k => decide (k < i + 1)) ∧ ¬ CanS s (fun k => decide (k < j + 1)) ∧ pFirst s = some ((j : Int), 0) := by
    rcases First_eq h with h9 | ⟨h9, _⟩
    ·exact h9
    ·exact absurd (full h9) hT
   obtain ⟨i, i1, i2, i3, i4⟩ : ∃ j, j < s.Cards.length ∧ (∀ k, k < j → CanS s fun i => decide (i < k + 1)) ∧ ¬ CanS s (fun k => decide (k < j + 1)) ∧ prFirst s (allL' s) = some (j : Int) := by
    rcases rFirst_eq h with h9 | ⟨h9, _⟩
    ·exact h9
    ·exact absurd (full h9) hT
   have hij : i = j := by
    rcases Nat.lt_trichotomy i j with h9 | h9 | h9
    ·exact absurd (j2 i h9) i3
    ·exact h9
    ·exact absurd (i2 j h9) j3
   subst hij
   rw [j4, obs, q1, obs, c1, obs, if_pos h0, rAll_eq h, obs, if_pos rfl, q3, obs, lInts_self (by dsimp only; omega), obs, if_pos rfl, c3, obs, if_pos rfl, if_pos rfl, i4, obs, if_pos rfl, if_pos rfl, lInts_self (by dsimp only; omega), obs, if_pos rfl, aw]
 ·rw [First_bad h0, obs, Leave_bad h0, obs, Clash_bad h0, obs, if_neg h0, if_pos rfl, if_pos rfl, if_pos rfl, if_pos rfl, gd_pos (fI (by simp only [List.length_nil]; omega)), if_pos (by simp), aw]
end
end Go.Proofs.Ytbnfnhfanooplaa

namespace Go.Proofs.Ytbnfnhfanooplaa
open _root_.Go.Proofs.Try
open Go.ChangeShapes Go.WideShapes Go.ChangeAt Go.RowKit Go.Abs
set_option maxRecDepth 100000
theorem op3 : Opens prog 3 Int (fitsP .i64) := opens_int (by kernel_rfl)
theorem op23 : Opens prog 23 Rg ok_Rg := opens_struct (fs := [(3, 0), (3, 1)]) (by kernel_rfl) (by kernel_rfl) (opensFs_cons (α := Int) (ok := fitsP .i64) (k := 1) op3 (by kernel_rfl) rfl (opensFs_cons (α := Int) (ok := fitsP .i64) (k := 1) op3 (by kernel_rfl) rfl opensFs_nil)) (by kernel_rfl) fun m vs h => by
 obtain ⟨a0, c0, r0, m0, h0, p0, k0, s0, ⟨a1, c1, r1, m1, h1, p1, k1, s1, rfl⟩⟩ := h
 have p0 : c0 = [.int .i64 a0] := p0; subst p0
 have p1 : c1 = [.int .i64 a1] := p1; subst p1
 subst h1 h0
 exact ⟨⟨a0, a1⟩, rfl, ⟨k0, k1⟩⟩
theorem op4 : Opens prog 4 Bool (fun _ => True) := opens_bool (by kernel_rfl)
theorem op97 : Opens prog 97 Crd ok_Crd := opens_struct (fs := [(23, 0), (23, 2), (4, 4), (23, 5)]) (by kernel_rfl) (by kernel_rfl) (opensFs_cons (α := Rg) (ok := ok_Rg) (k := 2) op23 (by kernel_rfl) rfl (opensFs_cons (α := Rg) (ok := ok_Rg) (k := 2) op23 (by kernel_rfl) rfl (opensFs_cons (α := Bool) (ok := (fun _ => True)) (k := 1) op4 (by kernel_rfl) rfl (opensFs_cons (α := Rg) (ok := ok_Rg) (k := 2) op23 (by kernel_rfl) rfl opensFs_nil)))) (by kernel_rfl) fun m vs h => by
 obtain ⟨a0, c0, r0, m0, h0, p0, k0, s0, ⟨a1, c1, r1, m1, h1, p1, k1, s1, ⟨a2, c2, r2, m2, h2, p2, k2, s2, ⟨a3, c3, r3, m3, h3, p3, k3, s3, rfl⟩⟩⟩⟩ := h
 have p0 : c0 = [.int .i64 a0.Lo, .int .i64 a0.Hi] := p0; subst p0
 have p1 : c1 = [.int .i64 a1.Lo, .int .i64 a1.Hi] := p1; subst p1
 have p2 : c2 = [.bool a2] := p2; subst p2
 have p3 : c3 = [.int .i64 a3.Lo, .int .i64 a3.Hi] := p3; subst p3
 subst h3 h2 h1 h0
 exact ⟨⟨a0, a1, a2, a3⟩, rfl, ⟨k0, k1, k2, k3⟩⟩
theorem op24 : Opens prog 24 (List Crd) (fun l => l.length ≤ maxLen ∧ ∀ a0 ∈ l, ok_Crd a0) := opens_slice (by kernel_rfl) (by kernel_rfl) op97
theorem op26 : Opens prog 26 Stm ok_Stm := opens_struct (fs := [(3, 0), (3, 1), (3, 2), (23, 3), (23, 5), (23, 7), (23, 9), (24, 11)]) (by kernel_rfl) (by kernel_rfl) (opensFs_cons (α := Int) (ok := fitsP .i64) (k := 1) op3 (by kernel_rfl) rfl (opensFs_cons (α := Int) (ok := fitsP .i64) (k := 1) op3 (by kernel_rfl) rfl (opensFs_cons (α := Int) (ok := fitsP .i64) (k := 1) op3 (by kernel_rfl) rfl (opensFs_cons (α := Rg) (ok := ok_Rg) (k := 2) op23 (by kernel_rfl) rfl (opensFs_cons (α := Rg) (ok := ok_Rg) (k := 2) op23 (by kernel_rfl) rfl (opensFs_cons (α := Rg) (ok := ok_Rg) (k := 2) op23 (by kernel_rfl) rfl (opensFs_cons (α := Rg) (ok := ok_Rg) (k := 2) op23 (by kernel_rfl) rfl (opensFs_cons (α := List Crd) (ok := (fun l => l.length ≤ maxLen ∧ ∀ a0 ∈ l, ok_Crd a0)) (k := 1) op24 (by kernel_rfl) rfl opensFs_nil)))))))) (by kernel_rfl) fun m vs h => by
 obtain ⟨a0, c0, r0, m0, h0, p0, k0, s0, ⟨a1, c1, r1, m1, h1, p1, k1, s1, ⟨a2, c2, r2, m2, h2, p2, k2, s2, ⟨a3, c3, r3, m3, h3, p3, k3, s3, ⟨a4, c4, r4, m4, h4, p4, k4, s4, ⟨a5, c5, r5, m5, h5, p5, k5, s5, ⟨a6, c6, r6, m6, h6, p6, k6, s6, ⟨a7, c7, r7, m7, h7, p7, k7, s7, rfl⟩⟩⟩⟩⟩⟩⟩⟩ := h
 have p0 : c0 = [.int .i64 a0] := p0; subst p0
 have p1 : c1 = [.int .i64 a1] := p1; subst p1
 have p2 : c2 = [.int .i64 a2] := p2; subst p2
 have p3 : c3 = [.int .i64 a3.Lo, .int .i64 a3.Hi] := p3; subst p3
 have p4 : c4 = [.int .i64 a4.Lo, .int .i64 a4.Hi] := p4; subst p4
 have p5 : c5 = [.int .i64 a5.Lo, .int .i64 a5.Hi] := p5; subst p5
 have p6 : c6 = [.int .i64 a6.Lo, .int .i64 a6.Hi] := p6; subst p6
 obtain ⟨d7, rfl, p7⟩ := p7
 subst h7 h6 h5 h4 h3 h2 h1 h0
 exact ⟨⟨a0, a1, a2, a3, a4, a5, a6, a7⟩, ⟨_, rfl, p7⟩, ⟨k0, k1, k2, k3, k4, k5, k6, k7⟩⟩
theorem laid : laidOutB prog = true := by kernel_rfl
theorem ownNone : ownKnob prog.godebug = none := by kernel_rfl
theorem StormLeaves_lifted (os : Os) (started : os.Started) (H : Type) (enc : TypeId × Value → H) :
    ReturnsInHanded {} Try.checked os 5 .any (Rows.stormLeavesSpec.pre6 enc Try.prog Try.f5 Rows.stormLeavesRow.domain false) (Rows.stormLeavesSpec.post enc Try.prog Try.f5 false true false false) := by
  refine returnsInHanded_of_change (C := Try.checked) ownNone started (by kernel_rfl) Try.func5
    (ChangeSpec.witness6 (enc := enc) (C := Try.checked) false ⟨#[], #[.agg #[.int .i64 0, .int .i64 0, .int .i64 0, .int .i64 0, .int .i64 0, .int .i64 0, .int .i64 0, .int .i64 0, .int .i64 0, .int .i64 0, .int .i64 0, .slice none 0 0]], []⟩ 8 (by kernel_rfl) (by kernel_rfl) (by kernel_rfl) (by kernel_rfl)) ?_
  intro W base args ds gs before hval0 hW hcnd _
  have hval : ∀ (j : Nat) t v, Try.f5.params[j]? = some t → args[j]? = some v → Value.okWide Try.prog W .any base t v := hval0
  have hW' := hW
  obtain ⟨p, q, hA0, hV, rfl, hfz, hnd⟩ := hW
  have hA : DataW.TrodAll enc Try.prog W 0 (fun _ => true) true Try.f5.params.toList args.toList ds p := hA0
  rw [Try.params5] at hA hval
  obtain ⟨v0, d0, rfl, rfl, h0⟩ := trodAll_one hA
  obtain ⟨rfl, rfl⟩ := trodVars_none hV
  have hlt : ∀ x ∈ p, x.block < W.heap.size := fun x hx => by simpa using hW'.lt x (by simpa using hx)
  obtain ⟨fu0, hf0⟩ := id h0
  clear hA0 hval0
  obtain ⟨e0, m0, w0, a_0, le0, sv0, lay0, cr0, rep0, ok0⟩ := op26 H enc W true _ _ _ hf0 _ _ (Lay.nil W)
  obtain ⟨c0_11, rfl, g0_11⟩ := rep0
  obtain ⟨cs0, hv0, cl0⟩ : ∃ cs, v0 = .agg cs ∧ v0.cells.toList = cs.toList := by
    have hl := cr0.length
    cases v0 with
    | agg cs => exact ⟨cs, rfl, rfl⟩
    | _ => exact absurd hl (by simp [Value.cells])
  subst hv0
  have hargs : All2 (VR e0) [.agg 12 [.int .i64 a_0.Wide, .int .i64 a_0.High, .int .i64 a_0.Fall, .int .i64 a_0.A.Lo, .int .i64 a_0.A.Hi, .int .i64 a_0.B.Lo, .int .i64 a_0.B.Hi, .int .i64 a_0.Half.Lo, .int .i64 a_0.Half.Hi, .int .i64 a_0.Peak.Lo, .int .i64 a_0.Peak.Hi, c0_11]] [.agg cs0] := .cons ⟨cs0, rfl, cr0, rfl⟩ .nil
  refine (callsIn_wide.1 (call_of fits htab (s_StormLeaves (s := a_0) lay0.pre g0_11 (m_StormLeaves ok0) (Q := fun v _ => v = .c (.bool true)) fun _ _ => rfl) lay0.hr (args' := #[.agg cs0]) hargs 0)).mono fun en W' hp => ?_
  obtain ⟨v, v', e', m', rfl, hst, hvr, rfl⟩ := hp
  have hv' : v' = .bool true := hvr
  subst hv'
  have hbelow := lay0.below hst
  refine ⟨_, rfl, [d0], [], p, [], p, [], by simpa using hW', trodAll_mk1 (shut_bool Try.underlying4 _),
    trodAll_mk1 (Below.trod laid (by kernel_rfl) (of_decide_eq_true (by kernel_rfl)) h0 hbelow fun x hx => hlt x (by simp [hx])), rfl, lay0.kept hst _, fun hc => by cases hc⟩
theorem StormLeaves_holds : Rows.StormLeavesSaid :=
 OpenClaim.holds_of_wide 5 Try.f5 rfl rfl rfl rfl rfl rfl rfl ⟨rfl, rfl, rfl, rfl, rfl⟩ rfl rfl rfl rfl rfl (by kernel_rfl) Try.func5 (by kernel_rfl)
  (of_decide_eq_true (by kernel_rfl)) (by unfold Func.isWrapper; first | (rw [if_pos (by decide +kernel)]; kernel_rfl) | (rw [if_neg (by decide +kernel)]; exact ⟨rfl, rfl⟩))
  (fun os started H enc _ => StormLeaves_lifted os started H enc)
end Go.Proofs.Ytbnfnhfanooplaa

