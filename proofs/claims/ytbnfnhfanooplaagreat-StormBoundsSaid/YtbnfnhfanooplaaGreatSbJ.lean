/- StormBounds, for all that it can be called with, returns true. Condition: none. -/
import Derived.Test.YtbnfnhfanooplaaGreatSbI
import GoSem.Step
import GoSem.ClaimKeys
import Derived.DeepKeys2
import Derived.RangeFuncLeaves
import Derived.OrdersIn
import Derived.Laws.World
import Derived.Laws.Sem
import Derived.RangeFuncRecord
import Derived.Laws.CopyRow
import Derived.Laws.Append
import Derived.Laws.Rows
import Derived.Laws.Slices
import Derived.Laws.Entries
import Derived.ChangeKeysEq
import Derived.IntWalk
import Derived.DeepKeys
import Derived.DeepKeys3
import Derived.Laws.StructEq
import Derived.MapKept
import Derived.Laws.AppendOwn
import Derived.ChangeArms
import Derived.ChangeOld
import Derived.Carry
import Derived.ChangeShapes
import Derived.KernelRfl
import Derived.ProofKit
import Derived.Test.YtbnfnhfanooplaaGreatRows

namespace Go.Proofs.YtbnfnhfanooplaaGreat
open _root_.Go.Proofs.Tryz
open Go.Abs Go.Abs.Grow
set_option maxRecDepth 100000
noncomputable section
def Wi (r : Rg) (lo hi : Int) : Prop := lo ≤ r.Lo ∧ r.Lo ≤ r.Hi ∧ r.Hi ≤ hi
def inR (r : Rg) (n : Int) : Prop := r.Lo ≤ n ∧ n ≤ r.Hi
def cnt (r : Rg) : Int := r.Hi - r.Lo + 1
def rcOk (s : Stm) (r : Rct) : Prop := Wi r.X 0 (s.Wide - 1) ∧ Wi r.Y 0 (s.High - 1)
def CV (s : Stm) (c : Crd) : Prop := rcOk s ⟨c.X, c.Y⟩ ∧ Wi c.Size 0 9 ∧ (c.Hail = true ∨ c.Size = ⟨0, 0⟩)
def manyN (s : Stm) : Int := cnt s.A * cnt s.B * cnt s.Half * cnt s.Peak
def ManyS (s : Stm) : Prop := 12 < s.Wide ∨ 12 < s.High ∨ 6 < s.Cards.length
structure VS0 (s : Stm) : Prop where
 wide : 2 ≤ s.Wide
 high : 1 ≤ s.High
 fall : 0 ≤ s.Fall ∧ s.Fall ≤ 4
 a : Wi s.A 0 (s.High - 1)
 b : Wi s.B 0 (s.High - 1)
 half : Wi s.Half 0 3
 peak : Wi s.Peak 1 9
 cards : ∀ c ∈ s.Cards, CV s c
open Classical in
def faultN (s : Stm) : Int := if ManyS s then 3 else if VS0 s then (if manyN s ≤ 2000 then 0 else 3) else 1
structure VS (s : Stm) : Prop extends VS0 s where
 many : ¬ ManyS s
 few : manyN s ≤ 2000
theorem fault_zero {s : Stm} : faultN s = 0 ↔ VS s := by
 unfold faultN
 split
 ·rename_i h; exact ⟨fun h => by omega, fun h' => absurd h h'.many⟩
 ·rename_i h
  split
  ·rename_i h2
   split
   ·rename_i h3; exact ⟨fun _ => ⟨h2, h, h3⟩, fun _ => rfl⟩
   ·rename_i h3; exact ⟨fun h => by omega, fun h' => absurd h'.few h3⟩
  ·rename_i h2; exact ⟨fun h => by omega, fun h' => absurd h'.toVS0 h2⟩
theorem not_many {s : Stm} (h : ¬ ManyS s) : s.Wide ≤ 12 ∧ s.High ≤ 12 ∧ s.Cards.length ≤ 6 := by
 unfold ManyS at h; omega
theorem cnt_rng {r : Rg} {lo hi : Int} (h : Wi r lo hi) : 1 ≤ cnt r ∧ cnt r ≤ hi - lo + 1 := by unfold Wi at h; unfold cnt; omega
theorem Wi.w {r : Rg} {lo hi : Int} (h : Wi r lo hi) (h1 : -1000 ≤ lo) (h2 : hi ≤ 1000) : Wi r (-1000) 1000 := by unfold Wi at h ⊢; omega
theorem mul_rng {a b A B : Int} (ha : 1 ≤ a ∧ a ≤ A) (hb : 1 ≤ b ∧ b ≤ B) : 1 ≤ a * b ∧ a * b ≤ A * B := by
 have h1 : 1 * 1 ≤ a * b := Int.mul_le_mul ha.1 hb.1 (by omega) (by omega)
 have h2 : a * b ≤ A * B := Int.mul_le_mul ha.2 hb.2 (by omega) (by omega)
 omega
theorem mul_rng0 {a b A B : Int} (ha : 0 ≤ a ∧ a ≤ A) (hb : 0 ≤ b ∧ b ≤ B) : 0 ≤ a * b ∧ a * b ≤ A * B :=
 ⟨Int.mul_nonneg ha.1 hb.1, Int.mul_le_mul ha.2 hb.2 hb.1 (by omega)⟩
theorem many_rng {s : Stm} (h : VS0 s) (hm : ¬ ManyS s) : (1 ≤ cnt s.A ∧ cnt s.A ≤ 12) ∧ (1 ≤ cnt s.B ∧ cnt s.B ≤ 12) ∧ (1 ≤ cnt s.Half ∧ cnt s.Half ≤ 4) ∧ (1 ≤ cnt s.Peak ∧ cnt s.Peak ≤ 9) ∧ (1 ≤ cnt s.A * cnt s.B ∧ cnt s.A * cnt s.B ≤ 144) ∧ (1 ≤ cnt s.A * cnt s.B * cnt s.Half ∧ cnt s.A * cnt s.B * cnt s.Half ≤ 576) ∧ 1 ≤ manyN s ∧ manyN s ≤ 5184 := by
 obtain ⟨_, hh, _⟩ := not_many hm
 have h1 := cnt_rng h.a
 have h2 := cnt_rng h.b
 have h3 := cnt_rng h.half
 have h4 := cnt_rng h.peak
 have h5 := mul_rng (A := 12) (B := 12) (a := cnt s.A) (b := cnt s.B) (by omega) (by omega)
 have h6 := mul_rng (A := 144) (B := 4) (a := cnt s.A * cnt s.B) (b := cnt s.Half) (by omega) (by omega)
 have h7 := mul_rng (A := 576) (B := 9) (a := cnt s.A * cnt s.B * cnt s.Half) (b := cnt s.Peak) (by omega) (by omega)
 exact ⟨by omega, by omega, by omega, by omega, by omega, by omega, by unfold manyN; omega⟩
def dN (s : Stm) (t : Trh) (x y : Int) : Int := max ((s.Wide - 1) * y - (t.A * (s.Wide - 1 - x) + t.B * x)) (-((s.Wide - 1) * y - (t.A * (s.Wide - 1 - x) + t.B * x)))
def hitP (s : Stm) (t : Trh) (x y : Int) : Prop := dN s t x y ≤ (s.Wide - 1) * t.Half
instance {s : Stm} {t : Trh} {x y : Int} : Decidable (hitP s t x y) := inferInstanceAs (Decidable (_ ≤ _))
def szN (s : Stm) (t : Trh) (x y : Int) : Int := if hitP s t x y then max 1 (t.Peak - s.Fall * (dN s t x y / (s.Wide - 1))) else 0
def inP (r : Rct) (x y : Int) : Prop := inR r.X x ∧ inR r.Y y
def RT (s : Stm) (t : Trh) (c : Crd) : Prop := ∃ x y, inP ⟨c.X, c.Y⟩ x y ∧ (hitP s t x y ↔ c.Hail = true) ∧ inR c.Size (szN s t x y)
def isT (s : Stm) (t : Trh) : Prop := inR s.A t.A ∧ inR s.B t.B ∧ inR s.Half t.Half ∧ inR s.Peak t.Peak
def gr (s : Stm) (x y : Int) : Prop := (0 ≤ x ∧ x ≤ s.Wide - 1) ∧ (0 ≤ y ∧ y ≤ s.High - 1)
theorem gr_of {s : Stm} {r : Rct} (h : rcOk s r) {x y : Int} (hp : inP r x y) : gr s x y := by
 obtain ⟨h1, h2⟩ := h
 obtain ⟨p1, p2⟩ := hp
 unfold Wi at h1 h2
 unfold inR at p1 p2
 unfold gr; omega
theorem isT.rng {s : Stm} {t : Trh} (ht : isT s t) (h : VS0 s) : (0 ≤ t.A ∧ t.A ≤ s.High - 1) ∧ (0 ≤ t.B ∧ t.B ≤ s.High - 1) ∧ (0 ≤ t.Half ∧ t.Half ≤ 3) ∧ (1 ≤ t.Peak ∧ t.Peak ≤ 9) := by
 have a := h.a; have b := h.b; have c := h.half; have d := h.peak
 obtain ⟨q1, q2, q3, q4⟩ := ht
 unfold Wi at a b c d
 unfold inR at q1 q2 q3 q4
 omega
theorem sml {s : Stm} {t : Trh} (h : VS0 s) (hm : ¬ ManyS s) (ht : isT s t) {x y : Int} (hg : gr s x y) : (0 ≤ (s.Wide - 1) * y ∧ (s.Wide - 1) * y ≤ 121) ∧ (0 ≤ t.A * (s.Wide - 1 - x) ∧ t.A * (s.Wide - 1 - x) ≤ 121) ∧ (0 ≤ t.B * x ∧ t.B * x ≤ 121) ∧ (0 ≤ (s.Wide - 1) * t.Half ∧ (s.Wide - 1) * t.Half ≤ 33) := by
 obtain ⟨h1, h2, _⟩ := not_many hm
 obtain ⟨q1, q2, q3, _⟩ := ht.rng h
 have hw := h.wide
 unfold gr at hg
 exact ⟨mul_rng0 (A := 11) (B := 11) (by omega) (by omega), mul_rng0 (A := 11) (B := 11) (by omega) (by omega), mul_rng0 (A := 11) (B := 11) (by omega) (by omega), mul_rng0 (A := 11) (B := 3) (by omega) (by omega)⟩
theorem dN_rng {s : Stm} {t : Trh} (h : VS0 s) (hm : ¬ ManyS s) (ht : isT s t) {x y : Int} (hg : gr s x y) : 0 ≤ dN s t x y ∧ dN s t x y ≤ 242 := by
 obtain ⟨a, b, c, _⟩ := sml h hm ht hg
 unfold dN; omega
theorem fall_rng {s : Stm} {t : Trh} (h : VS0 s) (hm : ¬ ManyS s) (ht : isT s t) {x y : Int} (hg : gr s x y) : (0 ≤ dN s t x y / (s.Wide - 1) ∧ dN s t x y / (s.Wide - 1) ≤ 242) ∧ (0 ≤ s.Fall * (dN s t x y / (s.Wide - 1)) ∧ s.Fall * (dN s t x y / (s.Wide - 1)) ≤ 968) := by
 obtain ⟨a, b⟩ := dN_rng h hm ht hg
 have hw := h.wide
 have c := Int.ediv_nonneg a (show 0 ≤ s.Wide - 1 by omega)
 have d := Int.ediv_le_self (s.Wide - 1) a
 exact ⟨by omega, mul_rng0 (A := 4) (B := 242) h.fall (by omega)⟩
def CanS (s : Stm) (S : Nat → Bool) : Prop := ∃ t, isT s t ∧ ∀ j, S j = true → ∀ c, s.Cards[j]? = some c → RT s t c
def TS (s : Stm) (t : Trh) : Prop := isT s t ∧ ∀ c ∈ s.Cards, RT s t c
def HT (s : Stm) : Prop := ∃ t, TS s t
theorem HT_can {s : Stm} : HT s ↔ CanS s fun _ => true := by
 refine exists_congr fun t => and_congr Iff.rfl ⟨fun h j _ c hc => h c (List.mem_of_getElem? hc), fun h c hc => ?_⟩
 obtain ⟨j, hj⟩ := List.mem_iff_getElem?.1 hc
 exact h j rfl c hj
theorem CanS.congr {s : Stm} {S S' : Nat → Bool} (h : ∀ j, j < s.Cards.length → S j = S' j) : CanS s S ↔ CanS s S' := by
 refine exists_congr fun t => and_congr Iff.rfl ⟨fun f j hj c hc => f j ?_ c hc, fun f j hj c hc => f j ?_ c hc⟩
 ·rw [h j (List.getElem?_eq_some_iff.1 hc).1]; exact hj
 ·rw [← h j (List.getElem?_eq_some_iff.1 hc).1]; exact hj
def nums (r : Rg) : List Int := segI r.Lo (cnt r).toNat
theorem mem_nums {r : Rg} (h : r.Lo ≤ r.Hi) {x : Int} : x ∈ nums r ↔ inR r x := by
 unfold nums inR cnt
 rw [mem_segI]; omega
theorem nums_len {r : Rg} {lo hi : Int} (h : Wi r lo hi) {n : Nat} (hn : hi - lo + 1 ≤ n) : (nums r).length ≤ n := by
 have := cnt_rng h
 unfold nums; rw [segI_len]; omega
def chL (s : Stm) : List Trh := (nums s.A).flatMap fun a => (nums s.B).flatMap fun b => (nums s.Half).flatMap fun c => (nums s.Peak).map fun d => ⟨a, b, c, d⟩
theorem mem_chL {s : Stm} (h : VS0 s) {t : Trh} : t ∈ chL s ↔ isT s t := by
 have h1 := h.a; have h2 := h.b; have h3 := h.half; have h4 := h.peak
 unfold Wi at h1 h2 h3 h4
 unfold chL isT
 rw [List.mem_flatMap]
 constructor
 ·rintro ⟨a, ha, ht⟩
  obtain ⟨b, hb, ht⟩ := List.mem_flatMap.1 ht
  obtain ⟨c, hc, ht⟩ := List.mem_flatMap.1 ht
  obtain ⟨d, hd, rfl⟩ := List.mem_map.1 ht
  exact ⟨(mem_nums (by omega)).1 ha, (mem_nums (by omega)).1 hb, (mem_nums (by omega)).1 hc, (mem_nums (by omega)).1 hd⟩
 ·rintro ⟨a, b, c, d⟩
  exact ⟨t.A, (mem_nums (by omega)).2 a, List.mem_flatMap.2 ⟨t.B, (mem_nums (by omega)).2 b, List.mem_flatMap.2 ⟨t.Half, (mem_nums (by omega)).2 c, List.mem_map.2 ⟨t.Peak, (mem_nums (by omega)).2 d, rfl⟩⟩⟩⟩
theorem flatMap_len {α β : Type} {f : α → List β} {B : Nat} : ∀ {l : List α}, (∀ x ∈ l, (f x).length ≤ B) → (l.flatMap f).length ≤ l.length * B
 | [], _ => by simp
 | a :: l, h => by
  rw [List.flatMap_cons, List.length_append, List.length_cons, Nat.add_mul, Nat.one_mul, Nat.add_comm]
  exact Nat.add_le_add (flatMap_len fun x hx => h x (List.mem_cons_of_mem _ hx)) (h a (List.mem_cons_self ..))
theorem chL_len {s : Stm} (h : VS0 s) (hm : ¬ ManyS s) : (chL s).length ≤ 5184 := by
 obtain ⟨_, hh, _⟩ := not_many hm
 have h1 := nums_len h.a (n := 12) (by omega)
 have h2 := nums_len h.b (n := 12) (by omega)
 have h3 := nums_len h.half (n := 4) (by omega)
 have h4 := nums_len h.peak (n := 9) (by omega)
 have q1 : ∀ a b : Int, ((nums s.Half).flatMap fun c => (nums s.Peak).map fun d => (⟨a, b, c, d⟩ : Trh)).length ≤ 36 := fun a b => by
  have := flatMap_len (l := nums s.Half) (f := fun c => (nums s.Peak).map fun d => (⟨a, b, c, d⟩ : Trh)) (B := 9) fun d _ => by rw [List.length_map]; exact h4
  omega
 have q2 : ∀ a : Int, ((nums s.B).flatMap fun b => (nums s.Half).flatMap fun c => (nums s.Peak).map fun d => (⟨a, b, c, d⟩ : Trh)).length ≤ 432 := fun a => by
  have := flatMap_len (l := nums s.B) (f := fun b => (nums s.Half).flatMap fun c => (nums s.Peak).map fun d => (⟨a, b, c, d⟩ : Trh)) (B := 36) fun b _ => q1 a b
  omega
 have q3 := flatMap_len (l := nums s.A) (f := fun a => (nums s.B).flatMap fun b => (nums s.Half).flatMap fun c => (nums s.Peak).map fun d => (⟨a, b, c, d⟩ : Trh)) (B := 432) fun a _ => q2 a
 unfold chL; omega
open Classical in
def TL (s : Stm) : List Trh := (chL s).filter fun t => decide (∀ c ∈ s.Cards, RT s t c)
open Classical in
theorem mem_TL {s : Stm} (h : VS0 s) {t : Trh} : t ∈ TL s ↔ TS s t := by
 unfold TL TS
 rw [List.mem_filter, mem_chL h, decide_eq_true_eq]
theorem TL_len {s : Stm} (h : VS0 s) (hm : ¬ ManyS s) : (TL s).length ≤ 5184 := Nat.le_trans (List.length_filter_le _ _) (chL_len h hm)
def nthT (s : Stm) (n : Int) : Trh := ⟨s.A.Lo + n % cnt s.A, s.B.Lo + n / cnt s.A % cnt s.B, s.Half.Lo + n / cnt s.A / cnt s.B % cnt s.Half, s.Peak.Lo + n / cnt s.A / cnt s.B / cnt s.Half⟩
theorem divlt {n a b : Int} (ha : 0 < a) (h : n < a * b) : n / a < b := by
 rw [Int.mul_comm] at h
 exact (Int.ediv_lt_iff_lt_mul ha).2 h
theorem nth_rng {s : Stm} (h : VS0 s) (hm : ¬ ManyS s) {n : Int} (h0 : 0 ≤ n) (hn : n < manyN s) :
  (0 ≤ n % cnt s.A ∧ n % cnt s.A < cnt s.A) ∧ (0 ≤ n / cnt s.A) ∧ (0 ≤ n / cnt s.A % cnt s.B ∧ n / cnt s.A % cnt s.B < cnt s.B) ∧ (0 ≤ n / cnt s.A / cnt s.B) ∧ (0 ≤ n / cnt s.A / cnt s.B % cnt s.Half ∧ n / cnt s.A / cnt s.B % cnt s.Half < cnt s.Half) ∧ (0 ≤ n / cnt s.A / cnt s.B / cnt s.Half ∧ n / cnt s.A / cnt s.B / cnt s.Half < cnt s.Peak) := by
 obtain ⟨h1, h2, h3, h4, _⟩ := many_rng h hm
 unfold manyN at hn
 have e1 : n / cnt s.A < cnt s.B * cnt s.Half * cnt s.Peak := divlt (by omega) (by rw [← Int.mul_assoc, ← Int.mul_assoc]; exact hn)
 have e2 : n / cnt s.A / cnt s.B < cnt s.Half * cnt s.Peak := divlt (by omega) (by rw [← Int.mul_assoc]; exact e1)
 have e3 := divlt (by omega) e2
 have p1 := Int.ediv_nonneg h0 (show 0 ≤ cnt s.A by omega)
 have p2 := Int.ediv_nonneg p1 (show 0 ≤ cnt s.B by omega)
 have p3 := Int.ediv_nonneg p2 (show 0 ≤ cnt s.Half by omega)
 exact ⟨⟨Int.emod_nonneg _ (by omega), Int.emod_lt_of_pos _ (by omega)⟩, p1, ⟨Int.emod_nonneg _ (by omega), Int.emod_lt_of_pos _ (by omega)⟩, p2, ⟨Int.emod_nonneg _ (by omega), Int.emod_lt_of_pos _ (by omega)⟩, p3, e3⟩
theorem nth_isT {s : Stm} (h : VS0 s) (hm : ¬ ManyS s) {n : Int} (h0 : 0 ≤ n) (hn : n < manyN s) : isT s (nthT s n) := by
 obtain ⟨e1, _, e3, _, e5, e6⟩ := nth_rng h hm h0 hn
 unfold isT inR nthT
 dsimp only
 generalize n / cnt s.A / cnt s.B / cnt s.Half = x4 at *
 generalize n / cnt s.A / cnt s.B % cnt s.Half = x3 at *
 generalize n / cnt s.A % cnt s.B = x2 at *
 generalize n % cnt s.A = x1 at *
 unfold cnt at e1 e3 e5 e6
 omega
theorem mix {x A r : Int} (h : 0 ≤ x ∧ x < A) : (x + r * A) % A = x ∧ (x + r * A) / A = r := by
 refine ⟨by rw [Int.add_mul_emod_self_right]; exact Int.emod_eq_of_lt h.1 h.2, by rw [Int.add_mul_ediv_right _ _ (by omega), Int.ediv_eq_zero_of_lt h.1 h.2, Int.zero_add]⟩
theorem mix_lt {x A r R : Int} (h : 0 ≤ x ∧ x < A) (hr : 0 ≤ r ∧ r < R) : 0 ≤ x + r * A ∧ x + r * A < R * A := by
 have m1 : 0 ≤ r * A := Int.mul_nonneg hr.1 (by omega)
 have m2 : r * A ≤ (R - 1) * A := Int.mul_le_mul_of_nonneg_right (by omega) (by omega)
 have m3 : (R - 1) * A = R * A - A := by rw [Int.sub_mul, Int.one_mul]
 omega
theorem isT_nth {s : Stm} (_h : VS0 s) (_hm : ¬ ManyS s) {t : Trh} (ht : isT s t) : ∃ n, 0 ≤ n ∧ n < manyN s ∧ nthT s n = t := by
 obtain ⟨a, b, c, d⟩ := ht
 unfold inR at a b c d
 have w1 : 0 ≤ t.A - s.A.Lo ∧ t.A - s.A.Lo < cnt s.A := by unfold cnt; omega
 have w2 : 0 ≤ t.B - s.B.Lo ∧ t.B - s.B.Lo < cnt s.B := by unfold cnt; omega
 have w3 : 0 ≤ t.Half - s.Half.Lo ∧ t.Half - s.Half.Lo < cnt s.Half := by unfold cnt; omega
 have w4 : 0 ≤ t.Peak - s.Peak.Lo ∧ t.Peak - s.Peak.Lo < cnt s.Peak := by unfold cnt; omega
 have k3 := mix_lt w3 w4
 have k2 := mix_lt w2 k3
 have k1 := mix_lt w1 k2
 refine ⟨_, k1.1, ?_, ?_⟩
 ·refine Int.lt_of_lt_of_le k1.2 (Int.le_of_eq ?_)
  unfold manyN
  rw [Int.mul_comm (cnt s.A * cnt s.B * cnt s.Half), Int.mul_comm (cnt s.A * cnt s.B), Int.mul_comm (cnt s.A), ← Int.mul_assoc, ← Int.mul_assoc]
 ·unfold nthT
  rw [(mix w1).1, (mix w1).2, (mix w2).1, (mix w2).2, (mix w3).1, (mix w3).2]
  cases t
  dsimp only
  congr 1 <;> omega
end
end Go.Proofs.YtbnfnhfanooplaaGreat

namespace Go.Proofs.YtbnfnhfanooplaaGreat
open _root_.Go.Proofs.Tryz
open Go.Abs Go.Abs.Grow
set_option maxRecDepth 100000
noncomputable section
theorem In_ev {n lo hi : Int} : Ev (prIn n lo hi) (lo ≤ n ∧ n ≤ hi) := Ev.ite fun _ => Ev.dec Iff.rfl
theorem has_ev {r : Rg} {n : Int} : Ev (phas r n) (inR r n) := Ev.ite fun _ => Ev.dec Iff.rfl
theorem rWithin_ev {r : Rg} {lo hi : Int} : Ev (prWithin r lo hi) (Wi r lo hi) := Ev.ite fun _ => Ev.ite fun _ => Ev.dec Iff.rfl
theorem within_ev {r : Rg} {lo hi : Int} : Ev (pwithin r lo hi) (Wi r lo hi) := Ev.ite fun _ => Ev.ite fun _ => Ev.dec Iff.rfl
def Fit1 (s : Stm) : Prop := (-1000 ≤ s.Wide ∧ s.Wide ≤ 1000) ∧ (-1000 ≤ s.High ∧ s.High ≤ 1000)
theorem VS0.fit {s : Stm} (h : VS0 s) (hm : ¬ ManyS s) : Fit1 s := by
 obtain ⟨a, b, _⟩ := not_many hm
 have := h.wide; have := h.high
 unfold Fit1; omega
theorem hasRect_ev {s : Stm} (h : Fit1 s) {r : Rct} : Ev (phasRect s r) (rcOk s r) := by
 unfold Fit1 at h
 exact Ev.gd (fI (by omega)) (Ev.and within_ev fun _ => Ev.gd (fI (by omega)) within_ev.ret)
theorem rIsRect_ev {s : Stm} (h : Fit1 s) {r : Rct} : Ev (prIsRect s r) (rcOk s r) := by
 unfold Fit1 at h
 exact Ev.gd (fI (by omega)) (Ev.and rWithin_ev fun _ => Ev.gd (fI (by omega)) rWithin_ev.ret)
theorem hail_ev {c : Crd} (h : Wi c.Size 0 9) : Ev (if c.Hail = true then (some true) else (gd (fitsP .i64 c.Size.Lo) (gd (fitsP .i64 (0 : Int)) (gd (fitsP .i64 c.Size.Hi) (gd (fitsP .i64 (0 : Int)) (some ((decide (c.Size.Lo = (0 : Int))) && (decide (c.Size.Hi = (0 : Int)))))))))) (c.Hail = true ∨ c.Size = ⟨0, 0⟩) := by
 unfold Wi at h
 by_cases hh : c.Hail = true
 ·rw [if_pos hh]; exact Ev.tt (.inl hh)
 ·rw [if_neg hh, gd_pos (fI (by omega)), gd_pos (fI (by omega)), gd_pos (fI (by omega)), gd_pos (fI (by omega))]
  refine Ev.mk' ?_
  obtain ⟨X, Y, hl, ⟨lo, hi⟩⟩ := c
  simp only [Bool.and_eq_true, decide_eq_true_eq, Rg.mk.injEq] at hh ⊢
  exact ⟨.inr, fun q => q.elim (fun q => absurd q hh) id⟩
theorem validCard_ev {w : Wk} (h : Fit1 w.s) {c : Crd} : Ev (pvalidCard w c) (CV w.s c) := Ev.bind rfl (Ev.and (hasRect_ev h) fun _ => Ev.and within_ev fun q => hail_ev q)
theorem rIsCard_ev {s : Stm} (h : Fit1 s) {c : Crd} : Ev (prIsCard s c) (CV s c) := Ev.and (rIsRect_ev h) fun _ => Ev.and rWithin_ev fun q => hail_ev q
theorem tooMany_ev {s : Stm} : Ev (ptooMany s) (ManyS s) := by
 unfold ptooMany ManyS
 by_cases h1 : (12 : Int) < s.Wide
 ·rw [if_pos h1]; exact Ev.tt (.inl h1)
 rw [if_neg h1]
 by_cases h2 : (12 : Int) < s.High
 ·rw [if_pos h2]; exact Ev.tt (.inr (.inl h2))
 rw [if_neg h2]; exact Ev.dec (by omega)
theorem gC {l : List Crd} {p : Crd → Option Bool} : ∀ {d : Nat} {x : Int}, pindexC_L0 l p d x = gIdx l p d x
 | 0, _ => rfl
 | d + 1, x => by unfold pindexC_L0 gIdx; simp only [gC (d := d)]
theorem gR {l : List Rct} {p : Rct → Option Bool} : ∀ {d : Nat} {x : Int}, pindexR_L0 l p d x = gIdx l p d x
 | 0, _ => rfl
 | d + 1, x => by unfold pindexR_L0 gIdx; simp only [gR (d := d)]
theorem eachC_ev {l : List Crd} {p : Crd → Option Bool} {q : Crd → Prop} (hp : ∀ a ∈ l, Ev (p a) (q a)) (hl : shrt l) : Ev (peachC l p) (∀ a ∈ l, q a) := Ev.each hp hl.lt gC
theorem eachR_ev {l : List Rct} {p : Rct → Option Bool} {q : Rct → Prop} (hp : ∀ a ∈ l, Ev (p a) (q a)) (hl : shrt l) : Ev (peachR l p) (∀ a ∈ l, q a) := Ev.each hp hl.lt gR
theorem count_eq {r : Rg} (h : Wi r (-1000) 1000) : pcount r = some (cnt r) := by
 unfold Wi at h
 unfold pcount
 rw [gd_pos (fI (by omega)), gd_pos (fI (by omega))]; rfl
theorem rCount_eq {r : Rg} (h : Wi r (-1000) 1000) : prCount r = some (cnt r) := by
 unfold Wi at h
 unfold prCount
 rw [gd_pos (fI (by omega)), gd_pos (fI (by omega))]; rfl
theorem VS0.ws {s : Stm} (h : VS0 s) (hm : ¬ ManyS s) : Wi s.A (-1000) 1000 ∧ Wi s.B (-1000) 1000 ∧ Wi s.Half (-1000) 1000 ∧ Wi s.Peak (-1000) 1000 := by
 obtain ⟨_, hh, _⟩ := not_many hm
 exact ⟨h.a.w (by omega) (by omega), h.b.w (by omega) (by omega), h.half.w (by omega) (by omega), h.peak.w (by omega) (by omega)⟩
theorem rMany_eq {s : Stm} (h : VS0 s) (hm : ¬ ManyS s) : prMany s = some (manyN s) := by
 obtain ⟨h1, h2, h3, h4, h5, h6, h7⟩ := many_rng h hm
 obtain ⟨a, b, c, d⟩ := h.ws hm
 unfold prMany
 unfold manyN at h7 ⊢
 rw [rCount_eq a, obs, rCount_eq b, obs, gd_pos (by omega), gd_pos (by omega), gd_pos (fI (by omega)), rCount_eq c, obs, gd_pos (by omega), gd_pos (by omega), gd_pos (fI (by omega)), rCount_eq d, obs, gd_pos (by omega), gd_pos (by omega), gd_pos (fI (by omega))]
theorem inAll_eq {s : Stm} (h : VS0 s) (hm : ¬ ManyS s) : pinAll s = some (manyN s) := by
 obtain ⟨h1, h2, h3, h4, h5, h6, h7⟩ := many_rng h hm
 obtain ⟨a, b, c, d⟩ := h.ws hm
 unfold pinAll
 unfold manyN at h7 ⊢
 rw [count_eq a, obs, count_eq b, obs, gd_pos (by omega), gd_pos (by omega), gd_pos (fI (by omega)), count_eq c, obs, gd_pos (by omega), gd_pos (by omega), gd_pos (fI (by omega)), count_eq d, obs, gd_pos (by omega), gd_pos (by omega), gd_pos (fI (by omega))]
theorem valid_ev {s : Stm} {R : Option (Trh → Option Cds)} (h : ¬ ManyS s) : Ev (pvalid ⟨s, R⟩) (VS0 s) := by
 obtain ⟨h1, h2, h3⟩ := not_many h
 unfold pvalid
 refine (Ev.ite fun q1 => Ev.ite fun q2 => Ev.ite fun q3 => Ev.ite fun q4 => Ev.gd (fI (by dsimp only at q2 ⊢; omega)) (Ev.and within_ev fun q5 => Ev.gd (fI (by dsimp only at q2 ⊢; omega)) (Ev.and within_ev fun q6 => Ev.and within_ev fun q7 => Ev.and within_ev fun q8 => (eachC_ev (q := CV s) (fun c _ => validCard_ev (w := ⟨s, R⟩) (by unfold Fit1; dsimp only; dsimp only at q1 q2; omega)) (fewS h3 (by omega))).ret))).imp ?_
 exact ⟨fun ⟨a, b, c, d, e, g, i, j, k⟩ => ⟨a, b, ⟨c, d⟩, e, g, i, j, k⟩, fun q => ⟨q.wide, q.high, q.fall.1, q.fall.2, q.a, q.b, q.half, q.peak, q.cards⟩⟩
theorem check_eq {s : Stm} : pcheck s = some (faultN s) := by
 unfold pcheck faultN
 refine tooMany_ev.pick (fun h => ?_) fun h => ?_
 ·rw [if_pos rfl, if_pos h]
 ·rw [if_neg (by simp), if_neg h]
  refine (valid_ev h).pick (fun hv => ?_) fun hv => ?_
  ·rw [if_pos rfl, if_pos hv, inAll_eq hv h, obs]
   by_cases hf : manyN s ≤ 2000
   ·rw [if_neg (by omega), if_pos hf]
   ·rw [if_pos (by omega), if_neg hf]
  ·rw [if_neg (by simp), if_neg hv]
theorem fault_L0 {s : Stm} (h : ¬ ManyS s) (hf : Fit1 s) : ((∀ c ∈ s.Cards, CV s c) → prFault_L0 s 1000000 0 = ((prMany s).bind fun r => if (2000 : Int) < r then some 3 else some 0)) ∧ (¬ (∀ c ∈ s.Cards, CV s c) → prFault_L0 s 1000000 0 = some 1) := by
 obtain ⟨h1, h2, h3⟩ := not_many h
 refine loop_each (l := s.Cards) (F := fun d y => prFault_L0 s d y) (fun d k c hg => ?_) (fun d => by rw [prFault_L0, if_neg (Int.lt_irrefl _)]) (by omega)
 have hk := (List.getElem?_eq_some_iff.1 hg).1
 rw [prFault_L0, if_pos (by omega), idx_at hg, obs]
 exact (rIsCard_ev hf).step (by rw [if_pos rfl, gd_pos (fI (by omega))]) (by rw [if_neg (by simp)])
theorem rFault_eq {s : Stm} : prFault s = some (faultN s) := by
 unfold prFault faultN
 by_cases hm : ManyS s
 ·rw [if_pos hm]
  unfold ManyS at hm
  by_cases h1 : (12 : Int) < s.Wide
  ·rw [if_pos h1]
  rw [if_neg h1]
  by_cases h2 : (12 : Int) < s.High
  ·rw [if_pos h2]
  rw [if_neg h2, if_pos (by omega)]
 obtain ⟨h1, h2, h3⟩ := not_many hm
 rw [if_neg hm, if_neg (by omega), if_neg (by omega), if_neg (by omega)]
 by_cases q1 : s.Wide < 2
 ·rw [if_pos q1, if_neg fun hv => by have := hv.wide; omega]
 rw [if_neg q1]
 by_cases q2 : s.High < 1
 ·rw [if_pos q2, if_neg fun hv => by have := hv.high; omega]
 rw [if_neg q2]
 refine In_ev.pick (fun a1 => ?_) fun a1 => by rw [if_neg (by simp), if_neg fun hv => a1 hv.fall]
 rw [if_pos rfl, gd_pos (fI (by omega))]
 refine rWithin_ev.pick (fun a2 => ?_) fun a2 => by rw [if_neg (by simp), if_neg fun hv => a2 hv.a]
 rw [if_pos rfl, gd_pos (fI (by omega))]
 refine rWithin_ev.pick (fun a3 => ?_) fun a3 => by rw [if_neg (by simp), if_neg fun hv => a3 hv.b]
 rw [if_pos rfl]
 refine rWithin_ev.pick (fun a4 => ?_) fun a4 => by rw [if_neg (by simp), if_neg fun hv => a4 hv.half]
 rw [if_pos rfl]
 refine rWithin_ev.pick (fun a5 => ?_) fun a5 => by rw [if_neg (by simp), if_neg fun hv => a5 hv.peak]
 rw [if_pos rfl]
 obtain ⟨k1, k2⟩ := fault_L0 hm (s := s) (by unfold Fit1; omega)
 by_cases r1 : ∀ c ∈ s.Cards, CV s c
 ·have hv : VS0 s := ⟨by omega, by omega, a1, a2, a3, a4, a5, r1⟩
  rw [k1 r1, if_pos hv, rMany_eq hv hm, obs]
  by_cases hf : manyN s ≤ 2000
  ·rw [if_neg (by omega), if_pos hf]
  ·rw [if_pos (by omega), if_neg hf]
 ·rw [k2 r1, if_neg fun hv => r1 hv.cards]
theorem distance_eq {s : Stm} {t : Trh} (h : VS0 s) (hm : ¬ ManyS s) (ht : isT s t) {x y : Int} (hg : gr s x y) : pdistance s t x y = some (dN s t x y) := by
 obtain ⟨a, b, c, d⟩ := sml h hm ht hg
 obtain ⟨r1, r2, r3, r4⟩ := ht.rng h
 obtain ⟨w, hh, _⟩ := not_many hm
 have hw := h.wide
 unfold gr at hg
 unfold pdistance dN
 rw [Int.zero_sub, gd_pos (fI (by omega)), gd_pos (by omega), gd_pos (by omega), gd_pos (fI (by omega)), gd_pos (fI (by omega)), gd_pos (by omega), gd_pos (by omega), gd_pos (fI (by omega)), gd_pos (by omega), gd_pos (by omega), gd_pos (fI (by omega)), gd_pos (fI (by omega)), gd_pos (fI (by omega)), gd_pos (fI (by omega))]
theorem rDistance_eq {s : Stm} {t : Trh} (h : VS0 s) (hm : ¬ ManyS s) (ht : isT s t) {x y : Int} (hg : gr s x y) : prDistance s t x y = some (dN s t x y) := by
 obtain ⟨a, b, c, d⟩ := sml h hm ht hg
 obtain ⟨r1, r2, r3, r4⟩ := ht.rng h
 obtain ⟨w, hh, _⟩ := not_many hm
 have hw := h.wide
 unfold gr at hg
 unfold prDistance dN
 rw [gd_pos (fI (by omega)), gd_pos (by omega), gd_pos (by omega), gd_pos (fI (by omega)), gd_pos (fI (by omega)), gd_pos (by omega), gd_pos (by omega), gd_pos (fI (by omega)), gd_pos (fI (by omega)), gd_pos (by omega), gd_pos (by omega), gd_pos (fI (by omega)), gd_pos (fI (by omega))]
 generalize (s.Wide - 1) * y = p1 at *
 generalize t.A * (s.Wide - 1 - x) = p2 at *
 generalize t.B * x = p3 at *
 by_cases hn : p1 - p2 - p3 < 0
 ·rw [if_pos hn, gd_pos (fI (by omega))]; congr 1; omega
 ·rw [if_neg hn]; congr 1; omega
theorem hits_ev {s : Stm} {t : Trh} (h : VS0 s) (hm : ¬ ManyS s) (ht : isT s t) {x y : Int} (hg : gr s x y) : phits s t x y = some (decide (hitP s t x y)) := by
 obtain ⟨a, b, c, d⟩ := sml h hm ht hg
 obtain ⟨r1, r2, r3, r4⟩ := ht.rng h
 obtain ⟨w, hh, _⟩ := not_many hm
 have hw := h.wide
 unfold phits
 rw [distance_eq h hm ht hg, obs, gd_pos (fI (by omega)), gd_pos (by omega), gd_pos (by omega), gd_pos (fI (by omega))]; rfl
theorem rHit_ev {s : Stm} {t : Trh} (h : VS0 s) (hm : ¬ ManyS s) (ht : isT s t) {x y : Int} (hg : gr s x y) : prHit s t x y = some (decide (hitP s t x y)) := by
 obtain ⟨a, b, c, d⟩ := sml h hm ht hg
 obtain ⟨r1, r2, r3, r4⟩ := ht.rng h
 obtain ⟨w, hh, _⟩ := not_many hm
 have hw := h.wide
 unfold prHit
 rw [rDistance_eq h hm ht hg, obs, gd_pos (fI (by omega)), gd_pos (by omega), gd_pos (by omega), gd_pos (fI (by omega))]; rfl
theorem size_eq {s : Stm} {t : Trh} (h : VS0 s) (hm : ¬ ManyS s) (ht : isT s t) {x y : Int} (hg : gr s x y) : psize s t x y = some (szN s t x y) := by
 obtain ⟨a, b⟩ := fall_rng h hm ht hg
 obtain ⟨d1, d2⟩ := dN_rng h hm ht hg
 obtain ⟨r1, r2, r3, r4⟩ := ht.rng h
 obtain ⟨w, hh, _⟩ := not_many hm
 have hw := h.wide
 have hf := h.fall
 unfold psize szN
 rw [hits_ev h hm ht hg, obs]
 by_cases hp : hitP s t x y
 ·rw [if_pos (decide_eq_true hp), if_pos hp, distance_eq h hm ht hg, obs, gd_pos (fI (by omega)), gd_pos (by omega), gd_pos (by omega), gd_pos (fI (by omega)), gd_pos (by omega), gd_pos (by omega), gd_pos (fI (by omega)), gd_pos (fI (by omega))]
 ·rw [if_neg (by rw [decide_eq_false hp]; simp), if_neg hp]
theorem rSize_eq {s : Stm} {t : Trh} (h : VS0 s) (hm : ¬ ManyS s) (ht : isT s t) {x y : Int} (hg : gr s x y) : prSize s t x y = some (szN s t x y) := by
 obtain ⟨a, b⟩ := fall_rng h hm ht hg
 obtain ⟨d1, d2⟩ := dN_rng h hm ht hg
 obtain ⟨r1, r2, r3, r4⟩ := ht.rng h
 obtain ⟨w, hh, _⟩ := not_many hm
 have hw := h.wide
 have hf := h.fall
 unfold prSize szN
 rw [rHit_ev h hm ht hg, obs]
 by_cases hp : hitP s t x y
 ·rw [if_pos (decide_eq_true hp), if_pos hp, rDistance_eq h hm ht hg, obs, gd_pos (fI (by omega)), gd_pos (by omega), gd_pos (by omega), gd_pos (fI (by omega)), gd_pos (by omega), gd_pos (by omega), gd_pos (fI (by omega)), gd_pos (fI (by omega))]
 ·rw [if_neg (by rw [decide_eq_false hp]; simp), if_neg hp]
theorem numbers_go {r : Rg} {n : Int} (h : Wi r (-1000) 1000) (hn : n = cnt r) : ∀ (d k m : Nat), (k : Int) + m = n → m < d → pnumbersI_L0 r n d (k : Int) = some (segI (r.Lo + k) m)
 | 0, _, _, _, h => by omega
 | d + 1, k, 0, hk, _ => by
  unfold pnumbersI_L0
  rw [if_neg (by omega)]; rfl
 | d + 1, k, m + 1, hk, hd => by
  have hc := h
  unfold Wi at hc
  unfold cnt at hn
  unfold pnumbersI_L0
  rw [if_pos (by omega), gd_pos (fI (by omega)), gd_pos (fI (by omega)), show (k : Int) + 1 = ((k + 1 : Nat) : Int) by omega, numbers_go h (by unfold cnt; exact hn) d (k + 1) m (by omega) (by omega), obs, show r.Lo + ((k + 1 : Nat) : Int) = r.Lo + k + 1 by omega]
  rfl
theorem numbers_eq {r : Rg} (h : Wi r (-1000) 1000) : pnumbers r = some (nums r) := by
 have hc := h
 unfold Wi at hc
 have hcn : 0 < cnt r := by unfold cnt; omega
 unfold pnumbers pnumbersI
 rw [count_eq h, obs]
 have := numbers_go h rfl ((cnt r).toNat + 1) 0 (cnt r).toNat (by omega) (by omega)
 rw [show ((0 : Nat) : Int) = 0 by rfl] at this
 rw [this, obs]
 unfold nums
 rw [Int.add_zero]
def plcs (r : Rct) : List (Int × Int) := (nums r.X).flatMap fun x => (nums r.Y).map fun y => (x, y)
theorem pl_L1 {x : Int} {r : List (Int × Int)} : ∀ ys : List Int, pplacesI_L1 x (some r) ys = some (ys.map (fun y => (x, y)) ++ r)
 | [] => rfl
 | y :: ys => by unfold pplacesI_L1; rw [pl_L1 ys, obs]; rfl
theorem pl_L0 {r : Rct} (hy : Wi r.Y (-1000) 1000) : ∀ xs : List Int, pplacesI_L0 r xs = some (xs.flatMap fun x => (nums r.Y).map fun y => (x, y))
 | [] => rfl
 | x :: xs => by unfold pplacesI_L0; rw [numbers_eq hy, obs, pl_L0 hy xs, pl_L1]; rfl
theorem places_eq {s : Stm} (hf : Fit1 s) {r : Rct} (h : rcOk s r) : pplaces r = some (plcs r) := by
 unfold Fit1 at hf
 unfold pplaces pplacesI
 rw [numbers_eq (h.1.w (by omega) (by omega)), obs, pl_L0 (h.2.w (by omega) (by omega)), obs]; rfl
theorem mem_plcs {s : Stm} {r : Rct} (h : rcOk s r) {x y : Int} : (x, y) ∈ plcs r ↔ inP r x y := by
 obtain ⟨h1, h2⟩ := h
 unfold Wi at h1 h2
 unfold plcs inP
 rw [List.mem_flatMap]
 constructor
 ·rintro ⟨a, ha, hb⟩
  obtain ⟨b, hb, he⟩ := List.mem_map.1 hb
  cases he
  exact ⟨(mem_nums (by omega)).1 ha, (mem_nums (by omega)).1 hb⟩
 ·rintro ⟨a, b⟩
  exact ⟨x, (mem_nums (by omega)).2 a, List.mem_map.2 ⟨y, (mem_nums (by omega)).2 b, rfl⟩⟩
theorem isR_L0 {s : Stm} {t : Trh} (h : VS0 s) (hm : ¬ ManyS s) (ht : isT s t) {c : Crd} {b : Bool} : ∀ l : List (Int × Int), (∀ p ∈ l, gr s p.1 p.2) → Ev (pisRight_L0 s c t l b) (∃ p ∈ l, (hitP s t p.1 p.2 ↔ c.Hail = true) ∧ inR c.Size (szN s t p.1 p.2))
 | [], _ => by unfold pisRight_L0; exact Ev.ff fun ⟨p, hp, _⟩ => by cases hp
 | p :: l, hl => by
  have hg := hl p (List.mem_cons_self ..)
  have ih := isR_L0 h hm ht (c := c) (b := b) l fun q hq => hl q (List.mem_cons_of_mem _ hq)
  have hno : ¬ ((hitP s t p.1 p.2 ↔ c.Hail = true) ∧ inR c.Size (szN s t p.1 p.2)) → Ev (pisRight_L0 s c t l b) (∃ q ∈ p :: l, (hitP s t q.1 q.2 ↔ c.Hail = true) ∧ inR c.Size (szN s t q.1 q.2)) := fun hn => ih.imp ⟨fun ⟨q, hq, h9⟩ => ⟨q, List.mem_cons_of_mem _ hq, h9⟩, fun ⟨q, hq, h9⟩ => by
   rcases List.mem_cons.1 hq with rfl | hq
   ·exact absurd h9 hn
   ·exact ⟨q, hq, h9⟩⟩
  unfold pisRight_L0
  rw [hits_ev h hm ht hg, obs]
  have heq : ((decide (hitP s t p.1 p.2)) == c.Hail) = true ↔ (hitP s t p.1 p.2 ↔ c.Hail = true) := by
   rw [beq_iff_eq]
   cases hc : c.Hail <;> simp
  by_cases hh : hitP s t p.1 p.2 ↔ c.Hail = true
  ·rw [if_pos (heq.2 hh), size_eq h hm ht hg, obs]
   obtain ⟨b', q1, q2⟩ := has_ev (r := c.Size) (n := szN s t p.1 p.2)
   rw [q1, obs]
   cases b' with
   | true => rw [if_pos rfl]; exact Ev.tt ⟨p, List.mem_cons_self .., hh, q2.1 rfl⟩
   | false => rw [if_neg (by simp)]; exact hno fun h9 => by have := q2.2 h9.2; cases this
  ·rw [if_neg fun q => hh (heq.1 q)]; exact hno fun h9 => hh h9.1
theorem isRight_ev {s : Stm} {t : Trh} (h : VS0 s) (hm : ¬ ManyS s) (ht : isT s t) {c : Crd} (hc : CV s c) : Ev (pisRight s c t) (RT s t c) := by
 unfold pisRight prect
 rw [obs, places_eq (h.fit hm) hc.1, obs]
 refine (isR_L0 h hm ht _ fun p hp => gr_of hc.1 ((mem_plcs hc.1).1 hp)).imp ?_
 exact ⟨fun ⟨p, hp, h9⟩ => ⟨p.1, p.2, (mem_plcs hc.1).1 hp, h9⟩, fun ⟨x, y, hp, h9⟩ => ⟨(x, y), (mem_plcs hc.1).2 hp, h9⟩⟩
theorem ch_L3 {a b c : Int} {r : List Trh} : ∀ ds : List Int, pchoicesI_L3 a b c (some r) ds = some (ds.map (fun d => ⟨a, b, c, d⟩) ++ r)
 | [] => rfl
 | d :: ds => by unfold pchoicesI_L3; rw [ch_L3 ds, obs]; rfl
theorem ch_L2 {s : Stm} (h4 : Wi s.Peak (-1000) 1000) {a b : Int} {r : List Trh} : ∀ cs : List Int, pchoicesI_L2 s a b (some r) cs = some ((cs.flatMap fun c => (nums s.Peak).map fun d => ⟨a, b, c, d⟩) ++ r)
 | [] => rfl
 | c :: cs => by unfold pchoicesI_L2; rw [numbers_eq h4, obs, ch_L2 h4 cs, ch_L3, List.flatMap_cons, List.append_assoc]
theorem ch_L1 {s : Stm} (h3 : Wi s.Half (-1000) 1000) (h4 : Wi s.Peak (-1000) 1000) {a : Int} {r : List Trh} : ∀ bs : List Int, pchoicesI_L1 s a (some r) bs = some ((bs.flatMap fun b => (nums s.Half).flatMap fun c => (nums s.Peak).map fun d => ⟨a, b, c, d⟩) ++ r)
 | [] => rfl
 | b :: bs => by unfold pchoicesI_L1; rw [numbers_eq h3, obs, ch_L1 h3 h4 bs, ch_L2 h4, List.flatMap_cons, List.append_assoc]
theorem ch_L0 {s : Stm} (h2 : Wi s.B (-1000) 1000) (h3 : Wi s.Half (-1000) 1000) (h4 : Wi s.Peak (-1000) 1000) : ∀ ws : List Int, pchoicesI_L0 s ws = some (ws.flatMap fun a => (nums s.B).flatMap fun b => (nums s.Half).flatMap fun c => (nums s.Peak).map fun d => ⟨a, b, c, d⟩)
 | [] => rfl
 | a :: ws => by unfold pchoicesI_L0; rw [numbers_eq h2, obs, ch_L0 h2 h3 h4 ws, ch_L1 h3 h4, List.flatMap_cons]
theorem choices_eq {s : Stm} (h : VS0 s) (hm : ¬ ManyS s) : pchoices s = some (chL s) := by
 obtain ⟨a, b, c, d⟩ := h.ws hm
 unfold pchoices pchoicesI
 rw [numbers_eq a, obs, ch_L0 b c d, obs]; rfl
end
end Go.Proofs.YtbnfnhfanooplaaGreat

namespace Go.Proofs.YtbnfnhfanooplaaGreat
open _root_.Go.Proofs.Tryz
open Go.Abs Go.Abs.Grow
set_option maxRecDepth 100000
noncomputable section
def mkC (S : Nat → Bool) : Cds := ⟨S 0, S 1, S 2, S 3, S 4, S 5⟩
def upd (S : Nat → Bool) (x : Int) (v : Bool) : Nat → Bool := fun j => sti x j v (S j)
theorem mkC_congr {S S' : Nat → Bool} (h : ∀ j, j < 6 → S j = S' j) : mkC S = mkC S' := by
 unfold mkC
 rw [h 0 (by omega), h 1 (by omega), h 2 (by omega), h 3 (by omega), h 4 (by omega), h 5 (by omega)]
theorem upd_nat {S : Nat → Bool} {k : Nat} {v : Bool} (j : Nat) : upd S (k : Int) v j = if k = j then v else S j := by
 unfold upd sti
 by_cases h : k = j
 ·rw [if_pos (by omega), if_pos h]
 ·rw [if_neg (by omega), if_neg h]
def eqC (a b : Cds) : Bool := (a.c0 == b.c0) && ((a.c1 == b.c1) && ((a.c2 == b.c2) && ((a.c3 == b.c3) && ((a.c4 == b.c4) && (a.c5 == b.c5)))))
theorem eqC_mk {S S' : Nat → Bool} : eqC (mkC S) (mkC S') = true ↔ ∀ j, j < 6 → S j = S' j := by
 unfold eqC mkC
 simp only [Bool.and_eq_true, beq_iff_eq]
 constructor
 ·rintro ⟨a, b, c, d, e, f⟩ j hj
  match j, hj with
  | 0, _ => exact a
  | 1, _ => exact b
  | 2, _ => exact c
  | 3, _ => exact d
  | 4, _ => exact e
  | 5, _ => exact f
 ·intro h
  exact ⟨h 0 (by omega), h 1 (by omega), h 2 (by omega), h 3 (by omega), h 4 (by omega), h 5 (by omega)⟩
theorem idx6 {S : Nat → Bool} {k : Nat} (h : k < 6) : idx ([S 0, S 1, S 2, S 3, S 4, S 5] : List Bool) (k : Int) = some (S k) := by
 rw [idx_nat]
 match k, h with
 | 0, _ => rfl
 | 1, _ => rfl
 | 2, _ => rfl
 | 3, _ => rfl
 | 4, _ => rfl
 | 5, _ => rfl
theorem upTo_go {n : Nat} (hn : n ≤ 6) {last : Int} (hl : last + 1 = n) : ∀ (d k : Nat) (S : Nat → Bool), k ≤ n → n - k < d → pupTo_L0 last d (S 0) (S 1) (S 2) (S 3) (S 4) (S 5) (k : Int) = some (mkC fun j => (decide (k ≤ j) && decide (j < n)) || S j)
 | 0, _, _, _, h => by omega
 | d + 1, k, S, hk, hd => by
  unfold pupTo_L0
  by_cases hkn : k = n
  ·rw [if_neg (by omega)]
   refine congrArg some (mkC_congr (S := S) fun j _ => ?_)
   have : (decide (k ≤ j) && decide (j < n)) = false := by
    by_cases h9 : k ≤ j
    ·rw [decide_eq_false (show ¬ j < n by omega)]; simp
    ·rw [decide_eq_false h9]; rfl
   rw [this]; rfl
  ·rw [if_pos (by omega), gd_pos (by omega), gd_pos (fI (by omega)), show (k : Int) + 1 = ((k + 1 : Nat) : Int) by omega]
   refine (upTo_go hn hl d (k + 1) (upd S (k : Int) true) (by omega) (by omega)).trans (congrArg some (mkC_congr fun j _ => ?_))
   rw [upd_nat]
   by_cases h9 : k = j
   ·subst h9
    rw [if_pos rfl, decide_eq_true (Nat.le_refl k), decide_eq_true (show k < n by omega)]; simp
   ·rw [if_neg h9, show decide (k + 1 ≤ j) = decide (k ≤ j) from decide_eq_decide.2 (by omega)]
theorem upTo_eq {n : Nat} (hn : n ≤ 6) {last : Int} (hl : last + 1 = n) : pupTo last = some (mkC fun j => decide (j < n)) := by
 unfold pupTo
 rw [gd_pos (fI (by omega))]
 have := upTo_go hn hl ((last + 1).toNat + 1) 0 (fun _ => false) (Nat.zero_le _) (by omega)
 refine Eq.trans this (congrArg some (mkC_congr fun j _ => ?_))
 simp
theorem allCards_eq {W : Wk} (h : W.s.Cards.length ≤ 6) : pallCards W = some (mkC fun j => decide (j < W.s.Cards.length)) := by
 unfold pallCards
 rw [gd_pos (fI (by omega)), upTo_eq h (by omega), obs]
theorem among_go {C S0 : Nat → Bool} : ∀ (d k : Nat) (S : Nat → Bool), k ≤ 6 → 6 - k < d → (∀ j, j < 6 → S j = if j < k then (S0 j && C j) else S0 j) → pamong_L0 (mkC C) d (S 0) (S 1) (S 2) (S 3) (S 4) (S 5) (k : Int) = some (mkC fun j => S0 j && C j)
 | 0, _, _, _, h, _ => by omega
 | d + 1, k, S, hk, hd, hS => by
  unfold pamong_L0
  by_cases hkn : k = 6
  ·rw [if_neg (by omega)]
   exact congrArg some (mkC_congr (S := S) fun j hj => by rw [hS j hj, if_pos (by omega)])
  ·rw [if_pos (by omega), idx6 (by omega), obs]
   have hSk := hS k (by omega)
   rw [if_neg (Nat.lt_irrefl k)] at hSk
   have nx : ∀ v, v = (S0 k && C k) → ∀ j, j < 6 → upd S (k : Int) v j = if j < k + 1 then (S0 j && C j) else S0 j := fun v hv j hj => by
    rw [upd_nat]
    by_cases h9 : k = j
    ·subst h9; rw [if_pos rfl, if_pos (by omega)]; exact hv
    ·rw [if_neg h9, hS j hj]
     by_cases h8 : j < k
     ·rw [if_pos h8, if_pos (by omega)]
     ·rw [if_neg h8, if_neg (by omega)]
   by_cases hs : S k = true
   ·rw [if_pos hs]
    have e : idx ([(mkC C).c0, (mkC C).c1, (mkC C).c2, (mkC C).c3, (mkC C).c4, (mkC C).c5] : List Bool) (k : Int) = some (C k) := idx6 (S := C) (by omega)
    rw [e, obs, gd_pos (by omega), gd_pos (fI (by omega)), show (k : Int) + 1 = ((k + 1 : Nat) : Int) by omega]
    exact among_go d (k + 1) (upd S (k : Int) (C k)) (by omega) (by omega) (nx _ (by rw [← hSk, hs]; rfl))
   ·rw [if_neg hs, gd_pos (by omega), gd_pos (fI (by omega)), show (k : Int) + 1 = ((k + 1 : Nat) : Int) by omega]
    exact among_go d (k + 1) (upd S (k : Int) false) (by omega) (by omega) (nx _ (by rw [← hSk]; simp at hs; rw [hs]; rfl))
theorem among_eq {C S : Nat → Bool} : pamong (mkC C) (mkC S) = some (mkC fun j => S j && C j) := by
 unfold pamong
 exact among_go _ 0 S (by omega) (by decide) fun j _ => by rw [if_neg (by omega)]
open Classical in
def SB (s : Stm) (t : Trh) (j : Nat) : Bool := decide (∃ c, s.Cards[j]? = some c ∧ RT s t c)
open Classical in
theorem SB_iff {s : Stm} {t : Trh} {j : Nat} : SB s t j = true ↔ ∃ c, s.Cards[j]? = some c ∧ RT s t c := by unfold SB; exact decide_eq_true_iff
theorem SB_out {s : Stm} {t : Trh} {j : Nat} (h : s.Cards.length ≤ j) : SB s t j = false := by
 cases hb : SB s t j with
 | false => rfl
 | true =>
  obtain ⟨c, hc, _⟩ := SB_iff.1 hb
  have := (List.getElem?_eq_some_iff.1 hc).1
  omega
theorem rightCards_eq {W : Wk} {s : Stm} (hs : W.s = s) (h : VS0 s) (hm : ¬ ManyS s) {t : Trh} (ht : isT s t) : prightCards W t = some (mkC (SB s t)) := by
 obtain ⟨_, _, h3⟩ := not_many hm
 have go : ∀ (d k : Nat) (S : Nat → Bool), k ≤ s.Cards.length → s.Cards.length - k < d → (∀ j, S j = if j < k then SB s t j else false) → prightCards_L0 W t d (S 0) (S 1) (S 2) (S 3) (S 4) (S 5) (k : Int) = some (mkC (SB s t)) := by
  intro d
  induction d with
  | zero => intro k S _ h; omega
  | succ d ih =>
   intro k S hk hd hS
   unfold prightCards_L0
   rw [hs]
   by_cases hkn : k = s.Cards.length
   ·rw [if_neg (by omega)]
    refine congrArg some (mkC_congr (S := S) fun j hj => ?_)
    rw [hS j]
    by_cases h9 : j < k
    ·rw [if_pos h9]
    ·rw [if_neg h9, SB_out (by omega)]
   ·have hlt : k < s.Cards.length := by omega
    have hg := List.getElem?_eq_getElem hlt
    have hc := h.cards _ (List.getElem_mem hlt)
    generalize s.Cards[k] = c at hg hc
    obtain ⟨b, b1, b2⟩ := isRight_ev h hm ht hc
    have hb : b = SB s t k := by
     rw [Bool.eq_iff_iff, b2, SB_iff]
     exact ⟨fun q => ⟨c, hg, q⟩, fun ⟨c', q1, q2⟩ => by rw [hg] at q1; cases q1; exact q2⟩
    rw [if_pos (by omega), idx_at hg, obs, b1, obs, gd_pos (by omega), gd_pos (fI (by omega)), show (k : Int) + 1 = ((k + 1 : Nat) : Int) by omega]
    refine ih (k + 1) (upd S (k : Int) b) (by omega) (by omega) fun j => ?_
    rw [upd_nat]
    by_cases h9 : k = j
    ·subst h9; rw [if_pos rfl, if_pos (by omega)]; exact hb
    ·rw [if_neg h9, hS j]
     by_cases h8 : j < k
     ·rw [if_pos h8, if_pos (by omega)]
     ·rw [if_neg h8, if_neg (by omega)]
 unfold prightCards
 rw [hs]
 exact go _ 0 (fun _ => false) (Nat.zero_le _) (by omega) fun j => by rw [if_neg (by omega)]
structure WOk (s : Stm) (W : Wk) : Prop where
 v0 : VS0 s
 many : ¬ ManyS s
 ss : W.s = s
 m : ∀ t, isT s t → mget W.right t = some (mkC (SB s t))
theorem isT.fit {s : Stm} {t : Trh} (ht : isT s t) (h : VS0 s) (hm : ¬ ManyS s) : MK.fit t := by
 obtain ⟨_, hh, _⟩ := not_many hm
 obtain ⟨a, b, c, d⟩ := ht.rng h
 exact ⟨fI (by omega), fI (by omega), fI (by omega), fI (by omega), trivial⟩
open Classical in
theorem open_L0 {s : Stm} (h : VS0 s) (hm : ¬ ManyS s) : ∀ (l : List Trh) (D : Trh → Prop) (m : Trh → Option Cds), (∀ t ∈ l, isT s t) → (∀ t, D t → m t = some (mkC (SB s t))) →
  ∃ g, popen_L0 s l (some m) = some ⟨s, some g⟩ ∧ ∀ t, (D t ∨ t ∈ l) → g t = some (mkC (SB s t))
 | [], D, m, _, hD => ⟨m, rfl, fun t ht => ht.elim (hD t) fun h => by cases h⟩
 | t :: l, D, m, hl, hD => by
  have ht := hl t (List.mem_cons_self ..)
  unfold popen_L0
  rw [rightCards_eq (s := s) rfl h hm ht, obs, gd_pos (ht.fit h hm), show mset (some m) t (mkC (SB s t)) = some (some fun k => if k = t then some (mkC (SB s t)) else m k) from rfl, obs]
  obtain ⟨g, g1, g2⟩ := open_L0 h hm l (fun x => D x ∨ x = t) (fun k => if k = t then some (mkC (SB s t)) else m k) (fun x hx => hl x (List.mem_cons_of_mem _ hx)) fun x hx => by
   by_cases h9 : x = t
   ·rw [if_pos h9, h9]
   ·rw [if_neg h9]; exact hD x (hx.elim id fun q => absurd q h9)
  refine ⟨g, g1, fun x hx => g2 x ?_⟩
  rcases hx with hx | hx
  ·exact .inl (.inl hx)
  ·rcases List.mem_cons.1 hx with h9 | h9
   ·exact .inl (.inr h9)
   ·exact .inr h9
theorem open_eq {s : Stm} (h : VS s) : ∃ W, popen s = some W ∧ WOk s W := by
 obtain ⟨g, g1, g2⟩ := open_L0 h.toVS0 h.many (chL s) (fun _ => False) (fun _ => none) (fun t ht => (mem_chL h.toVS0).1 ht) fun _ h => h.elim
 refine ⟨⟨s, some g⟩, ?_, h.toVS0, h.many, rfl, fun t ht => g2 t (.inr ((mem_chL h.toVS0).2 ht))⟩
 unfold popen
 rw [choices_eq h.toVS0 h.many, obs]
 exact g1
theorem hold_iff {s : Stm} {t : Trh} {S : Nat → Bool} (hn : s.Cards.length ≤ 6) (hS : ∀ j, S j = true → j < s.Cards.length) : (∀ j, j < 6 → (S j && SB s t j) = S j) ↔ ∀ j, S j = true → ∀ c, s.Cards[j]? = some c → RT s t c := by
 constructor
 ·intro h j hj c hc
  have hjl := hS j hj
  have := h j (by omega)
  rw [hj, Bool.true_and] at this
  obtain ⟨c', q1, q2⟩ := SB_iff.1 this
  rw [hc] at q1; cases q1; exact q2
 ·intro h j hj
  cases hs : S j with
  | false => rfl
  | true =>
   have hjl := hS j hs
   rw [SB_iff.2 ⟨_, List.getElem?_eq_getElem hjl, h j hs _ (List.getElem?_eq_getElem hjl)⟩]; rfl
theorem canHold_ev {s : Stm} {W : Wk} (h : WOk s W) {S : Nat → Bool} (hS : ∀ j, S j = true → j < s.Cards.length) : Ev (pcanHold W (mkC S)) (CanS s S) := by
 obtain ⟨_, _, h3⟩ := not_many h.many
 have go : ∀ (l : List Trh) (b : Bool), (∀ t ∈ l, isT s t) → Ev (pcanHold_L0 W (mkC S) l b) (∃ t ∈ l, ∀ j, S j = true → ∀ c, s.Cards[j]? = some c → RT s t c) := by
  intro l
  induction l with
  | nil => intro b _; unfold pcanHold_L0; exact Ev.ff fun ⟨t, ht, _⟩ => by cases ht
  | cons t l ih =>
   intro b hl
   have ht := hl t (List.mem_cons_self ..)
   unfold pcanHold_L0
   rw [gd_pos (ht.fit h.v0 h.many), mcase_some (h.m t ht), among_eq, obs]
   have heq := (eqC_mk (S := fun j => S j && SB s t j) (S' := S)).trans (hold_iff (t := t) h3 hS)
   show Ev (ite (eqC (mkC fun j => S j && SB s t j) (mkC S) = true) _ _) _
   by_cases hh : ∀ j, S j = true → ∀ c, s.Cards[j]? = some c → RT s t c
   ·rw [if_pos (heq.2 hh)]; exact Ev.tt ⟨t, List.mem_cons_self .., hh⟩
   ·rw [if_neg fun q => hh (heq.1 q)]
    exact (ih b fun x hx => hl x (List.mem_cons_of_mem _ hx)).imp ⟨fun ⟨x, hx, q⟩ => ⟨x, List.mem_cons_of_mem _ hx, q⟩, fun ⟨x, hx, q⟩ => by
     rcases List.mem_cons.1 hx with rfl | hx
     ·exact absurd q hh
     ·exact ⟨x, hx, q⟩⟩
 unfold pcanHold
 rw [h.ss, choices_eq h.v0 h.many, obs]
 exact (go _ false fun t ht => (mem_chL h.v0).1 ht).imp ⟨fun ⟨t, h1, h2⟩ => ⟨t, (mem_chL h.v0).1 h1, h2⟩, fun ⟨t, h1, h2⟩ => ⟨t, (mem_chL h.v0).2 h1, h2⟩⟩
theorem hasTruth_ev {s : Stm} {W : Wk} (h : WOk s W) : Ev (phasTruth W) (HT s) := by
 obtain ⟨_, _, h3⟩ := not_many h.many
 unfold phasTruth
 rw [allCards_eq (by rw [h.ss]; exact h3), obs, h.ss]
 refine (canHold_ev h fun j hj => of_decide_eq_true hj).ret.imp ?_
 rw [HT_can]
 exact CanS.congr fun j hj => decide_eq_true hj
theorem all_iff {s : Stm} {t : Trh} (hn : s.Cards.length ≤ 6) : (∀ j, j < 6 → SB s t j = decide (j < s.Cards.length)) ↔ ∀ c ∈ s.Cards, RT s t c := by
 constructor
 ·intro h c hc
  obtain ⟨j, hj⟩ := List.mem_iff_getElem?.1 hc
  have hjl := (List.getElem?_eq_some_iff.1 hj).1
  have := h j (by omega)
  rw [decide_eq_true hjl] at this
  obtain ⟨c', q1, q2⟩ := SB_iff.1 this
  rw [hj] at q1; cases q1; exact q2
 ·intro h j _
  by_cases hjl : j < s.Cards.length
  ·rw [decide_eq_true hjl]
   exact SB_iff.2 ⟨_, List.getElem?_eq_getElem hjl, h _ (List.getElem_mem hjl)⟩
  ·rw [decide_eq_false hjl]; exact SB_out (by omega)
open Classical in
theorem truths_L0 {s : Stm} {W : Wk} (h : WOk s W) : ∀ l : List Trh, (∀ t ∈ l, isT s t) → ptruthsI_L0 W (mkC fun j => decide (j < s.Cards.length)) l = some (l.filter fun t => decide (∀ c ∈ s.Cards, RT s t c))
 | [], _ => rfl
 | t :: l, hl => by
  obtain ⟨_, _, h3⟩ := not_many h.many
  have ht := hl t (List.mem_cons_self ..)
  have ih := truths_L0 h l fun x hx => hl x (List.mem_cons_of_mem _ hx)
  unfold ptruthsI_L0
  rw [gd_pos (ht.fit h.v0 h.many), mcase_some (h.m t ht), ih]
  have heq := (eqC_mk (S := SB s t) (S' := fun j => decide (j < s.Cards.length))).trans (all_iff (t := t) h3)
  show (ite (eqC (mkC (SB s t)) (mkC fun j => decide (j < s.Cards.length)) = true) _ _) = _
  by_cases ho : ∀ c ∈ s.Cards, RT s t c
  ·rw [if_pos (heq.2 ho), obs, List.filter_cons_of_pos (by simpa using ho)]
  ·rw [if_neg fun q => ho (heq.1 q), List.filter_cons_of_neg (by simpa using ho)]
theorem truths_eq {s : Stm} {W : Wk} (h : WOk s W) : ptruths W = some (TL s) := by
 obtain ⟨_, _, h3⟩ := not_many h.many
 unfold ptruths ptruthsI
 rw [allCards_eq (by rw [h.ss]; exact h3), obs, h.ss, choices_eq h.v0 h.many, obs, truths_L0 h _ fun t ht => (mem_chL h.v0).1 ht, obs]; rfl
def wk0 : Wk := { s := ({ Wide := (0 : Int), High := (0 : Int), Fall := (0 : Int), A := ({ Lo := (0 : Int), Hi := (0 : Int) } : Rg), B := ({ Lo := (0 : Int), Hi := (0 : Int) } : Rg), Half := ({ Lo := (0 : Int), Hi := (0 : Int) } : Rg), Peak := ({ Lo := (0 : Int), Hi := (0 : Int) } : Rg), Cards := [] } : Stm), right := none }
theorem openTrue_ok {s : Stm} (h : VS s) {L : List Rct} (hL : shrt L) (hr : ∀ r ∈ L, rcOk s r) (ht : HT s) : ∃ W, popenTrue s L = some (W, 0) ∧ WOk s W := by
 obtain ⟨W, h1, h2⟩ := open_eq h
 refine ⟨W, ?_, h2⟩
 unfold popenTrue
 rw [check_eq, fault_zero.2 h, obs, if_pos rfl, (eachR_ev (q := rcOk s) (fun r _ => hasRect_ev (h.toVS0.fit h.many)) hL).some_of hr, obs, if_pos rfl, h1, obs, (hasTruth_ev h2).some_of ht, obs, if_pos rfl]
theorem openTrue_no {s : Stm} (h : VS s) {L : List Rct} (hL : shrt L) (hr : ∀ r ∈ L, rcOk s r) (ht : ¬ HT s) : popenTrue s L = some (wk0, 11) := by
 obtain ⟨W, h1, h2⟩ := open_eq h
 unfold popenTrue
 rw [check_eq, fault_zero.2 h, obs, if_pos rfl, (eachR_ev (q := rcOk s) (fun r _ => hasRect_ev (h.toVS0.fit h.many)) hL).some_of hr, obs, if_pos rfl, h1, obs, (hasTruth_ev h2).some_not ht, obs, if_neg (by simp)]; rfl
theorem openTrue_bad {s : Stm} {L : List Rct} (h : faultN s ≠ 0) : popenTrue s L = some (wk0, faultN s) := by
 unfold popenTrue
 rw [check_eq, obs, if_neg h]; rfl
end
end Go.Proofs.YtbnfnhfanooplaaGreat

namespace Go.Proofs.YtbnfnhfanooplaaGreat
open _root_.Go.Proofs.Tryz
open Go.Abs Go.Abs.Grow
set_option maxRecDepth 100000
noncomputable section
theorem minimum_eq {l : List Int} (h : l ≠ []) (hl : shrt l) : pminimum l = some (minL l) := by
 have hl := hl.lt
 cases l with
 | nil => exact absurd rfl h
 | cons x l =>
  unfold pminimum
  rw [if_neg (by simp; omega), idx_zero rfl, obs]
  have key := loopFold (l := x :: l) (fun s a => min s a) (fun d s k => pminimum_L0 (x :: l) d s k) some (fun d k s a ha => by
   have hk := (List.getElem?_eq_some_iff.1 ha).1
   rw [pminimum_L0, if_pos (by omega), idx_at ha, obs]
   by_cases hc : a < s
   ·rw [if_pos hc, gd_pos (fI (by omega)), Int.min_eq_right (by omega)]
   ·rw [if_neg hc, gd_pos (fI (by omega)), Int.min_eq_left (by omega)]) (fun d s => by rw [pminimum_L0, if_neg (Int.lt_irrefl _)]) ((x :: l).length + 1) 0 x (Nat.zero_le _) (by omega)
  refine key.trans ?_
  rw [List.drop_zero]
  show some (l.foldl min (min x x)) = _
  rw [Int.min_self]; rfl
theorem max_eq {l : List Int} (h : l ≠ []) (hl : shrt l) : psMax l = some (maxL l) := by
 have hl := hl.lt
 cases l with
 | nil => exact absurd rfl h
 | cons x l =>
  unfold psMax
  rw [if_neg (by simp; omega), idx_zero rfl, obs]
  have key := loopFold (l := x :: l) (fun s a => max s a) (fun d s k => psMax_L0 (x :: l) d s k) some (fun d k s a ha => by
   have hk := (List.getElem?_eq_some_iff.1 ha).1
   rw [psMax_L0, if_pos (by omega), idx_at ha, obs, gd_pos (fI (by omega))]) (fun d s => by rw [psMax_L0, if_neg (Int.lt_irrefl _)]) ((((x :: l).length : Int) - 1).toNat + 1) 1 x (by simp) (by simp only [List.length_cons]; omega)
  exact key
def Of (s : Stm) (h : Trh → Int) : Int → Prop := fun x => ∃ t, TS s t ∧ h t = x
theorem span_L0 {q : Trh → Option Int} {h : Trh → Int} : ∀ (l : List Trh) (acc : List Int), (∀ c ∈ l, q c = some (h c)) → acc.length + l.length < 1048576 → acc ++ l.map h ≠ [] → pspan_L0 q l acc = some ⟨minL (acc ++ l.map h), maxL (acc ++ l.map h)⟩
 | [], acc, _, hl, hne => by
  unfold pspan_L0
  rw [List.map_nil, List.append_nil] at hne ⊢
  simp only [List.length_nil] at hl
  rw [minimum_eq hne (by unfold shrt; omega), obs, max_eq hne (by unfold shrt; omega), obs]
 | c :: l, acc, hq, hl, hne => by
  simp only [List.length_cons] at hl
  unfold pspan_L0
  rw [hq c (List.mem_cons_self ..), obs, gd_pos (by omega), span_L0 l (acc ++ [h c]) (fun x hx => hq x (List.mem_cons_of_mem _ hx)) (by rw [List.length_append]; simp only [List.length_cons, List.length_nil]; omega) (by simp), List.append_assoc]
  rfl
theorem span_eq {s : Stm} {W : Wk} (hw : WOk s W) (ht : HT s) {q : Trh → Option Int} {h : Trh → Int} (hq : ∀ t, TS s t → q t = some (h t)) : ∃ lo hi, pspan W q = some ⟨lo, hi⟩ ∧ Spn (Of s h) lo hi := by
 have hlen := TL_len hw.v0 hw.many
 have hne2 : [] ++ (TL s).map h ≠ [] := by
  obtain ⟨t, h1⟩ := ht
  have := (mem_TL hw.v0).2 h1
  intro hn
  rw [List.nil_append, List.map_eq_nil_iff] at hn
  rw [hn] at this; cases this
 have hmem : ∀ x, x ∈ ([] : List Int) ++ (TL s).map h ↔ Of s h x := fun x => by
  rw [List.nil_append, List.mem_map]
  exact ⟨fun ⟨t, h1, h2⟩ => ⟨t, (mem_TL hw.v0).1 h1, h2⟩, fun ⟨t, h1, h2⟩ => ⟨t, (mem_TL hw.v0).2 h1, h2⟩⟩
 refine ⟨_, _, ?_, (hmem _).1 (minL_mem hne2).1, (hmem _).1 (maxL_mem hne2).1, fun x hx => ⟨(minL_mem hne2).2 x ((hmem x).2 hx), (maxL_mem hne2).2 x ((hmem x).2 hx)⟩⟩
 unfold pspan
 rw [truths_eq hw, obs, span_L0 (h := h) _ [] (fun c hc => hq c ((mem_TL hw.v0).1 hc)) (by simp only [List.length_nil]; omega) hne2]
theorem cloneC_eq {l : List Crd} (h : l.length ≤ 1000) : pcloneC l = some l := by
 unfold pcloneC
 rw [gd_pos (by simp only [List.length_nil]; omega), List.nil_append]
structure BOk (s x : Stm) : Prop where
 rest : x.Wide = s.Wide ∧ x.High = s.High ∧ x.Fall = s.Fall ∧ x.Cards = s.Cards
 a : Spn (Of s fun t => t.A) x.A.Lo x.A.Hi
 b : Spn (Of s fun t => t.B) x.B.Lo x.B.Hi
 half : Spn (Of s fun t => t.Half) x.Half.Lo x.Half.Hi
 peak : Spn (Of s fun t => t.Peak) x.Peak.Lo x.Peak.Hi
theorem Bounds_ok {s : Stm} (h : VS s) (ht : HT s) : ∃ b, pBounds s = some (b, 0) ∧ BOk s b := by
 obtain ⟨W, h1, hw⟩ := openTrue_ok h (L := []) (by unfold shrt; simp) (fun r hr => by cases hr) ht
 obtain ⟨_, _, h3⟩ := not_many h.many
 obtain ⟨a1, a2, a3, a4⟩ := span_eq hw ht (q := fun a => pbA a) (h := fun t => t.A) (fun t _ => rfl)
 obtain ⟨b1, b2, b3, b4⟩ := span_eq hw ht (q := fun a => pbB a) (h := fun t => t.B) (fun t _ => rfl)
 obtain ⟨c1, c2, c3, c4⟩ := span_eq hw ht (q := fun a => pbHalf a) (h := fun t => t.Half) (fun t _ => rfl)
 obtain ⟨d1, d2, d3, d4⟩ := span_eq hw ht (q := fun a => pbPeak a) (h := fun t => t.Peak) (fun t _ => rfl)
 refine ⟨⟨s.Wide, s.High, s.Fall, ⟨a1, a2⟩, ⟨b1, b2⟩, ⟨c1, c2⟩, ⟨d1, d2⟩, s.Cards⟩, ?_, ⟨rfl, rfl, rfl, rfl⟩, a4, b4, c4, d4⟩
 unfold pBounds
 rw [h1, obs, if_pos rfl]
 dsimp only
 rw [a3, obs, b3, obs, c3, obs, d3, obs, cloneC_eq (by omega), obs]
def st0 : Stm := { Wide := (0 : Int), High := (0 : Int), Fall := (0 : Int), A := ({ Lo := (0 : Int), Hi := (0 : Int) } : Rg), B := ({ Lo := (0 : Int), Hi := (0 : Int) } : Rg), Half := ({ Lo := (0 : Int), Hi := (0 : Int) } : Rg), Peak := ({ Lo := (0 : Int), Hi := (0 : Int) } : Rg), Cards := [] }
theorem Bounds_no {s : Stm} (h : VS s) (ht : ¬ HT s) : pBounds s = some (st0, 11) := by
 unfold pBounds
 rw [openTrue_no h (L := []) (by unfold shrt; simp) (fun r hr => by cases hr) ht, obs, if_neg (by decide)]; rfl
theorem Bounds_bad {s : Stm} (h : faultN s ≠ 0) : pBounds s = some (st0, faultN s) := by
 unfold pBounds
 rw [openTrue_bad h, obs, if_neg h]; rfl
theorem ProveTruth_ev {s : Stm} {t : Trh} : Ev (pProveTruth s t) (VS s ∧ TS s t) := by
 unfold pProveTruth
 rw [check_eq, obs]
 refine (Ev.ite (K := TS s t) fun hf => ?_).imp (and_congr fault_zero Iff.rfl)
 have h := fault_zero.1 hf
 obtain ⟨_, _, h3⟩ := not_many h.many
 refine (Ev.and (P := isT s t) (K := ∀ c ∈ s.Cards, RT s t c) (Ev.and has_ev fun _ => Ev.and has_ev fun _ => Ev.and has_ev fun _ => has_ev.ret) fun ht => ?_)
 rw [rightCards_eq (s := s) rfl h.toVS0 h.many ht, obs, allCards_eq h3, obs]
 exact Ev.mk' ((eqC_mk (S := SB s t) (S' := fun j => decide (j < s.Cards.length))).trans (all_iff h3))
end
end Go.Proofs.YtbnfnhfanooplaaGreat

namespace Go.Proofs.YtbnfnhfanooplaaGreat
open _root_.Go.Proofs.Tryz
open Go.Abs Go.Abs.Grow
set_option maxRecDepth 100000
noncomputable section
theorem aw : (pawake.bind fun r => some r) = some true := rfl
def ThinN (s : Stm) : Prop := s.Cards.length ≤ 9 ∧ (faultN s = 0 → manyN s ≤ 300)
theorem thin_ev {s : Stm} : Ev (plThin s) (ThinN s) := by
 unfold plThin ThinN
 refine (Ev.ite (K := faultN s = 0 → manyN s ≤ 300) fun h1 => ?_).imp (and_congr (by omega) Iff.rfl)
 rw [rFault_eq, obs]
 by_cases hf : faultN s = 0
 ·have h := fault_zero.1 hf
  rw [if_pos hf, rMany_eq h.toVS0 h.many, obs]
  exact Ev.dec ⟨fun h _ => h, fun h => h hf⟩
 ·rw [if_neg hf]; exact Ev.tt fun h => absurd h hf
theorem lStorm_eq {s : Stm} (h : s.Cards.length ≤ 9) : plStorm s = some s := by
 have k1 := loopApp0 (l := s.Cards) (F := fun d acc x => plStorm_L0 s d s.Wide s.High s.Fall s.A.Lo s.A.Hi s.B.Lo s.B.Hi s.Half.Lo s.Half.Hi s.Peak.Lo s.Peak.Hi acc x) (fun c : Crd => c) (fun acc => some ({ s with Cards := acc } : Stm)) (fun d k acc a ha hac => by
  have hk := (List.getElem?_eq_some_iff.1 ha).1
  show plStorm_L0 s (d + 1) _ _ _ _ _ _ _ _ _ _ _ _ _ = _
  rw [plStorm_L0, if_pos (by omega), idx_at ha, obs]
  unfold plTo
  rw [obs, obs, obs, gd_pos (by omega), gd_pos (fI (by omega))]) (fun d acc => by show plStorm_L0 s (d + 1) _ _ _ _ _ _ _ _ _ _ _ _ _ = _; rw [plStorm_L0, if_neg (Int.lt_irrefl _)]) (d := 1000000) (by omega)
 unfold plStorm plTo
 rw [obs, obs, obs, obs]
 refine k1.trans ?_
 rw [List.map_id']
theorem wu {n : Nat} (h : n ≤ 64) : wrapZ .u64 (n : Int) = (n : Int) := wz (show (0 : Int) ≤ n ∧ (n : Int) < 18446744073709551616 by omega)
theorem pow6 {i : Nat} (h : i ≤ 6) : 2 ^ i ≤ 64 := Nat.le_trans (Nat.pow_le_pow_right (by omega) h) (by decide)
theorem rEvery_eq {s : Stm} (hn : s.Cards.length ≤ 6) : prEvery s = some ((2 ^ s.Cards.length - 1 : Nat) : Int) := by
 have hp := pow6 hn
 have h0 := Nat.two_pow_pos s.Cards.length
 have e : (1 : Int) * 2 ^ (Int.toNat (s.Cards.length : Int)) = ((2 ^ s.Cards.length : Nat) : Int) := by rw [Int.toNat_natCast, Int.one_mul, Int.natCast_pow]; rfl
 unfold prEvery
 rw [wu (by omega), e, gd_pos (by omega), gd_pos (by omega), gd_pos (by omega), gd_pos (fI (by omega)), gd_pos (fI (by omega))]
 congr 1; omega
end
end Go.Proofs.YtbnfnhfanooplaaGreat

namespace Go.Proofs.YtbnfnhfanooplaaGreat
open _root_.Go.Proofs.Tryz
open Go.Abs Go.Abs.Grow
set_option maxRecDepth 100000
noncomputable section
theorem pow_cast (j : Nat) (c : Int) : c * 2 ^ (Int.toNat (j : Int)) = c * ((2 ^ j : Nat) : Int) := by rw [Int.toNat_natCast, Int.natCast_pow]; rfl
end
end Go.Proofs.YtbnfnhfanooplaaGreat

namespace Go.Proofs.YtbnfnhfanooplaaGreat
open _root_.Go.Proofs.Tryz
open Go.Abs Go.Abs.Grow
set_option maxRecDepth 100000
noncomputable section
theorem rNth_eq {s : Stm} (h : VS0 s) (hm : ¬ ManyS s) {n : Int} (h0 : 0 ≤ n) (hn : n < manyN s) : prNth s n = some (nthT s n) := by
 obtain ⟨h1, h2, h3, h4, _, _, h7⟩ := many_rng h hm
 obtain ⟨e1, e2, e3, e4, e5, e6⟩ := nth_rng h hm h0 hn
 obtain ⟨a, b, c, d⟩ := h.ws hm
 have a' := a; have b' := b; have c' := c; have d' := d
 have p1 : n / cnt s.A ≤ n := Int.ediv_le_self _ h0
 have p2 : n / cnt s.A / cnt s.B ≤ n / cnt s.A := Int.ediv_le_self _ e2
 unfold Wi at a' b' c' d'
 unfold prNth
 simp only [rCount_eq a, rCount_eq b, rCount_eq c, obs]
 unfold nthT
 generalize n / cnt s.A / cnt s.B / cnt s.Half = x4 at *
 generalize n / cnt s.A / cnt s.B % cnt s.Half = x3 at *
 generalize n / cnt s.A / cnt s.B = x5 at *
 generalize n / cnt s.A % cnt s.B = x2 at *
 generalize n / cnt s.A = x6 at *
 generalize n % cnt s.A = x1 at *
 repeat rw [gd_pos (by first | exact fI (by omega) | omega)]
end
end Go.Proofs.YtbnfnhfanooplaaGreat

namespace Go.Proofs.YtbnfnhfanooplaaGreat
open _root_.Go.Proofs.Tryz
open Go.Abs Go.Abs.Grow
set_option maxRecDepth 100000
noncomputable section
def RR (s : Stm) (t : Trh) (c : Crd) (x y : Int) : Prop := (hitP s t x y ↔ c.Hail = true) ∧ inR c.Size (szN s t x y)
open Classical in
theorem rR_inner {s : Stm} (h : VS0 s) (hm : ¬ ManyS s) {t : Trh} (ht : isT s t) {c : Crd} (hc : CV s c) {x : Int} (hx : inR c.X x) {K : Bool → Int → Option Bool} : ∀ (d m : Nat) (y : Int) (b : Bool), c.Y.Lo ≤ y → y + m = c.Y.Hi + 1 → m < d →
  prRight_L1 s t c x K d b y = if ∃ y', y ≤ y' ∧ y' ≤ c.Y.Hi ∧ RR s t c x y' then some true else K b (x + 1)
 | 0, m, _, _, _, _, h => by omega
 | d + 1, m, y, b, hy, hm', hd => by
  obtain ⟨⟨hX, hY⟩, hS, hH⟩ := id hc
  obtain ⟨g1, g2, _⟩ := not_many hm
  unfold Wi at hX hY
  dsimp only at hX hY
  have hx' := hx
  unfold inR at hx'
  unfold prRight_L1
  cases m with
  | zero => rw [if_neg (by omega), gd_pos (fI (by omega)), if_neg fun ⟨y', q1, q2, _⟩ => by omega]
  | succ m =>
   have hg : gr s x y := by unfold gr; omega
   have ih := rR_inner h hm ht hc hx (K := K) d m (y + 1) b (by omega) (by omega) (by omega)
   have nx : ¬ RR s t c x y → (gd (fitsP .i64 (y + 1)) (prRight_L1 s t c x K d b (y + 1))) = if ∃ y', y ≤ y' ∧ y' ≤ c.Y.Hi ∧ RR s t c x y' then some true else K b (x + 1) := fun hn => by
    rw [gd_pos (fI (by omega)), ih]
    by_cases he : ∃ y', y + 1 ≤ y' ∧ y' ≤ c.Y.Hi ∧ RR s t c x y'
    ·obtain ⟨y', q1, q2, q3⟩ := he
     rw [if_pos ⟨y', q1, q2, q3⟩, if_pos ⟨y', by omega, q2, q3⟩]
    ·rw [if_neg he, if_neg fun ⟨y', q1, q2, q3⟩ => he ⟨y', by
      rcases Int.lt_or_eq_of_le q1 with h9 | h9
      ·omega
      ·rw [← h9] at q3; exact absurd q3 hn, q2, q3⟩]
   have yes : RR s t c x y → some true = if ∃ y', y ≤ y' ∧ y' ≤ c.Y.Hi ∧ RR s t c x y' then some true else K b (x + 1) := fun hh => by
    rw [if_pos ⟨y, Int.le_refl _, by omega, hh⟩]
   rw [if_pos (by omega)]
   by_cases hl : c.Hail = true
   ·rw [if_pos hl, rHit_ev h hm ht hg, obs]
    by_cases hh : hitP s t x y
    ·rw [if_pos (decide_eq_true hh), rSize_eq h hm ht hg, obs]
     obtain ⟨b', q1, q2⟩ := In_ev (n := szN s t x y) (lo := c.Size.Lo) (hi := c.Size.Hi)
     rw [q1, obs]
     cases b' with
     | true => rw [if_pos rfl]; exact yes ⟨⟨fun _ => hl, fun _ => hh⟩, q2.1 rfl⟩
     | false => rw [if_neg (by simp)]; exact nx fun q => by have := q2.2 q.2; cases this
    ·rw [if_neg (by rw [decide_eq_false hh]; simp)]; exact nx fun q => hh (q.1.2 hl)
   ·have hsz : c.Size = ⟨0, 0⟩ := hH.resolve_left hl
    rw [if_neg hl, rHit_ev h hm ht hg, obs]
    by_cases hh : hitP s t x y
    ·rw [if_pos (decide_eq_true hh)]; exact nx fun q => hl (q.1.1 hh)
    ·rw [if_neg (by rw [decide_eq_false hh]; simp)]
     refine yes ⟨⟨fun q => absurd q hh, fun q => absurd q hl⟩, ?_⟩
     have : szN s t x y = 0 := by unfold szN; rw [if_neg hh]
     rw [this, hsz]; unfold inR; dsimp only; omega
theorem rRight_ev {s : Stm} (h : VS0 s) (hm : ¬ ManyS s) {t : Trh} (ht : isT s t) {c : Crd} (hc : CV s c) : Ev (prRight s t c) (RT s t c) := by
 obtain ⟨⟨hX, hY⟩, _⟩ := id hc
 obtain ⟨g1, g2, _⟩ := not_many hm
 unfold Wi at hX hY
 dsimp only at hX hY
 have go : ∀ (d m : Nat) (x : Int) (b : Bool), c.X.Lo ≤ x → x + m = c.X.Hi + 1 → m < d → Ev (prRight_L0 s t c d b x) (∃ x', x ≤ x' ∧ x' ≤ c.X.Hi ∧ ∃ y', c.Y.Lo ≤ y' ∧ y' ≤ c.Y.Hi ∧ RR s t c x' y') := by
  intro d
  induction d with
  | zero => intro m _ _ _ _ h; omega
  | succ d ih =>
   intro m x b hx hm' hd
   unfold prRight_L0
   cases m with
   | zero => rw [if_neg (by omega)]; exact Ev.ff fun ⟨x', q1, q2, _⟩ => by omega
   | succ m =>
    rw [if_pos (by omega), rR_inner h hm ht hc (x := x) (by unfold inR; omega) 1000000 (c.Y.Hi + 1 - c.Y.Lo).toNat c.Y.Lo b (Int.le_refl _) (by omega) (by omega)]
    by_cases he : ∃ y', c.Y.Lo ≤ y' ∧ y' ≤ c.Y.Hi ∧ RR s t c x y'
    ·rw [if_pos he]; exact Ev.tt ⟨x, Int.le_refl _, by omega, he⟩
    ·rw [if_neg he]
     exact (ih m (x + 1) b (by omega) (by omega) (by omega)).imp ⟨fun ⟨x', q1, q2, q3⟩ => ⟨x', by omega, q2, q3⟩, fun ⟨x', q1, q2, q3⟩ => ⟨x', by
      rcases Int.lt_or_eq_of_le q1 with h9 | h9
      ·omega
      ·rw [← h9] at q3; exact absurd q3 he, q2, q3⟩⟩
 unfold prRight
 exact (go 1000000 (c.X.Hi + 1 - c.X.Lo).toNat c.X.Lo false (Int.le_refl _) (by omega) (by omega)).imp ⟨fun ⟨x, q1, q2, y, q3, q4, q5⟩ => ⟨x, y, ⟨⟨q1, q2⟩, q3, q4⟩, q5⟩, fun ⟨x, y, ⟨⟨q1, q2⟩, q3, q4⟩, q5⟩ => ⟨x, q1, q2, y, q3, q4, q5⟩⟩
theorem rIsTruth_ev {s : Stm} (h : VS s) {t : Trh} : Ev (prIsTruth s t) (TS s t) := by
 obtain ⟨_, _, h3⟩ := not_many h.many
 unfold prIsTruth
 refine (Ev.and In_ev fun a => Ev.and In_ev fun b => Ev.and In_ev fun c => Ev.and In_ev fun d => ?_).imp ⟨fun ⟨a, b, c, d, e⟩ => ⟨⟨a, b, c, d⟩, e⟩, fun ⟨⟨a, b, c, d⟩, e⟩ => ⟨a, b, c, d, e⟩⟩
 have ht : isT s t := ⟨a, b, c, d⟩
 refine (Ev.loopE (l := s.Cards) (F := prIsTruth_L0 s t) (ok := RT s t) (fin := some true) (P := True) (fun d k x hx => ?_) (fun d => by rw [prIsTruth_L0, if_neg (Int.lt_irrefl _)]) (by omega) fun _ => Ev.tt trivial).imp ⟨fun q => q.1, fun q => ⟨q, trivial⟩⟩
 have hk := (List.getElem?_eq_some_iff.1 hx).1
 rw [prIsTruth_L0, if_pos (by omega), idx_at hx, obs]
 exact (rRight_ev h.toVS0 h.many ht (h.cards x (List.mem_of_getElem? hx))).step (by rw [if_pos rfl, gd_pos (fI (by omega))]) (by rw [if_neg (by simp)])
end
end Go.Proofs.YtbnfnhfanooplaaGreat

namespace Go.Proofs.YtbnfnhfanooplaaGreat
open _root_.Go.Proofs.Tryz
open Go.Abs Go.Abs.Grow
set_option maxRecDepth 100000
noncomputable section
def macc (S : Nat → Bool) : Nat → Nat
 | 0 => 0
 | i + 1 => if S i = true then macc S i ||| 2 ^ i else macc S i
theorem macc_bit (S : Nat → Bool) (j : Nat) : ∀ i, (macc S i).testBit j = (decide (j < i) && S j)
 | 0 => by simp [macc]
 | i + 1 => by
  have ih := macc_bit S j i
  unfold macc
  by_cases hs : S i = true
  ·rw [if_pos hs, Nat.testBit_or, ih, Nat.testBit_two_pow]
   by_cases h : i = j
   ·subst h; simp [hs]
   ·have : decide (j < i + 1) = decide (j < i) := decide_eq_decide.2 (by omega)
    rw [this]; simp [h]
  ·rw [if_neg hs, ih]
   by_cases h : i = j
   ·subst h
    have : S i = false := by simpa using hs
    rw [this]; simp
   ·have : decide (j < i + 1) = decide (j < i) := decide_eq_decide.2 (by omega)
    rw [this]
theorem macc_lt (S : Nat → Bool) (i : Nat) : macc S i < 2 ^ i := by
 apply Nat.lt_pow_two_of_testBit
 intro j hj
 rw [macc_bit, decide_eq_false (by omega)]; rfl
theorem bits_eq {a b n : Nat} (ha : a < 2 ^ n) (hb : b < 2 ^ n) (h : ∀ j, j < n → a.testBit j = b.testBit j) : a = b := by
 apply Nat.eq_of_testBit_eq
 intro j
 by_cases hj : j < n
 ·exact h j hj
 ·rw [Nat.testBit_lt_two_pow (Nat.lt_of_lt_of_le ha (Nat.pow_le_pow_right (by omega) (by omega))), Nat.testBit_lt_two_pow (Nat.lt_of_lt_of_le hb (Nat.pow_le_pow_right (by omega) (by omega)))]
def allN (s : Stm) (t : Trh) : Nat := macc (SB s t) s.Cards.length
theorem all_L1 {s : Stm} (h : VS s) {n : Int} (h0 : 0 ≤ n) (hn : n < manyN s) {l : List Int} {K : List Int → Int → Option (List Int)} (hl : l.length < 1048576) : ∀ (d i : Nat), i ≤ s.Cards.length → s.Cards.length - i < d →
  prAll_L1 s l n K d (macc (SB s (nthT s n)) i : Int) (i : Int) = K (l ++ [(allN s (nthT s n) : Int)]) (n + 1)
 | 0, i, _, hd => by omega
 | d + 1, i, hi, hd => by
  obtain ⟨_, _, h3⟩ := not_many h.many
  have hmr := many_rng h.toVS0 h.many
  unfold prAll_L1
  by_cases hin : i = s.Cards.length
  ·rw [if_neg (by omega), gd_pos hl, gd_pos (fI (by omega)), hin]; rfl
  have hlt : i < s.Cards.length := by omega
  have hg := List.getElem?_eq_getElem hlt
  have hc := h.cards _ (List.getElem_mem hlt)
  generalize s.Cards[i] = c at hg hc
  have ht := nth_isT h.toVS0 h.many h0 hn
  have ih := all_L1 h h0 hn (K := K) hl d (i + 1) (by omega) (by omega)
  have hSB : SB s (nthT s n) i = true ↔ RT s (nthT s n) c := SB_iff.trans ⟨fun ⟨c', q1, q2⟩ => by rw [hg] at q1; cases q1; exact q2, fun q => ⟨c, hg, q⟩⟩
  have hb := macc_lt (SB s (nthT s n)) i
  have hp := pow6 (i := i) (by omega)
  have hp2 := pow6 (i := i + 1) (by omega)
  have hb2 := macc_lt (SB s (nthT s n)) (i + 1)
  have hpow : (1 : Int) * 2 ^ (Int.toNat (wrapZ .u64 (i : Int))) = ((2 ^ i : Nat) : Int) := by rw [wu (by omega), pow_cast, Int.one_mul]
  rw [if_pos (by omega), rNth_eq h.toVS0 h.many h0 hn, obs, idx_at hg, obs]
  obtain ⟨b, q1, q2⟩ := rRight_ev h.toVS0 h.many ht hc
  rw [q1, obs, show (i : Int) + 1 = ((i + 1 : Nat) : Int) by omega]
  by_cases hr : RT s (nthT s n) c
  ·have hm : Nat.lor (macc (SB s (nthT s n)) i) (2 ^ i) = macc (SB s (nthT s n)) (i + 1) := by
    conv => rhs; unfold macc
    rw [if_pos (hSB.2 hr)]; rfl
   rw [if_pos (q2.2 hr), hpow, Int.toNat_natCast, Int.toNat_natCast, hm, wu (by omega), gd_pos (by omega), gd_pos (by omega), gd_pos (by omega), gd_pos (fI (by omega)), gd_pos (by omega), gd_pos (by omega), gd_pos (fI (by omega)), gd_pos (fI (by omega)), gd_pos (fI (by omega)), gd_pos (fI (by omega))]
   exact ih
  ·have hm : macc (SB s (nthT s n)) (i + 1) = macc (SB s (nthT s n)) i := by
    conv => lhs; unfold macc
    rw [if_neg fun q => hr (hSB.1 q)]
   rw [if_neg fun q => hr (q2.1 q), gd_pos (fI (by omega)), ← hm]
   exact ih
def allL' (s : Stm) : List Int := (segI 0 (manyN s).toNat).map fun n => ((allN s (nthT s n) : Nat) : Int)
theorem rAll_eq {s : Stm} (h : VS s) : prAll s = some (allL' s) := by
 obtain ⟨_, _, h3⟩ := not_many h.many
 have hmr := (many_rng h.toVS0 h.many).2.2.2.2.2.2
 have key : ∀ (d m : Nat) (n : Int) (acc : List Int), 0 ≤ n → n + m = manyN s → m < d → acc.length = n.toNat → prAll_L0 s d acc n = some (acc ++ (segI n m).map fun n => ((allN s (nthT s n) : Nat) : Int)) := by
  intro d
  induction d with
  | zero => intro m n acc _ _ h; omega
  | succ d ih =>
   intro m n acc h0 hm hd hacc
   unfold prAll_L0
   rw [rMany_eq h.toVS0 h.many, obs]
   cases m with
   | zero => rw [if_neg (by omega)]; simp [segI]
   | succ m =>
    rw [if_pos (by omega)]
    have := all_L1 h h0 (by omega) (l := acc) (K := prAll_L0 s d) (by omega) 1000000 0 (Nat.zero_le _) (by omega)
    refine Eq.trans this ?_
    rw [ih m (n + 1) _ (by omega) (by omega) (by omega) (by rw [List.length_append, hacc]; simp only [List.length_cons, List.length_nil]; omega), List.append_assoc]
    rfl
 unfold prAll
 have := key 1000000 (manyN s).toNat 0 [] (Int.le_refl _) (by omega) (by omega) rfl
 rw [this, List.nil_append]; rfl
theorem allL_len {s : Stm} : (allL' s).length = (manyN s).toNat := by unfold allL'; rw [List.length_map, segI_len]
theorem allL_get {s : Stm} {n : Nat} (hn : (n : Int) < manyN s) : (allL' s)[n]? = some ((allN s (nthT s n) : Nat) : Int) := by
 unfold allL'
 rw [List.getElem?_map, segI_get (by omega), Int.zero_add]; rfl
theorem allN_full {s : Stm} {t : Trh} : allN s t = 2 ^ s.Cards.length - 1 ↔ ∀ c ∈ s.Cards, RT s t c := by
 have e : (∀ c ∈ s.Cards, RT s t c) ↔ ∀ j, j < s.Cards.length → SB s t j = true := by
  constructor
  ·intro h j hj; exact SB_iff.2 ⟨_, List.getElem?_eq_getElem hj, h _ (List.getElem_mem hj)⟩
  ·intro h c hc
   obtain ⟨j, hj⟩ := List.mem_iff_getElem?.1 hc
   obtain ⟨c', q1, q2⟩ := SB_iff.1 (h j (List.getElem?_eq_some_iff.1 hj).1)
   rw [hj] at q1; cases q1; exact q2
 rw [e]
 have hp0 := Nat.two_pow_pos s.Cards.length
 constructor
 ·intro h j hj
  have := macc_bit (SB s t) j s.Cards.length
  rw [show macc (SB s t) s.Cards.length = 2 ^ s.Cards.length - 1 from h, Nat.testBit_two_pow_sub_one, decide_eq_true hj] at this
  simpa using this.symm
 ·intro h
  refine bits_eq (macc_lt _ _) (by omega) fun j hj => ?_
  unfold allN
  rw [macc_bit, Nat.testBit_two_pow_sub_one, decide_eq_true hj, h j hj]; rfl
theorem rTruths_eq {s : Stm} (h : VS s) : ∃ l, prTruths s = some l ∧ (∀ t, t ∈ l ↔ TS s t) ∧ l.length ≤ 2000 := by
 obtain ⟨_, _, h3⟩ := not_many h.many
 have hfew := h.few
 have hmr := (many_rng h.toVS0 h.many).2.2.2.2.2.2
 have hlen := allL_len (s := s)
 have key : ∀ (d i : Nat) (acc : List Trh), i ≤ (allL' s).length → (allL' s).length - i < d → acc.length ≤ i → (∀ t, t ∈ acc ↔ ∃ j : Nat, j < i ∧ nthT s (j : Int) = t ∧ ∀ c ∈ s.Cards, RT s t c) →
   ∃ l, prTruths_L0 s (allL' s) d acc (i : Int) = some l ∧ (∀ t, t ∈ l ↔ ∃ j : Nat, j < (allL' s).length ∧ nthT s (j : Int) = t ∧ ∀ c ∈ s.Cards, RT s t c) ∧ l.length ≤ (allL' s).length := by
  intro d
  induction d with
  | zero => intro i _ _ h; omega
  | succ d ih =>
   intro i acc hi hd hal hac
   unfold prTruths_L0
   by_cases hin : i = (allL' s).length
   ·rw [if_neg (by omega)]
    exact ⟨acc, rfl, by rw [← hin]; exact hac, by omega⟩
   ·have hg := allL_get (s := s) (n := i) (by omega)
    have hp6 := pow6 h3
    have hp0 := Nat.two_pow_pos s.Cards.length
    rw [if_pos (by omega), idx_at hg, obs, rEvery_eq h3, obs, show (i : Int) + 1 = ((i + 1 : Nat) : Int) by omega]
    by_cases hf : ∀ c ∈ s.Cards, RT s (nthT s (i : Int)) c
    ·rw [if_pos (by rw [allN_full.2 hf]), rNth_eq h.toVS0 h.many (by omega) (by omega), obs, gd_pos (by omega), gd_pos (fI (by omega))]
     refine ih (i + 1) _ (by omega) (by omega) (by rw [List.length_append]; simp only [List.length_cons, List.length_nil]; omega) fun t => ?_
     rw [List.mem_append, List.mem_singleton, hac]
     constructor
     ·rintro (⟨j, q1, q2⟩ | rfl)
      ·exact ⟨j, by omega, q2⟩
      ·exact ⟨i, by omega, rfl, hf⟩
     ·rintro ⟨j, q1, q2, q3⟩
      rcases Nat.lt_or_ge j i with h9 | h9
      ·exact .inl ⟨j, h9, q2, q3⟩
      ·have : j = i := by omega
       subst this; exact .inr q2.symm
    ·rw [if_neg fun q => hf (allN_full.1 (by omega)), gd_pos (fI (by omega))]
     refine ih (i + 1) _ (by omega) (by omega) (by omega) fun t => ?_
     rw [hac]
     constructor
     ·rintro ⟨j, q1, q2⟩; exact ⟨j, by omega, q2⟩
     ·rintro ⟨j, q1, q2, q3⟩
      rcases Nat.lt_or_ge j i with h9 | h9
      ·exact ⟨j, h9, q2, q3⟩
      ·have : j = i := by omega
       subst this; rw [← q2] at q3; exact absurd q3 hf
 obtain ⟨l, q1, q2, q3⟩ := key ((allL' s).length + 1) 0 [] (Nat.zero_le _) (by omega) (Nat.le_refl _) fun t => ⟨fun q => (by cases q), fun ⟨j, q, _⟩ => by omega⟩
 refine ⟨l, ?_, fun t => (q2 t).trans ⟨fun ⟨j, p1, p2, p3⟩ => ⟨by rw [← p2]; exact nth_isT h.toVS0 h.many (by omega) (by omega), p3⟩, fun ⟨p1, p2⟩ => ?_⟩, by omega⟩
 ·unfold prTruths
  rw [rAll_eq h, obs]
  exact q1
 ·obtain ⟨n, n1, n2, n3⟩ := isT_nth h.toVS0 h.many p1
  exact ⟨n.toNat, by omega, by rw [show ((n.toNat : Nat) : Int) = n by omega]; exact n3, p2⟩
open Classical in
theorem lSure_eq {s : Stm} : ∃ l, plSure s = some (l, if faultN s = 0 then (if HT s then 0 else 11) else faultN s) ∧ (faultN s = 0 → HT s → (∀ t, t ∈ l ↔ TS s t) ∧ l.length ≤ 2000) := by
 unfold plSure plFault
 rw [rFault_eq, obs, obs]
 by_cases hf : faultN s = 0
 ·have h := fault_zero.1 hf
  obtain ⟨l, l1, l2, l3⟩ := rTruths_eq h
  rw [if_pos hf, l1, obs, if_pos hf]
  by_cases hT : HT s
  ·obtain ⟨t, ht⟩ := id hT
   have hm := (l2 t).2 ht
   rw [if_neg (by have := List.length_pos_of_mem hm; omega), if_pos hT]
   exact ⟨l, rfl, fun _ _ => ⟨l2, l3⟩⟩
  ·have hl : l = [] := List.eq_nil_iff_forall_not_mem.2 fun t ht => hT ⟨t, (l2 t).1 ht⟩
   rw [if_pos (by rw [hl]; rfl), if_neg hT]
   exact ⟨[], rfl, fun _ q => absurd q hT⟩
 ·rw [if_neg hf, if_neg hf]
  exact ⟨[], rfl, fun q => absurd q hf⟩
end
end Go.Proofs.YtbnfnhfanooplaaGreat

namespace Go.Proofs.YtbnfnhfanooplaaGreat
open _root_.Go.Proofs.Tryz
open Go.Abs Go.Abs.Grow
set_option maxRecDepth 100000
noncomputable section
def rgF (r : Rg) : Prop := fitsP .i64 r.Lo ∧ fitsP .i64 r.Hi
theorem same_self {a : Stm} (h9 : a.Cards.length ≤ 9) (h1 : rgF a.A) (h2 : rgF a.B) (h3 : rgF a.Half) (h4 : rgF a.Peak) (hc : ∀ c ∈ a.Cards, rgF c.X ∧ rgF c.Y ∧ rgF c.Size) : plSame a a = some true := by
 have key : ∀ (d i : Nat), i ≤ a.Cards.length → a.Cards.length - i < d → plSame_L0 a a d (i : Int) = some true := by
  intro d
  induction d with
  | zero => intro i _ h; omega
  | succ d ih =>
   intro i hi hd
   unfold plSame_L0
   by_cases hin : i = a.Cards.length
   ·rw [if_neg (by omega)]
   have hlt : i < a.Cards.length := by omega
   have hg := List.getElem?_eq_getElem hlt
   obtain ⟨q1, q2, q3⟩ := hc _ (List.getElem_mem hlt)
   generalize a.Cards[i] = c at hg q1 q2 q3
   rw [if_pos (by omega), idx_at hg, obs, obs, gd_pos q1.1, gd_pos q1.1, gd_pos q1.2, gd_pos q1.2, gd_pos q2.1, gd_pos q2.1, gd_pos q2.2, gd_pos q2.2, gd_pos q3.1, gd_pos q3.1, gd_pos q3.2, gd_pos q3.2, if_pos (by simp), gd_pos (fI (by omega)), show (i : Int) + 1 = ((i + 1 : Nat) : Int) by omega]
   exact ih (i + 1) (by omega) (by omega)
 unfold plSame
 rw [lStorm_eq h9, obs, if_pos rfl, if_pos rfl, if_pos rfl, gd_pos h1.1, gd_pos h1.1, gd_pos h1.2, gd_pos h1.2, if_pos (by simp), gd_pos h2.1, gd_pos h2.1, gd_pos h2.2, gd_pos h2.2, if_pos (by simp), gd_pos h3.1, gd_pos h3.1, gd_pos h3.2, gd_pos h3.2, if_pos (by simp), gd_pos h4.1, gd_pos h4.1, gd_pos h4.2, gd_pos h4.2, if_pos (by simp), if_pos rfl]
 exact key _ 0 (Nat.zero_le _) (by omega)
theorem rgF0 : rgF ⟨0, 0⟩ := ⟨fI (by dsimp only; omega), fI (by dsimp only; omega)⟩
theorem empty_st0 : plEmpty st0 = some true := by
 unfold plEmpty
 have e : plSame st0 st0 = some true := same_self (by show (0 : Nat) ≤ 9; omega) rgF0 rgF0 rgF0 rgF0 fun c hc => by cases hc
 rw [if_pos (show ((st0.Cards.length : Nat) : Int) = 0 from rfl)]
 show (plSame st0 st0).bind _ = _
 rw [e, obs]
def mnF (a : Int) (f : Trh → Int) (l : List Trh) : Int := (l.map f).foldl min a
def mxF (a : Int) (f : Trh → Int) (l : List Trh) : Int := (l.map f).foldl max a
theorem mnF_eq {f : Trh → Int} {l : List Trh} {lo hi a : Int} (h : Spn (fun v => ∃ t ∈ l, f t = v) lo hi) (ha : lo < a) : mnF a f l = lo := by
 obtain ⟨h1, _, h3⟩ := foldl_min (l.map f) a
 obtain ⟨t, q1, q2⟩ := h.pl
 have := h3 lo (List.mem_map.2 ⟨t, q1, q2⟩)
 unfold mnF
 rcases h1 with h1 | h1
 ·omega
 ·obtain ⟨u, q3, q4⟩ := List.mem_map.1 h1
  have := (h.all _ ⟨u, q3, q4⟩).1
  omega
theorem mxF_eq {f : Trh → Int} {l : List Trh} {lo hi a : Int} (h : Spn (fun v => ∃ t ∈ l, f t = v) lo hi) (ha : a < hi) : mxF a f l = hi := by
 obtain ⟨h1, _, h3⟩ := foldl_max (l.map f) a
 obtain ⟨t, q1, q2⟩ := h.ph
 have := h3 hi (List.mem_map.2 ⟨t, q1, q2⟩)
 unfold mxF
 rcases h1 with h1 | h1
 ·omega
 ·obtain ⟨u, q3, q4⟩ := List.mem_map.1 h1
  have := (h.all _ ⟨u, q3, q4⟩).2
  omega
theorem rBounds_go {l : List Trh} (hl : l.length ≤ 100000) : ∀ (d i : Nat), i ≤ l.length → l.length - i < d → ∀ a1 b1 a2 b2 a3 b3 a4 b4 : Int,
  prBounds_L0 l d a1 b1 a2 b2 a3 b3 a4 b4 (i : Int) = some (⟨mnF a1 (fun t => t.A) (l.drop i), mxF b1 (fun t => t.A) (l.drop i)⟩, ⟨mnF a2 (fun t => t.B) (l.drop i), mxF b2 (fun t => t.B) (l.drop i)⟩, ⟨mnF a3 (fun t => t.Half) (l.drop i), mxF b3 (fun t => t.Half) (l.drop i)⟩, ⟨mnF a4 (fun t => t.Peak) (l.drop i), mxF b4 (fun t => t.Peak) (l.drop i)⟩)
 | 0, i, _, h => by omega
 | d + 1, i, hi, hd => by
  intro a1 b1 a2 b2 a3 b3 a4 b4
  unfold prBounds_L0
  by_cases hin : i = l.length
  ·rw [if_neg (by omega), hin, List.drop_length]; rfl
  ·have hlt : i < l.length := by omega
   have hgi := List.getElem?_eq_getElem hlt
   rw [List.drop_eq_getElem_cons hlt]
   generalize l[i] = t at hgi
   have hx := idx_at hgi
   unfold prWider
   simp only [if_pos (show (i : Int) < (l.length : Int) by omega), hx, obs]
   rw [gd_pos (fI (by omega)), show (i : Int) + 1 = ((i + 1 : Nat) : Int) by omega, rBounds_go hl d (i + 1) (by omega) (by omega)]
   rfl
theorem cv_fit {s : Stm} (hm : ¬ ManyS s) {c : Crd} (hc : CV s c) : rgF c.X ∧ rgF c.Y ∧ rgF c.Size := by
 obtain ⟨m1, m2, _⟩ := not_many hm
 obtain ⟨⟨a, b⟩, d, _⟩ := hc
 unfold Wi at a b d
 dsimp only at a b
 exact ⟨⟨fI (by omega), fI (by omega)⟩, ⟨fI (by omega), fI (by omega)⟩, fI (by omega), fI (by omega)⟩
theorem m_StormBounds {s : Stm} {t : Trh} (_hs : ok_Stm s) (_ht : ok_Trh t) : pStormBounds s t = some true := by
 unfold pStormBounds
 refine thin_ev.pick (fun ht => ?_) fun _ => by rw [if_neg (by simp), aw]
 obtain ⟨l, l1, l2⟩ := lSure_eq (s := s)
 have hf : plFault s = some (faultN s) := by unfold plFault; rw [rFault_eq]; rfl
 have hpt : plTruth t = some t := rfl
 obtain ⟨b1, p1, p2⟩ := ProveTruth_ev (s := s) (t := t)
 rw [if_pos rfl, lStorm_eq ht.1]
 simp only [obs, hpt, p1, check_eq, hf, rFault_eq]
 by_cases h0 : faultN s = 0
 ·have h := fault_zero.1 h0
  obtain ⟨m1, m2, m3⟩ := not_many h.many
  obtain ⟨b2, p3, p4⟩ := rIsTruth_ev h (t := t)
  have hb : b1 = b2 := by rw [Bool.eq_iff_iff, p2, p4]; exact ⟨fun q => q.2, fun q => ⟨h, q⟩⟩
  subst hb
  by_cases hT : HT s
  ·obtain ⟨l3, l4⟩ := l2 h0 hT
   obtain ⟨b, e1, e2⟩ := Bounds_ok h hT
   rw [if_pos h0, if_pos hT] at l1
   have sp : ∀ {f : Trh → Int} {lo hi : Int}, Spn (Of s f) lo hi → Spn (fun v => ∃ t ∈ l, f t = v) lo hi := fun q => q.congr fun v => exists_congr fun t => and_congr (l3 t).symm Iff.rfl
   have rg : ∀ {f : Trh → Int} {r : Rg}, Spn (Of s f) r.Lo r.Hi → (∀ t, isT s t → -1000 ≤ f t ∧ f t ≤ 1000) → (-1000 ≤ r.Lo ∧ r.Lo ≤ 1000) ∧ (-1000 ≤ r.Hi ∧ r.Hi ≤ 1000) := fun {f r} q k => by
    obtain ⟨t1, u1, u2⟩ := q.pl
    obtain ⟨t2, u3, u4⟩ := q.ph
    have := k t1 u1.1; have := k t2 u3.1
    omega
   have ra := rg e2.a fun t q => by have := q.rng h.toVS0; omega
   have rb := rg e2.b fun t q => by have := q.rng h.toVS0; omega
   have rc := rg e2.half fun t q => by have := q.rng h.toVS0; omega
   have rd := rg e2.peak fun t q => by have := q.rng h.toVS0; omega
   have hbs : prBounds l = some (b.A, b.B, b.Half, b.Peak) := by
    unfold prBounds prEmpty
    simp only [obs]
    have := rBounds_go (l := l) (by omega) (l.length + 1) 0 (Nat.zero_le _) (by omega) 1099511627776 (-1099511627776) 1099511627776 (-1099511627776) 1099511627776 (-1099511627776) 1099511627776 (-1099511627776)
    rw [List.drop_zero] at this
    refine this.trans ?_
    rw [mnF_eq (sp e2.a) (by omega), mxF_eq (sp e2.a) (by omega), mnF_eq (sp e2.b) (by omega), mxF_eq (sp e2.b) (by omega), mnF_eq (sp e2.half) (by omega), mxF_eq (sp e2.half) (by omega), mnF_eq (sp e2.peak) (by omega), mxF_eq (sp e2.peak) (by omega)]
   obtain ⟨w1, w2, w3, w4⟩ := e2.rest
   have hsame : plSame b { Wide := s.Wide, High := s.High, Fall := s.Fall, A := b.A, B := b.B, Half := b.Half, Peak := b.Peak, Cards := s.Cards } = some true := by
    rw [← w1, ← w2, ← w3, ← w4]
    refine same_self (by rw [w4]; omega) ⟨fI (by omega), fI (by omega)⟩ ⟨fI (by omega), fI (by omega)⟩ ⟨fI (by omega), fI (by omega)⟩ ⟨fI (by omega), fI (by omega)⟩ fun c hc => ?_
    rw [w4] at hc
    exact cv_fit h.many (h.cards c hc)
   rw [e1, obs, if_pos trivial, if_pos h0, p3, obs, if_pos (by simp), l1, obs]
   dsimp only
   rw [if_pos rfl, hbs, obs, if_pos rfl]
   dsimp only
   rw [hsame, obs, if_pos rfl, aw]
  ·rw [if_pos h0, if_neg hT] at l1
   rw [Bounds_no h hT, obs, if_pos trivial, if_pos h0, p3, obs, if_pos (by simp), l1, obs]
   dsimp only
   rw [if_neg (by decide), if_pos rfl, empty_st0, obs, if_pos rfl, aw]
 ·have hb : b1 = false := by
   cases b1 with
   | false => rfl
   | true => exact absurd (fault_zero.2 (p2.1 rfl).1) h0
  subst hb
  rw [if_neg h0] at l1
  rw [Bounds_bad h0, obs, if_pos trivial, if_neg h0, if_pos (by simp), l1, obs]
  dsimp only
  rw [if_neg h0, if_pos rfl, empty_st0, obs, if_pos rfl, aw]
end
end Go.Proofs.YtbnfnhfanooplaaGreat

namespace Go.Proofs.YtbnfnhfanooplaaGreat
open _root_.Go.Proofs.Tryz
open Go.ChangeShapes Go.WideShapes Go.ChangeAt Go.RowKit Go.Abs
set_option maxRecDepth 100000
theorem op3 : Opens prog 3 Int (fitsP .i64) := opens_int (by kernel_rfl)
theorem op23 : Opens prog 23 Rg ok_Rg := opens_struct (fs := [(3, 0), (3, 1)]) (by kernel_rfl) (by kernel_rfl) (opensFs_cons (α := Int) (ok := fitsP .i64) (k := 1) op3 (by kernel_rfl) rfl (opensFs_cons (α := Int) (ok := fitsP .i64) (k := 1) op3 (by kernel_rfl) rfl opensFs_nil)) (by kernel_rfl) fun m vs h => by
 obtain ⟨a0, c0, r0, m0, h0, p0, k0, s0, ⟨a1, c1, r1, m1, h1, p1, k1, s1, rfl⟩⟩ := h
 have p0 : c0 = [.int .i64 a0] := p0; subst p0
 have p1 : c1 = [.int .i64 a1] := p1; subst p1
 subst h1 h0
 exact ⟨⟨a0, a1⟩, rfl, ⟨k0, k1⟩⟩
theorem op4 : Opens prog 4 Bool (fun _ => True) := opens_bool (by kernel_rfl)
theorem op81 : Opens prog 81 Crd ok_Crd := opens_struct (fs := [(23, 0), (23, 2), (4, 4), (23, 5)]) (by kernel_rfl) (by kernel_rfl) (opensFs_cons (α := Rg) (ok := ok_Rg) (k := 2) op23 (by kernel_rfl) rfl (opensFs_cons (α := Rg) (ok := ok_Rg) (k := 2) op23 (by kernel_rfl) rfl (opensFs_cons (α := Bool) (ok := (fun _ => True)) (k := 1) op4 (by kernel_rfl) rfl (opensFs_cons (α := Rg) (ok := ok_Rg) (k := 2) op23 (by kernel_rfl) rfl opensFs_nil)))) (by kernel_rfl) fun m vs h => by
 obtain ⟨a0, c0, r0, m0, h0, p0, k0, s0, ⟨a1, c1, r1, m1, h1, p1, k1, s1, ⟨a2, c2, r2, m2, h2, p2, k2, s2, ⟨a3, c3, r3, m3, h3, p3, k3, s3, rfl⟩⟩⟩⟩ := h
 have p0 : c0 = [.int .i64 a0.Lo, .int .i64 a0.Hi] := p0; subst p0
 have p1 : c1 = [.int .i64 a1.Lo, .int .i64 a1.Hi] := p1; subst p1
 have p2 : c2 = [.bool a2] := p2; subst p2
 have p3 : c3 = [.int .i64 a3.Lo, .int .i64 a3.Hi] := p3; subst p3
 subst h3 h2 h1 h0
 exact ⟨⟨a0, a1, a2, a3⟩, rfl, ⟨k0, k1, k2, k3⟩⟩
theorem op24 : Opens prog 24 (List Crd) (fun l => l.length ≤ maxLen ∧ ∀ a0 ∈ l, ok_Crd a0) := opens_slice (by kernel_rfl) (by kernel_rfl) op81
theorem op26 : Opens prog 26 Stm ok_Stm := opens_struct (fs := [(3, 0), (3, 1), (3, 2), (23, 3), (23, 5), (23, 7), (23, 9), (24, 11)]) (by kernel_rfl) (by kernel_rfl) (opensFs_cons (α := Int) (ok := fitsP .i64) (k := 1) op3 (by kernel_rfl) rfl (opensFs_cons (α := Int) (ok := fitsP .i64) (k := 1) op3 (by kernel_rfl) rfl (opensFs_cons (α := Int) (ok := fitsP .i64) (k := 1) op3 (by kernel_rfl) rfl (opensFs_cons (α := Rg) (ok := ok_Rg) (k := 2) op23 (by kernel_rfl) rfl (opensFs_cons (α := Rg) (ok := ok_Rg) (k := 2) op23 (by kernel_rfl) rfl (opensFs_cons (α := Rg) (ok := ok_Rg) (k := 2) op23 (by kernel_rfl) rfl (opensFs_cons (α := Rg) (ok := ok_Rg) (k := 2) op23 (by kernel_rfl) rfl (opensFs_cons (α := List Crd) (ok := (fun l => l.length ≤ maxLen ∧ ∀ a0 ∈ l, ok_Crd a0)) (k := 1) op24 (by kernel_rfl) rfl opensFs_nil)))))))) (by kernel_rfl) fun m vs h => by
 obtain ⟨a0, c0, r0, m0, h0, p0, k0, s0, ⟨a1, c1, r1, m1, h1, p1, k1, s1, ⟨a2, c2, r2, m2, h2, p2, k2, s2, ⟨a3, c3, r3, m3, h3, p3, k3, s3, ⟨a4, c4, r4, m4, h4, p4, k4, s4, ⟨a5, c5, r5, m5, h5, p5, k5, s5, ⟨a6, c6, r6, m6, h6, p6, k6, s6, ⟨a7, c7, r7, m7, h7, p7, k7, s7, rfl⟩⟩⟩⟩⟩⟩⟩⟩ := h
 have p0 : c0 = [.int .i64 a0] := p0; subst p0
 have p1 : c1 = [.int .i64 a1] := p1; subst p1
 have p2 : c2 = [.int .i64 a2] := p2; subst p2
 have p3 : c3 = [.int .i64 a3.Lo, .int .i64 a3.Hi] := p3; subst p3
 have p4 : c4 = [.int .i64 a4.Lo, .int .i64 a4.Hi] := p4; subst p4
 have p5 : c5 = [.int .i64 a5.Lo, .int .i64 a5.Hi] := p5; subst p5
 have p6 : c6 = [.int .i64 a6.Lo, .int .i64 a6.Hi] := p6; subst p6
 obtain ⟨d7, rfl, p7⟩ := p7
 subst h7 h6 h5 h4 h3 h2 h1 h0
 exact ⟨⟨a0, a1, a2, a3, a4, a5, a6, a7⟩, ⟨_, rfl, p7⟩, ⟨k0, k1, k2, k3, k4, k5, k6, k7⟩⟩
theorem op28 : Opens prog 28 Trh ok_Trh := opens_struct (fs := [(3, 0), (3, 1), (3, 2), (3, 3)]) (by kernel_rfl) (by kernel_rfl) (opensFs_cons (α := Int) (ok := fitsP .i64) (k := 1) op3 (by kernel_rfl) rfl (opensFs_cons (α := Int) (ok := fitsP .i64) (k := 1) op3 (by kernel_rfl) rfl (opensFs_cons (α := Int) (ok := fitsP .i64) (k := 1) op3 (by kernel_rfl) rfl (opensFs_cons (α := Int) (ok := fitsP .i64) (k := 1) op3 (by kernel_rfl) rfl opensFs_nil)))) (by kernel_rfl) fun m vs h => by
 obtain ⟨a0, c0, r0, m0, h0, p0, k0, s0, ⟨a1, c1, r1, m1, h1, p1, k1, s1, ⟨a2, c2, r2, m2, h2, p2, k2, s2, ⟨a3, c3, r3, m3, h3, p3, k3, s3, rfl⟩⟩⟩⟩ := h
 have p0 : c0 = [.int .i64 a0] := p0; subst p0
 have p1 : c1 = [.int .i64 a1] := p1; subst p1
 have p2 : c2 = [.int .i64 a2] := p2; subst p2
 have p3 : c3 = [.int .i64 a3] := p3; subst p3
 subst h3 h2 h1 h0
 exact ⟨⟨a0, a1, a2, a3⟩, rfl, ⟨k0, k1, k2, k3⟩⟩
theorem laid : laidOutB prog = true := by kernel_rfl
theorem ownNone : ownKnob prog.godebug = none := by kernel_rfl
theorem StormBounds_lifted (os : Os) (started : os.Started) (H : Type) (enc : TypeId × Value → H) :
    ReturnsInHanded {} Tryz.checked os 3 .any (Rows.stormBoundsSpec.pre6 enc Tryz.prog Tryz.f3 Rows.stormBoundsRow.domain false) (Rows.stormBoundsSpec.post enc Tryz.prog Tryz.f3 false true false false) := by
  refine returnsInHanded_of_change (C := Tryz.checked) ownNone started (by kernel_rfl) Tryz.func3
    (ChangeSpec.witness6 (enc := enc) (C := Tryz.checked) false ⟨#[], #[.agg #[.int .i64 0, .int .i64 0, .int .i64 0, .int .i64 0, .int .i64 0, .int .i64 0, .int .i64 0, .int .i64 0, .int .i64 0, .int .i64 0, .int .i64 0, .slice none 0 0], .agg #[.int .i64 0, .int .i64 0, .int .i64 0, .int .i64 0]], []⟩ 8 (by kernel_rfl) (by kernel_rfl) (by kernel_rfl) (by kernel_rfl)) ?_
  intro W base args ds gs before hval0 hW hcnd _
  have hval : ∀ (j : Nat) t v, Tryz.f3.params[j]? = some t → args[j]? = some v → Value.okWide Tryz.prog W .any base t v := hval0
  have hW' := hW
  obtain ⟨p, q, hA0, hV, rfl, hfz, hnd⟩ := hW
  have hA : DataW.TrodAll enc Tryz.prog W 0 (fun _ => true) true Tryz.f3.params.toList args.toList ds p := hA0
  rw [Tryz.params3] at hA hval
  obtain ⟨v0, v1, d0, d1, p0, p1, rfl, rfl, rfl, h0, h1⟩ := trodAll_two hA
  obtain ⟨rfl, rfl⟩ := trodVars_none hV
  have hlt : ∀ x ∈ p0 ++ p1, x.block < W.heap.size := fun x hx => by simpa using hW'.lt x (by simpa using hx)
  obtain ⟨fu0, hf0⟩ := id h0
  obtain ⟨fu1, hf1⟩ := id h1
  clear hA0 hval0
  obtain ⟨e0, m0, w0, a_0, le0, sv0, lay0, cr0, rep0, ok0⟩ := op26 H enc W true _ _ _ hf0 _ _ (Lay.nil W)
  obtain ⟨e1, m1, w1, a_1, le1, sv1, lay1, cr1, rep1, ok1⟩ := op28 H enc W true _ _ _ hf1 e0 m0 lay0
  obtain ⟨c0_11, rfl, g0_11⟩ := rep0
  obtain ⟨cs0, hv0, cl0⟩ : ∃ cs, v0 = .agg cs ∧ v0.cells.toList = cs.toList := by
    have hl := cr0.length
    cases v0 with
    | agg cs => exact ⟨cs, rfl, rfl⟩
    | _ => exact absurd hl (by simp [Value.cells])
  subst hv0
  have rep1 : w1 = [.int .i64 a_1.A, .int .i64 a_1.B, .int .i64 a_1.Half, .int .i64 a_1.Peak] := rep1
  subst rep1
  obtain ⟨cs1, hv1, cl1⟩ : ∃ cs, v1 = .agg cs ∧ v1.cells.toList = cs.toList := by
    have hl := cr1.length
    cases v1 with
    | agg cs => exact ⟨cs, rfl, rfl⟩
    | _ => exact absurd hl (by simp [Value.cells])
  subst hv1
  have hargs : All2 (VR e1) [.agg 12 [.int .i64 a_0.Wide, .int .i64 a_0.High, .int .i64 a_0.Fall, .int .i64 a_0.A.Lo, .int .i64 a_0.A.Hi, .int .i64 a_0.B.Lo, .int .i64 a_0.B.Hi, .int .i64 a_0.Half.Lo, .int .i64 a_0.Half.Hi, .int .i64 a_0.Peak.Lo, .int .i64 a_0.Peak.Hi, c0_11], .agg 4 [.int .i64 a_1.A, .int .i64 a_1.B, .int .i64 a_1.Half, .int .i64 a_1.Peak]] [.agg cs0, .agg cs1] := .cons ⟨cs0, rfl, (cr0.mono fun _ _ => CR.mono le1), rfl⟩ (.cons ⟨cs1, rfl, cr1, rfl⟩ .nil)
  refine (callsIn_wide.1 (call_of fits htab (s_StormBounds (s := a_0) (t := a_1) lay1.pre (g0_11.subv sv1) (m_StormBounds ok0 ok1) (Q := fun v _ => v = .c (.bool true)) fun _ _ => rfl) lay1.hr (args' := #[.agg cs0, .agg cs1]) hargs 0)).mono fun en W' hp => ?_
  obtain ⟨v, v', e', m', rfl, hst, hvr, rfl⟩ := hp
  have hv' : v' = .bool true := hvr
  subst hv'
  have hbelow := lay1.below hst
  refine ⟨_, rfl, [d0, d1], [], p0 ++ p1, [], p0 ++ p1, [], by simpa using hW', trodAll_mk1 (shut_bool Tryz.underlying4 _),
    trodAll_mk2 (Below.trod laid (by kernel_rfl) (of_decide_eq_true (by kernel_rfl)) h0 hbelow fun x hx => hlt x (by simp [hx])) (Below.trod laid (by kernel_rfl) (of_decide_eq_true (by kernel_rfl)) h1 hbelow fun x hx => hlt x (by simp [hx])), rfl, lay1.kept hst _, fun hc => by cases hc⟩
theorem StormBounds_holds : Rows.StormBoundsSaid :=
 OpenClaim.holds_of_wide 3 Tryz.f3 rfl rfl rfl rfl rfl rfl rfl ⟨rfl, rfl, rfl, rfl, rfl⟩ rfl rfl rfl rfl rfl (by kernel_rfl) Tryz.func3 (by kernel_rfl)
  (of_decide_eq_true (by kernel_rfl)) (by unfold Func.isWrapper; first | (rw [if_pos (by decide +kernel)]; kernel_rfl) | (rw [if_neg (by decide +kernel)]; exact ⟨rfl, rfl⟩))
  (fun os started H enc _ => StormBounds_lifted os started H enc)
end Go.Proofs.YtbnfnhfanooplaaGreat

