/- StormWider, for all that it can be called with, returns true. Condition: none. -/
import Derived.Test.YtbnfnhfanooplaaSuI
import GoSem.Step
import GoSem.ClaimKeys
import Derived.DeepKeys2
import Derived.RangeFuncLeaves
import Derived.OrdersIn
import Derived.Laws.World
import Derived.Laws.Sem
import Derived.RangeFuncRecord
import Derived.Laws.CopyRow
import Derived.Laws.Append
import Derived.Laws.Rows
import Derived.Laws.Slices
import Derived.Laws.Entries
import Derived.ChangeKeysEq
import Derived.IntWalk
import Derived.DeepKeys
import Derived.DeepKeys3
import Derived.Laws.StructEq
import Derived.MapKept
import Derived.Laws.AppendOwn
import Derived.ChangeArms
import Derived.ChangeOld
import Derived.Carry
import Derived.ChangeShapes
import Derived.KernelRfl
import Derived.ProofKit
import Derived.Test.YtbnfnhfanooplaaRows

namespace Go.Proofs.Ytbnfnhfanooplaa
open _root_.Go.Proofs.Try
open Go.Abs Go.Abs.Grow
set_option maxRecDepth 100000
noncomputable section
def Wi (r : Rg) (lo hi : Int) : Prop := lo ≤ r.Lo ∧ r.Lo ≤ r.Hi ∧ r.Hi ≤ hi
def inR (r : Rg) (n : Int) : Prop := r.Lo ≤ n ∧ n ≤ r.Hi
def cnt (r : Rg) : Int := r.Hi - r.Lo + 1
def rcOk (s : Stm) (r : Rct) : Prop := Wi r.X 0 (s.Wide - 1) ∧ Wi r.Y 0 (s.High - 1)
def CV (s : Stm) (c : Crd) : Prop := rcOk s ⟨c.X, c.Y⟩ ∧ Wi c.Size 0 9 ∧ (c.Hail = true ∨ c.Size = ⟨0, 0⟩)
def manyN (s : Stm) : Int := cnt s.A * cnt s.B * cnt s.Half * cnt s.Peak
def ManyS (s : Stm) : Prop := 12 < s.Wide ∨ 12 < s.High ∨ 6 < s.Cards.length
structure VS0 (s : Stm) : Prop where
 wide : 2 ≤ s.Wide
 high : 1 ≤ s.High
 fall : 0 ≤ s.Fall ∧ s.Fall ≤ 4
 a : Wi s.A 0 (s.High - 1)
 b : Wi s.B 0 (s.High - 1)
 half : Wi s.Half 0 3
 peak : Wi s.Peak 1 9
 cards : ∀ c ∈ s.Cards, CV s c
open Classical in
def faultN (s : Stm) : Int := if ManyS s then 3 else if VS0 s then (if manyN s ≤ 2000 then 0 else 3) else 1
structure VS (s : Stm) : Prop extends VS0 s where
 many : ¬ ManyS s
 few : manyN s ≤ 2000
theorem fault_zero {s : Stm} : faultN s = 0 ↔ VS s := by
 unfold faultN
 split
 ·rename_i h; exact ⟨fun h => by omega, fun h' => absurd h h'.many⟩
 ·rename_i h
  split
  ·rename_i h2
   split
   ·rename_i h3; exact ⟨fun _ => ⟨h2, h, h3⟩, fun _ => rfl⟩
   ·rename_i h3; exact ⟨fun h => by omega, fun h' => absurd h'.few h3⟩
  ·rename_i h2; exact ⟨fun h => by omega, fun h' => absurd h'.toVS0 h2⟩
theorem not_many {s : Stm} (h : ¬ ManyS s) : s.Wide ≤ 12 ∧ s.High ≤ 12 ∧ s.Cards.length ≤ 6 := by
 unfold ManyS at h; omega
theorem cnt_rng {r : Rg} {lo hi : Int} (h : Wi r lo hi) : 1 ≤ cnt r ∧ cnt r ≤ hi - lo + 1 := by unfold Wi at h; unfold cnt; omega
theorem Wi.w {r : Rg} {lo hi : Int} (h : Wi r lo hi) (h1 : -1000 ≤ lo) (h2 : hi ≤ 1000) : Wi r (-1000) 1000 := by unfold Wi at h ⊢; omega
theorem mul_rng {a b A B : Int} (ha : 1 ≤ a ∧ a ≤ A) (hb : 1 ≤ b ∧ b ≤ B) : 1 ≤ a * b ∧ a * b ≤ A * B := by
 have h1 : 1 * 1 ≤ a * b := Int.mul_le_mul ha.1 hb.1 (by omega) (by omega)
 have h2 : a * b ≤ A * B := Int.mul_le_mul ha.2 hb.2 (by omega) (by omega)
 omega
theorem mul_rng0 {a b A B : Int} (ha : 0 ≤ a ∧ a ≤ A) (hb : 0 ≤ b ∧ b ≤ B) : 0 ≤ a * b ∧ a * b ≤ A * B :=
 ⟨Int.mul_nonneg ha.1 hb.1, Int.mul_le_mul ha.2 hb.2 hb.1 (by omega)⟩
theorem many_rng {s : Stm} (h : VS0 s) (hm : ¬ ManyS s) : (1 ≤ cnt s.A ∧ cnt s.A ≤ 12) ∧ (1 ≤ cnt s.B ∧ cnt s.B ≤ 12) ∧ (1 ≤ cnt s.Half ∧ cnt s.Half ≤ 4) ∧ (1 ≤ cnt s.Peak ∧ cnt s.Peak ≤ 9) ∧ (1 ≤ cnt s.A * cnt s.B ∧ cnt s.A * cnt s.B ≤ 144) ∧ (1 ≤ cnt s.A * cnt s.B * cnt s.Half ∧ cnt s.A * cnt s.B * cnt s.Half ≤ 576) ∧ 1 ≤ manyN s ∧ manyN s ≤ 5184 := by
 obtain ⟨_, hh, _⟩ := not_many hm
 have h1 := cnt_rng h.a
 have h2 := cnt_rng h.b
 have h3 := cnt_rng h.half
 have h4 := cnt_rng h.peak
 have h5 := mul_rng (A := 12) (B := 12) (a := cnt s.A) (b := cnt s.B) (by omega) (by omega)
 have h6 := mul_rng (A := 144) (B := 4) (a := cnt s.A * cnt s.B) (b := cnt s.Half) (by omega) (by omega)
 have h7 := mul_rng (A := 576) (B := 9) (a := cnt s.A * cnt s.B * cnt s.Half) (b := cnt s.Peak) (by omega) (by omega)
 exact ⟨by omega, by omega, by omega, by omega, by omega, by omega, by unfold manyN; omega⟩
def dN (s : Stm) (t : Trh) (x y : Int) : Int := max ((s.Wide - 1) * y - (t.A * (s.Wide - 1 - x) + t.B * x)) (-((s.Wide - 1) * y - (t.A * (s.Wide - 1 - x) + t.B * x)))
def hitP (s : Stm) (t : Trh) (x y : Int) : Prop := dN s t x y ≤ (s.Wide - 1) * t.Half
instance {s : Stm} {t : Trh} {x y : Int} : Decidable (hitP s t x y) := inferInstanceAs (Decidable (_ ≤ _))
def szN (s : Stm) (t : Trh) (x y : Int) : Int := if hitP s t x y then max 1 (t.Peak - s.Fall * (dN s t x y / (s.Wide - 1))) else 0
def inP (r : Rct) (x y : Int) : Prop := inR r.X x ∧ inR r.Y y
def RT (s : Stm) (t : Trh) (c : Crd) : Prop := ∃ x y, inP ⟨c.X, c.Y⟩ x y ∧ (hitP s t x y ↔ c.Hail = true) ∧ inR c.Size (szN s t x y)
def isT (s : Stm) (t : Trh) : Prop := inR s.A t.A ∧ inR s.B t.B ∧ inR s.Half t.Half ∧ inR s.Peak t.Peak
def gr (s : Stm) (x y : Int) : Prop := (0 ≤ x ∧ x ≤ s.Wide - 1) ∧ (0 ≤ y ∧ y ≤ s.High - 1)
theorem gr_of {s : Stm} {r : Rct} (h : rcOk s r) {x y : Int} (hp : inP r x y) : gr s x y := by
 obtain ⟨h1, h2⟩ := h
 obtain ⟨p1, p2⟩ := hp
 unfold Wi at h1 h2
 unfold inR at p1 p2
 unfold gr; omega
theorem isT.rng {s : Stm} {t : Trh} (ht : isT s t) (h : VS0 s) : (0 ≤ t.A ∧ t.A ≤ s.High - 1) ∧ (0 ≤ t.B ∧ t.B ≤ s.High - 1) ∧ (0 ≤ t.Half ∧ t.Half ≤ 3) ∧ (1 ≤ t.Peak ∧ t.Peak ≤ 9) := by
 have a := h.a; have b := h.b; have c := h.half; have d := h.peak
 obtain ⟨q1, q2, q3, q4⟩ := ht
 unfold Wi at a b c d
 unfold inR at q1 q2 q3 q4
 omega
theorem sml {s : Stm} {t : Trh} (h : VS0 s) (hm : ¬ ManyS s) (ht : isT s t) {x y : Int} (hg : gr s x y) : (0 ≤ (s.Wide - 1) * y ∧ (s.Wide - 1) * y ≤ 121) ∧ (0 ≤ t.A * (s.Wide - 1 - x) ∧ t.A * (s.Wide - 1 - x) ≤ 121) ∧ (0 ≤ t.B * x ∧ t.B * x ≤ 121) ∧ (0 ≤ (s.Wide - 1) * t.Half ∧ (s.Wide - 1) * t.Half ≤ 33) := by
 obtain ⟨h1, h2, _⟩ := not_many hm
 obtain ⟨q1, q2, q3, _⟩ := ht.rng h
 have hw := h.wide
 unfold gr at hg
 exact ⟨mul_rng0 (A := 11) (B := 11) (by omega) (by omega), mul_rng0 (A := 11) (B := 11) (by omega) (by omega), mul_rng0 (A := 11) (B := 11) (by omega) (by omega), mul_rng0 (A := 11) (B := 3) (by omega) (by omega)⟩
theorem dN_rng {s : Stm} {t : Trh} (h : VS0 s) (hm : ¬ ManyS s) (ht : isT s t) {x y : Int} (hg : gr s x y) : 0 ≤ dN s t x y ∧ dN s t x y ≤ 242 := by
 obtain ⟨a, b, c, _⟩ := sml h hm ht hg
 unfold dN; omega
theorem fall_rng {s : Stm} {t : Trh} (h : VS0 s) (hm : ¬ ManyS s) (ht : isT s t) {x y : Int} (hg : gr s x y) : (0 ≤ dN s t x y / (s.Wide - 1) ∧ dN s t x y / (s.Wide - 1) ≤ 242) ∧ (0 ≤ s.Fall * (dN s t x y / (s.Wide - 1)) ∧ s.Fall * (dN s t x y / (s.Wide - 1)) ≤ 968) := by
 obtain ⟨a, b⟩ := dN_rng h hm ht hg
 have hw := h.wide
 have c := Int.ediv_nonneg a (show 0 ≤ s.Wide - 1 by omega)
 have d := Int.ediv_le_self (s.Wide - 1) a
 exact ⟨by omega, mul_rng0 (A := 4) (B := 242) h.fall (by omega)⟩
def CanS (s : Stm) (S : Nat → Bool) : Prop := ∃ t, isT s t ∧ ∀ j, S j = true → ∀ c, s.Cards[j]? = some c → RT s t c
def TS (s : Stm) (t : Trh) : Prop := isT s t ∧ ∀ c ∈ s.Cards, RT s t c
def HT (s : Stm) : Prop := ∃ t, TS s t
theorem HT_can {s : Stm} : HT s ↔ CanS s fun _ => true := by
 refine exists_congr fun t => and_congr Iff.rfl ⟨fun h j _ c hc => h c (List.mem_of_getElem? hc), fun h c hc => ?_⟩
 obtain ⟨j, hj⟩ := List.mem_iff_getElem?.1 hc
 exact h j rfl c hj
theorem CanS.congr {s : Stm} {S S' : Nat → Bool} (h : ∀ j, j < s.Cards.length → S j = S' j) : CanS s S ↔ CanS s S' := by
 refine exists_congr fun t => and_congr Iff.rfl ⟨fun f j hj c hc => f j ?_ c hc, fun f j hj c hc => f j ?_ c hc⟩
 ·rw [h j (List.getElem?_eq_some_iff.1 hc).1]; exact hj
 ·rw [← h j (List.getElem?_eq_some_iff.1 hc).1]; exact hj
theorem isT_ex {s : Stm} (h : VS0 s) : ∃ t, isT s t := by
 have a := h.a; have b := h.b; have c := h.half; have d := h.peak
 unfold Wi at a b c d
 exact ⟨⟨s.A.Lo, s.B.Lo, s.Half.Lo, s.Peak.Lo⟩, ⟨Int.le_refl _, a.2.1⟩, ⟨Int.le_refl _, b.2.1⟩, ⟨Int.le_refl _, c.2.1⟩, ⟨Int.le_refl _, d.2.1⟩⟩
def nums (r : Rg) : List Int := segI r.Lo (cnt r).toNat
theorem mem_nums {r : Rg} (h : r.Lo ≤ r.Hi) {x : Int} : x ∈ nums r ↔ inR r x := by
 unfold nums inR cnt
 rw [mem_segI]; omega
theorem nums_len {r : Rg} {lo hi : Int} (h : Wi r lo hi) {n : Nat} (hn : hi - lo + 1 ≤ n) : (nums r).length ≤ n := by
 have := cnt_rng h
 unfold nums; rw [segI_len]; omega
def chL (s : Stm) : List Trh := (nums s.A).flatMap fun a => (nums s.B).flatMap fun b => (nums s.Half).flatMap fun c => (nums s.Peak).map fun d => ⟨a, b, c, d⟩
theorem mem_chL {s : Stm} (h : VS0 s) {t : Trh} : t ∈ chL s ↔ isT s t := by
 have h1 := h.a; have h2 := h.b; have h3 := h.half; have h4 := h.peak
 unfold Wi at h1 h2 h3 h4
 unfold chL isT
 rw [List.mem_flatMap]
 constructor
 ·rintro ⟨a, ha, ht⟩
  obtain ⟨b, hb, ht⟩ := List.mem_flatMap.1 ht
  obtain ⟨c, hc, ht⟩ := List.mem_flatMap.1 ht
  obtain ⟨d, hd, rfl⟩ := List.mem_map.1 ht
  exact ⟨(mem_nums (by omega)).1 ha, (mem_nums (by omega)).1 hb, (mem_nums (by omega)).1 hc, (mem_nums (by omega)).1 hd⟩
 ·rintro ⟨a, b, c, d⟩
  exact ⟨t.A, (mem_nums (by omega)).2 a, List.mem_flatMap.2 ⟨t.B, (mem_nums (by omega)).2 b, List.mem_flatMap.2 ⟨t.Half, (mem_nums (by omega)).2 c, List.mem_map.2 ⟨t.Peak, (mem_nums (by omega)).2 d, rfl⟩⟩⟩⟩
theorem flatMap_len {α β : Type} {f : α → List β} {B : Nat} : ∀ {l : List α}, (∀ x ∈ l, (f x).length ≤ B) → (l.flatMap f).length ≤ l.length * B
 | [], _ => by simp
 | a :: l, h => by
  rw [List.flatMap_cons, List.length_append, List.length_cons, Nat.add_mul, Nat.one_mul, Nat.add_comm]
  exact Nat.add_le_add (flatMap_len fun x hx => h x (List.mem_cons_of_mem _ hx)) (h a (List.mem_cons_self ..))
theorem chL_len {s : Stm} (h : VS0 s) (hm : ¬ ManyS s) : (chL s).length ≤ 5184 := by
 obtain ⟨_, hh, _⟩ := not_many hm
 have h1 := nums_len h.a (n := 12) (by omega)
 have h2 := nums_len h.b (n := 12) (by omega)
 have h3 := nums_len h.half (n := 4) (by omega)
 have h4 := nums_len h.peak (n := 9) (by omega)
 have q1 : ∀ a b : Int, ((nums s.Half).flatMap fun c => (nums s.Peak).map fun d => (⟨a, b, c, d⟩ : Trh)).length ≤ 36 := fun a b => by
  have := flatMap_len (l := nums s.Half) (f := fun c => (nums s.Peak).map fun d => (⟨a, b, c, d⟩ : Trh)) (B := 9) fun d _ => by rw [List.length_map]; exact h4
  omega
 have q2 : ∀ a : Int, ((nums s.B).flatMap fun b => (nums s.Half).flatMap fun c => (nums s.Peak).map fun d => (⟨a, b, c, d⟩ : Trh)).length ≤ 432 := fun a => by
  have := flatMap_len (l := nums s.B) (f := fun b => (nums s.Half).flatMap fun c => (nums s.Peak).map fun d => (⟨a, b, c, d⟩ : Trh)) (B := 36) fun b _ => q1 a b
  omega
 have q3 := flatMap_len (l := nums s.A) (f := fun a => (nums s.B).flatMap fun b => (nums s.Half).flatMap fun c => (nums s.Peak).map fun d => (⟨a, b, c, d⟩ : Trh)) (B := 432) fun a _ => q2 a
 unfold chL; omega
open Classical in
def TL (s : Stm) : List Trh := (chL s).filter fun t => decide (∀ c ∈ s.Cards, RT s t c)
open Classical in
theorem mem_TL {s : Stm} (h : VS0 s) {t : Trh} : t ∈ TL s ↔ TS s t := by
 unfold TL TS
 rw [List.mem_filter, mem_chL h, decide_eq_true_eq]
theorem TL_len {s : Stm} (h : VS0 s) (hm : ¬ ManyS s) : (TL s).length ≤ 5184 := Nat.le_trans (List.length_filter_le _ _) (chL_len h hm)
end
end Go.Proofs.Ytbnfnhfanooplaa

namespace Go.Proofs.Ytbnfnhfanooplaa
open _root_.Go.Proofs.Try
open Go.Abs Go.Abs.Grow
set_option maxRecDepth 100000
noncomputable section
theorem In_ev {n lo hi : Int} : Ev (prIn n lo hi) (lo ≤ n ∧ n ≤ hi) := Ev.ite fun _ => Ev.dec Iff.rfl
theorem has_ev {r : Rg} {n : Int} : Ev (phas r n) (inR r n) := Ev.ite fun _ => Ev.dec Iff.rfl
theorem rWithin_ev {r : Rg} {lo hi : Int} : Ev (prWithin r lo hi) (Wi r lo hi) := Ev.ite fun _ => Ev.ite fun _ => Ev.dec Iff.rfl
theorem within_ev {r : Rg} {lo hi : Int} : Ev (pwithin r lo hi) (Wi r lo hi) := Ev.ite fun _ => Ev.ite fun _ => Ev.dec Iff.rfl
def Fit1 (s : Stm) : Prop := (-1000 ≤ s.Wide ∧ s.Wide ≤ 1000) ∧ (-1000 ≤ s.High ∧ s.High ≤ 1000)
theorem VS0.fit {s : Stm} (h : VS0 s) (hm : ¬ ManyS s) : Fit1 s := by
 obtain ⟨a, b, _⟩ := not_many hm
 have := h.wide; have := h.high
 unfold Fit1; omega
theorem hasRect_ev {s : Stm} (h : Fit1 s) {r : Rct} : Ev (phasRect s r) (rcOk s r) := by
 unfold Fit1 at h
 exact Ev.gd (fI (by omega)) (Ev.and within_ev fun _ => Ev.gd (fI (by omega)) within_ev.ret)
theorem rIsRect_ev {s : Stm} (h : Fit1 s) {r : Rct} : Ev (prIsRect s r) (rcOk s r) := by
 unfold Fit1 at h
 exact Ev.gd (fI (by omega)) (Ev.and rWithin_ev fun _ => Ev.gd (fI (by omega)) rWithin_ev.ret)
theorem hail_ev {c : Crd} (h : Wi c.Size 0 9) : Ev (if c.Hail = true then (some true) else (gd (fitsP .i64 c.Size.Lo) (gd (fitsP .i64 (0 : Int)) (gd (fitsP .i64 c.Size.Hi) (gd (fitsP .i64 (0 : Int)) (some ((decide (c.Size.Lo = (0 : Int))) && (decide (c.Size.Hi = (0 : Int)))))))))) (c.Hail = true ∨ c.Size = ⟨0, 0⟩) := by
 unfold Wi at h
 by_cases hh : c.Hail = true
 ·rw [if_pos hh]; exact Ev.tt (.inl hh)
 ·rw [if_neg hh, gd_pos (fI (by omega)), gd_pos (fI (by omega)), gd_pos (fI (by omega)), gd_pos (fI (by omega))]
  refine Ev.mk' ?_
  obtain ⟨X, Y, hl, ⟨lo, hi⟩⟩ := c
  simp only [Bool.and_eq_true, decide_eq_true_eq, Rg.mk.injEq] at hh ⊢
  exact ⟨.inr, fun q => q.elim (fun q => absurd q hh) id⟩
theorem validCard_ev {w : Wk} (h : Fit1 w.s) {c : Crd} : Ev (pvalidCard w c) (CV w.s c) := Ev.bind rfl (Ev.and (hasRect_ev h) fun _ => Ev.and within_ev fun q => hail_ev q)
theorem rIsCard_ev {s : Stm} (h : Fit1 s) {c : Crd} : Ev (prIsCard s c) (CV s c) := Ev.and (rIsRect_ev h) fun _ => Ev.and rWithin_ev fun q => hail_ev q
theorem tooMany_ev {s : Stm} : Ev (ptooMany s) (ManyS s) := by
 unfold ptooMany ManyS
 by_cases h1 : (12 : Int) < s.Wide
 ·rw [if_pos h1]; exact Ev.tt (.inl h1)
 rw [if_neg h1]
 by_cases h2 : (12 : Int) < s.High
 ·rw [if_pos h2]; exact Ev.tt (.inr (.inl h2))
 rw [if_neg h2]; exact Ev.dec (by omega)
theorem gC {l : List Crd} {p : Crd → Option Bool} : ∀ {d : Nat} {x : Int}, pindexC_L0 l p d x = gIdx l p d x
 | 0, _ => rfl
 | d + 1, x => by unfold pindexC_L0 gIdx; simp only [gC (d := d)]
theorem gR {l : List Rct} {p : Rct → Option Bool} : ∀ {d : Nat} {x : Int}, pindexR_L0 l p d x = gIdx l p d x
 | 0, _ => rfl
 | d + 1, x => by unfold pindexR_L0 gIdx; simp only [gR (d := d)]
theorem eachC_ev {l : List Crd} {p : Crd → Option Bool} {q : Crd → Prop} (hp : ∀ a ∈ l, Ev (p a) (q a)) (hl : shrt l) : Ev (peachC l p) (∀ a ∈ l, q a) := Ev.each hp hl.lt gC
theorem eachR_ev {l : List Rct} {p : Rct → Option Bool} {q : Rct → Prop} (hp : ∀ a ∈ l, Ev (p a) (q a)) (hl : shrt l) : Ev (peachR l p) (∀ a ∈ l, q a) := Ev.each hp hl.lt gR
theorem count_eq {r : Rg} (h : Wi r (-1000) 1000) : pcount r = some (cnt r) := by
 unfold Wi at h
 unfold pcount
 rw [gd_pos (fI (by omega)), gd_pos (fI (by omega))]; rfl
theorem rCount_eq {r : Rg} (h : Wi r (-1000) 1000) : prCount r = some (cnt r) := by
 unfold Wi at h
 unfold prCount
 rw [gd_pos (fI (by omega)), gd_pos (fI (by omega))]; rfl
theorem VS0.ws {s : Stm} (h : VS0 s) (hm : ¬ ManyS s) : Wi s.A (-1000) 1000 ∧ Wi s.B (-1000) 1000 ∧ Wi s.Half (-1000) 1000 ∧ Wi s.Peak (-1000) 1000 := by
 obtain ⟨_, hh, _⟩ := not_many hm
 exact ⟨h.a.w (by omega) (by omega), h.b.w (by omega) (by omega), h.half.w (by omega) (by omega), h.peak.w (by omega) (by omega)⟩
theorem rMany_eq {s : Stm} (h : VS0 s) (hm : ¬ ManyS s) : prMany s = some (manyN s) := by
 obtain ⟨h1, h2, h3, h4, h5, h6, h7⟩ := many_rng h hm
 obtain ⟨a, b, c, d⟩ := h.ws hm
 unfold prMany
 unfold manyN at h7 ⊢
 rw [rCount_eq a, obs, rCount_eq b, obs, gd_pos (by omega), gd_pos (by omega), gd_pos (fI (by omega)), rCount_eq c, obs, gd_pos (by omega), gd_pos (by omega), gd_pos (fI (by omega)), rCount_eq d, obs, gd_pos (by omega), gd_pos (by omega), gd_pos (fI (by omega))]
theorem inAll_eq {s : Stm} (h : VS0 s) (hm : ¬ ManyS s) : pinAll s = some (manyN s) := by
 obtain ⟨h1, h2, h3, h4, h5, h6, h7⟩ := many_rng h hm
 obtain ⟨a, b, c, d⟩ := h.ws hm
 unfold pinAll
 unfold manyN at h7 ⊢
 rw [count_eq a, obs, count_eq b, obs, gd_pos (by omega), gd_pos (by omega), gd_pos (fI (by omega)), count_eq c, obs, gd_pos (by omega), gd_pos (by omega), gd_pos (fI (by omega)), count_eq d, obs, gd_pos (by omega), gd_pos (by omega), gd_pos (fI (by omega))]
theorem valid_ev {s : Stm} {R : Option (Trh → Option Cds)} (h : ¬ ManyS s) : Ev (pvalid ⟨s, R⟩) (VS0 s) := by
 obtain ⟨h1, h2, h3⟩ := not_many h
 unfold pvalid
 refine (Ev.ite fun q1 => Ev.ite fun q2 => Ev.ite fun q3 => Ev.ite fun q4 => Ev.gd (fI (by dsimp only at q2 ⊢; omega)) (Ev.and within_ev fun q5 => Ev.gd (fI (by dsimp only at q2 ⊢; omega)) (Ev.and within_ev fun q6 => Ev.and within_ev fun q7 => Ev.and within_ev fun q8 => (eachC_ev (q := CV s) (fun c _ => validCard_ev (w := ⟨s, R⟩) (by unfold Fit1; dsimp only; dsimp only at q1 q2; omega)) (fewS h3 (by omega))).ret))).imp ?_
 exact ⟨fun ⟨a, b, c, d, e, g, i, j, k⟩ => ⟨a, b, ⟨c, d⟩, e, g, i, j, k⟩, fun q => ⟨q.wide, q.high, q.fall.1, q.fall.2, q.a, q.b, q.half, q.peak, q.cards⟩⟩
theorem check_eq {s : Stm} : pcheck s = some (faultN s) := by
 unfold pcheck faultN
 refine tooMany_ev.pick (fun h => ?_) fun h => ?_
 ·rw [if_pos rfl, if_pos h]
 ·rw [if_neg (by simp), if_neg h]
  refine (valid_ev h).pick (fun hv => ?_) fun hv => ?_
  ·rw [if_pos rfl, if_pos hv, inAll_eq hv h, obs]
   by_cases hf : manyN s ≤ 2000
   ·rw [if_neg (by omega), if_pos hf]
   ·rw [if_pos (by omega), if_neg hf]
  ·rw [if_neg (by simp), if_neg hv]
theorem fault_L0 {s : Stm} (h : ¬ ManyS s) (hf : Fit1 s) : ((∀ c ∈ s.Cards, CV s c) → prFault_L0 s 1000000 0 = ((prMany s).bind fun r => if (2000 : Int) < r then some 3 else some 0)) ∧ (¬ (∀ c ∈ s.Cards, CV s c) → prFault_L0 s 1000000 0 = some 1) := by
 obtain ⟨h1, h2, h3⟩ := not_many h
 refine loop_each (l := s.Cards) (F := fun d y => prFault_L0 s d y) (fun d k c hg => ?_) (fun d => by rw [prFault_L0, if_neg (Int.lt_irrefl _)]) (by omega)
 have hk := (List.getElem?_eq_some_iff.1 hg).1
 rw [prFault_L0, if_pos (by omega), idx_at hg, obs]
 exact (rIsCard_ev hf).step (by rw [if_pos rfl, gd_pos (fI (by omega))]) (by rw [if_neg (by simp)])
theorem rFault_eq {s : Stm} : prFault s = some (faultN s) := by
 unfold prFault faultN
 by_cases hm : ManyS s
 ·rw [if_pos hm]
  unfold ManyS at hm
  by_cases h1 : (12 : Int) < s.Wide
  ·rw [if_pos h1]
  rw [if_neg h1]
  by_cases h2 : (12 : Int) < s.High
  ·rw [if_pos h2]
  rw [if_neg h2, if_pos (by omega)]
 obtain ⟨h1, h2, h3⟩ := not_many hm
 rw [if_neg hm, if_neg (by omega), if_neg (by omega), if_neg (by omega)]
 by_cases q1 : s.Wide < 2
 ·rw [if_pos q1, if_neg fun hv => by have := hv.wide; omega]
 rw [if_neg q1]
 by_cases q2 : s.High < 1
 ·rw [if_pos q2, if_neg fun hv => by have := hv.high; omega]
 rw [if_neg q2]
 refine In_ev.pick (fun a1 => ?_) fun a1 => by rw [if_neg (by simp), if_neg fun hv => a1 hv.fall]
 rw [if_pos rfl, gd_pos (fI (by omega))]
 refine rWithin_ev.pick (fun a2 => ?_) fun a2 => by rw [if_neg (by simp), if_neg fun hv => a2 hv.a]
 rw [if_pos rfl, gd_pos (fI (by omega))]
 refine rWithin_ev.pick (fun a3 => ?_) fun a3 => by rw [if_neg (by simp), if_neg fun hv => a3 hv.b]
 rw [if_pos rfl]
 refine rWithin_ev.pick (fun a4 => ?_) fun a4 => by rw [if_neg (by simp), if_neg fun hv => a4 hv.half]
 rw [if_pos rfl]
 refine rWithin_ev.pick (fun a5 => ?_) fun a5 => by rw [if_neg (by simp), if_neg fun hv => a5 hv.peak]
 rw [if_pos rfl]
 obtain ⟨k1, k2⟩ := fault_L0 hm (s := s) (by unfold Fit1; omega)
 by_cases r1 : ∀ c ∈ s.Cards, CV s c
 ·have hv : VS0 s := ⟨by omega, by omega, a1, a2, a3, a4, a5, r1⟩
  rw [k1 r1, if_pos hv, rMany_eq hv hm, obs]
  by_cases hf : manyN s ≤ 2000
  ·rw [if_neg (by omega), if_pos hf]
  ·rw [if_pos (by omega), if_neg hf]
 ·rw [k2 r1, if_neg fun hv => r1 hv.cards]
theorem distance_eq {s : Stm} {t : Trh} (h : VS0 s) (hm : ¬ ManyS s) (ht : isT s t) {x y : Int} (hg : gr s x y) : pdistance s t x y = some (dN s t x y) := by
 obtain ⟨a, b, c, d⟩ := sml h hm ht hg
 obtain ⟨r1, r2, r3, r4⟩ := ht.rng h
 obtain ⟨w, hh, _⟩ := not_many hm
 have hw := h.wide
 unfold gr at hg
 unfold pdistance dN
 rw [Int.zero_sub, gd_pos (fI (by omega)), gd_pos (by omega), gd_pos (by omega), gd_pos (fI (by omega)), gd_pos (fI (by omega)), gd_pos (by omega), gd_pos (by omega), gd_pos (fI (by omega)), gd_pos (by omega), gd_pos (by omega), gd_pos (fI (by omega)), gd_pos (fI (by omega)), gd_pos (fI (by omega)), gd_pos (fI (by omega))]
theorem hits_ev {s : Stm} {t : Trh} (h : VS0 s) (hm : ¬ ManyS s) (ht : isT s t) {x y : Int} (hg : gr s x y) : phits s t x y = some (decide (hitP s t x y)) := by
 obtain ⟨a, b, c, d⟩ := sml h hm ht hg
 obtain ⟨r1, r2, r3, r4⟩ := ht.rng h
 obtain ⟨w, hh, _⟩ := not_many hm
 have hw := h.wide
 unfold phits
 rw [distance_eq h hm ht hg, obs, gd_pos (fI (by omega)), gd_pos (by omega), gd_pos (by omega), gd_pos (fI (by omega))]; rfl
theorem size_eq {s : Stm} {t : Trh} (h : VS0 s) (hm : ¬ ManyS s) (ht : isT s t) {x y : Int} (hg : gr s x y) : psize s t x y = some (szN s t x y) := by
 obtain ⟨a, b⟩ := fall_rng h hm ht hg
 obtain ⟨d1, d2⟩ := dN_rng h hm ht hg
 obtain ⟨r1, r2, r3, r4⟩ := ht.rng h
 obtain ⟨w, hh, _⟩ := not_many hm
 have hw := h.wide
 have hf := h.fall
 unfold psize szN
 rw [hits_ev h hm ht hg, obs]
 by_cases hp : hitP s t x y
 ·rw [if_pos (decide_eq_true hp), if_pos hp, distance_eq h hm ht hg, obs, gd_pos (fI (by omega)), gd_pos (by omega), gd_pos (by omega), gd_pos (fI (by omega)), gd_pos (by omega), gd_pos (by omega), gd_pos (fI (by omega)), gd_pos (fI (by omega))]
 ·rw [if_neg (by rw [decide_eq_false hp]; simp), if_neg hp]
theorem numbers_go {r : Rg} {n : Int} (h : Wi r (-1000) 1000) (hn : n = cnt r) : ∀ (d k m : Nat), (k : Int) + m = n → m < d → pnumbersI_L0 r n d (k : Int) = some (segI (r.Lo + k) m)
 | 0, _, _, _, h => by omega
 | d + 1, k, 0, hk, _ => by
  unfold pnumbersI_L0
  rw [if_neg (by omega)]; rfl
 | d + 1, k, m + 1, hk, hd => by
  have hc := h
  unfold Wi at hc
  unfold cnt at hn
  unfold pnumbersI_L0
  rw [if_pos (by omega), gd_pos (fI (by omega)), gd_pos (fI (by omega)), show (k : Int) + 1 = ((k + 1 : Nat) : Int) by omega, numbers_go h (by unfold cnt; exact hn) d (k + 1) m (by omega) (by omega), obs, show r.Lo + ((k + 1 : Nat) : Int) = r.Lo + k + 1 by omega]
  rfl
theorem numbers_eq {r : Rg} (h : Wi r (-1000) 1000) : pnumbers r = some (nums r) := by
 have hc := h
 unfold Wi at hc
 have hcn : 0 < cnt r := by unfold cnt; omega
 unfold pnumbers pnumbersI
 rw [count_eq h, obs]
 have := numbers_go h rfl ((cnt r).toNat + 1) 0 (cnt r).toNat (by omega) (by omega)
 rw [show ((0 : Nat) : Int) = 0 by rfl] at this
 rw [this, obs]
 unfold nums
 rw [Int.add_zero]
def plcs (r : Rct) : List (Int × Int) := (nums r.X).flatMap fun x => (nums r.Y).map fun y => (x, y)
theorem pl_L1 {x : Int} {r : List (Int × Int)} : ∀ ys : List Int, pplacesI_L1 x (some r) ys = some (ys.map (fun y => (x, y)) ++ r)
 | [] => rfl
 | y :: ys => by unfold pplacesI_L1; rw [pl_L1 ys, obs]; rfl
theorem pl_L0 {r : Rct} (hy : Wi r.Y (-1000) 1000) : ∀ xs : List Int, pplacesI_L0 r xs = some (xs.flatMap fun x => (nums r.Y).map fun y => (x, y))
 | [] => rfl
 | x :: xs => by unfold pplacesI_L0; rw [numbers_eq hy, obs, pl_L0 hy xs, pl_L1]; rfl
theorem places_eq {s : Stm} (hf : Fit1 s) {r : Rct} (h : rcOk s r) : pplaces r = some (plcs r) := by
 unfold Fit1 at hf
 unfold pplaces pplacesI
 rw [numbers_eq (h.1.w (by omega) (by omega)), obs, pl_L0 (h.2.w (by omega) (by omega)), obs]; rfl
theorem mem_plcs {s : Stm} {r : Rct} (h : rcOk s r) {x y : Int} : (x, y) ∈ plcs r ↔ inP r x y := by
 obtain ⟨h1, h2⟩ := h
 unfold Wi at h1 h2
 unfold plcs inP
 rw [List.mem_flatMap]
 constructor
 ·rintro ⟨a, ha, hb⟩
  obtain ⟨b, hb, he⟩ := List.mem_map.1 hb
  cases he
  exact ⟨(mem_nums (by omega)).1 ha, (mem_nums (by omega)).1 hb⟩
 ·rintro ⟨a, b⟩
  exact ⟨x, (mem_nums (by omega)).2 a, List.mem_map.2 ⟨y, (mem_nums (by omega)).2 b, rfl⟩⟩
theorem isR_L0 {s : Stm} {t : Trh} (h : VS0 s) (hm : ¬ ManyS s) (ht : isT s t) {c : Crd} {b : Bool} : ∀ l : List (Int × Int), (∀ p ∈ l, gr s p.1 p.2) → Ev (pisRight_L0 s c t l b) (∃ p ∈ l, (hitP s t p.1 p.2 ↔ c.Hail = true) ∧ inR c.Size (szN s t p.1 p.2))
 | [], _ => by unfold pisRight_L0; exact Ev.ff fun ⟨p, hp, _⟩ => by cases hp
 | p :: l, hl => by
  have hg := hl p (List.mem_cons_self ..)
  have ih := isR_L0 h hm ht (c := c) (b := b) l fun q hq => hl q (List.mem_cons_of_mem _ hq)
  have hno : ¬ ((hitP s t p.1 p.2 ↔ c.Hail = true) ∧ inR c.Size (szN s t p.1 p.2)) → Ev (pisRight_L0 s c t l b) (∃ q ∈ p :: l, (hitP s t q.1 q.2 ↔ c.Hail = true) ∧ inR c.Size (szN s t q.1 q.2)) := fun hn => ih.imp ⟨fun ⟨q, hq, h9⟩ => ⟨q, List.mem_cons_of_mem _ hq, h9⟩, fun ⟨q, hq, h9⟩ => by
   rcases List.mem_cons.1 hq with rfl | hq
   ·exact absurd h9 hn
   ·exact ⟨q, hq, h9⟩⟩
  unfold pisRight_L0
  rw [hits_ev h hm ht hg, obs]
  have heq : ((decide (hitP s t p.1 p.2)) == c.Hail) = true ↔ (hitP s t p.1 p.2 ↔ c.Hail = true) := by
   rw [beq_iff_eq]
   cases hc : c.Hail <;> simp
  by_cases hh : hitP s t p.1 p.2 ↔ c.Hail = true
  ·rw [if_pos (heq.2 hh), size_eq h hm ht hg, obs]
   obtain ⟨b', q1, q2⟩ := has_ev (r := c.Size) (n := szN s t p.1 p.2)
   rw [q1, obs]
   cases b' with
   | true => rw [if_pos rfl]; exact Ev.tt ⟨p, List.mem_cons_self .., hh, q2.1 rfl⟩
   | false => rw [if_neg (by simp)]; exact hno fun h9 => by have := q2.2 h9.2; cases this
  ·rw [if_neg fun q => hh (heq.1 q)]; exact hno fun h9 => hh h9.1
theorem isRight_ev {s : Stm} {t : Trh} (h : VS0 s) (hm : ¬ ManyS s) (ht : isT s t) {c : Crd} (hc : CV s c) : Ev (pisRight s c t) (RT s t c) := by
 unfold pisRight prect
 rw [obs, places_eq (h.fit hm) hc.1, obs]
 refine (isR_L0 h hm ht _ fun p hp => gr_of hc.1 ((mem_plcs hc.1).1 hp)).imp ?_
 exact ⟨fun ⟨p, hp, h9⟩ => ⟨p.1, p.2, (mem_plcs hc.1).1 hp, h9⟩, fun ⟨x, y, hp, h9⟩ => ⟨(x, y), (mem_plcs hc.1).2 hp, h9⟩⟩
theorem rch_L0 {s : Stm} {t : Trh} (h : VS0 s) (hm : ¬ ManyS s) (ht : isT s t) {inn b : Bool} : ∀ l : List (Int × Int), (∀ p ∈ l, gr s p.1 p.2) → Ev (preaches_L0 s t inn l b) (∃ p ∈ l, (hitP s t p.1 p.2 ↔ inn = true))
 | [], _ => by unfold preaches_L0; exact Ev.ff fun ⟨p, hp, _⟩ => by cases hp
 | p :: l, hl => by
  have hg := hl p (List.mem_cons_self ..)
  have ih := rch_L0 h hm ht (inn := inn) (b := b) l fun q hq => hl q (List.mem_cons_of_mem _ hq)
  unfold preaches_L0
  rw [hits_ev h hm ht hg, obs]
  have heq : ((decide (hitP s t p.1 p.2)) == inn) = true ↔ (hitP s t p.1 p.2 ↔ inn = true) := by
   rw [beq_iff_eq]
   cases inn <;> simp
  by_cases hh : hitP s t p.1 p.2 ↔ inn = true
  ·rw [if_pos (heq.2 hh)]; exact Ev.tt ⟨p, List.mem_cons_self .., hh⟩
  ·rw [if_neg fun q => hh (heq.1 q)]
   exact ih.imp ⟨fun ⟨q, hq, h9⟩ => ⟨q, List.mem_cons_of_mem _ hq, h9⟩, fun ⟨q, hq, h9⟩ => by
    rcases List.mem_cons.1 hq with rfl | hq
    ·exact absurd h9 hh
    ·exact ⟨q, hq, h9⟩⟩
def Rch (s : Stm) (t : Trh) (r : Rct) (inn : Bool) : Prop := ∃ x y, inP r x y ∧ (hitP s t x y ↔ inn = true)
theorem reaches_ev {s : Stm} {t : Trh} (h : VS0 s) (hm : ¬ ManyS s) (ht : isT s t) {r : Rct} (hr : rcOk s r) {inn : Bool} : Ev (preaches s t r inn) (Rch s t r inn) := by
 unfold preaches
 rw [places_eq (h.fit hm) hr, obs]
 refine (rch_L0 h hm ht _ fun p hp => gr_of hr ((mem_plcs hr).1 hp)).imp ?_
 exact ⟨fun ⟨p, hp, h9⟩ => ⟨p.1, p.2, (mem_plcs hr).1 hp, h9⟩, fun ⟨x, y, hp, h9⟩ => ⟨(x, y), (mem_plcs hr).2 hp, h9⟩⟩
theorem ch_L3 {a b c : Int} {r : List Trh} : ∀ ds : List Int, pchoicesI_L3 a b c (some r) ds = some (ds.map (fun d => ⟨a, b, c, d⟩) ++ r)
 | [] => rfl
 | d :: ds => by unfold pchoicesI_L3; rw [ch_L3 ds, obs]; rfl
theorem ch_L2 {s : Stm} (h4 : Wi s.Peak (-1000) 1000) {a b : Int} {r : List Trh} : ∀ cs : List Int, pchoicesI_L2 s a b (some r) cs = some ((cs.flatMap fun c => (nums s.Peak).map fun d => ⟨a, b, c, d⟩) ++ r)
 | [] => rfl
 | c :: cs => by unfold pchoicesI_L2; rw [numbers_eq h4, obs, ch_L2 h4 cs, ch_L3, List.flatMap_cons, List.append_assoc]
theorem ch_L1 {s : Stm} (h3 : Wi s.Half (-1000) 1000) (h4 : Wi s.Peak (-1000) 1000) {a : Int} {r : List Trh} : ∀ bs : List Int, pchoicesI_L1 s a (some r) bs = some ((bs.flatMap fun b => (nums s.Half).flatMap fun c => (nums s.Peak).map fun d => ⟨a, b, c, d⟩) ++ r)
 | [] => rfl
 | b :: bs => by unfold pchoicesI_L1; rw [numbers_eq h3, obs, ch_L1 h3 h4 bs, ch_L2 h4, List.flatMap_cons, List.append_assoc]
theorem ch_L0 {s : Stm} (h2 : Wi s.B (-1000) 1000) (h3 : Wi s.Half (-1000) 1000) (h4 : Wi s.Peak (-1000) 1000) : ∀ ws : List Int, pchoicesI_L0 s ws = some (ws.flatMap fun a => (nums s.B).flatMap fun b => (nums s.Half).flatMap fun c => (nums s.Peak).map fun d => ⟨a, b, c, d⟩)
 | [] => rfl
 | a :: ws => by unfold pchoicesI_L0; rw [numbers_eq h2, obs, ch_L0 h2 h3 h4 ws, ch_L1 h3 h4, List.flatMap_cons]
theorem choices_eq {s : Stm} (h : VS0 s) (hm : ¬ ManyS s) : pchoices s = some (chL s) := by
 obtain ⟨a, b, c, d⟩ := h.ws hm
 unfold pchoices pchoicesI
 rw [numbers_eq a, obs, ch_L0 b c d, obs]; rfl
end
end Go.Proofs.Ytbnfnhfanooplaa

namespace Go.Proofs.Ytbnfnhfanooplaa
open _root_.Go.Proofs.Try
open Go.Abs Go.Abs.Grow
set_option maxRecDepth 100000
noncomputable section
def mkC (S : Nat → Bool) : Cds := ⟨S 0, S 1, S 2, S 3, S 4, S 5⟩
def upd (S : Nat → Bool) (x : Int) (v : Bool) : Nat → Bool := fun j => sti x j v (S j)
theorem mkC_congr {S S' : Nat → Bool} (h : ∀ j, j < 6 → S j = S' j) : mkC S = mkC S' := by
 unfold mkC
 rw [h 0 (by omega), h 1 (by omega), h 2 (by omega), h 3 (by omega), h 4 (by omega), h 5 (by omega)]
theorem upd_nat {S : Nat → Bool} {k : Nat} {v : Bool} (j : Nat) : upd S (k : Int) v j = if k = j then v else S j := by
 unfold upd sti
 by_cases h : k = j
 ·rw [if_pos (by omega), if_pos h]
 ·rw [if_neg (by omega), if_neg h]
def eqC (a b : Cds) : Bool := (a.c0 == b.c0) && ((a.c1 == b.c1) && ((a.c2 == b.c2) && ((a.c3 == b.c3) && ((a.c4 == b.c4) && (a.c5 == b.c5)))))
theorem eqC_mk {S S' : Nat → Bool} : eqC (mkC S) (mkC S') = true ↔ ∀ j, j < 6 → S j = S' j := by
 unfold eqC mkC
 simp only [Bool.and_eq_true, beq_iff_eq]
 constructor
 ·rintro ⟨a, b, c, d, e, f⟩ j hj
  match j, hj with
  | 0, _ => exact a
  | 1, _ => exact b
  | 2, _ => exact c
  | 3, _ => exact d
  | 4, _ => exact e
  | 5, _ => exact f
 ·intro h
  exact ⟨h 0 (by omega), h 1 (by omega), h 2 (by omega), h 3 (by omega), h 4 (by omega), h 5 (by omega)⟩
theorem idx6 {S : Nat → Bool} {k : Nat} (h : k < 6) : idx ([S 0, S 1, S 2, S 3, S 4, S 5] : List Bool) (k : Int) = some (S k) := by
 rw [idx_nat]
 match k, h with
 | 0, _ => rfl
 | 1, _ => rfl
 | 2, _ => rfl
 | 3, _ => rfl
 | 4, _ => rfl
 | 5, _ => rfl
theorem upTo_go {n : Nat} (hn : n ≤ 6) {last : Int} (hl : last + 1 = n) : ∀ (d k : Nat) (S : Nat → Bool), k ≤ n → n - k < d → pupTo_L0 last d (S 0) (S 1) (S 2) (S 3) (S 4) (S 5) (k : Int) = some (mkC fun j => (decide (k ≤ j) && decide (j < n)) || S j)
 | 0, _, _, _, h => by omega
 | d + 1, k, S, hk, hd => by
  unfold pupTo_L0
  by_cases hkn : k = n
  ·rw [if_neg (by omega)]
   refine congrArg some (mkC_congr (S := S) fun j _ => ?_)
   have : (decide (k ≤ j) && decide (j < n)) = false := by
    by_cases h9 : k ≤ j
    ·rw [decide_eq_false (show ¬ j < n by omega)]; simp
    ·rw [decide_eq_false h9]; rfl
   rw [this]; rfl
  ·rw [if_pos (by omega), gd_pos (by omega), gd_pos (fI (by omega)), show (k : Int) + 1 = ((k + 1 : Nat) : Int) by omega]
   refine (upTo_go hn hl d (k + 1) (upd S (k : Int) true) (by omega) (by omega)).trans (congrArg some (mkC_congr fun j _ => ?_))
   rw [upd_nat]
   by_cases h9 : k = j
   ·subst h9
    rw [if_pos rfl, decide_eq_true (Nat.le_refl k), decide_eq_true (show k < n by omega)]; simp
   ·rw [if_neg h9, show decide (k + 1 ≤ j) = decide (k ≤ j) from decide_eq_decide.2 (by omega)]
theorem upTo_eq {n : Nat} (hn : n ≤ 6) {last : Int} (hl : last + 1 = n) : pupTo last = some (mkC fun j => decide (j < n)) := by
 unfold pupTo
 rw [gd_pos (fI (by omega))]
 have := upTo_go hn hl ((last + 1).toNat + 1) 0 (fun _ => false) (Nat.zero_le _) (by omega)
 refine Eq.trans this (congrArg some (mkC_congr fun j _ => ?_))
 simp
theorem allCards_eq {W : Wk} (h : W.s.Cards.length ≤ 6) : pallCards W = some (mkC fun j => decide (j < W.s.Cards.length)) := by
 unfold pallCards
 rw [gd_pos (fI (by omega)), upTo_eq h (by omega), obs]
theorem among_go {C S0 : Nat → Bool} : ∀ (d k : Nat) (S : Nat → Bool), k ≤ 6 → 6 - k < d → (∀ j, j < 6 → S j = if j < k then (S0 j && C j) else S0 j) → pamong_L0 (mkC C) d (S 0) (S 1) (S 2) (S 3) (S 4) (S 5) (k : Int) = some (mkC fun j => S0 j && C j)
 | 0, _, _, _, h, _ => by omega
 | d + 1, k, S, hk, hd, hS => by
  unfold pamong_L0
  by_cases hkn : k = 6
  ·rw [if_neg (by omega)]
   exact congrArg some (mkC_congr (S := S) fun j hj => by rw [hS j hj, if_pos (by omega)])
  ·rw [if_pos (by omega), idx6 (by omega), obs]
   have hSk := hS k (by omega)
   rw [if_neg (Nat.lt_irrefl k)] at hSk
   have nx : ∀ v, v = (S0 k && C k) → ∀ j, j < 6 → upd S (k : Int) v j = if j < k + 1 then (S0 j && C j) else S0 j := fun v hv j hj => by
    rw [upd_nat]
    by_cases h9 : k = j
    ·subst h9; rw [if_pos rfl, if_pos (by omega)]; exact hv
    ·rw [if_neg h9, hS j hj]
     by_cases h8 : j < k
     ·rw [if_pos h8, if_pos (by omega)]
     ·rw [if_neg h8, if_neg (by omega)]
   by_cases hs : S k = true
   ·rw [if_pos hs]
    have e : idx ([(mkC C).c0, (mkC C).c1, (mkC C).c2, (mkC C).c3, (mkC C).c4, (mkC C).c5] : List Bool) (k : Int) = some (C k) := idx6 (S := C) (by omega)
    rw [e, obs, gd_pos (by omega), gd_pos (fI (by omega)), show (k : Int) + 1 = ((k + 1 : Nat) : Int) by omega]
    exact among_go d (k + 1) (upd S (k : Int) (C k)) (by omega) (by omega) (nx _ (by rw [← hSk, hs]; rfl))
   ·rw [if_neg hs, gd_pos (by omega), gd_pos (fI (by omega)), show (k : Int) + 1 = ((k + 1 : Nat) : Int) by omega]
    exact among_go d (k + 1) (upd S (k : Int) false) (by omega) (by omega) (nx _ (by rw [← hSk]; simp at hs; rw [hs]; rfl))
theorem among_eq {C S : Nat → Bool} : pamong (mkC C) (mkC S) = some (mkC fun j => S j && C j) := by
 unfold pamong
 exact among_go _ 0 S (by omega) (by decide) fun j _ => by rw [if_neg (by omega)]
open Classical in
def SB (s : Stm) (t : Trh) (j : Nat) : Bool := decide (∃ c, s.Cards[j]? = some c ∧ RT s t c)
open Classical in
theorem SB_iff {s : Stm} {t : Trh} {j : Nat} : SB s t j = true ↔ ∃ c, s.Cards[j]? = some c ∧ RT s t c := by unfold SB; exact decide_eq_true_iff
theorem SB_out {s : Stm} {t : Trh} {j : Nat} (h : s.Cards.length ≤ j) : SB s t j = false := by
 cases hb : SB s t j with
 | false => rfl
 | true =>
  obtain ⟨c, hc, _⟩ := SB_iff.1 hb
  have := (List.getElem?_eq_some_iff.1 hc).1
  omega
theorem rightCards_eq {W : Wk} {s : Stm} (hs : W.s = s) (h : VS0 s) (hm : ¬ ManyS s) {t : Trh} (ht : isT s t) : prightCards W t = some (mkC (SB s t)) := by
 obtain ⟨_, _, h3⟩ := not_many hm
 have go : ∀ (d k : Nat) (S : Nat → Bool), k ≤ s.Cards.length → s.Cards.length - k < d → (∀ j, S j = if j < k then SB s t j else false) → prightCards_L0 W t d (S 0) (S 1) (S 2) (S 3) (S 4) (S 5) (k : Int) = some (mkC (SB s t)) := by
  intro d
  induction d with
  | zero => intro k S _ h; omega
  | succ d ih =>
   intro k S hk hd hS
   unfold prightCards_L0
   rw [hs]
   by_cases hkn : k = s.Cards.length
   ·rw [if_neg (by omega)]
    refine congrArg some (mkC_congr (S := S) fun j hj => ?_)
    rw [hS j]
    by_cases h9 : j < k
    ·rw [if_pos h9]
    ·rw [if_neg h9, SB_out (by omega)]
   ·have hlt : k < s.Cards.length := by omega
    have hg := List.getElem?_eq_getElem hlt
    have hc := h.cards _ (List.getElem_mem hlt)
    generalize s.Cards[k] = c at hg hc
    obtain ⟨b, b1, b2⟩ := isRight_ev h hm ht hc
    have hb : b = SB s t k := by
     rw [Bool.eq_iff_iff, b2, SB_iff]
     exact ⟨fun q => ⟨c, hg, q⟩, fun ⟨c', q1, q2⟩ => by rw [hg] at q1; cases q1; exact q2⟩
    rw [if_pos (by omega), idx_at hg, obs, b1, obs, gd_pos (by omega), gd_pos (fI (by omega)), show (k : Int) + 1 = ((k + 1 : Nat) : Int) by omega]
    refine ih (k + 1) (upd S (k : Int) b) (by omega) (by omega) fun j => ?_
    rw [upd_nat]
    by_cases h9 : k = j
    ·subst h9; rw [if_pos rfl, if_pos (by omega)]; exact hb
    ·rw [if_neg h9, hS j]
     by_cases h8 : j < k
     ·rw [if_pos h8, if_pos (by omega)]
     ·rw [if_neg h8, if_neg (by omega)]
 unfold prightCards
 rw [hs]
 exact go _ 0 (fun _ => false) (Nat.zero_le _) (by omega) fun j => by rw [if_neg (by omega)]
structure WOk (s : Stm) (W : Wk) : Prop where
 v0 : VS0 s
 many : ¬ ManyS s
 ss : W.s = s
 m : ∀ t, isT s t → mget W.right t = some (mkC (SB s t))
theorem isT.fit {s : Stm} {t : Trh} (ht : isT s t) (h : VS0 s) (hm : ¬ ManyS s) : MK.fit t := by
 obtain ⟨_, hh, _⟩ := not_many hm
 obtain ⟨a, b, c, d⟩ := ht.rng h
 exact ⟨fI (by omega), fI (by omega), fI (by omega), fI (by omega), trivial⟩
open Classical in
theorem open_L0 {s : Stm} (h : VS0 s) (hm : ¬ ManyS s) : ∀ (l : List Trh) (D : Trh → Prop) (m : Trh → Option Cds), (∀ t ∈ l, isT s t) → (∀ t, D t → m t = some (mkC (SB s t))) →
  ∃ g, popen_L0 s l (some m) = some ⟨s, some g⟩ ∧ ∀ t, (D t ∨ t ∈ l) → g t = some (mkC (SB s t))
 | [], D, m, _, hD => ⟨m, rfl, fun t ht => ht.elim (hD t) fun h => by cases h⟩
 | t :: l, D, m, hl, hD => by
  have ht := hl t (List.mem_cons_self ..)
  unfold popen_L0
  rw [rightCards_eq (s := s) rfl h hm ht, obs, gd_pos (ht.fit h hm), show mset (some m) t (mkC (SB s t)) = some (some fun k => if k = t then some (mkC (SB s t)) else m k) from rfl, obs]
  obtain ⟨g, g1, g2⟩ := open_L0 h hm l (fun x => D x ∨ x = t) (fun k => if k = t then some (mkC (SB s t)) else m k) (fun x hx => hl x (List.mem_cons_of_mem _ hx)) fun x hx => by
   by_cases h9 : x = t
   ·rw [if_pos h9, h9]
   ·rw [if_neg h9]; exact hD x (hx.elim id fun q => absurd q h9)
  refine ⟨g, g1, fun x hx => g2 x ?_⟩
  rcases hx with hx | hx
  ·exact .inl (.inl hx)
  ·rcases List.mem_cons.1 hx with h9 | h9
   ·exact .inl (.inr h9)
   ·exact .inr h9
theorem open_eq {s : Stm} (h : VS s) : ∃ W, popen s = some W ∧ WOk s W := by
 obtain ⟨g, g1, g2⟩ := open_L0 h.toVS0 h.many (chL s) (fun _ => False) (fun _ => none) (fun t ht => (mem_chL h.toVS0).1 ht) fun _ h => h.elim
 refine ⟨⟨s, some g⟩, ?_, h.toVS0, h.many, rfl, fun t ht => g2 t (.inr ((mem_chL h.toVS0).2 ht))⟩
 unfold popen
 rw [choices_eq h.toVS0 h.many, obs]
 exact g1
theorem hold_iff {s : Stm} {t : Trh} {S : Nat → Bool} (hn : s.Cards.length ≤ 6) (hS : ∀ j, S j = true → j < s.Cards.length) : (∀ j, j < 6 → (S j && SB s t j) = S j) ↔ ∀ j, S j = true → ∀ c, s.Cards[j]? = some c → RT s t c := by
 constructor
 ·intro h j hj c hc
  have hjl := hS j hj
  have := h j (by omega)
  rw [hj, Bool.true_and] at this
  obtain ⟨c', q1, q2⟩ := SB_iff.1 this
  rw [hc] at q1; cases q1; exact q2
 ·intro h j hj
  cases hs : S j with
  | false => rfl
  | true =>
   have hjl := hS j hs
   rw [SB_iff.2 ⟨_, List.getElem?_eq_getElem hjl, h j hs _ (List.getElem?_eq_getElem hjl)⟩]; rfl
theorem canHold_ev {s : Stm} {W : Wk} (h : WOk s W) {S : Nat → Bool} (hS : ∀ j, S j = true → j < s.Cards.length) : Ev (pcanHold W (mkC S)) (CanS s S) := by
 obtain ⟨_, _, h3⟩ := not_many h.many
 have go : ∀ (l : List Trh) (b : Bool), (∀ t ∈ l, isT s t) → Ev (pcanHold_L0 W (mkC S) l b) (∃ t ∈ l, ∀ j, S j = true → ∀ c, s.Cards[j]? = some c → RT s t c) := by
  intro l
  induction l with
  | nil => intro b _; unfold pcanHold_L0; exact Ev.ff fun ⟨t, ht, _⟩ => by cases ht
  | cons t l ih =>
   intro b hl
   have ht := hl t (List.mem_cons_self ..)
   unfold pcanHold_L0
   rw [gd_pos (ht.fit h.v0 h.many), mcase_some (h.m t ht), among_eq, obs]
   have heq := (eqC_mk (S := fun j => S j && SB s t j) (S' := S)).trans (hold_iff (t := t) h3 hS)
   show Ev (ite (eqC (mkC fun j => S j && SB s t j) (mkC S) = true) _ _) _
   by_cases hh : ∀ j, S j = true → ∀ c, s.Cards[j]? = some c → RT s t c
   ·rw [if_pos (heq.2 hh)]; exact Ev.tt ⟨t, List.mem_cons_self .., hh⟩
   ·rw [if_neg fun q => hh (heq.1 q)]
    exact (ih b fun x hx => hl x (List.mem_cons_of_mem _ hx)).imp ⟨fun ⟨x, hx, q⟩ => ⟨x, List.mem_cons_of_mem _ hx, q⟩, fun ⟨x, hx, q⟩ => by
     rcases List.mem_cons.1 hx with rfl | hx
     ·exact absurd q hh
     ·exact ⟨x, hx, q⟩⟩
 unfold pcanHold
 rw [h.ss, choices_eq h.v0 h.many, obs]
 exact (go _ false fun t ht => (mem_chL h.v0).1 ht).imp ⟨fun ⟨t, h1, h2⟩ => ⟨t, (mem_chL h.v0).1 h1, h2⟩, fun ⟨t, h1, h2⟩ => ⟨t, (mem_chL h.v0).2 h1, h2⟩⟩
theorem hasTruth_ev {s : Stm} {W : Wk} (h : WOk s W) : Ev (phasTruth W) (HT s) := by
 obtain ⟨_, _, h3⟩ := not_many h.many
 unfold phasTruth
 rw [allCards_eq (by rw [h.ss]; exact h3), obs, h.ss]
 refine (canHold_ev h fun j hj => of_decide_eq_true hj).ret.imp ?_
 rw [HT_can]
 exact CanS.congr fun j hj => decide_eq_true hj
theorem all_iff {s : Stm} {t : Trh} (hn : s.Cards.length ≤ 6) : (∀ j, j < 6 → SB s t j = decide (j < s.Cards.length)) ↔ ∀ c ∈ s.Cards, RT s t c := by
 constructor
 ·intro h c hc
  obtain ⟨j, hj⟩ := List.mem_iff_getElem?.1 hc
  have hjl := (List.getElem?_eq_some_iff.1 hj).1
  have := h j (by omega)
  rw [decide_eq_true hjl] at this
  obtain ⟨c', q1, q2⟩ := SB_iff.1 this
  rw [hj] at q1; cases q1; exact q2
 ·intro h j _
  by_cases hjl : j < s.Cards.length
  ·rw [decide_eq_true hjl]
   exact SB_iff.2 ⟨_, List.getElem?_eq_getElem hjl, h _ (List.getElem_mem hjl)⟩
  ·rw [decide_eq_false hjl]; exact SB_out (by omega)
open Classical in
theorem truths_L0 {s : Stm} {W : Wk} (h : WOk s W) : ∀ l : List Trh, (∀ t ∈ l, isT s t) → ptruthsI_L0 W (mkC fun j => decide (j < s.Cards.length)) l = some (l.filter fun t => decide (∀ c ∈ s.Cards, RT s t c))
 | [], _ => rfl
 | t :: l, hl => by
  obtain ⟨_, _, h3⟩ := not_many h.many
  have ht := hl t (List.mem_cons_self ..)
  have ih := truths_L0 h l fun x hx => hl x (List.mem_cons_of_mem _ hx)
  unfold ptruthsI_L0
  rw [gd_pos (ht.fit h.v0 h.many), mcase_some (h.m t ht), ih]
  have heq := (eqC_mk (S := SB s t) (S' := fun j => decide (j < s.Cards.length))).trans (all_iff (t := t) h3)
  show (ite (eqC (mkC (SB s t)) (mkC fun j => decide (j < s.Cards.length)) = true) _ _) = _
  by_cases ho : ∀ c ∈ s.Cards, RT s t c
  ·rw [if_pos (heq.2 ho), obs, List.filter_cons_of_pos (by simpa using ho)]
  ·rw [if_neg fun q => ho (heq.1 q), List.filter_cons_of_neg (by simpa using ho)]
theorem truths_eq {s : Stm} {W : Wk} (h : WOk s W) : ptruths W = some (TL s) := by
 obtain ⟨_, _, h3⟩ := not_many h.many
 unfold ptruths ptruthsI
 rw [allCards_eq (by rw [h.ss]; exact h3), obs, h.ss, choices_eq h.v0 h.many, obs, truths_L0 h _ fun t ht => (mem_chL h.v0).1 ht, obs]; rfl
def wk0 : Wk := { s := ({ Wide := (0 : Int), High := (0 : Int), Fall := (0 : Int), A := ({ Lo := (0 : Int), Hi := (0 : Int) } : Rg), B := ({ Lo := (0 : Int), Hi := (0 : Int) } : Rg), Half := ({ Lo := (0 : Int), Hi := (0 : Int) } : Rg), Peak := ({ Lo := (0 : Int), Hi := (0 : Int) } : Rg), Cards := [] } : Stm), right := none }
theorem openTrue_ok {s : Stm} (h : VS s) {L : List Rct} (hL : shrt L) (hr : ∀ r ∈ L, rcOk s r) (ht : HT s) : ∃ W, popenTrue s L = some (W, 0) ∧ WOk s W := by
 obtain ⟨W, h1, h2⟩ := open_eq h
 refine ⟨W, ?_, h2⟩
 unfold popenTrue
 rw [check_eq, fault_zero.2 h, obs, if_pos rfl, (eachR_ev (q := rcOk s) (fun r _ => hasRect_ev (h.toVS0.fit h.many)) hL).some_of hr, obs, if_pos rfl, h1, obs, (hasTruth_ev h2).some_of ht, obs, if_pos rfl]
theorem openTrue_no {s : Stm} (h : VS s) {L : List Rct} (hL : shrt L) (hr : ∀ r ∈ L, rcOk s r) (ht : ¬ HT s) : popenTrue s L = some (wk0, 11) := by
 obtain ⟨W, h1, h2⟩ := open_eq h
 unfold popenTrue
 rw [check_eq, fault_zero.2 h, obs, if_pos rfl, (eachR_ev (q := rcOk s) (fun r _ => hasRect_ev (h.toVS0.fit h.many)) hL).some_of hr, obs, if_pos rfl, h1, obs, (hasTruth_ev h2).some_not ht, obs, if_neg (by simp)]; rfl
end
end Go.Proofs.Ytbnfnhfanooplaa

namespace Go.Proofs.Ytbnfnhfanooplaa
open _root_.Go.Proofs.Try
open Go.Abs
set_option maxRecDepth 100000
noncomputable section
def Inc (n fr : Nat) (T : List Int) : Prop := T.Pairwise (· < ·) ∧ ∀ v ∈ T, (fr : Int) ≤ v ∧ v < n
theorem Inc.cons {n fr : Nat} {x : Int} {T : List Int} : Inc n fr (x :: T) ↔ ((fr : Int) ≤ x ∧ x < n) ∧ Inc n (x + 1).toNat T := by
 unfold Inc
 rw [List.pairwise_cons]
 constructor
 ·rintro ⟨⟨h1, h2⟩, h3⟩
  have hx := h3 x (List.mem_cons_self ..)
  exact ⟨hx, h2, fun v hv => by have := h1 v hv; have := h3 v (List.mem_cons_of_mem _ hv); omega⟩
 ·rintro ⟨hx, h2, h3⟩
  refine ⟨⟨fun v hv => by have := h3 v hv; omega, h2⟩, fun v hv => ?_⟩
  rcases List.mem_cons.1 hv with rfl | hv
  ·exact hx
  ·have := h3 v hv; omega
theorem mem_combs {n : Nat} {D : List Int} : ∀ {d : Nat} {pre : List Int} {fr : Nat}, D ∈ combs n d pre fr ↔ ∃ T, D = pre ++ T ∧ T.length = d ∧ Inc n fr T
 | 0, pre, fr => by
  show D ∈ [pre] ↔ _
  rw [List.mem_singleton]
  constructor
  ·rintro rfl; exact ⟨[], by simp, rfl, .nil, fun v hv => by cases hv⟩
  ·rintro ⟨T, h1, h2, _⟩
   rw [List.eq_nil_of_length_eq_zero h2, List.append_nil] at h1; exact h1
 | d + 1, pre, fr => by
  show D ∈ rests (fun x => combs n d (pre ++ [(x : Int)]) (x + 1)) (n - fr) fr ↔ _
  rw [mem_rests]
  constructor
  ·rintro ⟨x, h1, h2, h3⟩
   obtain ⟨T, h4, h5, h6⟩ := mem_combs.1 h3
   refine ⟨(x : Int) :: T, by rw [h4]; simp, by simp [h5], Inc.cons.2 ⟨by omega, ?_⟩⟩
   rw [show ((x : Int) + 1).toNat = x + 1 by omega]; exact h6
  ·rintro ⟨T, h1, h2, h3⟩
   cases T with
   | nil => simp at h2
   | cons v T =>
    obtain ⟨h4, h5⟩ := Inc.cons.1 h3
    refine ⟨v.toNat, by omega, by omega, mem_combs.2 ⟨T, ?_, by simpa using h2, ?_⟩⟩
    ·rw [show ((v.toNat : Nat) : Int) = v by omega, h1]; simp
    ·rw [show v.toNat + 1 = (v + 1).toNat by omega]; exact h5
theorem inc_len {n : Nat} : ∀ {T : List Int} {fr : Nat}, Inc n fr T → T.length ≤ n - fr
 | [], _, _ => Nat.zero_le _
 | v :: T, fr, h => by
  obtain ⟨h1, h2⟩ := Inc.cons.1 h
  have := inc_len h2
  simp only [List.length_cons]
  omega
theorem mem_allL {n : Nat} {D : List Int} : D ∈ allL n ↔ Inc n 0 D := by
 unfold allL
 rw [mem_rests]
 constructor
 ·rintro ⟨s, _, _, h⟩
  obtain ⟨T, h1, _, h2⟩ := mem_combs.1 h
  rw [h1]; exact h2
 ·intro h
  have := inc_len h
  exact ⟨D.length, Nat.zero_le _, by omega, mem_combs.2 ⟨D, rfl, rfl, h⟩⟩
def inD (D : List Int) (j : Nat) : Bool := decide ((j : Int) ∈ D)
def bitsF (b : Nat) : Nat → List Int
 | 0 => []
 | p + 1 => bitsF b p ++ (if b.testBit p then [(p : Int)] else [])
def bitsL (b : Nat) : List Int := bitsF b 16
theorem mem_bitsF {b : Nat} {v : Int} : ∀ {p : Nat}, v ∈ bitsF b p ↔ 0 ≤ v ∧ v < p ∧ b.testBit v.toNat = true
 | 0 => ⟨fun h => (by cases h), fun h => by omega⟩
 | p + 1 => by
  show v ∈ bitsF b p ++ _ ↔ _
  rw [List.mem_append, mem_bitsF]
  constructor
  ·rintro (h | h)
   ·exact ⟨h.1, by omega, h.2.2⟩
   ·by_cases hb : b.testBit p = true
    ·rw [if_pos hb, List.mem_singleton] at h
     subst h; exact ⟨by omega, by omega, hb⟩
    ·rw [if_neg hb] at h; cases h
  ·rintro ⟨h1, h2, h3⟩
   by_cases hv : v = (p : Int)
   ·subst hv
    have h4 : b.testBit p = true := h3
    rw [if_pos h4]; exact .inr (List.mem_singleton.2 rfl)
   ·exact .inl ⟨h1, by omega, h3⟩
def bef : List Int → List Int → Bool
 | [], [] => false
 | [], _ :: _ => true
 | _ :: _, [] => false
 | x :: a, y :: b => if x = y then bef a b else decide (x < y)
def shB (a b : List Int) : Bool := decide (a.length < b.length) || (decide (a.length = b.length) && bef a b)
theorem bef_irr : ∀ A : List Int, bef A A = false
 | [] => rfl
 | x :: A => by show (if x = x then bef A A else _) = _; rw [if_pos rfl, bef_irr A]
theorem shB_iff {A B : List Int} : shB A B = true ↔ A.length < B.length ∨ (A.length = B.length ∧ bef A B = true) := by
 unfold shB
 rw [Bool.or_eq_true, Bool.and_eq_true, decide_eq_true_eq, decide_eq_true_eq]
theorem bef_app (x y : Int) (A B : List Int) (hxy : x < y) : ∀ pre : List Int, bef (pre ++ x :: A) (pre ++ y :: B) = true
 | [] => by show (if x = y then _ else decide (x < y)) = true; rw [if_neg (by omega), decide_eq_true hxy]
 | p :: pre => by show (if p = p then bef (pre ++ x :: A) (pre ++ y :: B) else _) = true; rw [if_pos rfl]; exact bef_app x y A B hxy pre
theorem rests_pairwise {α : Type} {R : α → α → Prop} (g : Nat → List α) (h1 : ∀ x, (g x).Pairwise R) (h2 : ∀ x y, x < y → ∀ a ∈ g x, ∀ b ∈ g y, R a b) : ∀ e x, (rests g e x).Pairwise R
 | 0, _ => .nil
 | e + 1, x => by
  show (g x ++ rests g e (x + 1)).Pairwise R
  rw [List.pairwise_append]
  refine ⟨h1 x, rests_pairwise g h1 h2 e (x + 1), fun a ha b hb => ?_⟩
  obtain ⟨j, h3, _, h4⟩ := (mem_rests g b e (x + 1)).1 hb
  exact h2 x j (by omega) a ha b h4
theorem combs_pairwise {n : Nat} : ∀ (d : Nat) (pre : List Int) (fr : Nat), (combs n d pre fr).Pairwise fun a b => bef a b = true
 | 0, pre, fr => List.pairwise_singleton _ _
 | d + 1, pre, fr => rests_pairwise _ (fun x => combs_pairwise d _ _) (fun x y hxy a ha b hb => by
  obtain ⟨T, h1, _, _⟩ := mem_combs.1 ha
  obtain ⟨T', h2, _, _⟩ := mem_combs.1 hb
  rw [h1, h2, List.append_assoc, List.append_assoc]
  exact bef_app _ _ _ _ (by omega) pre) _ _
theorem allL_pairwise (n : Nat) : (allL n).Pairwise fun a b => shB a b = true :=
 rests_pairwise _ (fun s => (combs_pairwise s [] 0).imp_of_mem fun {a b} ha hb hab => by
  have h1 := combs_len ha
  have h2 := combs_len hb
  unfold shB
  rw [hab, decide_eq_true (show a.length = b.length by omega)]; simp) (fun s s' hs a ha b hb => by
  have h1 := combs_len ha
  have h2 := combs_len hb
  unfold shB
  rw [decide_eq_true (by omega)]; rfl) _ _
theorem find_min {t : List Int → Bool} : ∀ {l : List (List Int)}, l.Pairwise (fun a b => shB a b = true) → ∀ {D D' : List Int}, l.find? t = some D → D' ∈ l → t D' = true → D' = D ∨ shB D D' = true
 | [], _, _, _, h, _, _ => by cases h
 | a :: l, hp, D, D', h, hm, ht => by
  rw [List.pairwise_cons] at hp
  rw [List.find?_cons] at h
  cases hta : t a with
  | true =>
   rw [hta] at h
   have : a = D := Option.some.inj h
   subst this
   rcases List.mem_cons.1 hm with rfl | h1
   ·exact .inl rfl
   ·exact .inr (hp.1 _ h1)
  | false =>
   rw [hta] at h
   rcases List.mem_cons.1 hm with rfl | h1
   ·rw [hta] at ht; cases ht
   ·exact find_min hp.2 h h1 ht
theorem shortL_spec {n : Nat} {t : List Int → Bool} (h : ∃ D, Inc n 0 D ∧ t D = true) : Inc n 0 (shortL n t) ∧ t (shortL n t) = true ∧ ∀ D, Inc n 0 D → t D = true → D = shortL n t ∨ shB (shortL n t) D = true := by
 obtain ⟨D0, h1, h2⟩ := h
 unfold shortL
 cases hf : (allL n).find? t with
 | none => exact absurd h2 (by have := List.find?_eq_none.1 hf D0 (mem_allL.2 h1); simpa using this)
 | some D => exact ⟨mem_allL.1 (List.mem_of_find?_eq_some hf), List.find?_some hf, fun D' h3 h4 => find_min (allL_pairwise n) hf (mem_allL.2 h3) h4⟩
theorem inD_bits {n b k : Nat} (hn : n ≤ 16) (hk : k < n) : inD (bitsL b) k = b.testBit k := by
 unfold inD
 have : ((k : Nat) : Int) ∈ bitsL b ↔ b.testBit k = true := by
  unfold bitsL
  rw [mem_bitsF]
  exact ⟨fun h => h.2.2, fun h => ⟨by omega, by omega, h⟩⟩
 cases hb : b.testBit k with
 | true => exact decide_eq_true (this.2 hb)
 | false => exact decide_eq_false fun h => by rw [this.1 h] at hb; cases hb
end
end Go.Proofs.Ytbnfnhfanooplaa

namespace Go.Proofs.Ytbnfnhfanooplaa
open _root_.Go.Proofs.Try
open Go.Abs Go.Abs.Grow
set_option maxRecDepth 100000
noncomputable section
theorem minimum_eq {l : List Int} (h : l ≠ []) (hl : shrt l) : pminimum l = some (minL l) := by
 have hl := hl.lt
 cases l with
 | nil => exact absurd rfl h
 | cons x l =>
  unfold pminimum
  rw [if_neg (by simp; omega), idx_zero rfl, obs]
  have key := loopFold (l := x :: l) (fun s a => min s a) (fun d s k => pminimum_L0 (x :: l) d s k) some (fun d k s a ha => by
   have hk := (List.getElem?_eq_some_iff.1 ha).1
   rw [pminimum_L0, if_pos (by omega), idx_at ha, obs]
   by_cases hc : a < s
   ·rw [if_pos hc, gd_pos (fI (by omega)), Int.min_eq_right (by omega)]
   ·rw [if_neg hc, gd_pos (fI (by omega)), Int.min_eq_left (by omega)]) (fun d s => by rw [pminimum_L0, if_neg (Int.lt_irrefl _)]) ((x :: l).length + 1) 0 x (Nat.zero_le _) (by omega)
  refine key.trans ?_
  rw [List.drop_zero]
  show some (l.foldl min (min x x)) = _
  rw [Int.min_self]; rfl
theorem max_eq {l : List Int} (h : l ≠ []) (hl : shrt l) : psMax l = some (maxL l) := by
 have hl := hl.lt
 cases l with
 | nil => exact absurd rfl h
 | cons x l =>
  unfold psMax
  rw [if_neg (by simp; omega), idx_zero rfl, obs]
  have key := loopFold (l := x :: l) (fun s a => max s a) (fun d s k => psMax_L0 (x :: l) d s k) some (fun d k s a ha => by
   have hk := (List.getElem?_eq_some_iff.1 ha).1
   rw [psMax_L0, if_pos (by omega), idx_at ha, obs, gd_pos (fI (by omega))]) (fun d s => by rw [psMax_L0, if_neg (Int.lt_irrefl _)]) ((((x :: l).length : Int) - 1).toNat + 1) 1 x (by simp) (by simp only [List.length_cons]; omega)
  exact key
def Of (s : Stm) (h : Trh → Int) : Int → Prop := fun x => ∃ t, TS s t ∧ h t = x
theorem span_L0 {q : Trh → Option Int} {h : Trh → Int} : ∀ (l : List Trh) (acc : List Int), (∀ c ∈ l, q c = some (h c)) → acc.length + l.length < 1048576 → acc ++ l.map h ≠ [] → pspan_L0 q l acc = some ⟨minL (acc ++ l.map h), maxL (acc ++ l.map h)⟩
 | [], acc, _, hl, hne => by
  unfold pspan_L0
  rw [List.map_nil, List.append_nil] at hne ⊢
  simp only [List.length_nil] at hl
  rw [minimum_eq hne (by unfold shrt; omega), obs, max_eq hne (by unfold shrt; omega), obs]
 | c :: l, acc, hq, hl, hne => by
  simp only [List.length_cons] at hl
  unfold pspan_L0
  rw [hq c (List.mem_cons_self ..), obs, gd_pos (by omega), span_L0 l (acc ++ [h c]) (fun x hx => hq x (List.mem_cons_of_mem _ hx)) (by rw [List.length_append]; simp only [List.length_cons, List.length_nil]; omega) (by simp), List.append_assoc]
  rfl
theorem span_eq {s : Stm} {W : Wk} (hw : WOk s W) (ht : HT s) {q : Trh → Option Int} {h : Trh → Int} (hq : ∀ t, TS s t → q t = some (h t)) : ∃ lo hi, pspan W q = some ⟨lo, hi⟩ ∧ Spn (Of s h) lo hi := by
 have hlen := TL_len hw.v0 hw.many
 have hne2 : [] ++ (TL s).map h ≠ [] := by
  obtain ⟨t, h1⟩ := ht
  have := (mem_TL hw.v0).2 h1
  intro hn
  rw [List.nil_append, List.map_eq_nil_iff] at hn
  rw [hn] at this; cases this
 have hmem : ∀ x, x ∈ ([] : List Int) ++ (TL s).map h ↔ Of s h x := fun x => by
  rw [List.nil_append, List.mem_map]
  exact ⟨fun ⟨t, h1, h2⟩ => ⟨t, (mem_TL hw.v0).1 h1, h2⟩, fun ⟨t, h1, h2⟩ => ⟨t, (mem_TL hw.v0).2 h1, h2⟩⟩
 refine ⟨_, _, ?_, (hmem _).1 (minL_mem hne2).1, (hmem _).1 (maxL_mem hne2).1, fun x hx => ⟨(minL_mem hne2).2 x ((hmem x).2 hx), (maxL_mem hne2).2 x ((hmem x).2 hx)⟩⟩
 unfold pspan
 rw [truths_eq hw, obs, span_L0 (h := h) _ [] (fun c hc => hq c ((mem_TL hw.v0).1 hc)) (by simp only [List.length_nil]; omega) hne2]
theorem witness_eq {s : Stm} {W : Wk} (hw : WOk s W) {r : Rct} (hr : rcOk s r) {inn : Bool} : (∃ t, pwitness W r inn = some (t, true) ∧ TS s t ∧ Rch s t r inn) ∨ ((∀ t, TS s t → ¬ Rch s t r inn) ∧ pwitness W r inn = some (⟨0, 0, 0, 0⟩, false)) := by
 have go : ∀ (l : List Trh) (a b c d : Int) (e : Bool), (∀ t ∈ l, TS s t) → (∃ t, pwitness_L0 W r inn l a b c d e = some (t, true) ∧ TS s t ∧ Rch s t r inn) ∨ ((∀ t ∈ l, ¬ Rch s t r inn) ∧ pwitness_L0 W r inn l a b c d e = some (⟨0, 0, 0, 0⟩, false)) := by
  intro l
  induction l with
  | nil => intro a b c d e _; exact .inr ⟨fun t ht => (by cases ht), rfl⟩
  | cons t l ih =>
   intro a b c d e hl
   have ht := hl t (List.mem_cons_self ..)
   obtain ⟨b', q1, q2⟩ := reaches_ev hw.v0 hw.many ht.1 hr (inn := inn)
   unfold pwitness_L0
   rw [hw.ss, q1, obs]
   cases b' with
   | true => rw [if_pos rfl]; exact .inl ⟨t, rfl, ht, q2.1 rfl⟩
   | false =>
    rw [if_neg (by simp)]
    rcases ih a b c d e fun x hx => hl x (List.mem_cons_of_mem _ hx) with h1 | ⟨h1, h2⟩
    ·exact .inl h1
    ·refine .inr ⟨fun x hx => ?_, h2⟩
     rcases List.mem_cons.1 hx with rfl | hx
     ·exact fun h9 => by have := q2.2 h9; cases this
     ·exact h1 x hx
 unfold pwitness
 rw [truths_eq hw, obs]
 rcases go (TL s) 0 0 0 0 false fun t ht => (mem_TL hw.v0).1 ht with h1 | ⟨h1, h2⟩
 ·exact .inl h1
 ·exact .inr ⟨fun t ht => h1 t ((mem_TL hw.v0).2 ht), h2⟩
theorem cloneC_eq {l : List Crd} (h : l.length ≤ 1000) : pcloneC l = some l := by
 unfold pcloneC
 rw [gd_pos (by simp only [List.length_nil]; omega), List.nil_append]
structure BOk (s x : Stm) : Prop where
 rest : x.Wide = s.Wide ∧ x.High = s.High ∧ x.Fall = s.Fall ∧ x.Cards = s.Cards
 a : Spn (Of s fun t => t.A) x.A.Lo x.A.Hi
 b : Spn (Of s fun t => t.B) x.B.Lo x.B.Hi
 half : Spn (Of s fun t => t.Half) x.Half.Lo x.Half.Hi
 peak : Spn (Of s fun t => t.Peak) x.Peak.Lo x.Peak.Hi
theorem Bounds_ok {s : Stm} (h : VS s) (ht : HT s) : ∃ b, pBounds s = some (b, 0) ∧ BOk s b := by
 obtain ⟨W, h1, hw⟩ := openTrue_ok h (L := []) (by unfold shrt; simp) (fun r hr => by cases hr) ht
 obtain ⟨_, _, h3⟩ := not_many h.many
 obtain ⟨a1, a2, a3, a4⟩ := span_eq hw ht (q := fun a => pbA a) (h := fun t => t.A) (fun t _ => rfl)
 obtain ⟨b1, b2, b3, b4⟩ := span_eq hw ht (q := fun a => pbB a) (h := fun t => t.B) (fun t _ => rfl)
 obtain ⟨c1, c2, c3, c4⟩ := span_eq hw ht (q := fun a => pbHalf a) (h := fun t => t.Half) (fun t _ => rfl)
 obtain ⟨d1, d2, d3, d4⟩ := span_eq hw ht (q := fun a => pbPeak a) (h := fun t => t.Peak) (fun t _ => rfl)
 refine ⟨⟨s.Wide, s.High, s.Fall, ⟨a1, a2⟩, ⟨b1, b2⟩, ⟨c1, c2⟩, ⟨d1, d2⟩, s.Cards⟩, ?_, ⟨rfl, rfl, rfl, rfl⟩, a4, b4, c4, d4⟩
 unfold pBounds
 rw [h1, obs, if_pos rfl]
 dsimp only
 rw [a3, obs, b3, obs, c3, obs, d3, obs, cloneC_eq (by omega), obs]
def st0 : Stm := { Wide := (0 : Int), High := (0 : Int), Fall := (0 : Int), A := ({ Lo := (0 : Int), Hi := (0 : Int) } : Rg), B := ({ Lo := (0 : Int), Hi := (0 : Int) } : Rg), Half := ({ Lo := (0 : Int), Hi := (0 : Int) } : Rg), Peak := ({ Lo := (0 : Int), Hi := (0 : Int) } : Rg), Cards := [] }
theorem Bounds_no {s : Stm} (h : VS s) (ht : ¬ HT s) : pBounds s = some (st0, 11) := by
 unfold pBounds
 rw [openTrue_no h (L := []) (by unfold shrt; simp) (fun r hr => by cases hr) ht, obs, if_neg (by decide)]; rfl
open Classical in
def verdN (s : Stm) (r : Rct) : Int := if ∀ t, TS s t → ¬ Rch s t r false then 1 else if ∀ t, TS s t → ¬ Rch s t r true then 2 else 3
theorem shrt1 {r : Rct} : shrt [r] := by unfold shrt; simp
theorem Verdict_ok {s : Stm} (h : VS s) (ht : HT s) {r : Rct} (hr : rcOk s r) : pVerdict s r = some (verdN s r, 0) := by
 obtain ⟨W, h1, hw⟩ := openTrue_ok h (L := [r]) shrt1 (fun x hx => by rw [List.mem_singleton.1 hx]; exact hr) ht
 unfold pVerdict verdN
 rw [h1, obs, if_pos rfl]
 dsimp only
 rcases witness_eq hw hr (inn := false) with ⟨t, a1, a2, a3⟩ | ⟨a1, a2⟩
 ·rw [a1, obs, if_pos rfl, if_neg fun q => q t a2 a3]
  rcases witness_eq hw hr (inn := true) with ⟨u, b1, b2, b3⟩ | ⟨b1, b2⟩
  ·rw [b1, obs, if_pos rfl, if_neg fun q => q u b2 b3]
  ·rw [b2, obs, if_neg (by simp), if_pos b1]
 ·rw [a2, obs, if_neg (by simp), if_pos a1]
def allI (n : Nat) : List Int := (List.range n).map fun j => ((j : Nat) : Int)
theorem all_inc (n : Nat) : Inc n 0 (allI n) := by
 refine ⟨?_, fun v hv => ?_⟩
 ·unfold allI
  rw [List.pairwise_map]
  exact List.pairwise_lt_range.imp fun h => by omega
 ·obtain ⟨j, hj, rfl⟩ := List.mem_map.1 hv
  have := List.mem_range.1 hj
  omega
theorem all_in {n j : Nat} (h : j < n) : inD (allI n) j = true := decide_eq_true (List.mem_map.2 ⟨j, List.mem_range.2 h, rfl⟩)
structure MinP (n : Nat) (P : (Nat → Bool) → Prop) (M : List Int) : Prop where
 inc : Inc n 0 M
 ok : P (inD M)
 min : ∀ D, Inc n 0 D → P (inD D) → D = M ∨ shB M D = true
theorem inc_lt {n : Nat} {D : List Int} (h : Inc n 0 D) {j : Nat} (hj : inD D j = true) : j < n := by
 have := of_decide_eq_true hj
 have := (h.2 _ this).2
 omega
theorem inc_mem {n : Nat} {D : List Int} (h : Inc n 0 D) {v : Int} (hv : v ∈ D) : ∃ j : Nat, v = (j : Int) ∧ j < n := by
 have := h.2 v hv
 exact ⟨v.toNat, by omega, by omega⟩
theorem clash_ev {s : Stm} {W : Wk} (h : WOk s W) {D : List Int} (hD : Inc s.Cards.length 0 D) : Ev (pclash W D) (¬ CanS s (inD D)) := by
 obtain ⟨_, _, h3⟩ := not_many h.many
 have hlen := inc_len hD
 have go : ∀ (d i : Nat) (S : Nat → Bool), i ≤ D.length → D.length - i < d → (∀ j, S j = decide ((j : Int) ∈ D.take i)) → Ev (pclash_L0 W D d (S 0) (S 1) (S 2) (S 3) (S 4) (S 5) (i : Int)) (¬ CanS s (inD D)) := by
  intro d
  induction d with
  | zero => intro i S _ h; omega
  | succ d ih =>
   intro i S hi hd hS
   unfold pclash_L0
   by_cases hin : i = D.length
   ·rw [if_neg (by omega)]
    rw [hin, List.take_length] at hS
    have hS' : S = inD D := funext hS
    subst hS'
    exact (canHold_ev h (S := inD D) fun j hj => inc_lt hD hj).neg
   ·have hlt : i < D.length := by omega
    have hg := List.getElem?_eq_getElem hlt
    have hm := List.getElem_mem hlt
    generalize D[i] = v at hg hm
    obtain ⟨k, rfl, hk⟩ := inc_mem hD hm
    rw [if_pos (by omega), idx_at hg, obs, gd_pos (by omega), gd_pos (fI (by omega)), show (i : Int) + 1 = ((i + 1 : Nat) : Int) by omega]
    refine ih (i + 1) (upd S (k : Int) true) (by omega) (by omega) fun j => ?_
    rw [upd_nat, List.take_add_one, hg]
    by_cases h9 : k = j
    ·subst h9; rw [if_pos rfl]; exact (decide_eq_true (by simp)).symm
    ·rw [if_neg h9, hS j]
     refine decide_eq_decide.2 ?_
     simp only [Option.toList_some, List.mem_append, List.mem_singleton]
     exact ⟨.inl, fun q => q.elim id fun q => absurd (by omega) h9⟩
 unfold pclash
 exact go _ 0 (fun _ => false) (Nat.zero_le _) (by omega) fun j => by simp
theorem canLeave_ev {s : Stm} {W : Wk} (h : WOk s W) {D : List Int} (hD : Inc s.Cards.length 0 D) : Ev (pcanLeave W D) (CanS s fun j => !inD D j) := by
 obtain ⟨_, _, h3⟩ := not_many h.many
 have hlen := inc_len hD
 have go : ∀ (d i : Nat) (S : Nat → Bool), i ≤ D.length → D.length - i < d → (∀ j, j < 6 → S j = (decide (j < s.Cards.length) && !decide ((j : Int) ∈ D.take i))) → Ev (pcanLeave_L0 W D d (S 0) (S 1) (S 2) (S 3) (S 4) (S 5) (i : Int)) (CanS s fun j => !inD D j) := by
  intro d
  induction d with
  | zero => intro i S _ h; omega
  | succ d ih =>
   intro i S hi hd hS
   unfold pcanLeave_L0
   by_cases hin : i = D.length
   ·rw [if_neg (by omega)]
    rw [hin, List.take_length] at hS
    have e : (mkC S) = mkC fun j => decide (j < s.Cards.length) && !inD D j := mkC_congr hS
    show Ev ((pcanHold W (mkC S)).bind fun r => some r) _
    rw [e]
    refine (canHold_ev h (S := fun j => decide (j < s.Cards.length) && !inD D j) fun j hj => ?_).ret.imp (CanS.congr fun j hj => ?_)
    ·rw [Bool.and_eq_true] at hj; exact of_decide_eq_true hj.1
    ·rw [decide_eq_true hj]; rfl
   ·have hlt : i < D.length := by omega
    have hg := List.getElem?_eq_getElem hlt
    have hm := List.getElem_mem hlt
    generalize D[i] = v at hg hm
    obtain ⟨k, rfl, hk⟩ := inc_mem hD hm
    rw [if_pos (by omega), idx_at hg, obs, gd_pos (by omega), gd_pos (fI (by omega)), show (i : Int) + 1 = ((i + 1 : Nat) : Int) by omega]
    refine ih (i + 1) (upd S (k : Int) false) (by omega) (by omega) fun j hj6 => ?_
    rw [upd_nat, List.take_add_one, hg]
    by_cases h9 : k = j
    ·subst h9; rw [if_pos rfl, decide_eq_true (show ((k : Int) ∈ D.take i ++ (some (k : Int)).toList) by simp)]; simp
    ·rw [if_neg h9, hS j hj6]
     congr 2
     refine decide_eq_decide.2 ?_
     simp only [Option.toList_some, List.mem_append, List.mem_singleton]
     exact ⟨.inl, fun q => q.elim id fun q => absurd (by omega) h9⟩
 unfold pcanLeave
 rw [allCards_eq (by rw [h.ss]; exact h3), obs, h.ss]
 exact go _ 0 (fun j => decide (j < s.Cards.length)) (Nat.zero_le _) (by omega) fun j _ => by simp
theorem shortX {s : Stm} {W : Wk} (hw : WOk s W) {f : Wk → List Int → Option Bool} {P : (Nat → Bool) → Prop} (hf : ∀ D, Inc s.Cards.length 0 D → Ev (f W D) (P (inD D))) (hex : ∃ D, Inc s.Cards.length 0 D ∧ P (inD D)) : ∃ M, pshortestX W ⟨f⟩ = some M ∧ MinP s.Cards.length P M := by
 obtain ⟨_, _, h3⟩ := not_many hw.many
 have ht : ∀ D, Inc s.Cards.length 0 D → (((f W D).getD false) = true ↔ P (inD D)) := fun D hD => by
  obtain ⟨b, q1, q2⟩ := hf D hD
  rw [q1]; exact q2
 obtain ⟨D0, d1, d2⟩ := hex
 obtain ⟨s1, s2, s3⟩ := shortL_spec (n := s.Cards.length) (t := fun L => (f W L).getD false) ⟨D0, d1, (ht _ d1).2 d2⟩
 refine ⟨shortL s.Cards.length fun L => (f W L).getD false, ?_, s1, (ht _ s1).1 s2, fun D hD hD2 => s3 D hD ((ht D hD).2 hD2)⟩
 unfold pshortestX pshortest pshortest1
 have e : ∀ a, ((f W a).bind fun r => some r) = f W a := fun a => by cases f W a <;> rfl
 simp only [e, hw.ss]
 rw [gd_pos ⟨by omega, by omega, fun L hL => by
  have hI : Inc s.Cards.length 0 L := by rw [Int.toNat_natCast] at hL; exact mem_allL.1 hL
  obtain ⟨b, q1, _⟩ := hf L hI
  rw [q1]; rfl⟩, obs, Int.toNat_natCast]
theorem Leave_eq {s : Stm} (h : VS s) : ∃ M, pLeave s = some (M, 0) ∧ MinP s.Cards.length (fun S => CanS s fun j => !S j) M := by
 obtain ⟨W, h1, hw⟩ := open_eq h
 obtain ⟨M, a1, a2⟩ := shortX hw (f := fun a b => pcanLeave a b) (P := fun S => CanS s fun j => !S j) (fun D hD => canLeave_ev hw hD) ⟨allI s.Cards.length, all_inc _, by
  obtain ⟨t, ht⟩ := isT_ex h.toVS0
  exact ⟨t, ht, fun j hj c hc => by replace hj : (!inD (allI s.Cards.length) j) = true := hj; rw [all_in (List.getElem?_eq_some_iff.1 hc).1] at hj; cases hj⟩⟩
 refine ⟨M, ?_, a2⟩
 unfold pLeave
 rw [check_eq, fault_zero.2 h, obs, if_pos rfl, h1, obs, a1, obs]
end
end Go.Proofs.Ytbnfnhfanooplaa

namespace Go.Proofs.Ytbnfnhfanooplaa
open _root_.Go.Proofs.Try
open Go.Abs Go.Abs.Grow
set_option maxRecDepth 100000
noncomputable section
theorem aw : (pawake.bind fun r => some r) = some true := rfl
def ThinN (s : Stm) : Prop := s.Cards.length ≤ 9 ∧ (faultN s = 0 → manyN s ≤ 300)
theorem thin_ev {s : Stm} : Ev (plThin s) (ThinN s) := by
 unfold plThin ThinN
 refine (Ev.ite (K := faultN s = 0 → manyN s ≤ 300) fun h1 => ?_).imp (and_congr (by omega) Iff.rfl)
 rw [rFault_eq, obs]
 by_cases hf : faultN s = 0
 ·have h := fault_zero.1 hf
  rw [if_pos hf, rMany_eq h.toVS0 h.many, obs]
  exact Ev.dec ⟨fun h _ => h, fun h => h hf⟩
 ·rw [if_neg hf]; exact Ev.tt fun h => absurd h hf
theorem ready_ev {s : Stm} : Ev (plReady s) (ThinN s ∧ VS s) := by
 unfold plReady
 refine Ev.and thin_ev fun _ => ?_
 rw [rFault_eq, obs]
 exact Ev.dec fault_zero
theorem lStorm_eq {s : Stm} (h : s.Cards.length ≤ 9) : plStorm s = some s := by
 have k1 := loopApp0 (l := s.Cards) (F := fun d acc x => plStorm_L0 s d s.Wide s.High s.Fall s.A.Lo s.A.Hi s.B.Lo s.B.Hi s.Half.Lo s.Half.Hi s.Peak.Lo s.Peak.Hi acc x) (fun c : Crd => c) (fun acc => some ({ s with Cards := acc } : Stm)) (fun d k acc a ha hac => by
  have hk := (List.getElem?_eq_some_iff.1 ha).1
  show plStorm_L0 s (d + 1) _ _ _ _ _ _ _ _ _ _ _ _ _ = _
  rw [plStorm_L0, if_pos (by omega), idx_at ha, obs]
  unfold plTo
  rw [obs, obs, obs, gd_pos (by omega), gd_pos (fI (by omega))]) (fun d acc => by show plStorm_L0 s (d + 1) _ _ _ _ _ _ _ _ _ _ _ _ _ = _; rw [plStorm_L0, if_neg (Int.lt_irrefl _)]) (d := 1000000) (by omega)
 unfold plStorm plTo
 rw [obs, obs, obs, obs]
 refine k1.trans ?_
 rw [List.map_id']
theorem lRect_eq {r : Rct} : plRect r = some r := rfl
theorem box_eq {s : Stm} (h : VS s) {w : Int} (hw : fitsP .u16 w) : ∃ r, plBox s w = some r ∧ rcOk s r := by
 obtain ⟨h1, h2, _⟩ := not_many h.many
 have hwd := h.wide; have hhi := h.high
 have u := fU16 hw
 have w1 : wrapZ .i64 w = w := wz (fI (by omega))
 have m1 := Int.emod_nonneg w (show s.Wide ≠ 0 by omega)
 have m1' := Int.emod_lt_of_pos w (show 0 < s.Wide by omega)
 have m2 := Int.emod_nonneg (w / 16) (show s.High ≠ 0 by omega)
 have m2' := Int.emod_lt_of_pos (w / 16) (show 0 < s.High by omega)
 unfold plBox
 simp only [w1]
 generalize w % s.Wide = x at *
 generalize w / 16 % s.High = y at *
 repeat rw [gd_pos (by first | exact fI (by omega) | omega)]
 exact ⟨_, rfl, by unfold rcOk Wi; dsimp only; omega⟩
end
end Go.Proofs.Ytbnfnhfanooplaa

namespace Go.Proofs.Ytbnfnhfanooplaa
open _root_.Go.Proofs.Try
open Go.Abs Go.Abs.Grow
set_option maxRecDepth 100000
noncomputable section
theorem CanS.bits {s : Stm} {b : Nat} (hn : s.Cards.length ≤ 6) : CanS s (fun j => !inD (bitsL b) j) ↔ CanS s fun j => !b.testBit j := CanS.congr fun j hj => by rw [inD_bits (n := s.Cards.length) (by omega) hj]
end
end Go.Proofs.Ytbnfnhfanooplaa

namespace Go.Proofs.Ytbnfnhfanooplaa
open _root_.Go.Proofs.Try
open Go.Abs Go.Abs.Grow
set_option maxRecDepth 100000
noncomputable section
theorem min_len' {n n' : Nat} {P P' : (Nat → Bool) → Prop} {M M' D : List Int} (h' : MinP n' P' M') (hD : Inc n' 0 D) (hp : P' (inD D)) : M'.length ≤ D.length := by
 rcases h'.min D hD hp with h1 | h1
 ·rw [h1]; exact Nat.le_refl _
 ·rcases shB_iff.1 h1 with h2 | h2 <;> omega
theorem Inc.cut {n : Nat} {D : List Int} (h : Inc (n + 1) 0 D) : ∃ E, Inc n 0 E ∧ E.length ≤ D.length ∧ D.length ≤ E.length + 1 ∧ ∀ j, j < n → inD E j = inD D j := by
 refine ⟨D.filter fun v => decide (v < (n : Int)), ⟨h.1.filter _, fun v hv => ?_⟩, List.length_filter_le _ _, ?_, fun j hj => ?_⟩
 ·obtain ⟨h1, h2⟩ := List.mem_filter.1 hv
  have := h.2 v h1
  have := of_decide_eq_true h2
  omega
 ·have key : ∀ L : List Int, L.Pairwise (· < ·) → (∀ v ∈ L, v < (n : Int) + 1) → L.length ≤ (L.filter fun v => decide (v < (n : Int))).length + 1 := by
   intro L
   induction L with
   | nil => intro _ _; simp
   | cons a L ih =>
    intro hp hb
    rw [List.pairwise_cons] at hp
    have ha := hb a (List.mem_cons_self ..)
    rw [List.filter_cons]
    by_cases hlt : a < (n : Int)
    ·rw [if_pos (decide_eq_true hlt)]
     have := ih hp.2 fun v hv => hb v (List.mem_cons_of_mem _ hv)
     simp only [List.length_cons]; omega
    ·have hL : L = [] := by
      cases L with
      | nil => rfl
      | cons b L =>
       have h1 := hp.1 b (List.mem_cons_self ..)
       have h2 := hb b (by simp)
       omega
     subst hL; simp
  exact key D h.1 fun v hv => by have := (h.2 v hv).2; omega
 ·unfold inD
  refine decide_eq_decide.2 ⟨fun hh => (List.mem_filter.1 hh).1, fun hh => List.mem_filter.2 ⟨hh, decide_eq_true (by omega)⟩⟩
def InRg (a b : Rg) : Prop := b.Lo ≤ a.Lo ∧ a.Hi ≤ b.Hi
theorem inside_ev {a b : Rg} : Ev (plInside a b) (InRg a b) := Ev.ite fun _ => Ev.dec Iff.rfl
theorem narrower_ev {a b : Stm} : Ev (plNarrower a b) (InRg a.A b.A ∧ InRg a.B b.B ∧ InRg a.Half b.Half ∧ InRg a.Peak b.Peak) := Ev.and inside_ev fun _ => Ev.and inside_ev fun _ => Ev.and inside_ev fun _ => inside_ev.ret
open Classical in
theorem verd_less {s x : Stm} {r : Rct} (h : ∀ t, TS x t → TS s t) (hr : ∀ t inn, Rch x t r inn ↔ Rch s t r inn) (hT : HT x) (hne : ∃ a b, inP r a b) : verdN s r = 3 ∨ verdN s r = verdN x r := by
 unfold verdN
 by_cases h1 : ∀ t, TS s t → ¬ Rch s t r false
 ·have h1' : ∀ t, TS x t → ¬ Rch x t r false := fun t ht q => h1 t (h t ht) ((hr _ _).1 q)
  rw [if_pos h1, if_pos h1']; exact .inr rfl
 ·rw [if_neg h1]
  by_cases h2 : ∀ t, TS s t → ¬ Rch s t r true
  ·have h2' : ∀ t, TS x t → ¬ Rch x t r true := fun t ht q => h2 t (h t ht) ((hr _ _).1 q)
   have h1' : ¬ ∀ t, TS x t → ¬ Rch x t r false := fun q => by
    obtain ⟨t, ht⟩ := hT
    obtain ⟨a, b, hab⟩ := hne
    by_cases hh : hitP x t a b
    ·exact h2' t ht ⟨a, b, hab, by simp [hh]⟩
    ·exact q t ht ⟨a, b, hab, by simp [hh]⟩
   rw [if_pos h2, if_neg h1', if_pos h2']; exact .inr rfl
  ·rw [if_neg h2]; exact .inl rfl
end
end Go.Proofs.Ytbnfnhfanooplaa

namespace Go.Proofs.Ytbnfnhfanooplaa
open _root_.Go.Proofs.Try
open Go.Abs Go.Abs.Grow
set_option maxRecDepth 100000
noncomputable section
structure Wds (s x : Stm) : Prop where
 wide : x.Wide = s.Wide
 fall : x.Fall = s.Fall
 tr : ∀ t, isT s t → isT x t
 cl : x.Cards.length = s.Cards.length
 cd : ∀ (j : Nat) c, s.Cards[j]? = some c → ∃ c', x.Cards[j]? = some c' ∧ ∀ t, RT s t c → RT x t c'
theorem dN_w {s x : Stm} (h : x.Wide = s.Wide) {t : Trh} {a b : Int} : dN x t a b = dN s t a b := by unfold dN; rw [h]
theorem hit_w {s x : Stm} (h : x.Wide = s.Wide) {t : Trh} {a b : Int} : hitP x t a b ↔ hitP s t a b := by unfold hitP; rw [dN_w h, h]
theorem sz_w {s x : Stm} (h : x.Wide = s.Wide) (hf : x.Fall = s.Fall) {t : Trh} {a b : Int} : szN x t a b = szN s t a b := by
 unfold szN
 by_cases hh : hitP s t a b
 ·rw [if_pos hh, if_pos ((hit_w h).2 hh), dN_w h, h, hf]
 ·rw [if_neg hh, if_neg fun q => hh ((hit_w h).1 q)]
theorem rch_w {s x : Stm} (h : x.Wide = s.Wide) {t : Trh} {r : Rct} {inn : Bool} : Rch x t r inn ↔ Rch s t r inn := by
 unfold Rch
 refine exists_congr fun a => exists_congr fun b => and_congr Iff.rfl ?_
 rw [hit_w h]
theorem Wds.can {s x : Stm} (h : Wds s x) {S : Nat → Bool} (hc : CanS s S) : CanS x S := by
 obtain ⟨t, h1, h2⟩ := hc
 refine ⟨t, h.tr t h1, fun j hj c hcj => ?_⟩
 have hlt : j < s.Cards.length := by rw [← h.cl]; exact (List.getElem?_eq_some_iff.1 hcj).1
 obtain ⟨c', q1, q2⟩ := h.cd j _ (List.getElem?_eq_getElem hlt)
 rw [hcj] at q1; cases q1
 exact q2 t (h2 j hj _ (List.getElem?_eq_getElem hlt))
theorem Wds.ts {s x : Stm} (h : Wds s x) {t : Trh} (ht : TS s t) : TS x t := by
 refine ⟨h.tr t ht.1, fun c hc => ?_⟩
 obtain ⟨j, hcj⟩ := List.mem_iff_getElem?.1 hc
 have hlt : j < s.Cards.length := by rw [← h.cl]; exact (List.getElem?_eq_some_iff.1 hcj).1
 obtain ⟨c', q1, q2⟩ := h.cd j _ (List.getElem?_eq_getElem hlt)
 rw [hcj] at q1; cases q1
 exact q2 t (ht.2 _ (List.getElem_mem hlt))
theorem wds_tail {s x : Stm} {whr : Int} (hwh : fitsP .u16 whr) (ht : ThinN s) (h : VS s) (hw : Wds s x) (hh : x.High = s.High) :
  ((plReady x).bind fun r0 => (if r0 = true then ((plBox s whr).bind fun r1 => ((plStorm s).bind fun r2 => ((pLeave r2).bind fun r3 => ((plStorm x).bind fun r4 => ((pLeave r4).bind fun r5 => ((plStorm s).bind fun r6 => ((pBounds r6).bind fun r7 => ((plStorm x).bind fun r8 => ((pBounds r8).bind fun r9 => (if r3.2 = (0 : Int) then (if r5.2 = (0 : Int) then (if (r3.1.length : Int) < (r5.1.length : Int) then (some false) else (if r7.2 = (0 : Int) then ((plStorm s).bind fun r10 => ((plRect r1).bind fun r11 => ((pVerdict r10 r11).bind fun r12 => ((plStorm x).bind fun r13 => ((plRect r1).bind fun r14 => ((pVerdict r13 r14).bind fun r15 => (if r9.2 = (0 : Int) then ((plNarrower r7.1 r9.1).bind fun r16 => (if r16 = true then (if r12.2 = (0 : Int) then (if r15.2 = (0 : Int) then (if r15.1 = (3 : Int) then ((pawake).bind fun r17 => (some r17)) else (if r15.1 = r12.1 then ((pawake).bind fun r18 => (some r18)) else (some false))) else (some false)) else (some false)) else (some false))) else (some false)))))))) else (if r7.2 = (11 : Int) then ((pawake).bind fun r19 => (some r19)) else (some false)))) else (some false)) else (some false))))))))))) else ((pawake).bind fun r20 => (some r20)))) = some true := by
 refine ready_ev.pick (fun ⟨ht', h'⟩ => ?_) fun _ => by rw [if_neg (by simp), aw]
 obtain ⟨c1, c2, c3⟩ := not_many h.many
 obtain ⟨r, r1, r2⟩ := box_eq h hwh
 obtain ⟨M, q1, q2⟩ := Leave_eq h
 obtain ⟨M', q3, q4⟩ := Leave_eq h'
 rw [hw.cl] at q4
 have hM := min_len' (M' := M') (n := 0) (P := fun _ => True) (M := []) q4 q2.inc (hw.can q2.ok)
 have d1 : ¬ (M.length : Int) < (M'.length : Int) := by omega
 have r2' : rcOk x r := by unfold rcOk at r2 ⊢; rw [hw.wide, hh]; exact r2
 have hne : ∃ a b, inP r a b := by
  obtain ⟨a, b⟩ := r2
  unfold Wi at a b
  exact ⟨r.X.Lo, r.Y.Lo, by unfold inP inR; omega⟩
 rw [if_pos rfl, r1, obs, lStorm_eq ht.1, lStorm_eq ht'.1]
 simp only [obs, lRect_eq, q1, q3, if_true, if_neg d1]
 by_cases hT : HT s
 ·have hT' : HT x := by obtain ⟨t, q⟩ := hT; exact ⟨t, hw.ts q⟩
  obtain ⟨a, a1, a2⟩ := Bounds_ok h hT
  obtain ⟨b, b1, b2⟩ := Bounds_ok h' hT'
  have e : ∀ f : Trh → Int, ∀ y, Of s f y → Of x f y := fun _ _ ⟨t, p1, p2⟩ => ⟨t, hw.ts p1, p2⟩
  have hn := (narrower_ev (a := a) (b := b)).some_of ⟨a2.a.le b2.a (e _), a2.b.le b2.b (e _), a2.half.le b2.half (e _), a2.peak.le b2.peak (e _)⟩
  have v1 := Verdict_ok h hT r2
  have v2 := Verdict_ok h' hT' r2'
  have hv := verd_less (s := x) (x := s) (r := r) (fun _ q => hw.ts q) (fun _ _ => (rch_w hw.wide).symm) hT hne
  simp only [a1, b1, v1, v2, hn, obs, if_true]
  by_cases hv3 : verdN x r = 3
  ·rw [if_pos hv3]; exact aw
  ·rw [if_neg hv3, if_pos (hv.resolve_left hv3)]; exact aw
 ·rw [Bounds_no h hT]
  obtain ⟨o, ho⟩ : ∃ o, pBounds x = some o := by
   by_cases hT' : HT x
   ·obtain ⟨l', b1, _⟩ := Bounds_ok h' hT'; exact ⟨_, b1⟩
   ·exact ⟨_, Bounds_no h' hT'⟩
  simp only [ho, obs]
  rw [if_neg (by decide), if_pos trivial, aw]
theorem Wds.refl (s : Stm) : Wds s s := ⟨rfl, rfl, fun _ h => h, rfl, fun _ c hc => ⟨c, hc, fun _ h => h⟩⟩
theorem Wds.rng {s x : Stm} (hx : x.Wide = s.Wide ∧ x.Fall = s.Fall ∧ x.Cards = s.Cards) (ht : ∀ t, isT s t → isT x t) : Wds s x := by
 obtain ⟨a, b, c⟩ := hx
 refine ⟨a, b, ht, by rw [c], fun j d hd => ⟨d, by rw [c]; exact hd, fun t ⟨u, v, p1, p2, p3⟩ => ⟨u, v, p1, (hit_w a).trans p2, ?_⟩⟩⟩
 rw [sz_w a b]; exact p3
theorem m_StormWider {s : Stm} {which inc whr : Int} (_hs : ok_Stm s) (hwc : fitsP .u8 which) (hin : fitsP .u8 inc) (hwh : fitsP .u16 whr) : pStormWider s which inc whr = some true := by
 unfold pStormWider
 simp only [List.nil_append, List.length_nil, Nat.zero_add]
 refine ready_ev.pick (fun ⟨ht, h⟩ => ?_) fun _ => by rw [if_neg (by simp), aw]
 obtain ⟨c1, c2, c3⟩ := not_many h.many
 have ha := h.a; have hb := h.b; have hhf := h.half; have hpk := h.peak; have hww := h.wide; have hhh := h.high
 unfold Wi at ha hb hhf hpk
 have u1 := fU8 hwc; have u2 := fU8 hin
 have w1 : wrapZ .i64 which = which := wz (fI (by omega))
 have w2 : wrapZ .i64 inc = inc := wz (fI (by omega))
 simp only [w1, w2]
 have hlo : 0 ≤ inc % 2 ∧ inc % 2 ≤ 1 := by omega
 have hhi : 0 ≤ inc / 2 % 2 ∧ inc / 2 % 2 ≤ 1 := by omega
 obtain ⟨lo, hloe⟩ : ∃ lo, inc % 2 = lo := ⟨_, rfl⟩
 obtain ⟨hi, hhie⟩ : ∃ hi, inc / 2 % 2 = hi := ⟨_, rfl⟩
 rw [hloe] at hlo
 rw [hhie] at hhi
 simp only [hloe, hhie]
 rw [if_pos trivial, gd_pos (by omega), gd_pos (by omega), gd_pos (by omega), gd_pos (fI (by omega)), gd_pos (by omega), gd_pos (by omega), gd_pos (fI (by omega)), gd_pos (by omega), gd_pos (by omega), gd_pos (fI (by omega)), gd_pos (by omega), gd_pos (by omega), gd_pos (show fitsP .u8 (which % 4) from (show 0 ≤ which % 4 ∧ which % 4 < 256 by omega))]
 by_cases k0 : which % 4 = 0
 ·rw [if_pos k0, gd_pos (fI (by omega)), gd_pos (fI (by omega)), gd_pos (fI (by omega))]
  exact wds_tail hwh ht h (Wds.rng ⟨rfl, rfl, rfl⟩ fun t q => ⟨by have := q.1; unfold inR at this ⊢; dsimp only; omega, q.2⟩) rfl
 rw [if_neg k0]
 by_cases k1 : which % 4 = 1
 ·rw [if_pos k1, gd_pos (fI (by omega)), gd_pos (fI (by omega))]
  exact wds_tail hwh ht h (Wds.rng ⟨rfl, rfl, rfl⟩ fun t q => ⟨q.1, q.2.1, by have := q.2.2.1; unfold inR at this ⊢; dsimp only; omega, q.2.2.2⟩) rfl
 rw [if_neg k1]
 by_cases k2 : which % 4 = 2
 ·rw [if_pos k2, gd_pos (fI (by omega)), gd_pos (fI (by omega))]
  exact wds_tail hwh ht h (Wds.rng ⟨rfl, rfl, rfl⟩ fun t q => ⟨q.1, q.2.1, q.2.2.1, by have := q.2.2.2; unfold inR at this ⊢; dsimp only; omega⟩) rfl
 rw [if_neg k2]
 by_cases hn : (0 : Int) < s.Cards.length
 ·have n1 := Int.emod_nonneg (which / 4) (show (s.Cards.length : Int) ≠ 0 by omega)
  have n1' := Int.emod_lt_of_pos (which / 4) hn
  obtain ⟨j, hj⟩ : ∃ j, which / 4 % (s.Cards.length : Int) = j := ⟨_, rfl⟩
  simp only [hj]
  rw [hj] at n1 n1'
  have hcv := h.cards _ (List.getElem_mem (show j.toNat < s.Cards.length by omega))
  have hci : s.Cards[j.toNat]? = some s.Cards[j.toNat] := List.getElem?_eq_getElem (by omega)
  generalize s.Cards[j.toNat] = c at hci hcv
  have hix : idx s.Cards j = some c := by rw [show j = ((j.toNat : Nat) : Int) by omega]; exact idx_at hci
  obtain ⟨⟨x1, x2⟩, _, _⟩ := hcv
  unfold Wi at x1 x2
  dsimp only at x1 x2
  rw [if_pos hn, gd_pos (by omega), gd_pos (by omega), gd_pos (fI (by omega)), gd_pos (by omega), gd_pos (by omega), gd_pos (fI (by omega)), hix, obs, gd_pos (fI (by omega)), gd_pos (fI (by omega)), gd_pos (fI (by omega)), gd_pos (fI (by omega)), gd_pos (fI (by omega)), gd_pos (fI (by omega))]
  simp only [List.set_set]
  refine wds_tail (x := { s with Cards := s.Cards.set j.toNat _ }) hwh ht h ⟨rfl, rfl, fun _ q => q, List.length_set, fun i d hd => ?_⟩ rfl
  dsimp only
  have hlt := (List.getElem?_eq_some_iff.1 hd).1
  by_cases hij : j.toNat = i
  ·subst hij
   rw [hci] at hd; cases hd
   refine ⟨_, List.getElem?_set_self hlt, fun t ⟨u, v, ⟨p1, p1'⟩, p2, p3⟩ => ⟨u, v, ?_, p2, p3⟩⟩
   unfold inR at p1 p1'
   unfold inP inR
   dsimp only at p1 p1' ⊢
   omega
  ·rw [List.getElem?_set_ne hij]
   exact ⟨d, hd, fun _ q => q⟩
 ·rw [if_neg hn]
  exact wds_tail hwh ht h (Wds.refl s) rfl
end
end Go.Proofs.Ytbnfnhfanooplaa

namespace Go.Proofs.Ytbnfnhfanooplaa
open _root_.Go.Proofs.Try
open Go.ChangeShapes Go.WideShapes Go.ChangeAt Go.RowKit Go.Abs
set_option maxRecDepth 100000
theorem op3 : Opens prog 3 Int (fitsP .i64) := opens_int (by kernel_rfl)
theorem op23 : Opens prog 23 Rg ok_Rg := opens_struct (fs := [(3, 0), (3, 1)]) (by kernel_rfl) (by kernel_rfl) (opensFs_cons (α := Int) (ok := fitsP .i64) (k := 1) op3 (by kernel_rfl) rfl (opensFs_cons (α := Int) (ok := fitsP .i64) (k := 1) op3 (by kernel_rfl) rfl opensFs_nil)) (by kernel_rfl) fun m vs h => by
 obtain ⟨a0, c0, r0, m0, h0, p0, k0, s0, ⟨a1, c1, r1, m1, h1, p1, k1, s1, rfl⟩⟩ := h
 have p0 : c0 = [.int .i64 a0] := p0; subst p0
 have p1 : c1 = [.int .i64 a1] := p1; subst p1
 subst h1 h0
 exact ⟨⟨a0, a1⟩, rfl, ⟨k0, k1⟩⟩
theorem op4 : Opens prog 4 Bool (fun _ => True) := opens_bool (by kernel_rfl)
theorem op97 : Opens prog 97 Crd ok_Crd := opens_struct (fs := [(23, 0), (23, 2), (4, 4), (23, 5)]) (by kernel_rfl) (by kernel_rfl) (opensFs_cons (α := Rg) (ok := ok_Rg) (k := 2) op23 (by kernel_rfl) rfl (opensFs_cons (α := Rg) (ok := ok_Rg) (k := 2) op23 (by kernel_rfl) rfl (opensFs_cons (α := Bool) (ok := (fun _ => True)) (k := 1) op4 (by kernel_rfl) rfl (opensFs_cons (α := Rg) (ok := ok_Rg) (k := 2) op23 (by kernel_rfl) rfl opensFs_nil)))) (by kernel_rfl) fun m vs h => by
 obtain ⟨a0, c0, r0, m0, h0, p0, k0, s0, ⟨a1, c1, r1, m1, h1, p1, k1, s1, ⟨a2, c2, r2, m2, h2, p2, k2, s2, ⟨a3, c3, r3, m3, h3, p3, k3, s3, rfl⟩⟩⟩⟩ := h
 have p0 : c0 = [.int .i64 a0.Lo, .int .i64 a0.Hi] := p0; subst p0
 have p1 : c1 = [.int .i64 a1.Lo, .int .i64 a1.Hi] := p1; subst p1
 have p2 : c2 = [.bool a2] := p2; subst p2
 have p3 : c3 = [.int .i64 a3.Lo, .int .i64 a3.Hi] := p3; subst p3
 subst h3 h2 h1 h0
 exact ⟨⟨a0, a1, a2, a3⟩, rfl, ⟨k0, k1, k2, k3⟩⟩
theorem op24 : Opens prog 24 (List Crd) (fun l => l.length ≤ maxLen ∧ ∀ a0 ∈ l, ok_Crd a0) := opens_slice (by kernel_rfl) (by kernel_rfl) op97
theorem op26 : Opens prog 26 Stm ok_Stm := opens_struct (fs := [(3, 0), (3, 1), (3, 2), (23, 3), (23, 5), (23, 7), (23, 9), (24, 11)]) (by kernel_rfl) (by kernel_rfl) (opensFs_cons (α := Int) (ok := fitsP .i64) (k := 1) op3 (by kernel_rfl) rfl (opensFs_cons (α := Int) (ok := fitsP .i64) (k := 1) op3 (by kernel_rfl) rfl (opensFs_cons (α := Int) (ok := fitsP .i64) (k := 1) op3 (by kernel_rfl) rfl (opensFs_cons (α := Rg) (ok := ok_Rg) (k := 2) op23 (by kernel_rfl) rfl (opensFs_cons (α := Rg) (ok := ok_Rg) (k := 2) op23 (by kernel_rfl) rfl (opensFs_cons (α := Rg) (ok := ok_Rg) (k := 2) op23 (by kernel_rfl) rfl (opensFs_cons (α := Rg) (ok := ok_Rg) (k := 2) op23 (by kernel_rfl) rfl (opensFs_cons (α := List Crd) (ok := (fun l => l.length ≤ maxLen ∧ ∀ a0 ∈ l, ok_Crd a0)) (k := 1) op24 (by kernel_rfl) rfl opensFs_nil)))))))) (by kernel_rfl) fun m vs h => by
 obtain ⟨a0, c0, r0, m0, h0, p0, k0, s0, ⟨a1, c1, r1, m1, h1, p1, k1, s1, ⟨a2, c2, r2, m2, h2, p2, k2, s2, ⟨a3, c3, r3, m3, h3, p3, k3, s3, ⟨a4, c4, r4, m4, h4, p4, k4, s4, ⟨a5, c5, r5, m5, h5, p5, k5, s5, ⟨a6, c6, r6, m6, h6, p6, k6, s6, ⟨a7, c7, r7, m7, h7, p7, k7, s7, rfl⟩⟩⟩⟩⟩⟩⟩⟩ := h
 have p0 : c0 = [.int .i64 a0] := p0; subst p0
 have p1 : c1 = [.int .i64 a1] := p1; subst p1
 have p2 : c2 = [.int .i64 a2] := p2; subst p2
 have p3 : c3 = [.int .i64 a3.Lo, .int .i64 a3.Hi] := p3; subst p3
 have p4 : c4 = [.int .i64 a4.Lo, .int .i64 a4.Hi] := p4; subst p4
 have p5 : c5 = [.int .i64 a5.Lo, .int .i64 a5.Hi] := p5; subst p5
 have p6 : c6 = [.int .i64 a6.Lo, .int .i64 a6.Hi] := p6; subst p6
 obtain ⟨d7, rfl, p7⟩ := p7
 subst h7 h6 h5 h4 h3 h2 h1 h0
 exact ⟨⟨a0, a1, a2, a3, a4, a5, a6, a7⟩, ⟨_, rfl, p7⟩, ⟨k0, k1, k2, k3, k4, k5, k6, k7⟩⟩
theorem laid : laidOutB prog = true := by kernel_rfl
theorem ownNone : ownKnob prog.godebug = none := by kernel_rfl
theorem StormWider_lifted (os : Os) (started : os.Started) (H : Type) (enc : TypeId × Value → H) :
    ReturnsInHanded {} Try.checked os 9 .any (Rows.stormWiderSpec.pre6 enc Try.prog Try.f9 Rows.stormWiderRow.domain false) (Rows.stormWiderSpec.post enc Try.prog Try.f9 false true false false) := by
  refine returnsInHanded_of_change (C := Try.checked) ownNone started (by kernel_rfl) Try.func9
    (ChangeSpec.witness6 (enc := enc) (C := Try.checked) false ⟨#[], #[.agg #[.int .i64 0, .int .i64 0, .int .i64 0, .int .i64 0, .int .i64 0, .int .i64 0, .int .i64 0, .int .i64 0, .int .i64 0, .int .i64 0, .int .i64 0, .slice none 0 0], .int .u8 0, .int .u8 0, .int .u16 0], []⟩ 8 (by kernel_rfl) (by kernel_rfl) (by kernel_rfl) (by kernel_rfl)) ?_
  intro W base args ds gs before hval0 hW hcnd _
  have hval : ∀ (j : Nat) t v, Try.f9.params[j]? = some t → args[j]? = some v → Value.okWide Try.prog W .any base t v := hval0
  have hW' := hW
  obtain ⟨p, q, hA0, hV, rfl, hfz, hnd⟩ := hW
  have hA : DataW.TrodAll enc Try.prog W 0 (fun _ => true) true Try.f9.params.toList args.toList ds p := hA0
  rw [Try.params9] at hA hval
  obtain ⟨v0, v1, v2, v3, d0, d1, d2, d3, p0, p1, p2, p3, rfl, rfl, rfl, h0, h1, h2, h3⟩ := trodAll_four hA
  obtain ⟨rfl, rfl⟩ := trodVars_none hV
  obtain ⟨n1, hv1⟩ := okWide_int Try.underlying5 (hval 1 5 v1 rfl rfl)
  obtain ⟨n2, hv2⟩ := okWide_int Try.underlying5 (hval 2 5 v2 rfl rfl)
  obtain ⟨n3, hv3⟩ := okWide_int Try.underlying87 (hval 3 87 v3 rfl rfl)
  have hlt : ∀ x ∈ p0 ++ p1 ++ p2 ++ p3, x.block < W.heap.size := fun x hx => by simpa using hW'.lt x (by simpa using hx)
  obtain ⟨fu0, hf0⟩ := id h0
  obtain ⟨fu1, hf1⟩ := id h1
  obtain ⟨fu2, hf2⟩ := id h2
  obtain ⟨fu3, hf3⟩ := id h3
  clear hA0 hval0
  obtain ⟨e0, m0, w0, a_0, le0, sv0, lay0, cr0, rep0, ok0⟩ := op26 H enc W true _ _ _ hf0 _ _ (Lay.nil W)
  obtain ⟨i1, hc1, _, hw1⟩ := DataW.trod_int Try.underlying5 hf1
  obtain ⟨i2, hc2, _, hw2⟩ := DataW.trod_int Try.underlying5 hf2
  obtain ⟨i3, hc3, _, hw3⟩ := DataW.trod_int Try.underlying87 hf3
  obtain ⟨c0_11, rfl, g0_11⟩ := rep0
  obtain ⟨cs0, hv0, cl0⟩ : ∃ cs, v0 = .agg cs ∧ v0.cells.toList = cs.toList := by
    have hl := cr0.length
    cases v0 with
    | agg cs => exact ⟨cs, rfl, rfl⟩
    | _ => exact absurd hl (by simp [Value.cells])
  subst hv0
  subst hv1
  have hi1 : i1 = n1 := by
    have h : [Value.int .u8 n1] = [.int .u8 i1] := hc1
    cases h; rfl
  subst hi1
  subst hv2
  have hi2 : i2 = n2 := by
    have h : [Value.int .u8 n2] = [.int .u8 i2] := hc2
    cases h; rfl
  subst hi2
  subst hv3
  have hi3 : i3 = n3 := by
    have h : [Value.int .u16 n3] = [.int .u16 i3] := hc3
    cases h; rfl
  subst hi3
  have hargs : All2 (VR e0) [.agg 12 [.int .i64 a_0.Wide, .int .i64 a_0.High, .int .i64 a_0.Fall, .int .i64 a_0.A.Lo, .int .i64 a_0.A.Hi, .int .i64 a_0.B.Lo, .int .i64 a_0.B.Hi, .int .i64 a_0.Half.Lo, .int .i64 a_0.Half.Hi, .int .i64 a_0.Peak.Lo, .int .i64 a_0.Peak.Hi, c0_11], .c (.int .u8 i1), .c (.int .u8 i2), .c (.int .u16 i3)] [.agg cs0, .int .u8 i1, .int .u8 i2, .int .u16 i3] := .cons ⟨cs0, rfl, cr0, rfl⟩ (.cons rfl (.cons rfl (.cons rfl .nil)))
  refine (callsIn_wide.1 (call_of fits htab (s_StormWider (s := a_0) (which := i1) (inc := i2) (whr := i3) lay0.pre g0_11 (m_StormWider ok0 (wf_fits hw1) (wf_fits hw2) (wf_fits hw3)) (Q := fun v _ => v = .c (.bool true)) fun _ _ => rfl) lay0.hr (args' := #[.agg cs0, .int .u8 i1, .int .u8 i2, .int .u16 i3]) hargs 0)).mono fun en W' hp => ?_
  obtain ⟨v, v', e', m', rfl, hst, hvr, rfl⟩ := hp
  have hv' : v' = .bool true := hvr
  subst hv'
  have hbelow := lay0.below hst
  refine ⟨_, rfl, [d0, d1, d2, d3], [], p0 ++ p1 ++ p2 ++ p3, [], p0 ++ (p1 ++ (p2 ++ p3)), [], by simpa using hW', trodAll_mk1 (shut_bool Try.underlying4 _),
    trodAll_mk4 (Below.trod laid (by kernel_rfl) (of_decide_eq_true (by kernel_rfl)) h0 hbelow fun x hx => hlt x (by simp [hx])) (Below.trod laid (by kernel_rfl) (of_decide_eq_true (by kernel_rfl)) h1 hbelow fun x hx => hlt x (by simp [hx])) (Below.trod laid (by kernel_rfl) (of_decide_eq_true (by kernel_rfl)) h2 hbelow fun x hx => hlt x (by simp [hx])) (Below.trod laid (by kernel_rfl) (of_decide_eq_true (by kernel_rfl)) h3 hbelow fun x hx => hlt x (by simp [hx])), rfl, lay0.kept hst _, fun hc => by cases hc⟩
theorem StormWider_holds : Rows.StormWiderSaid :=
 OpenClaim.holds_of_wide 9 Try.f9 rfl rfl rfl rfl rfl rfl rfl ⟨rfl, rfl, rfl, rfl, rfl⟩ rfl rfl rfl rfl rfl (by kernel_rfl) Try.func9 (by kernel_rfl)
  (of_decide_eq_true (by kernel_rfl)) (by unfold Func.isWrapper; first | (rw [if_pos (by decide +kernel)]; kernel_rfl) | (rw [if_neg (by decide +kernel)]; exact ⟨rfl, rfl⟩))
  (fun os started H enc _ => StormWider_lifted os started H enc)
end Go.Proofs.Ytbnfnhfanooplaa

