/- StormBest, for all that it can be called with, returns true. Condition: none. -/
import Derived.Test.YtbnfnhfanooplaaSuH
import GoSem.Step
import GoSem.ClaimKeys
import Derived.DeepKeys2
import Derived.RangeFuncLeaves
import Derived.OrdersIn
import Derived.Laws.World
import Derived.Laws.Sem
import Derived.RangeFuncRecord
import Derived.Laws.CopyRow
import Derived.Laws.Append
import Derived.Laws.Rows
import Derived.Laws.Slices
import Derived.Laws.Entries
import Derived.ChangeKeysEq
import Derived.IntWalk
import Derived.DeepKeys
import Derived.DeepKeys3
import Derived.Laws.StructEq
import Derived.MapKept
import Derived.Laws.AppendOwn
import Derived.ChangeArms
import Derived.ChangeOld
import Derived.Carry
import Derived.ChangeShapes
import Derived.KernelRfl
import Derived.ProofKit
import Derived.Test.YtbnfnhfanooplaaRows

namespace Go.Proofs.Ytbnfnhfanooplaa
open _root_.Go.Proofs.Try
open Go.Abs Go.Abs.Grow
set_option maxRecDepth 100000
noncomputable section
theorem In_ev {n lo hi : Int} : Ev (prIn n lo hi) (lo ≤ n ∧ n ≤ hi) := Ev.ite fun _ => Ev.dec Iff.rfl
theorem has_ev {r : Rg} {n : Int} : Ev (phas r n) (inR r n) := Ev.ite fun _ => Ev.dec Iff.rfl
theorem rWithin_ev {r : Rg} {lo hi : Int} : Ev (prWithin r lo hi) (Wi r lo hi) := Ev.ite fun _ => Ev.ite fun _ => Ev.dec Iff.rfl
theorem within_ev {r : Rg} {lo hi : Int} : Ev (pwithin r lo hi) (Wi r lo hi) := Ev.ite fun _ => Ev.ite fun _ => Ev.dec Iff.rfl
def Fit1 (s : Stm) : Prop := (-1000 ≤ s.Wide ∧ s.Wide ≤ 1000) ∧ (-1000 ≤ s.High ∧ s.High ≤ 1000)
theorem VS0.fit {s : Stm} (h : VS0 s) (hm : ¬ ManyS s) : Fit1 s := by
 obtain ⟨a, b, _⟩ := not_many hm
 have := h.wide; have := h.high
 unfold Fit1; omega
theorem hasRect_ev {s : Stm} (h : Fit1 s) {r : Rct} : Ev (phasRect s r) (rcOk s r) := by
 unfold Fit1 at h
 exact Ev.gd (fI (by omega)) (Ev.and within_ev fun _ => Ev.gd (fI (by omega)) within_ev.ret)
theorem rIsRect_ev {s : Stm} (h : Fit1 s) {r : Rct} : Ev (prIsRect s r) (rcOk s r) := by
 unfold Fit1 at h
 exact Ev.gd (fI (by omega)) (Ev.and rWithin_ev fun _ => Ev.gd (fI (by omega)) rWithin_ev.ret)
theorem hail_ev {c : Crd} (h : Wi c.Size 0 9) : Ev (if c.Hail = true then (some true) else (gd (fitsP .i64 c.Size.Lo) (gd (fitsP .i64 (0 : Int)) (gd (fitsP .i64 c.Size.Hi) (gd (fitsP .i64 (0 : Int)) (some ((decide (c.Size.Lo = (0 : Int))) && (decide (c.Size.Hi = (0 : Int)))))))))) (c.Hail = true ∨ c.Size = ⟨0, 0⟩) := by
 unfold Wi at h
 by_cases hh : c.Hail = true
 ·rw [if_pos hh]; exact Ev.tt (.inl hh)
 ·rw [if_neg hh, gd_pos (fI (by omega)), gd_pos (fI (by omega)), gd_pos (fI (by omega)), gd_pos (fI (by omega))]
  refine Ev.mk' ?_
  obtain ⟨X, Y, hl, ⟨lo, hi⟩⟩ := c
  simp only [Bool.and_eq_true, decide_eq_true_eq, Rg.mk.injEq] at hh ⊢
  exact ⟨.inr, fun q => q.elim (fun q => absurd q hh) id⟩
theorem validCard_ev {w : Wk} (h : Fit1 w.s) {c : Crd} : Ev (pvalidCard w c) (CV w.s c) := Ev.bind rfl (Ev.and (hasRect_ev h) fun _ => Ev.and within_ev fun q => hail_ev q)
theorem rIsCard_ev {s : Stm} (h : Fit1 s) {c : Crd} : Ev (prIsCard s c) (CV s c) := Ev.and (rIsRect_ev h) fun _ => Ev.and rWithin_ev fun q => hail_ev q
theorem tooMany_ev {s : Stm} : Ev (ptooMany s) (ManyS s) := by
 unfold ptooMany ManyS
 by_cases h1 : (12 : Int) < s.Wide
 ·rw [if_pos h1]; exact Ev.tt (.inl h1)
 rw [if_neg h1]
 by_cases h2 : (12 : Int) < s.High
 ·rw [if_pos h2]; exact Ev.tt (.inr (.inl h2))
 rw [if_neg h2]; exact Ev.dec (by omega)
theorem gC {l : List Crd} {p : Crd → Option Bool} : ∀ {d : Nat} {x : Int}, pindexC_L0 l p d x = gIdx l p d x
 | 0, _ => rfl
 | d + 1, x => by unfold pindexC_L0 gIdx; simp only [gC (d := d)]
theorem gR {l : List Rct} {p : Rct → Option Bool} : ∀ {d : Nat} {x : Int}, pindexR_L0 l p d x = gIdx l p d x
 | 0, _ => rfl
 | d + 1, x => by unfold pindexR_L0 gIdx; simp only [gR (d := d)]
theorem eachC_ev {l : List Crd} {p : Crd → Option Bool} {q : Crd → Prop} (hp : ∀ a ∈ l, Ev (p a) (q a)) (hl : shrt l) : Ev (peachC l p) (∀ a ∈ l, q a) := Ev.each hp hl.lt gC
theorem eachR_ev {l : List Rct} {p : Rct → Option Bool} {q : Rct → Prop} (hp : ∀ a ∈ l, Ev (p a) (q a)) (hl : shrt l) : Ev (peachR l p) (∀ a ∈ l, q a) := Ev.each hp hl.lt gR
theorem count_eq {r : Rg} (h : Wi r (-1000) 1000) : pcount r = some (cnt r) := by
 unfold Wi at h
 unfold pcount
 rw [gd_pos (fI (by omega)), gd_pos (fI (by omega))]; rfl
theorem rCount_eq {r : Rg} (h : Wi r (-1000) 1000) : prCount r = some (cnt r) := by
 unfold Wi at h
 unfold prCount
 rw [gd_pos (fI (by omega)), gd_pos (fI (by omega))]; rfl
theorem VS0.ws {s : Stm} (h : VS0 s) (hm : ¬ ManyS s) : Wi s.A (-1000) 1000 ∧ Wi s.B (-1000) 1000 ∧ Wi s.Half (-1000) 1000 ∧ Wi s.Peak (-1000) 1000 := by
 obtain ⟨_, hh, _⟩ := not_many hm
 exact ⟨h.a.w (by omega) (by omega), h.b.w (by omega) (by omega), h.half.w (by omega) (by omega), h.peak.w (by omega) (by omega)⟩
theorem rMany_eq {s : Stm} (h : VS0 s) (hm : ¬ ManyS s) : prMany s = some (manyN s) := by
 obtain ⟨h1, h2, h3, h4, h5, h6, h7⟩ := many_rng h hm
 obtain ⟨a, b, c, d⟩ := h.ws hm
 unfold prMany
 unfold manyN at h7 ⊢
 rw [rCount_eq a, obs, rCount_eq b, obs, gd_pos (by omega), gd_pos (by omega), gd_pos (fI (by omega)), rCount_eq c, obs, gd_pos (by omega), gd_pos (by omega), gd_pos (fI (by omega)), rCount_eq d, obs, gd_pos (by omega), gd_pos (by omega), gd_pos (fI (by omega))]
theorem inAll_eq {s : Stm} (h : VS0 s) (hm : ¬ ManyS s) : pinAll s = some (manyN s) := by
 obtain ⟨h1, h2, h3, h4, h5, h6, h7⟩ := many_rng h hm
 obtain ⟨a, b, c, d⟩ := h.ws hm
 unfold pinAll
 unfold manyN at h7 ⊢
 rw [count_eq a, obs, count_eq b, obs, gd_pos (by omega), gd_pos (by omega), gd_pos (fI (by omega)), count_eq c, obs, gd_pos (by omega), gd_pos (by omega), gd_pos (fI (by omega)), count_eq d, obs, gd_pos (by omega), gd_pos (by omega), gd_pos (fI (by omega))]
theorem valid_ev {s : Stm} {R : Option (Trh → Option Cds)} (h : ¬ ManyS s) : Ev (pvalid ⟨s, R⟩) (VS0 s) := by
 obtain ⟨h1, h2, h3⟩ := not_many h
 unfold pvalid
 refine (Ev.ite fun q1 => Ev.ite fun q2 => Ev.ite fun q3 => Ev.ite fun q4 => Ev.gd (fI (by dsimp only at q2 ⊢; omega)) (Ev.and within_ev fun q5 => Ev.gd (fI (by dsimp only at q2 ⊢; omega)) (Ev.and within_ev fun q6 => Ev.and within_ev fun q7 => Ev.and within_ev fun q8 => (eachC_ev (q := CV s) (fun c _ => validCard_ev (w := ⟨s, R⟩) (by unfold Fit1; dsimp only; dsimp only at q1 q2; omega)) (fewS h3 (by omega))).ret))).imp ?_
 exact ⟨fun ⟨a, b, c, d, e, g, i, j, k⟩ => ⟨a, b, ⟨c, d⟩, e, g, i, j, k⟩, fun q => ⟨q.wide, q.high, q.fall.1, q.fall.2, q.a, q.b, q.half, q.peak, q.cards⟩⟩
theorem check_eq {s : Stm} : pcheck s = some (faultN s) := by
 unfold pcheck faultN
 refine tooMany_ev.pick (fun h => ?_) fun h => ?_
 ·rw [if_pos rfl, if_pos h]
 ·rw [if_neg (by simp), if_neg h]
  refine (valid_ev h).pick (fun hv => ?_) fun hv => ?_
  ·rw [if_pos rfl, if_pos hv, inAll_eq hv h, obs]
   by_cases hf : manyN s ≤ 2000
   ·rw [if_neg (by omega), if_pos hf]
   ·rw [if_pos (by omega), if_neg hf]
  ·rw [if_neg (by simp), if_neg hv]
theorem fault_L0 {s : Stm} (h : ¬ ManyS s) (hf : Fit1 s) : ((∀ c ∈ s.Cards, CV s c) → prFault_L0 s 1000000 0 = ((prMany s).bind fun r => if (2000 : Int) < r then some 3 else some 0)) ∧ (¬ (∀ c ∈ s.Cards, CV s c) → prFault_L0 s 1000000 0 = some 1) := by
 obtain ⟨h1, h2, h3⟩ := not_many h
 refine loop_each (l := s.Cards) (F := fun d y => prFault_L0 s d y) (fun d k c hg => ?_) (fun d => by rw [prFault_L0, if_neg (Int.lt_irrefl _)]) (by omega)
 have hk := (List.getElem?_eq_some_iff.1 hg).1
 rw [prFault_L0, if_pos (by omega), idx_at hg, obs]
 exact (rIsCard_ev hf).step (by rw [if_pos rfl, gd_pos (fI (by omega))]) (by rw [if_neg (by simp)])
theorem rFault_eq {s : Stm} : prFault s = some (faultN s) := by
 unfold prFault faultN
 by_cases hm : ManyS s
 ·rw [if_pos hm]
  unfold ManyS at hm
  by_cases h1 : (12 : Int) < s.Wide
  ·rw [if_pos h1]
  rw [if_neg h1]
  by_cases h2 : (12 : Int) < s.High
  ·rw [if_pos h2]
  rw [if_neg h2, if_pos (by omega)]
 obtain ⟨h1, h2, h3⟩ := not_many hm
 rw [if_neg hm, if_neg (by omega), if_neg (by omega), if_neg (by omega)]
 by_cases q1 : s.Wide < 2
 ·rw [if_pos q1, if_neg fun hv => by have := hv.wide; omega]
 rw [if_neg q1]
 by_cases q2 : s.High < 1
 ·rw [if_pos q2, if_neg fun hv => by have := hv.high; omega]
 rw [if_neg q2]
 refine In_ev.pick (fun a1 => ?_) fun a1 => by rw [if_neg (by simp), if_neg fun hv => a1 hv.fall]
 rw [if_pos rfl, gd_pos (fI (by omega))]
 refine rWithin_ev.pick (fun a2 => ?_) fun a2 => by rw [if_neg (by simp), if_neg fun hv => a2 hv.a]
 rw [if_pos rfl, gd_pos (fI (by omega))]
 refine rWithin_ev.pick (fun a3 => ?_) fun a3 => by rw [if_neg (by simp), if_neg fun hv => a3 hv.b]
 rw [if_pos rfl]
 refine rWithin_ev.pick (fun a4 => ?_) fun a4 => by rw [if_neg (by simp), if_neg fun hv => a4 hv.half]
 rw [if_pos rfl]
 refine rWithin_ev.pick (fun a5 => ?_) fun a5 => by rw [if_neg (by simp), if_neg fun hv => a5 hv.peak]
 rw [if_pos rfl]
 obtain ⟨k1, k2⟩ := fault_L0 hm (s := s) (by unfold Fit1; omega)
 by_cases r1 : ∀ c ∈ s.Cards, CV s c
 ·have hv : VS0 s := ⟨by omega, by omega, a1, a2, a3, a4, a5, r1⟩
  rw [k1 r1, if_pos hv, rMany_eq hv hm, obs]
  by_cases hf : manyN s ≤ 2000
  ·rw [if_neg (by omega), if_pos hf]
  ·rw [if_pos (by omega), if_neg hf]
 ·rw [k2 r1, if_neg fun hv => r1 hv.cards]
theorem distance_eq {s : Stm} {t : Trh} (h : VS0 s) (hm : ¬ ManyS s) (ht : isT s t) {x y : Int} (hg : gr s x y) : pdistance s t x y = some (dN s t x y) := by
 obtain ⟨a, b, c, d⟩ := sml h hm ht hg
 obtain ⟨r1, r2, r3, r4⟩ := ht.rng h
 obtain ⟨w, hh, _⟩ := not_many hm
 have hw := h.wide
 unfold gr at hg
 unfold pdistance dN
 rw [Int.zero_sub, gd_pos (fI (by omega)), gd_pos (by omega), gd_pos (by omega), gd_pos (fI (by omega)), gd_pos (fI (by omega)), gd_pos (by omega), gd_pos (by omega), gd_pos (fI (by omega)), gd_pos (by omega), gd_pos (by omega), gd_pos (fI (by omega)), gd_pos (fI (by omega)), gd_pos (fI (by omega)), gd_pos (fI (by omega))]
theorem rDistance_eq {s : Stm} {t : Trh} (h : VS0 s) (hm : ¬ ManyS s) (ht : isT s t) {x y : Int} (hg : gr s x y) : prDistance s t x y = some (dN s t x y) := by
 obtain ⟨a, b, c, d⟩ := sml h hm ht hg
 obtain ⟨r1, r2, r3, r4⟩ := ht.rng h
 obtain ⟨w, hh, _⟩ := not_many hm
 have hw := h.wide
 unfold gr at hg
 unfold prDistance dN
 rw [gd_pos (fI (by omega)), gd_pos (by omega), gd_pos (by omega), gd_pos (fI (by omega)), gd_pos (fI (by omega)), gd_pos (by omega), gd_pos (by omega), gd_pos (fI (by omega)), gd_pos (fI (by omega)), gd_pos (by omega), gd_pos (by omega), gd_pos (fI (by omega)), gd_pos (fI (by omega))]
 generalize (s.Wide - 1) * y = p1 at *
 generalize t.A * (s.Wide - 1 - x) = p2 at *
 generalize t.B * x = p3 at *
 by_cases hn : p1 - p2 - p3 < 0
 ·rw [if_pos hn, gd_pos (fI (by omega))]; congr 1; omega
 ·rw [if_neg hn]; congr 1; omega
theorem hits_ev {s : Stm} {t : Trh} (h : VS0 s) (hm : ¬ ManyS s) (ht : isT s t) {x y : Int} (hg : gr s x y) : phits s t x y = some (decide (hitP s t x y)) := by
 obtain ⟨a, b, c, d⟩ := sml h hm ht hg
 obtain ⟨r1, r2, r3, r4⟩ := ht.rng h
 obtain ⟨w, hh, _⟩ := not_many hm
 have hw := h.wide
 unfold phits
 rw [distance_eq h hm ht hg, obs, gd_pos (fI (by omega)), gd_pos (by omega), gd_pos (by omega), gd_pos (fI (by omega))]; rfl
theorem rHit_ev {s : Stm} {t : Trh} (h : VS0 s) (hm : ¬ ManyS s) (ht : isT s t) {x y : Int} (hg : gr s x y) : prHit s t x y = some (decide (hitP s t x y)) := by
 obtain ⟨a, b, c, d⟩ := sml h hm ht hg
 obtain ⟨r1, r2, r3, r4⟩ := ht.rng h
 obtain ⟨w, hh, _⟩ := not_many hm
 have hw := h.wide
 unfold prHit
 rw [rDistance_eq h hm ht hg, obs, gd_pos (fI (by omega)), gd_pos (by omega), gd_pos (by omega), gd_pos (fI (by omega))]; rfl
theorem size_eq {s : Stm} {t : Trh} (h : VS0 s) (hm : ¬ ManyS s) (ht : isT s t) {x y : Int} (hg : gr s x y) : psize s t x y = some (szN s t x y) := by
 obtain ⟨a, b⟩ := fall_rng h hm ht hg
 obtain ⟨d1, d2⟩ := dN_rng h hm ht hg
 obtain ⟨r1, r2, r3, r4⟩ := ht.rng h
 obtain ⟨w, hh, _⟩ := not_many hm
 have hw := h.wide
 have hf := h.fall
 unfold psize szN
 rw [hits_ev h hm ht hg, obs]
 by_cases hp : hitP s t x y
 ·rw [if_pos (decide_eq_true hp), if_pos hp, distance_eq h hm ht hg, obs, gd_pos (fI (by omega)), gd_pos (by omega), gd_pos (by omega), gd_pos (fI (by omega)), gd_pos (by omega), gd_pos (by omega), gd_pos (fI (by omega)), gd_pos (fI (by omega))]
 ·rw [if_neg (by rw [decide_eq_false hp]; simp), if_neg hp]
theorem rSize_eq {s : Stm} {t : Trh} (h : VS0 s) (hm : ¬ ManyS s) (ht : isT s t) {x y : Int} (hg : gr s x y) : prSize s t x y = some (szN s t x y) := by
 obtain ⟨a, b⟩ := fall_rng h hm ht hg
 obtain ⟨d1, d2⟩ := dN_rng h hm ht hg
 obtain ⟨r1, r2, r3, r4⟩ := ht.rng h
 obtain ⟨w, hh, _⟩ := not_many hm
 have hw := h.wide
 have hf := h.fall
 unfold prSize szN
 rw [rHit_ev h hm ht hg, obs]
 by_cases hp : hitP s t x y
 ·rw [if_pos (decide_eq_true hp), if_pos hp, rDistance_eq h hm ht hg, obs, gd_pos (fI (by omega)), gd_pos (by omega), gd_pos (by omega), gd_pos (fI (by omega)), gd_pos (by omega), gd_pos (by omega), gd_pos (fI (by omega)), gd_pos (fI (by omega))]
 ·rw [if_neg (by rw [decide_eq_false hp]; simp), if_neg hp]
theorem numbers_go {r : Rg} {n : Int} (h : Wi r (-1000) 1000) (hn : n = cnt r) : ∀ (d k m : Nat), (k : Int) + m = n → m < d → pnumbersI_L0 r n d (k : Int) = some (segI (r.Lo + k) m)
 | 0, _, _, _, h => by omega
 | d + 1, k, 0, hk, _ => by
  unfold pnumbersI_L0
  rw [if_neg (by omega)]; rfl
 | d + 1, k, m + 1, hk, hd => by
  have hc := h
  unfold Wi at hc
  unfold cnt at hn
  unfold pnumbersI_L0
  rw [if_pos (by omega), gd_pos (fI (by omega)), gd_pos (fI (by omega)), show (k : Int) + 1 = ((k + 1 : Nat) : Int) by omega, numbers_go h (by unfold cnt; exact hn) d (k + 1) m (by omega) (by omega), obs, show r.Lo + ((k + 1 : Nat) : Int) = r.Lo + k + 1 by omega]
  rfl
theorem numbers_eq {r : Rg} (h : Wi r (-1000) 1000) : pnumbers r = some (nums r) := by
 have hc := h
 unfold Wi at hc
 have hcn : 0 < cnt r := by unfold cnt; omega
 unfold pnumbers pnumbersI
 rw [count_eq h, obs]
 have := numbers_go h rfl ((cnt r).toNat + 1) 0 (cnt r).toNat (by omega) (by omega)
 rw [show ((0 : Nat) : Int) = 0 by rfl] at this
 rw [this, obs]
 unfold nums
 rw [Int.add_zero]
def plcs (r : Rct) : List (Int × Int) := (nums r.X).flatMap fun x => (nums r.Y).map fun y => (x, y)
theorem pl_L1 {x : Int} {r : List (Int × Int)} : ∀ ys : List Int, pplacesI_L1 x (some r) ys = some (ys.map (fun y => (x, y)) ++ r)
 | [] => rfl
 | y :: ys => by unfold pplacesI_L1; rw [pl_L1 ys, obs]; rfl
theorem pl_L0 {r : Rct} (hy : Wi r.Y (-1000) 1000) : ∀ xs : List Int, pplacesI_L0 r xs = some (xs.flatMap fun x => (nums r.Y).map fun y => (x, y))
 | [] => rfl
 | x :: xs => by unfold pplacesI_L0; rw [numbers_eq hy, obs, pl_L0 hy xs, pl_L1]; rfl
theorem places_eq {s : Stm} (hf : Fit1 s) {r : Rct} (h : rcOk s r) : pplaces r = some (plcs r) := by
 unfold Fit1 at hf
 unfold pplaces pplacesI
 rw [numbers_eq (h.1.w (by omega) (by omega)), obs, pl_L0 (h.2.w (by omega) (by omega)), obs]; rfl
theorem mem_plcs {s : Stm} {r : Rct} (h : rcOk s r) {x y : Int} : (x, y) ∈ plcs r ↔ inP r x y := by
 obtain ⟨h1, h2⟩ := h
 unfold Wi at h1 h2
 unfold plcs inP
 rw [List.mem_flatMap]
 constructor
 ·rintro ⟨a, ha, hb⟩
  obtain ⟨b, hb, he⟩ := List.mem_map.1 hb
  cases he
  exact ⟨(mem_nums (by omega)).1 ha, (mem_nums (by omega)).1 hb⟩
 ·rintro ⟨a, b⟩
  exact ⟨x, (mem_nums (by omega)).2 a, List.mem_map.2 ⟨y, (mem_nums (by omega)).2 b, rfl⟩⟩
theorem isR_L0 {s : Stm} {t : Trh} (h : VS0 s) (hm : ¬ ManyS s) (ht : isT s t) {c : Crd} {b : Bool} : ∀ l : List (Int × Int), (∀ p ∈ l, gr s p.1 p.2) → Ev (pisRight_L0 s c t l b) (∃ p ∈ l, (hitP s t p.1 p.2 ↔ c.Hail = true) ∧ inR c.Size (szN s t p.1 p.2))
 | [], _ => by unfold pisRight_L0; exact Ev.ff fun ⟨p, hp, _⟩ => by cases hp
 | p :: l, hl => by
  have hg := hl p (List.mem_cons_self ..)
  have ih := isR_L0 h hm ht (c := c) (b := b) l fun q hq => hl q (List.mem_cons_of_mem _ hq)
  have hno : ¬ ((hitP s t p.1 p.2 ↔ c.Hail = true) ∧ inR c.Size (szN s t p.1 p.2)) → Ev (pisRight_L0 s c t l b) (∃ q ∈ p :: l, (hitP s t q.1 q.2 ↔ c.Hail = true) ∧ inR c.Size (szN s t q.1 q.2)) := fun hn => ih.imp ⟨fun ⟨q, hq, h9⟩ => ⟨q, List.mem_cons_of_mem _ hq, h9⟩, fun ⟨q, hq, h9⟩ => by
   rcases List.mem_cons.1 hq with rfl | hq
   ·exact absurd h9 hn
   ·exact ⟨q, hq, h9⟩⟩
  unfold pisRight_L0
  rw [hits_ev h hm ht hg, obs]
  have heq : ((decide (hitP s t p.1 p.2)) == c.Hail) = true ↔ (hitP s t p.1 p.2 ↔ c.Hail = true) := by
   rw [beq_iff_eq]
   cases hc : c.Hail <;> simp
  by_cases hh : hitP s t p.1 p.2 ↔ c.Hail = true
  ·rw [if_pos (heq.2 hh), size_eq h hm ht hg, obs]
   obtain ⟨b', q1, q2⟩ := has_ev (r := c.Size) (n := szN s t p.1 p.2)
   rw [q1, obs]
   cases b' with
   | true => rw [if_pos rfl]; exact Ev.tt ⟨p, List.mem_cons_self .., hh, q2.1 rfl⟩
   | false => rw [if_neg (by simp)]; exact hno fun h9 => by have := q2.2 h9.2; cases this
  ·rw [if_neg fun q => hh (heq.1 q)]; exact hno fun h9 => hh h9.1
theorem isRight_ev {s : Stm} {t : Trh} (h : VS0 s) (hm : ¬ ManyS s) (ht : isT s t) {c : Crd} (hc : CV s c) : Ev (pisRight s c t) (RT s t c) := by
 unfold pisRight prect
 rw [obs, places_eq (h.fit hm) hc.1, obs]
 refine (isR_L0 h hm ht _ fun p hp => gr_of hc.1 ((mem_plcs hc.1).1 hp)).imp ?_
 exact ⟨fun ⟨p, hp, h9⟩ => ⟨p.1, p.2, (mem_plcs hc.1).1 hp, h9⟩, fun ⟨x, y, hp, h9⟩ => ⟨(x, y), (mem_plcs hc.1).2 hp, h9⟩⟩
theorem ch_L3 {a b c : Int} {r : List Trh} : ∀ ds : List Int, pchoicesI_L3 a b c (some r) ds = some (ds.map (fun d => ⟨a, b, c, d⟩) ++ r)
 | [] => rfl
 | d :: ds => by unfold pchoicesI_L3; rw [ch_L3 ds, obs]; rfl
theorem ch_L2 {s : Stm} (h4 : Wi s.Peak (-1000) 1000) {a b : Int} {r : List Trh} : ∀ cs : List Int, pchoicesI_L2 s a b (some r) cs = some ((cs.flatMap fun c => (nums s.Peak).map fun d => ⟨a, b, c, d⟩) ++ r)
 | [] => rfl
 | c :: cs => by unfold pchoicesI_L2; rw [numbers_eq h4, obs, ch_L2 h4 cs, ch_L3, List.flatMap_cons, List.append_assoc]
theorem ch_L1 {s : Stm} (h3 : Wi s.Half (-1000) 1000) (h4 : Wi s.Peak (-1000) 1000) {a : Int} {r : List Trh} : ∀ bs : List Int, pchoicesI_L1 s a (some r) bs = some ((bs.flatMap fun b => (nums s.Half).flatMap fun c => (nums s.Peak).map fun d => ⟨a, b, c, d⟩) ++ r)
 | [] => rfl
 | b :: bs => by unfold pchoicesI_L1; rw [numbers_eq h3, obs, ch_L1 h3 h4 bs, ch_L2 h4, List.flatMap_cons, List.append_assoc]
theorem ch_L0 {s : Stm} (h2 : Wi s.B (-1000) 1000) (h3 : Wi s.Half (-1000) 1000) (h4 : Wi s.Peak (-1000) 1000) : ∀ ws : List Int, pchoicesI_L0 s ws = some (ws.flatMap fun a => (nums s.B).flatMap fun b => (nums s.Half).flatMap fun c => (nums s.Peak).map fun d => ⟨a, b, c, d⟩)
 | [] => rfl
 | a :: ws => by unfold pchoicesI_L0; rw [numbers_eq h2, obs, ch_L0 h2 h3 h4 ws, ch_L1 h3 h4, List.flatMap_cons]
theorem choices_eq {s : Stm} (h : VS0 s) (hm : ¬ ManyS s) : pchoices s = some (chL s) := by
 obtain ⟨a, b, c, d⟩ := h.ws hm
 unfold pchoices pchoicesI
 rw [numbers_eq a, obs, ch_L0 b c d, obs]; rfl
end
end Go.Proofs.Ytbnfnhfanooplaa

namespace Go.Proofs.Ytbnfnhfanooplaa
open _root_.Go.Proofs.Try
open Go.Abs Go.Abs.Grow
set_option maxRecDepth 100000
noncomputable section
def mkC (S : Nat → Bool) : Cds := ⟨S 0, S 1, S 2, S 3, S 4, S 5⟩
def upd (S : Nat → Bool) (x : Int) (v : Bool) : Nat → Bool := fun j => sti x j v (S j)
theorem mkC_congr {S S' : Nat → Bool} (h : ∀ j, j < 6 → S j = S' j) : mkC S = mkC S' := by
 unfold mkC
 rw [h 0 (by omega), h 1 (by omega), h 2 (by omega), h 3 (by omega), h 4 (by omega), h 5 (by omega)]
theorem upd_nat {S : Nat → Bool} {k : Nat} {v : Bool} (j : Nat) : upd S (k : Int) v j = if k = j then v else S j := by
 unfold upd sti
 by_cases h : k = j
 ·rw [if_pos (by omega), if_pos h]
 ·rw [if_neg (by omega), if_neg h]
def eqC (a b : Cds) : Bool := (a.c0 == b.c0) && ((a.c1 == b.c1) && ((a.c2 == b.c2) && ((a.c3 == b.c3) && ((a.c4 == b.c4) && (a.c5 == b.c5)))))
theorem eqC_mk {S S' : Nat → Bool} : eqC (mkC S) (mkC S') = true ↔ ∀ j, j < 6 → S j = S' j := by
 unfold eqC mkC
 simp only [Bool.and_eq_true, beq_iff_eq]
 constructor
 ·rintro ⟨a, b, c, d, e, f⟩ j hj
  match j, hj with
  | 0, _ => exact a
  | 1, _ => exact b
  | 2, _ => exact c
  | 3, _ => exact d
  | 4, _ => exact e
  | 5, _ => exact f
 ·intro h
  exact ⟨h 0 (by omega), h 1 (by omega), h 2 (by omega), h 3 (by omega), h 4 (by omega), h 5 (by omega)⟩
theorem idx6 {S : Nat → Bool} {k : Nat} (h : k < 6) : idx ([S 0, S 1, S 2, S 3, S 4, S 5] : List Bool) (k : Int) = some (S k) := by
 rw [idx_nat]
 match k, h with
 | 0, _ => rfl
 | 1, _ => rfl
 | 2, _ => rfl
 | 3, _ => rfl
 | 4, _ => rfl
 | 5, _ => rfl
theorem upTo_go {n : Nat} (hn : n ≤ 6) {last : Int} (hl : last + 1 = n) : ∀ (d k : Nat) (S : Nat → Bool), k ≤ n → n - k < d → pupTo_L0 last d (S 0) (S 1) (S 2) (S 3) (S 4) (S 5) (k : Int) = some (mkC fun j => (decide (k ≤ j) && decide (j < n)) || S j)
 | 0, _, _, _, h => by omega
 | d + 1, k, S, hk, hd => by
  unfold pupTo_L0
  by_cases hkn : k = n
  ·rw [if_neg (by omega)]
   refine congrArg some (mkC_congr (S := S) fun j _ => ?_)
   have : (decide (k ≤ j) && decide (j < n)) = false := by
    by_cases h9 : k ≤ j
    ·rw [decide_eq_false (show ¬ j < n by omega)]; simp
    ·rw [decide_eq_false h9]; rfl
   rw [this]; rfl
  ·rw [if_pos (by omega), gd_pos (by omega), gd_pos (fI (by omega)), show (k : Int) + 1 = ((k + 1 : Nat) : Int) by omega]
   refine (upTo_go hn hl d (k + 1) (upd S (k : Int) true) (by omega) (by omega)).trans (congrArg some (mkC_congr fun j _ => ?_))
   rw [upd_nat]
   by_cases h9 : k = j
   ·subst h9
    rw [if_pos rfl, decide_eq_true (Nat.le_refl k), decide_eq_true (show k < n by omega)]; simp
   ·rw [if_neg h9, show decide (k + 1 ≤ j) = decide (k ≤ j) from decide_eq_decide.2 (by omega)]
theorem upTo_eq {n : Nat} (hn : n ≤ 6) {last : Int} (hl : last + 1 = n) : pupTo last = some (mkC fun j => decide (j < n)) := by
 unfold pupTo
 rw [gd_pos (fI (by omega))]
 have := upTo_go hn hl ((last + 1).toNat + 1) 0 (fun _ => false) (Nat.zero_le _) (by omega)
 refine Eq.trans this (congrArg some (mkC_congr fun j _ => ?_))
 simp
theorem allCards_eq {W : Wk} (h : W.s.Cards.length ≤ 6) : pallCards W = some (mkC fun j => decide (j < W.s.Cards.length)) := by
 unfold pallCards
 rw [gd_pos (fI (by omega)), upTo_eq h (by omega), obs]
theorem among_go {C S0 : Nat → Bool} : ∀ (d k : Nat) (S : Nat → Bool), k ≤ 6 → 6 - k < d → (∀ j, j < 6 → S j = if j < k then (S0 j && C j) else S0 j) → pamong_L0 (mkC C) d (S 0) (S 1) (S 2) (S 3) (S 4) (S 5) (k : Int) = some (mkC fun j => S0 j && C j)
 | 0, _, _, _, h, _ => by omega
 | d + 1, k, S, hk, hd, hS => by
  unfold pamong_L0
  by_cases hkn : k = 6
  ·rw [if_neg (by omega)]
   exact congrArg some (mkC_congr (S := S) fun j hj => by rw [hS j hj, if_pos (by omega)])
  ·rw [if_pos (by omega), idx6 (by omega), obs]
   have hSk := hS k (by omega)
   rw [if_neg (Nat.lt_irrefl k)] at hSk
   have nx : ∀ v, v = (S0 k && C k) → ∀ j, j < 6 → upd S (k : Int) v j = if j < k + 1 then (S0 j && C j) else S0 j := fun v hv j hj => by
    rw [upd_nat]
    by_cases h9 : k = j
    ·subst h9; rw [if_pos rfl, if_pos (by omega)]; exact hv
    ·rw [if_neg h9, hS j hj]
     by_cases h8 : j < k
     ·rw [if_pos h8, if_pos (by omega)]
     ·rw [if_neg h8, if_neg (by omega)]
   by_cases hs : S k = true
   ·rw [if_pos hs]
    have e : idx ([(mkC C).c0, (mkC C).c1, (mkC C).c2, (mkC C).c3, (mkC C).c4, (mkC C).c5] : List Bool) (k : Int) = some (C k) := idx6 (S := C) (by omega)
    rw [e, obs, gd_pos (by omega), gd_pos (fI (by omega)), show (k : Int) + 1 = ((k + 1 : Nat) : Int) by omega]
    exact among_go d (k + 1) (upd S (k : Int) (C k)) (by omega) (by omega) (nx _ (by rw [← hSk, hs]; rfl))
   ·rw [if_neg hs, gd_pos (by omega), gd_pos (fI (by omega)), show (k : Int) + 1 = ((k + 1 : Nat) : Int) by omega]
    exact among_go d (k + 1) (upd S (k : Int) false) (by omega) (by omega) (nx _ (by rw [← hSk]; simp at hs; rw [hs]; rfl))
theorem among_eq {C S : Nat → Bool} : pamong (mkC C) (mkC S) = some (mkC fun j => S j && C j) := by
 unfold pamong
 exact among_go _ 0 S (by omega) (by decide) fun j _ => by rw [if_neg (by omega)]
open Classical in
def SB (s : Stm) (t : Trh) (j : Nat) : Bool := decide (∃ c, s.Cards[j]? = some c ∧ RT s t c)
open Classical in
theorem SB_iff {s : Stm} {t : Trh} {j : Nat} : SB s t j = true ↔ ∃ c, s.Cards[j]? = some c ∧ RT s t c := by unfold SB; exact decide_eq_true_iff
theorem SB_out {s : Stm} {t : Trh} {j : Nat} (h : s.Cards.length ≤ j) : SB s t j = false := by
 cases hb : SB s t j with
 | false => rfl
 | true =>
  obtain ⟨c, hc, _⟩ := SB_iff.1 hb
  have := (List.getElem?_eq_some_iff.1 hc).1
  omega
theorem rightCards_eq {W : Wk} {s : Stm} (hs : W.s = s) (h : VS0 s) (hm : ¬ ManyS s) {t : Trh} (ht : isT s t) : prightCards W t = some (mkC (SB s t)) := by
 obtain ⟨_, _, h3⟩ := not_many hm
 have go : ∀ (d k : Nat) (S : Nat → Bool), k ≤ s.Cards.length → s.Cards.length - k < d → (∀ j, S j = if j < k then SB s t j else false) → prightCards_L0 W t d (S 0) (S 1) (S 2) (S 3) (S 4) (S 5) (k : Int) = some (mkC (SB s t)) := by
  intro d
  induction d with
  | zero => intro k S _ h; omega
  | succ d ih =>
   intro k S hk hd hS
   unfold prightCards_L0
   rw [hs]
   by_cases hkn : k = s.Cards.length
   ·rw [if_neg (by omega)]
    refine congrArg some (mkC_congr (S := S) fun j hj => ?_)
    rw [hS j]
    by_cases h9 : j < k
    ·rw [if_pos h9]
    ·rw [if_neg h9, SB_out (by omega)]
   ·have hlt : k < s.Cards.length := by omega
    have hg := List.getElem?_eq_getElem hlt
    have hc := h.cards _ (List.getElem_mem hlt)
    generalize s.Cards[k] = c at hg hc
    obtain ⟨b, b1, b2⟩ := isRight_ev h hm ht hc
    have hb : b = SB s t k := by
     rw [Bool.eq_iff_iff, b2, SB_iff]
     exact ⟨fun q => ⟨c, hg, q⟩, fun ⟨c', q1, q2⟩ => by rw [hg] at q1; cases q1; exact q2⟩
    rw [if_pos (by omega), idx_at hg, obs, b1, obs, gd_pos (by omega), gd_pos (fI (by omega)), show (k : Int) + 1 = ((k + 1 : Nat) : Int) by omega]
    refine ih (k + 1) (upd S (k : Int) b) (by omega) (by omega) fun j => ?_
    rw [upd_nat]
    by_cases h9 : k = j
    ·subst h9; rw [if_pos rfl, if_pos (by omega)]; exact hb
    ·rw [if_neg h9, hS j]
     by_cases h8 : j < k
     ·rw [if_pos h8, if_pos (by omega)]
     ·rw [if_neg h8, if_neg (by omega)]
 unfold prightCards
 rw [hs]
 exact go _ 0 (fun _ => false) (Nat.zero_le _) (by omega) fun j => by rw [if_neg (by omega)]
structure WOk (s : Stm) (W : Wk) : Prop where
 v0 : VS0 s
 many : ¬ ManyS s
 ss : W.s = s
 m : ∀ t, isT s t → mget W.right t = some (mkC (SB s t))
theorem isT.fit {s : Stm} {t : Trh} (ht : isT s t) (h : VS0 s) (hm : ¬ ManyS s) : MK.fit t := by
 obtain ⟨_, hh, _⟩ := not_many hm
 obtain ⟨a, b, c, d⟩ := ht.rng h
 exact ⟨fI (by omega), fI (by omega), fI (by omega), fI (by omega), trivial⟩
open Classical in
theorem open_L0 {s : Stm} (h : VS0 s) (hm : ¬ ManyS s) : ∀ (l : List Trh) (D : Trh → Prop) (m : Trh → Option Cds), (∀ t ∈ l, isT s t) → (∀ t, D t → m t = some (mkC (SB s t))) →
  ∃ g, popen_L0 s l (some m) = some ⟨s, some g⟩ ∧ ∀ t, (D t ∨ t ∈ l) → g t = some (mkC (SB s t))
 | [], D, m, _, hD => ⟨m, rfl, fun t ht => ht.elim (hD t) fun h => by cases h⟩
 | t :: l, D, m, hl, hD => by
  have ht := hl t (List.mem_cons_self ..)
  unfold popen_L0
  rw [rightCards_eq (s := s) rfl h hm ht, obs, gd_pos (ht.fit h hm), show mset (some m) t (mkC (SB s t)) = some (some fun k => if k = t then some (mkC (SB s t)) else m k) from rfl, obs]
  obtain ⟨g, g1, g2⟩ := open_L0 h hm l (fun x => D x ∨ x = t) (fun k => if k = t then some (mkC (SB s t)) else m k) (fun x hx => hl x (List.mem_cons_of_mem _ hx)) fun x hx => by
   by_cases h9 : x = t
   ·rw [if_pos h9, h9]
   ·rw [if_neg h9]; exact hD x (hx.elim id fun q => absurd q h9)
  refine ⟨g, g1, fun x hx => g2 x ?_⟩
  rcases hx with hx | hx
  ·exact .inl (.inl hx)
  ·rcases List.mem_cons.1 hx with h9 | h9
   ·exact .inl (.inr h9)
   ·exact .inr h9
theorem open_eq {s : Stm} (h : VS s) : ∃ W, popen s = some W ∧ WOk s W := by
 obtain ⟨g, g1, g2⟩ := open_L0 h.toVS0 h.many (chL s) (fun _ => False) (fun _ => none) (fun t ht => (mem_chL h.toVS0).1 ht) fun _ h => h.elim
 refine ⟨⟨s, some g⟩, ?_, h.toVS0, h.many, rfl, fun t ht => g2 t (.inr ((mem_chL h.toVS0).2 ht))⟩
 unfold popen
 rw [choices_eq h.toVS0 h.many, obs]
 exact g1
theorem hold_iff {s : Stm} {t : Trh} {S : Nat → Bool} (hn : s.Cards.length ≤ 6) (hS : ∀ j, S j = true → j < s.Cards.length) : (∀ j, j < 6 → (S j && SB s t j) = S j) ↔ ∀ j, S j = true → ∀ c, s.Cards[j]? = some c → RT s t c := by
 constructor
 ·intro h j hj c hc
  have hjl := hS j hj
  have := h j (by omega)
  rw [hj, Bool.true_and] at this
  obtain ⟨c', q1, q2⟩ := SB_iff.1 this
  rw [hc] at q1; cases q1; exact q2
 ·intro h j hj
  cases hs : S j with
  | false => rfl
  | true =>
   have hjl := hS j hs
   rw [SB_iff.2 ⟨_, List.getElem?_eq_getElem hjl, h j hs _ (List.getElem?_eq_getElem hjl)⟩]; rfl
theorem canHold_ev {s : Stm} {W : Wk} (h : WOk s W) {S : Nat → Bool} (hS : ∀ j, S j = true → j < s.Cards.length) : Ev (pcanHold W (mkC S)) (CanS s S) := by
 obtain ⟨_, _, h3⟩ := not_many h.many
 have go : ∀ (l : List Trh) (b : Bool), (∀ t ∈ l, isT s t) → Ev (pcanHold_L0 W (mkC S) l b) (∃ t ∈ l, ∀ j, S j = true → ∀ c, s.Cards[j]? = some c → RT s t c) := by
  intro l
  induction l with
  | nil => intro b _; unfold pcanHold_L0; exact Ev.ff fun ⟨t, ht, _⟩ => by cases ht
  | cons t l ih =>
   intro b hl
   have ht := hl t (List.mem_cons_self ..)
   unfold pcanHold_L0
   rw [gd_pos (ht.fit h.v0 h.many), mcase_some (h.m t ht), among_eq, obs]
   have heq := (eqC_mk (S := fun j => S j && SB s t j) (S' := S)).trans (hold_iff (t := t) h3 hS)
   show Ev (ite (eqC (mkC fun j => S j && SB s t j) (mkC S) = true) _ _) _
   by_cases hh : ∀ j, S j = true → ∀ c, s.Cards[j]? = some c → RT s t c
   ·rw [if_pos (heq.2 hh)]; exact Ev.tt ⟨t, List.mem_cons_self .., hh⟩
   ·rw [if_neg fun q => hh (heq.1 q)]
    exact (ih b fun x hx => hl x (List.mem_cons_of_mem _ hx)).imp ⟨fun ⟨x, hx, q⟩ => ⟨x, List.mem_cons_of_mem _ hx, q⟩, fun ⟨x, hx, q⟩ => by
     rcases List.mem_cons.1 hx with rfl | hx
     ·exact absurd q hh
     ·exact ⟨x, hx, q⟩⟩
 unfold pcanHold
 rw [h.ss, choices_eq h.v0 h.many, obs]
 exact (go _ false fun t ht => (mem_chL h.v0).1 ht).imp ⟨fun ⟨t, h1, h2⟩ => ⟨t, (mem_chL h.v0).1 h1, h2⟩, fun ⟨t, h1, h2⟩ => ⟨t, (mem_chL h.v0).2 h1, h2⟩⟩
theorem hasTruth_ev {s : Stm} {W : Wk} (h : WOk s W) : Ev (phasTruth W) (HT s) := by
 obtain ⟨_, _, h3⟩ := not_many h.many
 unfold phasTruth
 rw [allCards_eq (by rw [h.ss]; exact h3), obs, h.ss]
 refine (canHold_ev h fun j hj => of_decide_eq_true hj).ret.imp ?_
 rw [HT_can]
 exact CanS.congr fun j hj => decide_eq_true hj
theorem all_iff {s : Stm} {t : Trh} (hn : s.Cards.length ≤ 6) : (∀ j, j < 6 → SB s t j = decide (j < s.Cards.length)) ↔ ∀ c ∈ s.Cards, RT s t c := by
 constructor
 ·intro h c hc
  obtain ⟨j, hj⟩ := List.mem_iff_getElem?.1 hc
  have hjl := (List.getElem?_eq_some_iff.1 hj).1
  have := h j (by omega)
  rw [decide_eq_true hjl] at this
  obtain ⟨c', q1, q2⟩ := SB_iff.1 this
  rw [hj] at q1; cases q1; exact q2
 ·intro h j _
  by_cases hjl : j < s.Cards.length
  ·rw [decide_eq_true hjl]
   exact SB_iff.2 ⟨_, List.getElem?_eq_getElem hjl, h _ (List.getElem_mem hjl)⟩
  ·rw [decide_eq_false hjl]; exact SB_out (by omega)
open Classical in
theorem truths_L0 {s : Stm} {W : Wk} (h : WOk s W) : ∀ l : List Trh, (∀ t ∈ l, isT s t) → ptruthsI_L0 W (mkC fun j => decide (j < s.Cards.length)) l = some (l.filter fun t => decide (∀ c ∈ s.Cards, RT s t c))
 | [], _ => rfl
 | t :: l, hl => by
  obtain ⟨_, _, h3⟩ := not_many h.many
  have ht := hl t (List.mem_cons_self ..)
  have ih := truths_L0 h l fun x hx => hl x (List.mem_cons_of_mem _ hx)
  unfold ptruthsI_L0
  rw [gd_pos (ht.fit h.v0 h.many), mcase_some (h.m t ht), ih]
  have heq := (eqC_mk (S := SB s t) (S' := fun j => decide (j < s.Cards.length))).trans (all_iff (t := t) h3)
  show (ite (eqC (mkC (SB s t)) (mkC fun j => decide (j < s.Cards.length)) = true) _ _) = _
  by_cases ho : ∀ c ∈ s.Cards, RT s t c
  ·rw [if_pos (heq.2 ho), obs, List.filter_cons_of_pos (by simpa using ho)]
  ·rw [if_neg fun q => ho (heq.1 q), List.filter_cons_of_neg (by simpa using ho)]
theorem truths_eq {s : Stm} {W : Wk} (h : WOk s W) : ptruths W = some (TL s) := by
 obtain ⟨_, _, h3⟩ := not_many h.many
 unfold ptruths ptruthsI
 rw [allCards_eq (by rw [h.ss]; exact h3), obs, h.ss, choices_eq h.v0 h.many, obs, truths_L0 h _ fun t ht => (mem_chL h.v0).1 ht, obs]; rfl
def wk0 : Wk := { s := ({ Wide := (0 : Int), High := (0 : Int), Fall := (0 : Int), A := ({ Lo := (0 : Int), Hi := (0 : Int) } : Rg), B := ({ Lo := (0 : Int), Hi := (0 : Int) } : Rg), Half := ({ Lo := (0 : Int), Hi := (0 : Int) } : Rg), Peak := ({ Lo := (0 : Int), Hi := (0 : Int) } : Rg), Cards := [] } : Stm), right := none }
theorem openTrue_ok {s : Stm} (h : VS s) {L : List Rct} (hL : shrt L) (hr : ∀ r ∈ L, rcOk s r) (ht : HT s) : ∃ W, popenTrue s L = some (W, 0) ∧ WOk s W := by
 obtain ⟨W, h1, h2⟩ := open_eq h
 refine ⟨W, ?_, h2⟩
 unfold popenTrue
 rw [check_eq, fault_zero.2 h, obs, if_pos rfl, (eachR_ev (q := rcOk s) (fun r _ => hasRect_ev (h.toVS0.fit h.many)) hL).some_of hr, obs, if_pos rfl, h1, obs, (hasTruth_ev h2).some_of ht, obs, if_pos rfl]
theorem openTrue_no {s : Stm} (h : VS s) {L : List Rct} (hL : shrt L) (hr : ∀ r ∈ L, rcOk s r) (ht : ¬ HT s) : popenTrue s L = some (wk0, 11) := by
 obtain ⟨W, h1, h2⟩ := open_eq h
 unfold popenTrue
 rw [check_eq, fault_zero.2 h, obs, if_pos rfl, (eachR_ev (q := rcOk s) (fun r _ => hasRect_ev (h.toVS0.fit h.many)) hL).some_of hr, obs, if_pos rfl, h1, obs, (hasTruth_ev h2).some_not ht, obs, if_neg (by simp)]; rfl
end
end Go.Proofs.Ytbnfnhfanooplaa

namespace Go.Proofs.Ytbnfnhfanooplaa
open _root_.Go.Proofs.Try
open Go.Abs
set_option maxRecDepth 100000
noncomputable section
def Inc (n fr : Nat) (T : List Int) : Prop := T.Pairwise (· < ·) ∧ ∀ v ∈ T, (fr : Int) ≤ v ∧ v < n
theorem Inc.cons {n fr : Nat} {x : Int} {T : List Int} : Inc n fr (x :: T) ↔ ((fr : Int) ≤ x ∧ x < n) ∧ Inc n (x + 1).toNat T := by
 unfold Inc
 rw [List.pairwise_cons]
 constructor
 ·rintro ⟨⟨h1, h2⟩, h3⟩
  have hx := h3 x (List.mem_cons_self ..)
  exact ⟨hx, h2, fun v hv => by have := h1 v hv; have := h3 v (List.mem_cons_of_mem _ hv); omega⟩
 ·rintro ⟨hx, h2, h3⟩
  refine ⟨⟨fun v hv => by have := h3 v hv; omega, h2⟩, fun v hv => ?_⟩
  rcases List.mem_cons.1 hv with rfl | hv
  ·exact hx
  ·have := h3 v hv; omega
def inD (D : List Int) (j : Nat) : Bool := decide ((j : Int) ∈ D)
def bitsF (b : Nat) : Nat → List Int
 | 0 => []
 | p + 1 => bitsF b p ++ (if b.testBit p then [(p : Int)] else [])
def bitsL (b : Nat) : List Int := bitsF b 16
theorem mem_bitsF {b : Nat} {v : Int} : ∀ {p : Nat}, v ∈ bitsF b p ↔ 0 ≤ v ∧ v < p ∧ b.testBit v.toNat = true
 | 0 => ⟨fun h => (by cases h), fun h => by omega⟩
 | p + 1 => by
  show v ∈ bitsF b p ++ _ ↔ _
  rw [List.mem_append, mem_bitsF]
  constructor
  ·rintro (h | h)
   ·exact ⟨h.1, by omega, h.2.2⟩
   ·by_cases hb : b.testBit p = true
    ·rw [if_pos hb, List.mem_singleton] at h
     subst h; exact ⟨by omega, by omega, hb⟩
    ·rw [if_neg hb] at h; cases h
  ·rintro ⟨h1, h2, h3⟩
   by_cases hv : v = (p : Int)
   ·subst hv
    have h4 : b.testBit p = true := h3
    rw [if_pos h4]; exact .inr (List.mem_singleton.2 rfl)
   ·exact .inl ⟨h1, by omega, h3⟩
theorem inD_bits {n b k : Nat} (hn : n ≤ 16) (hk : k < n) : inD (bitsL b) k = b.testBit k := by
 unfold inD
 have : ((k : Nat) : Int) ∈ bitsL b ↔ b.testBit k = true := by
  unfold bitsL
  rw [mem_bitsF]
  exact ⟨fun h => h.2.2, fun h => ⟨by omega, by omega, h⟩⟩
 cases hb : b.testBit k with
 | true => exact decide_eq_true (this.2 hb)
 | false => exact decide_eq_false fun h => by rw [this.1 h] at hb; cases hb
end
end Go.Proofs.Ytbnfnhfanooplaa

namespace Go.Proofs.Ytbnfnhfanooplaa
open _root_.Go.Proofs.Try
open Go.Abs Go.Abs.Grow
set_option maxRecDepth 100000
noncomputable section
theorem aw : (pawake.bind fun r => some r) = some true := rfl
def ThinN (s : Stm) : Prop := s.Cards.length ≤ 9 ∧ (faultN s = 0 → manyN s ≤ 300)
theorem thin_ev {s : Stm} : Ev (plThin s) (ThinN s) := by
 unfold plThin ThinN
 refine (Ev.ite (K := faultN s = 0 → manyN s ≤ 300) fun h1 => ?_).imp (and_congr (by omega) Iff.rfl)
 rw [rFault_eq, obs]
 by_cases hf : faultN s = 0
 ·have h := fault_zero.1 hf
  rw [if_pos hf, rMany_eq h.toVS0 h.many, obs]
  exact Ev.dec ⟨fun h _ => h, fun h => h hf⟩
 ·rw [if_neg hf]; exact Ev.tt fun h => absurd h hf
theorem ready_ev {s : Stm} : Ev (plReady s) (ThinN s ∧ VS s) := by
 unfold plReady
 refine Ev.and thin_ev fun _ => ?_
 rw [rFault_eq, obs]
 exact Ev.dec fault_zero
theorem lStorm_eq {s : Stm} (h : s.Cards.length ≤ 9) : plStorm s = some s := by
 have k1 := loopApp0 (l := s.Cards) (F := fun d acc x => plStorm_L0 s d s.Wide s.High s.Fall s.A.Lo s.A.Hi s.B.Lo s.B.Hi s.Half.Lo s.Half.Hi s.Peak.Lo s.Peak.Hi acc x) (fun c : Crd => c) (fun acc => some ({ s with Cards := acc } : Stm)) (fun d k acc a ha hac => by
  have hk := (List.getElem?_eq_some_iff.1 ha).1
  show plStorm_L0 s (d + 1) _ _ _ _ _ _ _ _ _ _ _ _ _ = _
  rw [plStorm_L0, if_pos (by omega), idx_at ha, obs]
  unfold plTo
  rw [obs, obs, obs, gd_pos (by omega), gd_pos (fI (by omega))]) (fun d acc => by show plStorm_L0 s (d + 1) _ _ _ _ _ _ _ _ _ _ _ _ _ = _; rw [plStorm_L0, if_neg (Int.lt_irrefl _)]) (d := 1000000) (by omega)
 unfold plStorm plTo
 rw [obs, obs, obs, obs]
 refine k1.trans ?_
 rw [List.map_id']
def wC (s : Stm) (V : List Crd) : Stm := { s with Cards := V }
theorem wu {n : Nat} (h : n ≤ 64) : wrapZ .u64 (n : Int) = (n : Int) := wz (show (0 : Int) ≤ n ∧ (n : Int) < 18446744073709551616 by omega)
theorem box_eq {s : Stm} (h : VS s) {w : Int} (hw : fitsP .u16 w) : ∃ r, plBox s w = some r ∧ rcOk s r := by
 obtain ⟨h1, h2, _⟩ := not_many h.many
 have hwd := h.wide; have hhi := h.high
 have u := fU16 hw
 have w1 : wrapZ .i64 w = w := wz (fI (by omega))
 have m1 := Int.emod_nonneg w (show s.Wide ≠ 0 by omega)
 have m1' := Int.emod_lt_of_pos w (show 0 < s.Wide by omega)
 have m2 := Int.emod_nonneg (w / 16) (show s.High ≠ 0 by omega)
 have m2' := Int.emod_lt_of_pos (w / 16) (show 0 < s.High by omega)
 unfold plBox
 simp only [w1]
 generalize w % s.Wide = x at *
 generalize w / 16 % s.High = y at *
 repeat rw [gd_pos (by first | exact fI (by omega) | omega)]
 exact ⟨_, rfl, by unfold rcOk Wi; dsimp only; omega⟩
end
end Go.Proofs.Ytbnfnhfanooplaa

namespace Go.Proofs.Ytbnfnhfanooplaa
open _root_.Go.Proofs.Try
open Go.Abs Go.Abs.Grow
set_option maxRecDepth 100000
noncomputable section
theorem pow_cast (j : Nat) (c : Int) : c * 2 ^ (Int.toNat (j : Int)) = c * ((2 ^ j : Nat) : Int) := by rw [Int.toNat_natCast, Int.natCast_pow]; rfl
theorem CanS.bits {s : Stm} {b : Nat} (hn : s.Cards.length ≤ 6) : CanS s (fun j => !inD (bitsL b) j) ↔ CanS s fun j => !b.testBit j := CanS.congr fun j hj => by rw [inD_bits (n := s.Cards.length) (by omega) hj]
end
end Go.Proofs.Ytbnfnhfanooplaa

namespace Go.Proofs.Ytbnfnhfanooplaa
open _root_.Go.Proofs.Try
open Go.Abs Go.Abs.Grow
set_option maxRecDepth 100000
noncomputable section
theorem Inc.cut {n : Nat} {D : List Int} (h : Inc (n + 1) 0 D) : ∃ E, Inc n 0 E ∧ E.length ≤ D.length ∧ D.length ≤ E.length + 1 ∧ ∀ j, j < n → inD E j = inD D j := by
 refine ⟨D.filter fun v => decide (v < (n : Int)), ⟨h.1.filter _, fun v hv => ?_⟩, List.length_filter_le _ _, ?_, fun j hj => ?_⟩
 ·obtain ⟨h1, h2⟩ := List.mem_filter.1 hv
  have := h.2 v h1
  have := of_decide_eq_true h2
  omega
 ·have key : ∀ L : List Int, L.Pairwise (· < ·) → (∀ v ∈ L, v < (n : Int) + 1) → L.length ≤ (L.filter fun v => decide (v < (n : Int))).length + 1 := by
   intro L
   induction L with
   | nil => intro _ _; simp
   | cons a L ih =>
    intro hp hb
    rw [List.pairwise_cons] at hp
    have ha := hb a (List.mem_cons_self ..)
    rw [List.filter_cons]
    by_cases hlt : a < (n : Int)
    ·rw [if_pos (decide_eq_true hlt)]
     have := ih hp.2 fun v hv => hb v (List.mem_cons_of_mem _ hv)
     simp only [List.length_cons]; omega
    ·have hL : L = [] := by
      cases L with
      | nil => rfl
      | cons b L =>
       have h1 := hp.1 b (List.mem_cons_self ..)
       have h2 := hb b (by simp)
       omega
     subst hL; simp
  exact key D h.1 fun v hv => by have := (h.2 v hv).2; omega
 ·unfold inD
  refine decide_eq_decide.2 ⟨fun hh => (List.mem_filter.1 hh).1, fun hh => List.mem_filter.2 ⟨hh, decide_eq_true (by omega)⟩⟩
end
end Go.Proofs.Ytbnfnhfanooplaa

namespace Go.Proofs.Ytbnfnhfanooplaa
open _root_.Go.Proofs.Try
open Go.Abs Go.Abs.Grow
set_option maxRecDepth 100000
noncomputable section
theorem rNth_eq {s : Stm} (h : VS0 s) (hm : ¬ ManyS s) {n : Int} (h0 : 0 ≤ n) (hn : n < manyN s) : prNth s n = some (nthT s n) := by
 obtain ⟨h1, h2, h3, h4, _, _, h7⟩ := many_rng h hm
 obtain ⟨e1, e2, e3, e4, e5, e6⟩ := nth_rng h hm h0 hn
 obtain ⟨a, b, c, d⟩ := h.ws hm
 have a' := a; have b' := b; have c' := c; have d' := d
 have p1 : n / cnt s.A ≤ n := Int.ediv_le_self _ h0
 have p2 : n / cnt s.A / cnt s.B ≤ n / cnt s.A := Int.ediv_le_self _ e2
 unfold Wi at a' b' c' d'
 unfold prNth
 simp only [rCount_eq a, rCount_eq b, rCount_eq c, obs]
 unfold nthT
 generalize n / cnt s.A / cnt s.B / cnt s.Half = x4 at *
 generalize n / cnt s.A / cnt s.B % cnt s.Half = x3 at *
 generalize n / cnt s.A / cnt s.B = x5 at *
 generalize n / cnt s.A % cnt s.B = x2 at *
 generalize n / cnt s.A = x6 at *
 generalize n % cnt s.A = x1 at *
 repeat rw [gd_pos (by first | exact fI (by omega) | omega)]
end
end Go.Proofs.Ytbnfnhfanooplaa

namespace Go.Proofs.Ytbnfnhfanooplaa
open _root_.Go.Proofs.Try
open Go.Abs Go.Abs.Grow
set_option maxRecDepth 100000
noncomputable section
def RR (s : Stm) (t : Trh) (c : Crd) (x y : Int) : Prop := (hitP s t x y ↔ c.Hail = true) ∧ inR c.Size (szN s t x y)
open Classical in
theorem rR_inner {s : Stm} (h : VS0 s) (hm : ¬ ManyS s) {t : Trh} (ht : isT s t) {c : Crd} (hc : CV s c) {x : Int} (hx : inR c.X x) {K : Bool → Int → Option Bool} : ∀ (d m : Nat) (y : Int) (b : Bool), c.Y.Lo ≤ y → y + m = c.Y.Hi + 1 → m < d →
  prRight_L1 s t c x K d b y = if ∃ y', y ≤ y' ∧ y' ≤ c.Y.Hi ∧ RR s t c x y' then some true else K b (x + 1)
 | 0, m, _, _, _, _, h => by omega
 | d + 1, m, y, b, hy, hm', hd => by
  obtain ⟨⟨hX, hY⟩, hS, hH⟩ := id hc
  obtain ⟨g1, g2, _⟩ := not_many hm
  unfold Wi at hX hY
  dsimp only at hX hY
  have hx' := hx
  unfold inR at hx'
  unfold prRight_L1
  cases m with
  | zero => rw [if_neg (by omega), gd_pos (fI (by omega)), if_neg fun ⟨y', q1, q2, _⟩ => by omega]
  | succ m =>
   have hg : gr s x y := by unfold gr; omega
   have ih := rR_inner h hm ht hc hx (K := K) d m (y + 1) b (by omega) (by omega) (by omega)
   have nx : ¬ RR s t c x y → (gd (fitsP .i64 (y + 1)) (prRight_L1 s t c x K d b (y + 1))) = if ∃ y', y ≤ y' ∧ y' ≤ c.Y.Hi ∧ RR s t c x y' then some true else K b (x + 1) := fun hn => by
    rw [gd_pos (fI (by omega)), ih]
    by_cases he : ∃ y', y + 1 ≤ y' ∧ y' ≤ c.Y.Hi ∧ RR s t c x y'
    ·obtain ⟨y', q1, q2, q3⟩ := he
     rw [if_pos ⟨y', q1, q2, q3⟩, if_pos ⟨y', by omega, q2, q3⟩]
    ·rw [if_neg he, if_neg fun ⟨y', q1, q2, q3⟩ => he ⟨y', by
      rcases Int.lt_or_eq_of_le q1 with h9 | h9
      ·omega
      ·rw [← h9] at q3; exact absurd q3 hn, q2, q3⟩]
   have yes : RR s t c x y → some true = if ∃ y', y ≤ y' ∧ y' ≤ c.Y.Hi ∧ RR s t c x y' then some true else K b (x + 1) := fun hh => by
    rw [if_pos ⟨y, Int.le_refl _, by omega, hh⟩]
   rw [if_pos (by omega)]
   by_cases hl : c.Hail = true
   ·rw [if_pos hl, rHit_ev h hm ht hg, obs]
    by_cases hh : hitP s t x y
    ·rw [if_pos (decide_eq_true hh), rSize_eq h hm ht hg, obs]
     obtain ⟨b', q1, q2⟩ := In_ev (n := szN s t x y) (lo := c.Size.Lo) (hi := c.Size.Hi)
     rw [q1, obs]
     cases b' with
     | true => rw [if_pos rfl]; exact yes ⟨⟨fun _ => hl, fun _ => hh⟩, q2.1 rfl⟩
     | false => rw [if_neg (by simp)]; exact nx fun q => by have := q2.2 q.2; cases this
    ·rw [if_neg (by rw [decide_eq_false hh]; simp)]; exact nx fun q => hh (q.1.2 hl)
   ·have hsz : c.Size = ⟨0, 0⟩ := hH.resolve_left hl
    rw [if_neg hl, rHit_ev h hm ht hg, obs]
    by_cases hh : hitP s t x y
    ·rw [if_pos (decide_eq_true hh)]; exact nx fun q => hl (q.1.1 hh)
    ·rw [if_neg (by rw [decide_eq_false hh]; simp)]
     refine yes ⟨⟨fun q => absurd q hh, fun q => absurd q hl⟩, ?_⟩
     have : szN s t x y = 0 := by unfold szN; rw [if_neg hh]
     rw [this, hsz]; unfold inR; dsimp only; omega
theorem rRight_ev {s : Stm} (h : VS0 s) (hm : ¬ ManyS s) {t : Trh} (ht : isT s t) {c : Crd} (hc : CV s c) : Ev (prRight s t c) (RT s t c) := by
 obtain ⟨⟨hX, hY⟩, _⟩ := id hc
 obtain ⟨g1, g2, _⟩ := not_many hm
 unfold Wi at hX hY
 dsimp only at hX hY
 have go : ∀ (d m : Nat) (x : Int) (b : Bool), c.X.Lo ≤ x → x + m = c.X.Hi + 1 → m < d → Ev (prRight_L0 s t c d b x) (∃ x', x ≤ x' ∧ x' ≤ c.X.Hi ∧ ∃ y', c.Y.Lo ≤ y' ∧ y' ≤ c.Y.Hi ∧ RR s t c x' y') := by
  intro d
  induction d with
  | zero => intro m _ _ _ _ h; omega
  | succ d ih =>
   intro m x b hx hm' hd
   unfold prRight_L0
   cases m with
   | zero => rw [if_neg (by omega)]; exact Ev.ff fun ⟨x', q1, q2, _⟩ => by omega
   | succ m =>
    rw [if_pos (by omega), rR_inner h hm ht hc (x := x) (by unfold inR; omega) 1000000 (c.Y.Hi + 1 - c.Y.Lo).toNat c.Y.Lo b (Int.le_refl _) (by omega) (by omega)]
    by_cases he : ∃ y', c.Y.Lo ≤ y' ∧ y' ≤ c.Y.Hi ∧ RR s t c x y'
    ·rw [if_pos he]; exact Ev.tt ⟨x, Int.le_refl _, by omega, he⟩
    ·rw [if_neg he]
     exact (ih m (x + 1) b (by omega) (by omega) (by omega)).imp ⟨fun ⟨x', q1, q2, q3⟩ => ⟨x', by omega, q2, q3⟩, fun ⟨x', q1, q2, q3⟩ => ⟨x', by
      rcases Int.lt_or_eq_of_le q1 with h9 | h9
      ·omega
      ·rw [← h9] at q3; exact absurd q3 he, q2, q3⟩⟩
 unfold prRight
 exact (go 1000000 (c.X.Hi + 1 - c.X.Lo).toNat c.X.Lo false (Int.le_refl _) (by omega) (by omega)).imp ⟨fun ⟨x, q1, q2, y, q3, q4, q5⟩ => ⟨x, y, ⟨⟨q1, q2⟩, q3, q4⟩, q5⟩, fun ⟨x, y, ⟨⟨q1, q2⟩, q3, q4⟩, q5⟩ => ⟨x, q1, q2, y, q3, q4, q5⟩⟩
end
end Go.Proofs.Ytbnfnhfanooplaa

namespace Go.Proofs.Ytbnfnhfanooplaa
open _root_.Go.Proofs.Try
open Go.Abs Go.Abs.Grow
set_option maxRecDepth 100000
noncomputable section
def macc (S : Nat → Bool) : Nat → Nat
 | 0 => 0
 | i + 1 => if S i = true then macc S i ||| 2 ^ i else macc S i
theorem macc_bit (S : Nat → Bool) (j : Nat) : ∀ i, (macc S i).testBit j = (decide (j < i) && S j)
 | 0 => by simp [macc]
 | i + 1 => by
  have ih := macc_bit S j i
  unfold macc
  by_cases hs : S i = true
  ·rw [if_pos hs, Nat.testBit_or, ih, Nat.testBit_two_pow]
   by_cases h : i = j
   ·subst h; simp [hs]
   ·have : decide (j < i + 1) = decide (j < i) := decide_eq_decide.2 (by omega)
    rw [this]; simp [h]
  ·rw [if_neg hs, ih]
   by_cases h : i = j
   ·subst h
    have : S i = false := by simpa using hs
    rw [this]; simp
   ·have : decide (j < i + 1) = decide (j < i) := decide_eq_decide.2 (by omega)
    rw [this]
theorem macc_lt (S : Nat → Bool) (i : Nat) : macc S i < 2 ^ i := by
 apply Nat.lt_pow_two_of_testBit
 intro j hj
 rw [macc_bit, decide_eq_false (by omega)]; rfl
theorem bits_eq {a b n : Nat} (ha : a < 2 ^ n) (hb : b < 2 ^ n) (h : ∀ j, j < n → a.testBit j = b.testBit j) : a = b := by
 apply Nat.eq_of_testBit_eq
 intro j
 by_cases hj : j < n
 ·exact h j hj
 ·rw [Nat.testBit_lt_two_pow (Nat.lt_of_lt_of_le ha (Nat.pow_le_pow_right (by omega) (by omega))), Nat.testBit_lt_two_pow (Nat.lt_of_lt_of_le hb (Nat.pow_le_pow_right (by omega) (by omega)))]
def allN (s : Stm) (t : Trh) : Nat := macc (SB s t) s.Cards.length
def allL' (s : Stm) : List Int := (segI 0 (manyN s).toNat).map fun n => ((allN s (nthT s n) : Nat) : Int)
theorem allL_len {s : Stm} : (allL' s).length = (manyN s).toNat := by unfold allL'; rw [List.length_map, segI_len]
theorem allL_get {s : Stm} {n : Nat} (hn : (n : Int) < manyN s) : (allL' s)[n]? = some ((allN s (nthT s n) : Nat) : Int) := by
 unfold allL'
 rw [List.getElem?_map, segI_get (by omega), Int.zero_add]; rfl
theorem allN_full {s : Stm} {t : Trh} : allN s t = 2 ^ s.Cards.length - 1 ↔ ∀ c ∈ s.Cards, RT s t c := by
 have e : (∀ c ∈ s.Cards, RT s t c) ↔ ∀ j, j < s.Cards.length → SB s t j = true := by
  constructor
  ·intro h j hj; exact SB_iff.2 ⟨_, List.getElem?_eq_getElem hj, h _ (List.getElem_mem hj)⟩
  ·intro h c hc
   obtain ⟨j, hj⟩ := List.mem_iff_getElem?.1 hc
   obtain ⟨c', q1, q2⟩ := SB_iff.1 (h j (List.getElem?_eq_some_iff.1 hj).1)
   rw [hj] at q1; cases q1; exact q2
 rw [e]
 have hp0 := Nat.two_pow_pos s.Cards.length
 constructor
 ·intro h j hj
  have := macc_bit (SB s t) j s.Cards.length
  rw [show macc (SB s t) s.Cards.length = 2 ^ s.Cards.length - 1 from h, Nat.testBit_two_pow_sub_one, decide_eq_true hj] at this
  simpa using this.symm
 ·intro h
  refine bits_eq (macc_lt _ _) (by omega) fun j hj => ?_
  unfold allN
  rw [macc_bit, Nat.testBit_two_pow_sub_one, decide_eq_true hj, h j hj]; rfl
end
end Go.Proofs.Ytbnfnhfanooplaa

namespace Go.Proofs.Ytbnfnhfanooplaa
open _root_.Go.Proofs.Try
open Go.Abs Go.Abs.Grow
set_option maxRecDepth 100000
noncomputable section
def hc (s : Stm) (p : Int × Int) : List Trh → Int
 | [] => 0
 | t :: l => (if hitP s t p.1 p.2 then 1 else 0) + hc s p l
theorem hc_cons {s : Stm} {p : Int × Int} {t : Trh} {l : List Trh} : hc s p (t :: l) = (if hitP s t p.1 p.2 then 1 else 0) + hc s p l := rfl
theorem hc_cnt {s : Stm} {p : Int × Int} : ∀ l : List Trh, hc s p l = ((l.countP fun t => decide (hitP s t p.1 p.2) : Nat) : Int)
 | [] => rfl
 | t :: l => by
  unfold hc
  rw [hc_cnt l, List.countP_cons]
  by_cases h : hitP s t p.1 p.2
  ·rw [if_pos h, if_pos (decide_eq_true h)]; omega
  ·rw [if_neg h, if_neg (by rw [decide_eq_false h]; simp)]; omega
theorem hc_rng {s : Stm} {p : Int × Int} (l : List Trh) : 0 ≤ hc s p l ∧ hc s p l ≤ l.length := by
 rw [hc_cnt]
 have := List.countP_le_length (p := fun t => decide (hitP s t p.1 p.2)) (l := l)
 omega
def HOk (s : Stm) (H : List Int) (h : Int × Int → Int) : Prop := H.length = 144 ∧ ∀ x y, gr s x y → H[(x * 12 + y).toNat]? = some (h (x, y))
theorem HOk.congr {s : Stm} {H : List Int} {h h' : Int × Int → Int} (k : HOk s H h) (e : ∀ x y, gr s x y → h (x, y) = h' (x, y)) : HOk s H h' := ⟨k.1, fun x y q => by rw [k.2 x y q, e x y q]⟩
theorem HOk.idx {s : Stm} {H : List Int} {h : Int × Int → Int} (k : HOk s H h) {x y : Int} (hg : gr s x y) : idx H (x * 12 + y) = some (h (x, y)) := by
 have := k.2 x y hg
 unfold gr at hg
 unfold Go.Abs.idx
 rw [if_pos (by omega)]; exact this
theorem HOk.set {s : Stm} (hm : ¬ ManyS s) {H : List Int} {h : Int × Int → Int} (k : HOk s H h) {x y : Int} (hg : gr s x y) (v : Int) : HOk s (H.set (x * 12 + y).toNat v) (fun q => if q = (x, y) then v else h q) := by
 obtain ⟨m1, m2, _⟩ := not_many hm
 refine ⟨by rw [List.length_set]; exact k.1, fun a b q => ?_⟩
 have hk := k.1
 by_cases e : (a, b) = (x, y)
 ·refine Eq.trans ?_ (congrArg some (if_pos e).symm)
  cases e
  rw [List.getElem?_set_self (by unfold gr at hg; omega)]
 ·refine Eq.trans ?_ (congrArg some (if_neg e).symm)
  rw [List.getElem?_set_ne, k.2 a b q]
  intro he
  unfold gr at hg q
  have h1 : a = x := by omega
  have h2 : b = y := by omega
  exact e (by rw [h1, h2])
def grR (s : Stm) : Rct := ⟨⟨0, s.Wide - 1⟩, ⟨0, s.High - 1⟩⟩
theorem grR_ok {s : Stm} (h : VS0 s) : rcOk s (grR s) := by
 have a := h.wide; have b := h.high
 unfold rcOk Wi grR; dsimp only; omega
theorem grid_eq {s : Stm} (h : VS0 s) (hm : ¬ ManyS s) : pgrid s = some (grR s) := by
 obtain ⟨m1, m2, _⟩ := not_many hm
 have a := h.wide; have b := h.high
 unfold pgrid
 rw [gd_pos (fI (by omega)), gd_pos (fI (by omega))]; rfl
theorem mem_grid {s : Stm} (h : VS0 s) {x y : Int} : (x, y) ∈ plcs (grR s) ↔ gr s x y := by
 rw [mem_plcs (grR_ok h)]
 unfold inP inR grR gr; rfl
theorem segI_inc : ∀ (n : Nat) (lo : Int), (segI lo n).Pairwise (· < ·)
 | 0, _ => List.Pairwise.nil
 | n + 1, lo => List.pairwise_cons.2 ⟨fun a ha => by have := (mem_segI).1 ha; omega, segI_inc n (lo + 1)⟩
theorem nums_inc (r : Rg) : (nums r).Pairwise (· < ·) := segI_inc _ _
theorem plcs_nodup (r : Rct) : (plcs r).Nodup := by
 unfold plcs List.Nodup
 rw [List.pairwise_flatMap]
 refine ⟨fun x _ => ?_, (nums_inc r.X).imp fun {a b} hab p hp q hq he => ?_⟩
 ·rw [List.pairwise_map]
  exact (nums_inc r.Y).imp fun {a b} hab he => by have := congrArg Prod.snd he; dsimp only at this; omega
 ·obtain ⟨_, _, rfl⟩ := List.mem_map.1 hp
  obtain ⟨_, _, rfl⟩ := List.mem_map.1 hq
  have := congrArg Prod.fst he; dsimp only at this; omega
theorem tally_L1 {s : Stm} {W : Wk} (hss : W.s = s) (h : VS0 s) (hm : ¬ ManyS s) {t : Trh} (ht : isT s t) {n k : Int} (hk : 0 ≤ k ∧ k ≤ 100000) {K : List Int → Int → Option (List Int × Int)} :
  ∀ (ps : List (Int × Int)) (H : List Int) (g : Int × Int → Int), ps.Nodup → (∀ p ∈ ps, gr s p.1 p.2 ∧ 0 ≤ g p ∧ g p ≤ k) → HOk s H g → ∃ H', ptally_L1 W n t K ps H = K H' (n + 1) ∧ HOk s H' (fun p => g p + if p ∈ ps ∧ hitP s t p.1 p.2 then 1 else 0)
 | [], H, g, _, _, hH => ⟨H, by unfold ptally_L1; rfl, hH.congr fun x y _ => by simp⟩
 | (x, y) :: ps, H, g, hn, hb, hH => by
  rw [List.nodup_cons] at hn
  obtain ⟨hg, b1, b2⟩ := hb _ (List.mem_cons_self ..)
  dsimp only at hg
  obtain ⟨m1, m2, _⟩ := not_many hm
  have hg' := hg
  unfold gr at hg'
  unfold ptally_L1
  dsimp only
  rw [hss, hits_ev h hm ht hg, obs]
  by_cases hh : hitP s t x y
  ·rw [if_pos (decide_eq_true hh), gd_pos (by omega), gd_pos (by omega), hH.idx hg, obs, gd_pos (fI (by omega)), gd_pos (by omega), gd_pos (by omega), gd_pos hH.1]
   obtain ⟨H', e1, e2⟩ := tally_L1 hss h hm ht hk (n := n) (K := K) ps _ _ hn.2 (fun p hp => by
    obtain ⟨q1, q2⟩ := hb p (List.mem_cons_of_mem _ hp)
    have hne : p ≠ (x, y) := fun he => hn.1 (by rw [← he]; exact hp)
    rw [if_neg hne]
    exact ⟨q1, q2⟩) (hH.set hm hg (g (x, y) + 1))
   refine ⟨H', e1, e2.congr fun a b _ => ?_⟩
   by_cases e : (a, b) = (x, y)
   ·rw [if_pos e, e, if_neg fun q => hn.1 q.1, if_pos ⟨List.mem_cons_self .., hh⟩]; omega
   ·rw [if_neg e]
    congr 1
    by_cases hp : (a, b) ∈ ps ∧ hitP s t a b
    ·rw [if_pos hp, if_pos ⟨List.mem_cons_of_mem _ hp.1, hp.2⟩]
    ·rw [if_neg hp, if_neg fun q => hp ⟨(List.mem_cons.1 q.1).resolve_left e, q.2⟩]
  ·rw [if_neg (by rw [decide_eq_false hh]; simp)]
   obtain ⟨H', e1, e2⟩ := tally_L1 hss h hm ht hk (n := n) (K := K) ps H g hn.2 (fun p hp => hb p (List.mem_cons_of_mem _ hp)) hH
   refine ⟨H', e1, e2.congr fun a b _ => ?_⟩
   congr 1
   by_cases hp : (a, b) ∈ ps ∧ hitP s t a b
   ·rw [if_pos hp, if_pos ⟨List.mem_cons_of_mem _ hp.1, hp.2⟩]
   ·rw [if_neg hp, if_neg fun q => hp ⟨(List.mem_cons.1 q.1).resolve_left fun e => hh (by cases e; exact q.2), q.2⟩]
theorem tally_L0 {s : Stm} {W : Wk} (hss : W.s = s) (h : VS0 s) (hm : ¬ ManyS s) : ∀ (l : List Trh) (H : List Int) (g : Int × Int → Int) (n : Int), (∀ t ∈ l, isT s t) → HOk s H g → (∀ x y, gr s x y → 0 ≤ g (x, y) ∧ g (x, y) ≤ n) → 0 ≤ n → n + l.length ≤ 100000 →
  ∃ H', ptally_L0 W l H n = some (H', n + l.length) ∧ HOk s H' (fun p => g p + hc s p l)
 | [], H, g, n, _, hH, _, _, _ => ⟨H, by unfold ptally_L0; simp, hH.congr fun x y _ => by unfold hc; omega⟩
 | t :: l, H, g, n, hl, hH, hb, h0, hs => by
  simp only [List.length_cons] at hs
  unfold ptally_L0
  rw [gd_pos (fI (by omega)), hss, grid_eq h hm, obs, places_eq (h.fit hm) (grR_ok h), obs]
  obtain ⟨H1, e1, e2⟩ := tally_L1 hss h hm (hl t (List.mem_cons_self ..)) (n := n) (k := n) ⟨h0, by omega⟩ (K := ptally_L0 W l) (plcs (grR s)) H g (plcs_nodup _) (fun p hp => by
   have hg := (mem_grid h (x := p.1) (y := p.2)).1 hp
   exact ⟨hg, hb _ _ hg⟩) hH
  obtain ⟨H', e3, e4⟩ := tally_L0 hss h hm l H1 _ (n + 1) (fun x hx => hl x (List.mem_cons_of_mem _ hx)) e2 (fun x y q => by
   have := hb x y q
   dsimp only
   split <;> omega) (by omega) (by omega)
  refine ⟨H', e1.trans (e3.trans ?_), e4.congr fun x y q => ?_⟩
  ·simp only [List.length_cons]; congr 2; omega
  ·rw [hc_cons]
   dsimp only
   have hmm := (mem_grid h (x := x) (y := y)).2 q
   by_cases hh : hitP s t x y
   ·rw [if_pos ⟨hmm, hh⟩, if_pos hh]; omega
   ·rw [if_neg fun q => hh q.2, if_neg hh]; omega
theorem tally_eq {s : Stm} {W : Wk} (hw : WOk s W) : ∃ H, ptally W = some (H, ((TL s).length : Int)) ∧ HOk s H (fun p => hc s p (TL s)) := by
 have hlen := TL_len hw.v0 hw.many
 obtain ⟨m1, m2, _⟩ := not_many hw.many
 obtain ⟨H, e1, e2⟩ := tally_L0 hw.ss hw.v0 hw.many (TL s) (List.replicate 144 0) (fun _ => 0) 0 (fun t ht => ((mem_TL hw.v0).1 ht).1) ⟨List.length_replicate .., fun x y q => by
  unfold gr at q
  rw [List.getElem?_replicate, if_pos (by omega)]⟩ (fun _ _ _ => by omega) (Int.le_refl _) (by omega)
 refine ⟨H, ?_, e2.congr fun x y _ => Int.zero_add _⟩
 unfold ptally
 rw [truths_eq hw, obs, e1, Int.zero_add]
def wN (s : Stm) (l : List Trh) (x y : Int) : Int := max (hc s (x, y) l) (l.length - hc s (x, y) l)
theorem wN_rng {s : Stm} {l : List Trh} {x y : Int} : 0 ≤ wN s l x y ∧ wN s l x y ≤ l.length := by
 have := hc_rng (s := s) (p := (x, y)) l
 unfold wN; omega
def stepB (W : Int → Int → Int) (b : Int × Int × Int) (p : Int × Int) : Int × Int × Int := if W p.1 p.2 < b.2.2 then (p.1, p.2, W p.1 p.2) else b
def bst (s : Stm) (l : List Trh) : Int × Int × Int := (plcs (grR s)).foldl (stepB (wN s l)) (0, 0, (l.length : Int))
theorem stepB_inv {W : Int → Int → Int} : ∀ (ps : List (Int × Int)) (b : Int × Int × Int), b.2.2 = W b.1 b.2.1 → (ps.foldl (stepB W) b).2.2 = W (ps.foldl (stepB W) b).1 (ps.foldl (stepB W) b).2.1 ∧ (ps.foldl (stepB W) b).2.2 ≤ b.2.2 ∧ (∀ p ∈ ps, (ps.foldl (stepB W) b).2.2 ≤ W p.1 p.2) ∧ (((ps.foldl (stepB W) b).1, (ps.foldl (stepB W) b).2.1) ∈ ps ∨ ps.foldl (stepB W) b = b)
 | [], b, h => ⟨h, Int.le_refl _, fun p hp => (by cases hp), .inr rfl⟩
 | p :: ps, b, h => by
  have hs : (stepB W b p).2.2 = W (stepB W b p).1 (stepB W b p).2.1 ∧ (stepB W b p).2.2 ≤ b.2.2 ∧ (stepB W b p).2.2 ≤ W p.1 p.2 ∧ (stepB W b p = (p.1, p.2, W p.1 p.2) ∨ stepB W b p = b) := by
   unfold stepB
   by_cases hc : W p.1 p.2 < b.2.2
   ·rw [if_pos hc]; exact ⟨rfl, Int.le_of_lt hc, Int.le_refl _, .inl rfl⟩
   ·rw [if_neg hc]; exact ⟨h, Int.le_refl _, by omega, .inr rfl⟩
  obtain ⟨a1, a2, a3, a4⟩ := stepB_inv ps (stepB W b p) hs.1
  rw [List.foldl_cons]
  refine ⟨a1, by omega, fun q hq => ?_, ?_⟩
  ·rcases List.mem_cons.1 hq with rfl | hq
   ·omega
   ·exact a3 q hq
  ·rcases a4 with a4 | a4
   ·exact .inl (List.mem_cons_of_mem _ a4)
   ·rw [a4]
    rcases hs.2.2.2 with e | e
    ·rw [e]; exact .inl (List.mem_cons_self ..)
    ·exact .inr e
theorem segI_cons {lo : Int} {n : Nat} (h : 0 < n) : segI lo n = lo :: segI (lo + 1) (n - 1) := by
 cases n with
 | zero => omega
 | succ n => rfl
theorem plcs_head {s : Stm} (h : VS0 s) : ∃ r, plcs (grR s) = (0, 0) :: r := by
 have a := h.wide; have b := h.high
 unfold plcs nums cnt grR
 dsimp only
 rw [segI_cons (lo := 0) (n := (s.Wide - 1 - 0 + 1).toNat) (by omega), List.flatMap_cons, segI_cons (lo := 0) (n := (s.High - 1 - 0 + 1).toNat) (by omega), List.map_cons]
 exact ⟨_, rfl⟩
theorem bst_start {s : Stm} (h : VS0 s) (l : List Trh) : (plcs (grR s)).foldl (stepB (wN s l)) (0, 0, (l.length : Int) + 1) = bst s l := by
 obtain ⟨r, hr⟩ := plcs_head h
 unfold bst
 rw [hr, List.foldl_cons, List.foldl_cons]
 congr 1
 have := wN_rng (s := s) (l := l) (x := 0) (y := 0)
 unfold stepB
 dsimp only
 by_cases hc : wN s l 0 0 < (l.length : Int)
 ·rw [if_pos hc, if_pos (by omega)]
 ·rw [if_neg hc, if_pos (by omega), show wN s l 0 0 = (l.length : Int) by omega]
theorem bst_spec {s : Stm} (h : VS0 s) (l : List Trh) : gr s (bst s l).1 (bst s l).2.1 ∧ (bst s l).2.2 = wN s l (bst s l).1 (bst s l).2.1 ∧ ∀ x y, gr s x y → (bst s l).2.2 ≤ wN s l x y := by
 obtain ⟨r, hr⟩ := plcs_head h
 have hw := wN_rng (s := s) (l := l) (x := 0) (y := 0)
 have e : stepB (wN s l) (0, 0, (l.length : Int)) (0, 0) = (0, 0, wN s l 0 0) := by
  unfold stepB
  dsimp only
  by_cases hc : wN s l 0 0 < (l.length : Int)
  ·rw [if_pos hc]
  ·rw [if_neg hc, show wN s l 0 0 = (l.length : Int) by omega]
 have hb : bst s l = r.foldl (stepB (wN s l)) (0, 0, wN s l 0 0) := by unfold bst; rw [hr, List.foldl_cons, e]
 obtain ⟨a1, a2, a3, a4⟩ := stepB_inv (W := wN s l) r (0, 0, wN s l 0 0) rfl
 rw [← hb] at a1 a2 a3 a4
 have g0 : gr s 0 0 := (mem_grid h).1 (by rw [hr]; exact List.mem_cons_self ..)
 refine ⟨?_, a1, fun x y q => ?_⟩
 ·rcases a4 with a4 | a4
  ·exact (mem_grid h).1 (by rw [hr]; exact List.mem_cons_of_mem _ a4)
  ·rw [a4]; exact g0
 ·have := (mem_grid h).2 q
  rw [hr] at this
  rcases List.mem_cons.1 this with e | e
  ·cases e; exact a2
  ·exact a3 _ e
theorem best_L0 {s : Stm} (hm : ¬ ManyS s) {l : List Trh} (hl : l.length ≤ 100000) {H : List Int} (hH : HOk s H (fun p => hc s p l)) : ∀ (ps : List (Int × Int)) (b : Int × Int × Int), (∀ p ∈ ps, gr s p.1 p.2) → pBest_L0 (H, (l.length : Int)) ps b.1 b.2.1 b.2.2 = some ((ps.foldl (stepB (wN s l)) b).1, (ps.foldl (stepB (wN s l)) b).2.1, (ps.foldl (stepB (wN s l)) b).2.2, 0)
 | [], b, _ => rfl
 | (x, y) :: ps, b, hp => by
  obtain ⟨m1, m2, _⟩ := not_many hm
  have hg := hp _ (List.mem_cons_self ..)
  dsimp only at hg
  have hg' := hg
  unfold gr at hg'
  have hr := hc_rng (s := s) (p := (x, y)) l
  have ih := best_L0 hm hl hH ps (stepB (wN s l) b (x, y)) fun p h => hp p (List.mem_cons_of_mem _ h)
  unfold pBest_L0
  dsimp only
  rw [gd_pos (by omega), gd_pos (by omega), hH.idx hg, obs, gd_pos (fI (by omega)), List.foldl_cons, ← ih]
  show (if wN s l x y < b.2.2 then pBest_L0 (H, (l.length : Int)) ps x y (wN s l x y) else pBest_L0 (H, (l.length : Int)) ps b.1 b.2.1 b.2.2) = _
  unfold stepB
  dsimp only
  by_cases hc : wN s l x y < b.2.2
  ·rw [if_pos hc, if_pos hc]
  ·rw [if_neg hc, if_neg hc]
theorem Best_ok {s : Stm} (h : VS s) (ht : HT s) : pBest s = some ((bst s (TL s)).1, (bst s (TL s)).2.1, (bst s (TL s)).2.2, 0) := by
 obtain ⟨W, h1, hw⟩ := openTrue_ok h (L := []) (by unfold shrt; simp) (fun r hr => by cases hr) ht
 obtain ⟨H, e1, e2⟩ := tally_eq hw
 have hlen := TL_len hw.v0 hw.many
 unfold pBest
 rw [h1, obs, if_pos rfl]
 dsimp only
 rw [e1, obs, hw.ss, grid_eq hw.v0 hw.many, obs, places_eq (hw.v0.fit hw.many) (grR_ok hw.v0), obs]
 exact best_L0 hw.many (by omega) e2 (plcs (grR s)) (0, 0, ((TL s).length : Int)) fun p hp => (mem_grid hw.v0).1 hp
theorem Best_no {s : Stm} (h : VS s) (ht : ¬ HT s) : pBest s = some (0, 0, 0, 11) := by
 unfold pBest
 rw [openTrue_no h (L := []) (by unfold shrt; simp) (fun r hr => by cases hr) ht, obs, if_neg (by decide)]
theorem rWorst_eq {s : Stm} (h : VS0 s) (hm : ¬ ManyS s) {l : List Trh} (hl : l.length ≤ 100000) (ht : ∀ t ∈ l, isT s t) {x y : Int} (hg : gr s x y) : prWorst s l x y = some (wN s l x y) := by
 have key : ∀ (d i : Nat), i ≤ l.length → l.length - i < d → ∀ k : Int, 0 ≤ k → k ≤ i → k + hc s (x, y) (l.drop i) = hc s (x, y) l → prWorst_L0 s l x y d k (i : Int) = some (wN s l x y) := by
  intro d
  induction d with
  | zero => intro i _ h; omega
  | succ d ih =>
   intro i hi hd k k0 k1 hk
   unfold prWorst_L0
   by_cases hin : i = l.length
   ·rw [hin, List.drop_length] at hk
    have : k = hc s (x, y) l := by rw [← hk]; unfold hc; omega
    rw [if_neg (by omega), gd_pos (fI (by omega)), this]; rfl
   ·have hlt : i < l.length := by omega
    have hgi := List.getElem?_eq_getElem hlt
    have hti := ht _ (List.getElem_mem hlt)
    rw [List.drop_eq_getElem_cons hlt] at hk
    rw [hc_cons] at hk
    generalize l[i] = t at hgi hti hk
    rw [if_pos (by omega), idx_at hgi, obs, rHit_ev h hm hti hg, obs, show (i : Int) + 1 = ((i + 1 : Nat) : Int) by omega]
    by_cases hh : hitP s t x y
    ·rw [if_pos hh] at hk
     rw [if_pos (decide_eq_true hh), gd_pos (fI (by omega)), gd_pos (fI (by omega))]
     exact ih (i + 1) (by omega) (by omega) (k + 1) (by omega) (by omega) (by omega)
    ·rw [if_neg hh] at hk
     rw [if_neg (by rw [decide_eq_false hh]; simp), gd_pos (fI (by omega))]
     exact ih (i + 1) (by omega) (by omega) k (by omega) (by omega) (by omega)
 unfold prWorst
 exact key _ 0 (Nat.zero_le _) (by omega) 0 (Int.le_refl _) (Int.le_refl _) (by rw [List.drop_zero]; omega)
end
end Go.Proofs.Ytbnfnhfanooplaa

namespace Go.Proofs.Ytbnfnhfanooplaa
open _root_.Go.Proofs.Try
open Go.Abs Go.Abs.Grow
set_option maxRecDepth 100000
noncomputable section
structure VX (x : Stm) : Prop where
 b : VS (wC x [])
 n : x.Cards.length ≤ 9
 cv : ∀ c ∈ x.Cards, CV x c
theorem VS.base {s : Stm} (h : VS s) : VS (wC s []) := by
 obtain ⟨m1, m2, m3⟩ := not_many h.many
 refine ⟨⟨h.wide, h.high, h.fall, h.a, h.b, h.half, h.peak, fun c hc => by cases hc⟩, ?_, h.few⟩
 unfold ManyS wC
 simp only [List.length_nil]
 omega
theorem VS.vx {s : Stm} (h : VS s) : VX s := ⟨h.base, by have := (not_many h.many).2.2; omega, h.cards⟩
theorem VX.snoc {s : Stm} (h : VS s) {c : Crd} (hc : CV s c) : VX (wC s (s.Cards ++ [c])) := by
 obtain ⟨m1, m2, m3⟩ := not_many h.many
 refine ⟨h.base, ?_, fun d hd => ?_⟩
 ·show (s.Cards ++ [c]).length ≤ 9
  rw [List.length_append]; simp only [List.length_cons, List.length_nil]; omega
 ·rcases List.mem_append.1 hd with q | q
  ·exact h.cards d q
  ·rw [List.mem_singleton.1 q]; exact hc
theorem VX.ist {x : Stm} (h : VX x) {n : Int} (h0 : 0 ≤ n) (hn : n < manyN x) : isT x (nthT x n) := nth_isT h.b.toVS0 h.b.many (s := wC x []) h0 hn
theorem VX.nth {x : Stm} (h : VX x) {n : Int} (h0 : 0 ≤ n) (hn : n < manyN x) : prNth x n = some (nthT x n) := rNth_eq h.b.toVS0 h.b.many (s := wC x []) h0 hn
theorem VX.many {x : Stm} (h : VX x) : prMany x = some (manyN x) := rMany_eq h.b.toVS0 h.b.many (s := wC x [])
theorem VX.mr {x : Stm} (h : VX x) : 1 ≤ manyN x ∧ manyN x ≤ 2000 := ⟨(many_rng h.b.toVS0 h.b.many).2.2.2.2.2.2.1, h.b.few⟩
theorem rR1_w {x : Stm} {V : List Crd} {t : Trh} {c : Crd} {X : Int} {K : Bool → Int → Option Bool} : ∀ (d : Nat) (b : Bool) (y : Int), prRight_L1 (wC x V) t c X K d b y = prRight_L1 x t c X K d b y
 | 0, _, _ => rfl
 | d + 1, b, y => by
  unfold prRight_L1
  simp only [rR1_w d]
  rfl
theorem rR0_w {x : Stm} {V : List Crd} {t : Trh} {c : Crd} : ∀ (d : Nat) (b : Bool) (y : Int), prRight_L0 (wC x V) t c d b y = prRight_L0 x t c d b y
 | 0, _, _ => rfl
 | d + 1, b, y => by
  have e : prRight_L0 (wC x V) t c d = prRight_L0 x t c d := funext fun b => funext fun y => rR0_w d b y
  unfold prRight_L0
  rw [e, rR1_w]
theorem VX.right {x : Stm} (h : VX x) {t : Trh} (ht : isT x t) {c : Crd} (hc : CV x c) : Ev (prRight x t c) (RT x t c) := by
 have e : prRight (wC x []) t c = prRight x t c := rR0_w _ _ _
 rw [← e]
 exact rRight_ev h.b.toVS0 h.b.many (s := wC x []) ht hc
theorem pow9 {i : Nat} (h : i ≤ 9) : 2 ^ i ≤ 512 := Nat.le_trans (Nat.pow_le_pow_right (by omega) h) (by decide)
theorem rEvery_eqX {s : Stm} (hn : s.Cards.length ≤ 9) : prEvery s = some ((2 ^ s.Cards.length - 1 : Nat) : Int) := by
 have hp := pow9 hn
 have h0 := Nat.two_pow_pos s.Cards.length
 have e : (1 : Int) * 2 ^ (Int.toNat (s.Cards.length : Int)) = ((2 ^ s.Cards.length : Nat) : Int) := by rw [Int.toNat_natCast, Int.one_mul, Int.natCast_pow]; rfl
 unfold prEvery
 rw [wu (by omega), e, gd_pos (by omega), gd_pos (by omega), gd_pos (by omega), gd_pos (fI (by omega)), gd_pos (fI (by omega))]
 congr 1; omega
theorem all_L1X {s : Stm} (h : VX s) {n : Int} (h0 : 0 ≤ n) (hn : n < manyN s) {l : List Int} {K : List Int → Int → Option (List Int)} (hl : l.length < 1048576) : ∀ (d i : Nat), i ≤ s.Cards.length → s.Cards.length - i < d →
  prAll_L1 s l n K d (macc (SB s (nthT s n)) i : Int) (i : Int) = K (l ++ [(allN s (nthT s n) : Int)]) (n + 1)
 | 0, i, _, hd => by omega
 | d + 1, i, hi, hd => by
  have h3 := h.n
  have hmr := h.mr
  unfold prAll_L1
  by_cases hin : i = s.Cards.length
  ·rw [if_neg (by omega), gd_pos hl, gd_pos (fI (by omega)), hin]; rfl
  have hlt : i < s.Cards.length := by omega
  have hg := List.getElem?_eq_getElem hlt
  have hc := h.cv _ (List.getElem_mem hlt)
  generalize s.Cards[i] = c at hg hc
  have ht := h.ist h0 hn
  have ih := all_L1X h h0 hn (K := K) hl d (i + 1) (by omega) (by omega)
  have hSB : SB s (nthT s n) i = true ↔ RT s (nthT s n) c := SB_iff.trans ⟨fun ⟨c', q1, q2⟩ => by rw [hg] at q1; cases q1; exact q2, fun q => ⟨c, hg, q⟩⟩
  have hb := macc_lt (SB s (nthT s n)) i
  have hp := pow9 (i := i) (by omega)
  have hp2 := pow9 (i := i + 1) (by omega)
  have hb2 := macc_lt (SB s (nthT s n)) (i + 1)
  have hpow : (1 : Int) * 2 ^ (Int.toNat (wrapZ .u64 (i : Int))) = ((2 ^ i : Nat) : Int) := by rw [wu (by omega), pow_cast, Int.one_mul]
  rw [if_pos (by omega), h.nth h0 hn, obs, idx_at hg, obs]
  obtain ⟨b, q1, q2⟩ := h.right ht hc
  rw [q1, obs, show (i : Int) + 1 = ((i + 1 : Nat) : Int) by omega]
  by_cases hr : RT s (nthT s n) c
  ·have hm : Nat.lor (macc (SB s (nthT s n)) i) (2 ^ i) = macc (SB s (nthT s n)) (i + 1) := by
    conv => rhs; unfold macc
    rw [if_pos (hSB.2 hr)]; rfl
   rw [if_pos (q2.2 hr), hpow, Int.toNat_natCast, Int.toNat_natCast, hm, wu (by omega), gd_pos (by omega), gd_pos (by omega), gd_pos (by omega), gd_pos (fI (by omega)), gd_pos (by omega), gd_pos (by omega), gd_pos (fI (by omega)), gd_pos (fI (by omega)), gd_pos (fI (by omega)), gd_pos (fI (by omega))]
   exact ih
  ·have hm : macc (SB s (nthT s n)) (i + 1) = macc (SB s (nthT s n)) i := by
    conv => lhs; unfold macc
    rw [if_neg fun q => hr (hSB.1 q)]
   rw [if_neg fun q => hr (q2.1 q), gd_pos (fI (by omega)), ← hm]
   exact ih
theorem rAll_eqX {s : Stm} (h : VX s) : prAll s = some (allL' s) := by
 have hmr := h.mr
 have key : ∀ (d m : Nat) (n : Int) (acc : List Int), 0 ≤ n → n + m = manyN s → m < d → acc.length = n.toNat → prAll_L0 s d acc n = some (acc ++ (segI n m).map fun n => ((allN s (nthT s n) : Nat) : Int)) := by
  intro d
  induction d with
  | zero => intro m n acc _ _ h; omega
  | succ d ih =>
   intro m n acc h0 hm hd hacc
   unfold prAll_L0
   rw [h.many, obs]
   cases m with
   | zero => rw [if_neg (by omega)]; simp [segI]
   | succ m =>
    rw [if_pos (by omega)]
    have := all_L1X h h0 (by omega) (l := acc) (K := prAll_L0 s d) (by omega) 1000000 0 (Nat.zero_le _) (by have := h.n; omega)
    refine Eq.trans this ?_
    rw [ih m (n + 1) _ (by omega) (by omega) (by omega) (by rw [List.length_append, hacc]; simp only [List.length_cons, List.length_nil]; omega), List.append_assoc]
    rfl
 unfold prAll
 have := key 1000000 (manyN s).toNat 0 [] (Int.le_refl _) (by omega) (by omega) rfl
 rw [this, List.nil_append]; rfl
def bsL (s : Stm) : List Trh := (segI 0 (manyN s).toNat).map (nthT s)
open Classical in
def RL (s : Stm) : List Trh := (bsL s).filter fun t => decide (∀ c ∈ s.Cards, RT s t c)
open Classical in
theorem rTruths_eqX {s : Stm} (h : VX s) : prTruths s = some (RL s) := by
 have hmr := h.mr
 have hlen := allL_len (s := s)
 have h3 := h.n
 have hp9 := pow9 h3
 have hp0 := Nat.two_pow_pos s.Cards.length
 have key : ∀ (d m i : Nat) (acc : List Trh), i + m = (allL' s).length → m < d → acc.length ≤ i → prTruths_L0 s (allL' s) d acc (i : Int) = some (acc ++ ((segI i m).map (nthT s)).filter fun t => decide (∀ c ∈ s.Cards, RT s t c)) := by
  intro d
  induction d with
  | zero => intro m i _ _ h; omega
  | succ d ih =>
   intro m i acc hi hd hal
   unfold prTruths_L0
   cases m with
   | zero =>
    rw [if_neg (by omega)]
    simp [segI]
   | succ m =>
    have hg := allL_get (s := s) (n := i) (by omega)
    rw [if_pos (by omega), idx_at hg, obs, rEvery_eqX h3, obs, show (i : Int) + 1 = ((i + 1 : Nat) : Int) by omega]
    show _ = some (acc ++ ((nthT s i) :: (segI ((i : Int) + 1) m).map (nthT s)).filter fun t => decide (∀ c ∈ s.Cards, RT s t c))
    rw [show (i : Int) + 1 = ((i + 1 : Nat) : Int) by omega, List.filter_cons]
    by_cases hf : ∀ c ∈ s.Cards, RT s (nthT s (i : Int)) c
    ·rw [if_pos (by rw [allN_full.2 hf]), h.nth (by omega) (by omega), obs, gd_pos (by omega), gd_pos (fI (by omega)), if_pos (decide_eq_true hf),
      ih m (i + 1) _ (by omega) (by omega) (by rw [List.length_append]; simp only [List.length_cons, List.length_nil]; omega), List.append_assoc]
     rfl
    ·rw [if_neg fun q => hf (allN_full.1 (by omega)), gd_pos (fI (by omega)), if_neg (by rw [decide_eq_false hf]; simp), ih m (i + 1) _ (by omega) (by omega) (by omega)]
 unfold prTruths
 rw [rAll_eqX h, obs]
 have := key ((allL' s).length + 1) (allL' s).length 0 [] (Nat.zero_add _) (by omega) (Nat.le_refl _)
 rw [show ((0 : Nat) : Int) = 0 from rfl] at this
 rw [this, List.nil_append, hlen]; rfl
theorem nth_inj {s : Stm} {n m : Int} (h : nthT s n = nthT s m) : n = m := by
 unfold nthT at h
 have h1 := congrArg Trh.A h
 have h2 := congrArg Trh.B h
 have h3 := congrArg Trh.Half h
 have h4 := congrArg Trh.Peak h
 dsimp only at h1 h2 h3 h4
 have k4 : n / cnt s.A / cnt s.B / cnt s.Half = m / cnt s.A / cnt s.B / cnt s.Half := by omega
 have k3 : n / cnt s.A / cnt s.B = m / cnt s.A / cnt s.B := by
  rw [← Int.mul_ediv_add_emod (n / cnt s.A / cnt s.B) (cnt s.Half), ← Int.mul_ediv_add_emod (m / cnt s.A / cnt s.B) (cnt s.Half), k4]; omega
 have k2 : n / cnt s.A = m / cnt s.A := by
  rw [← Int.mul_ediv_add_emod (n / cnt s.A) (cnt s.B), ← Int.mul_ediv_add_emod (m / cnt s.A) (cnt s.B), k3]; omega
 rw [← Int.mul_ediv_add_emod n (cnt s.A), ← Int.mul_ediv_add_emod m (cnt s.A), k2]; omega
theorem bsL_nodup (s : Stm) : (bsL s).Nodup := by
 unfold bsL List.Nodup
 rw [List.pairwise_map]
 exact (segI_inc _ _).imp fun {a b} hab he => by have := nth_inj he; omega
theorem mem_bsL {x : Stm} (h : VX x) {t : Trh} : t ∈ bsL x ↔ isT x t := by
 have hmr := h.mr
 unfold bsL
 rw [List.mem_map]
 constructor
 ·rintro ⟨n, hn, rfl⟩
  have := (mem_segI).1 hn
  exact h.ist (by omega) (by omega)
 ·intro ht
  obtain ⟨n, n1, n2, n3⟩ := isT_nth h.b.toVS0 h.b.many (s := wC x []) ht
  have n2 : n < manyN x := n2
  exact ⟨n, (mem_segI).2 (by omega), n3⟩
theorem chL_nodup (s : Stm) : (chL s).Nodup := by
 have q1 : ∀ a b c : Int, ∀ t ∈ (nums s.Peak).map fun d => (⟨a, b, c, d⟩ : Trh), t.A = a ∧ t.B = b ∧ t.Half = c := fun a b c t ht => by
  obtain ⟨_, _, rfl⟩ := List.mem_map.1 ht; exact ⟨rfl, rfl, rfl⟩
 have q2 : ∀ a b : Int, ∀ t ∈ (nums s.Half).flatMap fun c => (nums s.Peak).map fun d => (⟨a, b, c, d⟩ : Trh), t.A = a ∧ t.B = b := fun a b t ht => by
  obtain ⟨c, _, h⟩ := List.mem_flatMap.1 ht; exact ⟨(q1 a b c t h).1, (q1 a b c t h).2.1⟩
 have q3 : ∀ a : Int, ∀ t ∈ (nums s.B).flatMap fun b => (nums s.Half).flatMap fun c => (nums s.Peak).map fun d => (⟨a, b, c, d⟩ : Trh), t.A = a := fun a t ht => by
  obtain ⟨b, _, h⟩ := List.mem_flatMap.1 ht; exact (q2 a b t h).1
 unfold chL List.Nodup
 rw [List.pairwise_flatMap]
 refine ⟨fun a _ => ?_, (nums_inc s.A).imp fun {a a'} hab p hp q hq he => by have e1 := q3 a p hp; have e2 := q3 a' q hq; rw [he] at e1; omega⟩
 rw [List.pairwise_flatMap]
 refine ⟨fun b _ => ?_, (nums_inc s.B).imp fun {b b'} hab p hp q hq he => by have e1 := (q2 a b p hp).2; have e2 := (q2 a b' q hq).2; rw [he] at e1; omega⟩
 rw [List.pairwise_flatMap]
 refine ⟨fun c _ => ?_, (nums_inc s.Half).imp fun {c c'} hab p hp q hq he => by have e1 := (q1 a b c p hp).2.2; have e2 := (q1 a b c' q hq).2.2; rw [he] at e1; omega⟩
 rw [List.pairwise_map]
 exact (nums_inc s.Peak).imp fun {d d'} hab he => by have := congrArg Trh.Peak he; dsimp only at this; omega
open Classical in
theorem RL_perm {s : Stm} (h : VS s) : (RL s).Perm (TL s) := by
 refine (List.perm_ext_iff_of_nodup ((bsL_nodup s).filter _) ((chL_nodup s).filter _)).2 fun t => ?_
 rw [List.mem_filter, List.mem_filter, mem_bsL h.vx, mem_chL h.toVS0]
open Classical in
theorem mem_RL {s : Stm} (h : VX s) {t : Trh} : t ∈ RL s ↔ TS s t := by
 unfold RL TS
 rw [List.mem_filter, mem_bsL h, decide_eq_true_eq]
theorem RL_len {s : Stm} (h : VX s) : (RL s).length ≤ 2000 := by
 have := h.mr
 refine Nat.le_trans (List.length_filter_le _ _) ?_
 unfold bsL
 rw [List.length_map, segI_len]; omega
theorem hc_perm {s : Stm} {p : Int × Int} {l l' : List Trh} (h : l.Perm l') : hc s p l = hc s p l' := by rw [hc_cnt, hc_cnt, h.countP_eq]
end
end Go.Proofs.Ytbnfnhfanooplaa

namespace Go.Proofs.Ytbnfnhfanooplaa
open _root_.Go.Proofs.Try
open Go.Abs Go.Abs.Grow
set_option maxRecDepth 100000
noncomputable section
def hailC (p q : Int) : Crd := { X := ({ Lo := p, Hi := p } : Rg), Y := ({ Lo := q, Hi := q } : Rg), Hail := true, Size := ({ Lo := (0 : Int), Hi := (9 : Int) } : Rg) }
def dryC (p q : Int) : Crd := { X := ({ Lo := p, Hi := p } : Rg), Y := ({ Lo := q, Hi := q } : Rg), Hail := false, Size := ({ Lo := (0 : Int), Hi := (0 : Int) } : Rg) }
theorem hail_cv {s : Stm} {p q : Int} (hg : gr s p q) : CV s (hailC p q) := by
 unfold gr at hg
 refine ⟨?_, ?_, .inl rfl⟩
 ·unfold rcOk Wi hailC; dsimp only; omega
 ·unfold Wi hailC; dsimp only; omega
theorem dry_cv {s : Stm} {p q : Int} (hg : gr s p q) : CV s (dryC p q) := by
 unfold gr at hg
 refine ⟨?_, ?_, .inr rfl⟩
 ·unfold rcOk Wi dryC; dsimp only; omega
 ·unfold Wi dryC; dsimp only; omega
theorem hail_rt {s : Stm} (h : VS0 s) (hm : ¬ ManyS s) {t : Trh} (ht : isT s t) {p q : Int} (hg : gr s p q) : RT s t (hailC p q) ↔ hitP s t p q := by
 constructor
 ·rintro ⟨x, y, ⟨⟨a1, a2⟩, b1, b2⟩, h2, _⟩
  have e1 : x = p := Int.le_antisymm a2 a1
  have e2 : y = q := Int.le_antisymm b2 b1
  subst e1 e2
  exact h2.2 rfl
 ·intro hh
  have := szN_rng h hm ht hg
  exact ⟨p, q, ⟨⟨Int.le_refl _, Int.le_refl _⟩, Int.le_refl _, Int.le_refl _⟩, ⟨fun _ => rfl, fun _ => hh⟩, this⟩
theorem dry_rt {s : Stm} {t : Trh} {p q : Int} : RT s t (dryC p q) ↔ ¬ hitP s t p q := by
 constructor
 ·rintro ⟨x, y, ⟨⟨a1, a2⟩, b1, b2⟩, h2, _⟩
  have e1 : x = p := Int.le_antisymm a2 a1
  have e2 : y = q := Int.le_antisymm b2 b1
  subst e1 e2
  exact fun hh => by have := h2.1 hh; cases this
 ·intro hh
  refine ⟨p, q, ⟨⟨Int.le_refl _, Int.le_refl _⟩, Int.le_refl _, Int.le_refl _⟩, ⟨fun a => absurd a hh, fun a => by cases a⟩, ?_⟩
  have : szN s t p q = 0 := by unfold szN; rw [if_neg hh]
  rw [this]
  exact ⟨Int.le_refl _, Int.le_refl _⟩
open Classical in
theorem RL_snoc {s : Stm} {c : Crd} {P : Trh → Bool} (hP : ∀ t ∈ bsL s, (P t = true ↔ RT s t c)) : (RL (wC s (s.Cards ++ [c]))).length = (RL s).countP P := by
 rw [List.countP_eq_length_filter]
 unfold RL
 rw [List.filter_filter]
 show ((bsL s).filter _).length = _
 congr 1
 refine List.filter_congr fun t ht => ?_
 rw [Bool.eq_iff_iff, Bool.and_eq_true, decide_eq_true_eq, decide_eq_true_eq, hP t ht]
 constructor
 ·intro q
  exact ⟨q c (List.mem_append_right _ (List.mem_singleton.2 rfl)), fun d hd => q d (List.mem_append_left _ hd)⟩
 ·rintro ⟨q1, q2⟩ d hd
  rcases List.mem_append.1 hd with q | q
  ·exact q2 d q
  ·rw [List.mem_singleton.1 q]; exact q1
theorem m_StormBest {s : Stm} {whr : Int} (_hs : ok_Stm s) (hwh : fitsP .u16 whr) : pStormBest s whr = some true := by
 unfold pStormBest
 simp only [List.nil_append, List.length_nil, Nat.zero_add]
 refine ready_ev.pick (fun ⟨ht, h⟩ => ?_) fun _ => by rw [if_neg (by simp), aw]
 obtain ⟨m1, m2, m3⟩ := not_many h.many
 have w1 := h.wide; have w2 := h.high
 rw [if_pos rfl, lStorm_eq ht.1, obs]
 by_cases hT : HT s
 ·obtain ⟨hg, hw, hmin⟩ := bst_spec h.toVS0 (TL s)
  obtain ⟨r, r1, r2⟩ := box_eq h hwh
  have hg2 : gr s r.X.Lo r.Y.Lo := by
   obtain ⟨a, b⟩ := r2
   unfold Wi at a b
   unfold gr; omega
  rw [Best_ok h hT, obs]
  obtain ⟨⟨p, q, w⟩, hb⟩ : ∃ b, bst s (TL s) = b := ⟨_, rfl⟩
  rw [hb] at hg hw hmin ⊢
  dsimp only at hg hw hmin ⊢
  have hg' := hg
  unfold gr at hg'
  have hpm := RL_perm h
  have e1 : wN s (TL s) = wN s (RL s) := funext fun x => funext fun y => by unfold wN; rw [hc_perm hpm.symm, hpm.symm.length_eq]
  rw [e1] at hw hmin
  have n1 : ((RL (wC s (s.Cards ++ [hailC p q]))).length : Int) = hc s (p, q) (RL s) := by
   rw [hc_cnt, RL_snoc (P := fun t => decide (hitP s t p q)) fun t ht => decide_eq_true_iff.trans (hail_rt h.toVS0 h.many ((mem_bsL h.vx).1 ht) hg).symm]
  have n2 : ((RL (wC s (s.Cards ++ [dryC p q]))).length : Int) = (RL s).length - hc s (p, q) (RL s) := by
   have hcq : hc s (p, q) (RL s) = (((RL s).countP fun t => decide (hitP s t p q) : Nat) : Int) := hc_cnt _
   rw [hcq, RL_snoc (P := fun t => decide (¬ decide (hitP s t p q) = true)) fun t _ => by rw [decide_eq_true_iff, decide_eq_true_iff]; exact dry_rt.symm]
   have := List.length_eq_countP_add_countP (p := fun t => decide (hitP s t p q)) (l := RL s)
   omega
  have t1 := rTruths_eqX (VX.snoc h (hail_cv hg))
  have t2 := rTruths_eqX (VX.snoc h (dry_cv hg))
  have t3 := rTruths_eqX h.vx
  have t4 := rWorst_eq h.toVS0 h.many (l := RL s) (by have := RL_len h.vx; omega) (fun t q => ((mem_RL h.vx).1 q).1) hg2
  have hle := hmin _ _ hg2
  have hw' : w = max (hc s (p, q) (RL s)) ((RL s).length - hc s (p, q) (RL s)) := hw
  rw [← n2, ← n1] at hw'
  rw [if_pos rfl, gd_pos (fI (by omega)), In_ev.some_of hg'.1, obs, if_pos rfl, gd_pos (fI (by omega)), In_ev.some_of hg'.2, obs, if_pos rfl, gd_pos (by omega), gd_pos (by simp only [List.length_cons, List.length_nil]; omega), gd_pos (by omega), gd_pos (by simp only [List.length_cons, List.length_nil]; omega)]
  show ((prTruths (wC s (s.Cards ++ [hailC p q]))).bind fun _ => (prTruths (wC s (s.Cards ++ [dryC p q]))).bind fun _ => _) = _
  rw [t1, obs, t2, obs, r1, obs, t3, obs, t4, obs, if_pos (by omega), if_pos (by omega), if_pos hw'.symm, if_pos hle, aw]
 ·rw [Best_no h hT, obs]
  dsimp only
  rw [if_neg (by decide), if_pos rfl, aw]
end
end Go.Proofs.Ytbnfnhfanooplaa

namespace Go.Proofs.Ytbnfnhfanooplaa
open _root_.Go.Proofs.Try
open Go.ChangeShapes Go.WideShapes Go.ChangeAt Go.RowKit Go.Abs
set_option maxRecDepth 100000
theorem op3 : Opens prog 3 Int (fitsP .i64) := opens_int (by kernel_rfl)
theorem op23 : Opens prog 23 Rg ok_Rg := opens_struct (fs := [(3, 0), (3, 1)]) (by kernel_rfl) (by kernel_rfl) (opensFs_cons (α := Int) (ok := fitsP .i64) (k := 1) op3 (by kernel_rfl) rfl (opensFs_cons (α := Int) (ok := fitsP .i64) (k := 1) op3 (by kernel_rfl) rfl opensFs_nil)) (by kernel_rfl) fun m vs h => by
 obtain ⟨a0, c0, r0, m0, h0, p0, k0, s0, ⟨a1, c1, r1, m1, h1, p1, k1, s1, rfl⟩⟩ := h
 have p0 : c0 = [.int .i64 a0] := p0; subst p0
 have p1 : c1 = [.int .i64 a1] := p1; subst p1
 subst h1 h0
 exact ⟨⟨a0, a1⟩, rfl, ⟨k0, k1⟩⟩
theorem op4 : Opens prog 4 Bool (fun _ => True) := opens_bool (by kernel_rfl)
theorem op97 : Opens prog 97 Crd ok_Crd := opens_struct (fs := [(23, 0), (23, 2), (4, 4), (23, 5)]) (by kernel_rfl) (by kernel_rfl) (opensFs_cons (α := Rg) (ok := ok_Rg) (k := 2) op23 (by kernel_rfl) rfl (opensFs_cons (α := Rg) (ok := ok_Rg) (k := 2) op23 (by kernel_rfl) rfl (opensFs_cons (α := Bool) (ok := (fun _ => True)) (k := 1) op4 (by kernel_rfl) rfl (opensFs_cons (α := Rg) (ok := ok_Rg) (k := 2) op23 (by kernel_rfl) rfl opensFs_nil)))) (by kernel_rfl) fun m vs h => by
 obtain ⟨a0, c0, r0, m0, h0, p0, k0, s0, ⟨a1, c1, r1, m1, h1, p1, k1, s1, ⟨a2, c2, r2, m2, h2, p2, k2, s2, ⟨a3, c3, r3, m3, h3, p3, k3, s3, rfl⟩⟩⟩⟩ := h
 have p0 : c0 = [.int .i64 a0.Lo, .int .i64 a0.Hi] := p0; subst p0
 have p1 : c1 = [.int .i64 a1.Lo, .int .i64 a1.Hi] := p1; subst p1
 have p2 : c2 = [.bool a2] := p2; subst p2
 have p3 : c3 = [.int .i64 a3.Lo, .int .i64 a3.Hi] := p3; subst p3
 subst h3 h2 h1 h0
 exact ⟨⟨a0, a1, a2, a3⟩, rfl, ⟨k0, k1, k2, k3⟩⟩
theorem op24 : Opens prog 24 (List Crd) (fun l => l.length ≤ maxLen ∧ ∀ a0 ∈ l, ok_Crd a0) := opens_slice (by kernel_rfl) (by kernel_rfl) op97
theorem op26 : Opens prog 26 Stm ok_Stm := opens_struct (fs := [(3, 0), (3, 1), (3, 2), (23, 3), (23, 5), (23, 7), (23, 9), (24, 11)]) (by kernel_rfl) (by kernel_rfl) (opensFs_cons (α := Int) (ok := fitsP .i64) (k := 1) op3 (by kernel_rfl) rfl (opensFs_cons (α := Int) (ok := fitsP .i64) (k := 1) op3 (by kernel_rfl) rfl (opensFs_cons (α := Int) (ok := fitsP .i64) (k := 1) op3 (by kernel_rfl) rfl (opensFs_cons (α := Rg) (ok := ok_Rg) (k := 2) op23 (by kernel_rfl) rfl (opensFs_cons (α := Rg) (ok := ok_Rg) (k := 2) op23 (by kernel_rfl) rfl (opensFs_cons (α := Rg) (ok := ok_Rg) (k := 2) op23 (by kernel_rfl) rfl (opensFs_cons (α := Rg) (ok := ok_Rg) (k := 2) op23 (by kernel_rfl) rfl (opensFs_cons (α := List Crd) (ok := (fun l => l.length ≤ maxLen ∧ ∀ a0 ∈ l, ok_Crd a0)) (k := 1) op24 (by kernel_rfl) rfl opensFs_nil)))))))) (by kernel_rfl) fun m vs h => by
 obtain ⟨a0, c0, r0, m0, h0, p0, k0, s0, ⟨a1, c1, r1, m1, h1, p1, k1, s1, ⟨a2, c2, r2, m2, h2, p2, k2, s2, ⟨a3, c3, r3, m3, h3, p3, k3, s3, ⟨a4, c4, r4, m4, h4, p4, k4, s4, ⟨a5, c5, r5, m5, h5, p5, k5, s5, ⟨a6, c6, r6, m6, h6, p6, k6, s6, ⟨a7, c7, r7, m7, h7, p7, k7, s7, rfl⟩⟩⟩⟩⟩⟩⟩⟩ := h
 have p0 : c0 = [.int .i64 a0] := p0; subst p0
 have p1 : c1 = [.int .i64 a1] := p1; subst p1
 have p2 : c2 = [.int .i64 a2] := p2; subst p2
 have p3 : c3 = [.int .i64 a3.Lo, .int .i64 a3.Hi] := p3; subst p3
 have p4 : c4 = [.int .i64 a4.Lo, .int .i64 a4.Hi] := p4; subst p4
 have p5 : c5 = [.int .i64 a5.Lo, .int .i64 a5.Hi] := p5; subst p5
 have p6 : c6 = [.int .i64 a6.Lo, .int .i64 a6.Hi] := p6; subst p6
 obtain ⟨d7, rfl, p7⟩ := p7
 subst h7 h6 h5 h4 h3 h2 h1 h0
 exact ⟨⟨a0, a1, a2, a3, a4, a5, a6, a7⟩, ⟨_, rfl, p7⟩, ⟨k0, k1, k2, k3, k4, k5, k6, k7⟩⟩
theorem laid : laidOutB prog = true := by kernel_rfl
theorem ownNone : ownKnob prog.godebug = none := by kernel_rfl
theorem StormBest_lifted (os : Os) (started : os.Started) (H : Type) (enc : TypeId × Value → H) :
    ReturnsInHanded {} Try.checked os 14 .any (Rows.stormBestSpec.pre6 enc Try.prog Try.f14 Rows.stormBestRow.domain false) (Rows.stormBestSpec.post enc Try.prog Try.f14 false true false false) := by
  refine returnsInHanded_of_change (C := Try.checked) ownNone started (by kernel_rfl) Try.func14
    (ChangeSpec.witness6 (enc := enc) (C := Try.checked) false ⟨#[], #[.agg #[.int .i64 0, .int .i64 0, .int .i64 0, .int .i64 0, .int .i64 0, .int .i64 0, .int .i64 0, .int .i64 0, .int .i64 0, .int .i64 0, .int .i64 0, .slice none 0 0], .int .u16 0], []⟩ 8 (by kernel_rfl) (by kernel_rfl) (by kernel_rfl) (by kernel_rfl)) ?_
  intro W base args ds gs before hval0 hW hcnd _
  have hval : ∀ (j : Nat) t v, Try.f14.params[j]? = some t → args[j]? = some v → Value.okWide Try.prog W .any base t v := hval0
  have hW' := hW
  obtain ⟨p, q, hA0, hV, rfl, hfz, hnd⟩ := hW
  have hA : DataW.TrodAll enc Try.prog W 0 (fun _ => true) true Try.f14.params.toList args.toList ds p := hA0
  rw [Try.params14] at hA hval
  obtain ⟨v0, v1, d0, d1, p0, p1, rfl, rfl, rfl, h0, h1⟩ := trodAll_two hA
  obtain ⟨rfl, rfl⟩ := trodVars_none hV
  obtain ⟨n1, hv1⟩ := okWide_int Try.underlying87 (hval 1 87 v1 rfl rfl)
  have hlt : ∀ x ∈ p0 ++ p1, x.block < W.heap.size := fun x hx => by simpa using hW'.lt x (by simpa using hx)
  obtain ⟨fu0, hf0⟩ := id h0
  obtain ⟨fu1, hf1⟩ := id h1
  clear hA0 hval0
  obtain ⟨e0, m0, w0, a_0, le0, sv0, lay0, cr0, rep0, ok0⟩ := op26 H enc W true _ _ _ hf0 _ _ (Lay.nil W)
  obtain ⟨i1, hc1, _, hw1⟩ := DataW.trod_int Try.underlying87 hf1
  obtain ⟨c0_11, rfl, g0_11⟩ := rep0
  obtain ⟨cs0, hv0, cl0⟩ : ∃ cs, v0 = .agg cs ∧ v0.cells.toList = cs.toList := by
    have hl := cr0.length
    cases v0 with
    | agg cs => exact ⟨cs, rfl, rfl⟩
    | _ => exact absurd hl (by simp [Value.cells])
  subst hv0
  subst hv1
  have hi1 : i1 = n1 := by
    have h : [Value.int .u16 n1] = [.int .u16 i1] := hc1
    cases h; rfl
  subst hi1
  have hargs : All2 (VR e0) [.agg 12 [.int .i64 a_0.Wide, .int .i64 a_0.High, .int .i64 a_0.Fall, .int .i64 a_0.A.Lo, .int .i64 a_0.A.Hi, .int .i64 a_0.B.Lo, .int .i64 a_0.B.Hi, .int .i64 a_0.Half.Lo, .int .i64 a_0.Half.Hi, .int .i64 a_0.Peak.Lo, .int .i64 a_0.Peak.Hi, c0_11], .c (.int .u16 i1)] [.agg cs0, .int .u16 i1] := .cons ⟨cs0, rfl, cr0, rfl⟩ (.cons rfl .nil)
  refine (callsIn_wide.1 (call_of fits htab (s_StormBest (s := a_0) (whr := i1) lay0.pre g0_11 (m_StormBest ok0 (wf_fits hw1)) (Q := fun v _ => v = .c (.bool true)) fun _ _ => rfl) lay0.hr (args' := #[.agg cs0, .int .u16 i1]) hargs 0)).mono fun en W' hp => ?_
  obtain ⟨v, v', e', m', rfl, hst, hvr, rfl⟩ := hp
  have hv' : v' = .bool true := hvr
  subst hv'
  have hbelow := lay0.below hst
  refine ⟨_, rfl, [d0, d1], [], p0 ++ p1, [], p0 ++ p1, [], by simpa using hW', trodAll_mk1 (shut_bool Try.underlying4 _),
    trodAll_mk2 (Below.trod laid (by kernel_rfl) (of_decide_eq_true (by kernel_rfl)) h0 hbelow fun x hx => hlt x (by simp [hx])) (Below.trod laid (by kernel_rfl) (of_decide_eq_true (by kernel_rfl)) h1 hbelow fun x hx => hlt x (by simp [hx])), rfl, lay0.kept hst _, fun hc => by cases hc⟩
theorem StormBest_holds : Rows.StormBestSaid :=
 OpenClaim.holds_of_wide 14 Try.f14 rfl rfl rfl rfl rfl rfl rfl ⟨rfl, rfl, rfl, rfl, rfl⟩ rfl rfl rfl rfl rfl (by kernel_rfl) Try.func14 (by kernel_rfl)
  (of_decide_eq_true (by kernel_rfl)) (by unfold Func.isWrapper; first | (rw [if_pos (by decide +kernel)]; kernel_rfl) | (rw [if_neg (by decide +kernel)]; exact ⟨rfl, rfl⟩))
  (fun os started H enc _ => StormBest_lifted os started H enc)
end Go.Proofs.Ytbnfnhfanooplaa

