/- An evaluator of the code of a program, its soundness, what calls ask, memory, and what functions of the program do. Condition: none; a lemma text of this claim. -/
import Derived.Test.YtbnfnhfanooplaaStH

namespace Go.Proofs.Ytbnfnhfanooplaa
open _root_.Go.Proofs.Try
open Go.Abs Go.Abs.Grow
set_option maxRecDepth 100000
noncomputable section
theorem In_ev {n lo hi : Int} : Ev (prIn n lo hi) (lo ≤ n ∧ n ≤ hi) := Ev.ite fun _ => Ev.dec Iff.rfl
theorem has_ev {r : Rg} {n : Int} : Ev (phas r n) (inR r n) := Ev.ite fun _ => Ev.dec Iff.rfl
theorem rWithin_ev {r : Rg} {lo hi : Int} : Ev (prWithin r lo hi) (Wi r lo hi) := Ev.ite fun _ => Ev.ite fun _ => Ev.dec Iff.rfl
theorem within_ev {r : Rg} {lo hi : Int} : Ev (pwithin r lo hi) (Wi r lo hi) := Ev.ite fun _ => Ev.ite fun _ => Ev.dec Iff.rfl
def Fit1 (s : Stm) : Prop := (-1000 ≤ s.Wide ∧ s.Wide ≤ 1000) ∧ (-1000 ≤ s.High ∧ s.High ≤ 1000)
theorem VS0.fit {s : Stm} (h : VS0 s) (hm : ¬ ManyS s) : Fit1 s := by
 obtain ⟨a, b, _⟩ := not_many hm
 have := h.wide; have := h.high
 unfold Fit1; omega
theorem hasRect_ev {s : Stm} (h : Fit1 s) {r : Rct} : Ev (phasRect s r) (rcOk s r) := by
 unfold Fit1 at h
 exact Ev.gd (fI (by omega)) (Ev.and within_ev fun _ => Ev.gd (fI (by omega)) within_ev.ret)
theorem rIsRect_ev {s : Stm} (h : Fit1 s) {r : Rct} : Ev (prIsRect s r) (rcOk s r) := by
 unfold Fit1 at h
 exact Ev.gd (fI (by omega)) (Ev.and rWithin_ev fun _ => Ev.gd (fI (by omega)) rWithin_ev.ret)
theorem hail_ev {c : Crd} (h : Wi c.Size 0 9) : Ev (if c.Hail = true then (some true) else (gd (fitsP .i64 c.Size.Lo) (gd (fitsP .i64 (0 : Int)) (gd (fitsP .i64 c.Size.Hi) (gd (fitsP .i64 (0 : Int)) (some ((decide (c.Size.Lo = (0 : Int))) && (decide (c.Size.Hi = (0 : Int)))))))))) (c.Hail = true ∨ c.Size = ⟨0, 0⟩) := by
 unfold Wi at h
 by_cases hh : c.Hail = true
 ·rw [if_pos hh]; exact Ev.tt (.inl hh)
 ·rw [if_neg hh, gd_pos (fI (by omega)), gd_pos (fI (by omega)), gd_pos (fI (by omega)), gd_pos (fI (by omega))]
  refine Ev.mk' ?_
  obtain ⟨X, Y, hl, ⟨lo, hi⟩⟩ := c
  simp only [Bool.and_eq_true, decide_eq_true_eq, Rg.mk.injEq] at hh ⊢
  exact ⟨.inr, fun q => q.elim (fun q => absurd q hh) id⟩
theorem validCard_ev {w : Wk} (h : Fit1 w.s) {c : Crd} : Ev (pvalidCard w c) (CV w.s c) := Ev.bind rfl (Ev.and (hasRect_ev h) fun _ => Ev.and within_ev fun q => hail_ev q)
theorem rIsCard_ev {s : Stm} (h : Fit1 s) {c : Crd} : Ev (prIsCard s c) (CV s c) := Ev.and (rIsRect_ev h) fun _ => Ev.and rWithin_ev fun q => hail_ev q
theorem tooMany_ev {s : Stm} : Ev (ptooMany s) (ManyS s) := by
 unfold ptooMany ManyS
 by_cases h1 : (12 : Int) < s.Wide
 ·rw [if_pos h1]; exact Ev.tt (.inl h1)
 rw [if_neg h1]
 by_cases h2 : (12 : Int) < s.High
 ·rw [if_pos h2]; exact Ev.tt (.inr (.inl h2))
 rw [if_neg h2]; exact Ev.dec (by omega)
theorem gC {l : List Crd} {p : Crd → Option Bool} : ∀ {d : Nat} {x : Int}, pindexC_L0 l p d x = gIdx l p d x
 | 0, _ => rfl
 | d + 1, x => by unfold pindexC_L0 gIdx; simp only [gC (d := d)]
theorem gR {l : List Rct} {p : Rct → Option Bool} : ∀ {d : Nat} {x : Int}, pindexR_L0 l p d x = gIdx l p d x
 | 0, _ => rfl
 | d + 1, x => by unfold pindexR_L0 gIdx; simp only [gR (d := d)]
theorem eachC_ev {l : List Crd} {p : Crd → Option Bool} {q : Crd → Prop} (hp : ∀ a ∈ l, Ev (p a) (q a)) (hl : shrt l) : Ev (peachC l p) (∀ a ∈ l, q a) := Ev.each hp hl.lt gC
theorem eachR_ev {l : List Rct} {p : Rct → Option Bool} {q : Rct → Prop} (hp : ∀ a ∈ l, Ev (p a) (q a)) (hl : shrt l) : Ev (peachR l p) (∀ a ∈ l, q a) := Ev.each hp hl.lt gR
theorem count_eq {r : Rg} (h : Wi r (-1000) 1000) : pcount r = some (cnt r) := by
 unfold Wi at h
 unfold pcount
 rw [gd_pos (fI (by omega)), gd_pos (fI (by omega))]; rfl
theorem rCount_eq {r : Rg} (h : Wi r (-1000) 1000) : prCount r = some (cnt r) := by
 unfold Wi at h
 unfold prCount
 rw [gd_pos (fI (by omega)), gd_pos (fI (by omega))]; rfl
theorem VS0.ws {s : Stm} (h : VS0 s) (hm : ¬ ManyS s) : Wi s.A (-1000) 1000 ∧ Wi s.B (-1000) 1000 ∧ Wi s.Half (-1000) 1000 ∧ Wi s.Peak (-1000) 1000 := by
 obtain ⟨_, hh, _⟩ := not_many hm
 exact ⟨h.a.w (by omega) (by omega), h.b.w (by omega) (by omega), h.half.w (by omega) (by omega), h.peak.w (by omega) (by omega)⟩
theorem rMany_eq {s : Stm} (h : VS0 s) (hm : ¬ ManyS s) : prMany s = some (manyN s) := by
 obtain ⟨h1, h2, h3, h4, h5, h6, h7⟩ := many_rng h hm
 obtain ⟨a, b, c, d⟩ := h.ws hm
 unfold prMany
 unfold manyN at h7 ⊢
 rw [rCount_eq a, Option.bind_some, rCount_eq b, Option.bind_some, gd_pos (by omega), gd_pos (by omega), gd_pos (fI (by omega)), rCount_eq c, Option.bind_some, gd_pos (by omega), gd_pos (by omega), gd_pos (fI (by omega)), rCount_eq d, Option.bind_some, gd_pos (by omega), gd_pos (by omega), gd_pos (fI (by omega))]
theorem inAll_eq {s : Stm} (h : VS0 s) (hm : ¬ ManyS s) : pinAll s = some (manyN s) := by
 obtain ⟨h1, h2, h3, h4, h5, h6, h7⟩ := many_rng h hm
 obtain ⟨a, b, c, d⟩ := h.ws hm
 unfold pinAll
 unfold manyN at h7 ⊢
 rw [count_eq a, Option.bind_some, count_eq b, Option.bind_some, gd_pos (by omega), gd_pos (by omega), gd_pos (fI (by omega)), count_eq c, Option.bind_some, gd_pos (by omega), gd_pos (by omega), gd_pos (fI (by omega)), count_eq d, Option.bind_some, gd_pos (by omega), gd_pos (by omega), gd_pos (fI (by omega))]
theorem valid_ev {s : Stm} {R : Option (Trh → Option Cds)} (h : ¬ ManyS s) : Ev (pvalid ⟨s, R⟩) (VS0 s) := by
 obtain ⟨h1, h2, h3⟩ := not_many h
 unfold pvalid
 refine (Ev.ite fun q1 => Ev.ite fun q2 => Ev.ite fun q3 => Ev.ite fun q4 => Ev.gd (fI (by dsimp only at q2 ⊢; omega)) (Ev.and within_ev fun q5 => Ev.gd (fI (by dsimp only at q2 ⊢; omega)) (Ev.and within_ev fun q6 => Ev.and within_ev fun q7 => Ev.and within_ev fun q8 => (eachC_ev (q := CV s) (fun c _ => validCard_ev (w := ⟨s, R⟩) (by unfold Fit1; dsimp only; dsimp only at q1 q2; omega)) (fewS h3 (by omega))).ret))).imp ?_
 exact ⟨fun ⟨a, b, c, d, e, g, i, j, k⟩ => ⟨a, b, ⟨c, d⟩, e, g, i, j, k⟩, fun q => ⟨q.wide, q.high, q.fall.1, q.fall.2, q.a, q.b, q.half, q.peak, q.cards⟩⟩
theorem check_eq {s : Stm} : pcheck s = some (faultN s) := by
 unfold pcheck faultN
 refine tooMany_ev.pick (fun h => ?_) fun h => ?_
 ·rw [if_pos rfl, if_pos h]
 ·rw [if_neg (by simp), if_neg h]
  refine (valid_ev h).pick (fun hv => ?_) fun hv => ?_
  ·rw [if_pos rfl, if_pos hv, inAll_eq hv h, Option.bind_some]
   by_cases hf : manyN s ≤ 2000
   ·rw [if_neg (by omega), if_pos hf]
   ·rw [if_pos (by omega), if_neg hf]
  ·rw [if_neg (by simp), if_neg hv]
theorem fault_L0 {s : Stm} (h : ¬ ManyS s) (hf : Fit1 s) : ((∀ c ∈ s.Cards, CV s c) → prFault_L0 s 1000000 0 = ((prMany s).bind fun r => if (2000 : Int) < r then some 3 else some 0)) ∧ (¬ (∀ c ∈ s.Cards, CV s c) → prFault_L0 s 1000000 0 = some 1) := by
 obtain ⟨h1, h2, h3⟩ := not_many h
 refine loop_each (l := s.Cards) (F := fun d y => prFault_L0 s d y) (fun d k c hg => ?_) (fun d => by rw [prFault_L0, if_neg (Int.lt_irrefl _)]) (by omega)
 have hk := (List.getElem?_eq_some_iff.1 hg).1
 rw [prFault_L0, if_pos (by omega), idx_at hg, Option.bind_some]
 exact (rIsCard_ev hf).step (by rw [if_pos rfl, gd_pos (fI (by omega))]) (by rw [if_neg (by simp)])
theorem rFault_eq {s : Stm} : prFault s = some (faultN s) := by
 unfold prFault faultN
 by_cases hm : ManyS s
 ·rw [if_pos hm]
  unfold ManyS at hm
  by_cases h1 : (12 : Int) < s.Wide
  ·rw [if_pos h1]
  rw [if_neg h1]
  by_cases h2 : (12 : Int) < s.High
  ·rw [if_pos h2]
  rw [if_neg h2, if_pos (by omega)]
 obtain ⟨h1, h2, h3⟩ := not_many hm
 rw [if_neg hm, if_neg (by omega), if_neg (by omega), if_neg (by omega)]
 by_cases q1 : s.Wide < 2
 ·rw [if_pos q1, if_neg fun hv => by have := hv.wide; omega]
 rw [if_neg q1]
 by_cases q2 : s.High < 1
 ·rw [if_pos q2, if_neg fun hv => by have := hv.high; omega]
 rw [if_neg q2]
 refine In_ev.pick (fun a1 => ?_) fun a1 => by rw [if_neg (by simp), if_neg fun hv => a1 hv.fall]
 rw [if_pos rfl, gd_pos (fI (by omega))]
 refine rWithin_ev.pick (fun a2 => ?_) fun a2 => by rw [if_neg (by simp), if_neg fun hv => a2 hv.a]
 rw [if_pos rfl, gd_pos (fI (by omega))]
 refine rWithin_ev.pick (fun a3 => ?_) fun a3 => by rw [if_neg (by simp), if_neg fun hv => a3 hv.b]
 rw [if_pos rfl]
 refine rWithin_ev.pick (fun a4 => ?_) fun a4 => by rw [if_neg (by simp), if_neg fun hv => a4 hv.half]
 rw [if_pos rfl]
 refine rWithin_ev.pick (fun a5 => ?_) fun a5 => by rw [if_neg (by simp), if_neg fun hv => a5 hv.peak]
 rw [if_pos rfl]
 obtain ⟨k1, k2⟩ := fault_L0 hm (s := s) (by unfold Fit1; omega)
 by_cases r1 : ∀ c ∈ s.Cards, CV s c
 ·have hv : VS0 s := ⟨by omega, by omega, a1, a2, a3, a4, a5, r1⟩
  rw [k1 r1, if_pos hv, rMany_eq hv hm, Option.bind_some]
  by_cases hf : manyN s ≤ 2000
  ·rw [if_neg (by omega), if_pos hf]
  ·rw [if_pos (by omega), if_neg hf]
 ·rw [k2 r1, if_neg fun hv => r1 hv.cards]
theorem distance_eq {s : Stm} {t : Trh} (h : VS0 s) (hm : ¬ ManyS s) (ht : isT s t) {x y : Int} (hg : gr s x y) : pdistance s t x y = some (dN s t x y) := by
 obtain ⟨a, b, c, d⟩ := sml h hm ht hg
 obtain ⟨r1, r2, r3, r4⟩ := ht.rng h
 obtain ⟨w, hh, _⟩ := not_many hm
 have hw := h.wide
 unfold gr at hg
 unfold pdistance dN
 rw [Int.zero_sub, gd_pos (fI (by omega)), gd_pos (by omega), gd_pos (by omega), gd_pos (fI (by omega)), gd_pos (fI (by omega)), gd_pos (by omega), gd_pos (by omega), gd_pos (fI (by omega)), gd_pos (by omega), gd_pos (by omega), gd_pos (fI (by omega)), gd_pos (fI (by omega)), gd_pos (fI (by omega)), gd_pos (fI (by omega))]
theorem hits_ev {s : Stm} {t : Trh} (h : VS0 s) (hm : ¬ ManyS s) (ht : isT s t) {x y : Int} (hg : gr s x y) : phits s t x y = some (decide (hitP s t x y)) := by
 obtain ⟨a, b, c, d⟩ := sml h hm ht hg
 obtain ⟨r1, r2, r3, r4⟩ := ht.rng h
 obtain ⟨w, hh, _⟩ := not_many hm
 have hw := h.wide
 unfold phits
 rw [distance_eq h hm ht hg, Option.bind_some, gd_pos (fI (by omega)), gd_pos (by omega), gd_pos (by omega), gd_pos (fI (by omega))]; rfl
theorem size_eq {s : Stm} {t : Trh} (h : VS0 s) (hm : ¬ ManyS s) (ht : isT s t) {x y : Int} (hg : gr s x y) : psize s t x y = some (szN s t x y) := by
 obtain ⟨a, b⟩ := fall_rng h hm ht hg
 obtain ⟨d1, d2⟩ := dN_rng h hm ht hg
 obtain ⟨r1, r2, r3, r4⟩ := ht.rng h
 obtain ⟨w, hh, _⟩ := not_many hm
 have hw := h.wide
 have hf := h.fall
 unfold psize szN
 rw [hits_ev h hm ht hg, Option.bind_some]
 by_cases hp : hitP s t x y
 ·rw [if_pos (decide_eq_true hp), if_pos hp, distance_eq h hm ht hg, Option.bind_some, gd_pos (fI (by omega)), gd_pos (by omega), gd_pos (by omega), gd_pos (fI (by omega)), gd_pos (by omega), gd_pos (by omega), gd_pos (fI (by omega)), gd_pos (fI (by omega))]
 ·rw [if_neg (by rw [decide_eq_false hp]; simp), if_neg hp]
theorem numbers_go {r : Rg} {n : Int} (h : Wi r (-1000) 1000) (hn : n = cnt r) : ∀ (d k m : Nat), (k : Int) + m = n → m < d → pnumbersI_L0 r n d (k : Int) = some (segI (r.Lo + k) m)
 | 0, _, _, _, h => by omega
 | d + 1, k, 0, hk, _ => by
  unfold pnumbersI_L0
  rw [if_neg (by omega)]; rfl
 | d + 1, k, m + 1, hk, hd => by
  have hc := h
  unfold Wi at hc
  unfold cnt at hn
  unfold pnumbersI_L0
  rw [if_pos (by omega), gd_pos (fI (by omega)), gd_pos (fI (by omega)), show (k : Int) + 1 = ((k + 1 : Nat) : Int) by omega, numbers_go h (by unfold cnt; exact hn) d (k + 1) m (by omega) (by omega), Option.bind_some, show r.Lo + ((k + 1 : Nat) : Int) = r.Lo + k + 1 by omega]
  rfl
theorem numbers_eq {r : Rg} (h : Wi r (-1000) 1000) : pnumbers r = some (nums r) := by
 have hc := h
 unfold Wi at hc
 have hcn : 0 < cnt r := by unfold cnt; omega
 unfold pnumbers pnumbersI
 rw [count_eq h, Option.bind_some]
 have := numbers_go h rfl ((cnt r).toNat + 1) 0 (cnt r).toNat (by omega) (by omega)
 rw [show ((0 : Nat) : Int) = 0 by rfl] at this
 rw [this, Option.bind_some]
 unfold nums
 rw [Int.add_zero]
def plcs (r : Rct) : List (Int × Int) := (nums r.X).flatMap fun x => (nums r.Y).map fun y => (x, y)
theorem pl_L1 {x : Int} {r : List (Int × Int)} : ∀ ys : List Int, pplacesI_L1 x (some r) ys = some (ys.map (fun y => (x, y)) ++ r)
 | [] => rfl
 | y :: ys => by unfold pplacesI_L1; rw [pl_L1 ys, Option.bind_some]; rfl
theorem pl_L0 {r : Rct} (hy : Wi r.Y (-1000) 1000) : ∀ xs : List Int, pplacesI_L0 r xs = some (xs.flatMap fun x => (nums r.Y).map fun y => (x, y))
 | [] => rfl
 | x :: xs => by unfold pplacesI_L0; rw [numbers_eq hy, Option.bind_some, pl_L0 hy xs, pl_L1]; rfl
theorem places_eq {s : Stm} (hf : Fit1 s) {r : Rct} (h : rcOk s r) : pplaces r = some (plcs r) := by
 unfold Fit1 at hf
 unfold pplaces pplacesI
 rw [numbers_eq (h.1.w (by omega) (by omega)), Option.bind_some, pl_L0 (h.2.w (by omega) (by omega)), Option.bind_some]; rfl
theorem mem_plcs {s : Stm} {r : Rct} (h : rcOk s r) {x y : Int} : (x, y) ∈ plcs r ↔ inP r x y := by
 obtain ⟨h1, h2⟩ := h
 unfold Wi at h1 h2
 unfold plcs inP
 rw [List.mem_flatMap]
 constructor
 ·rintro ⟨a, ha, hb⟩
  obtain ⟨b, hb, he⟩ := List.mem_map.1 hb
  cases he
  exact ⟨(mem_nums (by omega)).1 ha, (mem_nums (by omega)).1 hb⟩
 ·rintro ⟨a, b⟩
  exact ⟨x, (mem_nums (by omega)).2 a, List.mem_map.2 ⟨y, (mem_nums (by omega)).2 b, rfl⟩⟩
theorem isR_L0 {s : Stm} {t : Trh} (h : VS0 s) (hm : ¬ ManyS s) (ht : isT s t) {c : Crd} {b : Bool} : ∀ l : List (Int × Int), (∀ p ∈ l, gr s p.1 p.2) → Ev (pisRight_L0 s c t l b) (∃ p ∈ l, (hitP s t p.1 p.2 ↔ c.Hail = true) ∧ inR c.Size (szN s t p.1 p.2))
 | [], _ => by unfold pisRight_L0; exact Ev.ff fun ⟨p, hp, _⟩ => by cases hp
 | p :: l, hl => by
  have hg := hl p (List.mem_cons_self ..)
  have ih := isR_L0 h hm ht (c := c) (b := b) l fun q hq => hl q (List.mem_cons_of_mem _ hq)
  have hno : ¬ ((hitP s t p.1 p.2 ↔ c.Hail = true) ∧ inR c.Size (szN s t p.1 p.2)) → Ev (pisRight_L0 s c t l b) (∃ q ∈ p :: l, (hitP s t q.1 q.2 ↔ c.Hail = true) ∧ inR c.Size (szN s t q.1 q.2)) := fun hn => ih.imp ⟨fun ⟨q, hq, h9⟩ => ⟨q, List.mem_cons_of_mem _ hq, h9⟩, fun ⟨q, hq, h9⟩ => by
   rcases List.mem_cons.1 hq with rfl | hq
   ·exact absurd h9 hn
   ·exact ⟨q, hq, h9⟩⟩
  unfold pisRight_L0
  rw [hits_ev h hm ht hg, Option.bind_some]
  have heq : ((decide (hitP s t p.1 p.2)) == c.Hail) = true ↔ (hitP s t p.1 p.2 ↔ c.Hail = true) := by
   rw [beq_iff_eq]
   cases hc : c.Hail <;> simp
  by_cases hh : hitP s t p.1 p.2 ↔ c.Hail = true
  ·rw [if_pos (heq.2 hh), size_eq h hm ht hg, Option.bind_some]
   obtain ⟨b', q1, q2⟩ := has_ev (r := c.Size) (n := szN s t p.1 p.2)
   rw [q1, Option.bind_some]
   cases b' with
   | true => rw [if_pos rfl]; exact Ev.tt ⟨p, List.mem_cons_self .., hh, q2.1 rfl⟩
   | false => rw [if_neg (by simp)]; exact hno fun h9 => by have := q2.2 h9.2; cases this
  ·rw [if_neg fun q => hh (heq.1 q)]; exact hno fun h9 => hh h9.1
theorem isRight_ev {s : Stm} {t : Trh} (h : VS0 s) (hm : ¬ ManyS s) (ht : isT s t) {c : Crd} (hc : CV s c) : Ev (pisRight s c t) (RT s t c) := by
 unfold pisRight prect
 rw [Option.bind_some, places_eq (h.fit hm) hc.1, Option.bind_some]
 refine (isR_L0 h hm ht _ fun p hp => gr_of hc.1 ((mem_plcs hc.1).1 hp)).imp ?_
 exact ⟨fun ⟨p, hp, h9⟩ => ⟨p.1, p.2, (mem_plcs hc.1).1 hp, h9⟩, fun ⟨x, y, hp, h9⟩ => ⟨(x, y), (mem_plcs hc.1).2 hp, h9⟩⟩
theorem rch_L0 {s : Stm} {t : Trh} (h : VS0 s) (hm : ¬ ManyS s) (ht : isT s t) {inn b : Bool} : ∀ l : List (Int × Int), (∀ p ∈ l, gr s p.1 p.2) → Ev (preaches_L0 s t inn l b) (∃ p ∈ l, (hitP s t p.1 p.2 ↔ inn = true))
 | [], _ => by unfold preaches_L0; exact Ev.ff fun ⟨p, hp, _⟩ => by cases hp
 | p :: l, hl => by
  have hg := hl p (List.mem_cons_self ..)
  have ih := rch_L0 h hm ht (inn := inn) (b := b) l fun q hq => hl q (List.mem_cons_of_mem _ hq)
  unfold preaches_L0
  rw [hits_ev h hm ht hg, Option.bind_some]
  have heq : ((decide (hitP s t p.1 p.2)) == inn) = true ↔ (hitP s t p.1 p.2 ↔ inn = true) := by
   rw [beq_iff_eq]
   cases inn <;> simp
  by_cases hh : hitP s t p.1 p.2 ↔ inn = true
  ·rw [if_pos (heq.2 hh)]; exact Ev.tt ⟨p, List.mem_cons_self .., hh⟩
  ·rw [if_neg fun q => hh (heq.1 q)]
   exact ih.imp ⟨fun ⟨q, hq, h9⟩ => ⟨q, List.mem_cons_of_mem _ hq, h9⟩, fun ⟨q, hq, h9⟩ => by
    rcases List.mem_cons.1 hq with rfl | hq
    ·exact absurd h9 hh
    ·exact ⟨q, hq, h9⟩⟩
def Rch (s : Stm) (t : Trh) (r : Rct) (inn : Bool) : Prop := ∃ x y, inP r x y ∧ (hitP s t x y ↔ inn = true)
theorem reaches_ev {s : Stm} {t : Trh} (h : VS0 s) (hm : ¬ ManyS s) (ht : isT s t) {r : Rct} (hr : rcOk s r) {inn : Bool} : Ev (preaches s t r inn) (Rch s t r inn) := by
 unfold preaches
 rw [places_eq (h.fit hm) hr, Option.bind_some]
 refine (rch_L0 h hm ht _ fun p hp => gr_of hr ((mem_plcs hr).1 hp)).imp ?_
 exact ⟨fun ⟨p, hp, h9⟩ => ⟨p.1, p.2, (mem_plcs hr).1 hp, h9⟩, fun ⟨x, y, hp, h9⟩ => ⟨(x, y), (mem_plcs hr).2 hp, h9⟩⟩
theorem ch_L3 {a b c : Int} {r : List Trh} : ∀ ds : List Int, pchoicesI_L3 a b c (some r) ds = some (ds.map (fun d => ⟨a, b, c, d⟩) ++ r)
 | [] => rfl
 | d :: ds => by unfold pchoicesI_L3; rw [ch_L3 ds, Option.bind_some]; rfl
theorem ch_L2 {s : Stm} (h4 : Wi s.Peak (-1000) 1000) {a b : Int} {r : List Trh} : ∀ cs : List Int, pchoicesI_L2 s a b (some r) cs = some ((cs.flatMap fun c => (nums s.Peak).map fun d => ⟨a, b, c, d⟩) ++ r)
 | [] => rfl
 | c :: cs => by unfold pchoicesI_L2; rw [numbers_eq h4, Option.bind_some, ch_L2 h4 cs, ch_L3, List.flatMap_cons, List.append_assoc]
theorem ch_L1 {s : Stm} (h3 : Wi s.Half (-1000) 1000) (h4 : Wi s.Peak (-1000) 1000) {a : Int} {r : List Trh} : ∀ bs : List Int, pchoicesI_L1 s a (some r) bs = some ((bs.flatMap fun b => (nums s.Half).flatMap fun c => (nums s.Peak).map fun d => ⟨a, b, c, d⟩) ++ r)
 | [] => rfl
 | b :: bs => by unfold pchoicesI_L1; rw [numbers_eq h3, Option.bind_some, ch_L1 h3 h4 bs, ch_L2 h4, List.flatMap_cons, List.append_assoc]
theorem ch_L0 {s : Stm} (h2 : Wi s.B (-1000) 1000) (h3 : Wi s.Half (-1000) 1000) (h4 : Wi s.Peak (-1000) 1000) : ∀ ws : List Int, pchoicesI_L0 s ws = some (ws.flatMap fun a => (nums s.B).flatMap fun b => (nums s.Half).flatMap fun c => (nums s.Peak).map fun d => ⟨a, b, c, d⟩)
 | [] => rfl
 | a :: ws => by unfold pchoicesI_L0; rw [numbers_eq h2, Option.bind_some, ch_L0 h2 h3 h4 ws, ch_L1 h3 h4, List.flatMap_cons]
theorem choices_eq {s : Stm} (h : VS0 s) (hm : ¬ ManyS s) : pchoices s = some (chL s) := by
 obtain ⟨a, b, c, d⟩ := h.ws hm
 unfold pchoices pchoicesI
 rw [numbers_eq a, Option.bind_some, ch_L0 b c d, Option.bind_some]; rfl
end
end Go.Proofs.Ytbnfnhfanooplaa

namespace Go.Proofs.Ytbnfnhfanooplaa
open _root_.Go.Proofs.Try
open Go.Abs Go.Abs.Grow
set_option maxRecDepth 100000
noncomputable section
def mkC (S : Nat → Bool) : Cds := ⟨S 0, S 1, S 2, S 3, S 4, S 5⟩
def upd (S : Nat → Bool) (x : Int) (v : Bool) : Nat → Bool := fun j => sti x j v (S j)
theorem mkC_congr {S S' : Nat → Bool} (h : ∀ j, j < 6 → S j = S' j) : mkC S = mkC S' := by
 unfold mkC
 rw [h 0 (by omega), h 1 (by omega), h 2 (by omega), h 3 (by omega), h 4 (by omega), h 5 (by omega)]
theorem upd_nat {S : Nat → Bool} {k : Nat} {v : Bool} (j : Nat) : upd S (k : Int) v j = if k = j then v else S j := by
 unfold upd sti
 by_cases h : k = j
 ·rw [if_pos (by omega), if_pos h]
 ·rw [if_neg (by omega), if_neg h]
def eqC (a b : Cds) : Bool := (a.c0 == b.c0) && ((a.c1 == b.c1) && ((a.c2 == b.c2) && ((a.c3 == b.c3) && ((a.c4 == b.c4) && (a.c5 == b.c5)))))
theorem eqC_mk {S S' : Nat → Bool} : eqC (mkC S) (mkC S') = true ↔ ∀ j, j < 6 → S j = S' j := by
 unfold eqC mkC
 simp only [Bool.and_eq_true, beq_iff_eq]
 constructor
 ·rintro ⟨a, b, c, d, e, f⟩ j hj
  match j, hj with
  | 0, _ => exact a
  | 1, _ => exact b
  | 2, _ => exact c
  | 3, _ => exact d
  | 4, _ => exact e
  | 5, _ => exact f
 ·intro h
  exact ⟨h 0 (by omega), h 1 (by omega), h 2 (by omega), h 3 (by omega), h 4 (by omega), h 5 (by omega)⟩
theorem idx6 {S : Nat → Bool} {k : Nat} (h : k < 6) : idx ([S 0, S 1, S 2, S 3, S 4, S 5] : List Bool) (k : Int) = some (S k) := by
 rw [idx_nat]
 match k, h with
 | 0, _ => rfl
 | 1, _ => rfl
 | 2, _ => rfl
 | 3, _ => rfl
 | 4, _ => rfl
 | 5, _ => rfl
theorem upTo_go {n : Nat} (hn : n ≤ 6) {last : Int} (hl : last + 1 = n) : ∀ (d k : Nat) (S : Nat → Bool), k ≤ n → n - k < d → pupTo_L0 last d (S 0) (S 1) (S 2) (S 3) (S 4) (S 5) (k : Int) = some (mkC fun j => (decide (k ≤ j) && decide (j < n)) || S j)
 | 0, _, _, _, h => by omega
 | d + 1, k, S, hk, hd => by
  unfold pupTo_L0
  by_cases hkn : k = n
  ·rw [if_neg (by omega)]
   refine congrArg some (mkC_congr (S := S) fun j _ => ?_)
   have : (decide (k ≤ j) && decide (j < n)) = false := by
    by_cases h9 : k ≤ j
    ·rw [decide_eq_false (show ¬ j < n by omega)]; simp
    ·rw [decide_eq_false h9]; rfl
   rw [this]; rfl
  ·rw [if_pos (by omega), gd_pos (by omega), gd_pos (fI (by omega)), show (k : Int) + 1 = ((k + 1 : Nat) : Int) by omega]
   refine (upTo_go hn hl d (k + 1) (upd S (k : Int) true) (by omega) (by omega)).trans (congrArg some (mkC_congr fun j _ => ?_))
   rw [upd_nat]
   by_cases h9 : k = j
   ·subst h9
    rw [if_pos rfl, decide_eq_true (Nat.le_refl k), decide_eq_true (show k < n by omega)]; simp
   ·rw [if_neg h9, show decide (k + 1 ≤ j) = decide (k ≤ j) from decide_eq_decide.2 (by omega)]
theorem upTo_eq {n : Nat} (hn : n ≤ 6) {last : Int} (hl : last + 1 = n) : pupTo last = some (mkC fun j => decide (j < n)) := by
 unfold pupTo
 rw [gd_pos (fI (by omega))]
 have := upTo_go hn hl ((last + 1).toNat + 1) 0 (fun _ => false) (Nat.zero_le _) (by omega)
 refine Eq.trans this (congrArg some (mkC_congr fun j _ => ?_))
 simp
theorem allCards_eq {W : Wk} (h : W.s.Cards.length ≤ 6) : pallCards W = some (mkC fun j => decide (j < W.s.Cards.length)) := by
 unfold pallCards
 rw [gd_pos (fI (by omega)), upTo_eq h (by omega), Option.bind_some]
theorem among_go {C S0 : Nat → Bool} : ∀ (d k : Nat) (S : Nat → Bool), k ≤ 6 → 6 - k < d → (∀ j, j < 6 → S j = if j < k then (S0 j && C j) else S0 j) → pamong_L0 (mkC C) d (S 0) (S 1) (S 2) (S 3) (S 4) (S 5) (k : Int) = some (mkC fun j => S0 j && C j)
 | 0, _, _, _, h, _ => by omega
 | d + 1, k, S, hk, hd, hS => by
  unfold pamong_L0
  by_cases hkn : k = 6
  ·rw [if_neg (by omega)]
   exact congrArg some (mkC_congr (S := S) fun j hj => by rw [hS j hj, if_pos (by omega)])
  ·rw [if_pos (by omega), idx6 (by omega), Option.bind_some]
   have hSk := hS k (by omega)
   rw [if_neg (Nat.lt_irrefl k)] at hSk
   have nx : ∀ v, v = (S0 k && C k) → ∀ j, j < 6 → upd S (k : Int) v j = if j < k + 1 then (S0 j && C j) else S0 j := fun v hv j hj => by
    rw [upd_nat]
    by_cases h9 : k = j
    ·subst h9; rw [if_pos rfl, if_pos (by omega)]; exact hv
    ·rw [if_neg h9, hS j hj]
     by_cases h8 : j < k
     ·rw [if_pos h8, if_pos (by omega)]
     ·rw [if_neg h8, if_neg (by omega)]
   by_cases hs : S k = true
   ·rw [if_pos hs]
    have e : idx ([(mkC C).c0, (mkC C).c1, (mkC C).c2, (mkC C).c3, (mkC C).c4, (mkC C).c5] : List Bool) (k : Int) = some (C k) := idx6 (S := C) (by omega)
    rw [e, Option.bind_some, gd_pos (by omega), gd_pos (fI (by omega)), show (k : Int) + 1 = ((k + 1 : Nat) : Int) by omega]
    exact among_go d (k + 1) (upd S (k : Int) (C k)) (by omega) (by omega) (nx _ (by rw [← hSk, hs]; rfl))
   ·rw [if_neg hs, gd_pos (by omega), gd_pos (fI (by omega)), show (k : Int) + 1 = ((k + 1 : Nat) : Int) by omega]
    exact among_go d (k + 1) (upd S (k : Int) false) (by omega) (by omega) (nx _ (by rw [← hSk]; simp at hs; rw [hs]; rfl))
theorem among_eq {C S : Nat → Bool} : pamong (mkC C) (mkC S) = some (mkC fun j => S j && C j) := by
 unfold pamong
 exact among_go _ 0 S (by omega) (by decide) fun j _ => by rw [if_neg (by omega)]
open Classical in
def SB (s : Stm) (t : Trh) (j : Nat) : Bool := decide (∃ c, s.Cards[j]? = some c ∧ RT s t c)
open Classical in
theorem SB_iff {s : Stm} {t : Trh} {j : Nat} : SB s t j = true ↔ ∃ c, s.Cards[j]? = some c ∧ RT s t c := by unfold SB; exact decide_eq_true_iff
theorem SB_out {s : Stm} {t : Trh} {j : Nat} (h : s.Cards.length ≤ j) : SB s t j = false := by
 cases hb : SB s t j with
 | false => rfl
 | true =>
  obtain ⟨c, hc, _⟩ := SB_iff.1 hb
  have := (List.getElem?_eq_some_iff.1 hc).1
  omega
theorem rightCards_eq {W : Wk} {s : Stm} (hs : W.s = s) (h : VS0 s) (hm : ¬ ManyS s) {t : Trh} (ht : isT s t) : prightCards W t = some (mkC (SB s t)) := by
 obtain ⟨_, _, h3⟩ := not_many hm
 have go : ∀ (d k : Nat) (S : Nat → Bool), k ≤ s.Cards.length → s.Cards.length - k < d → (∀ j, S j = if j < k then SB s t j else false) → prightCards_L0 W t d (S 0) (S 1) (S 2) (S 3) (S 4) (S 5) (k : Int) = some (mkC (SB s t)) := by
  intro d
  induction d with
  | zero => intro k S _ h; omega
  | succ d ih =>
   intro k S hk hd hS
   unfold prightCards_L0
   rw [hs]
   by_cases hkn : k = s.Cards.length
   ·rw [if_neg (by omega)]
    refine congrArg some (mkC_congr (S := S) fun j hj => ?_)
    rw [hS j]
    by_cases h9 : j < k
    ·rw [if_pos h9]
    ·rw [if_neg h9, SB_out (by omega)]
   ·have hlt : k < s.Cards.length := by omega
    have hg := List.getElem?_eq_getElem hlt
    have hc := h.cards _ (List.getElem_mem hlt)
    generalize s.Cards[k] = c at hg hc
    obtain ⟨b, b1, b2⟩ := isRight_ev h hm ht hc
    have hb : b = SB s t k := by
     rw [Bool.eq_iff_iff, b2, SB_iff]
     exact ⟨fun q => ⟨c, hg, q⟩, fun ⟨c', q1, q2⟩ => by rw [hg] at q1; cases q1; exact q2⟩
    rw [if_pos (by omega), idx_at hg, Option.bind_some, b1, Option.bind_some, gd_pos (by omega), gd_pos (fI (by omega)), show (k : Int) + 1 = ((k + 1 : Nat) : Int) by omega]
    refine ih (k + 1) (upd S (k : Int) b) (by omega) (by omega) fun j => ?_
    rw [upd_nat]
    by_cases h9 : k = j
    ·subst h9; rw [if_pos rfl, if_pos (by omega)]; exact hb
    ·rw [if_neg h9, hS j]
     by_cases h8 : j < k
     ·rw [if_pos h8, if_pos (by omega)]
     ·rw [if_neg h8, if_neg (by omega)]
 unfold prightCards
 rw [hs]
 exact go _ 0 (fun _ => false) (Nat.zero_le _) (by omega) fun j => by rw [if_neg (by omega)]
structure WOk (s : Stm) (W : Wk) : Prop where
 v0 : VS0 s
 many : ¬ ManyS s
 ss : W.s = s
 m : ∀ t, isT s t → mget W.right t = some (mkC (SB s t))
theorem isT.fit {s : Stm} {t : Trh} (ht : isT s t) (h : VS0 s) (hm : ¬ ManyS s) : MK.fit t := by
 obtain ⟨_, hh, _⟩ := not_many hm
 obtain ⟨a, b, c, d⟩ := ht.rng h
 exact ⟨fI (by omega), fI (by omega), fI (by omega), fI (by omega), trivial⟩
open Classical in
theorem open_L0 {s : Stm} (h : VS0 s) (hm : ¬ ManyS s) : ∀ (l : List Trh) (D : Trh → Prop) (m : Trh → Option Cds), (∀ t ∈ l, isT s t) → (∀ t, D t → m t = some (mkC (SB s t))) →
  ∃ g, popen_L0 s l (some m) = some ⟨s, some g⟩ ∧ ∀ t, (D t ∨ t ∈ l) → g t = some (mkC (SB s t))
 | [], D, m, _, hD => ⟨m, rfl, fun t ht => ht.elim (hD t) fun h => by cases h⟩
 | t :: l, D, m, hl, hD => by
  have ht := hl t (List.mem_cons_self ..)
  unfold popen_L0
  rw [rightCards_eq (s := s) rfl h hm ht, Option.bind_some, gd_pos (ht.fit h hm), show mset (some m) t (mkC (SB s t)) = some (some fun k => if k = t then some (mkC (SB s t)) else m k) from rfl, Option.bind_some]
  obtain ⟨g, g1, g2⟩ := open_L0 h hm l (fun x => D x ∨ x = t) (fun k => if k = t then some (mkC (SB s t)) else m k) (fun x hx => hl x (List.mem_cons_of_mem _ hx)) fun x hx => by
   by_cases h9 : x = t
   ·rw [if_pos h9, h9]
   ·rw [if_neg h9]; exact hD x (hx.elim id fun q => absurd q h9)
  refine ⟨g, g1, fun x hx => g2 x ?_⟩
  rcases hx with hx | hx
  ·exact .inl (.inl hx)
  ·rcases List.mem_cons.1 hx with h9 | h9
   ·exact .inl (.inr h9)
   ·exact .inr h9
theorem open_eq {s : Stm} (h : VS s) : ∃ W, popen s = some W ∧ WOk s W := by
 obtain ⟨g, g1, g2⟩ := open_L0 h.toVS0 h.many (chL s) (fun _ => False) (fun _ => none) (fun t ht => (mem_chL h.toVS0).1 ht) fun _ h => h.elim
 refine ⟨⟨s, some g⟩, ?_, h.toVS0, h.many, rfl, fun t ht => g2 t (.inr ((mem_chL h.toVS0).2 ht))⟩
 unfold popen
 rw [choices_eq h.toVS0 h.many, Option.bind_some]
 exact g1
theorem hold_iff {s : Stm} {t : Trh} {S : Nat → Bool} (hn : s.Cards.length ≤ 6) (hS : ∀ j, S j = true → j < s.Cards.length) : (∀ j, j < 6 → (S j && SB s t j) = S j) ↔ ∀ j, S j = true → ∀ c, s.Cards[j]? = some c → RT s t c := by
 constructor
 ·intro h j hj c hc
  have hjl := hS j hj
  have := h j (by omega)
  rw [hj, Bool.true_and] at this
  obtain ⟨c', q1, q2⟩ := SB_iff.1 this
  rw [hc] at q1; cases q1; exact q2
 ·intro h j hj
  cases hs : S j with
  | false => rfl
  | true =>
   have hjl := hS j hs
   rw [SB_iff.2 ⟨_, List.getElem?_eq_getElem hjl, h j hs _ (List.getElem?_eq_getElem hjl)⟩]; rfl
theorem canHold_ev {s : Stm} {W : Wk} (h : WOk s W) {S : Nat → Bool} (hS : ∀ j, S j = true → j < s.Cards.length) : Ev (pcanHold W (mkC S)) (CanS s S) := by
 obtain ⟨_, _, h3⟩ := not_many h.many
 have go : ∀ (l : List Trh) (b : Bool), (∀ t ∈ l, isT s t) → Ev (pcanHold_L0 W (mkC S) l b) (∃ t ∈ l, ∀ j, S j = true → ∀ c, s.Cards[j]? = some c → RT s t c) := by
  intro l
  induction l with
  | nil => intro b _; unfold pcanHold_L0; exact Ev.ff fun ⟨t, ht, _⟩ => by cases ht
  | cons t l ih =>
   intro b hl
   have ht := hl t (List.mem_cons_self ..)
   unfold pcanHold_L0
   rw [gd_pos (ht.fit h.v0 h.many), mcase_some (h.m t ht), among_eq, Option.bind_some]
   have heq := (eqC_mk (S := fun j => S j && SB s t j) (S' := S)).trans (hold_iff (t := t) h3 hS)
   show Ev (ite (eqC (mkC fun j => S j && SB s t j) (mkC S) = true) _ _) _
   by_cases hh : ∀ j, S j = true → ∀ c, s.Cards[j]? = some c → RT s t c
   ·rw [if_pos (heq.2 hh)]; exact Ev.tt ⟨t, List.mem_cons_self .., hh⟩
   ·rw [if_neg fun q => hh (heq.1 q)]
    exact (ih b fun x hx => hl x (List.mem_cons_of_mem _ hx)).imp ⟨fun ⟨x, hx, q⟩ => ⟨x, List.mem_cons_of_mem _ hx, q⟩, fun ⟨x, hx, q⟩ => by
     rcases List.mem_cons.1 hx with rfl | hx
     ·exact absurd q hh
     ·exact ⟨x, hx, q⟩⟩
 unfold pcanHold
 rw [h.ss, choices_eq h.v0 h.many, Option.bind_some]
 exact (go _ false fun t ht => (mem_chL h.v0).1 ht).imp ⟨fun ⟨t, h1, h2⟩ => ⟨t, (mem_chL h.v0).1 h1, h2⟩, fun ⟨t, h1, h2⟩ => ⟨t, (mem_chL h.v0).2 h1, h2⟩⟩
theorem hasTruth_ev {s : Stm} {W : Wk} (h : WOk s W) : Ev (phasTruth W) (HT s) := by
 obtain ⟨_, _, h3⟩ := not_many h.many
 unfold phasTruth
 rw [allCards_eq (by rw [h.ss]; exact h3), Option.bind_some, h.ss]
 refine (canHold_ev h fun j hj => of_decide_eq_true hj).ret.imp ?_
 rw [HT_can]
 exact CanS.congr fun j hj => decide_eq_true hj
theorem all_iff {s : Stm} {t : Trh} (hn : s.Cards.length ≤ 6) : (∀ j, j < 6 → SB s t j = decide (j < s.Cards.length)) ↔ ∀ c ∈ s.Cards, RT s t c := by
 constructor
 ·intro h c hc
  obtain ⟨j, hj⟩ := List.mem_iff_getElem?.1 hc
  have hjl := (List.getElem?_eq_some_iff.1 hj).1
  have := h j (by omega)
  rw [decide_eq_true hjl] at this
  obtain ⟨c', q1, q2⟩ := SB_iff.1 this
  rw [hj] at q1; cases q1; exact q2
 ·intro h j _
  by_cases hjl : j < s.Cards.length
  ·rw [decide_eq_true hjl]
   exact SB_iff.2 ⟨_, List.getElem?_eq_getElem hjl, h _ (List.getElem_mem hjl)⟩
  ·rw [decide_eq_false hjl]; exact SB_out (by omega)
open Classical in
theorem truths_L0 {s : Stm} {W : Wk} (h : WOk s W) : ∀ l : List Trh, (∀ t ∈ l, isT s t) → ptruthsI_L0 W (mkC fun j => decide (j < s.Cards.length)) l = some (l.filter fun t => decide (∀ c ∈ s.Cards, RT s t c))
 | [], _ => rfl
 | t :: l, hl => by
  obtain ⟨_, _, h3⟩ := not_many h.many
  have ht := hl t (List.mem_cons_self ..)
  have ih := truths_L0 h l fun x hx => hl x (List.mem_cons_of_mem _ hx)
  unfold ptruthsI_L0
  rw [gd_pos (ht.fit h.v0 h.many), mcase_some (h.m t ht), ih]
  have heq := (eqC_mk (S := SB s t) (S' := fun j => decide (j < s.Cards.length))).trans (all_iff (t := t) h3)
  show (ite (eqC (mkC (SB s t)) (mkC fun j => decide (j < s.Cards.length)) = true) _ _) = _
  by_cases ho : ∀ c ∈ s.Cards, RT s t c
  ·rw [if_pos (heq.2 ho), Option.bind_some, List.filter_cons_of_pos (by simpa using ho)]
  ·rw [if_neg fun q => ho (heq.1 q), List.filter_cons_of_neg (by simpa using ho)]
theorem truths_eq {s : Stm} {W : Wk} (h : WOk s W) : ptruths W = some (TL s) := by
 obtain ⟨_, _, h3⟩ := not_many h.many
 unfold ptruths ptruthsI
 rw [allCards_eq (by rw [h.ss]; exact h3), Option.bind_some, h.ss, choices_eq h.v0 h.many, Option.bind_some, truths_L0 h _ fun t ht => (mem_chL h.v0).1 ht, Option.bind_some]; rfl
def wk0 : Wk := { s := ({ Wide := (0 : Int), High := (0 : Int), Fall := (0 : Int), A := ({ Lo := (0 : Int), Hi := (0 : Int) } : Rg), B := ({ Lo := (0 : Int), Hi := (0 : Int) } : Rg), Half := ({ Lo := (0 : Int), Hi := (0 : Int) } : Rg), Peak := ({ Lo := (0 : Int), Hi := (0 : Int) } : Rg), Cards := [] } : Stm), right := none }
theorem openTrue_ok {s : Stm} (h : VS s) {L : List Rct} (hL : shrt L) (hr : ∀ r ∈ L, rcOk s r) (ht : HT s) : ∃ W, popenTrue s L = some (W, 0) ∧ WOk s W := by
 obtain ⟨W, h1, h2⟩ := open_eq h
 refine ⟨W, ?_, h2⟩
 unfold popenTrue
 rw [check_eq, fault_zero.2 h, Option.bind_some, if_pos rfl, (eachR_ev (q := rcOk s) (fun r _ => hasRect_ev (h.toVS0.fit h.many)) hL).some_of hr, Option.bind_some, if_pos rfl, h1, Option.bind_some, (hasTruth_ev h2).some_of ht, Option.bind_some, if_pos rfl]
theorem openTrue_no {s : Stm} (h : VS s) {L : List Rct} (hL : shrt L) (hr : ∀ r ∈ L, rcOk s r) (ht : ¬ HT s) : popenTrue s L = some (wk0, 11) := by
 obtain ⟨W, h1, h2⟩ := open_eq h
 unfold popenTrue
 rw [check_eq, fault_zero.2 h, Option.bind_some, if_pos rfl, (eachR_ev (q := rcOk s) (fun r _ => hasRect_ev (h.toVS0.fit h.many)) hL).some_of hr, Option.bind_some, if_pos rfl, h1, Option.bind_some, (hasTruth_ev h2).some_not ht, Option.bind_some, if_neg (by simp)]; rfl
end
end Go.Proofs.Ytbnfnhfanooplaa

namespace Go.Proofs.Ytbnfnhfanooplaa
open _root_.Go.Proofs.Try
open Go.Abs
set_option maxRecDepth 100000
noncomputable section
def Inc (n fr : Nat) (T : List Int) : Prop := T.Pairwise (· < ·) ∧ ∀ v ∈ T, (fr : Int) ≤ v ∧ v < n
theorem Inc.cons {n fr : Nat} {x : Int} {T : List Int} : Inc n fr (x :: T) ↔ ((fr : Int) ≤ x ∧ x < n) ∧ Inc n (x + 1).toNat T := by
 unfold Inc
 rw [List.pairwise_cons]
 constructor
 ·rintro ⟨⟨h1, h2⟩, h3⟩
  have hx := h3 x (List.mem_cons_self ..)
  exact ⟨hx, h2, fun v hv => by have := h1 v hv; have := h3 v (List.mem_cons_of_mem _ hv); omega⟩
 ·rintro ⟨hx, h2, h3⟩
  refine ⟨⟨fun v hv => by have := h3 v hv; omega, h2⟩, fun v hv => ?_⟩
  rcases List.mem_cons.1 hv with rfl | hv
  ·exact hx
  ·have := h3 v hv; omega
theorem mem_combs {n : Nat} {D : List Int} : ∀ {d : Nat} {pre : List Int} {fr : Nat}, D ∈ combs n d pre fr ↔ ∃ T, D = pre ++ T ∧ T.length = d ∧ Inc n fr T
 | 0, pre, fr => by
  show D ∈ [pre] ↔ _
  rw [List.mem_singleton]
  constructor
  ·rintro rfl; exact ⟨[], by simp, rfl, .nil, fun v hv => by cases hv⟩
  ·rintro ⟨T, h1, h2, _⟩
   rw [List.eq_nil_of_length_eq_zero h2, List.append_nil] at h1; exact h1
 | d + 1, pre, fr => by
  show D ∈ rests (fun x => combs n d (pre ++ [(x : Int)]) (x + 1)) (n - fr) fr ↔ _
  rw [mem_rests]
  constructor
  ·rintro ⟨x, h1, h2, h3⟩
   obtain ⟨T, h4, h5, h6⟩ := mem_combs.1 h3
   refine ⟨(x : Int) :: T, by rw [h4]; simp, by simp [h5], Inc.cons.2 ⟨by omega, ?_⟩⟩
   rw [show ((x : Int) + 1).toNat = x + 1 by omega]; exact h6
  ·rintro ⟨T, h1, h2, h3⟩
   cases T with
   | nil => simp at h2
   | cons v T =>
    obtain ⟨h4, h5⟩ := Inc.cons.1 h3
    refine ⟨v.toNat, by omega, by omega, mem_combs.2 ⟨T, ?_, by simpa using h2, ?_⟩⟩
    ·rw [show ((v.toNat : Nat) : Int) = v by omega, h1]; simp
    ·rw [show v.toNat + 1 = (v + 1).toNat by omega]; exact h5
theorem inc_len {n : Nat} : ∀ {T : List Int} {fr : Nat}, Inc n fr T → T.length ≤ n - fr
 | [], _, _ => Nat.zero_le _
 | v :: T, fr, h => by
  obtain ⟨h1, h2⟩ := Inc.cons.1 h
  have := inc_len h2
  simp only [List.length_cons]
  omega
theorem mem_allL {n : Nat} {D : List Int} : D ∈ allL n ↔ Inc n 0 D := by
 unfold allL
 rw [mem_rests]
 constructor
 ·rintro ⟨s, _, _, h⟩
  obtain ⟨T, h1, _, h2⟩ := mem_combs.1 h
  rw [h1]; exact h2
 ·intro h
  have := inc_len h
  exact ⟨D.length, Nat.zero_le _, by omega, mem_combs.2 ⟨D, rfl, rfl, h⟩⟩
def inD (D : List Int) (j : Nat) : Bool := decide ((j : Int) ∈ D)
def bitsF (b : Nat) : Nat → List Int
 | 0 => []
 | p + 1 => bitsF b p ++ (if b.testBit p then [(p : Int)] else [])
def bitsL (b : Nat) : List Int := bitsF b 16
theorem mem_bitsF {b : Nat} {v : Int} : ∀ {p : Nat}, v ∈ bitsF b p ↔ 0 ≤ v ∧ v < p ∧ b.testBit v.toNat = true
 | 0 => ⟨fun h => (by cases h), fun h => by omega⟩
 | p + 1 => by
  show v ∈ bitsF b p ++ _ ↔ _
  rw [List.mem_append, mem_bitsF]
  constructor
  ·rintro (h | h)
   ·exact ⟨h.1, by omega, h.2.2⟩
   ·by_cases hb : b.testBit p = true
    ·rw [if_pos hb, List.mem_singleton] at h
     subst h; exact ⟨by omega, by omega, hb⟩
    ·rw [if_neg hb] at h; cases h
  ·rintro ⟨h1, h2, h3⟩
   by_cases hv : v = (p : Int)
   ·subst hv
    have h4 : b.testBit p = true := h3
    rw [if_pos h4]; exact .inr (List.mem_singleton.2 rfl)
   ·exact .inl ⟨h1, by omega, h3⟩
def bef : List Int → List Int → Bool
 | [], [] => false
 | [], _ :: _ => true
 | _ :: _, [] => false
 | x :: a, y :: b => if x = y then bef a b else decide (x < y)
def shB (a b : List Int) : Bool := decide (a.length < b.length) || (decide (a.length = b.length) && bef a b)
theorem bef_irr : ∀ A : List Int, bef A A = false
 | [] => rfl
 | x :: A => by show (if x = x then bef A A else _) = _; rw [if_pos rfl, bef_irr A]
theorem bef_asym : ∀ {A B : List Int}, bef A B = true → bef B A = false
 | [], [], h => by cases h
 | [], _ :: _, _ => rfl
 | _ :: _, [], h => by cases h
 | x :: A, y :: B, h => by
  have h' : (if x = y then bef A B else decide (x < y)) = true := h
  show (if y = x then bef B A else decide (y < x)) = false
  by_cases hxy : x = y
  ·rw [if_pos hxy] at h'; rw [if_pos hxy.symm]; exact bef_asym h'
  ·rw [if_neg hxy] at h'; rw [if_neg fun h => hxy h.symm]
   have := of_decide_eq_true h'
   exact decide_eq_false (by omega)
theorem shB_asym {A B : List Int} (h : shB A B = true) : shB B A = false := by
 unfold shB at h ⊢
 rw [Bool.or_eq_true, Bool.and_eq_true, decide_eq_true_eq, decide_eq_true_eq] at h
 rcases h with h | ⟨h1, h2⟩
 ·rw [decide_eq_false (by omega), decide_eq_false (by omega)]; rfl
 ·rw [decide_eq_false (by omega), bef_asym h2]; simp
theorem bef_app (x y : Int) (A B : List Int) (hxy : x < y) : ∀ pre : List Int, bef (pre ++ x :: A) (pre ++ y :: B) = true
 | [] => by show (if x = y then _ else decide (x < y)) = true; rw [if_neg (by omega), decide_eq_true hxy]
 | p :: pre => by show (if p = p then bef (pre ++ x :: A) (pre ++ y :: B) else _) = true; rw [if_pos rfl]; exact bef_app x y A B hxy pre
theorem rests_pairwise {α : Type} {R : α → α → Prop} (g : Nat → List α) (h1 : ∀ x, (g x).Pairwise R) (h2 : ∀ x y, x < y → ∀ a ∈ g x, ∀ b ∈ g y, R a b) : ∀ e x, (rests g e x).Pairwise R
 | 0, _ => .nil
 | e + 1, x => by
  show (g x ++ rests g e (x + 1)).Pairwise R
  rw [List.pairwise_append]
  refine ⟨h1 x, rests_pairwise g h1 h2 e (x + 1), fun a ha b hb => ?_⟩
  obtain ⟨j, h3, _, h4⟩ := (mem_rests g b e (x + 1)).1 hb
  exact h2 x j (by omega) a ha b h4
theorem combs_pairwise {n : Nat} : ∀ (d : Nat) (pre : List Int) (fr : Nat), (combs n d pre fr).Pairwise fun a b => bef a b = true
 | 0, pre, fr => List.pairwise_singleton _ _
 | d + 1, pre, fr => rests_pairwise _ (fun x => combs_pairwise d _ _) (fun x y hxy a ha b hb => by
  obtain ⟨T, h1, _, _⟩ := mem_combs.1 ha
  obtain ⟨T', h2, _, _⟩ := mem_combs.1 hb
  rw [h1, h2, List.append_assoc, List.append_assoc]
  exact bef_app _ _ _ _ (by omega) pre) _ _
theorem allL_pairwise (n : Nat) : (allL n).Pairwise fun a b => shB a b = true :=
 rests_pairwise _ (fun s => (combs_pairwise s [] 0).imp_of_mem fun {a b} ha hb hab => by
  have h1 := combs_len ha
  have h2 := combs_len hb
  unfold shB
  rw [hab, decide_eq_true (show a.length = b.length by omega)]; simp) (fun s s' hs a ha b hb => by
  have h1 := combs_len ha
  have h2 := combs_len hb
  unfold shB
  rw [decide_eq_true (by omega)]; rfl) _ _
theorem find_min {t : List Int → Bool} : ∀ {l : List (List Int)}, l.Pairwise (fun a b => shB a b = true) → ∀ {D D' : List Int}, l.find? t = some D → D' ∈ l → t D' = true → D' = D ∨ shB D D' = true
 | [], _, _, _, h, _, _ => by cases h
 | a :: l, hp, D, D', h, hm, ht => by
  rw [List.pairwise_cons] at hp
  rw [List.find?_cons] at h
  cases hta : t a with
  | true =>
   rw [hta] at h
   have : a = D := Option.some.inj h
   subst this
   rcases List.mem_cons.1 hm with rfl | h1
   ·exact .inl rfl
   ·exact .inr (hp.1 _ h1)
  | false =>
   rw [hta] at h
   rcases List.mem_cons.1 hm with rfl | h1
   ·rw [hta] at ht; cases ht
   ·exact find_min hp.2 h h1 ht
theorem shortL_spec {n : Nat} {t : List Int → Bool} (h : ∃ D, Inc n 0 D ∧ t D = true) : Inc n 0 (shortL n t) ∧ t (shortL n t) = true ∧ ∀ D, Inc n 0 D → t D = true → D = shortL n t ∨ shB (shortL n t) D = true := by
 obtain ⟨D0, h1, h2⟩ := h
 unfold shortL
 cases hf : (allL n).find? t with
 | none => exact absurd h2 (by have := List.find?_eq_none.1 hf D0 (mem_allL.2 h1); simpa using this)
 | some D => exact ⟨mem_allL.1 (List.mem_of_find?_eq_some hf), List.find?_some hf, fun D' h3 h4 => find_min (allL_pairwise n) hf (mem_allL.2 h3) h4⟩
theorem inD_bits {n b k : Nat} (hn : n ≤ 16) (hk : k < n) : inD (bitsL b) k = b.testBit k := by
 unfold inD
 have : ((k : Nat) : Int) ∈ bitsL b ↔ b.testBit k = true := by
  unfold bitsL
  rw [mem_bitsF]
  exact ⟨fun h => h.2.2, fun h => ⟨by omega, by omega, h⟩⟩
 cases hb : b.testBit k with
 | true => exact decide_eq_true (this.2 hb)
 | false => exact decide_eq_false fun h => by rw [this.1 h] at hb; cases hb
end
end Go.Proofs.Ytbnfnhfanooplaa

namespace Go.Proofs.Ytbnfnhfanooplaa
open _root_.Go.Proofs.Try
open Go.Abs Go.Abs.Grow
set_option maxRecDepth 100000
noncomputable section
theorem minimum_eq {l : List Int} (h : l ≠ []) (hl : shrt l) : pminimum l = some (minL l) := by
 have hl := hl.lt
 cases l with
 | nil => exact absurd rfl h
 | cons x l =>
  unfold pminimum
  rw [if_neg (by simp; omega), idx_zero rfl, Option.bind_some]
  have key := loopFold (l := x :: l) (fun s a => min s a) (fun d s k => pminimum_L0 (x :: l) d s k) some (fun d k s a ha => by
   have hk := (List.getElem?_eq_some_iff.1 ha).1
   rw [pminimum_L0, if_pos (by omega), idx_at ha, Option.bind_some]
   by_cases hc : a < s
   ·rw [if_pos hc, gd_pos (fI (by omega)), Int.min_eq_right (by omega)]
   ·rw [if_neg hc, gd_pos (fI (by omega)), Int.min_eq_left (by omega)]) (fun d s => by rw [pminimum_L0, if_neg (Int.lt_irrefl _)]) ((x :: l).length + 1) 0 x (Nat.zero_le _) (by omega)
  refine key.trans ?_
  rw [List.drop_zero]
  show some (l.foldl min (min x x)) = _
  rw [Int.min_self]; rfl
theorem max_eq {l : List Int} (h : l ≠ []) (hl : shrt l) : psMax l = some (maxL l) := by
 have hl := hl.lt
 cases l with
 | nil => exact absurd rfl h
 | cons x l =>
  unfold psMax
  rw [if_neg (by simp; omega), idx_zero rfl, Option.bind_some]
  have key := loopFold (l := x :: l) (fun s a => max s a) (fun d s k => psMax_L0 (x :: l) d s k) some (fun d k s a ha => by
   have hk := (List.getElem?_eq_some_iff.1 ha).1
   rw [psMax_L0, if_pos (by omega), idx_at ha, Option.bind_some, gd_pos (fI (by omega))]) (fun d s => by rw [psMax_L0, if_neg (Int.lt_irrefl _)]) ((((x :: l).length : Int) - 1).toNat + 1) 1 x (by simp) (by simp only [List.length_cons]; omega)
  exact key
def Of (s : Stm) (h : Trh → Int) : Int → Prop := fun x => ∃ t, TS s t ∧ h t = x
theorem span_L0 {q : Trh → Option Int} {h : Trh → Int} : ∀ (l : List Trh) (acc : List Int), (∀ c ∈ l, q c = some (h c)) → acc.length + l.length < 1048576 → acc ++ l.map h ≠ [] → pspan_L0 q l acc = some ⟨minL (acc ++ l.map h), maxL (acc ++ l.map h)⟩
 | [], acc, _, hl, hne => by
  unfold pspan_L0
  rw [List.map_nil, List.append_nil] at hne ⊢
  simp only [List.length_nil] at hl
  rw [minimum_eq hne (by unfold shrt; omega), Option.bind_some, max_eq hne (by unfold shrt; omega), Option.bind_some]
 | c :: l, acc, hq, hl, hne => by
  simp only [List.length_cons] at hl
  unfold pspan_L0
  rw [hq c (List.mem_cons_self ..), Option.bind_some, gd_pos (by omega), span_L0 l (acc ++ [h c]) (fun x hx => hq x (List.mem_cons_of_mem _ hx)) (by rw [List.length_append]; simp only [List.length_cons, List.length_nil]; omega) (by simp), List.append_assoc]
  rfl
theorem span_eq {s : Stm} {W : Wk} (hw : WOk s W) (ht : HT s) {q : Trh → Option Int} {h : Trh → Int} (hq : ∀ t, TS s t → q t = some (h t)) : ∃ lo hi, pspan W q = some ⟨lo, hi⟩ ∧ Spn (Of s h) lo hi := by
 have hlen := TL_len hw.v0 hw.many
 have hne2 : [] ++ (TL s).map h ≠ [] := by
  obtain ⟨t, h1⟩ := ht
  have := (mem_TL hw.v0).2 h1
  intro hn
  rw [List.nil_append, List.map_eq_nil_iff] at hn
  rw [hn] at this; cases this
 have hmem : ∀ x, x ∈ ([] : List Int) ++ (TL s).map h ↔ Of s h x := fun x => by
  rw [List.nil_append, List.mem_map]
  exact ⟨fun ⟨t, h1, h2⟩ => ⟨t, (mem_TL hw.v0).1 h1, h2⟩, fun ⟨t, h1, h2⟩ => ⟨t, (mem_TL hw.v0).2 h1, h2⟩⟩
 refine ⟨_, _, ?_, (hmem _).1 (minL_mem hne2).1, (hmem _).1 (maxL_mem hne2).1, fun x hx => ⟨(minL_mem hne2).2 x ((hmem x).2 hx), (maxL_mem hne2).2 x ((hmem x).2 hx)⟩⟩
 unfold pspan
 rw [truths_eq hw, Option.bind_some, span_L0 (h := h) _ [] (fun c hc => hq c ((mem_TL hw.v0).1 hc)) (by simp only [List.length_nil]; omega) hne2]
theorem witness_eq {s : Stm} {W : Wk} (hw : WOk s W) {r : Rct} (hr : rcOk s r) {inn : Bool} : (∃ t, pwitness W r inn = some (t, true) ∧ TS s t ∧ Rch s t r inn) ∨ ((∀ t, TS s t → ¬ Rch s t r inn) ∧ pwitness W r inn = some (⟨0, 0, 0, 0⟩, false)) := by
 have go : ∀ (l : List Trh) (a b c d : Int) (e : Bool), (∀ t ∈ l, TS s t) → (∃ t, pwitness_L0 W r inn l a b c d e = some (t, true) ∧ TS s t ∧ Rch s t r inn) ∨ ((∀ t ∈ l, ¬ Rch s t r inn) ∧ pwitness_L0 W r inn l a b c d e = some (⟨0, 0, 0, 0⟩, false)) := by
  intro l
  induction l with
  | nil => intro a b c d e _; exact .inr ⟨fun t ht => (by cases ht), rfl⟩
  | cons t l ih =>
   intro a b c d e hl
   have ht := hl t (List.mem_cons_self ..)
   obtain ⟨b', q1, q2⟩ := reaches_ev hw.v0 hw.many ht.1 hr (inn := inn)
   unfold pwitness_L0
   rw [hw.ss, q1, Option.bind_some]
   cases b' with
   | true => rw [if_pos rfl]; exact .inl ⟨t, rfl, ht, q2.1 rfl⟩
   | false =>
    rw [if_neg (by simp)]
    rcases ih a b c d e fun x hx => hl x (List.mem_cons_of_mem _ hx) with h1 | ⟨h1, h2⟩
    ·exact .inl h1
    ·refine .inr ⟨fun x hx => ?_, h2⟩
     rcases List.mem_cons.1 hx with rfl | hx
     ·exact fun h9 => by have := q2.2 h9; cases this
     ·exact h1 x hx
 unfold pwitness
 rw [truths_eq hw, Option.bind_some]
 rcases go (TL s) 0 0 0 0 false fun t ht => (mem_TL hw.v0).1 ht with h1 | ⟨h1, h2⟩
 ·exact .inl h1
 ·exact .inr ⟨fun t ht => h1 t ((mem_TL hw.v0).2 ht), h2⟩
open Classical in
def verdN (s : Stm) (r : Rct) : Int := if ∀ t, TS s t → ¬ Rch s t r false then 1 else if ∀ t, TS s t → ¬ Rch s t r true then 2 else 3
theorem shrt1 {r : Rct} : shrt [r] := by unfold shrt; simp
theorem Verdict_ok {s : Stm} (h : VS s) (ht : HT s) {r : Rct} (hr : rcOk s r) : pVerdict s r = some (verdN s r, 0) := by
 obtain ⟨W, h1, hw⟩ := openTrue_ok h (L := [r]) shrt1 (fun x hx => by rw [List.mem_singleton.1 hx]; exact hr) ht
 unfold pVerdict verdN
 rw [h1, Option.bind_some, if_pos rfl]
 dsimp only
 rcases witness_eq hw hr (inn := false) with ⟨t, a1, a2, a3⟩ | ⟨a1, a2⟩
 ·rw [a1, Option.bind_some, if_pos rfl, if_neg fun q => q t a2 a3]
  rcases witness_eq hw hr (inn := true) with ⟨u, b1, b2, b3⟩ | ⟨b1, b2⟩
  ·rw [b1, Option.bind_some, if_pos rfl, if_neg fun q => q u b2 b3]
  ·rw [b2, Option.bind_some, if_neg (by simp), if_pos b1]
 ·rw [a2, Option.bind_some, if_neg (by simp), if_pos a1]
theorem Verdict_no {s : Stm} (h : VS s) (ht : ¬ HT s) {r : Rct} (hr : rcOk s r) : pVerdict s r = some (0, 11) := by
 unfold pVerdict
 rw [openTrue_no h (L := [r]) shrt1 (fun x hx => by rw [List.mem_singleton.1 hx]; exact hr) ht, Option.bind_some, if_neg (by decide)]
def at1 (x y : Int) : Rct := ⟨⟨x, x⟩, ⟨y, y⟩⟩
theorem at1_ok {s : Stm} {x y : Int} : rcOk s (at1 x y) ↔ gr s x y := by unfold rcOk Wi at1 gr; dsimp only; omega
theorem Sizes_ok {s : Stm} (h : VS s) (ht : HT s) {x y : Int} (hg : gr s x y) : ∃ lo hi, pSizes s x y = some (⟨lo, hi⟩, 0) ∧ Spn (Of s fun t => szN s t x y) lo hi := by
 obtain ⟨W, h1, hw⟩ := openTrue_ok h (L := [at1 x y]) shrt1 (fun r hr => by rw [List.mem_singleton.1 hr]; exact at1_ok.2 hg) ht
 obtain ⟨lo, hi, a1, a2⟩ := span_eq hw ht (q := fun a => psizes1 a W x y) (h := fun t => szN s t x y) fun t q => by
  unfold psizes1
  rw [hw.ss, size_eq h.toVS0 h.many q.1 hg]; rfl
 refine ⟨lo, hi, ?_, a2⟩
 unfold pSizes
 rw [show ([({ X := ({ Lo := x, Hi := x } : Rg), Y := ({ Lo := y, Hi := y } : Rg) } : Rct)] : List Rct) = [at1 x y] from rfl, h1, Option.bind_some, if_pos rfl]
 dsimp only
 rw [a1, Option.bind_some]
theorem Sizes_no {s : Stm} (h : VS s) (ht : ¬ HT s) {x y : Int} (hg : gr s x y) : pSizes s x y = some (⟨0, 0⟩, 11) := by
 unfold pSizes
 rw [show ([({ X := ({ Lo := x, Hi := x } : Rg), Y := ({ Lo := y, Hi := y } : Rg) } : Rct)] : List Rct) = [at1 x y] from rfl, openTrue_no h shrt1 (fun r hr => by rw [List.mem_singleton.1 hr]; exact at1_ok.2 hg) ht, Option.bind_some, if_neg (by decide)]
def allI (n : Nat) : List Int := (List.range n).map fun j => ((j : Nat) : Int)
theorem all_inc (n : Nat) : Inc n 0 (allI n) := by
 refine ⟨?_, fun v hv => ?_⟩
 ·unfold allI
  rw [List.pairwise_map]
  exact List.pairwise_lt_range.imp fun h => by omega
 ·obtain ⟨j, hj, rfl⟩ := List.mem_map.1 hv
  have := List.mem_range.1 hj
  omega
theorem all_in {n j : Nat} (h : j < n) : inD (allI n) j = true := decide_eq_true (List.mem_map.2 ⟨j, List.mem_range.2 h, rfl⟩)
structure MinP (n : Nat) (P : (Nat → Bool) → Prop) (M : List Int) : Prop where
 inc : Inc n 0 M
 ok : P (inD M)
 min : ∀ D, Inc n 0 D → P (inD D) → D = M ∨ shB M D = true
theorem MinP.uniq {n : Nat} {P : (Nat → Bool) → Prop} {M M' : List Int} (h : MinP n P M) (h' : MinP n P M') : M = M' := by
 rcases h.min M' h'.inc h'.ok with h1 | h1
 ·exact h1.symm
 ·rcases h'.min M h.inc h.ok with h2 | h2
  ·exact h2
  ·rw [shB_asym h1] at h2; cases h2
theorem inc_lt {n : Nat} {D : List Int} (h : Inc n 0 D) {j : Nat} (hj : inD D j = true) : j < n := by
 have := of_decide_eq_true hj
 have := (h.2 _ this).2
 omega
theorem inc_mem {n : Nat} {D : List Int} (h : Inc n 0 D) {v : Int} (hv : v ∈ D) : ∃ j : Nat, v = (j : Int) ∧ j < n := by
 have := h.2 v hv
 exact ⟨v.toNat, by omega, by omega⟩
theorem clash_ev {s : Stm} {W : Wk} (h : WOk s W) {D : List Int} (hD : Inc s.Cards.length 0 D) : Ev (pclash W D) (¬ CanS s (inD D)) := by
 obtain ⟨_, _, h3⟩ := not_many h.many
 have hlen := inc_len hD
 have go : ∀ (d i : Nat) (S : Nat → Bool), i ≤ D.length → D.length - i < d → (∀ j, S j = decide ((j : Int) ∈ D.take i)) → Ev (pclash_L0 W D d (S 0) (S 1) (S 2) (S 3) (S 4) (S 5) (i : Int)) (¬ CanS s (inD D)) := by
  intro d
  induction d with
  | zero => intro i S _ h; omega
  | succ d ih =>
   intro i S hi hd hS
   unfold pclash_L0
   by_cases hin : i = D.length
   ·rw [if_neg (by omega)]
    rw [hin, List.take_length] at hS
    have hS' : S = inD D := funext hS
    subst hS'
    exact (canHold_ev h (S := inD D) fun j hj => inc_lt hD hj).neg
   ·have hlt : i < D.length := by omega
    have hg := List.getElem?_eq_getElem hlt
    have hm := List.getElem_mem hlt
    generalize D[i] = v at hg hm
    obtain ⟨k, rfl, hk⟩ := inc_mem hD hm
    rw [if_pos (by omega), idx_at hg, Option.bind_some, gd_pos (by omega), gd_pos (fI (by omega)), show (i : Int) + 1 = ((i + 1 : Nat) : Int) by omega]
    refine ih (i + 1) (upd S (k : Int) true) (by omega) (by omega) fun j => ?_
    rw [upd_nat, List.take_add_one, hg]
    by_cases h9 : k = j
    ·subst h9; rw [if_pos rfl]; exact (decide_eq_true (by simp)).symm
    ·rw [if_neg h9, hS j]
     refine decide_eq_decide.2 ?_
     simp only [Option.toList_some, List.mem_append, List.mem_singleton]
     exact ⟨.inl, fun q => q.elim id fun q => absurd (by omega) h9⟩
 unfold pclash
 exact go _ 0 (fun _ => false) (Nat.zero_le _) (by omega) fun j => by simp
theorem canLeave_ev {s : Stm} {W : Wk} (h : WOk s W) {D : List Int} (hD : Inc s.Cards.length 0 D) : Ev (pcanLeave W D) (CanS s fun j => !inD D j) := by
 obtain ⟨_, _, h3⟩ := not_many h.many
 have hlen := inc_len hD
 have go : ∀ (d i : Nat) (S : Nat → Bool), i ≤ D.length → D.length - i < d → (∀ j, j < 6 → S j = (decide (j < s.Cards.length) && !decide ((j : Int) ∈ D.take i))) → Ev (pcanLeave_L0 W D d (S 0) (S 1) (S 2) (S 3) (S 4) (S 5) (i : Int)) (CanS s fun j => !inD D j) := by
  intro d
  induction d with
  | zero => intro i S _ h; omega
  | succ d ih =>
   intro i S hi hd hS
   unfold pcanLeave_L0
   by_cases hin : i = D.length
   ·rw [if_neg (by omega)]
    rw [hin, List.take_length] at hS
    have e : (mkC S) = mkC fun j => decide (j < s.Cards.length) && !inD D j := mkC_congr hS
    show Ev ((pcanHold W (mkC S)).bind fun r => some r) _
    rw [e]
    refine (canHold_ev h (S := fun j => decide (j < s.Cards.length) && !inD D j) fun j hj => ?_).ret.imp (CanS.congr fun j hj => ?_)
    ·rw [Bool.and_eq_true] at hj; exact of_decide_eq_true hj.1
    ·rw [decide_eq_true hj]; rfl
   ·have hlt : i < D.length := by omega
    have hg := List.getElem?_eq_getElem hlt
    have hm := List.getElem_mem hlt
    generalize D[i] = v at hg hm
    obtain ⟨k, rfl, hk⟩ := inc_mem hD hm
    rw [if_pos (by omega), idx_at hg, Option.bind_some, gd_pos (by omega), gd_pos (fI (by omega)), show (i : Int) + 1 = ((i + 1 : Nat) : Int) by omega]
    refine ih (i + 1) (upd S (k : Int) false) (by omega) (by omega) fun j hj6 => ?_
    rw [upd_nat, List.take_add_one, hg]
    by_cases h9 : k = j
    ·subst h9; rw [if_pos rfl, decide_eq_true (show ((k : Int) ∈ D.take i ++ (some (k : Int)).toList) by simp)]; simp
    ·rw [if_neg h9, hS j hj6]
     congr 2
     refine decide_eq_decide.2 ?_
     simp only [Option.toList_some, List.mem_append, List.mem_singleton]
     exact ⟨.inl, fun q => q.elim id fun q => absurd (by omega) h9⟩
 unfold pcanLeave
 rw [allCards_eq (by rw [h.ss]; exact h3), Option.bind_some, h.ss]
 exact go _ 0 (fun j => decide (j < s.Cards.length)) (Nat.zero_le _) (by omega) fun j _ => by simp
theorem shortX {s : Stm} {W : Wk} (hw : WOk s W) {f : Wk → List Int → Option Bool} {P : (Nat → Bool) → Prop} (hf : ∀ D, Inc s.Cards.length 0 D → Ev (f W D) (P (inD D))) (hex : ∃ D, Inc s.Cards.length 0 D ∧ P (inD D)) : ∃ M, pshortestX W ⟨f⟩ = some M ∧ MinP s.Cards.length P M := by
 obtain ⟨_, _, h3⟩ := not_many hw.many
 have ht : ∀ D, Inc s.Cards.length 0 D → (((f W D).getD false) = true ↔ P (inD D)) := fun D hD => by
  obtain ⟨b, q1, q2⟩ := hf D hD
  rw [q1]; exact q2
 obtain ⟨D0, d1, d2⟩ := hex
 obtain ⟨s1, s2, s3⟩ := shortL_spec (n := s.Cards.length) (t := fun L => (f W L).getD false) ⟨D0, d1, (ht _ d1).2 d2⟩
 refine ⟨shortL s.Cards.length fun L => (f W L).getD false, ?_, s1, (ht _ s1).1 s2, fun D hD hD2 => s3 D hD ((ht D hD).2 hD2)⟩
 unfold pshortestX pshortest pshortest1
 have e : ∀ a, ((f W a).bind fun r => some r) = f W a := fun a => by cases f W a <;> rfl
 simp only [e, hw.ss]
 rw [gd_pos ⟨by omega, by omega, fun L hL => by
  have hI : Inc s.Cards.length 0 L := by rw [Int.toNat_natCast] at hL; exact mem_allL.1 hL
  obtain ⟨b, q1, _⟩ := hf L hI
  rw [q1]; rfl⟩, Option.bind_some, Int.toNat_natCast]
theorem Leave_eq {s : Stm} (h : VS s) : ∃ M, pLeave s = some (M, 0) ∧ MinP s.Cards.length (fun S => CanS s fun j => !S j) M := by
 obtain ⟨W, h1, hw⟩ := open_eq h
 obtain ⟨M, a1, a2⟩ := shortX hw (f := fun a b => pcanLeave a b) (P := fun S => CanS s fun j => !S j) (fun D hD => canLeave_ev hw hD) ⟨allI s.Cards.length, all_inc _, by
  obtain ⟨t, ht⟩ := isT_ex h.toVS0
  exact ⟨t, ht, fun j hj c hc => by replace hj : (!inD (allI s.Cards.length) j) = true := hj; rw [all_in (List.getElem?_eq_some_iff.1 hc).1] at hj; cases hj⟩⟩
 refine ⟨M, ?_, a2⟩
 unfold pLeave
 rw [check_eq, fault_zero.2 h, Option.bind_some, if_pos rfl, h1, Option.bind_some, a1, Option.bind_some]
end
end Go.Proofs.Ytbnfnhfanooplaa

namespace Go.Proofs.Ytbnfnhfanooplaa
open _root_.Go.Proofs.Try
open Go.Abs Go.Abs.Grow
set_option maxRecDepth 100000
noncomputable section
theorem aw : (pawake.bind fun r => some r) = some true := rfl
def ThinN (s : Stm) : Prop := s.Cards.length ≤ 9 ∧ (faultN s = 0 → manyN s ≤ 300)
theorem thin_ev {s : Stm} : Ev (plThin s) (ThinN s) := by
 unfold plThin ThinN
 refine (Ev.ite (K := faultN s = 0 → manyN s ≤ 300) fun h1 => ?_).imp (and_congr (by omega) Iff.rfl)
 rw [rFault_eq, Option.bind_some]
 by_cases hf : faultN s = 0
 ·have h := fault_zero.1 hf
  rw [if_pos hf, rMany_eq h.toVS0 h.many, Option.bind_some]
  exact Ev.dec ⟨fun h _ => h, fun h => h hf⟩
 ·rw [if_neg hf]; exact Ev.tt fun h => absurd h hf
theorem ready_ev {s : Stm} : Ev (plReady s) (ThinN s ∧ VS s) := by
 unfold plReady
 refine Ev.and thin_ev fun _ => ?_
 rw [rFault_eq, Option.bind_some]
 exact Ev.dec fault_zero
theorem lStorm_eq {s : Stm} (h : s.Cards.length ≤ 9) : plStorm s = some s := by
 have k1 := loopApp0 (l := s.Cards) (F := fun d acc x => plStorm_L0 s d s.Wide s.High s.Fall s.A.Lo s.A.Hi s.B.Lo s.B.Hi s.Half.Lo s.Half.Hi s.Peak.Lo s.Peak.Hi acc x) (fun c : Crd => c) (fun acc => some ({ s with Cards := acc } : Stm)) (fun d k acc a ha hac => by
  have hk := (List.getElem?_eq_some_iff.1 ha).1
  show plStorm_L0 s (d + 1) _ _ _ _ _ _ _ _ _ _ _ _ _ = _
  rw [plStorm_L0, if_pos (by omega), idx_at ha, Option.bind_some]
  unfold plTo
  rw [Option.bind_some, Option.bind_some, Option.bind_some, gd_pos (by omega), gd_pos (fI (by omega))]) (fun d acc => by show plStorm_L0 s (d + 1) _ _ _ _ _ _ _ _ _ _ _ _ _ = _; rw [plStorm_L0, if_neg (Int.lt_irrefl _)]) (d := 1000000) (by omega)
 unfold plStorm plTo
 rw [Option.bind_some, Option.bind_some, Option.bind_some, Option.bind_some]
 refine k1.trans ?_
 rw [List.map_id']
theorem lRect_eq {r : Rct} : plRect r = some r := rfl
theorem box_eq {s : Stm} (h : VS s) {w : Int} (hw : fitsP .u16 w) : ∃ r, plBox s w = some r ∧ rcOk s r := by
 obtain ⟨h1, h2, _⟩ := not_many h.many
 have hwd := h.wide; have hhi := h.high
 have u := fU16 hw
 have w1 : wrapZ .i64 w = w := wz (fI (by omega))
 have m1 := Int.emod_nonneg w (show s.Wide ≠ 0 by omega)
 have m1' := Int.emod_lt_of_pos w (show 0 < s.Wide by omega)
 have m2 := Int.emod_nonneg (w / 16) (show s.High ≠ 0 by omega)
 have m2' := Int.emod_lt_of_pos (w / 16) (show 0 < s.High by omega)
 unfold plBox
 simp only [w1]
 generalize w % s.Wide = x at *
 generalize w / 16 % s.High = y at *
 repeat rw [gd_pos (by first | exact fI (by omega) | omega)]
 exact ⟨_, rfl, by unfold rcOk Wi; dsimp only; omega⟩
end
end Go.Proofs.Ytbnfnhfanooplaa

namespace Go.Proofs.Ytbnfnhfanooplaa
open _root_.Go.Proofs.Try
open Go.Abs Go.Abs.Grow
set_option maxRecDepth 100000
noncomputable section
theorem CanS.bits {s : Stm} {b : Nat} (hn : s.Cards.length ≤ 6) : CanS s (fun j => !inD (bitsL b) j) ↔ CanS s fun j => !b.testBit j := CanS.congr fun j hj => by rw [inD_bits (n := s.Cards.length) (by omega) hj]
end
end Go.Proofs.Ytbnfnhfanooplaa

namespace Go.Proofs.Ytbnfnhfanooplaa
open _root_.Go.Proofs.Try
open Go.Abs Go.Abs.Grow
set_option maxRecDepth 100000
noncomputable section
theorem lInts_self {l : List Int} (hl : l.length ≤ 1000) : plInts l l = some true := by
 have key : ∀ (d k : Nat), k ≤ l.length → l.length - k < d → plInts_L0 l l d (k : Int) = some true := by
  intro d
  induction d with
  | zero => intro k _ h; omega
  | succ d ih =>
   intro k hk hd
   unfold plInts_L0
   by_cases hkn : k = l.length
   ·rw [if_neg (by omega)]
   ·have hg := List.getElem?_eq_getElem (show k < l.length by omega)
    rw [if_pos (by omega), idx_at hg, Option.bind_some, Option.bind_some, if_pos rfl, gd_pos (fI (by omega)), show (k : Int) + 1 = ((k + 1 : Nat) : Int) by omega]
    exact ih (k + 1) (by omega) (by omega)
 unfold plInts
 rw [if_pos rfl]
 exact key _ 0 (Nat.zero_le _) (by omega)
def fpR (H : Int) (r : Rg) : Rg := ⟨H - 1 - r.Hi, H - 1 - r.Lo⟩
def fpC (H : Int) (c : Crd) : Crd := ⟨c.X, fpR H c.Y, c.Hail, c.Size⟩
def fpS (s : Stm) : Stm := ⟨s.Wide, s.High, s.Fall, fpR s.High s.A, fpR s.High s.B, s.Half, s.Peak, s.Cards.map (fpC s.High)⟩
def fpT (s : Stm) (t : Trh) : Trh := ⟨s.High - 1 - t.A, s.High - 1 - t.B, t.Half, t.Peak⟩
theorem fpT_fpT {s : Stm} (t : Trh) : fpT s (fpT s t) = t := by
 obtain ⟨a, b, c, d⟩ := t
 unfold fpT
 dsimp only
 congr 1 <;> omega
theorem dN_fl {s : Stm} {t : Trh} {x y : Int} : dN (fpS s) (fpT s t) x (s.High - 1 - y) = dN s t x y := by
 unfold dN fpS fpT
 dsimp only
 rw [Int.mul_sub (s.Wide - 1) (s.High - 1) y, Int.sub_mul (s.High - 1) t.A, Int.sub_mul (s.High - 1) t.B, Int.mul_sub (s.High - 1) (s.Wide - 1) x, Int.mul_comm (s.High - 1) (s.Wide - 1)]
 generalize (s.Wide - 1) * (s.High - 1) = p1
 generalize (s.Wide - 1) * y = p2
 generalize (s.High - 1) * x = p3
 generalize t.A * (s.Wide - 1 - x) = p4
 generalize t.B * x = p5
 omega
theorem hit_fl {s : Stm} {t : Trh} {x y : Int} : hitP (fpS s) (fpT s t) x (s.High - 1 - y) ↔ hitP s t x y := by
 unfold hitP
 rw [dN_fl]; exact Iff.rfl
theorem sz_fl {s : Stm} {t : Trh} {x y : Int} : szN (fpS s) (fpT s t) x (s.High - 1 - y) = szN s t x y := by
 unfold szN
 by_cases h : hitP s t x y
 ·rw [if_pos h, if_pos (hit_fl.2 h), dN_fl]; rfl
 ·rw [if_neg h, if_neg fun q => h (hit_fl.1 q)]
theorem isT_fl {s : Stm} {t : Trh} : isT (fpS s) (fpT s t) ↔ isT s t := by
 unfold isT inR fpS fpT fpR
 dsimp only
 omega
theorem inR_fl {H : Int} {r : Rg} {y : Int} : inR (fpR H r) y ↔ inR r (H - 1 - y) := by unfold inR fpR; dsimp only; omega
theorem ex_fl {H : Int} {P Q : Int → Int → Prop} (h : ∀ x y, P x (H - 1 - y) ↔ Q x y) : (∃ x y, P x y) ↔ ∃ x y, Q x y := by
 constructor
 ·rintro ⟨x, y, q⟩
  exact ⟨x, H - 1 - y, (h _ _).1 (by rw [show H - 1 - (H - 1 - y) = y by omega]; exact q)⟩
 ·rintro ⟨x, y, q⟩
  exact ⟨x, H - 1 - y, (h _ _).2 q⟩
theorem inP_fl {H : Int} {r : Rct} {x y : Int} : inP ⟨r.X, fpR H r.Y⟩ x (H - 1 - y) ↔ inP r x y := by
 unfold inP
 dsimp only
 rw [inR_fl, show H - 1 - (H - 1 - y) = y by omega]
theorem Rch_fl {s : Stm} {t : Trh} {r : Rct} {inn : Bool} : Rch (fpS s) (fpT s t) ⟨r.X, fpR s.High r.Y⟩ inn ↔ Rch s t r inn := by
 unfold Rch
 exact ex_fl (H := s.High) fun x y => and_congr inP_fl (iff_congr hit_fl Iff.rfl)
theorem RT_fl {s : Stm} {t : Trh} {c : Crd} : RT (fpS s) (fpT s t) (fpC s.High c) ↔ RT s t c := by
 unfold RT
 refine ex_fl (H := s.High) fun x y => and_congr (inP_fl (r := ⟨c.X, c.Y⟩)) (and_congr (iff_congr hit_fl Iff.rfl) ?_)
 rw [sz_fl]; exact Iff.rfl
theorem exT_fl {s : Stm} {P Q : Trh → Prop} (h : ∀ t, P (fpT s t) ↔ Q t) : (∃ t, P t) ↔ ∃ t, Q t :=
 ⟨fun ⟨t, q⟩ => ⟨fpT s t, (h _).1 (by rw [fpT_fpT]; exact q)⟩, fun ⟨t, q⟩ => ⟨fpT s t, (h t).2 q⟩⟩
theorem allT_fl {s : Stm} {P Q : Trh → Prop} (h : ∀ t, P (fpT s t) ↔ Q t) : (∀ t, P t) ↔ ∀ t, Q t :=
 ⟨fun q t => (h t).1 (q _), fun q t => by rw [← fpT_fpT (s := s) t]; exact (h _).2 (q _)⟩
theorem TS_fl {s : Stm} {t : Trh} : TS (fpS s) (fpT s t) ↔ TS s t := by
 unfold TS
 refine and_congr isT_fl ?_
 show (∀ c ∈ s.Cards.map (fpC s.High), _) ↔ _
 rw [List.forall_mem_map]
 exact forall_congr' fun c => forall_congr' fun _ => RT_fl
theorem HT_fl {s : Stm} : HT (fpS s) ↔ HT s := exT_fl (s := s) fun _ => TS_fl
theorem can_fl {s : Stm} {S : Nat → Bool} : CanS (fpS s) S ↔ CanS s S := by
 refine exT_fl (s := s) fun t => and_congr isT_fl (forall_congr' fun j => forall_congr' fun _ => ?_)
 show (∀ c, (s.Cards.map (fpC s.High))[j]? = some c → _) ↔ _
 rw [List.getElem?_map]
 constructor
 ·intro q c hc
  exact RT_fl.1 (q _ (by rw [hc]; rfl))
 ·intro q c hc
  cases hj : s.Cards[j]? with
  | none => rw [hj] at hc; cases hc
  | some c' =>
   rw [hj] at hc
   cases hc
   exact RT_fl.2 (q c' hj)
open Classical in
theorem verd_fl {s : Stm} {r : Rct} : verdN (fpS s) ⟨r.X, fpR s.High r.Y⟩ = verdN s r := by
 have e : ∀ inn, (∀ t, TS (fpS s) t → ¬ Rch (fpS s) t ⟨r.X, fpR s.High r.Y⟩ inn) ↔ ∀ t, TS s t → ¬ Rch s t r inn := fun inn => allT_fl (s := s) fun t => imp_congr TS_fl (not_congr Rch_fl)
 unfold verdN
 by_cases h1 : ∀ t, TS s t → ¬ Rch s t r false
 ·rw [if_pos h1, if_pos ((e _).2 h1)]
 ·rw [if_neg h1, if_neg fun q => h1 ((e _).1 q)]
  by_cases h2 : ∀ t, TS s t → ¬ Rch s t r true
  ·rw [if_pos h2, if_pos ((e _).2 h2)]
  ·rw [if_neg h2, if_neg fun q => h2 ((e _).1 q)]
theorem Wi_fl {H lo hi : Int} {r : Rg} (h : Wi r lo hi) (he : lo + hi = H - 1) : Wi (fpR H r) lo hi := by unfold Wi fpR at *; dsimp only; omega
theorem cnt_fl {H : Int} {r : Rg} : cnt (fpR H r) = cnt r := by unfold cnt fpR; dsimp only; omega
theorem rc_fl {s : Stm} {r : Rct} (h : rcOk s r) : rcOk (fpS s) ⟨r.X, fpR s.High r.Y⟩ := ⟨h.1, Wi_fl h.2 (by show 0 + (s.High - 1) = s.High - 1; omega)⟩
theorem fpS_vs {s : Stm} (h : VS s) : VS (fpS s) := by
 refine ⟨⟨h.wide, h.high, h.fall, Wi_fl h.a (by show 0 + (s.High - 1) = s.High - 1; omega), Wi_fl h.b (by show 0 + (s.High - 1) = s.High - 1; omega), h.half, h.peak, fun c hc => ?_⟩, ?_, ?_⟩
 ·obtain ⟨c', h1, rfl⟩ := List.mem_map.1 hc
  obtain ⟨a, b, d⟩ := h.cards c' h1
  exact ⟨rc_fl a, b, d⟩
 ·have := not_many h.many
  unfold ManyS fpS
  dsimp only
  rw [List.length_map]; omega
 ·show cnt (fpR s.High s.A) * cnt (fpR s.High s.B) * cnt s.Half * cnt s.Peak ≤ 2000
  rw [cnt_fl, cnt_fl]; exact h.few
theorem flipped_eq {r : Rg} {H : Int} (h : Wi r 0 (H - 1)) (hH : H ≤ 12) : plFlipped r H = some (fpR H r) := by
 unfold Wi at h
 unfold plFlipped
 rw [gd_pos (fI (by omega)), gd_pos (fI (by omega)), gd_pos (fI (by omega)), gd_pos (fI (by omega))]; rfl
theorem m_StormMirror {s : Stm} {whr : Int} (_hs : ok_Stm s) (hwh : fitsP .u16 whr) : pStormMirror s whr = some true := by
 unfold pStormMirror
 refine ready_ev.pick (fun ⟨ht, h⟩ => ?_) fun _ => by rw [if_neg (by simp), aw]
 obtain ⟨c1, c2, c3⟩ := not_many h.many
 have hhi := h.high
 rw [if_pos rfl, flipped_eq h.a c2, Option.bind_some, flipped_eq h.b c2, Option.bind_some]
 have k1 := loopApp0 (l := s.Cards) (F := fun d acc x => pStormMirror_L0 s whr d s.Wide s.High s.Fall (fpR s.High s.A).Lo (fpR s.High s.A).Hi (fpR s.High s.B).Lo (fpR s.High s.B).Hi s.Half.Lo s.Half.Hi s.Peak.Lo s.Peak.Hi acc x) (fpC s.High) (fun acc => pStormMirror_L0 s whr (0 + 1) s.Wide s.High s.Fall (fpR s.High s.A).Lo (fpR s.High s.A).Hi (fpR s.High s.B).Lo (fpR s.High s.B).Hi s.Half.Lo s.Half.Hi s.Peak.Lo s.Peak.Hi acc (s.Cards.length : Int)) (fun d k acc a ha hac => by
  have hk := (List.getElem?_eq_some_iff.1 ha).1
  show pStormMirror_L0 s whr (d + 1) _ _ _ _ _ _ _ _ _ _ _ _ _ = _
  rw [pStormMirror_L0, if_pos (by omega), idx_at ha, Option.bind_some, flipped_eq (h.cards a (List.mem_of_getElem? ha)).1.2 c2, Option.bind_some, gd_pos (by omega), gd_pos (fI (by omega))]
  rfl) (fun d acc => by
  show pStormMirror_L0 s whr (d + 1) _ _ _ _ _ _ _ _ _ _ _ _ _ = pStormMirror_L0 s whr (0 + 1) _ _ _ _ _ _ _ _ _ _ _ _ _
  unfold pStormMirror_L0
  rw [if_neg (Int.lt_irrefl _), if_neg (Int.lt_irrefl _)]) (d := 1000000) (by omega)
 refine k1.trans ?_
 obtain ⟨r, r1, r2⟩ := box_eq h hwh
 have h' := fpS_vs h
 have hr2' := rc_fl r2
 obtain ⟨M, q1, q2⟩ := Leave_eq h
 obtain ⟨M', q3, q4⟩ := Leave_eq h'
 have hlen : (fpS s).Cards.length = s.Cards.length := List.length_map _
 rw [hlen] at q4
 have hM : M' = M := q4.uniq ⟨q2.inc, can_fl.2 q2.ok, fun D hD hD2 => q2.min D hD (can_fl.1 hD2)⟩
 subst hM
 have hMl := inc_len q2.inc
 have ex : ({ Wide := s.Wide, High := s.High, Fall := s.Fall, A := ({ Lo := (fpR s.High s.A).Lo, Hi := (fpR s.High s.A).Hi } : Rg), B := ({ Lo := (fpR s.High s.B).Lo, Hi := (fpR s.High s.B).Hi } : Rg), Half := ({ Lo := s.Half.Lo, Hi := s.Half.Hi } : Rg), Peak := ({ Lo := s.Peak.Lo, Hi := s.Peak.Hi } : Rg), Cards := s.Cards.map (fpC s.High) } : Stm) = fpS s := rfl
 have hg : gr s r.X.Lo r.Y.Lo := by
  obtain ⟨a, b⟩ := r2
  unfold Wi at a b
  unfold gr; omega
 have hg' : gr (fpS s) r.X.Lo (s.High - 1 - r.Y.Lo) := by
  unfold gr at hg ⊢
  show (0 ≤ r.X.Lo ∧ r.X.Lo ≤ s.Wide - 1) ∧ (0 ≤ s.High - 1 - r.Y.Lo ∧ s.High - 1 - r.Y.Lo ≤ s.High - 1)
  omega
 have hgy : 0 ≤ r.Y.Lo ∧ r.Y.Lo ≤ s.High - 1 := hg.2
 unfold pStormMirror_L0
 simp only [ex]
 rw [if_neg (Int.lt_irrefl _), r1, Option.bind_some, flipped_eq r2.2 c2, Option.bind_some, lStorm_eq ht.1, Option.bind_some, lRect_eq, Option.bind_some, lStorm_eq (by rw [hlen]; exact ht.1)]
 by_cases hT : HT s
 ·have hT' := HT_fl.2 hT
  obtain ⟨lo, hi, e1, e2⟩ := Sizes_ok h hT hg
  obtain ⟨lo', hi', e3, e4⟩ := Sizes_ok h' hT' hg'
  obtain ⟨f1, f2⟩ := e4.uniq e2 fun v => exT_fl (s := s) fun t => and_congr TS_fl (by dsimp only; rw [sz_fl])
  subst f1 f2
  have hb := fun (v : Int) (hv : Of s (fun t => szN s t r.X.Lo r.Y.Lo) v) => (show 0 ≤ v ∧ v ≤ 9 by
   obtain ⟨t, t1, rfl⟩ := hv
   exact szN_rng h.toVS0 h.many t1.1 hg)
  have b1 := hb _ e2.pl
  have b2 := hb _ e2.ph
  rw [Verdict_ok h hT r2, Option.bind_some, Option.bind_some, lRect_eq, Option.bind_some, Verdict_ok h' hT' hr2', Option.bind_some, Option.bind_some, e1, Option.bind_some, Option.bind_some, gd_pos (fI (by omega)), gd_pos (fI (by omega)), e3, Option.bind_some, Option.bind_some, q1, Option.bind_some, Option.bind_some, q3, Option.bind_some, verd_fl]
  dsimp only
  rw [if_pos rfl, if_pos rfl, if_pos rfl, if_pos rfl, if_pos rfl, gd_pos (fI (by omega)), gd_pos (fI (by omega)), gd_pos (fI (by omega)), gd_pos (fI (by omega)), if_pos (by simp), if_pos rfl, if_pos rfl, lInts_self (by omega), Option.bind_some, if_pos rfl, aw]
 ·have hT' : ¬ HT (fpS s) := fun q => hT (HT_fl.1 q)
  rw [Verdict_no h hT r2, Option.bind_some, Option.bind_some, lRect_eq, Option.bind_some, Verdict_no h' hT' hr2', Option.bind_some, Option.bind_some, Sizes_no h hT hg, Option.bind_some, Option.bind_some, gd_pos (fI (by omega)), gd_pos (fI (by omega)), Sizes_no h' hT' hg', Option.bind_some, Option.bind_some, q1, Option.bind_some, Option.bind_some, q3, Option.bind_some]
  dsimp only
  rw [if_pos rfl, if_pos rfl, if_pos rfl, if_neg (by decide), if_pos rfl, if_pos rfl, gd_pos (fI (by omega)), gd_pos (fI (by omega)), gd_pos (fI (by omega)), gd_pos (fI (by omega)), if_pos (by simp), if_pos rfl, if_pos rfl, lInts_self (by omega), Option.bind_some, if_pos rfl, aw]
end
end Go.Proofs.Ytbnfnhfanooplaa

