/- An evaluator of the code of a program, its soundness, what calls ask, memory, and what functions of the program do. Condition: none; a lemma text of this claim. -/
import Derived.Test.YtbnfnhfanooplaaStH

namespace Go.Proofs.Ytbnfnhfanooplaa
open _root_.Go.Proofs.Try
open Go.Abs Go.Abs.Grow
set_option maxRecDepth 100000
noncomputable section
theorem In_ev {n lo hi : Int} : Ev (prIn n lo hi) (lo ≤ n ∧ n ≤ hi) := Ev.ite fun _ => Ev.dec Iff.rfl
theorem has_ev {r : Rg} {n : Int} : Ev (phas r n) (inR r n) := Ev.ite fun _ => Ev.dec Iff.rfl
theorem rWithin_ev {r : Rg} {lo hi : Int} : Ev (prWithin r lo hi) (Wi r lo hi) := Ev.ite fun _ => Ev.ite fun _ => Ev.dec Iff.rfl
theorem within_ev {r : Rg} {lo hi : Int} : Ev (pwithin r lo hi) (Wi r lo hi) := Ev.ite fun _ => Ev.ite fun _ => Ev.dec Iff.rfl
def Fit1 (s : Stm) : Prop := (-1000 ≤ s.Wide ∧ s.Wide ≤ 1000) ∧ (-1000 ≤ s.High ∧ s.High ≤ 1000)
theorem VS0.fit {s : Stm} (h : VS0 s) (hm : ¬ ManyS s) : Fit1 s := by
 obtain ⟨a, b, _⟩ := not_many hm
 have := h.wide; have := h.high
 unfold Fit1; omega
theorem hasRect_ev {s : Stm} (h : Fit1 s) {r : Rct} : Ev (phasRect s r) (rcOk s r) := by
 unfold Fit1 at h
 exact Ev.gd (fI (by omega)) (Ev.and within_ev fun _ => Ev.gd (fI (by omega)) within_ev.ret)
theorem rIsRect_ev {s : Stm} (h : Fit1 s) {r : Rct} : Ev (prIsRect s r) (rcOk s r) := by
 unfold Fit1 at h
 exact Ev.gd (fI (by omega)) (Ev.and rWithin_ev fun _ => Ev.gd (fI (by omega)) rWithin_ev.ret)
theorem hail_ev {c : Crd} (h : Wi c.Size 0 9) : Ev (if c.Hail = true then (some true) else (gd (fitsP .i64 c.Size.Lo) (gd (fitsP .i64 (0 : Int)) (gd (fitsP .i64 c.Size.Hi) (gd (fitsP .i64 (0 : Int)) (some ((decide (c.Size.Lo = (0 : Int))) && (decide (c.Size.Hi = (0 : Int)))))))))) (c.Hail = true ∨ c.Size = ⟨0, 0⟩) := by
 unfold Wi at h
 by_cases hh : c.Hail = true
 ·rw [if_pos hh]; exact Ev.tt (.inl hh)
 ·rw [if_neg hh, gd_pos (fI (by omega)), gd_pos (fI (by omega)), gd_pos (fI (by omega)), gd_pos (fI (by omega))]
  refine Ev.mk' ?_
  obtain ⟨X, Y, hl, ⟨lo, hi⟩⟩ := c
  simp only [Bool.and_eq_true, decide_eq_true_eq, Rg.mk.injEq] at hh ⊢
  exact ⟨.inr, fun q => q.elim (fun q => absurd q hh) id⟩
theorem validCard_ev {w : Wk} (h : Fit1 w.s) {c : Crd} : Ev (pvalidCard w c) (CV w.s c) := Ev.bind rfl (Ev.and (hasRect_ev h) fun _ => Ev.and within_ev fun q => hail_ev q)
theorem rIsCard_ev {s : Stm} (h : Fit1 s) {c : Crd} : Ev (prIsCard s c) (CV s c) := Ev.and (rIsRect_ev h) fun _ => Ev.and rWithin_ev fun q => hail_ev q
theorem tooMany_ev {s : Stm} : Ev (ptooMany s) (ManyS s) := by
 unfold ptooMany ManyS
 by_cases h1 : (12 : Int) < s.Wide
 ·rw [if_pos h1]; exact Ev.tt (.inl h1)
 rw [if_neg h1]
 by_cases h2 : (12 : Int) < s.High
 ·rw [if_pos h2]; exact Ev.tt (.inr (.inl h2))
 rw [if_neg h2]; exact Ev.dec (by omega)
theorem gC {l : List Crd} {p : Crd → Option Bool} : ∀ {d : Nat} {x : Int}, pindexC_L0 l p d x = gIdx l p d x
 | 0, _ => rfl
 | d + 1, x => by unfold pindexC_L0 gIdx; simp only [gC (d := d)]
theorem gR {l : List Rct} {p : Rct → Option Bool} : ∀ {d : Nat} {x : Int}, pindexR_L0 l p d x = gIdx l p d x
 | 0, _ => rfl
 | d + 1, x => by unfold pindexR_L0 gIdx; simp only [gR (d := d)]
theorem eachC_ev {l : List Crd} {p : Crd → Option Bool} {q : Crd → Prop} (hp : ∀ a ∈ l, Ev (p a) (q a)) (hl : shrt l) : Ev (peachC l p) (∀ a ∈ l, q a) := Ev.each hp hl.lt gC
theorem eachR_ev {l : List Rct} {p : Rct → Option Bool} {q : Rct → Prop} (hp : ∀ a ∈ l, Ev (p a) (q a)) (hl : shrt l) : Ev (peachR l p) (∀ a ∈ l, q a) := Ev.each hp hl.lt gR
theorem count_eq {r : Rg} (h : Wi r (-1000) 1000) : pcount r = some (cnt r) := by
 unfold Wi at h
 unfold pcount
 rw [gd_pos (fI (by omega)), gd_pos (fI (by omega))]; rfl
theorem rCount_eq {r : Rg} (h : Wi r (-1000) 1000) : prCount r = some (cnt r) := by
 unfold Wi at h
 unfold prCount
 rw [gd_pos (fI (by omega)), gd_pos (fI (by omega))]; rfl
theorem VS0.ws {s : Stm} (h : VS0 s) (hm : ¬ ManyS s) : Wi s.A (-1000) 1000 ∧ Wi s.B (-1000) 1000 ∧ Wi s.Half (-1000) 1000 ∧ Wi s.Peak (-1000) 1000 := by
 obtain ⟨_, hh, _⟩ := not_many hm
 exact ⟨h.a.w (by omega) (by omega), h.b.w (by omega) (by omega), h.half.w (by omega) (by omega), h.peak.w (by omega) (by omega)⟩
theorem rMany_eq {s : Stm} (h : VS0 s) (hm : ¬ ManyS s) : prMany s = some (manyN s) := by
 obtain ⟨h1, h2, h3, h4, h5, h6, h7⟩ := many_rng h hm
 obtain ⟨a, b, c, d⟩ := h.ws hm
 unfold prMany
 unfold manyN at h7 ⊢
 rw [rCount_eq a, Option.bind_some, rCount_eq b, Option.bind_some, gd_pos (by omega), gd_pos (by omega), gd_pos (fI (by omega)), rCount_eq c, Option.bind_some, gd_pos (by omega), gd_pos (by omega), gd_pos (fI (by omega)), rCount_eq d, Option.bind_some, gd_pos (by omega), gd_pos (by omega), gd_pos (fI (by omega))]
theorem inAll_eq {s : Stm} (h : VS0 s) (hm : ¬ ManyS s) : pinAll s = some (manyN s) := by
 obtain ⟨h1, h2, h3, h4, h5, h6, h7⟩ := many_rng h hm
 obtain ⟨a, b, c, d⟩ := h.ws hm
 unfold pinAll
 unfold manyN at h7 ⊢
 rw [count_eq a, Option.bind_some, count_eq b, Option.bind_some, gd_pos (by omega), gd_pos (by omega), gd_pos (fI (by omega)), count_eq c, Option.bind_some, gd_pos (by omega), gd_pos (by omega), gd_pos (fI (by omega)), count_eq d, Option.bind_some, gd_pos (by omega), gd_pos (by omega), gd_pos (fI (by omega))]
theorem valid_ev {s : Stm} {R : Option (Trh → Option Cds)} (h : ¬ ManyS s) : Ev (pvalid ⟨s, R⟩) (VS0 s) := by
 obtain ⟨h1, h2, h3⟩ := not_many h
 unfold pvalid
 refine (Ev.ite fun q1 => Ev.ite fun q2 => Ev.ite fun q3 => Ev.ite fun q4 => Ev.gd (fI (by dsimp only at q2 ⊢; omega)) (Ev.and within_ev fun q5 => Ev.gd (fI (by dsimp only at q2 ⊢; omega)) (Ev.and within_ev fun q6 => Ev.and within_ev fun q7 => Ev.and within_ev fun q8 => (eachC_ev (q := CV s) (fun c _ => validCard_ev (w := ⟨s, R⟩) (by unfold Fit1; dsimp only; dsimp only at q1 q2; omega)) (fewS h3 (by omega))).ret))).imp ?_
 exact ⟨fun ⟨a, b, c, d, e, g, i, j, k⟩ => ⟨a, b, ⟨c, d⟩, e, g, i, j, k⟩, fun q => ⟨q.wide, q.high, q.fall.1, q.fall.2, q.a, q.b, q.half, q.peak, q.cards⟩⟩
theorem check_eq {s : Stm} : pcheck s = some (faultN s) := by
 unfold pcheck faultN
 refine tooMany_ev.pick (fun h => ?_) fun h => ?_
 ·rw [if_pos rfl, if_pos h]
 ·rw [if_neg (by simp), if_neg h]
  refine (valid_ev h).pick (fun hv => ?_) fun hv => ?_
  ·rw [if_pos rfl, if_pos hv, inAll_eq hv h, Option.bind_some]
   by_cases hf : manyN s ≤ 2000
   ·rw [if_neg (by omega), if_pos hf]
   ·rw [if_pos (by omega), if_neg hf]
  ·rw [if_neg (by simp), if_neg hv]
theorem fault_L0 {s : Stm} (h : ¬ ManyS s) (hf : Fit1 s) : ((∀ c ∈ s.Cards, CV s c) → prFault_L0 s 1000000 0 = ((prMany s).bind fun r => if (2000 : Int) < r then some 3 else some 0)) ∧ (¬ (∀ c ∈ s.Cards, CV s c) → prFault_L0 s 1000000 0 = some 1) := by
 obtain ⟨h1, h2, h3⟩ := not_many h
 refine loop_each (l := s.Cards) (F := fun d y => prFault_L0 s d y) (fun d k c hg => ?_) (fun d => by rw [prFault_L0, if_neg (Int.lt_irrefl _)]) (by omega)
 have hk := (List.getElem?_eq_some_iff.1 hg).1
 rw [prFault_L0, if_pos (by omega), idx_at hg, Option.bind_some]
 exact (rIsCard_ev hf).step (by rw [if_pos rfl, gd_pos (fI (by omega))]) (by rw [if_neg (by simp)])
theorem rFault_eq {s : Stm} : prFault s = some (faultN s) := by
 unfold prFault faultN
 by_cases hm : ManyS s
 ·rw [if_pos hm]
  unfold ManyS at hm
  by_cases h1 : (12 : Int) < s.Wide
  ·rw [if_pos h1]
  rw [if_neg h1]
  by_cases h2 : (12 : Int) < s.High
  ·rw [if_pos h2]
  rw [if_neg h2, if_pos (by omega)]
 obtain ⟨h1, h2, h3⟩ := not_many hm
 rw [if_neg hm, if_neg (by omega), if_neg (by omega), if_neg (by omega)]
 by_cases q1 : s.Wide < 2
 ·rw [if_pos q1, if_neg fun hv => by have := hv.wide; omega]
 rw [if_neg q1]
 by_cases q2 : s.High < 1
 ·rw [if_pos q2, if_neg fun hv => by have := hv.high; omega]
 rw [if_neg q2]
 refine In_ev.pick (fun a1 => ?_) fun a1 => by rw [if_neg (by simp), if_neg fun hv => a1 hv.fall]
 rw [if_pos rfl, gd_pos (fI (by omega))]
 refine rWithin_ev.pick (fun a2 => ?_) fun a2 => by rw [if_neg (by simp), if_neg fun hv => a2 hv.a]
 rw [if_pos rfl, gd_pos (fI (by omega))]
 refine rWithin_ev.pick (fun a3 => ?_) fun a3 => by rw [if_neg (by simp), if_neg fun hv => a3 hv.b]
 rw [if_pos rfl]
 refine rWithin_ev.pick (fun a4 => ?_) fun a4 => by rw [if_neg (by simp), if_neg fun hv => a4 hv.half]
 rw [if_pos rfl]
 refine rWithin_ev.pick (fun a5 => ?_) fun a5 => by rw [if_neg (by simp), if_neg fun hv => a5 hv.peak]
 rw [if_pos rfl]
 obtain ⟨k1, k2⟩ := fault_L0 hm (s := s) (by unfold Fit1; omega)
 by_cases r1 : ∀ c ∈ s.Cards, CV s c
 ·have hv : VS0 s := ⟨by omega, by omega, a1, a2, a3, a4, a5, r1⟩
  rw [k1 r1, if_pos hv, rMany_eq hv hm, Option.bind_some]
  by_cases hf : manyN s ≤ 2000
  ·rw [if_neg (by omega), if_pos hf]
  ·rw [if_pos (by omega), if_neg hf]
 ·rw [k2 r1, if_neg fun hv => r1 hv.cards]
theorem distance_eq {s : Stm} {t : Trh} (h : VS0 s) (hm : ¬ ManyS s) (ht : isT s t) {x y : Int} (hg : gr s x y) : pdistance s t x y = some (dN s t x y) := by
 obtain ⟨a, b, c, d⟩ := sml h hm ht hg
 obtain ⟨r1, r2, r3, r4⟩ := ht.rng h
 obtain ⟨w, hh, _⟩ := not_many hm
 have hw := h.wide
 unfold gr at hg
 unfold pdistance dN
 rw [Int.zero_sub, gd_pos (fI (by omega)), gd_pos (by omega), gd_pos (by omega), gd_pos (fI (by omega)), gd_pos (fI (by omega)), gd_pos (by omega), gd_pos (by omega), gd_pos (fI (by omega)), gd_pos (by omega), gd_pos (by omega), gd_pos (fI (by omega)), gd_pos (fI (by omega)), gd_pos (fI (by omega)), gd_pos (fI (by omega))]
theorem hits_ev {s : Stm} {t : Trh} (h : VS0 s) (hm : ¬ ManyS s) (ht : isT s t) {x y : Int} (hg : gr s x y) : phits s t x y = some (decide (hitP s t x y)) := by
 obtain ⟨a, b, c, d⟩ := sml h hm ht hg
 obtain ⟨r1, r2, r3, r4⟩ := ht.rng h
 obtain ⟨w, hh, _⟩ := not_many hm
 have hw := h.wide
 unfold phits
 rw [distance_eq h hm ht hg, Option.bind_some, gd_pos (fI (by omega)), gd_pos (by omega), gd_pos (by omega), gd_pos (fI (by omega))]; rfl
theorem size_eq {s : Stm} {t : Trh} (h : VS0 s) (hm : ¬ ManyS s) (ht : isT s t) {x y : Int} (hg : gr s x y) : psize s t x y = some (szN s t x y) := by
 obtain ⟨a, b⟩ := fall_rng h hm ht hg
 obtain ⟨d1, d2⟩ := dN_rng h hm ht hg
 obtain ⟨r1, r2, r3, r4⟩ := ht.rng h
 obtain ⟨w, hh, _⟩ := not_many hm
 have hw := h.wide
 have hf := h.fall
 unfold psize szN
 rw [hits_ev h hm ht hg, Option.bind_some]
 by_cases hp : hitP s t x y
 ·rw [if_pos (decide_eq_true hp), if_pos hp, distance_eq h hm ht hg, Option.bind_some, gd_pos (fI (by omega)), gd_pos (by omega), gd_pos (by omega), gd_pos (fI (by omega)), gd_pos (by omega), gd_pos (by omega), gd_pos (fI (by omega)), gd_pos (fI (by omega))]
 ·rw [if_neg (by rw [decide_eq_false hp]; simp), if_neg hp]
theorem numbers_go {r : Rg} {n : Int} (h : Wi r (-1000) 1000) (hn : n = cnt r) : ∀ (d k m : Nat), (k : Int) + m = n → m < d → pnumbersI_L0 r n d (k : Int) = some (segI (r.Lo + k) m)
 | 0, _, _, _, h => by omega
 | d + 1, k, 0, hk, _ => by
  unfold pnumbersI_L0
  rw [if_neg (by omega)]; rfl
 | d + 1, k, m + 1, hk, hd => by
  have hc := h
  unfold Wi at hc
  unfold cnt at hn
  unfold pnumbersI_L0
  rw [if_pos (by omega), gd_pos (fI (by omega)), gd_pos (fI (by omega)), show (k : Int) + 1 = ((k + 1 : Nat) : Int) by omega, numbers_go h (by unfold cnt; exact hn) d (k + 1) m (by omega) (by omega), Option.bind_some, show r.Lo + ((k + 1 : Nat) : Int) = r.Lo + k + 1 by omega]
  rfl
theorem numbers_eq {r : Rg} (h : Wi r (-1000) 1000) : pnumbers r = some (nums r) := by
 have hc := h
 unfold Wi at hc
 have hcn : 0 < cnt r := by unfold cnt; omega
 unfold pnumbers pnumbersI
 rw [count_eq h, Option.bind_some]
 have := numbers_go h rfl ((cnt r).toNat + 1) 0 (cnt r).toNat (by omega) (by omega)
 rw [show ((0 : Nat) : Int) = 0 by rfl] at this
 rw [this, Option.bind_some]
 unfold nums
 rw [Int.add_zero]
def plcs (r : Rct) : List (Int × Int) := (nums r.X).flatMap fun x => (nums r.Y).map fun y => (x, y)
theorem pl_L1 {x : Int} {r : List (Int × Int)} : ∀ ys : List Int, pplacesI_L1 x (some r) ys = some (ys.map (fun y => (x, y)) ++ r)
 | [] => rfl
 | y :: ys => by unfold pplacesI_L1; rw [pl_L1 ys, Option.bind_some]; rfl
theorem pl_L0 {r : Rct} (hy : Wi r.Y (-1000) 1000) : ∀ xs : List Int, pplacesI_L0 r xs = some (xs.flatMap fun x => (nums r.Y).map fun y => (x, y))
 | [] => rfl
 | x :: xs => by unfold pplacesI_L0; rw [numbers_eq hy, Option.bind_some, pl_L0 hy xs, pl_L1]; rfl
theorem places_eq {s : Stm} (hf : Fit1 s) {r : Rct} (h : rcOk s r) : pplaces r = some (plcs r) := by
 unfold Fit1 at hf
 unfold pplaces pplacesI
 rw [numbers_eq (h.1.w (by omega) (by omega)), Option.bind_some, pl_L0 (h.2.w (by omega) (by omega)), Option.bind_some]; rfl
theorem mem_plcs {s : Stm} {r : Rct} (h : rcOk s r) {x y : Int} : (x, y) ∈ plcs r ↔ inP r x y := by
 obtain ⟨h1, h2⟩ := h
 unfold Wi at h1 h2
 unfold plcs inP
 rw [List.mem_flatMap]
 constructor
 ·rintro ⟨a, ha, hb⟩
  obtain ⟨b, hb, he⟩ := List.mem_map.1 hb
  cases he
  exact ⟨(mem_nums (by omega)).1 ha, (mem_nums (by omega)).1 hb⟩
 ·rintro ⟨a, b⟩
  exact ⟨x, (mem_nums (by omega)).2 a, List.mem_map.2 ⟨y, (mem_nums (by omega)).2 b, rfl⟩⟩
theorem isR_L0 {s : Stm} {t : Trh} (h : VS0 s) (hm : ¬ ManyS s) (ht : isT s t) {c : Crd} {b : Bool} : ∀ l : List (Int × Int), (∀ p ∈ l, gr s p.1 p.2) → Ev (pisRight_L0 s c t l b) (∃ p ∈ l, (hitP s t p.1 p.2 ↔ c.Hail = true) ∧ inR c.Size (szN s t p.1 p.2))
 | [], _ => by unfold pisRight_L0; exact Ev.ff fun ⟨p, hp, _⟩ => by cases hp
 | p :: l, hl => by
  have hg := hl p (List.mem_cons_self ..)
  have ih := isR_L0 h hm ht (c := c) (b := b) l fun q hq => hl q (List.mem_cons_of_mem _ hq)
  have hno : ¬ ((hitP s t p.1 p.2 ↔ c.Hail = true) ∧ inR c.Size (szN s t p.1 p.2)) → Ev (pisRight_L0 s c t l b) (∃ q ∈ p :: l, (hitP s t q.1 q.2 ↔ c.Hail = true) ∧ inR c.Size (szN s t q.1 q.2)) := fun hn => ih.imp ⟨fun ⟨q, hq, h9⟩ => ⟨q, List.mem_cons_of_mem _ hq, h9⟩, fun ⟨q, hq, h9⟩ => by
   rcases List.mem_cons.1 hq with rfl | hq
   ·exact absurd h9 hn
   ·exact ⟨q, hq, h9⟩⟩
  unfold pisRight_L0
  rw [hits_ev h hm ht hg, Option.bind_some]
  have heq : ((decide (hitP s t p.1 p.2)) == c.Hail) = true ↔ (hitP s t p.1 p.2 ↔ c.Hail = true) := by
   rw [beq_iff_eq]
   cases hc : c.Hail <;> simp
  by_cases hh : hitP s t p.1 p.2 ↔ c.Hail = true
  ·rw [if_pos (heq.2 hh), size_eq h hm ht hg, Option.bind_some]
   obtain ⟨b', q1, q2⟩ := has_ev (r := c.Size) (n := szN s t p.1 p.2)
   rw [q1, Option.bind_some]
   cases b' with
   | true => rw [if_pos rfl]; exact Ev.tt ⟨p, List.mem_cons_self .., hh, q2.1 rfl⟩
   | false => rw [if_neg (by simp)]; exact hno fun h9 => by have := q2.2 h9.2; cases this
  ·rw [if_neg fun q => hh (heq.1 q)]; exact hno fun h9 => hh h9.1
theorem isRight_ev {s : Stm} {t : Trh} (h : VS0 s) (hm : ¬ ManyS s) (ht : isT s t) {c : Crd} (hc : CV s c) : Ev (pisRight s c t) (RT s t c) := by
 unfold pisRight prect
 rw [Option.bind_some, places_eq (h.fit hm) hc.1, Option.bind_some]
 refine (isR_L0 h hm ht _ fun p hp => gr_of hc.1 ((mem_plcs hc.1).1 hp)).imp ?_
 exact ⟨fun ⟨p, hp, h9⟩ => ⟨p.1, p.2, (mem_plcs hc.1).1 hp, h9⟩, fun ⟨x, y, hp, h9⟩ => ⟨(x, y), (mem_plcs hc.1).2 hp, h9⟩⟩
theorem ch_L3 {a b c : Int} {r : List Trh} : ∀ ds : List Int, pchoicesI_L3 a b c (some r) ds = some (ds.map (fun d => ⟨a, b, c, d⟩) ++ r)
 | [] => rfl
 | d :: ds => by unfold pchoicesI_L3; rw [ch_L3 ds, Option.bind_some]; rfl
theorem ch_L2 {s : Stm} (h4 : Wi s.Peak (-1000) 1000) {a b : Int} {r : List Trh} : ∀ cs : List Int, pchoicesI_L2 s a b (some r) cs = some ((cs.flatMap fun c => (nums s.Peak).map fun d => ⟨a, b, c, d⟩) ++ r)
 | [] => rfl
 | c :: cs => by unfold pchoicesI_L2; rw [numbers_eq h4, Option.bind_some, ch_L2 h4 cs, ch_L3, List.flatMap_cons, List.append_assoc]
theorem ch_L1 {s : Stm} (h3 : Wi s.Half (-1000) 1000) (h4 : Wi s.Peak (-1000) 1000) {a : Int} {r : List Trh} : ∀ bs : List Int, pchoicesI_L1 s a (some r) bs = some ((bs.flatMap fun b => (nums s.Half).flatMap fun c => (nums s.Peak).map fun d => ⟨a, b, c, d⟩) ++ r)
 | [] => rfl
 | b :: bs => by unfold pchoicesI_L1; rw [numbers_eq h3, Option.bind_some, ch_L1 h3 h4 bs, ch_L2 h4, List.flatMap_cons, List.append_assoc]
theorem ch_L0 {s : Stm} (h2 : Wi s.B (-1000) 1000) (h3 : Wi s.Half (-1000) 1000) (h4 : Wi s.Peak (-1000) 1000) : ∀ ws : List Int, pchoicesI_L0 s ws = some (ws.flatMap fun a => (nums s.B).flatMap fun b => (nums s.Half).flatMap fun c => (nums s.Peak).map fun d => ⟨a, b, c, d⟩)
 | [] => rfl
 | a :: ws => by unfold pchoicesI_L0; rw [numbers_eq h2, Option.bind_some, ch_L0 h2 h3 h4 ws, ch_L1 h3 h4, List.flatMap_cons]
theorem choices_eq {s : Stm} (h : VS0 s) (hm : ¬ ManyS s) : pchoices s = some (chL s) := by
 obtain ⟨a, b, c, d⟩ := h.ws hm
 unfold pchoices pchoicesI
 rw [numbers_eq a, Option.bind_some, ch_L0 b c d, Option.bind_some]; rfl
end
end Go.Proofs.Ytbnfnhfanooplaa

namespace Go.Proofs.Ytbnfnhfanooplaa
open _root_.Go.Proofs.Try
open Go.Abs Go.Abs.Grow
set_option maxRecDepth 100000
noncomputable section
def mkC (S : Nat → Bool) : Cds := ⟨S 0, S 1, S 2, S 3, S 4, S 5⟩
def upd (S : Nat → Bool) (x : Int) (v : Bool) : Nat → Bool := fun j => sti x j v (S j)
theorem mkC_congr {S S' : Nat → Bool} (h : ∀ j, j < 6 → S j = S' j) : mkC S = mkC S' := by
 unfold mkC
 rw [h 0 (by omega), h 1 (by omega), h 2 (by omega), h 3 (by omega), h 4 (by omega), h 5 (by omega)]
theorem upd_nat {S : Nat → Bool} {k : Nat} {v : Bool} (j : Nat) : upd S (k : Int) v j = if k = j then v else S j := by
 unfold upd sti
 by_cases h : k = j
 ·rw [if_pos (by omega), if_pos h]
 ·rw [if_neg (by omega), if_neg h]
def eqC (a b : Cds) : Bool := (a.c0 == b.c0) && ((a.c1 == b.c1) && ((a.c2 == b.c2) && ((a.c3 == b.c3) && ((a.c4 == b.c4) && (a.c5 == b.c5)))))
theorem eqC_mk {S S' : Nat → Bool} : eqC (mkC S) (mkC S') = true ↔ ∀ j, j < 6 → S j = S' j := by
 unfold eqC mkC
 simp only [Bool.and_eq_true, beq_iff_eq]
 constructor
 ·rintro ⟨a, b, c, d, e, f⟩ j hj
  match j, hj with
  | 0, _ => exact a
  | 1, _ => exact b
  | 2, _ => exact c
  | 3, _ => exact d
  | 4, _ => exact e
  | 5, _ => exact f
 ·intro h
  exact ⟨h 0 (by omega), h 1 (by omega), h 2 (by omega), h 3 (by omega), h 4 (by omega), h 5 (by omega)⟩
theorem idx6 {S : Nat → Bool} {k : Nat} (h : k < 6) : idx ([S 0, S 1, S 2, S 3, S 4, S 5] : List Bool) (k : Int) = some (S k) := by
 rw [idx_nat]
 match k, h with
 | 0, _ => rfl
 | 1, _ => rfl
 | 2, _ => rfl
 | 3, _ => rfl
 | 4, _ => rfl
 | 5, _ => rfl
theorem upTo_go {n : Nat} (hn : n ≤ 6) {last : Int} (hl : last + 1 = n) : ∀ (d k : Nat) (S : Nat → Bool), k ≤ n → n - k < d → pupTo_L0 last d (S 0) (S 1) (S 2) (S 3) (S 4) (S 5) (k : Int) = some (mkC fun j => (decide (k ≤ j) && decide (j < n)) || S j)
 | 0, _, _, _, h => by omega
 | d + 1, k, S, hk, hd => by
  unfold pupTo_L0
  by_cases hkn : k = n
  ·rw [if_neg (by omega)]
   refine congrArg some (mkC_congr (S := S) fun j _ => ?_)
   have : (decide (k ≤ j) && decide (j < n)) = false := by
    by_cases h9 : k ≤ j
    ·rw [decide_eq_false (show ¬ j < n by omega)]; simp
    ·rw [decide_eq_false h9]; rfl
   rw [this]; rfl
  ·rw [if_pos (by omega), gd_pos (by omega), gd_pos (fI (by omega)), show (k : Int) + 1 = ((k + 1 : Nat) : Int) by omega]
   refine (upTo_go hn hl d (k + 1) (upd S (k : Int) true) (by omega) (by omega)).trans (congrArg some (mkC_congr fun j _ => ?_))
   rw [upd_nat]
   by_cases h9 : k = j
   ·subst h9
    rw [if_pos rfl, decide_eq_true (Nat.le_refl k), decide_eq_true (show k < n by omega)]; simp
   ·rw [if_neg h9, show decide (k + 1 ≤ j) = decide (k ≤ j) from decide_eq_decide.2 (by omega)]
theorem upTo_eq {n : Nat} (hn : n ≤ 6) {last : Int} (hl : last + 1 = n) : pupTo last = some (mkC fun j => decide (j < n)) := by
 unfold pupTo
 rw [gd_pos (fI (by omega))]
 have := upTo_go hn hl ((last + 1).toNat + 1) 0 (fun _ => false) (Nat.zero_le _) (by omega)
 refine Eq.trans this (congrArg some (mkC_congr fun j _ => ?_))
 simp
theorem allCards_eq {W : Wk} (h : W.s.Cards.length ≤ 6) : pallCards W = some (mkC fun j => decide (j < W.s.Cards.length)) := by
 unfold pallCards
 rw [gd_pos (fI (by omega)), upTo_eq h (by omega), Option.bind_some]
theorem among_go {C S0 : Nat → Bool} : ∀ (d k : Nat) (S : Nat → Bool), k ≤ 6 → 6 - k < d → (∀ j, j < 6 → S j = if j < k then (S0 j && C j) else S0 j) → pamong_L0 (mkC C) d (S 0) (S 1) (S 2) (S 3) (S 4) (S 5) (k : Int) = some (mkC fun j => S0 j && C j)
 | 0, _, _, _, h, _ => by omega
 | d + 1, k, S, hk, hd, hS => by
  unfold pamong_L0
  by_cases hkn : k = 6
  ·rw [if_neg (by omega)]
   exact congrArg some (mkC_congr (S := S) fun j hj => by rw [hS j hj, if_pos (by omega)])
  ·rw [if_pos (by omega), idx6 (by omega), Option.bind_some]
   have hSk := hS k (by omega)
   rw [if_neg (Nat.lt_irrefl k)] at hSk
   have nx : ∀ v, v = (S0 k && C k) → ∀ j, j < 6 → upd S (k : Int) v j = if j < k + 1 then (S0 j && C j) else S0 j := fun v hv j hj => by
    rw [upd_nat]
    by_cases h9 : k = j
    ·subst h9; rw [if_pos rfl, if_pos (by omega)]; exact hv
    ·rw [if_neg h9, hS j hj]
     by_cases h8 : j < k
     ·rw [if_pos h8, if_pos (by omega)]
     ·rw [if_neg h8, if_neg (by omega)]
   by_cases hs : S k = true
   ·rw [if_pos hs]
    have e : idx ([(mkC C).c0, (mkC C).c1, (mkC C).c2, (mkC C).c3, (mkC C).c4, (mkC C).c5] : List Bool) (k : Int) = some (C k) := idx6 (S := C) (by omega)
    rw [e, Option.bind_some, gd_pos (by omega), gd_pos (fI (by omega)), show (k : Int) + 1 = ((k + 1 : Nat) : Int) by omega]
    exact among_go d (k + 1) (upd S (k : Int) (C k)) (by omega) (by omega) (nx _ (by rw [← hSk, hs]; rfl))
   ·rw [if_neg hs, gd_pos (by omega), gd_pos (fI (by omega)), show (k : Int) + 1 = ((k + 1 : Nat) : Int) by omega]
    exact among_go d (k + 1) (upd S (k : Int) false) (by omega) (by omega) (nx _ (by rw [← hSk]; simp at hs; rw [hs]; rfl))
theorem among_eq {C S : Nat → Bool} : pamong (mkC C) (mkC S) = some (mkC fun j => S j && C j) := by
 unfold pamong
 exact among_go _ 0 S (by omega) (by decide) fun j _ => by rw [if_neg (by omega)]
open Classical in
def SB (s : Stm) (t : Trh) (j : Nat) : Bool := decide (∃ c, s.Cards[j]? = some c ∧ RT s t c)
open Classical in
theorem SB_iff {s : Stm} {t : Trh} {j : Nat} : SB s t j = true ↔ ∃ c, s.Cards[j]? = some c ∧ RT s t c := by unfold SB; exact decide_eq_true_iff
theorem SB_out {s : Stm} {t : Trh} {j : Nat} (h : s.Cards.length ≤ j) : SB s t j = false := by
 cases hb : SB s t j with
 | false => rfl
 | true =>
  obtain ⟨c, hc, _⟩ := SB_iff.1 hb
  have := (List.getElem?_eq_some_iff.1 hc).1
  omega
theorem rightCards_eq {W : Wk} {s : Stm} (hs : W.s = s) (h : VS0 s) (hm : ¬ ManyS s) {t : Trh} (ht : isT s t) : prightCards W t = some (mkC (SB s t)) := by
 obtain ⟨_, _, h3⟩ := not_many hm
 have go : ∀ (d k : Nat) (S : Nat → Bool), k ≤ s.Cards.length → s.Cards.length - k < d → (∀ j, S j = if j < k then SB s t j else false) → prightCards_L0 W t d (S 0) (S 1) (S 2) (S 3) (S 4) (S 5) (k : Int) = some (mkC (SB s t)) := by
  intro d
  induction d with
  | zero => intro k S _ h; omega
  | succ d ih =>
   intro k S hk hd hS
   unfold prightCards_L0
   rw [hs]
   by_cases hkn : k = s.Cards.length
   ·rw [if_neg (by omega)]
    refine congrArg some (mkC_congr (S := S) fun j hj => ?_)
    rw [hS j]
    by_cases h9 : j < k
    ·rw [if_pos h9]
    ·rw [if_neg h9, SB_out (by omega)]
   ·have hlt : k < s.Cards.length := by omega
    have hg := List.getElem?_eq_getElem hlt
    have hc := h.cards _ (List.getElem_mem hlt)
    generalize s.Cards[k] = c at hg hc
    obtain ⟨b, b1, b2⟩ := isRight_ev h hm ht hc
    have hb : b = SB s t k := by
     rw [Bool.eq_iff_iff, b2, SB_iff]
     exact ⟨fun q => ⟨c, hg, q⟩, fun ⟨c', q1, q2⟩ => by rw [hg] at q1; cases q1; exact q2⟩
    rw [if_pos (by omega), idx_at hg, Option.bind_some, b1, Option.bind_some, gd_pos (by omega), gd_pos (fI (by omega)), show (k : Int) + 1 = ((k + 1 : Nat) : Int) by omega]
    refine ih (k + 1) (upd S (k : Int) b) (by omega) (by omega) fun j => ?_
    rw [upd_nat]
    by_cases h9 : k = j
    ·subst h9; rw [if_pos rfl, if_pos (by omega)]; exact hb
    ·rw [if_neg h9, hS j]
     by_cases h8 : j < k
     ·rw [if_pos h8, if_pos (by omega)]
     ·rw [if_neg h8, if_neg (by omega)]
 unfold prightCards
 rw [hs]
 exact go _ 0 (fun _ => false) (Nat.zero_le _) (by omega) fun j => by rw [if_neg (by omega)]
structure WOk (s : Stm) (W : Wk) : Prop where
 v0 : VS0 s
 many : ¬ ManyS s
 ss : W.s = s
 m : ∀ t, isT s t → mget W.right t = some (mkC (SB s t))
theorem isT.fit {s : Stm} {t : Trh} (ht : isT s t) (h : VS0 s) (hm : ¬ ManyS s) : MK.fit t := by
 obtain ⟨_, hh, _⟩ := not_many hm
 obtain ⟨a, b, c, d⟩ := ht.rng h
 exact ⟨fI (by omega), fI (by omega), fI (by omega), fI (by omega), trivial⟩
open Classical in
theorem open_L0 {s : Stm} (h : VS0 s) (hm : ¬ ManyS s) : ∀ (l : List Trh) (D : Trh → Prop) (m : Trh → Option Cds), (∀ t ∈ l, isT s t) → (∀ t, D t → m t = some (mkC (SB s t))) →
  ∃ g, popen_L0 s l (some m) = some ⟨s, some g⟩ ∧ ∀ t, (D t ∨ t ∈ l) → g t = some (mkC (SB s t))
 | [], D, m, _, hD => ⟨m, rfl, fun t ht => ht.elim (hD t) fun h => by cases h⟩
 | t :: l, D, m, hl, hD => by
  have ht := hl t (List.mem_cons_self ..)
  unfold popen_L0
  rw [rightCards_eq (s := s) rfl h hm ht, Option.bind_some, gd_pos (ht.fit h hm), show mset (some m) t (mkC (SB s t)) = some (some fun k => if k = t then some (mkC (SB s t)) else m k) from rfl, Option.bind_some]
  obtain ⟨g, g1, g2⟩ := open_L0 h hm l (fun x => D x ∨ x = t) (fun k => if k = t then some (mkC (SB s t)) else m k) (fun x hx => hl x (List.mem_cons_of_mem _ hx)) fun x hx => by
   by_cases h9 : x = t
   ·rw [if_pos h9, h9]
   ·rw [if_neg h9]; exact hD x (hx.elim id fun q => absurd q h9)
  refine ⟨g, g1, fun x hx => g2 x ?_⟩
  rcases hx with hx | hx
  ·exact .inl (.inl hx)
  ·rcases List.mem_cons.1 hx with h9 | h9
   ·exact .inl (.inr h9)
   ·exact .inr h9
theorem open_eq {s : Stm} (h : VS s) : ∃ W, popen s = some W ∧ WOk s W := by
 obtain ⟨g, g1, g2⟩ := open_L0 h.toVS0 h.many (chL s) (fun _ => False) (fun _ => none) (fun t ht => (mem_chL h.toVS0).1 ht) fun _ h => h.elim
 refine ⟨⟨s, some g⟩, ?_, h.toVS0, h.many, rfl, fun t ht => g2 t (.inr ((mem_chL h.toVS0).2 ht))⟩
 unfold popen
 rw [choices_eq h.toVS0 h.many, Option.bind_some]
 exact g1
theorem hold_iff {s : Stm} {t : Trh} {S : Nat → Bool} (hn : s.Cards.length ≤ 6) (hS : ∀ j, S j = true → j < s.Cards.length) : (∀ j, j < 6 → (S j && SB s t j) = S j) ↔ ∀ j, S j = true → ∀ c, s.Cards[j]? = some c → RT s t c := by
 constructor
 ·intro h j hj c hc
  have hjl := hS j hj
  have := h j (by omega)
  rw [hj, Bool.true_and] at this
  obtain ⟨c', q1, q2⟩ := SB_iff.1 this
  rw [hc] at q1; cases q1; exact q2
 ·intro h j hj
  cases hs : S j with
  | false => rfl
  | true =>
   have hjl := hS j hs
   rw [SB_iff.2 ⟨_, List.getElem?_eq_getElem hjl, h j hs _ (List.getElem?_eq_getElem hjl)⟩]; rfl
theorem canHold_ev {s : Stm} {W : Wk} (h : WOk s W) {S : Nat → Bool} (hS : ∀ j, S j = true → j < s.Cards.length) : Ev (pcanHold W (mkC S)) (CanS s S) := by
 obtain ⟨_, _, h3⟩ := not_many h.many
 have go : ∀ (l : List Trh) (b : Bool), (∀ t ∈ l, isT s t) → Ev (pcanHold_L0 W (mkC S) l b) (∃ t ∈ l, ∀ j, S j = true → ∀ c, s.Cards[j]? = some c → RT s t c) := by
  intro l
  induction l with
  | nil => intro b _; unfold pcanHold_L0; exact Ev.ff fun ⟨t, ht, _⟩ => by cases ht
  | cons t l ih =>
   intro b hl
   have ht := hl t (List.mem_cons_self ..)
   unfold pcanHold_L0
   rw [gd_pos (ht.fit h.v0 h.many), mcase_some (h.m t ht), among_eq, Option.bind_some]
   have heq := (eqC_mk (S := fun j => S j && SB s t j) (S' := S)).trans (hold_iff (t := t) h3 hS)
   show Ev (ite (eqC (mkC fun j => S j && SB s t j) (mkC S) = true) _ _) _
   by_cases hh : ∀ j, S j = true → ∀ c, s.Cards[j]? = some c → RT s t c
   ·rw [if_pos (heq.2 hh)]; exact Ev.tt ⟨t, List.mem_cons_self .., hh⟩
   ·rw [if_neg fun q => hh (heq.1 q)]
    exact (ih b fun x hx => hl x (List.mem_cons_of_mem _ hx)).imp ⟨fun ⟨x, hx, q⟩ => ⟨x, List.mem_cons_of_mem _ hx, q⟩, fun ⟨x, hx, q⟩ => by
     rcases List.mem_cons.1 hx with rfl | hx
     ·exact absurd q hh
     ·exact ⟨x, hx, q⟩⟩
 unfold pcanHold
 rw [h.ss, choices_eq h.v0 h.many, Option.bind_some]
 exact (go _ false fun t ht => (mem_chL h.v0).1 ht).imp ⟨fun ⟨t, h1, h2⟩ => ⟨t, (mem_chL h.v0).1 h1, h2⟩, fun ⟨t, h1, h2⟩ => ⟨t, (mem_chL h.v0).2 h1, h2⟩⟩
theorem hasTruth_ev {s : Stm} {W : Wk} (h : WOk s W) : Ev (phasTruth W) (HT s) := by
 obtain ⟨_, _, h3⟩ := not_many h.many
 unfold phasTruth
 rw [allCards_eq (by rw [h.ss]; exact h3), Option.bind_some, h.ss]
 refine (canHold_ev h fun j hj => of_decide_eq_true hj).ret.imp ?_
 rw [HT_can]
 exact CanS.congr fun j hj => decide_eq_true hj
theorem all_iff {s : Stm} {t : Trh} (hn : s.Cards.length ≤ 6) : (∀ j, j < 6 → SB s t j = decide (j < s.Cards.length)) ↔ ∀ c ∈ s.Cards, RT s t c := by
 constructor
 ·intro h c hc
  obtain ⟨j, hj⟩ := List.mem_iff_getElem?.1 hc
  have hjl := (List.getElem?_eq_some_iff.1 hj).1
  have := h j (by omega)
  rw [decide_eq_true hjl] at this
  obtain ⟨c', q1, q2⟩ := SB_iff.1 this
  rw [hj] at q1; cases q1; exact q2
 ·intro h j _
  by_cases hjl : j < s.Cards.length
  ·rw [decide_eq_true hjl]
   exact SB_iff.2 ⟨_, List.getElem?_eq_getElem hjl, h _ (List.getElem_mem hjl)⟩
  ·rw [decide_eq_false hjl]; exact SB_out (by omega)
open Classical in
theorem truths_L0 {s : Stm} {W : Wk} (h : WOk s W) : ∀ l : List Trh, (∀ t ∈ l, isT s t) → ptruthsI_L0 W (mkC fun j => decide (j < s.Cards.length)) l = some (l.filter fun t => decide (∀ c ∈ s.Cards, RT s t c))
 | [], _ => rfl
 | t :: l, hl => by
  obtain ⟨_, _, h3⟩ := not_many h.many
  have ht := hl t (List.mem_cons_self ..)
  have ih := truths_L0 h l fun x hx => hl x (List.mem_cons_of_mem _ hx)
  unfold ptruthsI_L0
  rw [gd_pos (ht.fit h.v0 h.many), mcase_some (h.m t ht), ih]
  have heq := (eqC_mk (S := SB s t) (S' := fun j => decide (j < s.Cards.length))).trans (all_iff (t := t) h3)
  show (ite (eqC (mkC (SB s t)) (mkC fun j => decide (j < s.Cards.length)) = true) _ _) = _
  by_cases ho : ∀ c ∈ s.Cards, RT s t c
  ·rw [if_pos (heq.2 ho), Option.bind_some, List.filter_cons_of_pos (by simpa using ho)]
  ·rw [if_neg fun q => ho (heq.1 q), List.filter_cons_of_neg (by simpa using ho)]
theorem truths_eq {s : Stm} {W : Wk} (h : WOk s W) : ptruths W = some (TL s) := by
 obtain ⟨_, _, h3⟩ := not_many h.many
 unfold ptruths ptruthsI
 rw [allCards_eq (by rw [h.ss]; exact h3), Option.bind_some, h.ss, choices_eq h.v0 h.many, Option.bind_some, truths_L0 h _ fun t ht => (mem_chL h.v0).1 ht, Option.bind_some]; rfl
def wk0 : Wk := { s := ({ Wide := (0 : Int), High := (0 : Int), Fall := (0 : Int), A := ({ Lo := (0 : Int), Hi := (0 : Int) } : Rg), B := ({ Lo := (0 : Int), Hi := (0 : Int) } : Rg), Half := ({ Lo := (0 : Int), Hi := (0 : Int) } : Rg), Peak := ({ Lo := (0 : Int), Hi := (0 : Int) } : Rg), Cards := [] } : Stm), right := none }
theorem openTrue_ok {s : Stm} (h : VS s) {L : List Rct} (hL : shrt L) (hr : ∀ r ∈ L, rcOk s r) (ht : HT s) : ∃ W, popenTrue s L = some (W, 0) ∧ WOk s W := by
 obtain ⟨W, h1, h2⟩ := open_eq h
 refine ⟨W, ?_, h2⟩
 unfold popenTrue
 rw [check_eq, fault_zero.2 h, Option.bind_some, if_pos rfl, (eachR_ev (q := rcOk s) (fun r _ => hasRect_ev (h.toVS0.fit h.many)) hL).some_of hr, Option.bind_some, if_pos rfl, h1, Option.bind_some, (hasTruth_ev h2).some_of ht, Option.bind_some, if_pos rfl]
theorem openTrue_no {s : Stm} (h : VS s) {L : List Rct} (hL : shrt L) (hr : ∀ r ∈ L, rcOk s r) (ht : ¬ HT s) : popenTrue s L = some (wk0, 11) := by
 obtain ⟨W, h1, h2⟩ := open_eq h
 unfold popenTrue
 rw [check_eq, fault_zero.2 h, Option.bind_some, if_pos rfl, (eachR_ev (q := rcOk s) (fun r _ => hasRect_ev (h.toVS0.fit h.many)) hL).some_of hr, Option.bind_some, if_pos rfl, h1, Option.bind_some, (hasTruth_ev h2).some_not ht, Option.bind_some, if_neg (by simp)]; rfl
end
end Go.Proofs.Ytbnfnhfanooplaa

namespace Go.Proofs.Ytbnfnhfanooplaa
open _root_.Go.Proofs.Try
open Go.Abs
set_option maxRecDepth 100000
noncomputable section
def Inc (n fr : Nat) (T : List Int) : Prop := T.Pairwise (· < ·) ∧ ∀ v ∈ T, (fr : Int) ≤ v ∧ v < n
theorem Inc.cons {n fr : Nat} {x : Int} {T : List Int} : Inc n fr (x :: T) ↔ ((fr : Int) ≤ x ∧ x < n) ∧ Inc n (x + 1).toNat T := by
 unfold Inc
 rw [List.pairwise_cons]
 constructor
 ·rintro ⟨⟨h1, h2⟩, h3⟩
  have hx := h3 x (List.mem_cons_self ..)
  exact ⟨hx, h2, fun v hv => by have := h1 v hv; have := h3 v (List.mem_cons_of_mem _ hv); omega⟩
 ·rintro ⟨hx, h2, h3⟩
  refine ⟨⟨fun v hv => by have := h3 v hv; omega, h2⟩, fun v hv => ?_⟩
  rcases List.mem_cons.1 hv with rfl | hv
  ·exact hx
  ·have := h3 v hv; omega
theorem mem_combs {n : Nat} {D : List Int} : ∀ {d : Nat} {pre : List Int} {fr : Nat}, D ∈ combs n d pre fr ↔ ∃ T, D = pre ++ T ∧ T.length = d ∧ Inc n fr T
 | 0, pre, fr => by
  show D ∈ [pre] ↔ _
  rw [List.mem_singleton]
  constructor
  ·rintro rfl; exact ⟨[], by simp, rfl, .nil, fun v hv => by cases hv⟩
  ·rintro ⟨T, h1, h2, _⟩
   rw [List.eq_nil_of_length_eq_zero h2, List.append_nil] at h1; exact h1
 | d + 1, pre, fr => by
  show D ∈ rests (fun x => combs n d (pre ++ [(x : Int)]) (x + 1)) (n - fr) fr ↔ _
  rw [mem_rests]
  constructor
  ·rintro ⟨x, h1, h2, h3⟩
   obtain ⟨T, h4, h5, h6⟩ := mem_combs.1 h3
   refine ⟨(x : Int) :: T, by rw [h4]; simp, by simp [h5], Inc.cons.2 ⟨by omega, ?_⟩⟩
   rw [show ((x : Int) + 1).toNat = x + 1 by omega]; exact h6
  ·rintro ⟨T, h1, h2, h3⟩
   cases T with
   | nil => simp at h2
   | cons v T =>
    obtain ⟨h4, h5⟩ := Inc.cons.1 h3
    refine ⟨v.toNat, by omega, by omega, mem_combs.2 ⟨T, ?_, by simpa using h2, ?_⟩⟩
    ·rw [show ((v.toNat : Nat) : Int) = v by omega, h1]; simp
    ·rw [show v.toNat + 1 = (v + 1).toNat by omega]; exact h5
theorem inc_len {n : Nat} : ∀ {T : List Int} {fr : Nat}, Inc n fr T → T.length ≤ n - fr
 | [], _, _ => Nat.zero_le _
 | v :: T, fr, h => by
  obtain ⟨h1, h2⟩ := Inc.cons.1 h
  have := inc_len h2
  simp only [List.length_cons]
  omega
theorem mem_allL {n : Nat} {D : List Int} : D ∈ allL n ↔ Inc n 0 D := by
 unfold allL
 rw [mem_rests]
 constructor
 ·rintro ⟨s, _, _, h⟩
  obtain ⟨T, h1, _, h2⟩ := mem_combs.1 h
  rw [h1]; exact h2
 ·intro h
  have := inc_len h
  exact ⟨D.length, Nat.zero_le _, by omega, mem_combs.2 ⟨D, rfl, rfl, h⟩⟩
def inD (D : List Int) (j : Nat) : Bool := decide ((j : Int) ∈ D)
def bitsF (b : Nat) : Nat → List Int
 | 0 => []
 | p + 1 => bitsF b p ++ (if b.testBit p then [(p : Int)] else [])
def bitsL (b : Nat) : List Int := bitsF b 16
theorem mem_bitsF {b : Nat} {v : Int} : ∀ {p : Nat}, v ∈ bitsF b p ↔ 0 ≤ v ∧ v < p ∧ b.testBit v.toNat = true
 | 0 => ⟨fun h => (by cases h), fun h => by omega⟩
 | p + 1 => by
  show v ∈ bitsF b p ++ _ ↔ _
  rw [List.mem_append, mem_bitsF]
  constructor
  ·rintro (h | h)
   ·exact ⟨h.1, by omega, h.2.2⟩
   ·by_cases hb : b.testBit p = true
    ·rw [if_pos hb, List.mem_singleton] at h
     subst h; exact ⟨by omega, by omega, hb⟩
    ·rw [if_neg hb] at h; cases h
  ·rintro ⟨h1, h2, h3⟩
   by_cases hv : v = (p : Int)
   ·subst hv
    have h4 : b.testBit p = true := h3
    rw [if_pos h4]; exact .inr (List.mem_singleton.2 rfl)
   ·exact .inl ⟨h1, by omega, h3⟩
theorem sorted_bitsF {b : Nat} : ∀ p : Nat, (bitsF b p).Pairwise (· < ·)
 | 0 => .nil
 | p + 1 => by
  show (bitsF b p ++ _).Pairwise _
  rw [List.pairwise_append]
  refine ⟨sorted_bitsF p, ?_, fun a ha c hc => ?_⟩
  ·split
   ·exact List.pairwise_singleton _ _
   ·exact .nil
  ·have := mem_bitsF.1 ha
   split at hc
   ·rw [List.mem_singleton] at hc; omega
   ·cases hc
theorem bitsF_more {b p : Nat} (h : ∀ q, p ≤ q → b.testBit q = false) : ∀ k, bitsF b (p + k) = bitsF b p
 | 0 => rfl
 | k + 1 => by
  show bitsF b (p + k) ++ (if b.testBit (p + k) then _ else _) = _
  rw [h (p + k) (by omega), bitsF_more h k]; simp
theorem lenF {b : Nat} : ∀ p, (bitsF b p).length ≤ p
 | 0 => Nat.le_refl _
 | p + 1 => by
  show (bitsF b p ++ _).length ≤ _
  rw [List.length_append]
  have := lenF (b := b) p
  split <;> simp <;> omega
theorem bit_zero {b p q : Nat} (h : b / 2 ^ p = 0) (hq : p ≤ q) : b.testBit q = false := by
 have h1 : b < 2 ^ p := by
  rcases Nat.lt_or_ge b (2 ^ p) with h2 | h2
  ·exact h2
  ·have := Nat.div_pos h2 (Nat.two_pow_pos p); omega
 exact Nat.testBit_lt_two_pow (Nat.lt_of_lt_of_le h1 (Nat.pow_le_pow_right (by omega) hq))
def bef : List Int → List Int → Bool
 | [], [] => false
 | [], _ :: _ => true
 | _ :: _, [] => false
 | x :: a, y :: b => if x = y then bef a b else decide (x < y)
def shB (a b : List Int) : Bool := decide (a.length < b.length) || (decide (a.length = b.length) && bef a b)
theorem bef_irr : ∀ A : List Int, bef A A = false
 | [] => rfl
 | x :: A => by show (if x = x then bef A A else _) = _; rw [if_pos rfl, bef_irr A]
theorem bef_asym : ∀ {A B : List Int}, bef A B = true → bef B A = false
 | [], [], h => by cases h
 | [], _ :: _, _ => rfl
 | _ :: _, [], h => by cases h
 | x :: A, y :: B, h => by
  have h' : (if x = y then bef A B else decide (x < y)) = true := h
  show (if y = x then bef B A else decide (y < x)) = false
  by_cases hxy : x = y
  ·rw [if_pos hxy] at h'; rw [if_pos hxy.symm]; exact bef_asym h'
  ·rw [if_neg hxy] at h'; rw [if_neg fun h => hxy h.symm]
   have := of_decide_eq_true h'
   exact decide_eq_false (by omega)
theorem shB_iff {A B : List Int} : shB A B = true ↔ A.length < B.length ∨ (A.length = B.length ∧ bef A B = true) := by
 unfold shB
 rw [Bool.or_eq_true, Bool.and_eq_true, decide_eq_true_eq, decide_eq_true_eq]
theorem shB_irr (A : List Int) : shB A A = false := by unfold shB; rw [decide_eq_false (by omega), bef_irr]; simp
theorem shB_asym {A B : List Int} (h : shB A B = true) : shB B A = false := by
 unfold shB at h ⊢
 rw [Bool.or_eq_true, Bool.and_eq_true, decide_eq_true_eq, decide_eq_true_eq] at h
 rcases h with h | ⟨h1, h2⟩
 ·rw [decide_eq_false (by omega), decide_eq_false (by omega)]; rfl
 ·rw [decide_eq_false (by omega), bef_asym h2]; simp
theorem bef_app (x y : Int) (A B : List Int) (hxy : x < y) : ∀ pre : List Int, bef (pre ++ x :: A) (pre ++ y :: B) = true
 | [] => by show (if x = y then _ else decide (x < y)) = true; rw [if_neg (by omega), decide_eq_true hxy]
 | p :: pre => by show (if p = p then bef (pre ++ x :: A) (pre ++ y :: B) else _) = true; rw [if_pos rfl]; exact bef_app x y A B hxy pre
theorem rests_pairwise {α : Type} {R : α → α → Prop} (g : Nat → List α) (h1 : ∀ x, (g x).Pairwise R) (h2 : ∀ x y, x < y → ∀ a ∈ g x, ∀ b ∈ g y, R a b) : ∀ e x, (rests g e x).Pairwise R
 | 0, _ => .nil
 | e + 1, x => by
  show (g x ++ rests g e (x + 1)).Pairwise R
  rw [List.pairwise_append]
  refine ⟨h1 x, rests_pairwise g h1 h2 e (x + 1), fun a ha b hb => ?_⟩
  obtain ⟨j, h3, _, h4⟩ := (mem_rests g b e (x + 1)).1 hb
  exact h2 x j (by omega) a ha b h4
theorem combs_pairwise {n : Nat} : ∀ (d : Nat) (pre : List Int) (fr : Nat), (combs n d pre fr).Pairwise fun a b => bef a b = true
 | 0, pre, fr => List.pairwise_singleton _ _
 | d + 1, pre, fr => rests_pairwise _ (fun x => combs_pairwise d _ _) (fun x y hxy a ha b hb => by
  obtain ⟨T, h1, _, _⟩ := mem_combs.1 ha
  obtain ⟨T', h2, _, _⟩ := mem_combs.1 hb
  rw [h1, h2, List.append_assoc, List.append_assoc]
  exact bef_app _ _ _ _ (by omega) pre) _ _
theorem allL_pairwise (n : Nat) : (allL n).Pairwise fun a b => shB a b = true :=
 rests_pairwise _ (fun s => (combs_pairwise s [] 0).imp_of_mem fun {a b} ha hb hab => by
  have h1 := combs_len ha
  have h2 := combs_len hb
  unfold shB
  rw [hab, decide_eq_true (show a.length = b.length by omega)]; simp) (fun s s' hs a ha b hb => by
  have h1 := combs_len ha
  have h2 := combs_len hb
  unfold shB
  rw [decide_eq_true (by omega)]; rfl) _ _
theorem find_min {t : List Int → Bool} : ∀ {l : List (List Int)}, l.Pairwise (fun a b => shB a b = true) → ∀ {D D' : List Int}, l.find? t = some D → D' ∈ l → t D' = true → D' = D ∨ shB D D' = true
 | [], _, _, _, h, _, _ => by cases h
 | a :: l, hp, D, D', h, hm, ht => by
  rw [List.pairwise_cons] at hp
  rw [List.find?_cons] at h
  cases hta : t a with
  | true =>
   rw [hta] at h
   have : a = D := Option.some.inj h
   subst this
   rcases List.mem_cons.1 hm with rfl | h1
   ·exact .inl rfl
   ·exact .inr (hp.1 _ h1)
  | false =>
   rw [hta] at h
   rcases List.mem_cons.1 hm with rfl | h1
   ·rw [hta] at ht; cases ht
   ·exact find_min hp.2 h h1 ht
theorem shortL_spec {n : Nat} {t : List Int → Bool} (h : ∃ D, Inc n 0 D ∧ t D = true) : Inc n 0 (shortL n t) ∧ t (shortL n t) = true ∧ ∀ D, Inc n 0 D → t D = true → D = shortL n t ∨ shB (shortL n t) D = true := by
 obtain ⟨D0, h1, h2⟩ := h
 unfold shortL
 cases hf : (allL n).find? t with
 | none => exact absurd h2 (by have := List.find?_eq_none.1 hf D0 (mem_allL.2 h1); simpa using this)
 | some D => exact ⟨mem_allL.1 (List.mem_of_find?_eq_some hf), List.find?_some hf, fun D' h3 h4 => find_min (allL_pairwise n) hf (mem_allL.2 h3) h4⟩
theorem bits_inc {n b : Nat} (_hn : n ≤ 16) (hb : b < 2 ^ n) : Inc n 0 (bitsL b) :=
 ⟨sorted_bitsF 16, fun v hv => by
  obtain ⟨h1, h2, h3⟩ := mem_bitsF.1 hv
  refine ⟨by omega, ?_⟩
  by_cases h4 : v < n
  ·exact h4
  ·have := Nat.testBit_lt_two_pow (Nat.lt_of_lt_of_le hb (Nat.pow_le_pow_right (by omega) (show n ≤ v.toNat by omega)))
   rw [this] at h3; cases h3⟩
theorem inD_bits {n b k : Nat} (hn : n ≤ 16) (hk : k < n) : inD (bitsL b) k = b.testBit k := by
 unfold inD
 have : ((k : Nat) : Int) ∈ bitsL b ↔ b.testBit k = true := by
  unfold bitsL
  rw [mem_bitsF]
  exact ⟨fun h => h.2.2, fun h => ⟨by omega, by omega, h⟩⟩
 cases hb : b.testBit k with
 | true => exact decide_eq_true (this.2 hb)
 | false => exact decide_eq_false fun h => by rw [this.1 h] at hb; cases hb
end
end Go.Proofs.Ytbnfnhfanooplaa

namespace Go.Proofs.Ytbnfnhfanooplaa
open _root_.Go.Proofs.Try
open Go.Abs Go.Abs.Grow
set_option maxRecDepth 100000
noncomputable section
theorem minimum_eq {l : List Int} (h : l ≠ []) (hl : shrt l) : pminimum l = some (minL l) := by
 have hl := hl.lt
 cases l with
 | nil => exact absurd rfl h
 | cons x l =>
  unfold pminimum
  rw [if_neg (by simp; omega), idx_zero rfl, Option.bind_some]
  have key := loopFold (l := x :: l) (fun s a => min s a) (fun d s k => pminimum_L0 (x :: l) d s k) some (fun d k s a ha => by
   have hk := (List.getElem?_eq_some_iff.1 ha).1
   rw [pminimum_L0, if_pos (by omega), idx_at ha, Option.bind_some]
   by_cases hc : a < s
   ·rw [if_pos hc, gd_pos (fI (by omega)), Int.min_eq_right (by omega)]
   ·rw [if_neg hc, gd_pos (fI (by omega)), Int.min_eq_left (by omega)]) (fun d s => by rw [pminimum_L0, if_neg (Int.lt_irrefl _)]) ((x :: l).length + 1) 0 x (Nat.zero_le _) (by omega)
  refine key.trans ?_
  rw [List.drop_zero]
  show some (l.foldl min (min x x)) = _
  rw [Int.min_self]; rfl
theorem max_eq {l : List Int} (h : l ≠ []) (hl : shrt l) : psMax l = some (maxL l) := by
 have hl := hl.lt
 cases l with
 | nil => exact absurd rfl h
 | cons x l =>
  unfold psMax
  rw [if_neg (by simp; omega), idx_zero rfl, Option.bind_some]
  have key := loopFold (l := x :: l) (fun s a => max s a) (fun d s k => psMax_L0 (x :: l) d s k) some (fun d k s a ha => by
   have hk := (List.getElem?_eq_some_iff.1 ha).1
   rw [psMax_L0, if_pos (by omega), idx_at ha, Option.bind_some, gd_pos (fI (by omega))]) (fun d s => by rw [psMax_L0, if_neg (Int.lt_irrefl _)]) ((((x :: l).length : Int) - 1).toNat + 1) 1 x (by simp) (by simp only [List.length_cons]; omega)
  exact key
def Of (s : Stm) (h : Trh → Int) : Int → Prop := fun x => ∃ t, TS s t ∧ h t = x
theorem span_L0 {q : Trh → Option Int} {h : Trh → Int} : ∀ (l : List Trh) (acc : List Int), (∀ c ∈ l, q c = some (h c)) → acc.length + l.length < 1048576 → acc ++ l.map h ≠ [] → pspan_L0 q l acc = some ⟨minL (acc ++ l.map h), maxL (acc ++ l.map h)⟩
 | [], acc, _, hl, hne => by
  unfold pspan_L0
  rw [List.map_nil, List.append_nil] at hne ⊢
  simp only [List.length_nil] at hl
  rw [minimum_eq hne (by unfold shrt; omega), Option.bind_some, max_eq hne (by unfold shrt; omega), Option.bind_some]
 | c :: l, acc, hq, hl, hne => by
  simp only [List.length_cons] at hl
  unfold pspan_L0
  rw [hq c (List.mem_cons_self ..), Option.bind_some, gd_pos (by omega), span_L0 l (acc ++ [h c]) (fun x hx => hq x (List.mem_cons_of_mem _ hx)) (by rw [List.length_append]; simp only [List.length_cons, List.length_nil]; omega) (by simp), List.append_assoc]
  rfl
theorem span_eq {s : Stm} {W : Wk} (hw : WOk s W) (ht : HT s) {q : Trh → Option Int} {h : Trh → Int} (hq : ∀ t, TS s t → q t = some (h t)) : ∃ lo hi, pspan W q = some ⟨lo, hi⟩ ∧ Spn (Of s h) lo hi := by
 have hlen := TL_len hw.v0 hw.many
 have hne2 : [] ++ (TL s).map h ≠ [] := by
  obtain ⟨t, h1⟩ := ht
  have := (mem_TL hw.v0).2 h1
  intro hn
  rw [List.nil_append, List.map_eq_nil_iff] at hn
  rw [hn] at this; cases this
 have hmem : ∀ x, x ∈ ([] : List Int) ++ (TL s).map h ↔ Of s h x := fun x => by
  rw [List.nil_append, List.mem_map]
  exact ⟨fun ⟨t, h1, h2⟩ => ⟨t, (mem_TL hw.v0).1 h1, h2⟩, fun ⟨t, h1, h2⟩ => ⟨t, (mem_TL hw.v0).2 h1, h2⟩⟩
 refine ⟨_, _, ?_, (hmem _).1 (minL_mem hne2).1, (hmem _).1 (maxL_mem hne2).1, fun x hx => ⟨(minL_mem hne2).2 x ((hmem x).2 hx), (maxL_mem hne2).2 x ((hmem x).2 hx)⟩⟩
 unfold pspan
 rw [truths_eq hw, Option.bind_some, span_L0 (h := h) _ [] (fun c hc => hq c ((mem_TL hw.v0).1 hc)) (by simp only [List.length_nil]; omega) hne2]
theorem cloneC_eq {l : List Crd} (h : l.length ≤ 1000) : pcloneC l = some l := by
 unfold pcloneC
 rw [gd_pos (by simp only [List.length_nil]; omega), List.nil_append]
structure BOk (s x : Stm) : Prop where
 rest : x.Wide = s.Wide ∧ x.High = s.High ∧ x.Fall = s.Fall ∧ x.Cards = s.Cards
 a : Spn (Of s fun t => t.A) x.A.Lo x.A.Hi
 b : Spn (Of s fun t => t.B) x.B.Lo x.B.Hi
 half : Spn (Of s fun t => t.Half) x.Half.Lo x.Half.Hi
 peak : Spn (Of s fun t => t.Peak) x.Peak.Lo x.Peak.Hi
theorem Bounds_ok {s : Stm} (h : VS s) (ht : HT s) : ∃ b, pBounds s = some (b, 0) ∧ BOk s b := by
 obtain ⟨W, h1, hw⟩ := openTrue_ok h (L := []) (by unfold shrt; simp) (fun r hr => by cases hr) ht
 obtain ⟨_, _, h3⟩ := not_many h.many
 obtain ⟨a1, a2, a3, a4⟩ := span_eq hw ht (q := fun a => pbA a) (h := fun t => t.A) (fun t _ => rfl)
 obtain ⟨b1, b2, b3, b4⟩ := span_eq hw ht (q := fun a => pbB a) (h := fun t => t.B) (fun t _ => rfl)
 obtain ⟨c1, c2, c3, c4⟩ := span_eq hw ht (q := fun a => pbHalf a) (h := fun t => t.Half) (fun t _ => rfl)
 obtain ⟨d1, d2, d3, d4⟩ := span_eq hw ht (q := fun a => pbPeak a) (h := fun t => t.Peak) (fun t _ => rfl)
 refine ⟨⟨s.Wide, s.High, s.Fall, ⟨a1, a2⟩, ⟨b1, b2⟩, ⟨c1, c2⟩, ⟨d1, d2⟩, s.Cards⟩, ?_, ⟨rfl, rfl, rfl, rfl⟩, a4, b4, c4, d4⟩
 unfold pBounds
 rw [h1, Option.bind_some, if_pos rfl]
 dsimp only
 rw [a3, Option.bind_some, b3, Option.bind_some, c3, Option.bind_some, d3, Option.bind_some, cloneC_eq (by omega), Option.bind_some]
def st0 : Stm := { Wide := (0 : Int), High := (0 : Int), Fall := (0 : Int), A := ({ Lo := (0 : Int), Hi := (0 : Int) } : Rg), B := ({ Lo := (0 : Int), Hi := (0 : Int) } : Rg), Half := ({ Lo := (0 : Int), Hi := (0 : Int) } : Rg), Peak := ({ Lo := (0 : Int), Hi := (0 : Int) } : Rg), Cards := [] }
theorem Bounds_no {s : Stm} (h : VS s) (ht : ¬ HT s) : pBounds s = some (st0, 11) := by
 unfold pBounds
 rw [openTrue_no h (L := []) (by unfold shrt; simp) (fun r hr => by cases hr) ht, Option.bind_some, if_neg (by decide)]; rfl
def allI (n : Nat) : List Int := (List.range n).map fun j => ((j : Nat) : Int)
theorem all_inc (n : Nat) : Inc n 0 (allI n) := by
 refine ⟨?_, fun v hv => ?_⟩
 ·unfold allI
  rw [List.pairwise_map]
  exact List.pairwise_lt_range.imp fun h => by omega
 ·obtain ⟨j, hj, rfl⟩ := List.mem_map.1 hv
  have := List.mem_range.1 hj
  omega
theorem all_in {n j : Nat} (h : j < n) : inD (allI n) j = true := decide_eq_true (List.mem_map.2 ⟨j, List.mem_range.2 h, rfl⟩)
structure MinP (n : Nat) (P : (Nat → Bool) → Prop) (M : List Int) : Prop where
 inc : Inc n 0 M
 ok : P (inD M)
 min : ∀ D, Inc n 0 D → P (inD D) → D = M ∨ shB M D = true
theorem inc_lt {n : Nat} {D : List Int} (h : Inc n 0 D) {j : Nat} (hj : inD D j = true) : j < n := by
 have := of_decide_eq_true hj
 have := (h.2 _ this).2
 omega
theorem inc_mem {n : Nat} {D : List Int} (h : Inc n 0 D) {v : Int} (hv : v ∈ D) : ∃ j : Nat, v = (j : Int) ∧ j < n := by
 have := h.2 v hv
 exact ⟨v.toNat, by omega, by omega⟩
theorem clash_ev {s : Stm} {W : Wk} (h : WOk s W) {D : List Int} (hD : Inc s.Cards.length 0 D) : Ev (pclash W D) (¬ CanS s (inD D)) := by
 obtain ⟨_, _, h3⟩ := not_many h.many
 have hlen := inc_len hD
 have go : ∀ (d i : Nat) (S : Nat → Bool), i ≤ D.length → D.length - i < d → (∀ j, S j = decide ((j : Int) ∈ D.take i)) → Ev (pclash_L0 W D d (S 0) (S 1) (S 2) (S 3) (S 4) (S 5) (i : Int)) (¬ CanS s (inD D)) := by
  intro d
  induction d with
  | zero => intro i S _ h; omega
  | succ d ih =>
   intro i S hi hd hS
   unfold pclash_L0
   by_cases hin : i = D.length
   ·rw [if_neg (by omega)]
    rw [hin, List.take_length] at hS
    have hS' : S = inD D := funext hS
    subst hS'
    exact (canHold_ev h (S := inD D) fun j hj => inc_lt hD hj).neg
   ·have hlt : i < D.length := by omega
    have hg := List.getElem?_eq_getElem hlt
    have hm := List.getElem_mem hlt
    generalize D[i] = v at hg hm
    obtain ⟨k, rfl, hk⟩ := inc_mem hD hm
    rw [if_pos (by omega), idx_at hg, Option.bind_some, gd_pos (by omega), gd_pos (fI (by omega)), show (i : Int) + 1 = ((i + 1 : Nat) : Int) by omega]
    refine ih (i + 1) (upd S (k : Int) true) (by omega) (by omega) fun j => ?_
    rw [upd_nat, List.take_add_one, hg]
    by_cases h9 : k = j
    ·subst h9; rw [if_pos rfl]; exact (decide_eq_true (by simp)).symm
    ·rw [if_neg h9, hS j]
     refine decide_eq_decide.2 ?_
     simp only [Option.toList_some, List.mem_append, List.mem_singleton]
     exact ⟨.inl, fun q => q.elim id fun q => absurd (by omega) h9⟩
 unfold pclash
 exact go _ 0 (fun _ => false) (Nat.zero_le _) (by omega) fun j => by simp
theorem canLeave_ev {s : Stm} {W : Wk} (h : WOk s W) {D : List Int} (hD : Inc s.Cards.length 0 D) : Ev (pcanLeave W D) (CanS s fun j => !inD D j) := by
 obtain ⟨_, _, h3⟩ := not_many h.many
 have hlen := inc_len hD
 have go : ∀ (d i : Nat) (S : Nat → Bool), i ≤ D.length → D.length - i < d → (∀ j, j < 6 → S j = (decide (j < s.Cards.length) && !decide ((j : Int) ∈ D.take i))) → Ev (pcanLeave_L0 W D d (S 0) (S 1) (S 2) (S 3) (S 4) (S 5) (i : Int)) (CanS s fun j => !inD D j) := by
  intro d
  induction d with
  | zero => intro i S _ h; omega
  | succ d ih =>
   intro i S hi hd hS
   unfold pcanLeave_L0
   by_cases hin : i = D.length
   ·rw [if_neg (by omega)]
    rw [hin, List.take_length] at hS
    have e : (mkC S) = mkC fun j => decide (j < s.Cards.length) && !inD D j := mkC_congr hS
    show Ev ((pcanHold W (mkC S)).bind fun r => some r) _
    rw [e]
    refine (canHold_ev h (S := fun j => decide (j < s.Cards.length) && !inD D j) fun j hj => ?_).ret.imp (CanS.congr fun j hj => ?_)
    ·rw [Bool.and_eq_true] at hj; exact of_decide_eq_true hj.1
    ·rw [decide_eq_true hj]; rfl
   ·have hlt : i < D.length := by omega
    have hg := List.getElem?_eq_getElem hlt
    have hm := List.getElem_mem hlt
    generalize D[i] = v at hg hm
    obtain ⟨k, rfl, hk⟩ := inc_mem hD hm
    rw [if_pos (by omega), idx_at hg, Option.bind_some, gd_pos (by omega), gd_pos (fI (by omega)), show (i : Int) + 1 = ((i + 1 : Nat) : Int) by omega]
    refine ih (i + 1) (upd S (k : Int) false) (by omega) (by omega) fun j hj6 => ?_
    rw [upd_nat, List.take_add_one, hg]
    by_cases h9 : k = j
    ·subst h9; rw [if_pos rfl, decide_eq_true (show ((k : Int) ∈ D.take i ++ (some (k : Int)).toList) by simp)]; simp
    ·rw [if_neg h9, hS j hj6]
     congr 2
     refine decide_eq_decide.2 ?_
     simp only [Option.toList_some, List.mem_append, List.mem_singleton]
     exact ⟨.inl, fun q => q.elim id fun q => absurd (by omega) h9⟩
 unfold pcanLeave
 rw [allCards_eq (by rw [h.ss]; exact h3), Option.bind_some, h.ss]
 exact go _ 0 (fun j => decide (j < s.Cards.length)) (Nat.zero_le _) (by omega) fun j _ => by simp
theorem shortX {s : Stm} {W : Wk} (hw : WOk s W) {f : Wk → List Int → Option Bool} {P : (Nat → Bool) → Prop} (hf : ∀ D, Inc s.Cards.length 0 D → Ev (f W D) (P (inD D))) (hex : ∃ D, Inc s.Cards.length 0 D ∧ P (inD D)) : ∃ M, pshortestX W ⟨f⟩ = some M ∧ MinP s.Cards.length P M := by
 obtain ⟨_, _, h3⟩ := not_many hw.many
 have ht : ∀ D, Inc s.Cards.length 0 D → (((f W D).getD false) = true ↔ P (inD D)) := fun D hD => by
  obtain ⟨b, q1, q2⟩ := hf D hD
  rw [q1]; exact q2
 obtain ⟨D0, d1, d2⟩ := hex
 obtain ⟨s1, s2, s3⟩ := shortL_spec (n := s.Cards.length) (t := fun L => (f W L).getD false) ⟨D0, d1, (ht _ d1).2 d2⟩
 refine ⟨shortL s.Cards.length fun L => (f W L).getD false, ?_, s1, (ht _ s1).1 s2, fun D hD hD2 => s3 D hD ((ht D hD).2 hD2)⟩
 unfold pshortestX pshortest pshortest1
 have e : ∀ a, ((f W a).bind fun r => some r) = f W a := fun a => by cases f W a <;> rfl
 simp only [e, hw.ss]
 rw [gd_pos ⟨by omega, by omega, fun L hL => by
  have hI : Inc s.Cards.length 0 L := by rw [Int.toNat_natCast] at hL; exact mem_allL.1 hL
  obtain ⟨b, q1, _⟩ := hf L hI
  rw [q1]; rfl⟩, Option.bind_some, Int.toNat_natCast]
theorem Leave_eq {s : Stm} (h : VS s) : ∃ M, pLeave s = some (M, 0) ∧ MinP s.Cards.length (fun S => CanS s fun j => !S j) M := by
 obtain ⟨W, h1, hw⟩ := open_eq h
 obtain ⟨M, a1, a2⟩ := shortX hw (f := fun a b => pcanLeave a b) (P := fun S => CanS s fun j => !S j) (fun D hD => canLeave_ev hw hD) ⟨allI s.Cards.length, all_inc _, by
  obtain ⟨t, ht⟩ := isT_ex h.toVS0
  exact ⟨t, ht, fun j hj c hc => by replace hj : (!inD (allI s.Cards.length) j) = true := hj; rw [all_in (List.getElem?_eq_some_iff.1 hc).1] at hj; cases hj⟩⟩
 refine ⟨M, ?_, a2⟩
 unfold pLeave
 rw [check_eq, fault_zero.2 h, Option.bind_some, if_pos rfl, h1, Option.bind_some, a1, Option.bind_some]
theorem Clash_ok {s : Stm} (h : VS s) (ht : HT s) : pClash s = some ([], 7) := by
 obtain ⟨W, h1, hw⟩ := open_eq h
 unfold pClash
 rw [check_eq, fault_zero.2 h, Option.bind_some, if_pos rfl, h1, Option.bind_some, (hasTruth_ev hw).some_of ht, Option.bind_some, if_pos rfl]
theorem Clash_eq {s : Stm} (h : VS s) (ht : ¬ HT s) : ∃ M, pClash s = some (M, 0) ∧ MinP s.Cards.length (fun S => ¬ CanS s S) M := by
 obtain ⟨W, h1, hw⟩ := open_eq h
 obtain ⟨M, a1, a2⟩ := shortX hw (f := fun a b => pclash a b) (P := fun S => ¬ CanS s S) (fun D hD => clash_ev hw hD) ⟨allI s.Cards.length, all_inc _, fun q => ht (HT_can.2 ((CanS.congr fun j hj => all_in hj).1 q))⟩
 refine ⟨M, ?_, a2⟩
 unfold pClash
 rw [check_eq, fault_zero.2 h, Option.bind_some, if_pos rfl, h1, Option.bind_some, (hasTruth_ev hw).some_not ht, Option.bind_some, if_neg (by simp), a1, Option.bind_some]
end
end Go.Proofs.Ytbnfnhfanooplaa

namespace Go.Proofs.Ytbnfnhfanooplaa
open _root_.Go.Proofs.Try
open Go.Abs Go.Abs.Grow
set_option maxRecDepth 100000
noncomputable section
theorem aw : (pawake.bind fun r => some r) = some true := rfl
def ThinN (s : Stm) : Prop := s.Cards.length ≤ 9 ∧ (faultN s = 0 → manyN s ≤ 300)
theorem thin_ev {s : Stm} : Ev (plThin s) (ThinN s) := by
 unfold plThin ThinN
 refine (Ev.ite (K := faultN s = 0 → manyN s ≤ 300) fun h1 => ?_).imp (and_congr (by omega) Iff.rfl)
 rw [rFault_eq, Option.bind_some]
 by_cases hf : faultN s = 0
 ·have h := fault_zero.1 hf
  rw [if_pos hf, rMany_eq h.toVS0 h.many, Option.bind_some]
  exact Ev.dec ⟨fun h _ => h, fun h => h hf⟩
 ·rw [if_neg hf]; exact Ev.tt fun h => absurd h hf
theorem ready_ev {s : Stm} : Ev (plReady s) (ThinN s ∧ VS s) := by
 unfold plReady
 refine Ev.and thin_ev fun _ => ?_
 rw [rFault_eq, Option.bind_some]
 exact Ev.dec fault_zero
theorem lStorm_eq {s : Stm} (h : s.Cards.length ≤ 9) : plStorm s = some s := by
 have k1 := loopApp0 (l := s.Cards) (F := fun d acc x => plStorm_L0 s d s.Wide s.High s.Fall s.A.Lo s.A.Hi s.B.Lo s.B.Hi s.Half.Lo s.Half.Hi s.Peak.Lo s.Peak.Hi acc x) (fun c : Crd => c) (fun acc => some ({ s with Cards := acc } : Stm)) (fun d k acc a ha hac => by
  have hk := (List.getElem?_eq_some_iff.1 ha).1
  show plStorm_L0 s (d + 1) _ _ _ _ _ _ _ _ _ _ _ _ _ = _
  rw [plStorm_L0, if_pos (by omega), idx_at ha, Option.bind_some]
  unfold plTo
  rw [Option.bind_some, Option.bind_some, Option.bind_some, gd_pos (by omega), gd_pos (fI (by omega))]) (fun d acc => by show plStorm_L0 s (d + 1) _ _ _ _ _ _ _ _ _ _ _ _ _ = _; rw [plStorm_L0, if_neg (Int.lt_irrefl _)]) (d := 1000000) (by omega)
 unfold plStorm plTo
 rw [Option.bind_some, Option.bind_some, Option.bind_some, Option.bind_some]
 refine k1.trans ?_
 rw [List.map_id']
def wC (s : Stm) (V : List Crd) : Stm := { s with Cards := V }
def kpF : List Crd → Nat → (Nat → Bool) → List Crd
 | [], _, _ => []
 | v :: V, i, S => if S i = true then v :: kpF V (i + 1) S else kpF V (i + 1) S
theorem mem_kpF {S : Nat → Bool} {v : Crd} : ∀ (V : List Crd) (i : Nat), v ∈ kpF V i S ↔ ∃ j, V[j]? = some v ∧ S (i + j) = true
 | [], i => by simp [kpF]
 | a :: V, i => by
  have ih := mem_kpF (S := S) (v := v) V (i + 1)
  have e : (∃ j, (a :: V)[j]? = some v ∧ S (i + j) = true) ↔ (a = v ∧ S i = true) ∨ ∃ j, V[j]? = some v ∧ S (i + 1 + j) = true := by
   constructor
   ·rintro ⟨j, h1, h2⟩
    cases j with
    | zero => exact .inl ⟨by simpa using h1, h2⟩
    | succ j => exact .inr ⟨j, by simpa using h1, by rw [show i + 1 + j = i + (j + 1) by omega]; exact h2⟩
   ·rintro (⟨h1, h2⟩ | ⟨j, h1, h2⟩)
    ·exact ⟨0, by simpa using h1, h2⟩
    ·exact ⟨j + 1, by simpa using h1, by rw [show i + (j + 1) = i + 1 + j by omega]; exact h2⟩
  rw [e]
  unfold kpF
  by_cases hs : S i = true
  ·rw [if_pos hs, List.mem_cons, ih]
   exact or_congr ⟨fun h => ⟨h.symm, hs⟩, fun h => h.1.symm⟩ Iff.rfl
  ·rw [if_neg hs, ih]
   exact ⟨.inr, fun h => h.elim (fun h => absurd h.2 hs) id⟩
theorem kpF_len {S : Nat → Bool} : ∀ (V : List Crd) (i : Nat), (kpF V i S).length ≤ V.length
 | [], _ => Nat.le_refl _
 | a :: V, i => by
  have := kpF_len (S := S) V (i + 1)
  unfold kpF
  split <;> simp only [List.length_cons] <;> omega
theorem wu {n : Nat} (h : n ≤ 64) : wrapZ .u64 (n : Int) = (n : Int) := wz (show (0 : Int) ≤ n ∧ (n : Int) < 18446744073709551616 by omega)
theorem pow6 {i : Nat} (h : i ≤ 6) : 2 ^ i ≤ 64 := Nat.le_trans (Nat.pow_le_pow_right (by omega) h) (by decide)
theorem some_go {s : Stm} (hn : s.Cards.length ≤ 6) {b : Nat} (hb : b < 65536) : ∀ (d i : Nat) (acc : List Crd), i ≤ s.Cards.length → s.Cards.length - i < d → acc.length ≤ i →
  plSome_L0 s (b : Int) d s.Wide s.High s.Fall s.A.Lo s.A.Hi s.B.Lo s.B.Hi s.Half.Lo s.Half.Hi s.Peak.Lo s.Peak.Hi acc (i : Int) = some (wC s (acc ++ kpF (s.Cards.drop i) i fun j => b.testBit j))
 | 0, i, _, _, h, _ => by omega
 | d + 1, i, acc, hi, hd, ha => by
  unfold plSome_L0
  by_cases hin : i = s.Cards.length
  ·rw [if_neg (by omega), hin, List.drop_length]
   unfold kpF wC
   rw [List.append_nil]
  have hlt : i < s.Cards.length := by omega
  have hg := List.getElem?_eq_getElem hlt
  rw [List.drop_eq_getElem_cons hlt]
  generalize s.Cards[i] = v at hg
  have hle : b / 2 ^ i ≤ b := Nat.div_le_self _ _
  have hbit : b.testBit i = decide (b / 2 ^ i % 2 = 1) := Nat.testBit_eq_decide_div_mod_eq ..
  have hq : (b : Int) / 2 ^ (Int.toNat (i : Int)) = ((b / 2 ^ i : Nat) : Int) := by rw [Int.toNat_natCast]; simp
  rw [if_pos (by omega), gd_pos (by omega), wu (show i ≤ 64 by omega), gd_pos (by omega), gd_pos (by omega), hq]
  clear hq
  generalize b / 2 ^ i = q at *
  rw [gd_pos (fI (by omega)), gd_pos (by omega), gd_pos (by omega), gd_pos (fI (by omega)), kpF]
  by_cases h1 : q % 2 = 1
  ·rw [if_pos (by omega), idx_at hg, Option.bind_some, gd_pos (by omega), gd_pos (fI (by omega)), show (i : Int) + 1 = ((i + 1 : Nat) : Int) by omega, some_go hn hb d (i + 1) (acc ++ [v]) (by omega) (by omega) (by simp; omega), if_pos (by rw [hbit, decide_eq_true h1]), List.append_assoc]
   rfl
  ·rw [if_neg (by omega), gd_pos (fI (by omega)), show (i : Int) + 1 = ((i + 1 : Nat) : Int) by omega, some_go hn hb d (i + 1) acc (by omega) (by omega) (by omega), if_neg (by rw [hbit, decide_eq_false h1]; simp)]
theorem some_eq {s : Stm} (hn : s.Cards.length ≤ 6) {b : Nat} (hb : b < 65536) : plSome s (b : Int) = some (wC s (kpF s.Cards 0 fun j => b.testBit j)) := by
 have := some_go hn hb 1000000 0 [] (Nat.zero_le _) (by omega) (Nat.le_refl _)
 rw [List.drop_zero, List.nil_append] at this
 exact this
theorem wC_vs {s : Stm} (h : VS s) {V : List Crd} (hv : ∀ c ∈ V, CV s c) (hn : V.length ≤ 6) : VS (wC s V) := by
 refine ⟨⟨h.wide, h.high, h.fall, h.a, h.b, h.half, h.peak, hv⟩, ?_, h.few⟩
 have := not_many h.many
 unfold ManyS wC
 dsimp only
 omega
theorem kp_ok {s : Stm} (h : VS s) {S : Nat → Bool} : (∀ v ∈ kpF s.Cards 0 S, CV s v) ∧ (kpF s.Cards 0 S).length ≤ 6 := by
 refine ⟨fun v hv => ?_, Nat.le_trans (kpF_len _ _) (not_many h.many).2.2⟩
 obtain ⟨j, h1, _⟩ := (mem_kpF _ _).1 hv
 exact h.cards v (List.mem_of_getElem? h1)
theorem ht_kpF {s : Stm} {S : Nat → Bool} : HT (wC s (kpF s.Cards 0 S)) ↔ CanS s S := by
 refine exists_congr fun t => and_congr Iff.rfl ?_
 constructor
 ·intro h j hj c hc
  exact h c ((mem_kpF _ _).2 ⟨j, hc, by rw [Nat.zero_add]; exact hj⟩)
 ·intro h c hc
  obtain ⟨j, h1, h2⟩ := (mem_kpF _ _).1 hc
  rw [Nat.zero_add] at h2
  exact h j h2 c h1
open Classical in
theorem lHas_eq {s : Stm} (h : VS s) {b : Nat} (hb : b < 65536) : plHas s (b : Int) = some (decide (CanS s fun j => b.testBit j), true) := by
 obtain ⟨k1, k2⟩ := kp_ok h (S := fun j => b.testBit j)
 have hv := wC_vs h k1 k2
 unfold plHas
 rw [some_eq (not_many h.many).2.2 hb, Option.bind_some, lStorm_eq (by show (kpF _ _ _).length ≤ 9; omega), Option.bind_some]
 by_cases hT : CanS s fun j => b.testBit j
 ·obtain ⟨l, h1, _⟩ := Bounds_ok hv (ht_kpF.2 hT)
  rw [h1, Option.bind_some, if_pos rfl, decide_eq_true hT]; rfl
 ·rw [Bounds_no hv fun q => hT (ht_kpF.1 q), Option.bind_some, if_neg (by decide), decide_eq_false hT]; rfl
theorem rEvery_eq {s : Stm} (hn : s.Cards.length ≤ 6) : prEvery s = some ((2 ^ s.Cards.length - 1 : Nat) : Int) := by
 have hp := pow6 hn
 have h0 := Nat.two_pow_pos s.Cards.length
 have e : (1 : Int) * 2 ^ (Int.toNat (s.Cards.length : Int)) = ((2 ^ s.Cards.length : Nat) : Int) := by rw [Int.toNat_natCast, Int.one_mul, Int.natCast_pow]; rfl
 unfold prEvery
 rw [wu (by omega), e, gd_pos (by omega), gd_pos (by omega), gd_pos (by omega), gd_pos (fI (by omega)), gd_pos (fI (by omega))]
 congr 1; omega
end
end Go.Proofs.Ytbnfnhfanooplaa

namespace Go.Proofs.Ytbnfnhfanooplaa
open _root_.Go.Proofs.Try
open Go.Abs Go.Abs.Grow
set_option maxRecDepth 100000
noncomputable section
theorem rBits_go {b : Nat} (hb : b < 65536) : ∀ (d p : Nat) (acc : List Int), p ≤ 16 → 16 - p < d → acc = bitsF b p → prBits_L0 (b : Int) d acc (p : Int) = some (bitsL b)
 | 0, _, _, _, h, _ => by omega
 | d + 1, p, acc, hp, h, ha => by
  have hle : b / 2 ^ p ≤ b := Nat.div_le_self _ _
  rw [prBits_L0, wu (show p ≤ 64 by omega)]
  have hq : (b : Int) / 2 ^ ((p : Int)).toNat = ((b / 2 ^ p : Nat) : Int) := by rw [Int.toNat_natCast]; simp
  rw [hq]
  clear hq
  have hl := lenF (b := b) p
  have hbit : b.testBit p = decide (b / 2 ^ p % 2 = 1) := Nat.testBit_eq_decide_div_mod_eq ..
  have h16 : p = 16 → b / 2 ^ p = 0 := fun he => by subst he; exact Nat.div_eq_of_lt (by omega)
  have h0' : b / 2 ^ p = 0 → bitsF b p = bitsL b := fun h9 => by
   have := bitsF_more (b := b) (p := p) (fun q hq => bit_zero h9 hq) (16 - p)
   rw [show p + (16 - p) = 16 by omega] at this
   exact this.symm
  generalize b / 2 ^ p = q at hle hbit h16 h0' ⊢
  rw [gd_pos (by omega), gd_pos (by omega), gd_pos (by omega), gd_pos (fI (by omega))]
  by_cases h0 : 0 < q
  ·have hp16 : p < 16 := by
    rcases Nat.lt_or_ge p 16 with h1 | h1
    ·exact h1
    ·have := h16 (by omega); omega
   rw [if_pos (by omega), gd_pos (by omega), gd_pos (by omega), gd_pos (by omega), gd_pos (fI (by omega)), gd_pos (by omega), gd_pos (by omega), gd_pos (fI (by omega))]
   by_cases h1 : q % 2 = 1
   ·rw [if_pos (by omega), gd_pos (show acc.length < 1048576 by rw [ha]; omega), gd_pos (fI (by omega)), show (p : Int) + 1 = ((p + 1 : Nat) : Int) by omega]
    refine rBits_go hb d (p + 1) _ (by omega) (by omega) ?_
    show _ = bitsF b p ++ (if b.testBit p then [(p : Int)] else [])
    rw [ha, hbit, h1]; rfl
   ·rw [if_neg (by omega), gd_pos (fI (by omega)), show (p : Int) + 1 = ((p + 1 : Nat) : Int) by omega]
    refine rBits_go hb d (p + 1) _ (by omega) (by omega) ?_
    show _ = bitsF b p ++ (if b.testBit p then [(p : Int)] else [])
    rw [ha, hbit, decide_eq_false h1]; simp
  ·rw [if_neg (by omega), ha]
   exact congrArg some (h0' (by omega))
theorem rBits_eq {b : Nat} (hb : b < 65536) : prBits (b : Int) = some (bitsL b) := rBits_go hb 1000000 0 [] (Nat.zero_le _) (by omega) rfl
theorem rBefore_go {a b : List Int} (hl : a.length ≤ 1000) : ∀ (d k : Nat), k ≤ a.length → a.length - k < d → prBefore_L0 a b d (k : Int) = some (bef (a.drop k) (b.drop k))
 | 0, _, _, h => by omega
 | d + 1, k, hk, h => by
  rw [prBefore_L0]
  by_cases hka : k < a.length
  ·rw [if_pos (by omega)]
   have da := List.drop_eq_getElem_cons hka
   have ga := List.getElem?_eq_getElem hka
   by_cases hkb : k < b.length
   ·have db := List.drop_eq_getElem_cons hkb
    have gb := List.getElem?_eq_getElem hkb
    rw [if_pos (by omega), idx_at ga, Option.bind_some, idx_at gb, Option.bind_some, da, db]
    unfold bef
    by_cases he : a[k] = b[k]
    ·rw [if_pos he, if_pos he, gd_pos (fI (by omega)), show (k : Int) + 1 = ((k + 1 : Nat) : Int) by omega]
     exact rBefore_go hl d (k + 1) (by omega) (by omega)
    ·rw [if_neg he, if_neg he, Option.bind_some, Option.bind_some]
   ·rw [if_neg (by omega), da, List.drop_eq_nil_of_le (show b.length ≤ k by omega), decide_eq_false (by omega)]; rfl
  ·rw [if_neg (by omega), List.drop_eq_nil_of_le (show a.length ≤ k by omega)]
   by_cases hkb : k < b.length
   ·rw [List.drop_eq_getElem_cons hkb, decide_eq_true (by omega)]; rfl
   ·rw [List.drop_eq_nil_of_le (show b.length ≤ k by omega), decide_eq_false (by omega)]; rfl
theorem rBefore_eq {a b : List Int} (hl : a.length ≤ 1000) : prBefore a b = some (bef a b) := rBefore_go hl (a.length + 1) 0 (Nat.zero_le _) (by omega)
theorem rShorter_eq {a b : List Int} (hl : a.length ≤ 1000) : prShorter a b = some (shB a b) := by
 unfold prShorter shB
 by_cases h1 : a.length < b.length
 ·rw [if_pos (by omega), decide_eq_true h1]; rfl
 ·rw [if_neg (by omega), decide_eq_false h1]
  by_cases h2 : a.length = b.length
  ·rw [if_pos (by omega), rBefore_eq hl, decide_eq_true h2]; simp
  ·rw [if_neg (by omega), decide_eq_false h2]; simp
theorem len_bits {b : Nat} : (bitsL b).length ≤ 16 := lenF 16
theorem or_bit {M : List Int} {n : Nat} (hI : Inc n 0 M) {i : Nat} (hi : i < M.length) {b : Nat} (hb : b < 2 ^ n) (hb2 : ∀ j, j < n → b.testBit j = decide ((j : Int) ∈ M.take i)) :
  (Nat.lor b (2 ^ (M[i]).toNat)) < 2 ^ n ∧ ∀ j, j < n → (Nat.lor b (2 ^ (M[i]).toNat)).testBit j = decide ((j : Int) ∈ M.take (i + 1)) := by
 have hx := hI.2 _ (List.getElem_mem hi)
 have e : ∀ j, (Nat.lor b (2 ^ (M[i]).toNat)).testBit j = (b.testBit j || decide ((M[i]).toNat = j)) := fun j => by
  show (b ||| 2 ^ _).testBit j = _
  rw [Nat.testBit_or, Nat.testBit_two_pow]
 refine ⟨Nat.lt_pow_two_of_testBit _ fun j hj => ?_, fun j hj => ?_⟩
 ·rw [e, Nat.testBit_lt_two_pow (Nat.lt_of_lt_of_le hb (Nat.pow_le_pow_right (by omega) hj)), decide_eq_false (by omega)]; rfl
 ·rw [e, hb2 j hj, List.take_add_one, List.getElem?_eq_getElem hi]
  rw [← Bool.decide_or]
  refine decide_eq_decide.2 ?_
  rw [List.mem_append]
  refine or_congr Iff.rfl ?_
  simp only [Option.toList_some, List.mem_singleton]
  omega
theorem pow_cast (j : Nat) (c : Int) : c * 2 ^ (Int.toNat (j : Int)) = c * ((2 ^ j : Nat) : Int) := by rw [Int.toNat_natCast, Int.natCast_pow]; rfl
theorem bitsOf_go {n : Nat} (hn : n ≤ 6) {M : List Int} (hI : Inc n 0 M) : ∀ (d i b : Nat), i ≤ M.length → M.length - i < d → b < 2 ^ n → (∀ j, j < n → b.testBit j = decide ((j : Int) ∈ M.take i)) →
  ∃ c : Nat, plBitsOf_L0 M (n : Int) d (b : Int) (i : Int) = some ((c : Int), true) ∧ c < 2 ^ n ∧ ∀ j, j < n → c.testBit j = inD M j
 | 0, i, _, _, h, _, _ => by omega
 | d + 1, i, b, hi, hd, hb, hb2 => by
  have hM := inc_len hI
  by_cases hin : i = M.length
  ·subst hin
   rw [List.take_length] at hb2
   unfold plBitsOf_L0
   rw [if_neg (Int.lt_irrefl _)]
   exact ⟨b, rfl, hb, hb2⟩
  have hlt : i < M.length := by omega
  have hg := List.getElem?_eq_getElem hlt
  have hx := hI.2 _ (List.getElem_mem hlt)
  obtain ⟨o1, o2⟩ := or_bit hI hlt hb hb2
  have hpw : (1 : Int) * 2 ^ (Int.toNat (wrapZ .u64 M[i])) = ((2 ^ (M[i]).toNat : Nat) : Int) := by
   rw [show wrapZ .u64 M[i] = M[i] from wz (show (0 : Int) ≤ M[i] ∧ M[i] < 18446744073709551616 by omega), Int.one_mul]; simp
  have hp := pow6 (i := (M[i]).toNat) (by omega)
  have hp6 := pow6 hn
  have hw : wrapZ .u64 M[i] = M[i] := wz (show (0 : Int) ≤ M[i] ∧ M[i] < 18446744073709551616 by omega)
  have hpre : ∀ j, j + 1 = i → ∃ y, M[j]? = some y ∧ y < M[i] := fun j hj => by
   have hjl : j < M.length := by omega
   exact ⟨_, List.getElem?_eq_getElem hjl, List.pairwise_iff_getElem.1 hI.1 j i hjl hlt (by omega)⟩
  have ih := bitsOf_go hn hI d (i + 1) (Nat.lor b (2 ^ (M[i]).toNat)) (by omega) (by omega) o1 o2
  generalize M[i] = x at *
  unfold plBitsOf_L0
  rw [if_pos (by omega), idx_at hg, Option.bind_some, if_neg (by omega), Option.bind_some, if_neg (by omega), show (i : Int) + 1 = ((i + 1 : Nat) : Int) by omega]
  by_cases h0 : 0 < i
  ·obtain ⟨y, y1, y2⟩ := hpre (i - 1) (by omega)
   rw [if_pos (by omega), Option.bind_some, gd_pos (fI (by omega)), idx_pred h0 y1, Option.bind_some, if_neg (by omega), Option.bind_some, hpw, Int.toNat_natCast, Int.toNat_natCast, hw]
   generalize hpg : 2 ^ x.toNat = P at *
   rw [gd_pos (by omega), gd_pos (by omega), gd_pos (by omega), gd_pos (fI (by omega)), gd_pos (by omega), gd_pos (by omega), gd_pos (fI (by omega)), gd_pos (fI (by omega)), gd_pos (fI (by omega)), gd_pos (fI (by omega))]
   exact ih
  ·rw [if_neg (by omega), Option.bind_some, hpw, Int.toNat_natCast, Int.toNat_natCast, hw]
   generalize hpg : 2 ^ x.toNat = P at *
   rw [gd_pos (by omega), gd_pos (by omega), gd_pos (by omega), gd_pos (fI (by omega)), gd_pos (by omega), gd_pos (by omega), gd_pos (fI (by omega)), gd_pos (fI (by omega)), gd_pos (fI (by omega)), gd_pos (fI (by omega))]
   exact ih
theorem bitsOf_eq {n : Nat} (hn : n ≤ 6) {M : List Int} (hI : Inc n 0 M) : ∃ c : Nat, plBitsOf M (n : Int) = some ((c : Int), true) ∧ c < 2 ^ n ∧ ∀ j, j < n → c.testBit j = inD M j :=
 bitsOf_go hn hI (M.length + 1) 0 0 (Nat.zero_le _) (by omega) (Nat.two_pow_pos n) fun j _ => by simp
theorem CanS.bits {s : Stm} {b : Nat} (hn : s.Cards.length ≤ 6) : CanS s (fun j => !inD (bitsL b) j) ↔ CanS s fun j => !b.testBit j := CanS.congr fun j hj => by rw [inD_bits (n := s.Cards.length) (by omega) hj]
end
end Go.Proofs.Ytbnfnhfanooplaa

namespace Go.Proofs.Ytbnfnhfanooplaa
open _root_.Go.Proofs.Try
open Go.Abs Go.Abs.Grow
set_option maxRecDepth 100000
noncomputable section
theorem filt_len {x : Int} : ∀ {C : List Int}, x ∈ C → (C.filter fun v => decide (v ≠ x)).length < C.length
 | a :: C, h => by
  rw [List.filter_cons]
  by_cases ha : a = x
  ·rw [if_neg (by simp [ha])]
   have := List.length_filter_le (fun v => decide (v ≠ x)) C
   simp only [List.length_cons]; omega
  ·rw [if_pos (by simp [ha])]
   have := filt_len (x := x) (C := C) ((List.mem_cons.1 h).elim (fun q => absurd q.symm ha) id)
   simp only [List.length_cons]; omega
theorem less_can {s : Stm} {C : List Int} (hC : MinP s.Cards.length (fun S => ¬ CanS s S) C) {k : Nat} (hk : (k : Int) ∈ C) : CanS s fun j => inD C j && !decide (k = j) := by
 refine Classical.byContradiction fun hn => ?_
 have hI : Inc s.Cards.length 0 (C.filter fun v => decide (v ≠ (k : Int))) := ⟨hC.inc.1.filter _, fun v hv => hC.inc.2 v (List.mem_filter.1 hv).1⟩
 have e : ∀ j, inD (C.filter fun v => decide (v ≠ (k : Int))) j = (inD C j && !decide (k = j)) := fun j => by
  rw [Bool.eq_iff_iff]
  unfold inD
  simp only [decide_eq_true_eq, List.mem_filter, Bool.and_eq_true, Bool.not_eq_true', decide_eq_false_iff_not]
  exact and_congr Iff.rfl ⟨fun h q => h (by omega), fun h q => h (by omega)⟩
 have hl := filt_len hk
 rcases hC.min _ hI (fun q => hn ((CanS.congr fun j _ => e j).1 q)) with h1 | h1
 ·rw [h1] at hl; omega
 ·rcases shB_iff.1 h1 with h2 | h2 <;> omega
theorem less_bit {b k : Nat} (hb : b < 64) : Nat.xor b (Nat.land b (2 ^ k)) < 64 ∧ ∀ j, (Nat.xor b (Nat.land b (2 ^ k))).testBit j = (b.testBit j && !decide (k = j)) := by
 have e : ∀ j, (Nat.xor b (Nat.land b (2 ^ k))).testBit j = (b.testBit j && !decide (k = j)) := fun j => by
  show (b ^^^ (b &&& 2 ^ k)).testBit j = _
  rw [Nat.testBit_xor, Nat.testBit_and, Nat.testBit_two_pow]
  cases b.testBit j <;> cases decide (k = j) <;> rfl
 refine ⟨?_, e⟩
 show _ < 2 ^ 6
 exact Nat.lt_pow_two_of_testBit _ fun j hj => by rw [e, Nat.testBit_lt_two_pow (Nat.lt_of_lt_of_le (show b < 2 ^ 6 from hb) (Nat.pow_le_pow_right (by omega) hj))]; rfl
open Classical in
theorem clashes_go {s : Stm} (h : VS s) {tried : Int} (htr : fitsP .u8 tried) {C : List Int} (hC : MinP s.Cards.length (fun S => ¬ CanS s S) C) {b : Nat} (hb : b < 2 ^ s.Cards.length) (hb2 : ∀ j, j < s.Cards.length → b.testBit j = inD C j) : ∀ (d i : Nat), i ≤ C.length → C.length - i < d → pStormClashes_L0 s tried (C, 0) ((b : Int), true) d (i : Int) = some true
 | 0, i, _, h => by omega
 | d + 1, i, hi, hd => by
  obtain ⟨_, _, h3⟩ := not_many h.many
  have hp6 := pow6 h3
  have hCl := inc_len hC.inc
  have hp0 := Nat.two_pow_pos s.Cards.length
  unfold pStormClashes_L0
  dsimp only
  by_cases hin : i = C.length
  ·have u1 := fU8 htr
   obtain ⟨n, hn1⟩ : ∃ n : Nat, tried = (n : Int) := ⟨tried.toNat, by omega⟩
   subst hn1
   have hwt : wrapZ .i64 (n : Int) = (n : Int) := wz (fI (by omega))
   obtain ⟨N, hN⟩ : ∃ N, N = Nat.land n (2 ^ s.Cards.length - 1) := ⟨_, rfl⟩
   have hNlt : N < 2 ^ s.Cards.length := by
    have : N ≤ 2 ^ s.Cards.length - 1 := by rw [hN]; exact Nat.and_le_right
    omega
   rw [if_neg (by omega), rEvery_eq h3, Option.bind_some, hwt, gd_pos (by omega), gd_pos (by omega), gd_pos (fI (by omega)), gd_pos (fI (by omega)), Int.toNat_natCast, Int.toNat_natCast, ← hN, gd_pos (fI (by omega)), lHas_eq h (by omega), Option.bind_some]
   dsimp only
   rw [if_pos rfl]
   by_cases hp : CanS s fun j => N.testBit j
   ·rw [decide_eq_true hp, if_pos rfl, aw]
   ·have hl := len_bits (b := N)
    have hsh : shB (bitsL N) C = false := by
     rcases hC.min (bitsL N) (bits_inc (by omega) hNlt) (fun q => hp ((CanS.congr fun j hj => inD_bits (n := s.Cards.length) (by omega) hj).1 q)) with h1 | h1
     ·rw [h1]; exact shB_irr C
     ·exact shB_asym h1
    rw [decide_eq_false hp, if_neg (by simp), rBits_eq (by omega), Option.bind_some, rShorter_eq (by omega), Option.bind_some, hsh, if_neg (by simp), aw]
  ·have hlt : i < C.length := by omega
   have hg := List.getElem?_eq_getElem hlt
   have hm := List.getElem_mem hlt
   generalize C[i] = v at hg hm
   obtain ⟨k, rfl, hk⟩ := inc_mem hC.inc hm
   have hpk := pow6 (i := k) (by omega)
   have hpw : (1 : Int) * 2 ^ (Int.toNat (wrapZ .u64 (k : Int))) = ((2 ^ k : Nat) : Int) := by rw [wu (by omega), pow_cast, Int.one_mul]
   obtain ⟨l1, l2⟩ := less_bit (b := b) (k := k) (by omega)
   have p1 : CanS s fun j => (Nat.xor b (Nat.land b (2 ^ k))).testBit j := (CanS.congr fun j hj => by rw [l2 j, hb2 j hj]).2 (less_can hC hm)
   have ih := clashes_go h htr hC hb hb2 d (i + 1) (by omega) (by omega)
   rw [if_pos (by omega), idx_at hg, Option.bind_some, hpw, Int.toNat_natCast, Int.toNat_natCast, wu (by omega), show (i : Int) + 1 = ((i + 1 : Nat) : Int) by omega]
   generalize Nat.xor b (Nat.land b (2 ^ k)) = B at *
   generalize 2 ^ k = P at *
   rw [gd_pos (by omega), gd_pos (by omega), gd_pos (by omega), gd_pos (fI (by omega)), gd_pos (by omega), gd_pos (by omega), gd_pos (fI (by omega)), gd_pos (fI (by omega)), gd_pos (fI (by omega)), lHas_eq h (by omega), Option.bind_some, decide_eq_true p1]
   dsimp only
   rw [if_pos rfl, if_pos rfl, gd_pos (fI (by omega))]
   exact ih
open Classical in
theorem m_StormClashes {s : Stm} {tried : Int} (_hs : ok_Stm s) (htr : fitsP .u8 tried) : pStormClashes s tried = some true := by
 unfold pStormClashes
 refine ready_ev.pick (fun ⟨ht, h⟩ => ?_) fun _ => by rw [if_neg (by simp), aw]
 obtain ⟨_, _, h3⟩ := not_many h.many
 have hp6 := pow6 h3
 obtain ⟨L, q1, q2⟩ := Leave_eq h
 rw [if_pos rfl, lStorm_eq ht.1, Option.bind_some]
 by_cases hT : HT s
 ·have hL : L = [] := by
   rcases q2.min [] ⟨List.Pairwise.nil, fun v hv => by cases hv⟩ ((CanS.congr fun j _ => by simp [inD]).1 (HT_can.1 hT)) with h1 | h1
   ·exact h1.symm
   ·rcases shB_iff.1 h1 with h2 | h2
    ·simp at h2
    ·exact List.eq_nil_of_length_eq_zero h2.1
  rw [Clash_ok h hT, Option.bind_some, Option.bind_some, q1, Option.bind_some, if_pos rfl, if_neg (by decide), if_pos rfl, hL, if_pos (show ((([] : List Int).length : Nat) : Int) = 0 from rfl), aw]
 ·obtain ⟨C, a1, a2⟩ := Clash_eq h hT
  obtain ⟨b, b1, hb, hb2⟩ := bitsOf_eq h3 a2.inc
  obtain ⟨c, c1, hc, hc2⟩ := bitsOf_eq h3 q2.inc
  have hand : Nat.land b c ≠ 0 := fun h0 => a2.ok (CanS.mono (S := fun j => !inD L j) (fun j hj => by
   have hjl := inc_lt a2.inc hj
   have h1 : (b &&& c).testBit j = false := by rw [show b &&& c = 0 from h0]; exact Nat.zero_testBit j
   rw [Nat.testBit_and, hb2 j hjl, hc2 j hjl, hj, Bool.true_and] at h1
   show (!inD L j) = true
   rw [h1]; rfl) q2.ok)
  have hle : Nat.land b c ≤ b := Nat.and_le_left
  have nb : ¬ CanS s fun j => b.testBit j := fun q => a2.ok ((CanS.congr fun j hj => hb2 j hj).1 q)
  rw [a1, Option.bind_some, Option.bind_some, q1, Option.bind_some, if_pos rfl, if_pos rfl]
  dsimp only
  rw [b1, Option.bind_some, c1, Option.bind_some]
  dsimp only
  rw [if_pos rfl, if_pos rfl, Int.toNat_natCast, Int.toNat_natCast]
  generalize Nat.land b c = X at *
  rw [gd_pos (by omega), gd_pos (by omega), gd_pos (fI (by omega)), gd_pos (fI (by omega)), gd_pos (fI (by omega)), if_neg (by omega), lHas_eq h (by omega), Option.bind_some, decide_eq_false nb]
  dsimp only
  rw [if_neg (by simp), if_pos rfl]
  exact clashes_go h htr a2 hb hb2 (C.length + 1) 0 (Nat.zero_le _) (by omega)
end
end Go.Proofs.Ytbnfnhfanooplaa

