/- GrowthApart, for all that it can be called with, returns true. Condition: none. -/
import Derived.Test.YtmlaphekbnanjaaGtH
import GoSem.Step
import GoSem.ClaimKeys
import Derived.DeepKeys2
import Derived.RangeFuncLeaves
import Derived.OrdersIn
import Derived.Laws.World
import Derived.Laws.Sem
import Derived.RangeFuncRecord
import Derived.Laws.CopyRow
import Derived.Laws.Append
import Derived.Laws.Rows
import Derived.Laws.Slices
import Derived.Laws.Entries
import Derived.ChangeKeysEq
import Derived.IntWalk
import Derived.DeepKeys
import Derived.DeepKeys3
import Derived.Laws.StructEq
import Derived.MapKept
import Derived.Laws.AppendOwn
import Derived.ChangeArms
import Derived.ChangeOld
import Derived.Carry
import Derived.ChangeShapes
import Derived.KernelRfl
import Derived.ProofKit
import Derived.Test.YtmlaphekbnanjaaRows

namespace Go.Proofs.Ytmlaphekbnanjaa
open _root_.Go.Proofs.Try
open Go.Abs Go.Abs.Grow
set_option maxRecDepth 100000
noncomputable section
def fldAt (s : Ssn) (k : Int) : Fld := (s.Fields[k.toNat]?).getD ⟨0, ⟨0, 0⟩, ⟨0, 0⟩, ⟨0, 0⟩⟩
def ruleOf (s : Ssn) (crop : Int) : List Int := (s.Rules[crop.toNat]?).getD []
def FieldOk (s : Ssn) (k : Int) : Prop := 0 ≤ k ∧ k < s.Fields.length
theorem fld_at {s : Ssn} {k : Int} (h : FieldOk s k) : idx s.Fields k = some (fldAt s k) ∧ fldAt s k ∈ s.Fields := by
 unfold FieldOk at h
 have hk : k.toNat < s.Fields.length := by omega
 have e := List.getElem?_eq_getElem hk
 have e2 : fldAt s k = s.Fields[k.toNat] := by unfold fldAt; rw [e]; rfl
 refine ⟨?_, by rw [e2]; exact List.getElem_mem hk⟩
 rw [show k = ((k.toNat : Nat) : Int) by omega, idx_nat]
 rw [show ((k.toNat : Nat) : Int) = k by omega, e2, e]
theorem VS0.vf {s : Ssn} (h : VS0 s) {k : Int} (hk : FieldOk s k) : VF s (fldAt s k) := h.flds _ (fld_at hk).2
theorem rule_at {s : Ssn} (h : VS0 s) {c : Int} (h0 : 0 ≤ c) (h1 : c < s.Rules.length) : idx s.Rules c = some (ruleOf s c) ∧ VRu s (ruleOf s c) := by
 have hk : c.toNat < s.Rules.length := by omega
 have e := List.getElem?_eq_getElem hk
 have e2 : ruleOf s c = s.Rules[c.toNat] := by unfold ruleOf; rw [e]; rfl
 refine ⟨?_, by rw [e2]; exact h.rules _ (List.getElem_mem hk)⟩
 rw [show c = ((c.toNat : Nat) : Int) by omega, idx_nat]
 rw [show ((c.toNat : Nat) : Int) = c by omega, e2, e]
theorem VRu.okR {s : Ssn} {l : List Int} (h : VRu s l) : okR l := h.2
theorem rule_idx {l : List Int} {n : Nat} (h : n < l.length) : idx l (n : Int) = some (l.getD n 0) := by
 rw [idx_nat, List.getD_eq_getElem?_getD, List.getElem?_eq_getElem h]; rfl
def dmg (s : Ssn) (crop : Int) (t : Trh) (w : Int) : Int := dmgN (ruleOf s crop) t.Week t.Damage w.toNat
def IsT (f : Fld) (t : Trh) : Prop := inR f.Week t.Week ∧ inR f.Damage t.Damage ∧ inR f.Old t.Old
theorem IsT.rng {s : Ssn} {f : Fld} {t : Trh} (h : IsT f t) (hf : VF s f) : (0 ≤ t.Week ∧ t.Week ≤ s.Last) ∧ (0 ≤ t.Damage ∧ t.Damage ≤ 100) ∧ (0 ≤ t.Old ∧ t.Old ≤ 100) := by
 obtain ⟨h1, h2, h3⟩ := h
 have a := hf.wk; have b := hf.dm; have c := hf.old
 unfold Wi at a b c; unfold inR at h1 h2 h3
 omega
theorem dmg_rng' {s : Ssn} (h : VS0 s) {c : Int} (h0 : 0 ≤ c) (h1 : c < s.Rules.length) {t : Trh} (hd : 0 ≤ t.Damage) (w : Int) : 0 ≤ dmg s c t w ∧ dmg s c t w ≤ t.Damage := dmg_rng (rule_at h h0 h1).2.okR hd _
def mkDm (g : Nat → Int) : Dm := ⟨g 0, g 1, g 2, g 3, g 4, g 5, g 6, g 7, g 8, g 9, g 10, g 11, g 12⟩
def dmL (d : Dm) : List Int := [d.d0, d.d1, d.d2, d.d3, d.d4, d.d5, d.d6, d.d7, d.d8, d.d9, d.d10, d.d11, d.d12]
theorem dmL_get (g : Nat → Int) {k : Nat} (h : k < 13) : (dmL (mkDm g))[k]? = some (g k) := by
 unfold dmL mkDm
 match k, h with
 | 0, _ => rfl
 | 1, _ => rfl
 | 2, _ => rfl
 | 3, _ => rfl
 | 4, _ => rfl
 | 5, _ => rfl
 | 6, _ => rfl
 | 7, _ => rfl
 | 8, _ => rfl
 | 9, _ => rfl
 | 10, _ => rfl
 | 11, _ => rfl
 | 12, _ => rfl
theorem sti_at {g : Nat → Int} {n j : Nat} {v : Int} (hv : v = g n) : sti (n : Int) j v (if j < n then g j else 0) = if j < n + 1 then g j else 0 := by
 unfold sti
 by_cases h : n = j
 ·subst h; rw [if_pos rfl, if_pos (by omega), hv]
 ·rw [if_neg (by omega)]
  by_cases h2 : j < n
  ·rw [if_pos h2, if_pos (by omega)]
  ·rw [if_neg h2, if_neg (by omega)]
theorem grow_go {s : Ssn} (h : VS0 s) (hl : s.Last ≤ 12) {p : Plt} (h0 : 0 ≤ p.crop) (h1 : p.crop < s.Rules.length) (ht : 0 ≤ p.t.Week) (hd : 0 ≤ p.t.Damage ∧ p.t.Damage ≤ 100) (g : Nat → Int) (hg : ∀ n, g n = dmgN (ruleOf s p.crop) p.t.Week p.t.Damage n) :
  ∀ (d n : Nat) (x : Int), n ≤ 13 → 13 - n < d → (x = if n = 0 then 0 else g (n - 1)) → pgrow_L0 s p d (if 0 < n then g 0 else 0) (if 1 < n then g 1 else 0) (if 2 < n then g 2 else 0) (if 3 < n then g 3 else 0) (if 4 < n then g 4 else 0) (if 5 < n then g 5 else 0) (if 6 < n then g 6 else 0) (if 7 < n then g 7 else 0) (if 8 < n then g 8 else 0) (if 9 < n then g 9 else 0) (if 10 < n then g 10 else 0) (if 11 < n then g 11 else 0) (if 12 < n then g 12 else 0) x (n : Int) = some (mkDm g)
 | 0, n, _, _, hn, _ => by omega
 | d + 1, n, x, hn, hd', hx => by
  obtain ⟨e1, e2⟩ := rule_at h h0 h1
  unfold pgrow_L0
  by_cases h13 : n = 13
  ·subst h13
   rw [if_neg (by omega)]
   rfl
  have hlt : n < 13 := by omega
  rw [if_pos (by omega)]
  have ih := fun y hy => grow_go h hl h0 h1 ht hd g hg d (n + 1) y (by omega) (by omega) hy
  have hgo : ∀ v, v = g n → pgrow_L0 s p d (sti (n : Int) 0 v (if 0 < n then g 0 else 0)) (sti (n : Int) 1 v (if 1 < n then g 1 else 0)) (sti (n : Int) 2 v (if 2 < n then g 2 else 0)) (sti (n : Int) 3 v (if 3 < n then g 3 else 0)) (sti (n : Int) 4 v (if 4 < n then g 4 else 0)) (sti (n : Int) 5 v (if 5 < n then g 5 else 0)) (sti (n : Int) 6 v (if 6 < n then g 6 else 0)) (sti (n : Int) 7 v (if 7 < n then g 7 else 0)) (sti (n : Int) 8 v (if 8 < n then g 8 else 0)) (sti (n : Int) 9 v (if 9 < n then g 9 else 0)) (sti (n : Int) 10 v (if 10 < n then g 10 else 0)) (sti (n : Int) 11 v (if 11 < n then g 11 else 0)) (sti (n : Int) 12 v (if 12 < n then g 12 else 0)) v ((n : Int) + 1) = some (mkDm g) := fun v hv => by
   simp only [sti_at hv]
   exact ih v (by rw [if_neg (by omega)]; exact hv)
  by_cases hw : (n : Int) = p.t.Week
  ·rw [if_pos hw, gd_pos (by omega), gd_pos (fI (by omega))]
   exact hgo _ (by rw [hg, dmg_at hw.symm])
  rw [if_neg hw]
  have hgn : g n = x - x * (ruleOf s p.crop).getD n 0 / 100 := by
   cases n with
   | zero =>
    rw [hg, hx, if_pos rfl]
    unfold dmgN
    rw [if_neg (fun hh => hw hh.symm)]; simp
   | succ n =>
    rw [hg, hx, if_neg (by omega), show n + 1 - 1 = n by omega, hg]
    show (if _ then _ else _) = _
    rw [if_neg (fun hh => hw hh.symm)]
  have hxr : 0 ≤ x ∧ x ≤ p.t.Damage := by
   rw [hx]
   split
   ·omega
   ·rw [hg]; exact dmg_rng e2.okR hd.1 _
  by_cases hlast : (n : Int) ≤ s.Last
  ·have hr := e2.okR.at n
   have hlen := e2.1
   have hm := Int.mul_nonneg hxr.1 hr.1
   have hm2 := Int.mul_le_mul hxr.2 hr.2 hr.1 hd.1
   have hs := step_rng hxr.1 hr.1 hr.2
   rw [if_pos hlast, e1, Option.bind_some, rule_idx (by omega), Option.bind_some, gd_pos hxr.1, gd_pos hr.1]
   generalize hy : (ruleOf s p.crop).getD n 0 = r at *
   generalize hz : x * r = z at *
   rw [gd_pos (fI (by omega)), gd_pos hm, gd_pos (by omega), gd_pos (fI (by omega)), gd_pos (fI (by omega)), gd_pos (by omega), gd_pos (fI (by omega))]
   exact hgo _ hgn.symm
  ·have hlen := e2.1
   rw [if_neg hlast, gd_pos (by omega), gd_pos (fI (by omega))]
   refine hgo _ ?_
   rw [hgn, List.getD_eq_getElem?_getD, List.getElem?_eq_none (by omega)]
   simp
def dmOf (s : Ssn) (crop : Int) (t : Trh) : Dm := mkDm (dmgN (ruleOf s crop) t.Week t.Damage)
theorem grow_eq {s : Ssn} (h : VS0 s) (hl : s.Last ≤ 12) {p : Plt} (h0 : 0 ≤ p.crop) (h1 : p.crop < s.Rules.length) (ht : 0 ≤ p.t.Week) (hd : 0 ≤ p.t.Damage ∧ p.t.Damage ≤ 100) : pgrow s p = some (dmOf s p.crop p.t) :=
 grow_go h hl h0 h1 ht hd _ (fun _ => rfl) 14 0 0 (by omega) (by omega) rfl
theorem dm_at {s : Ssn} {c : Int} {t : Trh} {w : Int} (hw : 0 ≤ w ∧ w ≤ 12) : idx (dmL (dmOf s c t)) w = some (dmg s c t w) := by
 rw [show w = ((w.toNat : Nat) : Int) by omega, idx_nat]
 exact dmL_get _ (by omega)
def harv (s : Ssn) (crop : Int) (t : Trh) : Int := dmg s crop t s.Last
theorem dm_12 {s : Ssn} (h : VS0 s) (hl : s.Last ≤ 12) {c : Int} (h0 : 0 ≤ c) (h1 : c < s.Rules.length) {t : Trh} (ht : t.Week ≤ s.Last) : dmg s c t 12 = harv s c t := by
 have hv := (rule_at h h0 h1).2.1
 have hla := h.last
 have := dmg_after (r := ruleOf s c) (w := t.Week) (d := t.Damage) (n := s.Last.toNat) (by omega) (by omega) (12 - s.Last.toNat)
 unfold harv dmg
 rw [← this]
 congr 1
 show (12 : Int).toNat = _
 have : (12 : Int).toNat = 12 := rfl
 omega
theorem harvestD_eq {s : Ssn} (h : VS0 s) (hl : s.Last ≤ 12) {c : Int} (h0 : 0 ≤ c) (h1 : c < s.Rules.length) {t : Trh} (ht : t.Week ≤ s.Last) : pharvestD (dmOf s c t) = some (harv s c t) := by
 unfold pharvestD
 have e : idx (dmL (dmOf s c t)) 12 = some (harv s c t) := by rw [dm_at (by omega), dm_12 h hl h0 h1 ht]
 have e' : idx [(dmOf s c t).d0, (dmOf s c t).d1, (dmOf s c t).d2, (dmOf s c t).d3, (dmOf s c t).d4, (dmOf s c t).d5, (dmOf s c t).d6, (dmOf s c t).d7, (dmOf s c t).d8, (dmOf s c t).d9, (dmOf s c t).d10, (dmOf s c t).d11, (dmOf s c t).d12] (12 : Int) = some (harv s c t) := e
 rw [e', Option.bind_some]
def seenN (s : Ssn) (crop : Int) (t : Trh) (w : Int) : Int := min (t.Old + dmg s crop t w) 100
theorem seen_eq {s : Ssn} (h : VS0 s) {c : Int} (h0 : 0 ≤ c) (h1 : c < s.Rules.length) {t : Trh} (hd : 0 ≤ t.Damage ∧ t.Damage ≤ 100) (ho : 0 ≤ t.Old ∧ t.Old ≤ 100) {w : Int} (hw : 0 ≤ w ∧ w ≤ 12) : pseen ⟨t, dmOf s c t⟩ w = some (seenN s c t w) := by
 have hr := dmg_rng' h h0 h1 (t := t) hd.1 w
 unfold pseen
 have e' : idx [(dmOf s c t).d0, (dmOf s c t).d1, (dmOf s c t).d2, (dmOf s c t).d3, (dmOf s c t).d4, (dmOf s c t).d5, (dmOf s c t).d6, (dmOf s c t).d7, (dmOf s c t).d8, (dmOf s c t).d9, (dmOf s c t).d10, (dmOf s c t).d11, (dmOf s c t).d12] w = some (dmg s c t w) := dm_at hw
 dsimp only
 rw [e', Option.bind_some, gd_pos (fI (by omega))]; rfl
end
end Go.Proofs.Ytmlaphekbnanjaa

namespace Go.Proofs.Ytmlaphekbnanjaa
open _root_.Go.Proofs.Try
open Go.Abs Go.Abs.Grow
set_option maxRecDepth 100000
noncomputable section
def nums (r : Rg) : List Int := segI r.Lo (cnt r).toNat
theorem mem_nums {r : Rg} (h : r.Lo ≤ r.Hi) {x : Int} : x ∈ nums r ↔ inR r x := by
 unfold nums inR cnt
 rw [mem_segI]; omega
theorem nums_len {r : Rg} {lo hi : Int} (h : Wi r lo hi) {n : Nat} (hn : hi - lo + 1 ≤ n) : (nums r).length ≤ n := by
 have := cnt_rng h
 unfold nums; rw [segI_len]; omega
theorem numbers_go {r : Rg} {n : Int} (h : Wi r (-1000) 1000) (hn : n = cnt r) : ∀ (d k m : Nat), (k : Int) + m = n → m < d → pnumbersI_L0 r n d (k : Int) = some (segI (r.Lo + k) m)
 | 0, _, _, _, h => by omega
 | d + 1, k, 0, hk, _ => by
  unfold pnumbersI_L0
  rw [if_neg (by omega)]; rfl
 | d + 1, k, m + 1, hk, hd => by
  have hc := h
  unfold Wi at hc
  unfold cnt at hn
  unfold pnumbersI_L0
  rw [if_pos (by omega), gd_pos (fI (by omega)), gd_pos (fI (by omega)), show (k : Int) + 1 = ((k + 1 : Nat) : Int) by omega, numbers_go h (by unfold cnt; exact hn) d (k + 1) m (by omega) (by omega), Option.bind_some, show r.Lo + ((k + 1 : Nat) : Int) = r.Lo + k + 1 by omega]
  rfl
theorem numbers_eq {r : Rg} (h : Wi r (-1000) 1000) : pnumbers r = some (nums r) := by
 have hc := h
 unfold Wi at hc
 have hcn : 0 < cnt r := by unfold cnt; omega
 unfold pnumbers pnumbersI
 rw [count_eq h, Option.bind_some]
 have := numbers_go h rfl ((cnt r).toNat + 1) 0 (cnt r).toNat (by omega) (by omega)
 rw [show ((0 : Nat) : Int) = 0 by rfl] at this
 rw [this, Option.bind_some]
 unfold nums
 rw [Int.add_zero]
def chL (f : Fld) : List Trh := (nums f.Week).flatMap fun w => (nums f.Damage).flatMap fun d => (nums f.Old).map fun o => ⟨w, d, o⟩
theorem mem_chL {s : Ssn} {f : Fld} (h : VF s f) {t : Trh} : t ∈ chL f ↔ IsT f t := by
 have h1 := h.wk; have h2 := h.dm; have h3 := h.old
 unfold Wi at h1 h2 h3
 unfold chL IsT
 rw [List.mem_flatMap]
 constructor
 ·rintro ⟨w, hw, ht⟩
  obtain ⟨d, hd, ht⟩ := List.mem_flatMap.1 ht
  obtain ⟨o, ho, rfl⟩ := List.mem_map.1 ht
  exact ⟨(mem_nums (by omega)).1 hw, (mem_nums (by omega)).1 hd, (mem_nums (by omega)).1 ho⟩
 ·rintro ⟨a, b, c⟩
  exact ⟨t.Week, (mem_nums (by omega)).2 a, List.mem_flatMap.2 ⟨t.Damage, (mem_nums (by omega)).2 b, List.mem_map.2 ⟨t.Old, (mem_nums (by omega)).2 c, rfl⟩⟩⟩
theorem flatMap_len {α β : Type} {f : α → List β} {B : Nat} : ∀ {l : List α}, (∀ x ∈ l, (f x).length ≤ B) → (l.flatMap f).length ≤ l.length * B
 | [], _ => by simp
 | a :: l, h => by
  rw [List.flatMap_cons, List.length_append, List.length_cons, Nat.add_mul, Nat.one_mul, Nat.add_comm]
  exact Nat.add_le_add (flatMap_len fun x hx => h x (List.mem_cons_of_mem _ hx)) (h a (List.mem_cons_self ..))
theorem chL_len {s : Ssn} {f : Fld} (h : VF s f) (hl : s.Last ≤ 12) : (chL f).length ≤ 132613 := by
 have h1 := nums_len h.wk (n := 13) (by omega)
 have h2 := nums_len h.dm (n := 101) (by omega)
 have h3 := nums_len h.old (n := 101) (by omega)
 have q1 : ∀ w : Int, ((nums f.Damage).flatMap fun d => (nums f.Old).map fun o => (⟨w, d, o⟩ : Trh)).length ≤ 10201 := fun w => by
  have := flatMap_len (l := nums f.Damage) (f := fun d => (nums f.Old).map fun o => (⟨w, d, o⟩ : Trh)) (B := 101) fun d _ => by rw [List.length_map]; exact h3
  have h4 : (nums f.Damage).length * 101 ≤ 101 * 101 := Nat.mul_le_mul_right _ h2
  omega
 have q2 := flatMap_len (l := nums f.Week) (f := fun w => (nums f.Damage).flatMap fun d => (nums f.Old).map fun o => (⟨w, d, o⟩ : Trh)) (B := 10201) fun w _ => q1 w
 have h4 : (nums f.Week).length * 10201 ≤ 13 * 10201 := Nat.mul_le_mul_right _ h1
 unfold chL; omega
def Good (s : Ssn) (D : Plt → Prop) (m : Option (Plt → Option Dm)) : Prop := ∃ g, m = some g ∧ ∀ p, D p → g p = some (dmOf s p.crop p.t)
theorem Good.mono {s : Ssn} {D D' : Plt → Prop} {m : Option (Plt → Option Dm)} (h : Good s D m) (hD : ∀ p, D' p → D p) : Good s D' m := by
 obtain ⟨g, h1, h2⟩ := h
 exact ⟨g, h1, fun p hp => h2 p (hD p hp)⟩
theorem Good.set {s : Ssn} {D : Plt → Prop} {m : Option (Plt → Option Dm)} (h : Good s D m) (p : Plt) : ∃ m', mset m p (dmOf s p.crop p.t) = some m' ∧ Good s (fun q => D q ∨ q = p) m' := by
 obtain ⟨g, rfl, h2⟩ := h
 refine ⟨_, rfl, _, rfl, fun q hq => ?_⟩
 by_cases hqp : q = p
 ·rw [if_pos hqp, hqp]
 ·rw [if_neg hqp]
  exact h2 q (hq.elim id fun h => absurd h hqp)
theorem open_L2 {s : Ssn} (h : VS0 s) (hl : s.Last ≤ 12) (hr3 : s.Rules.length ≤ 3) {f : Fld} (hf : VF s f) {w : Int} (hw : 0 ≤ w ∧ w ≤ s.Last) {K : Option (Plt → Option Dm) → Option Wk} {R : Option Wk → Prop} : ∀ (ds : List Int) (D : Plt → Prop) (m : Option (Plt → Option Dm)), (∀ d ∈ ds, 0 ≤ d ∧ d ≤ 100) → Good s D m →
  (∀ m', Good s (fun q => D q ∨ ∃ d ∈ ds, q = ⟨⟨w, d, 0⟩, f.Crop⟩) m' → R (K m')) → R (popen_L2 s f w K ds m)
 | [], D, m, _, hm, hK => hK m (hm.mono fun p hp => hp.elim id fun ⟨d, hd, _⟩ => by cases hd)
 | d :: ds, D, m, hd, hm, hK => by
  have hc := hf.crp
  have h1 := hd d (List.mem_cons_self ..)
  unfold popen_L2
  obtain ⟨m', h2, h3⟩ := hm.set ⟨⟨w, d, 0⟩, f.Crop⟩
  rw [show pplant f w d = some ⟨⟨w, d, 0⟩, f.Crop⟩ from rfl, Option.bind_some, grow_eq h hl hc.1 hc.2 hw.1 h1, Option.bind_some, gd_pos ⟨fI (by dsimp only; omega), fI (by dsimp only; omega), fI (by dsimp only; omega), fI (by dsimp only; omega), trivial⟩, h2, Option.bind_some]
  refine open_L2 h hl hr3 hf hw ds _ m' (fun x hx => hd x (List.mem_cons_of_mem _ hx)) h3 fun m'' hm'' => hK m'' (hm''.mono fun p hp => ?_)
  rcases hp with hp | ⟨x, hx, hp⟩
  ·exact .inl (.inl hp)
  ·rcases List.mem_cons.1 hx with rfl | hx
   ·exact .inl (.inr hp)
   ·exact .inr ⟨x, hx, hp⟩
theorem open_L1 {s : Ssn} (h : VS0 s) (hl : s.Last ≤ 12) (hr3 : s.Rules.length ≤ 3) {f : Fld} (hf : VF s f) {x : Int} (hx : fitsP .i64 (x + 1)) {K : Option (Plt → Option Dm) → Int → Option Wk} {R : Option Wk → Prop} : ∀ (ws : List Int) (D : Plt → Prop) (m : Option (Plt → Option Dm)), (∀ w ∈ ws, 0 ≤ w ∧ w ≤ s.Last) → Good s D m →
  (∀ m', Good s (fun q => D q ∨ ∃ w ∈ ws, ∃ d, inR f.Damage d ∧ q = ⟨⟨w, d, 0⟩, f.Crop⟩) m' → R (K m' (x + 1))) → R (popen_L1 s x f K ws m)
 | [], D, m, _, hm, hK => by
  unfold popen_L1
  rw [gd_pos hx]
  exact hK m (hm.mono fun p hp => hp.elim id fun ⟨d, hd, _⟩ => by cases hd)
 | w :: ws, D, m, hw, hm, hK => by
  have hd := hf.dm
  have hdw := hd.w (by omega) (by omega)
  unfold popen_L1
  rw [numbers_eq hdw, Option.bind_some]
  unfold Wi at hd
  refine open_L2 h hl hr3 hf (hw w (List.mem_cons_self ..)) (nums f.Damage) D m (fun d hd' => ?_) hm fun m' hm' => ?_
  ·have := (mem_nums (by omega)).1 hd'
   unfold inR at this; omega
  ·refine open_L1 h hl hr3 hf hx ws _ m' (fun y hy => hw y (List.mem_cons_of_mem _ hy)) hm' fun m'' hm'' => hK m'' (hm''.mono fun p hp => ?_)
   rcases hp with hp | ⟨y, hy, d, hdd, hp⟩
   ·exact .inl (.inl hp)
   ·rcases List.mem_cons.1 hy with rfl | hy
    ·exact .inl (.inr ⟨d, (mem_nums (by omega)).2 hdd, hp⟩)
    ·exact .inr ⟨y, hy, d, hdd, hp⟩
def DomF (l : List Fld) (q : Plt) : Prop := ∃ f ∈ l, ∃ w, inR f.Week w ∧ ∃ d, inR f.Damage d ∧ q = ⟨⟨w, d, 0⟩, f.Crop⟩
theorem open_L0 {s : Ssn} (h : VS0 s) (hl : s.Last ≤ 12) (hr3 : s.Rules.length ≤ 3) (h3 : s.Fields.length ≤ 3) : ∀ (d k : Nat) (m : Option (Plt → Option Dm)), k ≤ s.Fields.length → s.Fields.length - k < d → Good s (DomF (s.Fields.take k)) m →
  ∃ m', popen_L0 s d m (k : Int) = some ⟨s, m'⟩ ∧ Good s (DomF s.Fields) m'
 | 0, k, m, _, hd, _ => by omega
 | d + 1, k, m, hk, hd, hm => by
  unfold popen_L0
  by_cases hkn : k = s.Fields.length
  ·subst hkn
   rw [if_neg (Int.lt_irrefl _)]
   exact ⟨m, rfl, by rw [List.take_length] at hm; exact hm⟩
  have hlt : k < s.Fields.length := by omega
  have hg := List.getElem?_eq_getElem hlt
  have hf := h.flds _ (List.getElem_mem hlt)
  generalize hfe : s.Fields[k] = f at hg hf
  have hwk := hf.wk
  rw [if_pos (by omega), idx_at hg, Option.bind_some, numbers_eq (hwk.w (by omega) (by omega)), Option.bind_some]
  unfold Wi at hwk
  refine open_L1 (R := fun o => ∃ m', o = some ⟨s, m'⟩ ∧ Good s (DomF s.Fields) m') h hl hr3 hf (fI (by omega)) (nums f.Week) _ m (fun w hw => ?_) hm fun m' hm' => ?_
  ·have := (mem_nums (by omega)).1 hw
   unfold inR at this; omega
  ·rw [show (k : Int) + 1 = ((k + 1 : Nat) : Int) by omega]
   refine open_L0 h hl hr3 h3 d (k + 1) m' (by omega) (by omega) (hm'.mono fun p hp => ?_)
   obtain ⟨f', hf', w, hw, x, hx, hp⟩ := hp
   rw [List.take_add_one, hg] at hf'
   rcases List.mem_append.1 hf' with hf' | hf'
   ·exact .inl ⟨f', hf', w, hw, x, hx, hp⟩
   ·have : f' = f := by simpa using hf'
    subst this
    exact .inr ⟨w, (mem_nums (by omega)).2 hw, x, hx, hp⟩
theorem open_eq {s : Ssn} (h : VS s) : ∃ m, popen s = some ⟨s, m⟩ ∧ Good s (DomF s.Fields) m := by
 obtain ⟨h1, h2, h3, h4⟩ := not_many h.many
 exact open_L0 h.toVS0 h1 h2 h3 (s.Fields.length + 1) 0 _ (Nat.zero_le _) (by omega) ⟨_, rfl, fun p hp => by obtain ⟨f, hf, _⟩ := hp; cases hf⟩
def crs (s : Ssn) (c : Int) (t : Trh) : Crs := ⟨t, dmOf s c t⟩
theorem ch_L3 {w d : Int} {dm : Dm} {r : List Crs} : ∀ os : List Int, pchoicesI_L3 w d dm (some r) os = some (os.map (fun o => ⟨⟨w, d, o⟩, dm⟩) ++ r)
 | [] => rfl
 | o :: os => by unfold pchoicesI_L3; rw [ch_L3 os, Option.bind_some]; rfl
theorem ch_L1 {s : Ssn} {W : Wk} {f : Fld} (hm : Good s (DomF s.Fields) W.damages) (hf : f ∈ s.Fields) (hv : VF s f) (hl : s.Last ≤ 12) (h3 : s.Rules.length ≤ 3) {w : Int} (hw : inR f.Week w) {r : List Crs} : ∀ ds : List Int, (∀ d ∈ ds, inR f.Damage d) →
  pchoicesI_L1 f W w (some r) ds = some ((ds.flatMap fun d => (nums f.Old).map fun o => crs s f.Crop ⟨w, d, o⟩) ++ r)
 | [], _ => rfl
 | d :: ds, hd => by
  have h1 := hd d (List.mem_cons_self ..)
  have hwk := hv.wk; have hdm := hv.dm; have hcr := hv.crp
  unfold Wi at hwk hdm
  have hw' := hw
  have h1' := h1
  unfold inR at hw' h1'
  obtain ⟨g, hg1, hg2⟩ := id hm
  have hget : mget W.damages ⟨⟨w, d, 0⟩, f.Crop⟩ = some (dmOf s f.Crop ⟨w, d, 0⟩) := by rw [hg1]; exact hg2 _ ⟨f, hf, w, hw, d, h1, rfl⟩
  unfold pchoicesI_L1
  rw [show pplant f w d = some ⟨⟨w, d, 0⟩, f.Crop⟩ from rfl, Option.bind_some, gd_pos ⟨fI (by dsimp only; omega), fI (by dsimp only; omega), fI (by dsimp only; omega), fI (by dsimp only; omega), trivial⟩, mcase_some hget, numbers_eq (hv.old.w (by omega) (by omega)), Option.bind_some, ch_L1 hm hf hv hl h3 hw ds fun x hx => hd x (List.mem_cons_of_mem _ hx), ch_L3, List.flatMap_cons, List.append_assoc]
  rfl
theorem ch_L0 {s : Ssn} {W : Wk} {f : Fld} (hm : Good s (DomF s.Fields) W.damages) (hf : f ∈ s.Fields) (hv : VF s f) (hl : s.Last ≤ 12) (h3 : s.Rules.length ≤ 3) : ∀ ws : List Int, (∀ w ∈ ws, inR f.Week w) →
  pchoicesI_L0 f W ws = some ((ws.flatMap fun w => (nums f.Damage).flatMap fun d => (nums f.Old).map fun o => crs s f.Crop ⟨w, d, o⟩))
 | [], _ => rfl
 | w :: ws, hw => by
  have hdm := hv.dm
  unfold Wi at hdm
  unfold pchoicesI_L0
  rw [numbers_eq (hv.dm.w (by omega) (by omega)), Option.bind_some, ch_L0 hm hf hv hl h3 ws fun x hx => hw x (List.mem_cons_of_mem _ hx), ch_L1 hm hf hv hl h3 (hw w (List.mem_cons_self ..)) _ fun d hd => (mem_nums (by omega)).1 hd]
  rfl
theorem choices_eq {s : Ssn} {W : Wk} {f : Fld} (hm : Good s (DomF s.Fields) W.damages) (hf : f ∈ s.Fields) (hv : VF s f) (hl : s.Last ≤ 12) (h3 : s.Rules.length ≤ 3) : pchoices W f = some ((chL f).map (crs s f.Crop)) := by
 have hwk := hv.wk
 unfold Wi at hwk
 unfold pchoices pchoicesI
 rw [numbers_eq (hv.wk.w (by omega) (by omega)), Option.bind_some, ch_L0 hm hf hv hl h3 _ fun w hw => (mem_nums (by omega)).1 hw, Option.bind_some]
 congr 1
 unfold chL
 rw [List.map_flatMap]
 congr 1
 funext w
 rw [List.map_flatMap]
 congr 1
 funext d
 rw [List.map_map]; rfl
def okV (s : Ssn) (V : List Vis) (k : Int) (t : Trh) : Prop := ∀ v ∈ V, v.Field = k → inR v.Seen (seenN s (fldAt s k).Crop t v.Week)
def TR (s : Ssn) (V : List Vis) (k : Int) (t : Trh) : Prop := IsT (fldAt s k) t ∧ okV s V k t
open Classical in
def TL (s : Ssn) (V : List Vis) (k : Int) : List Trh := (chL (fldAt s k)).filter fun t => decide (okV s V k t)
structure WOk (s : Ssn) (V : List Vis) (W : Wk) : Prop where
 vs : VS s
 ss : W.s = { s with Visits := V }
 m : Good s (DomF s.Fields) W.damages
 v : ∀ v ∈ V, VV s v
 len : V.length ≤ 6
open Classical in
theorem mem_TL {s : Ssn} (h : VS s) {V : List Vis} {k : Int} (hk : FieldOk s k) {t : Trh} : t ∈ TL s V k ↔ TR s V k t := by
 unfold TL TR
 rw [List.mem_filter, mem_chL (h.vf hk), decide_eq_true_eq]
theorem TL_len {s : Ssn} (h : VS s) {V : List Vis} {k : Int} (hk : FieldOk s k) : (TL s V k).length ≤ 132613 := by
 unfold TL
 exact Nat.le_trans (List.length_filter_le _ _) (chL_len (h.vf hk) (not_many h.many).1)
theorem allows_ev {s : Ssn} (h : VS s) {V : List Vis} (hV : ∀ v ∈ V, VV s v) (hn : V.length ≤ 6) {k : Int} (hk : FieldOk s k) {t : Trh} (ht : IsT (fldAt s k) t) : Ev (pallows { s with Visits := V } k (crs s (fldAt s k).Crop t)) (okV s V k t) := by
 obtain ⟨h1, _⟩ := not_many h.many
 have hf := h.vf hk
 obtain ⟨q1, q2, q3⟩ := ht.rng hf
 refine (eachV_ev (q := fun v => v.Field = k → inR v.Seen (seenN s (fldAt s k).Crop t v.Week)) (fun v hv => ?_) (fewS hn (by omega))).ret
 unfold pallows1
 by_cases hvk : v.Field = k
 ·rw [if_pos hvk, show pseen (crs s (fldAt s k).Crop t) v.Week = _ from seen_eq h.toVS0 hf.crp.1 hf.crp.2 q2 q3 (by have := (hV v hv).2.1; omega), Option.bind_some]
  exact has_ev.ret.imp ⟨fun h _ => h, fun h => h hvk⟩
 ·rw [if_neg hvk]; exact Ev.tt fun h => absurd h hvk
open Classical in
theorem truths_L0 {s : Ssn} {V : List Vis} {W : Wk} (h : WOk s V W) {k : Int} (hk : FieldOk s k) : ∀ l : List Trh, (∀ t ∈ l, IsT (fldAt s k) t) → ptruthsI_L0 W k (l.map (crs s (fldAt s k).Crop)) = some ((l.filter fun t => decide (okV s V k t)).map (crs s (fldAt s k).Crop))
 | [], _ => rfl
 | t :: l, ht => by
  have ih := truths_L0 h hk l fun x hx => ht x (List.mem_cons_of_mem _ hx)
  rw [List.map_cons]
  unfold ptruthsI_L0
  rw [h.ss, (allows_ev h.vs h.v h.len hk (ht t (List.mem_cons_self ..))).eqd, Option.bind_some, ih]
  by_cases ho : okV s V k t
  ·rw [decide_eq_true ho, if_pos rfl, List.filter_cons_of_pos (by simpa using ho)]; rfl
  ·rw [decide_eq_false ho, if_neg (by simp), List.filter_cons_of_neg (by simpa using ho)]
theorem truths_eq {s : Ssn} {V : List Vis} {W : Wk} (h : WOk s V W) {k : Int} (hk : FieldOk s k) : ptruths W k = some ((TL s V k).map (crs s (fldAt s k).Crop)) := by
 obtain ⟨h1, h2, _⟩ := not_many h.vs.many
 have hf := h.vs.vf hk
 unfold ptruths ptruthsI
 rw [h.ss]
 rw [show idx ({ s with Visits := V } : Ssn).Fields k = some (fldAt s k) from (fld_at hk).1, Option.bind_some, choices_eq h.m (fld_at hk).2 hf h1 h2, Option.bind_some, truths_L0 h hk _ fun t ht => (mem_chL hf).1 ht, Option.bind_some]; rfl
def HTf (s : Ssn) (V : List Vis) (k : Int) : Prop := ∃ t, TR s V k t
def HT (s : Ssn) (V : List Vis) : Prop := ∀ k, FieldOk s k → HTf s V k
theorem TL_ne {s : Ssn} (h : VS s) {V : List Vis} {k : Int} (hk : FieldOk s k) : TL s V k ≠ [] ↔ HTf s V k := by
 constructor
 ·intro hn
  obtain ⟨t, ht⟩ := List.exists_mem_of_ne_nil _ hn
  exact ⟨t, (mem_TL h hk).1 ht⟩
 ·rintro ⟨t, ht⟩ hn
  have := (mem_TL h hk).2 ht
  rw [hn] at this; cases this
theorem hasTruthOf_ev {s : Ssn} {V : List Vis} {W : Wk} (h : WOk s V W) {k : Int} (hk : FieldOk s k) : Ev (phasTruthOf W k) (HTf s V k) := by
 unfold phasTruthOf
 rw [truths_eq h hk, Option.bind_some]
 have hn := TL_ne h.vs (V := V) hk
 cases hl : TL s V k with
 | nil => rw [hl] at hn; exact Ev.ff fun hh => (hn.2 hh) rfl
 | cons t l => rw [hl] at hn; exact Ev.tt (hn.1 (by simp))
theorem hasTruth_ev {s : Ssn} {V : List Vis} {W : Wk} (h : WOk s V W) : Ev (phasTruth W) (HT s V) := by
 obtain ⟨h1, h2, h3, h4⟩ := not_many h.vs.many
 have e : W.s.Fields = s.Fields := by rw [h.ss]
 unfold phasTruth
 rw [e]
 have key := loopAll_tt (n := s.Fields.length) (F := phasTruth_L0 W) (ok := fun j => HTf s V (j : Int)) (bad := some false) (fin := some true) (fun d k hk => by
  rw [phasTruth_L0, e, if_pos (by omega)]
  exact (hasTruthOf_ev h (k := (k : Int)) ⟨by omega, by omega⟩).step (by rw [if_pos rfl, gd_pos (fI (by omega))]) (by rw [if_neg (by simp)])) (fun d => by rw [phasTruth_L0, e, if_neg (Int.lt_irrefl _)]) (d := s.Fields.length + 1) (by omega)
 have hiff : (∀ j, j < s.Fields.length → HTf s V (j : Int)) ↔ HT s V := ⟨fun q k hk => by
  unfold FieldOk at hk
  have := q k.toNat (by omega)
  rwa [show ((k.toNat : Nat) : Int) = k by omega] at this, fun q j hj => q j ⟨by omega, by omega⟩⟩
 rw [hiff] at key
 by_cases hh : HT s V
 ·rw [key.1 hh]; exact Ev.tt hh
 ·rw [key.2 hh]; exact Ev.ff hh
theorem WOk.of {s : Ssn} (h : VS s) {m : Option (Plt → Option Dm)} (hm : Good s (DomF s.Fields) m) : WOk s s.Visits ⟨s, m⟩ := ⟨h, rfl, hm, h.vis, (not_many h.many).2.2.2⟩
theorem WOk.wth {s : Ssn} {V V' : List Vis} {W : Wk} (h : WOk s V W) (hv : ∀ v ∈ V', VV s v) (hn : V'.length ≤ 6) : ∃ W', pwth W V' = some W' ∧ WOk s V' W' := ⟨_, rfl, h.vs, by rw [h.ss], h.m, hv, hn⟩
def wk0 : Wk := { s := ({ Last := (0 : Int), Rules := [], Fields := [], Visits := [] } : Ssn), damages := none }
theorem openTrue_ok {s : Ssn} (h : VS s) (ht : HT s s.Visits) : ∃ W, popenTrue s = some (W, 0) ∧ WOk s s.Visits W := by
 obtain ⟨m, h1, h2⟩ := open_eq h
 have hw := WOk.of h h2
 refine ⟨_, ?_, hw⟩
 unfold popenTrue
 rw [check_eq, fault_zero.2 h, Option.bind_some, if_pos rfl, h1, Option.bind_some, (hasTruth_ev hw).some_of ht, Option.bind_some, if_pos rfl]
theorem openTrue_no {s : Ssn} (h : VS s) (ht : ¬ HT s s.Visits) : popenTrue s = some (wk0, 11) := by
 obtain ⟨m, h1, h2⟩ := open_eq h
 have hw := WOk.of h h2
 unfold popenTrue
 rw [check_eq, fault_zero.2 h, Option.bind_some, if_pos rfl, h1, Option.bind_some, (hasTruth_ev hw).some_not ht, Option.bind_some, if_neg (by simp)]; rfl
end
end Go.Proofs.Ytmlaphekbnanjaa

namespace Go.Proofs.Ytmlaphekbnanjaa
open _root_.Go.Proofs.Try
open Go.Abs Go.Abs.Grow
set_option maxRecDepth 100000
noncomputable section
theorem minimum_eq {l : List Int} (h : l ≠ []) (hl : shrt l) : pminimum l = some (minL l) := by
 have hl := hl.lt
 cases l with
 | nil => exact absurd rfl h
 | cons x l =>
  unfold pminimum
  rw [if_neg (by simp; omega), idx_zero rfl, Option.bind_some]
  have key := loopFold (l := x :: l) (fun s a => min s a) (fun d s k => pminimum_L0 (x :: l) d s k) some (fun d k s a ha => by
   have hk := (List.getElem?_eq_some_iff.1 ha).1
   rw [pminimum_L0, if_pos (by omega), idx_at ha, Option.bind_some]
   by_cases hc : a < s
   ·rw [if_pos hc, gd_pos (fI (by omega)), Int.min_eq_right (by omega)]
   ·rw [if_neg hc, gd_pos (fI (by omega)), Int.min_eq_left (by omega)]) (fun d s => by rw [pminimum_L0, if_neg (Int.lt_irrefl _)]) ((x :: l).length + 1) 0 x (Nat.zero_le _) (by omega)
  refine key.trans ?_
  rw [List.drop_zero]
  show some (l.foldl min (min x x)) = _
  rw [Int.min_self]; rfl
theorem max_eq {l : List Int} (h : l ≠ []) (hl : shrt l) : psMax l = some (maxL l) := by
 have hl := hl.lt
 cases l with
 | nil => exact absurd rfl h
 | cons x l =>
  unfold psMax
  rw [if_neg (by simp; omega), idx_zero rfl, Option.bind_some]
  have key := loopFold (l := x :: l) (fun s a => max s a) (fun d s k => psMax_L0 (x :: l) d s k) some (fun d k s a ha => by
   have hk := (List.getElem?_eq_some_iff.1 ha).1
   rw [psMax_L0, if_pos (by omega), idx_at ha, Option.bind_some, gd_pos (fI (by omega))]) (fun d s => by rw [psMax_L0, if_neg (Int.lt_irrefl _)]) ((((x :: l).length : Int) - 1).toNat + 1) 1 x (by simp) (by simp only [List.length_cons]; omega)
  exact key
def Of (s : Ssn) (V : List Vis) (k : Int) (h : Trh → Int) : Int → Prop := fun x => ∃ t, TR s V k t ∧ h t = x
theorem span_L0 {q : Qn} {g : Crs → Trh} {h : Trh → Int} : ∀ (l : List Crs) (acc : List Int), (∀ c ∈ l, q.number c = some (h (g c))) → acc.length + l.length < 1048576 → acc ++ l.map (fun c => h (g c)) ≠ [] →
  pspan_L0 q l acc = some ⟨minL (acc ++ l.map (fun c => h (g c))), maxL (acc ++ l.map (fun c => h (g c)))⟩
 | [], acc, _, hl, hne => by
  unfold pspan_L0
  rw [List.map_nil, List.append_nil] at hne ⊢
  simp only [List.length_nil] at hl
  rw [minimum_eq hne (by unfold shrt; omega), Option.bind_some, max_eq hne (by unfold shrt; omega), Option.bind_some]
 | c :: l, acc, hq, hl, hne => by
  simp only [List.length_cons] at hl
  unfold pspan_L0
  rw [hq c (List.mem_cons_self ..), Option.bind_some, gd_pos (by omega), span_L0 l (acc ++ [h (g c)]) (fun x hx => hq x (List.mem_cons_of_mem _ hx)) (by rw [List.length_append]; simp only [List.length_cons, List.length_nil]; omega) (by simp), List.append_assoc]
  rfl
theorem span_eq {s : Ssn} {V : List Vis} {W : Wk} (hw : WOk s V W) {k : Int} (hk : FieldOk s k) (ht : HTf s V k) {q : Qn} {h : Trh → Int} (hq : ∀ t, TR s V k t → q.number (crs s (fldAt s k).Crop t) = some (h t)) :
  ∃ lo hi, pspan W k q = some ⟨lo, hi⟩ ∧ Spn (Of s V k h) lo hi := by
 have hne := (TL_ne hw.vs (V := V) hk).2 ht
 have hlen := TL_len hw.vs (V := V) hk
 have hne2 : [] ++ ((TL s V k).map (crs s (fldAt s k).Crop)).map (fun c => h c.t) ≠ [] := by simpa using hne
 have hmem : ∀ x, x ∈ ([] : List Int) ++ ((TL s V k).map (crs s (fldAt s k).Crop)).map (fun c => h c.t) ↔ Of s V k h x := fun x => by
  rw [List.nil_append, List.map_map, List.mem_map]
  exact ⟨fun ⟨t, h1, h2⟩ => ⟨t, (mem_TL hw.vs hk).1 h1, h2⟩, fun ⟨t, h1, h2⟩ => ⟨t, (mem_TL hw.vs hk).2 h1, h2⟩⟩
 refine ⟨_, _, ?_, (hmem _).1 (minL_mem hne2).1, (hmem _).1 (maxL_mem hne2).1, fun x hx => ⟨(minL_mem hne2).2 x ((hmem x).2 hx), (maxL_mem hne2).2 x ((hmem x).2 hx)⟩⟩
 unfold pspan
 rw [truths_eq hw hk, Option.bind_some, span_L0 (g := fun c => c.t) (h := h) _ [] (fun c hc => by
  obtain ⟨t, h1, rfl⟩ := List.mem_map.1 hc
  exact hq t ((mem_TL hw.vs hk).1 h1)) (by rw [List.length_map]; simp only [List.length_nil]; omega) hne2]
structure BOk (s : Ssn) (V : List Vis) (k : Int) (b : Bnd) : Prop where
 wk : Spn (Of s V k fun t => t.Week) b.Week.Lo b.Week.Hi
 dm : Spn (Of s V k fun t => t.Damage) b.Damage.Lo b.Damage.Hi
 old : Spn (Of s V k fun t => t.Old) b.Old.Lo b.Old.Hi
 hv : Spn (Of s V k fun t => harv s (fldAt s k).Crop t) b.Harvest.Lo b.Harvest.Hi
theorem TR.rng {s : Ssn} (h : VS s) {V : List Vis} {k : Int} (hk : FieldOk s k) {t : Trh} (ht : TR s V k t) : (0 ≤ t.Week ∧ t.Week ≤ s.Last) ∧ (0 ≤ t.Damage ∧ t.Damage ≤ 100) ∧ (0 ≤ t.Old ∧ t.Old ≤ 100) := ht.1.rng (h.vf hk)
theorem bound_eq {s : Ssn} {V : List Vis} {W : Wk} (hw : WOk s V W) {k : Int} (hk : FieldOk s k) (ht : HTf s V k) : ∃ b, pbound W k = some b ∧ BOk s V k b := by
 have hf := hw.vs.vf hk
 have hl := (not_many hw.vs.many).1
 unfold pbound
 obtain ⟨a1, a2, a3, a4⟩ := span_eq hw hk ht (q := ⟨fun a => pcWeek a⟩) (h := fun t => t.Week) (fun t _ => rfl)
 obtain ⟨b1, b2, b3, b4⟩ := span_eq hw hk ht (q := ⟨fun a => pcDamage a⟩) (h := fun t => t.Damage) (fun t _ => rfl)
 obtain ⟨c1, c2, c3, c4⟩ := span_eq hw hk ht (q := ⟨fun a => pcOld a⟩) (h := fun t => t.Old) (fun t _ => rfl)
 obtain ⟨d1, d2, d3, d4⟩ := span_eq hw hk ht (q := ⟨fun a => pharvestD a.d⟩) (h := fun t => harv s (fldAt s k).Crop t) (fun t h => harvestD_eq hw.vs.toVS0 hl hf.crp.1 hf.crp.2 (h.rng hw.vs hk).1.2)
 rw [a3, Option.bind_some, b3, Option.bind_some, c3, Option.bind_some, d3, Option.bind_some]
 exact ⟨_, rfl, a4, b4, c4, d4⟩
theorem Bounds_ok {s : Ssn} (h : VS s) (ht : HT s s.Visits) : ∃ l, pBounds s = some (l, 0) ∧ l.length = s.Fields.length ∧ ∀ (j : Nat) b, l[j]? = some b → BOk s s.Visits (j : Int) b := by
 obtain ⟨W, h1, hw⟩ := openTrue_ok h ht
 have e : W.s.Fields = s.Fields := by rw [hw.ss]
 obtain ⟨_, _, h3, _⟩ := not_many h.many
 unfold pBounds
 rw [h1, Option.bind_some, if_pos rfl]
 show ∃ l, pBounds_L0 (W, 0) (W.s.Fields.length + 1) [] 0 = _ ∧ _
 have key : ∀ (d k : Nat) (acc : List Bnd), k ≤ s.Fields.length → s.Fields.length - k < d → acc.length = k → (∀ (j : Nat) b, acc[j]? = some b → BOk s s.Visits (j : Int) b) → ∃ l, pBounds_L0 (W, 0) d acc (k : Int) = some (l, 0) ∧ l.length = s.Fields.length ∧ ∀ (j : Nat) b, l[j]? = some b → BOk s s.Visits (j : Int) b := by
  intro d
  induction d with
  | zero => intro k acc _ h; omega
  | succ d ih =>
   intro k acc hk hd hlen hacc
   unfold pBounds_L0
   dsimp only
   rw [e]
   by_cases hkn : k = s.Fields.length
   ·rw [if_neg (by omega)]
    exact ⟨acc, rfl, by omega, hacc⟩
   ·have hfk : FieldOk s (k : Int) := ⟨by omega, by omega⟩
    obtain ⟨b, hb1, hb2⟩ := bound_eq hw hfk (ht _ hfk)
    rw [if_pos (by omega), hb1, Option.bind_some, gd_pos (by omega), gd_pos (fI (by omega)), show (k : Int) + 1 = ((k + 1 : Nat) : Int) by omega]
    refine ih (k + 1) (acc ++ [b]) (by omega) (by omega) (by simp [hlen]) fun j b' hj => ?_
    rcases Nat.lt_or_ge j acc.length with hj2 | hj2
    ·rw [List.getElem?_append_left hj2] at hj
     exact hacc j b' hj
    ·rw [List.getElem?_append_right hj2] at hj
     have hjl := (List.getElem?_eq_some_iff.1 hj).1
     simp only [List.length_cons, List.length_nil] at hjl
     have : j = k := by omega
     subst this
     rw [hlen, Nat.sub_self] at hj
     cases hj
     exact hb2
 rw [e]
 exact key (s.Fields.length + 1) 0 [] (Nat.zero_le _) (by omega) rfl fun j b hj => by simp at hj
theorem Bounds_no {s : Ssn} (h : VS s) (ht : ¬ HT s s.Visits) : pBounds s = some ([], 11) := by
 unfold pBounds
 rw [openTrue_no h ht, Option.bind_some, if_neg (by decide)]
theorem openAsked_out {s : Ssn} {k : Int} {b : Bool} (h : VS s) (hk : ¬ (FieldOk s k ∧ b = true)) : popenAsked s k b = some (wk0, 2) := by
 obtain ⟨_, _, h3, _⟩ := not_many h.many
 unfold popenAsked
 rw [check_eq, fault_zero.2 h, Option.bind_some, if_pos rfl]
 refine (hasField_ev (by omega)).pick (fun hf => ?_) fun hf => by rw [if_neg (by simp)]; rfl
 rw [if_pos rfl, if_neg fun hb => hk ⟨hf, hb⟩]; rfl
theorem openAsked_in {s : Ssn} {k : Int} {b : Bool} (h : VS s) (hk : FieldOk s k) (hb : b = true) {r : Wk × Int} (ho : popenTrue s = some r) : popenAsked s k b = some r := by
 obtain ⟨_, _, h3, _⟩ := not_many h.many
 unfold popenAsked
 rw [check_eq, fault_zero.2 h, Option.bind_some, if_pos rfl, (hasField_ev (by omega)).some_of hk, Option.bind_some, if_pos rfl, if_pos hb, ho, Option.bind_some]
theorem Seen_ok {s : Ssn} (h : VS s) (ht : HT s s.Visits) {k w : Int} (hk : FieldOk s k) (hw : 0 ≤ w ∧ w ≤ s.Last) : ∃ lo hi, pSeen s k w = some (⟨lo, hi⟩, 0) ∧ Spn (Of s s.Visits k fun t => seenN s (fldAt s k).Crop t w) lo hi := by
 obtain ⟨W, h1, hW⟩ := openTrue_ok h ht
 have hf := h.vf hk
 have hl := (not_many h.many).1
 unfold pSeen
 rw [hasWeek_ev.some_of hw, Option.bind_some, openAsked_in h hk rfl h1, Option.bind_some, if_pos rfl]
 obtain ⟨a1, a2, a3, a4⟩ := span_eq hW hk (ht k hk) (q := ⟨fun a => pseen1 a w⟩) (h := fun t => seenN s (fldAt s k).Crop t w) (fun t h' => by
  obtain ⟨q1, q2, q3⟩ := h'.rng h hk
  show (pseen _ w).bind _ = _
  rw [show pseen (crs s (fldAt s k).Crop t) w = _ from seen_eq h.toVS0 hf.crp.1 hf.crp.2 q2 q3 (by omega), Option.bind_some])
 dsimp only
 rw [a3, Option.bind_some]
 exact ⟨_, _, rfl, a4⟩
end
end Go.Proofs.Ytmlaphekbnanjaa

namespace Go.Proofs.Ytmlaphekbnanjaa
open _root_.Go.Proofs.Try
open Go.Abs Go.Abs.Grow
set_option maxRecDepth 100000
noncomputable section
open Classical in
def SB (s : Ssn) (k : Int) (t : Trh) (i : Nat) : Bool := decide (∀ v, s.Visits[i]? = some v → v.Field = k → inR v.Seen (seenN s (fldAt s k).Crop t v.Week))
theorem pow6 {i : Nat} (h : i ≤ 6) : 2 ^ i ≤ 64 := Nat.le_trans (Nat.pow_le_pow_right (by omega) h) (by decide)
end
end Go.Proofs.Ytmlaphekbnanjaa

namespace Go.Proofs.Ytmlaphekbnanjaa
open _root_.Go.Proofs.Try
open Go.Abs Go.Abs.Grow
set_option maxRecDepth 100000
noncomputable section
theorem aw : pawake = some true := rfl
def ThinN (s : Ssn) : Prop := s.Rules.length ≤ 5 ∧ s.Fields.length ≤ 5 ∧ s.Visits.length ≤ 9 ∧ (∀ l ∈ s.Rules, l.length ≤ 20) ∧ (faultN s = 0 → ∀ f ∈ s.Fields, manyN f ≤ 200)
def OkS (s : Ssn) : Prop := ∀ l ∈ s.Rules, l.length ≤ maxLen
theorem okS {s : Ssn} (h : ok_Ssn s) : OkS s := fun l hl => (h.2.1.2 l hl).1
theorem thin_ev {s : Ssn} (hR : OkS s) : Ev (plThin s) (ThinN s) := by
 unfold plThin ThinN
 refine Ev.imp (P := ¬ (5 : Int) < (s.Rules.length : Int) ∧ ¬ (5 : Int) < (s.Fields.length : Int) ∧ ¬ (9 : Int) < (s.Visits.length : Int) ∧ (∀ l ∈ s.Rules, l.length ≤ 20) ∧ (faultN s = 0 → ∀ f ∈ s.Fields, manyN f ≤ 200)) (Ev.itn fun h1 => Ev.itn fun h2 => Ev.itn fun h3 => ?_) ⟨fun ⟨a, b, c, d⟩ => ⟨by omega, by omega, by omega, d⟩, fun ⟨a, b, c, d⟩ => ⟨by omega, by omega, by omega, d⟩⟩
 refine Ev.loopE (l := s.Rules) (F := fun d x => plThin_L0 s d false x) (ok := fun l => l.length ≤ 20) (fin := plThin_L1 s (faultN s) 1000000 0) (fun d k l hl => ?_) (fun d => by rw [plThin_L0, if_neg (Int.lt_irrefl _), rFault_eq hR, Option.bind_some]) (by omega) fun _ => ?_
 ·have hk := (List.getElem?_eq_some_iff.1 hl).1
  rw [plThin_L0, if_pos (by omega), idx_at hl, Option.bind_some]
  constructor
  ·intro h; rw [if_neg (by omega), gd_pos (fI (by omega))]
  ·intro h; rw [if_pos (by omega)]
 ·by_cases hf : faultN s = 0
  ·have hv := fault_zero.1 hf
   refine (Ev.loopE (l := s.Fields) (F := plThin_L1 s (faultN s)) (ok := fun f => manyN f ≤ 200) (fin := some true) (P := True) (fun d k f hg => ?_) (fun d => by rw [plThin_L1, if_neg (Int.lt_irrefl _)]) (by omega) fun _ => Ev.tt trivial).imp ⟨fun h _ => h.1, fun h => ⟨h hf, trivial⟩⟩
   have hk := (List.getElem?_eq_some_iff.1 hg).1
   rw [plThin_L1, if_pos (by omega), if_neg (by rw [hf]; simp), idx_at hg, Option.bind_some, rMany_eq (hv.flds f (List.mem_of_getElem? hg)) (not_many hv.many).1, Option.bind_some]
   constructor
   ·intro h; rw [if_neg (by omega), gd_pos (fI (by omega))]
   ·intro h; rw [if_pos (by omega)]
  ·refine (Ev.loopE (l := s.Fields) (F := plThin_L1 s (faultN s)) (ok := fun _ => True) (fin := some true) (P := True) (fun d k f hg => ?_) (fun d => by rw [plThin_L1, if_neg (Int.lt_irrefl _)]) (by omega) fun _ => Ev.tt trivial).imp ⟨fun _ h => absurd h hf, fun _ => ⟨fun _ _ => trivial, trivial⟩⟩
   have hk := (List.getElem?_eq_some_iff.1 hg).1
   rw [plThin_L1, if_pos (by omega), if_pos (by rw [decide_eq_false hf]; rfl), gd_pos (fI (by omega))]
   exact ⟨fun _ => rfl, fun h => absurd trivial h⟩
theorem lSeason_eq {s : Ssn} (h : ThinN s) : plSeason s = some s := by
 obtain ⟨h1, h2, h3, h4, _⟩ := h
 have k1 := loopApp0 (l := s.Rules) (F := fun d acc x => plSeason_L0 s d s.Last acc [] [] x) (fun l : List Int => l) (fun acc => plSeason_L1 s acc 1000000 s.Last [] [] 0) (fun d k acc a ha hac => by
  have hk := (List.getElem?_eq_some_iff.1 ha).1
  have := h4 a (List.mem_of_getElem? ha)
  show plSeason_L0 s (d + 1) _ _ _ _ _ = _
  rw [plSeason_L0, if_pos (by omega), idx_at ha, Option.bind_some]
  unfold plList
  rw [gd_pos (by simp only [List.length_nil]; omega), Option.bind_some, gd_pos (by omega), gd_pos (fI (by omega))]
  rfl) (fun d acc => by show plSeason_L0 s (d + 1) _ _ _ _ _ = _; rw [plSeason_L0, if_neg (Int.lt_irrefl _)]) (d := 1000000) (by omega)
 have k2 := loopApp0 (l := s.Fields) (F := fun d acc x => plSeason_L1 s s.Rules d s.Last acc [] x) (fun f : Fld => f) (fun acc => plSeason_L2 s s.Rules acc 1000000 s.Last [] 0) (fun d k acc a ha hac => by
  have hk := (List.getElem?_eq_some_iff.1 ha).1
  show plSeason_L1 s _ (d + 1) _ _ _ _ = _
  rw [plSeason_L1, if_pos (by omega), idx_at ha, Option.bind_some]
  unfold plTo
  rw [Option.bind_some, Option.bind_some, Option.bind_some, gd_pos (by omega), gd_pos (fI (by omega))]) (fun d acc => by show plSeason_L1 s _ (d + 1) _ _ _ _ = _; rw [plSeason_L1, if_neg (Int.lt_irrefl _)]) (d := 1000000) (by omega)
 have k3 := loopApp0 (l := s.Visits) (F := fun d acc x => plSeason_L2 s s.Rules s.Fields d s.Last acc x) (fun f : Vis => f) (fun acc => some ({ s with Visits := acc } : Ssn)) (fun d k acc a ha hac => by
  have hk := (List.getElem?_eq_some_iff.1 ha).1
  show plSeason_L2 s _ _ (d + 1) _ _ _ = _
  rw [plSeason_L2, if_pos (by omega), idx_at ha, Option.bind_some]
  unfold plTo
  rw [Option.bind_some, gd_pos (by omega), gd_pos (fI (by omega))]) (fun d acc => by show plSeason_L2 s _ _ (d + 1) _ _ _ = _; rw [plSeason_L2, if_neg (Int.lt_irrefl _)]) (d := 1000000) (by omega)
 unfold plSeason
 refine k1.trans ?_
 rw [List.map_id']
 refine k2.trans ?_
 rw [List.map_id']
 refine k3.trans ?_
 rw [List.map_id']
theorem _root_.Go.Abs.Grow.Spn.rng {P : Int → Prop} {lo hi a b : Int} (h : Spn P lo hi) (hb : ∀ x, P x → a ≤ x ∧ x ≤ b) : (a ≤ lo ∧ lo ≤ b) ∧ a ≤ hi ∧ hi ≤ b := ⟨hb _ h.pl, hb _ h.ph⟩
theorem BOk.rng {s : Ssn} (h : VS s) {k : Int} (hk : FieldOk s k) {b : Bnd} (hb : BOk s s.Visits k b) : ((0 ≤ b.Week.Lo ∧ b.Week.Lo ≤ 100) ∧ 0 ≤ b.Week.Hi ∧ b.Week.Hi ≤ 100) ∧ ((0 ≤ b.Damage.Lo ∧ b.Damage.Lo ≤ 100) ∧ 0 ≤ b.Damage.Hi ∧ b.Damage.Hi ≤ 100) ∧ ((0 ≤ b.Old.Lo ∧ b.Old.Lo ≤ 100) ∧ 0 ≤ b.Old.Hi ∧ b.Old.Hi ≤ 100) ∧ ((0 ≤ b.Harvest.Lo ∧ b.Harvest.Lo ≤ 100) ∧ 0 ≤ b.Harvest.Hi ∧ b.Harvest.Hi ≤ 100) := by
 have hf := h.vf hk
 have hlast := (not_many h.many).1
 refine ⟨hb.wk.rng fun x hx => ?_, hb.dm.rng fun x hx => ?_, hb.old.rng fun x hx => ?_, hb.hv.rng fun x hx => ?_⟩ <;> obtain ⟨t, ht, rfl⟩ := hx <;> have hr := ht.rng h hk <;> dsimp only
 ·omega
 ·omega
 ·omega
 ·have := dmg_rng' h.toVS0 hf.crp.1 hf.crp.2 (t := t) hr.2.1.1 s.Last
  unfold harv; omega
theorem BOk.uniq {s : Ssn} {V : List Vis} {k : Int} {b b' : Bnd} (h : BOk s V k b) (h' : BOk s V k b') : b = b' := by
 obtain ⟨a1, a2⟩ := h.wk.uniq h'.wk fun _ => Iff.rfl
 obtain ⟨a3, a4⟩ := h.dm.uniq h'.dm fun _ => Iff.rfl
 obtain ⟨a5, a6⟩ := h.old.uniq h'.old fun _ => Iff.rfl
 obtain ⟨a7, a8⟩ := h.hv.uniq h'.hv fun _ => Iff.rfl
 obtain ⟨⟨_, _⟩, ⟨_, _⟩, ⟨_, _⟩, ⟨_, _⟩⟩ := b
 obtain ⟨⟨_, _⟩, ⟨_, _⟩, ⟨_, _⟩, ⟨_, _⟩⟩ := b'
 dsimp only at a1 a2 a3 a4 a5 a6 a7 a8
 subst a1 a2 a3 a4 a5 a6 a7 a8
 rfl
end
end Go.Proofs.Ytmlaphekbnanjaa

namespace Go.Proofs.Ytmlaphekbnanjaa
open _root_.Go.Proofs.Try
open Go.Abs Go.Abs.Grow
set_option maxRecDepth 100000
noncomputable section
theorem collect_go : ∀ (l acc : List Crs), acc.length + l.length < 1048576 → pappendSeq_L0 l acc = some (acc ++ l)
 | [], acc, _ => by rw [List.append_nil]; rfl
 | a :: l, acc, h => by
  simp only [List.length_cons] at h
  unfold pappendSeq_L0
  rw [gd_pos (by omega), collect_go l _ (by rw [List.length_append]; simp only [List.length_cons, List.length_nil]; omega), List.append_assoc]; rfl
theorem collect_eq {l : List Crs} (h : l.length < 1048576) : pcollect l = some l := by
 unfold pcollect pappendSeq
 rw [collect_go l [] (by simpa using h), Option.bind_some]; rfl
end
end Go.Proofs.Ytmlaphekbnanjaa

namespace Go.Proofs.Ytmlaphekbnanjaa
open _root_.Go.Proofs.Try
open Go.Abs
set_option maxRecDepth 100000
noncomputable section
def Inc (n fr : Nat) (T : List Int) : Prop := T.Pairwise (· < ·) ∧ ∀ v ∈ T, (fr : Int) ≤ v ∧ v < n
theorem Inc.cons {n fr : Nat} {x : Int} {T : List Int} : Inc n fr (x :: T) ↔ ((fr : Int) ≤ x ∧ x < n) ∧ Inc n (x + 1).toNat T := by
 unfold Inc
 rw [List.pairwise_cons]
 constructor
 ·rintro ⟨⟨h1, h2⟩, h3⟩
  have hx := h3 x (List.mem_cons_self ..)
  exact ⟨hx, h2, fun v hv => by have := h1 v hv; have := h3 v (List.mem_cons_of_mem _ hv); omega⟩
 ·rintro ⟨hx, h2, h3⟩
  refine ⟨⟨fun v hv => by have := h3 v hv; omega, h2⟩, fun v hv => ?_⟩
  rcases List.mem_cons.1 hv with rfl | hv
  ·exact hx
  ·have := h3 v hv; omega
end
end Go.Proofs.Ytmlaphekbnanjaa

namespace Go.Proofs.Ytmlaphekbnanjaa
open _root_.Go.Proofs.Try
open Go.Abs Go.Abs.Grow
set_option maxRecDepth 100000
noncomputable section
theorem wu {n : Nat} (h : n ≤ 64) : wrapZ .u64 (n : Int) = (n : Int) := wz (show (0 : Int) ≤ n ∧ (n : Int) < 18446744073709551616 by omega)
def PL (s : Ssn) (S : Nat → Bool) : Prop := ∀ k, FieldOk s k → ∃ t, IsT (fldAt s k) t ∧ ∀ j, j < s.Visits.length → S j = false → SB s k t j = true
theorem PL.congr {s : Ssn} {S S' : Nat → Bool} (h : ∀ j, j < s.Visits.length → S j = S' j) : PL s S ↔ PL s S' := by
 unfold PL
 refine forall_congr' fun k => forall_congr' fun _ => exists_congr fun t => and_congr Iff.rfl ?_
 exact ⟨fun f j hj hs => f j hj (by rw [h j hj]; exact hs), fun f j hj hs => f j hj (by rw [← h j hj]; exact hs)⟩
def kpF : List Vis → Nat → (Nat → Bool) → List Vis
 | [], _, _ => []
 | v :: V, i, S => if S i = true then v :: kpF V (i + 1) S else kpF V (i + 1) S
theorem mem_kpF {S : Nat → Bool} {v : Vis} : ∀ (V : List Vis) (i : Nat), v ∈ kpF V i S ↔ ∃ j, V[j]? = some v ∧ S (i + j) = true
 | [], i => by simp [kpF]
 | a :: V, i => by
  have ih := mem_kpF (S := S) (v := v) V (i + 1)
  have e : (∃ j, (a :: V)[j]? = some v ∧ S (i + j) = true) ↔ (a = v ∧ S i = true) ∨ ∃ j, V[j]? = some v ∧ S (i + 1 + j) = true := by
   constructor
   ·rintro ⟨j, h1, h2⟩
    cases j with
    | zero => exact .inl ⟨by simpa using h1, h2⟩
    | succ j => exact .inr ⟨j, by simpa using h1, by rw [show i + 1 + j = i + (j + 1) by omega]; exact h2⟩
   ·rintro (⟨h1, h2⟩ | ⟨j, h1, h2⟩)
    ·exact ⟨0, by simpa using h1, h2⟩
    ·exact ⟨j + 1, by simpa using h1, by rw [show i + (j + 1) = i + 1 + j by omega]; exact h2⟩
  rw [e]
  unfold kpF
  by_cases hs : S i = true
  ·rw [if_pos hs, List.mem_cons, ih]
   exact or_congr ⟨fun h => ⟨h.symm, hs⟩, fun h => h.1.symm⟩ Iff.rfl
  ·rw [if_neg hs, ih]
   exact ⟨.inr, fun h => h.elim (fun h => absurd h.2 hs) id⟩
theorem kpF_len {S : Nat → Bool} : ∀ (V : List Vis) (i : Nat), (kpF V i S).length ≤ V.length
 | [], _ => Nat.le_refl _
 | a :: V, i => by
  have := kpF_len (S := S) V (i + 1)
  unfold kpF
  split <;> simp only [List.length_cons] <;> omega
open Classical in
theorem ht_kpF {s : Ssn} {S : Nat → Bool} : HT s (kpF s.Visits 0 S) ↔ PL s fun j => !S j := by
 unfold HT HTf TR PL
 refine forall_congr' fun k => forall_congr' fun _ => exists_congr fun t => and_congr Iff.rfl ?_
 unfold okV SB
 constructor
 ·intro h j hj hs
  rw [decide_eq_true_eq]
  intro v hv hvk
  exact h v ((mem_kpF _ _).2 ⟨j, hv, by rw [Nat.zero_add]; simpa using hs⟩) hvk
 ·intro h v hv hvk
  obtain ⟨j, h1, h2⟩ := (mem_kpF _ _).1 hv
  rw [Nat.zero_add] at h2
  have := h j (List.getElem?_eq_some_iff.1 h1).1 (by show (!S j) = false; rw [h2]; rfl)
  rw [decide_eq_true_eq] at this
  exact this v h1 hvk
end
end Go.Proofs.Ytmlaphekbnanjaa

namespace Go.Proofs.Ytmlaphekbnanjaa
open _root_.Go.Proofs.Try
open Go.Abs Go.Abs.Grow
set_option maxRecDepth 100000
noncomputable section
theorem loopFirst {β : Type} {n : Nat} {F : Nat → Int → Option β} {ok : Nat → Prop} {res : Nat → Option β} {fin : Option β} (hstep : ∀ d k, k < n → (ok k → F (d + 1) (k : Int) = F d ((k : Int) + 1)) ∧ (¬ ok k → F (d + 1) (k : Int) = res k)) (hend : ∀ d, F (d + 1) (n : Int) = fin) :
  ∀ (d k : Nat), k ≤ n → n - k < d → (∃ j, k ≤ j ∧ j < n ∧ ¬ ok j ∧ (∀ i, k ≤ i → i < j → ok i) ∧ F d (k : Int) = res j) ∨ ((∀ j, k ≤ j → j < n → ok j) ∧ F d (k : Int) = fin)
 | 0, k, _, h => by omega
 | d + 1, k, hk, hd => by
  by_cases hkn : k = n
  ·subst hkn
   exact .inr ⟨fun j h1 h2 => by omega, hend d⟩
  ·by_cases ho : ok k
   ·rw [(hstep d k (by omega)).1 ho, show (k : Int) + 1 = ((k + 1 : Nat) : Int) by omega]
    have hor : ∀ i, k ≤ i → (k + 1 ≤ i → ok i) → ok i := fun i h1 h2 => by
     rcases Nat.eq_or_lt_of_le h1 with h3 | h3
     ·subst h3; exact ho
     ·exact h2 h3
    rcases loopFirst hstep hend d (k + 1) (by omega) (by omega) with ⟨j, q1, q2, q3, q4, q5⟩ | ⟨q1, q2⟩
    ·exact .inl ⟨j, by omega, q2, q3, fun i h1 h2 => hor i h1 fun h3 => q4 i h3 h2, q5⟩
    ·exact .inr ⟨fun j h1 h2 => hor j h1 fun h3 => q1 j h3 h2, q2⟩
   ·exact .inl ⟨k, Nat.le_refl _, by omega, ho, fun i h1 h2 => by omega, (hstep d k (by omega)).2 ho⟩
def FP (s : Ssn) (j : Nat) : Prop := HT s (s.Visits.take (j + 1))
theorem kp_take {S : Nat → Bool} : ∀ (V : List Vis) (i n : Nat), (∀ j, S j = decide (j < i + n)) → kpF V i S = V.take n
 | [], _, _, _ => by simp [kpF]
 | v :: V, i, n, h => by
  rw [kpF]
  cases n with
  | zero =>
   rw [if_neg (by rw [h]; simp), List.take_zero]
   have : ∀ (V : List Vis) (i' : Nat), i ≤ i' → kpF V i' S = [] := by
    intro V
    induction V with
    | nil => intro i' _; rfl
    | cons a V ih => intro i' hi; rw [kpF, if_neg (by rw [h]; simp; omega)]; exact ih (i' + 1) (by omega)
   exact this V (i + 1) (by omega)
  | succ n =>
   rw [if_pos (by rw [h]; simp), List.take_succ_cons, kp_take V (i + 1) n fun j => by rw [h]; exact decide_eq_decide.2 (by omega)]
theorem FP_iff {s : Ssn} {j : Nat} : FP s j ↔ PL s fun i => !decide (i < j + 1) := by
 unfold FP
 rw [← kp_take (S := fun i => decide (i < j + 1)) s.Visits 0 (j + 1) fun i => by rw [Nat.zero_add], ht_kpF]
theorem First_eq {s : Ssn} (h : VS s) : (∃ j, j < s.Visits.length ∧ ¬ FP s j ∧ (∀ i, i < j → FP s i) ∧ pFirst s = some ((j : Int), 0)) ∨ ((∀ j, j < s.Visits.length → FP s j) ∧ pFirst s = some (0, 7)) := by
 obtain ⟨m, h1, h2⟩ := open_eq h
 have hw := WOk.of h h2
 obtain ⟨_, _, _, h4⟩ := not_many h.many
 have e : pFirst s = pFirst_L0 s ⟨s, m⟩ (s.Visits.length + 1) 0 := by
  unfold pFirst
  rw [check_eq, fault_zero.2 h, Option.bind_some, if_pos rfl, h1, Option.bind_some]
 have key := loopFirst (n := s.Visits.length) (F := pFirst_L0 s ⟨s, m⟩) (ok := FP s) (res := fun j => some ((j : Int), 0)) (fin := some (0, 7)) (fun d k hk => by
  rw [pFirst_L0, if_pos (by omega), gd_pos (fI (by omega)), gd_pos (by omega), show Int.toNat ((k : Int) + 1) = k + 1 by omega, show Int.toNat (0 : Int) = 0 from rfl, List.drop_zero]
  obtain ⟨W', w1, w2⟩ := hw.wth (V' := s.Visits.take (k + 1)) (fun v hv => h.vis v (List.mem_of_mem_take hv)) (by rw [List.length_take]; omega)
  rw [w1, Option.bind_some]
  exact (hasTruth_ev w2).step (by rw [if_pos rfl, gd_pos (fI (by omega))]) (by rw [if_neg (by simp)])) (fun d => by rw [pFirst_L0, if_neg (Int.lt_irrefl _)]) (s.Visits.length + 1) 0 (Nat.zero_le _) (by omega)
 rw [e]
 rcases key with ⟨j, _, q2, q3, q4, q5⟩ | ⟨q1, q2⟩
 ·exact .inl ⟨j, q2, q3, fun i hi => q4 i (Nat.zero_le _) hi, q5⟩
 ·exact .inr ⟨fun j hj => q1 j (Nat.zero_le _) hj, q2⟩
theorem ints_self {l : List Int} (hl : l.length ≤ 1000) : plInts l l = some true := by
 unfold plInts
 rw [if_pos rfl]
 have key := loop_each (l := l) (F := plInts_L0 l l) (ok := fun _ => True) (bad := some false) (fin := some true) (fun d k a ha => by
  have hk := (List.getElem?_eq_some_iff.1 ha).1
  refine ⟨fun _ => ?_, fun h => absurd trivial h⟩
  rw [plInts_L0, if_pos (by omega), idx_at ha, Option.bind_some, Option.bind_some, if_pos rfl, gd_pos (fI (by omega))]) (fun d => by rw [plInts_L0, if_neg (Int.lt_irrefl _)]) (d := l.length + 1) (by omega)
 exact key.1 fun _ _ => trivial
end
end Go.Proofs.Ytmlaphekbnanjaa

namespace Go.Proofs.Ytmlaphekbnanjaa
open _root_.Go.Proofs.Try
open Go.Abs Go.Abs.Grow
set_option maxRecDepth 100000
noncomputable section
theorem ready_ev {s : Ssn} (hR : OkS s) : Ev (plReady s) (ThinN s ∧ VS s) := by
 unfold plReady
 refine Ev.and (thin_ev hR) fun _ => ?_
 rw [rFault_eq hR, Option.bind_some]
 exact Ev.dec fault_zero
def wV (s : Ssn) (V : List Vis) : Ssn := { s with Visits := V }
theorem some_go {s : Ssn} (hn : s.Visits.length ≤ 6) {b : Nat} (hb : b < 65536) : ∀ (d i : Nat) (acc : List Vis), i ≤ s.Visits.length → s.Visits.length - i < d → acc.length ≤ i →
  plSome_L0 s (b : Int) d s.Last acc (i : Int) = some (wV s (acc ++ kpF (s.Visits.drop i) i fun j => b.testBit j))
 | 0, i, _, _, h, _ => by omega
 | d + 1, i, acc, hi, hd, ha => by
  unfold plSome_L0
  by_cases hin : i = s.Visits.length
  ·rw [if_neg (by omega), hin, List.drop_length]
   unfold kpF wV
   rw [List.append_nil]
  have hlt : i < s.Visits.length := by omega
  have hg := List.getElem?_eq_getElem hlt
  rw [List.drop_eq_getElem_cons hlt]
  generalize s.Visits[i] = v at hg
  have hle : b / 2 ^ i ≤ b := Nat.div_le_self _ _
  have hbit : b.testBit i = decide (b / 2 ^ i % 2 = 1) := Nat.testBit_eq_decide_div_mod_eq ..
  have hq : (b : Int) / 2 ^ (Int.toNat (i : Int)) = ((b / 2 ^ i : Nat) : Int) := by rw [Int.toNat_natCast]; simp
  rw [if_pos (by omega), gd_pos (by omega), wu (show i ≤ 64 by omega), gd_pos (by omega), gd_pos (by omega), hq]
  clear hq
  generalize b / 2 ^ i = q at *
  rw [gd_pos (fI (by omega)), gd_pos (by omega), gd_pos (by omega), gd_pos (fI (by omega)), kpF]
  by_cases h1 : q % 2 = 1
  ·rw [if_pos (by omega), idx_at hg, Option.bind_some, gd_pos (by omega), gd_pos (fI (by omega)), show (i : Int) + 1 = ((i + 1 : Nat) : Int) by omega, some_go hn hb d (i + 1) (acc ++ [v]) (by omega) (by omega) (by simp; omega), if_pos (by rw [hbit, decide_eq_true h1]), List.append_assoc]
   rfl
  ·rw [if_neg (by omega), gd_pos (fI (by omega)), show (i : Int) + 1 = ((i + 1 : Nat) : Int) by omega, some_go hn hb d (i + 1) acc (by omega) (by omega) (by omega), if_neg (by rw [hbit, decide_eq_false h1]; simp)]
theorem some_eq {s : Ssn} (hn : s.Visits.length ≤ 6) {b : Nat} (hb : b < 65536) : plSome s (b : Int) = some (wV s (kpF s.Visits 0 fun j => b.testBit j)) := by
 have := some_go hn hb 1000000 0 [] (Nat.zero_le _) (by omega) (Nat.le_refl _)
 rw [List.drop_zero, List.nil_append] at this
 exact this
theorem wV_vs {s : Ssn} (h : VS s) {V : List Vis} (hv : ∀ v ∈ V, VV s v) (hn : V.length ≤ 6) : VS (wV s V) := by
 refine ⟨⟨h.last, h.rne, h.fne, h.rules, fun f hf => ?_, hv⟩, ?_, h.few⟩
 ·have := h.flds f hf
  exact ⟨this.crp, this.wk, this.dm, this.old⟩
 ·have := not_many h.many
  unfold ManyS wV
  dsimp only
  omega
theorem wV_thin {s : Ssn} (h : VS s) (ht : ThinN s) {V : List Vis} (hn : V.length ≤ 6) : ThinN (wV s V) :=
 ⟨ht.1, ht.2.1, by show V.length ≤ 9; omega, ht.2.2.2.1, fun _ => ht.2.2.2.2 (fault_zero.2 h)⟩
theorem wV_HT {s : Ssn} {V V' : List Vis} : HT (wV s V) V' ↔ HT s V' := Iff.rfl
theorem kp_ok {s : Ssn} (h : VS s) {S : Nat → Bool} : (∀ v ∈ kpF s.Visits 0 S, VV s v) ∧ (kpF s.Visits 0 S).length ≤ 6 := by
 refine ⟨fun v hv => ?_, Nat.le_trans (kpF_len _ _) (not_many h.many).2.2.2⟩
 obtain ⟨j, h1, _⟩ := (mem_kpF _ _).1 hv
 exact h.vis v (List.mem_of_getElem? h1)
open Classical in
theorem bounds_some {s : Ssn} (h : VS s) {S : Nat → Bool} : ∃ l, pBounds (wV s (kpF s.Visits 0 S)) = some (l, if PL s (fun j => !S j) then 0 else 11) := by
 obtain ⟨k1, k2⟩ := kp_ok h (S := S)
 have hv := wV_vs h k1 k2
 by_cases hT : PL s (fun j => !S j)
 ·obtain ⟨l, h1, _⟩ := Bounds_ok hv (wV_HT.2 (ht_kpF.2 hT))
  rw [if_pos hT]
  exact ⟨l, h1⟩
 ·rw [if_neg hT]
  exact ⟨_, Bounds_no hv fun q => hT (ht_kpF.1 (wV_HT.1 q))⟩
end
end Go.Proofs.Ytmlaphekbnanjaa

namespace Go.Proofs.Ytmlaphekbnanjaa
open _root_.Go.Proofs.Try
open Go.Abs Go.Abs.Grow
set_option maxRecDepth 100000
noncomputable section
theorem fitK {n : Int} (h : fitsP .i64 n) : MK.fit n := h
theorem decides_go {all : List Crs} {week limit : Int} {H S : Crs → Int} (hH : ∀ c ∈ all, pharvestD c.d = some (H c)) (hS : ∀ c ∈ all, pseen c week = some (S c)) (hf : ∀ c ∈ all, fitsP .i64 (S c)) (hl : all.length ≤ 1048576) :
  ∀ (d i : Nat) (g : Int → Option Bool), i ≤ all.length → all.length - i < d → (∀ c ∈ all.take i, g (S c) = some (decide (limit < H c))) → (∀ n v, g n = some v → ∃ c ∈ all.take i, S c = n) →
  Ev (pdecides_L0 all week limit d (some g) (i : Int)) (∀ c ∈ all, ∀ c' ∈ all, S c = S c' → (limit < H c ↔ limit < H c'))
 | 0, i, _, _, h, _, _ => by omega
 | d + 1, i, g, hi, hd, h1, h2 => by
  unfold pdecides_L0
  by_cases hin : i = all.length
  ·subst hin
   rw [if_neg (by omega)]
   rw [List.take_length] at h1
   refine Ev.tt fun c hc c' hc' he => ?_
   have e1 := h1 c hc
   have e2 := h1 c' hc'
   rw [he, e2] at e1
   exact (decide_eq_decide.1 (Option.some.inj e1)).symm
  have hlt : i < all.length := by omega
  have he := List.getElem?_eq_getElem hlt
  have hm := List.getElem_mem hlt
  have htk : all.take (i + 1) = all.take i ++ [all[i]] := by rw [List.take_add_one, he]; rfl
  generalize all[i] = a at he hm htk
  rw [if_pos (by omega), idx_at he, Option.bind_some, hH a hm, Option.bind_some, hS a hm, Option.bind_some, gd_pos (fitK (hf a hm))]
  have sub : ∀ {c}, c ∈ all.take i → c ∈ all := fun h => List.mem_of_mem_take h
  have ih := fun (g' : Int → Option Bool) => decides_go (limit := limit) hH hS hf hl d (i + 1) g' (by omega) (by omega)
  have n1 : ((i + 1 : Nat) : Int) = (i : Int) + 1 := by omega
  rw [n1] at ih
  have step : (∀ c ∈ all.take i, S c = S a → decide (limit < H c) = decide (limit < H a)) → Ev (pdecides_L0 all week limit d (some fun j => @ite (Option Bool) (j = S a) (Classical.propDecidable _) (some (decide (limit < H a))) (g j)) ((i : Int) + 1)) (∀ c ∈ all, ∀ c' ∈ all, S c = S c' → (limit < H c ↔ limit < H c')) := fun hc => by
   refine ih _ (fun c hc' => ?_) fun n v hn => ?_
   ·rw [htk] at hc'
    rcases List.mem_append.1 hc' with h | h
    ·by_cases hs : S c = S a
     ·rw [if_pos hs, hc c h hs]
     ·rw [if_neg hs]; exact h1 c h
    ·rw [List.mem_singleton.1 h]; rw [if_pos rfl]
   ·by_cases hs : n = S a
    ·exact ⟨a, by rw [htk]; simp, hs.symm⟩
    ·rw [if_neg hs] at hn
     obtain ⟨c, q1, q2⟩ := h2 n v hn
     exact ⟨c, by rw [htk]; exact List.mem_append_left _ q1, q2⟩
  cases hg : g (S a) with
  | none =>
   have hget : mget (some g) (S a) = none := hg
   rw [mcase_none hget, Option.bind_some, gd_pos (fitK (hf a hm))]
   show Ev ((some (some _)).bind _) _
   rw [Option.bind_some, gd_pos (fI (by omega))]
   exact step fun c hc hs => by have := h1 c hc; rw [hs, hg] at this; cases this
  | some v =>
   have hget : mget (some g) (S a) = some v := hg
   rw [mcase_some hget]
   obtain ⟨c, q1, q2⟩ := h2 _ _ hg
   by_cases hv : v = decide (limit < H a)
   ·rw [if_pos (by rw [hv]; exact beq_self_eq_true _), Option.bind_some, gd_pos (fitK (hf a hm))]
    show Ev ((some (some _)).bind _) _
    rw [Option.bind_some, gd_pos (fI (by omega))]
    refine step fun c hc hs => ?_
    have := h1 c hc
    rw [hs, hg] at this
    rw [← hv]; exact (Option.some.inj this).symm
   ·rw [if_neg (fun hb => hv (eq_of_beq hb))]
    refine Ev.ff fun hP => hv ?_
    have := h1 c q1
    rw [q2, hg] at this
    rw [Option.some.inj this]
    exact decide_eq_decide.2 (hP c (sub q1) a hm q2)
theorem decides_ev {all : List Crs} {week limit : Int} {H S : Crs → Int} (hH : ∀ c ∈ all, pharvestD c.d = some (H c)) (hS : ∀ c ∈ all, pseen c week = some (S c)) (hf : ∀ c ∈ all, fitsP .i64 (S c)) (hl : all.length ≤ 1048576) : Ev (pdecides all week limit) (∀ c ∈ all, ∀ c' ∈ all, S c = S c' → (limit < H c ↔ limit < H c')) := by
 unfold pdecides
 exact decides_go hH hS hf hl _ 0 _ (Nat.zero_le _) (by omega) (fun c hc => by simp at hc) fun n v hn => by cases hn
def decW (s : Ssn) (V : List Vis) (k limit w : Int) : Prop := ∀ t, TR s V k t → ∀ u, TR s V k u → seenN s (fldAt s k).Crop t w = seenN s (fldAt s k).Crop u w → (limit < harv s (fldAt s k).Crop t ↔ limit < harv s (fldAt s k).Crop u)
open Classical in
def weeksL (P : Int → Prop) (lo : Int) (n : Nat) : List Int := (segI lo n).filter fun w => decide (P w)
theorem weeksL_len {P : Int → Prop} {lo : Int} {n : Nat} : (weeksL P lo n).length ≤ n := by
 unfold weeksL
 exact Nat.le_trans (List.length_filter_le _ _) (by rw [segI_len]; exact Nat.le_refl _)
open Classical in
theorem weeksL_succ {P : Int → Prop} {lo : Int} {n : Nat} : weeksL P lo (n + 1) = (if P lo then [lo] else []) ++ weeksL P (lo + 1) n := by
 unfold weeksL
 show (lo :: segI (lo + 1) n).filter _ = _
 rw [List.filter_cons]
 by_cases h : P lo
 ·rw [if_pos (decide_eq_true h), if_pos h]; rfl
 ·rw [if_neg (by simpa using h), if_neg h]; rfl
theorem seen_rng {s : Ssn} (h : VS s) {k : Int} (hk : FieldOk s k) {t : Trh} (ht : IsT (fldAt s k) t) (w : Int) : 0 ≤ seenN s (fldAt s k).Crop t w ∧ seenN s (fldAt s k).Crop t w ≤ 100 := by
 have hff := h.vf hk
 have := ht.rng hff
 have := dmg_rng' h.toVS0 hff.crp.1 hff.crp.2 (t := t) this.2.1.1 w
 unfold seenN; omega
theorem dec_crs {s : Ssn} {V : List Vis} {W : Wk} (h : WOk s V W) {k : Int} (hk : FieldOk s k) {limit w : Int} (hw : 0 ≤ w ∧ w ≤ s.Last) : Ev (pdecides ((TL s V k).map (crs s (fldAt s k).Crop)) w limit) (decW s V k limit w) := by
 have hv := h.vs
 have hla := (not_many hv.many).1
 have hff := hv.vf hk
 have hlen := TL_len hv (V := V) hk
 refine (decides_ev (H := fun c => harv s (fldAt s k).Crop c.t) (S := fun c => seenN s (fldAt s k).Crop c.t w) (fun c hc => ?_) (fun c hc => ?_) (fun c hc => ?_) (by rw [List.length_map]; omega)).imp ⟨fun hP t ht u hu he => ?_, fun hP c hc c' hc' he => ?_⟩
 ·obtain ⟨t, ht, rfl⟩ := List.mem_map.1 hc
  have hr := ((mem_TL hv hk).1 ht).rng hv hk
  exact harvestD_eq hv.toVS0 hla hff.crp.1 hff.crp.2 hr.1.2
 ·obtain ⟨t, ht, rfl⟩ := List.mem_map.1 hc
  have hr := ((mem_TL hv hk).1 ht).rng hv hk
  exact seen_eq hv.toVS0 hff.crp.1 hff.crp.2 hr.2.1 hr.2.2 (by omega)
 ·obtain ⟨t, ht, rfl⟩ := List.mem_map.1 hc
  have := seen_rng hv hk ((mem_TL hv hk).1 ht).1 w
  exact fI (by dsimp only [crs]; omega)
 ·exact hP _ (List.mem_map.2 ⟨t, (mem_TL hv hk).2 ht, rfl⟩) _ (List.mem_map.2 ⟨u, (mem_TL hv hk).2 hu, rfl⟩) he
 ·obtain ⟨t, ht, rfl⟩ := List.mem_map.1 hc
  obtain ⟨u, hu, rfl⟩ := List.mem_map.1 hc'
  exact hP t ((mem_TL hv hk).1 ht) u ((mem_TL hv hk).1 hu) he
theorem Dec_go {s : Ssn} {V : List Vis} {W : Wk} (h : WOk s V W) (hl : s.Last ≤ 12) {k : Int} (hk : FieldOk s k) {limit : Int} : ∀ (d : Nat) (x : Int) (m : Nat) (acc : List Int), 0 ≤ x → x + m = s.Last + 1 → m < d → (acc.length : Int) ≤ x → pDecides_L0 s limit ((TL s V k).map (crs s (fldAt s k).Crop)) d acc x = some (acc ++ weeksL (decW s V k limit) x m, 0)
 | 0, _, m, _, _, _, h, _ => by omega
 | d + 1, x, m, acc, h0, hx, hd, ha => by
  unfold pDecides_L0
  cases m with
  | zero => rw [if_neg (by omega)]; simp [weeksL, segI]
  | succ m =>
   rw [if_pos (by omega), weeksL_succ]
   refine (dec_crs h hk (limit := limit) (w := x) (by omega)).pick (fun hP => ?_) fun hP => ?_
   ·rw [if_pos rfl, gd_pos (by omega), gd_pos (fI (by omega)), Dec_go h hl hk d (x + 1) m _ (by omega) (by omega) (by omega) (by rw [List.length_append]; simp only [List.length_cons, List.length_nil]; omega), if_pos hP, List.append_assoc]
   ·rw [if_neg (by simp), gd_pos (fI (by omega)), Dec_go h hl hk d (x + 1) m _ (by omega) (by omega) (by omega) (by omega), if_neg hP]; rfl
theorem Decides_ok {s : Ssn} (h : VS s) (ht : HT s s.Visits) {k l : Int} (hk : FieldOk s k) (hl : 0 ≤ l ∧ l ≤ 100) : pDecides s k l = some (weeksL (decW s s.Visits k l) 0 (s.Last + 1).toNat, 0) := by
 obtain ⟨W, h1, hW⟩ := openTrue_ok h ht
 have hla := (not_many h.many).1
 have hlast := h.last
 have hlen : ((TL s s.Visits k).map (crs s (fldAt s k).Crop)).length < 1048576 := by rw [List.length_map]; have := TL_len h (V := s.Visits) hk; omega
 unfold pDecides
 rw [isH_ev.some_of hl, Option.bind_some, openAsked_in h hk rfl h1, Option.bind_some, if_pos rfl]
 dsimp only
 rw [truths_eq hW hk, Option.bind_some, collect_eq hlen, Option.bind_some, gd_pos (fI (by omega)), Dec_go hW hla hk _ 0 (s.Last + 1).toNat [] (Int.le_refl _) (by omega) (by omega) (by simp)]
 rfl
end
end Go.Proofs.Ytmlaphekbnanjaa

namespace Go.Proofs.Ytmlaphekbnanjaa
open _root_.Go.Proofs.Try
open Go.Abs Go.Abs.Grow
set_option maxRecDepth 100000
noncomputable section
theorem pow_cast (j : Nat) (c : Int) : c * 2 ^ (Int.toNat (j : Int)) = c * ((2 ^ j : Nat) : Int) := by rw [Int.toNat_natCast, Int.natCast_pow]; rfl
theorem first_isT {s : Ssn} (h : VS s) {k : Int} (hk : FieldOk s k) : IsT (fldAt s k) ⟨(fldAt s k).Week.Lo, (fldAt s k).Damage.Lo, (fldAt s k).Old.Lo⟩ := by
 have hf := h.vf hk
 have a := hf.wk; have b := hf.dm; have c := hf.old
 unfold Wi at a b c
 unfold IsT inR
 dsimp only
 omega
open Classical in
theorem bounds_first {s : Ssn} (h : VS s) (ht : ThinN s) {n : Nat} (hn : n ≤ s.Visits.length) : ∃ l, (plSome s ((2 ^ n - 1 : Nat) : Int)).bind (fun r => (plSeason r).bind fun r => pBounds r) = some (l, if PL s (fun i => !decide (i < n)) then 0 else 11) := by
 obtain ⟨_, _, _, h4⟩ := not_many h.many
 have hp := pow6 (show n ≤ 6 by omega)
 obtain ⟨l, hl⟩ := bounds_some h (S := fun j => (2 ^ n - 1).testBit j)
 refine ⟨l, ?_⟩
 rw [some_eq h4 (by omega), Option.bind_some, lSeason_eq (wV_thin h ht (kp_ok h).2), Option.bind_some, hl]
 congr 2
 have e : PL s (fun j => !(2 ^ n - 1).testBit j) ↔ PL s (fun i => !decide (i < n)) := PL.congr fun j _ => by rw [Nat.testBit_two_pow_sub_one]
 by_cases hp : PL s (fun i => !decide (i < n))
 ·rw [if_pos hp, if_pos (e.2 hp)]
 ·rw [if_neg hp, if_neg fun q => hp (e.1 q)]
theorem PL_before {s : Ssn} (h : VS s) {j : Nat} (hb : ∀ i, i < j → FP s i) : PL s (fun i => !decide (i < j)) := by
 cases j with
 | zero => exact fun k hk => ⟨_, first_isT h hk, fun i _ hi => by simp at hi⟩
 | succ j => exact FP_iff.1 (hb j (by omega))
theorem m_GrowthFirst {s : Ssn} (hs : ok_Ssn s) : pGrowthFirst s = some true := by
 have hR := okS hs
 unfold pGrowthFirst
 refine (ready_ev hR).pick (fun ⟨ht, h⟩ => ?_) fun _ => by rw [if_neg (by simp), aw, Option.bind_some]
 obtain ⟨_, _, _, h4⟩ := not_many h.many
 rw [if_pos rfl, lSeason_eq ht, Option.bind_some]
 rcases First_eq h with ⟨j, hj, h1, h2, h3⟩ | ⟨h1, h2⟩
 ·rw [h3, Option.bind_some]
  dsimp only
  have hp := pow6 (show j ≤ 6 by omega)
  have hp1 := pow6 (show j + 1 ≤ 6 by omega)
  have hp0 := Nat.two_pow_pos j
  have hw : wrapZ .u64 (j : Int) = (j : Int) := wu (show j ≤ 64 by omega)
  have e1 : (1 : Int) * 2 ^ (Int.toNat (j : Int)) - 1 = ((2 ^ j - 1 : Nat) : Int) := by rw [pow_cast]; omega
  have e2 : (2 : Int) * 2 ^ (Int.toNat (j : Int)) - 1 = ((2 ^ (j + 1) - 1 : Nat) : Int) := by rw [pow_cast, Nat.pow_succ]; omega
  have e1' : (1 : Int) * 2 ^ (Int.toNat (j : Int)) = ((2 ^ j : Nat) : Int) := by rw [pow_cast]; omega
  have e2' : (2 : Int) * 2 ^ (Int.toNat (j : Int)) = ((2 ^ (j + 1) : Nat) : Int) := by rw [pow_cast, Nat.pow_succ]; omega
  obtain ⟨l1, q1⟩ := bounds_first h ht (show j ≤ s.Visits.length by omega)
  obtain ⟨l2, q2⟩ := bounds_first h ht (show j + 1 ≤ s.Visits.length by omega)
  rw [if_pos (PL_before h h2)] at q1
  rw [if_neg fun q => h1 (FP_iff.2 q)] at q2
  obtain ⟨r1, a1, q1⟩ := bsome q1
  obtain ⟨r2, a2, q1⟩ := bsome q1
  obtain ⟨r3, a3, q2⟩ := bsome q2
  obtain ⟨r4, a4, q2⟩ := bsome q2
  have hin := In_ev (n := (j : Int)) (lo := 0) (hi := (s.Visits.length : Int) - 1)
  rw [if_pos rfl, gd_pos (fI (by omega)), hin.some_of (by omega), Option.bind_some, if_pos rfl, hw, gd_pos (by omega), gd_pos (by omega), gd_pos (by omega), gd_pos (by rw [e1']; exact fI (by omega)), gd_pos (by rw [e1]; exact fI (by omega)), e1, a1, Option.bind_some, a2, Option.bind_some, q1, Option.bind_some,
   gd_pos (by omega), gd_pos (by omega), gd_pos (by omega), gd_pos (by rw [e2']; exact fI (by omega)), gd_pos (by rw [e2]; exact fI (by omega)), e2, a3, Option.bind_some, a4, Option.bind_some, q2, Option.bind_some]
  simp [aw]
 ·rw [h2, Option.bind_some]
  dsimp only
  have hT : HT s s.Visits := by
   have : PL s (fun i => !decide (i < s.Visits.length)) := PL_before h fun i hi => h1 i hi
   have h5 := (ht_kpF (s := s) (S := fun i => decide (i < s.Visits.length))).2 this
   have e : kpF s.Visits 0 (fun i => decide (i < s.Visits.length)) = s.Visits := by
    rw [kp_take s.Visits 0 s.Visits.length fun j => by simp, List.take_length]
   rw [e] at h5; exact h5
  obtain ⟨l, q, _⟩ := Bounds_ok h hT
  rw [if_neg (by omega), Option.bind_some, q, Option.bind_some]
  simp [aw]
open Classical in
def onlyK (V : List Vis) (k : Int) : List Vis := V.filter fun v => decide (v.Field = k)
theorem TR_only {s : Ssn} {V : List Vis} {k : Int} {t : Trh} : TR s (onlyK V k) k t ↔ TR s V k t := by
 unfold TR okV onlyK
 refine and_congr Iff.rfl ⟨fun h v hv hvk => h v (List.mem_filter.2 ⟨hv, decide_eq_true hvk⟩) hvk, fun h v hv hvk => h v (List.mem_filter.1 hv).1 hvk⟩
theorem HT_only {s : Ssn} {V : List Vis} {k : Int} (h : HT s V) : HT s (onlyK V k) := fun k' hk' => by
 obtain ⟨t, h1, h2⟩ := h k' hk'
 exact ⟨t, h1, fun v hv hvk => h2 v (List.mem_filter.1 hv).1 hvk⟩
theorem BOk.congr {s s' : Ssn} {V V' : List Vis} {k : Int} {b : Bnd} (h : BOk s V k b) (ht : ∀ t, TR s V k t ↔ TR s' V' k t) (hh : ∀ t, harv s (fldAt s k).Crop t = harv s' (fldAt s' k).Crop t) : BOk s' V' k b := by
 have e : ∀ f : Trh → Int, ∀ x, Of s V k f x ↔ Of s' V' k f x := fun f x => exists_congr fun t => and_congr (ht t) Iff.rfl
 refine ⟨h.wk.congr (e _), h.dm.congr (e _), h.old.congr (e _), h.hv.congr fun x => ?_⟩
 unfold Of
 exact exists_congr fun t => and_congr (ht t) (by show harv s (fldAt s k).Crop t = x ↔ harv s' (fldAt s' k).Crop t = x; rw [hh t])
theorem filt_take {V : List Vis} {k : Int} {i : Nat} {v : Vis} (h : V[i]? = some v) : onlyK (V.take (i + 1)) k = onlyK (V.take i) k ++ onlyK [v] k := by
 unfold onlyK
 rw [List.take_add_one, h, List.filter_append]; rfl
theorem apart_go {s : Ssn} (h : VS s) {which week limit kk : Int} (hkk : (wrapZ .i64 which) % (s.Fields.length : Int) = kk) {X : Option Bool} (hX : ∀ d, pGrowthApart_L0 s which week limit (d + 1) s.Last (onlyK s.Visits kk) (s.Visits.length : Int) = X) : ∀ (d i : Nat) (acc : List Vis), i ≤ s.Visits.length → s.Visits.length - i < d → acc = onlyK (s.Visits.take i) kk → pGrowthApart_L0 s which week limit d s.Last acc (i : Int) = X
 | 0, i, _, _, h, _ => by omega
 | d + 1, i, acc, hi, hd, ha => by
  obtain ⟨_, _, _, h4⟩ := not_many h.many
  by_cases hin : i = s.Visits.length
  ·subst hin
   rw [← hX d, ha, List.take_length]
  have hlt : i < s.Visits.length := by omega
  have he := List.getElem?_eq_getElem hlt
  have htk := filt_take (k := kk) he
  generalize s.Visits[i] = v at he htk
  have hlen : acc.length ≤ 6 := by
   rw [ha]; unfold onlyK
   refine Nat.le_trans (List.length_filter_le _ _) ?_
   rw [List.length_take]; omega
  unfold pGrowthApart_L0
  rw [if_pos (by omega), idx_at he, Option.bind_some, hkk, show (i : Int) + 1 = ((i + 1 : Nat) : Int) by omega]
  by_cases hv : v.Field = kk
  ·rw [if_pos hv, Option.bind_some, gd_pos (by omega), gd_pos (fI (by omega))]
   refine apart_go h hkk hX d (i + 1) _ (by omega) (by omega) ?_
   rw [htk, ha]
   congr 1
   unfold onlyK; simp [hv]
  ·rw [if_neg hv, gd_pos (fI (by omega))]
   refine apart_go h hkk hX d (i + 1) _ (by omega) (by omega) ?_
   rw [htk, ha]
   unfold onlyK; simp [hv]
theorem m_GrowthApart {s : Ssn} {which week limit : Int} (hs : ok_Ssn s) (hwh : fitsP .u8 which) (hwk : fitsP .u8 week) (hlm : fitsP .u8 limit) : pGrowthApart s which week limit = some true := by
 have hR := okS hs
 unfold pGrowthApart
 refine (ready_ev hR).pick (fun ⟨ht, h⟩ => ?_) fun _ => by rw [if_neg (by simp), aw, Option.bind_some]
 obtain ⟨hla, _, h3, h4⟩ := not_many h.many
 have hlast := h.last
 have hfn := h.fne
 have u1 := fU8 hwh; have u2 := fU8 hwk; have u3 := fU8 hlm
 have w1 : wrapZ .i64 which = which := wz (fI (by omega))
 have w2 : wrapZ .i64 week = week := wz (fI (by omega))
 have w3 : wrapZ .i64 limit = limit := wz (fI (by omega))
 have m1 := Int.emod_nonneg which (show (s.Fields.length : Int) ≠ 0 by omega)
 have m1' := Int.emod_lt_of_pos which (show (0 : Int) < s.Fields.length by omega)
 have m2 := Int.emod_nonneg week (show s.Last + 1 ≠ 0 by omega)
 have m2' := Int.emod_lt_of_pos week (show 0 < s.Last + 1 by omega)
 have m3 := Int.emod_nonneg limit (show (101 : Int) ≠ 0 by omega)
 have m3' := Int.emod_lt_of_pos limit (show (0 : Int) < 101 by omega)
 obtain ⟨kk, hkk⟩ : ∃ kk, which % (s.Fields.length : Int) = kk := ⟨_, rfl⟩
 rw [if_pos rfl, w1, w2, w3, gd_pos (by omega), gd_pos (by omega), gd_pos (fI (by omega)), gd_pos (fI (by omega)), gd_pos (by omega), gd_pos (by omega), gd_pos (fI (by omega)), gd_pos (by omega), gd_pos (by omega), gd_pos (fI (by omega))]
 refine apart_go h (kk := kk) (by rw [w1]; exact hkk) (fun d => ?_) _ 0 [] (Nat.zero_le _) (by omega) (by simp [onlyK])
 have hk : FieldOk s kk := ⟨by omega, by omega⟩
 unfold pGrowthApart_L0
 rw [if_neg (by omega), w1, w2, w3, hkk]
 have hso : ∀ v ∈ onlyK s.Visits kk, VV s v := fun v hv => h.vis v (List.mem_filter.1 hv).1
 have hlo : (onlyK s.Visits kk).length ≤ 6 := Nat.le_trans (List.length_filter_le _ _) h4
 have hv' : VS (wV s (onlyK s.Visits kk)) := wV_vs h hso hlo
 have ht' : ThinN (wV s (onlyK s.Visits kk)) := wV_thin h ht hlo
 have ex : ({ Last := s.Last, Rules := s.Rules, Fields := s.Fields, Visits := onlyK s.Visits kk } : Ssn) = wV s (onlyK s.Visits kk) := rfl
 rw [ex]
 by_cases hT : HT s s.Visits
 ·have hT' : HT (wV s (onlyK s.Visits kk)) (onlyK s.Visits kk) := wV_HT.2 (HT_only hT)
  have hk' : FieldOk (wV s (onlyK s.Visits kk)) kk := hk
  have hw2 : 0 ≤ week % (s.Last + 1) ∧ week % (s.Last + 1) ≤ s.Last := by omega
  obtain ⟨l, a1, a2, a3⟩ := Bounds_ok h hT
  obtain ⟨l', b1, b2, b3⟩ := Bounds_ok hv' hT'
  obtain ⟨lo, hi, c1, c2⟩ := Seen_ok h hT hk hw2
  obtain ⟨lo', hi', d1, d2⟩ := Seen_ok hv' hT' hk' (w := week % (s.Last + 1)) hw2
  have e1 := Decides_ok h hT hk (l := limit % 101) (by omega)
  have e2 := Decides_ok hv' hT' hk' (l := limit % 101) (by omega)
  have hTR : ∀ t, TR s s.Visits kk t ↔ TR (wV s (onlyK s.Visits kk)) (onlyK s.Visits kk) kk t := fun t => TR_only.symm
  obtain ⟨ee1, ee2⟩ := c2.uniq d2 fun x => exists_congr fun t => and_congr (hTR t) Iff.rfl
  subst ee1 ee2
  have hdec : weeksL (decW (wV s (onlyK s.Visits kk)) (onlyK s.Visits kk) kk (limit % 101)) 0 ((wV s (onlyK s.Visits kk)).Last + 1).toNat = weeksL (decW s s.Visits kk (limit % 101)) 0 (s.Last + 1).toNat := by
   have : decW (wV s (onlyK s.Visits kk)) (onlyK s.Visits kk) kk (limit % 101) = decW s s.Visits kk (limit % 101) := by
    funext w
    unfold decW
    refine propext (forall_congr' fun t => ⟨fun hh h1 u h2 => hh ((hTR t).1 h1) u ((hTR u).1 h2), fun hh h1 u h2 => hh ((hTR t).2 h1) u ((hTR u).2 h2)⟩)
   rw [this]; rfl
  have e2' : pDecides (wV s (onlyK s.Visits kk)) kk (limit % 101) = some (weeksL (decW s s.Visits kk (limit % 101)) 0 (s.Last + 1).toNat, 0) := by rw [e2]; exact congrArg (fun x => some (x, (0 : Int))) hdec
  have hll' : l'.length = s.Fields.length := b2
  have hkl : kk.toNat < l.length := by omega
  have hkl' : kk.toNat < l'.length := by
   have : l'.length = s.Fields.length := b2
   omega
  have g1 := List.getElem?_eq_getElem hkl
  have g2 := List.getElem?_eq_getElem hkl'
  have ekk : ((kk.toNat : Nat) : Int) = kk := by omega
  have B1 := a3 _ _ g1
  have B2 := b3 _ _ g2
  rw [ekk] at B1 B2
  have hbe : l[kk.toNat] = l'[kk.toNat] := (B1.congr hTR fun _ => rfl).uniq B2
  have hrg := B1.rng h hk
  generalize l[kk.toNat] = b at *
  generalize l'[kk.toNat] = b' at *
  subst hbe
  have i1 : idx l kk = some b := by rw [← ekk]; exact idx_at g1
  have i2 : idx l' kk = some b := by rw [← ekk]; exact idx_at g2
  have hsr := c2.rng (a := 0) (b := 100) fun x hx => by
   obtain ⟨t, htt, rfl⟩ := hx
   exact seen_rng h hk htt.1 _
  have hll : (weeksL (decW s s.Visits kk (limit % 101)) 0 (s.Last + 1).toNat).length ≤ 1000 := by
   have := weeksL_len (P := decW s s.Visits kk (limit % 101)) (lo := 0) (n := (s.Last + 1).toNat); omega
  have f1 : ∀ {n : Int}, (0 ≤ n ∧ n ≤ 100) → fitsP .i64 n := fun h => fI (by omega)
  obtain ⟨⟨r1, r2⟩, ⟨r3, r4⟩, ⟨r5, r6⟩, r7, r8⟩ := hrg
  rw [lSeason_eq ht, Option.bind_some, a1, Option.bind_some, lSeason_eq ht', Option.bind_some, b1, Option.bind_some, if_pos rfl, Option.bind_some, c1, Option.bind_some, Option.bind_some, d1, Option.bind_some, Option.bind_some, e1, Option.bind_some, Option.bind_some, e2', Option.bind_some, if_pos rfl, if_pos (show (l.length : Int) = s.Fields.length by omega), if_pos (show (l'.length : Int) = l.length by omega)]
  rw [i1, Option.bind_some, i2, Option.bind_some]
  simp only [gd_pos (f1 r1), gd_pos (f1 r2), gd_pos (f1 r3), gd_pos (f1 r4), gd_pos (f1 r5), gd_pos (f1 r6), gd_pos (f1 r7), gd_pos (f1 r8), gd_pos (f1 hsr.1), gd_pos (f1 hsr.2), decide_true, Bool.and_self, if_true, ints_self hll, Option.bind_some, aw]
 ·obtain ⟨o, ho⟩ : ∃ o, pBounds (wV s (onlyK s.Visits kk)) = some o := by
   by_cases hT' : HT (wV s (onlyK s.Visits kk)) (onlyK s.Visits kk)
   ·obtain ⟨l', b1, _⟩ := Bounds_ok hv' hT'; exact ⟨_, b1⟩
   ·exact ⟨_, Bounds_no hv' hT'⟩
  rw [lSeason_eq ht, Option.bind_some, Bounds_no h hT, Option.bind_some, lSeason_eq ht', Option.bind_some, ho, Option.bind_some]
  simp [aw]
end
end Go.Proofs.Ytmlaphekbnanjaa

namespace Go.Proofs.Ytmlaphekbnanjaa
open _root_.Go.Proofs.Try
open Go.ChangeShapes Go.WideShapes Go.ChangeAt Go.RowKit Go.Abs
set_option maxRecDepth 100000
theorem op3 : Opens prog 3 Int (fitsP .i64) := opens_int (by kernel_rfl)
theorem op39 : Opens prog 39 (List Int) (fun l => l.length ≤ maxLen ∧ ∀ a0 ∈ l, fitsP .i64 a0) := opens_slice (by kernel_rfl) (by kernel_rfl) op3
theorem op27 : Opens prog 27 (List (List Int)) (fun l => l.length ≤ maxLen ∧ ∀ a0 ∈ l, a0.length ≤ maxLen ∧ ∀ a1 ∈ a0, fitsP .i64 a1) := opens_slice (by kernel_rfl) (by kernel_rfl) op39
theorem op60 : Opens prog 60 Rg ok_Rg := opens_struct (fs := [(3, 0), (3, 1)]) (by kernel_rfl) (by kernel_rfl) (opensFs_cons (α := Int) (ok := fitsP .i64) (k := 1) op3 (by kernel_rfl) rfl (opensFs_cons (α := Int) (ok := fitsP .i64) (k := 1) op3 (by kernel_rfl) rfl opensFs_nil)) (by kernel_rfl) fun m vs h => by
 obtain ⟨a0, c0, r0, m0, h0, p0, k0, s0, ⟨a1, c1, r1, m1, h1, p1, k1, s1, rfl⟩⟩ := h
 have p0 : c0 = [.int .i64 a0] := p0; subst p0
 have p1 : c1 = [.int .i64 a1] := p1; subst p1
 subst h1 h0
 exact ⟨⟨a0, a1⟩, rfl, ⟨k0, k1⟩⟩
theorem op70 : Opens prog 70 Fld ok_Fld := opens_struct (fs := [(3, 0), (60, 1), (60, 3), (60, 5)]) (by kernel_rfl) (by kernel_rfl) (opensFs_cons (α := Int) (ok := fitsP .i64) (k := 1) op3 (by kernel_rfl) rfl (opensFs_cons (α := Rg) (ok := ok_Rg) (k := 2) op60 (by kernel_rfl) rfl (opensFs_cons (α := Rg) (ok := ok_Rg) (k := 2) op60 (by kernel_rfl) rfl (opensFs_cons (α := Rg) (ok := ok_Rg) (k := 2) op60 (by kernel_rfl) rfl opensFs_nil)))) (by kernel_rfl) fun m vs h => by
 obtain ⟨a0, c0, r0, m0, h0, p0, k0, s0, ⟨a1, c1, r1, m1, h1, p1, k1, s1, ⟨a2, c2, r2, m2, h2, p2, k2, s2, ⟨a3, c3, r3, m3, h3, p3, k3, s3, rfl⟩⟩⟩⟩ := h
 have p0 : c0 = [.int .i64 a0] := p0; subst p0
 have p1 : c1 = [.int .i64 a1.Lo, .int .i64 a1.Hi] := p1; subst p1
 have p2 : c2 = [.int .i64 a2.Lo, .int .i64 a2.Hi] := p2; subst p2
 have p3 : c3 = [.int .i64 a3.Lo, .int .i64 a3.Hi] := p3; subst p3
 subst h3 h2 h1 h0
 exact ⟨⟨a0, a1, a2, a3⟩, rfl, ⟨k0, k1, k2, k3⟩⟩
theorem op56 : Opens prog 56 (List Fld) (fun l => l.length ≤ maxLen ∧ ∀ a0 ∈ l, ok_Fld a0) := opens_slice (by kernel_rfl) (by kernel_rfl) op70
theorem op62 : Opens prog 62 Vis ok_Vis := opens_struct (fs := [(3, 0), (3, 1), (60, 2)]) (by kernel_rfl) (by kernel_rfl) (opensFs_cons (α := Int) (ok := fitsP .i64) (k := 1) op3 (by kernel_rfl) rfl (opensFs_cons (α := Int) (ok := fitsP .i64) (k := 1) op3 (by kernel_rfl) rfl (opensFs_cons (α := Rg) (ok := ok_Rg) (k := 2) op60 (by kernel_rfl) rfl opensFs_nil))) (by kernel_rfl) fun m vs h => by
 obtain ⟨a0, c0, r0, m0, h0, p0, k0, s0, ⟨a1, c1, r1, m1, h1, p1, k1, s1, ⟨a2, c2, r2, m2, h2, p2, k2, s2, rfl⟩⟩⟩ := h
 have p0 : c0 = [.int .i64 a0] := p0; subst p0
 have p1 : c1 = [.int .i64 a1] := p1; subst p1
 have p2 : c2 = [.int .i64 a2.Lo, .int .i64 a2.Hi] := p2; subst p2
 subst h2 h1 h0
 exact ⟨⟨a0, a1, a2⟩, rfl, ⟨k0, k1, k2⟩⟩
theorem op57 : Opens prog 57 (List Vis) (fun l => l.length ≤ maxLen ∧ ∀ a0 ∈ l, ok_Vis a0) := opens_slice (by kernel_rfl) (by kernel_rfl) op62
theorem op59 : Opens prog 59 Ssn ok_Ssn := opens_struct (fs := [(3, 0), (27, 1), (56, 2), (57, 3)]) (by kernel_rfl) (by kernel_rfl) (opensFs_cons (α := Int) (ok := fitsP .i64) (k := 1) op3 (by kernel_rfl) rfl (opensFs_cons (α := List (List Int)) (ok := (fun l => l.length ≤ maxLen ∧ ∀ a0 ∈ l, a0.length ≤ maxLen ∧ ∀ a1 ∈ a0, fitsP .i64 a1)) (k := 1) op27 (by kernel_rfl) rfl (opensFs_cons (α := List Fld) (ok := (fun l => l.length ≤ maxLen ∧ ∀ a0 ∈ l, ok_Fld a0)) (k := 1) op56 (by kernel_rfl) rfl (opensFs_cons (α := List Vis) (ok := (fun l => l.length ≤ maxLen ∧ ∀ a0 ∈ l, ok_Vis a0)) (k := 1) op57 (by kernel_rfl) rfl opensFs_nil)))) (by kernel_rfl) fun m vs h => by
 obtain ⟨a0, c0, r0, m0, h0, p0, k0, s0, ⟨a1, c1, r1, m1, h1, p1, k1, s1, ⟨a2, c2, r2, m2, h2, p2, k2, s2, ⟨a3, c3, r3, m3, h3, p3, k3, s3, rfl⟩⟩⟩⟩ := h
 have p0 : c0 = [.int .i64 a0] := p0; subst p0
 obtain ⟨d1, rfl, p1⟩ := p1
 obtain ⟨d2, rfl, p2⟩ := p2
 obtain ⟨d3, rfl, p3⟩ := p3
 subst h3 h2 h1 h0
 exact ⟨⟨a0, a1, a2, a3⟩, ⟨_, _, _, rfl, p1, p2, p3⟩, ⟨k0, k1, k2, k3⟩⟩
theorem laid : laidOutB prog = true := by kernel_rfl
theorem ownNone : ownKnob prog.godebug = none := by kernel_rfl
theorem GrowthApart_lifted (os : Os) (started : os.Started) (H : Type) (enc : TypeId × Value → H) :
    ReturnsInHanded {} Try.checked os 8 .any (Rows.growthApartSpec.pre6 enc Try.prog Try.f8 Rows.growthApartRow.domain false) (Rows.growthApartSpec.post enc Try.prog Try.f8 false true false false) := by
  refine returnsInHanded_of_change (C := Try.checked) ownNone started (by kernel_rfl) Try.func8
    (ChangeSpec.witness6 (enc := enc) (C := Try.checked) false ⟨#[], #[.agg #[.int .i64 0, .slice none 0 0, .slice none 0 0, .slice none 0 0], .int .u8 0, .int .u8 0, .int .u8 0], []⟩ 8 (by kernel_rfl) (by kernel_rfl) (by kernel_rfl) (by kernel_rfl)) ?_
  intro W base args ds gs before hval0 hW hcnd _
  have hval : ∀ (j : Nat) t v, Try.f8.params[j]? = some t → args[j]? = some v → Value.okWide Try.prog W .any base t v := hval0
  have hW' := hW
  obtain ⟨p, q, hA0, hV, rfl, hfz, hnd⟩ := hW
  have hA : DataW.TrodAll enc Try.prog W 0 (fun _ => true) true Try.f8.params.toList args.toList ds p := hA0
  rw [Try.params8] at hA hval
  obtain ⟨v0, v1, v2, v3, d0, d1, d2, d3, p0, p1, p2, p3, rfl, rfl, rfl, h0, h1, h2, h3⟩ := trodAll_four hA
  obtain ⟨rfl, rfl⟩ := trodVars_none hV
  obtain ⟨n1, hv1⟩ := okWide_int Try.underlying5 (hval 1 5 v1 rfl rfl)
  obtain ⟨n2, hv2⟩ := okWide_int Try.underlying5 (hval 2 5 v2 rfl rfl)
  obtain ⟨n3, hv3⟩ := okWide_int Try.underlying5 (hval 3 5 v3 rfl rfl)
  have hlt : ∀ x ∈ p0 ++ p1 ++ p2 ++ p3, x.block < W.heap.size := fun x hx => by simpa using hW'.lt x (by simpa using hx)
  obtain ⟨fu0, hf0⟩ := id h0
  obtain ⟨fu1, hf1⟩ := id h1
  obtain ⟨fu2, hf2⟩ := id h2
  obtain ⟨fu3, hf3⟩ := id h3
  clear hA0 hval0
  obtain ⟨e0, m0, w0, a_0, le0, sv0, lay0, cr0, rep0, ok0⟩ := op59 H enc W true _ _ _ hf0 _ _ (Lay.nil W)
  obtain ⟨i1, hc1, _, hw1⟩ := DataW.trod_int Try.underlying5 hf1
  obtain ⟨i2, hc2, _, hw2⟩ := DataW.trod_int Try.underlying5 hf2
  obtain ⟨i3, hc3, _, hw3⟩ := DataW.trod_int Try.underlying5 hf3
  obtain ⟨c0_1, c0_2, c0_3, rfl, g0_1, g0_2, g0_3⟩ := rep0
  obtain ⟨cs0, hv0, cl0⟩ : ∃ cs, v0 = .agg cs ∧ v0.cells.toList = cs.toList := by
    have hl := cr0.length
    cases v0 with
    | agg cs => exact ⟨cs, rfl, rfl⟩
    | _ => exact absurd hl (by simp [Value.cells])
  subst hv0
  subst hv1
  have hi1 : i1 = n1 := by
    have h : [Value.int .u8 n1] = [.int .u8 i1] := hc1
    cases h; rfl
  subst hi1
  subst hv2
  have hi2 : i2 = n2 := by
    have h : [Value.int .u8 n2] = [.int .u8 i2] := hc2
    cases h; rfl
  subst hi2
  subst hv3
  have hi3 : i3 = n3 := by
    have h : [Value.int .u8 n3] = [.int .u8 i3] := hc3
    cases h; rfl
  subst hi3
  have hargs : All2 (VR e0) [.agg 4 [.int .i64 a_0.Last, c0_1, c0_2, c0_3], .c (.int .u8 i1), .c (.int .u8 i2), .c (.int .u8 i3)] [.agg cs0, .int .u8 i1, .int .u8 i2, .int .u8 i3] := .cons ⟨cs0, rfl, cr0, rfl⟩ (.cons rfl (.cons rfl (.cons rfl .nil)))
  refine (callsIn_wide.1 (call_of fits htab (s_GrowthApart (s := a_0) (which := i1) (week := i2) (limit := i3) lay0.pre g0_1 g0_2 g0_3 (m_GrowthApart ok0 (wf_fits hw1) (wf_fits hw2) (wf_fits hw3)) (Q := fun v _ => v = .c (.bool true)) fun _ _ => rfl) lay0.hr (args' := #[.agg cs0, .int .u8 i1, .int .u8 i2, .int .u8 i3]) hargs 0)).mono fun en W' hp => ?_
  obtain ⟨v, v', e', m', rfl, hst, hvr, rfl⟩ := hp
  have hv' : v' = .bool true := hvr
  subst hv'
  have hbelow := lay0.below hst
  refine ⟨_, rfl, [d0, d1, d2, d3], [], p0 ++ p1 ++ p2 ++ p3, [], p0 ++ (p1 ++ (p2 ++ p3)), [], by simpa using hW', trodAll_mk1 (shut_bool Try.underlying4 _),
    trodAll_mk4 (Below.trod laid (by kernel_rfl) (of_decide_eq_true (by kernel_rfl)) h0 hbelow fun x hx => hlt x (by simp [hx])) (Below.trod laid (by kernel_rfl) (of_decide_eq_true (by kernel_rfl)) h1 hbelow fun x hx => hlt x (by simp [hx])) (Below.trod laid (by kernel_rfl) (of_decide_eq_true (by kernel_rfl)) h2 hbelow fun x hx => hlt x (by simp [hx])) (Below.trod laid (by kernel_rfl) (of_decide_eq_true (by kernel_rfl)) h3 hbelow fun x hx => hlt x (by simp [hx])), rfl, lay0.kept hst _, fun hc => by cases hc⟩
theorem GrowthApart_holds : Rows.GrowthApartSaid :=
 OpenClaim.holds_of_wide 8 Try.f8 rfl rfl rfl rfl rfl rfl rfl ⟨rfl, rfl, rfl, rfl, rfl⟩ rfl rfl rfl rfl rfl (by kernel_rfl) Try.func8 (by kernel_rfl)
  (of_decide_eq_true (by kernel_rfl)) (by unfold Func.isWrapper; first | (rw [if_pos (by decide +kernel)]; kernel_rfl) | (rw [if_neg (by decide +kernel)]; exact ⟨rfl, rfl⟩))
  (fun os started H enc _ => GrowthApart_lifted os started H enc)
end Go.Proofs.Ytmlaphekbnanjaa

