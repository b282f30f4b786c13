/- GrowthLeft, for all that it can be called with, returns true. Condition: none. -/
import Derived.Test.YtmlaphekbnanjaaGreatGeH
import GoSem.Step
import GoSem.ClaimKeys
import Derived.DeepKeys2
import Derived.RangeFuncLeaves
import Derived.OrdersIn
import Derived.Laws.World
import Derived.Laws.Sem
import Derived.RangeFuncRecord
import Derived.Laws.CopyRow
import Derived.Laws.Append
import Derived.Laws.Rows
import Derived.Laws.Slices
import Derived.Laws.Entries
import Derived.ChangeKeysEq
import Derived.IntWalk
import Derived.DeepKeys
import Derived.DeepKeys3
import Derived.Laws.StructEq
import Derived.MapKept
import Derived.Laws.AppendOwn
import Derived.ChangeArms
import Derived.ChangeOld
import Derived.Carry
import Derived.ChangeShapes
import Derived.KernelRfl
import Derived.ProofKit
import Derived.Test.YtmlaphekbnanjaaGreatRows

namespace Go.Proofs.YtmlaphekbnanjaaGreat
open _root_.Go.Proofs.Tryz
open Go.Abs Go.Abs.Grow
set_option maxRecDepth 100000
noncomputable section
def nums (r : Rg) : List Int := segI r.Lo (cnt r).toNat
theorem mem_nums {r : Rg} (h : r.Lo ≤ r.Hi) {x : Int} : x ∈ nums r ↔ inR r x := by
 unfold nums inR cnt
 rw [mem_segI]; omega
theorem nums_len {r : Rg} {lo hi : Int} (h : Wi r lo hi) {n : Nat} (hn : hi - lo + 1 ≤ n) : (nums r).length ≤ n := by
 have := cnt_rng h
 unfold nums; rw [segI_len]; omega
theorem numbers_go {r : Rg} {n : Int} (h : Wi r (-1000) 1000) (hn : n = cnt r) : ∀ (d k m : Nat), (k : Int) + m = n → m < d → pnumbersI_L0 r n d (k : Int) = some (segI (r.Lo + k) m)
 | 0, _, _, _, h => by omega
 | d + 1, k, 0, hk, _ => by
  unfold pnumbersI_L0
  rw [if_neg (by omega)]; rfl
 | d + 1, k, m + 1, hk, hd => by
  have hc := h
  unfold Wi at hc
  unfold cnt at hn
  unfold pnumbersI_L0
  rw [if_pos (by omega), gd_pos (fI (by omega)), gd_pos (fI (by omega)), show (k : Int) + 1 = ((k + 1 : Nat) : Int) by omega, numbers_go h (by unfold cnt; exact hn) d (k + 1) m (by omega) (by omega), Option.bind_some, show r.Lo + ((k + 1 : Nat) : Int) = r.Lo + k + 1 by omega]
  rfl
theorem numbers_eq {r : Rg} (h : Wi r (-1000) 1000) : pnumbers r = some (nums r) := by
 have hc := h
 unfold Wi at hc
 have hcn : 0 < cnt r := by unfold cnt; omega
 unfold pnumbers pnumbersI
 rw [count_eq h, Option.bind_some]
 have := numbers_go h rfl ((cnt r).toNat + 1) 0 (cnt r).toNat (by omega) (by omega)
 rw [show ((0 : Nat) : Int) = 0 by rfl] at this
 rw [this, Option.bind_some]
 unfold nums
 rw [Int.add_zero]
def chL (f : Fld) : List Trh := (nums f.Week).flatMap fun w => (nums f.Damage).flatMap fun d => (nums f.Old).map fun o => ⟨w, d, o⟩
theorem mem_chL {s : Ssn} {f : Fld} (h : VF s f) {t : Trh} : t ∈ chL f ↔ IsT f t := by
 have h1 := h.wk; have h2 := h.dm; have h3 := h.old
 unfold Wi at h1 h2 h3
 unfold chL IsT
 rw [List.mem_flatMap]
 constructor
 ·rintro ⟨w, hw, ht⟩
  obtain ⟨d, hd, ht⟩ := List.mem_flatMap.1 ht
  obtain ⟨o, ho, rfl⟩ := List.mem_map.1 ht
  exact ⟨(mem_nums (by omega)).1 hw, (mem_nums (by omega)).1 hd, (mem_nums (by omega)).1 ho⟩
 ·rintro ⟨a, b, c⟩
  exact ⟨t.Week, (mem_nums (by omega)).2 a, List.mem_flatMap.2 ⟨t.Damage, (mem_nums (by omega)).2 b, List.mem_map.2 ⟨t.Old, (mem_nums (by omega)).2 c, rfl⟩⟩⟩
theorem flatMap_len {α β : Type} {f : α → List β} {B : Nat} : ∀ {l : List α}, (∀ x ∈ l, (f x).length ≤ B) → (l.flatMap f).length ≤ l.length * B
 | [], _ => by simp
 | a :: l, h => by
  rw [List.flatMap_cons, List.length_append, List.length_cons, Nat.add_mul, Nat.one_mul, Nat.add_comm]
  exact Nat.add_le_add (flatMap_len fun x hx => h x (List.mem_cons_of_mem _ hx)) (h a (List.mem_cons_self ..))
theorem chL_len {s : Ssn} {f : Fld} (h : VF s f) (hl : s.Last ≤ 12) : (chL f).length ≤ 132613 := by
 have h1 := nums_len h.wk (n := 13) (by omega)
 have h2 := nums_len h.dm (n := 101) (by omega)
 have h3 := nums_len h.old (n := 101) (by omega)
 have q1 : ∀ w : Int, ((nums f.Damage).flatMap fun d => (nums f.Old).map fun o => (⟨w, d, o⟩ : Trh)).length ≤ 10201 := fun w => by
  have := flatMap_len (l := nums f.Damage) (f := fun d => (nums f.Old).map fun o => (⟨w, d, o⟩ : Trh)) (B := 101) fun d _ => by rw [List.length_map]; exact h3
  have h4 : (nums f.Damage).length * 101 ≤ 101 * 101 := Nat.mul_le_mul_right _ h2
  omega
 have q2 := flatMap_len (l := nums f.Week) (f := fun w => (nums f.Damage).flatMap fun d => (nums f.Old).map fun o => (⟨w, d, o⟩ : Trh)) (B := 10201) fun w _ => q1 w
 have h4 : (nums f.Week).length * 10201 ≤ 13 * 10201 := Nat.mul_le_mul_right _ h1
 unfold chL; omega
def Good (s : Ssn) (D : Plt → Prop) (m : Option (Plt → Option Dm)) : Prop := ∃ g, m = some g ∧ ∀ p, D p → g p = some (dmOf s p.crop p.t)
theorem Good.mono {s : Ssn} {D D' : Plt → Prop} {m : Option (Plt → Option Dm)} (h : Good s D m) (hD : ∀ p, D' p → D p) : Good s D' m := by
 obtain ⟨g, h1, h2⟩ := h
 exact ⟨g, h1, fun p hp => h2 p (hD p hp)⟩
theorem Good.set {s : Ssn} {D : Plt → Prop} {m : Option (Plt → Option Dm)} (h : Good s D m) (p : Plt) : ∃ m', mset m p (dmOf s p.crop p.t) = some m' ∧ Good s (fun q => D q ∨ q = p) m' := by
 obtain ⟨g, rfl, h2⟩ := h
 refine ⟨_, rfl, _, rfl, fun q hq => ?_⟩
 by_cases hqp : q = p
 ·rw [if_pos hqp, hqp]
 ·rw [if_neg hqp]
  exact h2 q (hq.elim id fun h => absurd h hqp)
theorem open_L2 {s : Ssn} (h : VS0 s) (hl : s.Last ≤ 12) (hr3 : s.Rules.length ≤ 3) {f : Fld} (hf : VF s f) {w : Int} (hw : 0 ≤ w ∧ w ≤ s.Last) {K : Option (Plt → Option Dm) → Option Wk} {R : Option Wk → Prop} : ∀ (ds : List Int) (D : Plt → Prop) (m : Option (Plt → Option Dm)), (∀ d ∈ ds, 0 ≤ d ∧ d ≤ 100) → Good s D m →
  (∀ m', Good s (fun q => D q ∨ ∃ d ∈ ds, q = ⟨⟨w, d, 0⟩, f.Crop⟩) m' → R (K m')) → R (popen_L2 s f w K ds m)
 | [], D, m, _, hm, hK => hK m (hm.mono fun p hp => hp.elim id fun ⟨d, hd, _⟩ => by cases hd)
 | d :: ds, D, m, hd, hm, hK => by
  have hc := hf.crp
  have h1 := hd d (List.mem_cons_self ..)
  unfold popen_L2
  obtain ⟨m', h2, h3⟩ := hm.set ⟨⟨w, d, 0⟩, f.Crop⟩
  rw [show pplant f w d = some ⟨⟨w, d, 0⟩, f.Crop⟩ from rfl, Option.bind_some, grow_eq h hl hc.1 hc.2 hw.1 h1, Option.bind_some, gd_pos ⟨fI (by dsimp only; omega), fI (by dsimp only; omega), fI (by dsimp only; omega), fI (by dsimp only; omega), trivial⟩, h2, Option.bind_some]
  refine open_L2 h hl hr3 hf hw ds _ m' (fun x hx => hd x (List.mem_cons_of_mem _ hx)) h3 fun m'' hm'' => hK m'' (hm''.mono fun p hp => ?_)
  rcases hp with hp | ⟨x, hx, hp⟩
  ·exact .inl (.inl hp)
  ·rcases List.mem_cons.1 hx with rfl | hx
   ·exact .inl (.inr hp)
   ·exact .inr ⟨x, hx, hp⟩
theorem open_L1 {s : Ssn} (h : VS0 s) (hl : s.Last ≤ 12) (hr3 : s.Rules.length ≤ 3) {f : Fld} (hf : VF s f) {x : Int} (hx : fitsP .i64 (x + 1)) {K : Option (Plt → Option Dm) → Int → Option Wk} {R : Option Wk → Prop} : ∀ (ws : List Int) (D : Plt → Prop) (m : Option (Plt → Option Dm)), (∀ w ∈ ws, 0 ≤ w ∧ w ≤ s.Last) → Good s D m →
  (∀ m', Good s (fun q => D q ∨ ∃ w ∈ ws, ∃ d, inR f.Damage d ∧ q = ⟨⟨w, d, 0⟩, f.Crop⟩) m' → R (K m' (x + 1))) → R (popen_L1 s x f K ws m)
 | [], D, m, _, hm, hK => by
  unfold popen_L1
  rw [gd_pos hx]
  exact hK m (hm.mono fun p hp => hp.elim id fun ⟨d, hd, _⟩ => by cases hd)
 | w :: ws, D, m, hw, hm, hK => by
  have hd := hf.dm
  have hdw := hd.w (by omega) (by omega)
  unfold popen_L1
  rw [numbers_eq hdw, Option.bind_some]
  unfold Wi at hd
  refine open_L2 h hl hr3 hf (hw w (List.mem_cons_self ..)) (nums f.Damage) D m (fun d hd' => ?_) hm fun m' hm' => ?_
  ·have := (mem_nums (by omega)).1 hd'
   unfold inR at this; omega
  ·refine open_L1 h hl hr3 hf hx ws _ m' (fun y hy => hw y (List.mem_cons_of_mem _ hy)) hm' fun m'' hm'' => hK m'' (hm''.mono fun p hp => ?_)
   rcases hp with hp | ⟨y, hy, d, hdd, hp⟩
   ·exact .inl (.inl hp)
   ·rcases List.mem_cons.1 hy with rfl | hy
    ·exact .inl (.inr ⟨d, (mem_nums (by omega)).2 hdd, hp⟩)
    ·exact .inr ⟨y, hy, d, hdd, hp⟩
def DomF (l : List Fld) (q : Plt) : Prop := ∃ f ∈ l, ∃ w, inR f.Week w ∧ ∃ d, inR f.Damage d ∧ q = ⟨⟨w, d, 0⟩, f.Crop⟩
theorem open_L0 {s : Ssn} (h : VS0 s) (hl : s.Last ≤ 12) (hr3 : s.Rules.length ≤ 3) (h3 : s.Fields.length ≤ 3) : ∀ (d k : Nat) (m : Option (Plt → Option Dm)), k ≤ s.Fields.length → s.Fields.length - k < d → Good s (DomF (s.Fields.take k)) m →
  ∃ m', popen_L0 s d m (k : Int) = some ⟨s, m'⟩ ∧ Good s (DomF s.Fields) m'
 | 0, k, m, _, hd, _ => by omega
 | d + 1, k, m, hk, hd, hm => by
  unfold popen_L0
  by_cases hkn : k = s.Fields.length
  ·subst hkn
   rw [if_neg (Int.lt_irrefl _)]
   exact ⟨m, rfl, by rw [List.take_length] at hm; exact hm⟩
  have hlt : k < s.Fields.length := by omega
  have hg := List.getElem?_eq_getElem hlt
  have hf := h.flds _ (List.getElem_mem hlt)
  generalize hfe : s.Fields[k] = f at hg hf
  have hwk := hf.wk
  rw [if_pos (by omega), idx_at hg, Option.bind_some, numbers_eq (hwk.w (by omega) (by omega)), Option.bind_some]
  unfold Wi at hwk
  refine open_L1 (R := fun o => ∃ m', o = some ⟨s, m'⟩ ∧ Good s (DomF s.Fields) m') h hl hr3 hf (fI (by omega)) (nums f.Week) _ m (fun w hw => ?_) hm fun m' hm' => ?_
  ·have := (mem_nums (by omega)).1 hw
   unfold inR at this; omega
  ·rw [show (k : Int) + 1 = ((k + 1 : Nat) : Int) by omega]
   refine open_L0 h hl hr3 h3 d (k + 1) m' (by omega) (by omega) (hm'.mono fun p hp => ?_)
   obtain ⟨f', hf', w, hw, x, hx, hp⟩ := hp
   rw [List.take_add_one, hg] at hf'
   rcases List.mem_append.1 hf' with hf' | hf'
   ·exact .inl ⟨f', hf', w, hw, x, hx, hp⟩
   ·have : f' = f := by simpa using hf'
    subst this
    exact .inr ⟨w, (mem_nums (by omega)).2 hw, x, hx, hp⟩
theorem open_eq {s : Ssn} (h : VS s) : ∃ m, popen s = some ⟨s, m⟩ ∧ Good s (DomF s.Fields) m := by
 obtain ⟨h1, h2, h3, h4⟩ := not_many h.many
 exact open_L0 h.toVS0 h1 h2 h3 (s.Fields.length + 1) 0 _ (Nat.zero_le _) (by omega) ⟨_, rfl, fun p hp => by obtain ⟨f, hf, _⟩ := hp; cases hf⟩
def crs (s : Ssn) (c : Int) (t : Trh) : Crs := ⟨t, dmOf s c t⟩
theorem ch_L3 {w d : Int} {dm : Dm} {r : List Crs} : ∀ os : List Int, pchoicesI_L3 w d dm (some r) os = some (os.map (fun o => ⟨⟨w, d, o⟩, dm⟩) ++ r)
 | [] => rfl
 | o :: os => by unfold pchoicesI_L3; rw [ch_L3 os, Option.bind_some]; rfl
theorem ch_L1 {s : Ssn} {W : Wk} {f : Fld} (hm : Good s (DomF s.Fields) W.damages) (hf : f ∈ s.Fields) (hv : VF s f) (hl : s.Last ≤ 12) (h3 : s.Rules.length ≤ 3) {w : Int} (hw : inR f.Week w) {r : List Crs} : ∀ ds : List Int, (∀ d ∈ ds, inR f.Damage d) →
  pchoicesI_L1 f W w (some r) ds = some ((ds.flatMap fun d => (nums f.Old).map fun o => crs s f.Crop ⟨w, d, o⟩) ++ r)
 | [], _ => rfl
 | d :: ds, hd => by
  have h1 := hd d (List.mem_cons_self ..)
  have hwk := hv.wk; have hdm := hv.dm; have hcr := hv.crp
  unfold Wi at hwk hdm
  have hw' := hw
  have h1' := h1
  unfold inR at hw' h1'
  obtain ⟨g, hg1, hg2⟩ := id hm
  have hget : mget W.damages ⟨⟨w, d, 0⟩, f.Crop⟩ = some (dmOf s f.Crop ⟨w, d, 0⟩) := by rw [hg1]; exact hg2 _ ⟨f, hf, w, hw, d, h1, rfl⟩
  unfold pchoicesI_L1
  rw [show pplant f w d = some ⟨⟨w, d, 0⟩, f.Crop⟩ from rfl, Option.bind_some, gd_pos ⟨fI (by dsimp only; omega), fI (by dsimp only; omega), fI (by dsimp only; omega), fI (by dsimp only; omega), trivial⟩, mcase_some hget, numbers_eq (hv.old.w (by omega) (by omega)), Option.bind_some, ch_L1 hm hf hv hl h3 hw ds fun x hx => hd x (List.mem_cons_of_mem _ hx), ch_L3, List.flatMap_cons, List.append_assoc]
  rfl
theorem ch_L0 {s : Ssn} {W : Wk} {f : Fld} (hm : Good s (DomF s.Fields) W.damages) (hf : f ∈ s.Fields) (hv : VF s f) (hl : s.Last ≤ 12) (h3 : s.Rules.length ≤ 3) : ∀ ws : List Int, (∀ w ∈ ws, inR f.Week w) →
  pchoicesI_L0 f W ws = some ((ws.flatMap fun w => (nums f.Damage).flatMap fun d => (nums f.Old).map fun o => crs s f.Crop ⟨w, d, o⟩))
 | [], _ => rfl
 | w :: ws, hw => by
  have hdm := hv.dm
  unfold Wi at hdm
  unfold pchoicesI_L0
  rw [numbers_eq (hv.dm.w (by omega) (by omega)), Option.bind_some, ch_L0 hm hf hv hl h3 ws fun x hx => hw x (List.mem_cons_of_mem _ hx), ch_L1 hm hf hv hl h3 (hw w (List.mem_cons_self ..)) _ fun d hd => (mem_nums (by omega)).1 hd]
  rfl
theorem choices_eq {s : Ssn} {W : Wk} {f : Fld} (hm : Good s (DomF s.Fields) W.damages) (hf : f ∈ s.Fields) (hv : VF s f) (hl : s.Last ≤ 12) (h3 : s.Rules.length ≤ 3) : pchoices W f = some ((chL f).map (crs s f.Crop)) := by
 have hwk := hv.wk
 unfold Wi at hwk
 unfold pchoices pchoicesI
 rw [numbers_eq (hv.wk.w (by omega) (by omega)), Option.bind_some, ch_L0 hm hf hv hl h3 _ fun w hw => (mem_nums (by omega)).1 hw, Option.bind_some]
 congr 1
 unfold chL
 rw [List.map_flatMap]
 congr 1
 funext w
 rw [List.map_flatMap]
 congr 1
 funext d
 rw [List.map_map]; rfl
def okV (s : Ssn) (V : List Vis) (k : Int) (t : Trh) : Prop := ∀ v ∈ V, v.Field = k → inR v.Seen (seenN s (fldAt s k).Crop t v.Week)
def TR (s : Ssn) (V : List Vis) (k : Int) (t : Trh) : Prop := IsT (fldAt s k) t ∧ okV s V k t
open Classical in
def TL (s : Ssn) (V : List Vis) (k : Int) : List Trh := (chL (fldAt s k)).filter fun t => decide (okV s V k t)
structure WOk (s : Ssn) (V : List Vis) (W : Wk) : Prop where
 vs : VS s
 ss : W.s = { s with Visits := V }
 m : Good s (DomF s.Fields) W.damages
 v : ∀ v ∈ V, VV s v
 len : V.length ≤ 6
open Classical in
theorem mem_TL {s : Ssn} (h : VS s) {V : List Vis} {k : Int} (hk : FieldOk s k) {t : Trh} : t ∈ TL s V k ↔ TR s V k t := by
 unfold TL TR
 rw [List.mem_filter, mem_chL (h.vf hk), decide_eq_true_eq]
theorem TL_len {s : Ssn} (h : VS s) {V : List Vis} {k : Int} (hk : FieldOk s k) : (TL s V k).length ≤ 132613 := by
 unfold TL
 exact Nat.le_trans (List.length_filter_le _ _) (chL_len (h.vf hk) (not_many h.many).1)
theorem allows_ev {s : Ssn} (h : VS s) {V : List Vis} (hV : ∀ v ∈ V, VV s v) (hn : V.length ≤ 6) {k : Int} (hk : FieldOk s k) {t : Trh} (ht : IsT (fldAt s k) t) : Ev (pallows { s with Visits := V } k (crs s (fldAt s k).Crop t)) (okV s V k t) := by
 obtain ⟨h1, _⟩ := not_many h.many
 have hf := h.vf hk
 obtain ⟨q1, q2, q3⟩ := ht.rng hf
 refine (eachV_ev (q := fun v => v.Field = k → inR v.Seen (seenN s (fldAt s k).Crop t v.Week)) (fun v hv => ?_) (fewS hn (by omega))).ret
 unfold pallows1
 by_cases hvk : v.Field = k
 ·rw [if_pos hvk, show pseen (crs s (fldAt s k).Crop t) v.Week = _ from seen_eq h.toVS0 hf.crp.1 hf.crp.2 q2 q3 (by have := (hV v hv).2.1; omega), Option.bind_some]
  exact has_ev.ret.imp ⟨fun h _ => h, fun h => h hvk⟩
 ·rw [if_neg hvk]; exact Ev.tt fun h => absurd h hvk
open Classical in
theorem truths_L0 {s : Ssn} {V : List Vis} {W : Wk} (h : WOk s V W) {k : Int} (hk : FieldOk s k) : ∀ l : List Trh, (∀ t ∈ l, IsT (fldAt s k) t) → ptruthsI_L0 W k (l.map (crs s (fldAt s k).Crop)) = some ((l.filter fun t => decide (okV s V k t)).map (crs s (fldAt s k).Crop))
 | [], _ => rfl
 | t :: l, ht => by
  have ih := truths_L0 h hk l fun x hx => ht x (List.mem_cons_of_mem _ hx)
  rw [List.map_cons]
  unfold ptruthsI_L0
  rw [h.ss, (allows_ev h.vs h.v h.len hk (ht t (List.mem_cons_self ..))).eqd, Option.bind_some, ih]
  by_cases ho : okV s V k t
  ·rw [decide_eq_true ho, if_pos rfl, List.filter_cons_of_pos (by simpa using ho)]; rfl
  ·rw [decide_eq_false ho, if_neg (by simp), List.filter_cons_of_neg (by simpa using ho)]
theorem truths_eq {s : Ssn} {V : List Vis} {W : Wk} (h : WOk s V W) {k : Int} (hk : FieldOk s k) : ptruths W k = some ((TL s V k).map (crs s (fldAt s k).Crop)) := by
 obtain ⟨h1, h2, _⟩ := not_many h.vs.many
 have hf := h.vs.vf hk
 unfold ptruths ptruthsI
 rw [h.ss]
 rw [show idx ({ s with Visits := V } : Ssn).Fields k = some (fldAt s k) from (fld_at hk).1, Option.bind_some, choices_eq h.m (fld_at hk).2 hf h1 h2, Option.bind_some, truths_L0 h hk _ fun t ht => (mem_chL hf).1 ht, Option.bind_some]; rfl
def HTf (s : Ssn) (V : List Vis) (k : Int) : Prop := ∃ t, TR s V k t
def HT (s : Ssn) (V : List Vis) : Prop := ∀ k, FieldOk s k → HTf s V k
theorem TL_ne {s : Ssn} (h : VS s) {V : List Vis} {k : Int} (hk : FieldOk s k) : TL s V k ≠ [] ↔ HTf s V k := by
 constructor
 ·intro hn
  obtain ⟨t, ht⟩ := List.exists_mem_of_ne_nil _ hn
  exact ⟨t, (mem_TL h hk).1 ht⟩
 ·rintro ⟨t, ht⟩ hn
  have := (mem_TL h hk).2 ht
  rw [hn] at this; cases this
theorem hasTruthOf_ev {s : Ssn} {V : List Vis} {W : Wk} (h : WOk s V W) {k : Int} (hk : FieldOk s k) : Ev (phasTruthOf W k) (HTf s V k) := by
 unfold phasTruthOf
 rw [truths_eq h hk, Option.bind_some]
 have hn := TL_ne h.vs (V := V) hk
 cases hl : TL s V k with
 | nil => rw [hl] at hn; exact Ev.ff fun hh => (hn.2 hh) rfl
 | cons t l => rw [hl] at hn; exact Ev.tt (hn.1 (by simp))
theorem hasTruth_ev {s : Ssn} {V : List Vis} {W : Wk} (h : WOk s V W) : Ev (phasTruth W) (HT s V) := by
 obtain ⟨h1, h2, h3, h4⟩ := not_many h.vs.many
 have e : W.s.Fields = s.Fields := by rw [h.ss]
 unfold phasTruth
 rw [e]
 have key := loopAll_tt (n := s.Fields.length) (F := phasTruth_L0 W) (ok := fun j => HTf s V (j : Int)) (bad := some false) (fin := some true) (fun d k hk => by
  rw [phasTruth_L0, e, if_pos (by omega)]
  exact (hasTruthOf_ev h (k := (k : Int)) ⟨by omega, by omega⟩).step (by rw [if_pos rfl, gd_pos (fI (by omega))]) (by rw [if_neg (by simp)])) (fun d => by rw [phasTruth_L0, e, if_neg (Int.lt_irrefl _)]) (d := s.Fields.length + 1) (by omega)
 have hiff : (∀ j, j < s.Fields.length → HTf s V (j : Int)) ↔ HT s V := ⟨fun q k hk => by
  unfold FieldOk at hk
  have := q k.toNat (by omega)
  rwa [show ((k.toNat : Nat) : Int) = k by omega] at this, fun q j hj => q j ⟨by omega, by omega⟩⟩
 rw [hiff] at key
 by_cases hh : HT s V
 ·rw [key.1 hh]; exact Ev.tt hh
 ·rw [key.2 hh]; exact Ev.ff hh
theorem WOk.of {s : Ssn} (h : VS s) {m : Option (Plt → Option Dm)} (hm : Good s (DomF s.Fields) m) : WOk s s.Visits ⟨s, m⟩ := ⟨h, rfl, hm, h.vis, (not_many h.many).2.2.2⟩
theorem WOk.wth {s : Ssn} {V V' : List Vis} {W : Wk} (h : WOk s V W) (hv : ∀ v ∈ V', VV s v) (hn : V'.length ≤ 6) : ∃ W', pwth W V' = some W' ∧ WOk s V' W' := ⟨_, rfl, h.vs, by rw [h.ss], h.m, hv, hn⟩
def wk0 : Wk := { s := ({ Last := (0 : Int), Rules := [], Fields := [], Visits := [] } : Ssn), damages := none }
theorem openTrue_ok {s : Ssn} (h : VS s) (ht : HT s s.Visits) : ∃ W, popenTrue s = some (W, 0) ∧ WOk s s.Visits W := by
 obtain ⟨m, h1, h2⟩ := open_eq h
 have hw := WOk.of h h2
 refine ⟨_, ?_, hw⟩
 unfold popenTrue
 rw [check_eq, fault_zero.2 h, Option.bind_some, if_pos rfl, h1, Option.bind_some, (hasTruth_ev hw).some_of ht, Option.bind_some, if_pos rfl]
theorem openTrue_no {s : Ssn} (h : VS s) (ht : ¬ HT s s.Visits) : popenTrue s = some (wk0, 11) := by
 obtain ⟨m, h1, h2⟩ := open_eq h
 have hw := WOk.of h h2
 unfold popenTrue
 rw [check_eq, fault_zero.2 h, Option.bind_some, if_pos rfl, h1, Option.bind_some, (hasTruth_ev hw).some_not ht, Option.bind_some, if_neg (by simp)]; rfl
end
end Go.Proofs.YtmlaphekbnanjaaGreat

namespace Go.Proofs.YtmlaphekbnanjaaGreat
open _root_.Go.Proofs.Tryz
open Go.Abs Go.Abs.Grow
set_option maxRecDepth 100000
noncomputable section
theorem minimum_eq {l : List Int} (h : l ≠ []) (hl : shrt l) : pminimum l = some (minL l) := by
 have hl := hl.lt
 cases l with
 | nil => exact absurd rfl h
 | cons x l =>
  unfold pminimum
  rw [if_neg (by simp; omega), idx_zero rfl, Option.bind_some]
  have key := loopFold (l := x :: l) (fun s a => min s a) (fun d s k => pminimum_L0 (x :: l) d s k) some (fun d k s a ha => by
   have hk := (List.getElem?_eq_some_iff.1 ha).1
   rw [pminimum_L0, if_pos (by omega), idx_at ha, Option.bind_some]
   by_cases hc : a < s
   ·rw [if_pos hc, gd_pos (fI (by omega)), Int.min_eq_right (by omega)]
   ·rw [if_neg hc, gd_pos (fI (by omega)), Int.min_eq_left (by omega)]) (fun d s => by rw [pminimum_L0, if_neg (Int.lt_irrefl _)]) ((x :: l).length + 1) 0 x (Nat.zero_le _) (by omega)
  refine key.trans ?_
  rw [List.drop_zero]
  show some (l.foldl min (min x x)) = _
  rw [Int.min_self]; rfl
theorem max_eq {l : List Int} (h : l ≠ []) (hl : shrt l) : psMax l = some (maxL l) := by
 have hl := hl.lt
 cases l with
 | nil => exact absurd rfl h
 | cons x l =>
  unfold psMax
  rw [if_neg (by simp; omega), idx_zero rfl, Option.bind_some]
  have key := loopFold (l := x :: l) (fun s a => max s a) (fun d s k => psMax_L0 (x :: l) d s k) some (fun d k s a ha => by
   have hk := (List.getElem?_eq_some_iff.1 ha).1
   rw [psMax_L0, if_pos (by omega), idx_at ha, Option.bind_some, gd_pos (fI (by omega))]) (fun d s => by rw [psMax_L0, if_neg (Int.lt_irrefl _)]) ((((x :: l).length : Int) - 1).toNat + 1) 1 x (by simp) (by simp only [List.length_cons]; omega)
  exact key
def Of (s : Ssn) (V : List Vis) (k : Int) (h : Trh → Int) : Int → Prop := fun x => ∃ t, TR s V k t ∧ h t = x
theorem span_L0 {q : Qn} {g : Crs → Trh} {h : Trh → Int} : ∀ (l : List Crs) (acc : List Int), (∀ c ∈ l, q.number c = some (h (g c))) → acc.length + l.length < 1048576 → acc ++ l.map (fun c => h (g c)) ≠ [] →
  pspan_L0 q l acc = some ⟨minL (acc ++ l.map (fun c => h (g c))), maxL (acc ++ l.map (fun c => h (g c)))⟩
 | [], acc, _, hl, hne => by
  unfold pspan_L0
  rw [List.map_nil, List.append_nil] at hne ⊢
  simp only [List.length_nil] at hl
  rw [minimum_eq hne (by unfold shrt; omega), Option.bind_some, max_eq hne (by unfold shrt; omega), Option.bind_some]
 | c :: l, acc, hq, hl, hne => by
  simp only [List.length_cons] at hl
  unfold pspan_L0
  rw [hq c (List.mem_cons_self ..), Option.bind_some, gd_pos (by omega), span_L0 l (acc ++ [h (g c)]) (fun x hx => hq x (List.mem_cons_of_mem _ hx)) (by rw [List.length_append]; simp only [List.length_cons, List.length_nil]; omega) (by simp), List.append_assoc]
  rfl
theorem span_eq {s : Ssn} {V : List Vis} {W : Wk} (hw : WOk s V W) {k : Int} (hk : FieldOk s k) (ht : HTf s V k) {q : Qn} {h : Trh → Int} (hq : ∀ t, TR s V k t → q.number (crs s (fldAt s k).Crop t) = some (h t)) :
  ∃ lo hi, pspan W k q = some ⟨lo, hi⟩ ∧ Spn (Of s V k h) lo hi := by
 have hne := (TL_ne hw.vs (V := V) hk).2 ht
 have hlen := TL_len hw.vs (V := V) hk
 have hne2 : [] ++ ((TL s V k).map (crs s (fldAt s k).Crop)).map (fun c => h c.t) ≠ [] := by simpa using hne
 have hmem : ∀ x, x ∈ ([] : List Int) ++ ((TL s V k).map (crs s (fldAt s k).Crop)).map (fun c => h c.t) ↔ Of s V k h x := fun x => by
  rw [List.nil_append, List.map_map, List.mem_map]
  exact ⟨fun ⟨t, h1, h2⟩ => ⟨t, (mem_TL hw.vs hk).1 h1, h2⟩, fun ⟨t, h1, h2⟩ => ⟨t, (mem_TL hw.vs hk).2 h1, h2⟩⟩
 refine ⟨_, _, ?_, (hmem _).1 (minL_mem hne2).1, (hmem _).1 (maxL_mem hne2).1, fun x hx => ⟨(minL_mem hne2).2 x ((hmem x).2 hx), (maxL_mem hne2).2 x ((hmem x).2 hx)⟩⟩
 unfold pspan
 rw [truths_eq hw hk, Option.bind_some, span_L0 (g := fun c => c.t) (h := h) _ [] (fun c hc => by
  obtain ⟨t, h1, rfl⟩ := List.mem_map.1 hc
  exact hq t ((mem_TL hw.vs hk).1 h1)) (by rw [List.length_map]; simp only [List.length_nil]; omega) hne2]
structure BOk (s : Ssn) (V : List Vis) (k : Int) (b : Bnd) : Prop where
 wk : Spn (Of s V k fun t => t.Week) b.Week.Lo b.Week.Hi
 dm : Spn (Of s V k fun t => t.Damage) b.Damage.Lo b.Damage.Hi
 old : Spn (Of s V k fun t => t.Old) b.Old.Lo b.Old.Hi
 hv : Spn (Of s V k fun t => harv s (fldAt s k).Crop t) b.Harvest.Lo b.Harvest.Hi
theorem TR.rng {s : Ssn} (h : VS s) {V : List Vis} {k : Int} (hk : FieldOk s k) {t : Trh} (ht : TR s V k t) : (0 ≤ t.Week ∧ t.Week ≤ s.Last) ∧ (0 ≤ t.Damage ∧ t.Damage ≤ 100) ∧ (0 ≤ t.Old ∧ t.Old ≤ 100) := ht.1.rng (h.vf hk)
theorem bound_eq {s : Ssn} {V : List Vis} {W : Wk} (hw : WOk s V W) {k : Int} (hk : FieldOk s k) (ht : HTf s V k) : ∃ b, pbound W k = some b ∧ BOk s V k b := by
 have hf := hw.vs.vf hk
 have hl := (not_many hw.vs.many).1
 unfold pbound
 obtain ⟨a1, a2, a3, a4⟩ := span_eq hw hk ht (q := ⟨fun a => pcWeek a⟩) (h := fun t => t.Week) (fun t _ => rfl)
 obtain ⟨b1, b2, b3, b4⟩ := span_eq hw hk ht (q := ⟨fun a => pcDamage a⟩) (h := fun t => t.Damage) (fun t _ => rfl)
 obtain ⟨c1, c2, c3, c4⟩ := span_eq hw hk ht (q := ⟨fun a => pcOld a⟩) (h := fun t => t.Old) (fun t _ => rfl)
 obtain ⟨d1, d2, d3, d4⟩ := span_eq hw hk ht (q := ⟨fun a => pharvestD a.d⟩) (h := fun t => harv s (fldAt s k).Crop t) (fun t h => harvestD_eq hw.vs.toVS0 hl hf.crp.1 hf.crp.2 (h.rng hw.vs hk).1.2)
 rw [a3, Option.bind_some, b3, Option.bind_some, c3, Option.bind_some, d3, Option.bind_some]
 exact ⟨_, rfl, a4, b4, c4, d4⟩
theorem Bounds_ok {s : Ssn} (h : VS s) (ht : HT s s.Visits) : ∃ l, pBounds s = some (l, 0) ∧ l.length = s.Fields.length ∧ ∀ (j : Nat) b, l[j]? = some b → BOk s s.Visits (j : Int) b := by
 obtain ⟨W, h1, hw⟩ := openTrue_ok h ht
 have e : W.s.Fields = s.Fields := by rw [hw.ss]
 obtain ⟨_, _, h3, _⟩ := not_many h.many
 unfold pBounds
 rw [h1, Option.bind_some, if_pos rfl]
 show ∃ l, pBounds_L0 (W, 0) (W.s.Fields.length + 1) [] 0 = _ ∧ _
 have key : ∀ (d k : Nat) (acc : List Bnd), k ≤ s.Fields.length → s.Fields.length - k < d → acc.length = k → (∀ (j : Nat) b, acc[j]? = some b → BOk s s.Visits (j : Int) b) → ∃ l, pBounds_L0 (W, 0) d acc (k : Int) = some (l, 0) ∧ l.length = s.Fields.length ∧ ∀ (j : Nat) b, l[j]? = some b → BOk s s.Visits (j : Int) b := by
  intro d
  induction d with
  | zero => intro k acc _ h; omega
  | succ d ih =>
   intro k acc hk hd hlen hacc
   unfold pBounds_L0
   dsimp only
   rw [e]
   by_cases hkn : k = s.Fields.length
   ·rw [if_neg (by omega)]
    exact ⟨acc, rfl, by omega, hacc⟩
   ·have hfk : FieldOk s (k : Int) := ⟨by omega, by omega⟩
    obtain ⟨b, hb1, hb2⟩ := bound_eq hw hfk (ht _ hfk)
    rw [if_pos (by omega), hb1, Option.bind_some, gd_pos (by omega), gd_pos (fI (by omega)), show (k : Int) + 1 = ((k + 1 : Nat) : Int) by omega]
    refine ih (k + 1) (acc ++ [b]) (by omega) (by omega) (by simp [hlen]) fun j b' hj => ?_
    rcases Nat.lt_or_ge j acc.length with hj2 | hj2
    ·rw [List.getElem?_append_left hj2] at hj
     exact hacc j b' hj
    ·rw [List.getElem?_append_right hj2] at hj
     have hjl := (List.getElem?_eq_some_iff.1 hj).1
     simp only [List.length_cons, List.length_nil] at hjl
     have : j = k := by omega
     subst this
     rw [hlen, Nat.sub_self] at hj
     cases hj
     exact hb2
 rw [e]
 exact key (s.Fields.length + 1) 0 [] (Nat.zero_le _) (by omega) rfl fun j b hj => by simp at hj
theorem Bounds_no {s : Ssn} (h : VS s) (ht : ¬ HT s s.Visits) : pBounds s = some ([], 11) := by
 unfold pBounds
 rw [openTrue_no h ht, Option.bind_some, if_neg (by decide)]
end
end Go.Proofs.YtmlaphekbnanjaaGreat

namespace Go.Proofs.YtmlaphekbnanjaaGreat
open _root_.Go.Proofs.Tryz
open Go.Abs Go.Abs.Grow
set_option maxRecDepth 100000
noncomputable section
open Classical in
def SB (s : Ssn) (k : Int) (t : Trh) (i : Nat) : Bool := decide (∀ v, s.Visits[i]? = some v → v.Field = k → inR v.Seen (seenN s (fldAt s k).Crop t v.Week))
theorem pow6 {i : Nat} (h : i ≤ 6) : 2 ^ i ≤ 64 := Nat.le_trans (Nat.pow_le_pow_right (by omega) h) (by decide)
theorem rFull_eq {s : Ssn} (h : s.Visits.length ≤ 6) : prFull s = some (((2 ^ s.Visits.length - 1 : Nat)) : Int) := by
 have hp := pow6 h
 have hp0 : 0 < 2 ^ s.Visits.length := Nat.two_pow_pos _
 have hw : wrapZ .u64 (s.Visits.length : Int) = (s.Visits.length : Int) := wz (show (0 : Int) ≤ s.Visits.length ∧ (s.Visits.length : Int) < 18446744073709551616 by omega)
 have hpow : (1 : Int) * 2 ^ (Int.toNat (wrapZ .u64 (s.Visits.length : Int))) = ((2 ^ s.Visits.length : Nat) : Int) := by rw [hw, Int.toNat_natCast, Int.one_mul, Int.natCast_pow]; rfl
 unfold prFull
 rw [hpow, gd_pos (by omega), hw, gd_pos (by omega), gd_pos (by omega), gd_pos (fI (by omega)), gd_pos (fI (by omega))]
 congr 1
 omega
end
end Go.Proofs.YtmlaphekbnanjaaGreat

namespace Go.Proofs.YtmlaphekbnanjaaGreat
open _root_.Go.Proofs.Tryz
open Go.Abs Go.Abs.Grow
set_option maxRecDepth 100000
noncomputable section
theorem aw : pawake = some true := rfl
def ThinN (s : Ssn) : Prop := s.Rules.length ≤ 5 ∧ s.Fields.length ≤ 5 ∧ s.Visits.length ≤ 9 ∧ (∀ l ∈ s.Rules, l.length ≤ 20) ∧ (faultN s = 0 → ∀ f ∈ s.Fields, manyN f ≤ 200)
def OkS (s : Ssn) : Prop := ∀ l ∈ s.Rules, l.length ≤ maxLen
theorem okS {s : Ssn} (h : ok_Ssn s) : OkS s := fun l hl => (h.2.1.2 l hl).1
theorem thin_ev {s : Ssn} (hR : OkS s) : Ev (plThin s) (ThinN s) := by
 unfold plThin ThinN
 refine Ev.imp (P := ¬ (5 : Int) < (s.Rules.length : Int) ∧ ¬ (5 : Int) < (s.Fields.length : Int) ∧ ¬ (9 : Int) < (s.Visits.length : Int) ∧ (∀ l ∈ s.Rules, l.length ≤ 20) ∧ (faultN s = 0 → ∀ f ∈ s.Fields, manyN f ≤ 200)) (Ev.itn fun h1 => Ev.itn fun h2 => Ev.itn fun h3 => ?_) ⟨fun ⟨a, b, c, d⟩ => ⟨by omega, by omega, by omega, d⟩, fun ⟨a, b, c, d⟩ => ⟨by omega, by omega, by omega, d⟩⟩
 refine Ev.loopE (l := s.Rules) (F := fun d x => plThin_L0 s d false x) (ok := fun l => l.length ≤ 20) (fin := plThin_L1 s (faultN s) 1000000 0) (fun d k l hl => ?_) (fun d => by rw [plThin_L0, if_neg (Int.lt_irrefl _), rFault_eq hR, Option.bind_some]) (by omega) fun _ => ?_
 ·have hk := (List.getElem?_eq_some_iff.1 hl).1
  rw [plThin_L0, if_pos (by omega), idx_at hl, Option.bind_some]
  constructor
  ·intro h; rw [if_neg (by omega), gd_pos (fI (by omega))]
  ·intro h; rw [if_pos (by omega)]
 ·by_cases hf : faultN s = 0
  ·have hv := fault_zero.1 hf
   refine (Ev.loopE (l := s.Fields) (F := plThin_L1 s (faultN s)) (ok := fun f => manyN f ≤ 200) (fin := some true) (P := True) (fun d k f hg => ?_) (fun d => by rw [plThin_L1, if_neg (Int.lt_irrefl _)]) (by omega) fun _ => Ev.tt trivial).imp ⟨fun h _ => h.1, fun h => ⟨h hf, trivial⟩⟩
   have hk := (List.getElem?_eq_some_iff.1 hg).1
   rw [plThin_L1, if_pos (by omega), if_neg (by rw [hf]; simp), idx_at hg, Option.bind_some, rMany_eq (hv.flds f (List.mem_of_getElem? hg)) (not_many hv.many).1, Option.bind_some]
   constructor
   ·intro h; rw [if_neg (by omega), gd_pos (fI (by omega))]
   ·intro h; rw [if_pos (by omega)]
  ·refine (Ev.loopE (l := s.Fields) (F := plThin_L1 s (faultN s)) (ok := fun _ => True) (fin := some true) (P := True) (fun d k f hg => ?_) (fun d => by rw [plThin_L1, if_neg (Int.lt_irrefl _)]) (by omega) fun _ => Ev.tt trivial).imp ⟨fun _ h => absurd h hf, fun _ => ⟨fun _ _ => trivial, trivial⟩⟩
   have hk := (List.getElem?_eq_some_iff.1 hg).1
   rw [plThin_L1, if_pos (by omega), if_pos (by rw [decide_eq_false hf]; rfl), gd_pos (fI (by omega))]
   exact ⟨fun _ => rfl, fun h => absurd trivial h⟩
theorem lSeason_eq {s : Ssn} (h : ThinN s) : plSeason s = some s := by
 obtain ⟨h1, h2, h3, h4, _⟩ := h
 have k1 := loopApp0 (l := s.Rules) (F := fun d acc x => plSeason_L0 s d s.Last acc [] [] x) (fun l : List Int => l) (fun acc => plSeason_L1 s acc 1000000 s.Last [] [] 0) (fun d k acc a ha hac => by
  have hk := (List.getElem?_eq_some_iff.1 ha).1
  have := h4 a (List.mem_of_getElem? ha)
  show plSeason_L0 s (d + 1) _ _ _ _ _ = _
  rw [plSeason_L0, if_pos (by omega), idx_at ha, Option.bind_some]
  unfold plList
  rw [gd_pos (by simp only [List.length_nil]; omega), Option.bind_some, gd_pos (by omega), gd_pos (fI (by omega))]
  rfl) (fun d acc => by show plSeason_L0 s (d + 1) _ _ _ _ _ = _; rw [plSeason_L0, if_neg (Int.lt_irrefl _)]) (d := 1000000) (by omega)
 have k2 := loopApp0 (l := s.Fields) (F := fun d acc x => plSeason_L1 s s.Rules d s.Last acc [] x) (fun f : Fld => f) (fun acc => plSeason_L2 s s.Rules acc 1000000 s.Last [] 0) (fun d k acc a ha hac => by
  have hk := (List.getElem?_eq_some_iff.1 ha).1
  show plSeason_L1 s _ (d + 1) _ _ _ _ = _
  rw [plSeason_L1, if_pos (by omega), idx_at ha, Option.bind_some]
  unfold plTo
  rw [Option.bind_some, Option.bind_some, Option.bind_some, gd_pos (by omega), gd_pos (fI (by omega))]) (fun d acc => by show plSeason_L1 s _ (d + 1) _ _ _ _ = _; rw [plSeason_L1, if_neg (Int.lt_irrefl _)]) (d := 1000000) (by omega)
 have k3 := loopApp0 (l := s.Visits) (F := fun d acc x => plSeason_L2 s s.Rules s.Fields d s.Last acc x) (fun f : Vis => f) (fun acc => some ({ s with Visits := acc } : Ssn)) (fun d k acc a ha hac => by
  have hk := (List.getElem?_eq_some_iff.1 ha).1
  show plSeason_L2 s _ _ (d + 1) _ _ _ = _
  rw [plSeason_L2, if_pos (by omega), idx_at ha, Option.bind_some]
  unfold plTo
  rw [Option.bind_some, gd_pos (by omega), gd_pos (fI (by omega))]) (fun d acc => by show plSeason_L2 s _ _ (d + 1) _ _ _ = _; rw [plSeason_L2, if_neg (Int.lt_irrefl _)]) (d := 1000000) (by omega)
 unfold plSeason
 refine k1.trans ?_
 rw [List.map_id']
 refine k2.trans ?_
 rw [List.map_id']
 refine k3.trans ?_
 rw [List.map_id']
end
end Go.Proofs.YtmlaphekbnanjaaGreat

namespace Go.Proofs.YtmlaphekbnanjaaGreat
open _root_.Go.Proofs.Tryz
open Go.Abs
set_option maxRecDepth 100000
noncomputable section
def Inc (n fr : Nat) (T : List Int) : Prop := T.Pairwise (· < ·) ∧ ∀ v ∈ T, (fr : Int) ≤ v ∧ v < n
theorem Inc.cons {n fr : Nat} {x : Int} {T : List Int} : Inc n fr (x :: T) ↔ ((fr : Int) ≤ x ∧ x < n) ∧ Inc n (x + 1).toNat T := by
 unfold Inc
 rw [List.pairwise_cons]
 constructor
 ·rintro ⟨⟨h1, h2⟩, h3⟩
  have hx := h3 x (List.mem_cons_self ..)
  exact ⟨hx, h2, fun v hv => by have := h1 v hv; have := h3 v (List.mem_cons_of_mem _ hv); omega⟩
 ·rintro ⟨hx, h2, h3⟩
  refine ⟨⟨fun v hv => by have := h3 v hv; omega, h2⟩, fun v hv => ?_⟩
  rcases List.mem_cons.1 hv with rfl | hv
  ·exact hx
  ·have := h3 v hv; omega
theorem mem_combs {n : Nat} {D : List Int} : ∀ {d : Nat} {pre : List Int} {fr : Nat}, D ∈ combs n d pre fr ↔ ∃ T, D = pre ++ T ∧ T.length = d ∧ Inc n fr T
 | 0, pre, fr => by
  show D ∈ [pre] ↔ _
  rw [List.mem_singleton]
  constructor
  ·rintro rfl; exact ⟨[], by simp, rfl, .nil, fun v hv => by cases hv⟩
  ·rintro ⟨T, h1, h2, _⟩
   rw [List.eq_nil_of_length_eq_zero h2, List.append_nil] at h1; exact h1
 | d + 1, pre, fr => by
  show D ∈ rests (fun x => combs n d (pre ++ [(x : Int)]) (x + 1)) (n - fr) fr ↔ _
  rw [mem_rests]
  constructor
  ·rintro ⟨x, h1, h2, h3⟩
   obtain ⟨T, h4, h5, h6⟩ := mem_combs.1 h3
   refine ⟨(x : Int) :: T, by rw [h4]; simp, by simp [h5], Inc.cons.2 ⟨by omega, ?_⟩⟩
   rw [show ((x : Int) + 1).toNat = x + 1 by omega]; exact h6
  ·rintro ⟨T, h1, h2, h3⟩
   cases T with
   | nil => simp at h2
   | cons v T =>
    obtain ⟨h4, h5⟩ := Inc.cons.1 h3
    refine ⟨v.toNat, by omega, by omega, mem_combs.2 ⟨T, ?_, by simpa using h2, ?_⟩⟩
    ·rw [show ((v.toNat : Nat) : Int) = v by omega, h1]; simp
    ·rw [show v.toNat + 1 = (v + 1).toNat by omega]; exact h5
theorem inc_len {n : Nat} : ∀ {T : List Int} {fr : Nat}, Inc n fr T → T.length ≤ n - fr
 | [], _, _ => Nat.zero_le _
 | v :: T, fr, h => by
  obtain ⟨h1, h2⟩ := Inc.cons.1 h
  have := inc_len h2
  simp only [List.length_cons]
  omega
theorem mem_allL {n : Nat} {D : List Int} : D ∈ allL n ↔ Inc n 0 D := by
 unfold allL
 rw [mem_rests]
 constructor
 ·rintro ⟨s, _, _, h⟩
  obtain ⟨T, h1, _, h2⟩ := mem_combs.1 h
  rw [h1]; exact h2
 ·intro h
  have := inc_len h
  exact ⟨D.length, Nat.zero_le _, by omega, mem_combs.2 ⟨D, rfl, rfl, h⟩⟩
def inD (D : List Int) (j : Nat) : Bool := decide ((j : Int) ∈ D)
def bitsF (b : Nat) : Nat → List Int
 | 0 => []
 | p + 1 => bitsF b p ++ (if b.testBit p then [(p : Int)] else [])
def bitsL (b : Nat) : List Int := bitsF b 16
theorem mem_bitsF {b : Nat} {v : Int} : ∀ {p : Nat}, v ∈ bitsF b p ↔ 0 ≤ v ∧ v < p ∧ b.testBit v.toNat = true
 | 0 => ⟨fun h => (by cases h), fun h => by omega⟩
 | p + 1 => by
  show v ∈ bitsF b p ++ _ ↔ _
  rw [List.mem_append, mem_bitsF]
  constructor
  ·rintro (h | h)
   ·exact ⟨h.1, by omega, h.2.2⟩
   ·by_cases hb : b.testBit p = true
    ·rw [if_pos hb, List.mem_singleton] at h
     subst h; exact ⟨by omega, by omega, hb⟩
    ·rw [if_neg hb] at h; cases h
  ·rintro ⟨h1, h2, h3⟩
   by_cases hv : v = (p : Int)
   ·subst hv
    have h4 : b.testBit p = true := h3
    rw [if_pos h4]; exact .inr (List.mem_singleton.2 rfl)
   ·exact .inl ⟨h1, by omega, h3⟩
theorem sorted_bitsF {b : Nat} : ∀ p : Nat, (bitsF b p).Pairwise (· < ·)
 | 0 => .nil
 | p + 1 => by
  show (bitsF b p ++ _).Pairwise _
  rw [List.pairwise_append]
  refine ⟨sorted_bitsF p, ?_, fun a ha c hc => ?_⟩
  ·split
   ·exact List.pairwise_singleton _ _
   ·exact .nil
  ·have := mem_bitsF.1 ha
   split at hc
   ·rw [List.mem_singleton] at hc; omega
   ·cases hc
theorem bitsF_more {b p : Nat} (h : ∀ q, p ≤ q → b.testBit q = false) : ∀ k, bitsF b (p + k) = bitsF b p
 | 0 => rfl
 | k + 1 => by
  show bitsF b (p + k) ++ (if b.testBit (p + k) then _ else _) = _
  rw [h (p + k) (by omega), bitsF_more h k]; simp
theorem lenF {b : Nat} : ∀ p, (bitsF b p).length ≤ p
 | 0 => Nat.le_refl _
 | p + 1 => by
  show (bitsF b p ++ _).length ≤ _
  rw [List.length_append]
  have := lenF (b := b) p
  split <;> simp <;> omega
theorem bit_zero {b p q : Nat} (h : b / 2 ^ p = 0) (hq : p ≤ q) : b.testBit q = false := by
 have h1 : b < 2 ^ p := by
  rcases Nat.lt_or_ge b (2 ^ p) with h2 | h2
  ·exact h2
  ·have := Nat.div_pos h2 (Nat.two_pow_pos p); omega
 exact Nat.testBit_lt_two_pow (Nat.lt_of_lt_of_le h1 (Nat.pow_le_pow_right (by omega) hq))
def bef : List Int → List Int → Bool
 | [], [] => false
 | [], _ :: _ => true
 | _ :: _, [] => false
 | x :: a, y :: b => if x = y then bef a b else decide (x < y)
def shB (a b : List Int) : Bool := decide (a.length < b.length) || (decide (a.length = b.length) && bef a b)
theorem bef_irr : ∀ A : List Int, bef A A = false
 | [] => rfl
 | x :: A => by show (if x = x then bef A A else _) = _; rw [if_pos rfl, bef_irr A]
theorem bef_asym : ∀ {A B : List Int}, bef A B = true → bef B A = false
 | [], [], h => by cases h
 | [], _ :: _, _ => rfl
 | _ :: _, [], h => by cases h
 | x :: A, y :: B, h => by
  have h' : (if x = y then bef A B else decide (x < y)) = true := h
  show (if y = x then bef B A else decide (y < x)) = false
  by_cases hxy : x = y
  ·rw [if_pos hxy] at h'; rw [if_pos hxy.symm]; exact bef_asym h'
  ·rw [if_neg hxy] at h'; rw [if_neg fun h => hxy h.symm]
   have := of_decide_eq_true h'
   exact decide_eq_false (by omega)
theorem shB_irr (A : List Int) : shB A A = false := by unfold shB; rw [decide_eq_false (by omega), bef_irr]; simp
theorem shB_asym {A B : List Int} (h : shB A B = true) : shB B A = false := by
 unfold shB at h ⊢
 rw [Bool.or_eq_true, Bool.and_eq_true, decide_eq_true_eq, decide_eq_true_eq] at h
 rcases h with h | ⟨h1, h2⟩
 ·rw [decide_eq_false (by omega), decide_eq_false (by omega)]; rfl
 ·rw [decide_eq_false (by omega), bef_asym h2]; simp
theorem bef_app (x y : Int) (A B : List Int) (hxy : x < y) : ∀ pre : List Int, bef (pre ++ x :: A) (pre ++ y :: B) = true
 | [] => by show (if x = y then _ else decide (x < y)) = true; rw [if_neg (by omega), decide_eq_true hxy]
 | p :: pre => by show (if p = p then bef (pre ++ x :: A) (pre ++ y :: B) else _) = true; rw [if_pos rfl]; exact bef_app x y A B hxy pre
theorem rests_pairwise {α : Type} {R : α → α → Prop} (g : Nat → List α) (h1 : ∀ x, (g x).Pairwise R) (h2 : ∀ x y, x < y → ∀ a ∈ g x, ∀ b ∈ g y, R a b) : ∀ e x, (rests g e x).Pairwise R
 | 0, _ => .nil
 | e + 1, x => by
  show (g x ++ rests g e (x + 1)).Pairwise R
  rw [List.pairwise_append]
  refine ⟨h1 x, rests_pairwise g h1 h2 e (x + 1), fun a ha b hb => ?_⟩
  obtain ⟨j, h3, _, h4⟩ := (mem_rests g b e (x + 1)).1 hb
  exact h2 x j (by omega) a ha b h4
theorem combs_pairwise {n : Nat} : ∀ (d : Nat) (pre : List Int) (fr : Nat), (combs n d pre fr).Pairwise fun a b => bef a b = true
 | 0, pre, fr => List.pairwise_singleton _ _
 | d + 1, pre, fr => rests_pairwise _ (fun x => combs_pairwise d _ _) (fun x y hxy a ha b hb => by
  obtain ⟨T, h1, _, _⟩ := mem_combs.1 ha
  obtain ⟨T', h2, _, _⟩ := mem_combs.1 hb
  rw [h1, h2, List.append_assoc, List.append_assoc]
  exact bef_app _ _ _ _ (by omega) pre) _ _
theorem allL_pairwise (n : Nat) : (allL n).Pairwise fun a b => shB a b = true :=
 rests_pairwise _ (fun s => (combs_pairwise s [] 0).imp_of_mem fun {a b} ha hb hab => by
  have h1 := combs_len ha
  have h2 := combs_len hb
  unfold shB
  rw [hab, decide_eq_true (show a.length = b.length by omega)]; simp) (fun s s' hs a ha b hb => by
  have h1 := combs_len ha
  have h2 := combs_len hb
  unfold shB
  rw [decide_eq_true (by omega)]; rfl) _ _
theorem find_min {t : List Int → Bool} : ∀ {l : List (List Int)}, l.Pairwise (fun a b => shB a b = true) → ∀ {D D' : List Int}, l.find? t = some D → D' ∈ l → t D' = true → D' = D ∨ shB D D' = true
 | [], _, _, _, h, _, _ => by cases h
 | a :: l, hp, D, D', h, hm, ht => by
  rw [List.pairwise_cons] at hp
  rw [List.find?_cons] at h
  cases hta : t a with
  | true =>
   rw [hta] at h
   have : a = D := Option.some.inj h
   subst this
   rcases List.mem_cons.1 hm with rfl | h1
   ·exact .inl rfl
   ·exact .inr (hp.1 _ h1)
  | false =>
   rw [hta] at h
   rcases List.mem_cons.1 hm with rfl | h1
   ·rw [hta] at ht; cases ht
   ·exact find_min hp.2 h h1 ht
theorem shortL_spec {n : Nat} {t : List Int → Bool} (h : ∃ D, Inc n 0 D ∧ t D = true) : Inc n 0 (shortL n t) ∧ t (shortL n t) = true ∧ ∀ D, Inc n 0 D → t D = true → D = shortL n t ∨ shB (shortL n t) D = true := by
 obtain ⟨D0, h1, h2⟩ := h
 unfold shortL
 cases hf : (allL n).find? t with
 | none => exact absurd h2 (by have := List.find?_eq_none.1 hf D0 (mem_allL.2 h1); simpa using this)
 | some D => exact ⟨mem_allL.1 (List.mem_of_find?_eq_some hf), List.find?_some hf, fun D' h3 h4 => find_min (allL_pairwise n) hf (mem_allL.2 h3) h4⟩
theorem bits_inc {n b : Nat} (_hn : n ≤ 16) (hb : b < 2 ^ n) : Inc n 0 (bitsL b) :=
 ⟨sorted_bitsF 16, fun v hv => by
  obtain ⟨h1, h2, h3⟩ := mem_bitsF.1 hv
  refine ⟨by omega, ?_⟩
  by_cases h4 : v < n
  ·exact h4
  ·have := Nat.testBit_lt_two_pow (Nat.lt_of_lt_of_le hb (Nat.pow_le_pow_right (by omega) (show n ≤ v.toNat by omega)))
   rw [this] at h3; cases h3⟩
theorem inD_bits {n b k : Nat} (hn : n ≤ 16) (hk : k < n) : inD (bitsL b) k = b.testBit k := by
 unfold inD
 have : ((k : Nat) : Int) ∈ bitsL b ↔ b.testBit k = true := by
  unfold bitsL
  rw [mem_bitsF]
  exact ⟨fun h => h.2.2, fun h => ⟨by omega, by omega, h⟩⟩
 cases hb : b.testBit k with
 | true => exact decide_eq_true (this.2 hb)
 | false => exact decide_eq_false fun h => by rw [this.1 h] at hb; cases hb
end
end Go.Proofs.YtmlaphekbnanjaaGreat

namespace Go.Proofs.YtmlaphekbnanjaaGreat
open _root_.Go.Proofs.Tryz
open Go.Abs Go.Abs.Grow
set_option maxRecDepth 100000
noncomputable section
theorem wu {n : Nat} (h : n ≤ 64) : wrapZ .u64 (n : Int) = (n : Int) := wz (show (0 : Int) ≤ n ∧ (n : Int) < 18446744073709551616 by omega)
theorem rBits_go {b : Nat} (hb : b < 65536) : ∀ (d p : Nat) (acc : List Int), p ≤ 16 → 16 - p < d → acc = bitsF b p → prBits_L0 (b : Int) d acc (p : Int) = some (bitsL b)
 | 0, _, _, _, h, _ => by omega
 | d + 1, p, acc, hp, h, ha => by
  have hle : b / 2 ^ p ≤ b := Nat.div_le_self _ _
  rw [prBits_L0, wu (show p ≤ 64 by omega)]
  have hq : (b : Int) / 2 ^ ((p : Int)).toNat = ((b / 2 ^ p : Nat) : Int) := by rw [Int.toNat_natCast]; simp
  rw [hq]
  clear hq
  have hl := lenF (b := b) p
  have hbit : b.testBit p = decide (b / 2 ^ p % 2 = 1) := Nat.testBit_eq_decide_div_mod_eq ..
  have h16 : p = 16 → b / 2 ^ p = 0 := fun he => by subst he; exact Nat.div_eq_of_lt (by omega)
  have h0' : b / 2 ^ p = 0 → bitsF b p = bitsL b := fun h9 => by
   have := bitsF_more (b := b) (p := p) (fun q hq => bit_zero h9 hq) (16 - p)
   rw [show p + (16 - p) = 16 by omega] at this
   exact this.symm
  generalize b / 2 ^ p = q at hle hbit h16 h0' ⊢
  rw [gd_pos (by omega), gd_pos (by omega), gd_pos (by omega), gd_pos (fI (by omega))]
  by_cases h0 : 0 < q
  ·have hp16 : p < 16 := by
    rcases Nat.lt_or_ge p 16 with h1 | h1
    ·exact h1
    ·have := h16 (by omega); omega
   rw [if_pos (by omega), gd_pos (by omega), gd_pos (by omega), gd_pos (by omega), gd_pos (fI (by omega)), gd_pos (by omega), gd_pos (by omega), gd_pos (fI (by omega))]
   by_cases h1 : q % 2 = 1
   ·rw [if_pos (by omega), gd_pos (show acc.length < 1048576 by rw [ha]; omega), gd_pos (fI (by omega)), show (p : Int) + 1 = ((p + 1 : Nat) : Int) by omega]
    refine rBits_go hb d (p + 1) _ (by omega) (by omega) ?_
    show _ = bitsF b p ++ (if b.testBit p then [(p : Int)] else [])
    rw [ha, hbit, h1]; rfl
   ·rw [if_neg (by omega), gd_pos (fI (by omega)), show (p : Int) + 1 = ((p + 1 : Nat) : Int) by omega]
    refine rBits_go hb d (p + 1) _ (by omega) (by omega) ?_
    show _ = bitsF b p ++ (if b.testBit p then [(p : Int)] else [])
    rw [ha, hbit, decide_eq_false h1]; simp
  ·rw [if_neg (by omega), ha]
   exact congrArg some (h0' (by omega))
theorem rBits_eq {b : Nat} (hb : b < 65536) : prBits (b : Int) = some (bitsL b) := rBits_go hb 1000000 0 [] (Nat.zero_le _) (by omega) rfl
theorem rBefore_go {a b : List Int} (hl : a.length ≤ 1000) : ∀ (d k : Nat), k ≤ a.length → a.length - k < d → prBefore_L0 a b d (k : Int) = some (bef (a.drop k) (b.drop k))
 | 0, _, _, h => by omega
 | d + 1, k, hk, h => by
  rw [prBefore_L0]
  by_cases hka : k < a.length
  ·rw [if_pos (by omega)]
   have da := List.drop_eq_getElem_cons hka
   have ga := List.getElem?_eq_getElem hka
   by_cases hkb : k < b.length
   ·have db := List.drop_eq_getElem_cons hkb
    have gb := List.getElem?_eq_getElem hkb
    rw [if_pos (by omega), idx_at ga, Option.bind_some, idx_at gb, Option.bind_some, da, db]
    unfold bef
    by_cases he : a[k] = b[k]
    ·rw [if_pos he, if_pos he, gd_pos (fI (by omega)), show (k : Int) + 1 = ((k + 1 : Nat) : Int) by omega]
     exact rBefore_go hl d (k + 1) (by omega) (by omega)
    ·rw [if_neg he, if_neg he, Option.bind_some, Option.bind_some]
   ·rw [if_neg (by omega), da, List.drop_eq_nil_of_le (show b.length ≤ k by omega), decide_eq_false (by omega)]; rfl
  ·rw [if_neg (by omega), List.drop_eq_nil_of_le (show a.length ≤ k by omega)]
   by_cases hkb : k < b.length
   ·rw [List.drop_eq_getElem_cons hkb, decide_eq_true (by omega)]; rfl
   ·rw [List.drop_eq_nil_of_le (show b.length ≤ k by omega), decide_eq_false (by omega)]; rfl
theorem rBefore_eq {a b : List Int} (hl : a.length ≤ 1000) : prBefore a b = some (bef a b) := rBefore_go hl (a.length + 1) 0 (Nat.zero_le _) (by omega)
theorem rShorter_eq {a b : List Int} (hl : a.length ≤ 1000) : prShorter a b = some (shB a b) := by
 unfold prShorter shB
 by_cases h1 : a.length < b.length
 ·rw [if_pos (by omega), decide_eq_true h1]; rfl
 ·rw [if_neg (by omega), decide_eq_false h1]
  by_cases h2 : a.length = b.length
  ·rw [if_pos (by omega), rBefore_eq hl, decide_eq_true h2]; simp
  ·rw [if_neg (by omega), decide_eq_false h2]; simp
def allI (n : Nat) : List Int := (List.range n).map fun j => ((j : Nat) : Int)
theorem all_inc (n : Nat) : Inc n 0 (allI n) := by
 refine ⟨?_, fun v hv => ?_⟩
 ·unfold allI
  rw [List.pairwise_map]
  exact List.pairwise_lt_range.imp fun h => by omega
 ·obtain ⟨j, hj, rfl⟩ := List.mem_map.1 hv
  have := List.mem_range.1 hj
  omega
theorem all_in {n j : Nat} (h : j < n) : inD (allI n) j = true := decide_eq_true (List.mem_map.2 ⟨j, List.mem_range.2 h, rfl⟩)
theorem len_bits {b : Nat} : (bitsL b).length ≤ 16 := lenF 16
structure MinP (n : Nat) (P : (Nat → Bool) → Prop) (M : List Int) : Prop where
 inc : Inc n 0 M
 ok : P (inD M)
 min : ∀ D, Inc n 0 D → P (inD D) → D = M ∨ shB M D = true
def PL (s : Ssn) (S : Nat → Bool) : Prop := ∀ k, FieldOk s k → ∃ t, IsT (fldAt s k) t ∧ ∀ j, j < s.Visits.length → S j = false → SB s k t j = true
theorem PL.congr {s : Ssn} {S S' : Nat → Bool} (h : ∀ j, j < s.Visits.length → S j = S' j) : PL s S ↔ PL s S' := by
 unfold PL
 refine forall_congr' fun k => forall_congr' fun _ => exists_congr fun t => and_congr Iff.rfl ?_
 exact ⟨fun f j hj hs => f j hj (by rw [h j hj]; exact hs), fun f j hj hs => f j hj (by rw [← h j hj]; exact hs)⟩
theorem isT_ex {s : Ssn} {f : Fld} (h : VF s f) : ∃ t, IsT f t := by
 have a := h.wk; have b := h.dm; have c := h.old
 unfold Wi at a b c
 exact ⟨⟨f.Week.Lo, f.Damage.Lo, f.Old.Lo⟩, ⟨Int.le_refl _, a.2.1⟩, ⟨Int.le_refl _, b.2.1⟩, ⟨Int.le_refl _, c.2.1⟩⟩
theorem PL_all {s : Ssn} (h : VS s) : PL s (inD (allI s.Visits.length)) := fun k hk => by
 obtain ⟨t, ht⟩ := isT_ex (h.vf hk)
 exact ⟨t, ht, fun j hj hs => by rw [all_in hj] at hs; cases hs⟩
def kpF : List Vis → Nat → (Nat → Bool) → List Vis
 | [], _, _ => []
 | v :: V, i, S => if S i = true then v :: kpF V (i + 1) S else kpF V (i + 1) S
theorem mem_kpF {S : Nat → Bool} {v : Vis} : ∀ (V : List Vis) (i : Nat), v ∈ kpF V i S ↔ ∃ j, V[j]? = some v ∧ S (i + j) = true
 | [], i => by simp [kpF]
 | a :: V, i => by
  have ih := mem_kpF (S := S) (v := v) V (i + 1)
  have e : (∃ j, (a :: V)[j]? = some v ∧ S (i + j) = true) ↔ (a = v ∧ S i = true) ∨ ∃ j, V[j]? = some v ∧ S (i + 1 + j) = true := by
   constructor
   ·rintro ⟨j, h1, h2⟩
    cases j with
    | zero => exact .inl ⟨by simpa using h1, h2⟩
    | succ j => exact .inr ⟨j, by simpa using h1, by rw [show i + 1 + j = i + (j + 1) by omega]; exact h2⟩
   ·rintro (⟨h1, h2⟩ | ⟨j, h1, h2⟩)
    ·exact ⟨0, by simpa using h1, h2⟩
    ·exact ⟨j + 1, by simpa using h1, by rw [show i + (j + 1) = i + 1 + j by omega]; exact h2⟩
  rw [e]
  unfold kpF
  by_cases hs : S i = true
  ·rw [if_pos hs, List.mem_cons, ih]
   exact or_congr ⟨fun h => ⟨h.symm, hs⟩, fun h => h.1.symm⟩ Iff.rfl
  ·rw [if_neg hs, ih]
   exact ⟨.inr, fun h => h.elim (fun h => absurd h.2 hs) id⟩
theorem kpF_len {S : Nat → Bool} : ∀ (V : List Vis) (i : Nat), (kpF V i S).length ≤ V.length
 | [], _ => Nat.le_refl _
 | a :: V, i => by
  have := kpF_len (S := S) V (i + 1)
  unfold kpF
  split <;> simp only [List.length_cons] <;> omega
open Classical in
theorem ht_kpF {s : Ssn} {S : Nat → Bool} : HT s (kpF s.Visits 0 S) ↔ PL s fun j => !S j := by
 unfold HT HTf TR PL
 refine forall_congr' fun k => forall_congr' fun _ => exists_congr fun t => and_congr Iff.rfl ?_
 unfold okV SB
 constructor
 ·intro h j hj hs
  rw [decide_eq_true_eq]
  intro v hv hvk
  exact h v ((mem_kpF _ _).2 ⟨j, hv, by rw [Nat.zero_add]; simpa using hs⟩) hvk
 ·intro h v hv hvk
  obtain ⟨j, h1, h2⟩ := (mem_kpF _ _).1 hv
  rw [Nat.zero_add] at h2
  have := h j (List.getElem?_eq_some_iff.1 h1).1 (by show (!S j) = false; rw [h2]; rfl)
  rw [decide_eq_true_eq] at this
  exact this v h1 hvk
theorem contains_ev {l : List Int} (hl : l.length ≤ 1000) {x : Int} : Ev (pcontains l x) (x ∈ l) := by
 have key : ∀ (d k : Nat), k ≤ l.length → l.length - k < d → ∃ r, pindexOf_L0 l x d (k : Int) = some r ∧ (0 ≤ r ↔ x ∈ l.drop k) := by
  intro d
  induction d with
  | zero => intro k _ h; omega
  | succ d ih =>
   intro k hk hd
   unfold pindexOf_L0
   by_cases hkn : k = l.length
   ·subst hkn
    rw [if_neg (Int.lt_irrefl _), List.drop_length]
    exact ⟨_, rfl, by simp⟩
   ·have hlt : k < l.length := by omega
    rw [if_pos (by omega), idx_at (List.getElem?_eq_getElem hlt), Option.bind_some, List.drop_eq_getElem_cons hlt]
    by_cases he : x = l[k]
    ·rw [if_pos he]
     exact ⟨_, rfl, ⟨fun _ => by rw [he]; exact List.mem_cons_self .., fun _ => by omega⟩⟩
    ·rw [if_neg he, gd_pos (fI (by omega)), show (k : Int) + 1 = ((k + 1 : Nat) : Int) by omega]
     obtain ⟨r, q1, q2⟩ := ih (k + 1) (by omega) (by omega)
     exact ⟨r, q1, q2.trans ⟨fun h => List.mem_cons_of_mem _ h, fun h => (List.mem_cons.1 h).elim (fun h => absurd h he) id⟩⟩
 obtain ⟨r, q1, q2⟩ := key (l.length + 1) 0 (Nat.zero_le _) (by omega)
 have q1 : pindexOf_L0 l x (l.length + 1) 0 = some r := q1
 unfold pcontains pindexOf
 rw [q1, Option.bind_some]
 rw [List.drop_zero] at q2
 exact Ev.dec q2
theorem canLeave_ev {s : Ssn} {W : Wk} (h : WOk s s.Visits W) {D : List Int} (hD : D.length ≤ 1000) : Ev (pcanLeave W D) (PL s (inD D)) := by
 obtain ⟨_, _, _, h4⟩ := not_many h.vs.many
 have e : W.s = s := h.ss
 obtain ⟨R, hR⟩ : ∃ R, R = kpF s.Visits 0 (fun j => !inD D j) := ⟨_, rfl⟩
 have key : ∀ (d i : Nat) (acc : List Vis), i ≤ s.Visits.length → s.Visits.length - i < d → acc.length ≤ i → Ev (pcanLeave_L0 W D d acc (i : Int)) (PL s (inD D)) ∨ ¬ (acc ++ kpF (s.Visits.drop i) i (fun j => !inD D j) = R) := by
  intro d
  induction d with
  | zero => intro i acc _ h; omega
  | succ d ih =>
   intro i acc hi hd ha
   by_cases hq : acc ++ kpF (s.Visits.drop i) i (fun j => !inD D j) = R
   ·refine .inl ?_
    unfold pcanLeave_L0
    rw [e]
    by_cases hin : i = s.Visits.length
    ·rw [if_neg (by omega)]
     rw [hin, List.drop_length] at hq
     have hq : acc = kpF s.Visits 0 (fun j => !inD D j) := by rw [← hR, ← hq]; simp [kpF]
     obtain ⟨W', w1, w2⟩ := h.wth (V' := acc) (fun v hv => by
      rw [hq] at hv
      obtain ⟨j, h1, _⟩ := (mem_kpF _ _).1 hv
      exact h.vs.vis v (List.mem_of_getElem? h1)) (by rw [hq]; exact Nat.le_trans (kpF_len _ _) h4)
     rw [w1, Option.bind_some]
     refine (hasTruth_ev w2).ret.imp ?_
     rw [hq, ht_kpF]
     exact PL.congr fun j _ => by simp
    ·have hlt : i < s.Visits.length := by omega
     have hg := List.getElem?_eq_getElem hlt
     rw [List.drop_eq_getElem_cons hlt] at hq
     rw [if_pos (by omega), idx_at hg, Option.bind_some]
     generalize s.Visits[i] = v at hg hq
     rw [kpF] at hq
     obtain ⟨b, c1, c2⟩ := contains_ev hD (x := (i : Int))
     rw [c1, Option.bind_some]
     cases b with
     | true =>
      have hin' : inD D i = true := decide_eq_true (c2.1 rfl)
      rw [if_neg (by rw [hin']; simp)] at hq
      rw [if_pos rfl, gd_pos (fI (by omega)), show (i : Int) + 1 = ((i + 1 : Nat) : Int) by omega]
      rcases ih (i + 1) acc (by omega) (by omega) (by omega) with h1 | h1
      ·exact h1
      ·exact absurd hq h1
     | false =>
      have hin' : inD D i = false := decide_eq_false fun hh => by have := c2.2 hh; cases this
      rw [if_pos (by rw [hin']; rfl)] at hq
      rw [if_neg (by simp), gd_pos (by omega), gd_pos (fI (by omega)), show (i : Int) + 1 = ((i + 1 : Nat) : Int) by omega]
      rcases ih (i + 1) (acc ++ [v]) (by omega) (by omega) (by simp; omega) with h1 | h1
      ·exact h1
      ·exact absurd (by rw [List.append_assoc]; exact hq) h1
   ·exact .inr hq
 unfold pcanLeave
 rw [e]
 rcases key (s.Visits.length + 1) 0 [] (Nat.zero_le _) (by omega) (Nat.le_refl _) with h1 | h1
 ·exact h1
 ·exact absurd (by rw [List.drop_zero, List.nil_append, hR]) h1
theorem Leave_eq {s : Ssn} (h : VS s) : ∃ M, pLeave s = some (M, 0) ∧ MinP s.Visits.length (PL s) M := by
 obtain ⟨m, h1, h2⟩ := open_eq h
 have hw := WOk.of h h2
 obtain ⟨_, _, _, h4⟩ := not_many h.many
 have ht : ∀ D, Inc s.Visits.length 0 D → ((pcanLeave ⟨s, m⟩ D).getD false = true ↔ PL s (inD D)) := fun D hD => by
  obtain ⟨b, q1, q2⟩ := canLeave_ev hw (D := D) (by have := inc_len hD; omega)
  rw [q1]; exact q2
 obtain ⟨s1, s2, s3⟩ := shortL_spec (n := s.Visits.length) (t := fun L => (pcanLeave ⟨s, m⟩ L).getD false) ⟨allI s.Visits.length, all_inc _, (ht _ (all_inc _)).2 (PL_all h)⟩
 refine ⟨shortL s.Visits.length fun L => (pcanLeave ⟨s, m⟩ L).getD false, ?_, s1, (ht _ s1).1 s2, fun D hD hD2 => s3 D hD ((ht D hD).2 hD2)⟩
 unfold pLeave pshortest
 rw [check_eq, fault_zero.2 h, Option.bind_some, if_pos rfl, h1, Option.bind_some, gd_pos ⟨by omega, by omega, fun L hL => by
  have hI : Inc s.Visits.length 0 L := by rw [Int.toNat_natCast] at hL; exact mem_allL.1 hL
  obtain ⟨b, q1, _⟩ := canLeave_ev hw (D := L) (by have := inc_len hI; omega)
  show (pcanLeave ⟨s, m⟩ L).isSome = true
  rw [q1]; rfl⟩, Option.bind_some, Int.toNat_natCast]
end
end Go.Proofs.YtmlaphekbnanjaaGreat

namespace Go.Proofs.YtmlaphekbnanjaaGreat
open _root_.Go.Proofs.Tryz
open Go.Abs Go.Abs.Grow
set_option maxRecDepth 100000
noncomputable section
theorem PL_bits {s : Ssn} (h : VS s) {b : Nat} : PL s (inD (bitsL b)) ↔ PL s fun j => b.testBit j := PL.congr fun j hj => inD_bits (n := s.Visits.length) (by have := (not_many h.many).2.2.2; omega) hj
theorem clear_bit {n b : Nat} (_hb : b < 2 ^ n) : Nat.xor (2 ^ n - 1) (Nat.land (2 ^ n - 1) b) < 2 ^ n ∧ ∀ j, j < n → (Nat.xor (2 ^ n - 1) (Nat.land (2 ^ n - 1) b)).testBit j = !b.testBit j := by
 have e : ∀ j, (Nat.xor (2 ^ n - 1) (Nat.land (2 ^ n - 1) b)).testBit j = (decide (j < n) ^^ (decide (j < n) && b.testBit j)) := fun j => by
  show ((2 ^ n - 1) ^^^ ((2 ^ n - 1) &&& b)).testBit j = _
  rw [Nat.testBit_xor, Nat.testBit_and, Nat.testBit_two_pow_sub_one]
 refine ⟨Nat.lt_pow_two_of_testBit _ fun j hj => ?_, fun j hj => ?_⟩
 ·rw [e, decide_eq_false (by omega)]; rfl
 ·rw [e, decide_eq_true hj]
  cases b.testBit j <;> rfl
end
end Go.Proofs.YtmlaphekbnanjaaGreat

namespace Go.Proofs.YtmlaphekbnanjaaGreat
open _root_.Go.Proofs.Tryz
open Go.Abs Go.Abs.Grow
set_option maxRecDepth 100000
noncomputable section
theorem ready_ev {s : Ssn} (hR : OkS s) : Ev (plReady s) (ThinN s ∧ VS s) := by
 unfold plReady
 refine Ev.and (thin_ev hR) fun _ => ?_
 rw [rFault_eq hR, Option.bind_some]
 exact Ev.dec fault_zero
def wV (s : Ssn) (V : List Vis) : Ssn := { s with Visits := V }
theorem some_go {s : Ssn} (hn : s.Visits.length ≤ 6) {b : Nat} (hb : b < 65536) : ∀ (d i : Nat) (acc : List Vis), i ≤ s.Visits.length → s.Visits.length - i < d → acc.length ≤ i →
  plSome_L0 s (b : Int) d s.Last acc (i : Int) = some (wV s (acc ++ kpF (s.Visits.drop i) i fun j => b.testBit j))
 | 0, i, _, _, h, _ => by omega
 | d + 1, i, acc, hi, hd, ha => by
  unfold plSome_L0
  by_cases hin : i = s.Visits.length
  ·rw [if_neg (by omega), hin, List.drop_length]
   unfold kpF wV
   rw [List.append_nil]
  have hlt : i < s.Visits.length := by omega
  have hg := List.getElem?_eq_getElem hlt
  rw [List.drop_eq_getElem_cons hlt]
  generalize s.Visits[i] = v at hg
  have hle : b / 2 ^ i ≤ b := Nat.div_le_self _ _
  have hbit : b.testBit i = decide (b / 2 ^ i % 2 = 1) := Nat.testBit_eq_decide_div_mod_eq ..
  have hq : (b : Int) / 2 ^ (Int.toNat (i : Int)) = ((b / 2 ^ i : Nat) : Int) := by rw [Int.toNat_natCast]; simp
  rw [if_pos (by omega), gd_pos (by omega), wu (show i ≤ 64 by omega), gd_pos (by omega), gd_pos (by omega), hq]
  clear hq
  generalize b / 2 ^ i = q at *
  rw [gd_pos (fI (by omega)), gd_pos (by omega), gd_pos (by omega), gd_pos (fI (by omega)), kpF]
  by_cases h1 : q % 2 = 1
  ·rw [if_pos (by omega), idx_at hg, Option.bind_some, gd_pos (by omega), gd_pos (fI (by omega)), show (i : Int) + 1 = ((i + 1 : Nat) : Int) by omega, some_go hn hb d (i + 1) (acc ++ [v]) (by omega) (by omega) (by simp; omega), if_pos (by rw [hbit, decide_eq_true h1]), List.append_assoc]
   rfl
  ·rw [if_neg (by omega), gd_pos (fI (by omega)), show (i : Int) + 1 = ((i + 1 : Nat) : Int) by omega, some_go hn hb d (i + 1) acc (by omega) (by omega) (by omega), if_neg (by rw [hbit, decide_eq_false h1]; simp)]
theorem some_eq {s : Ssn} (hn : s.Visits.length ≤ 6) {b : Nat} (hb : b < 65536) : plSome s (b : Int) = some (wV s (kpF s.Visits 0 fun j => b.testBit j)) := by
 have := some_go hn hb 1000000 0 [] (Nat.zero_le _) (by omega) (Nat.le_refl _)
 rw [List.drop_zero, List.nil_append] at this
 exact this
theorem wV_vs {s : Ssn} (h : VS s) {V : List Vis} (hv : ∀ v ∈ V, VV s v) (hn : V.length ≤ 6) : VS (wV s V) := by
 refine ⟨⟨h.last, h.rne, h.fne, h.rules, fun f hf => ?_, hv⟩, ?_, h.few⟩
 ·have := h.flds f hf
  exact ⟨this.crp, this.wk, this.dm, this.old⟩
 ·have := not_many h.many
  unfold ManyS wV
  dsimp only
  omega
theorem wV_thin {s : Ssn} (h : VS s) (ht : ThinN s) {V : List Vis} (hn : V.length ≤ 6) : ThinN (wV s V) :=
 ⟨ht.1, ht.2.1, by show V.length ≤ 9; omega, ht.2.2.2.1, fun _ => ht.2.2.2.2 (fault_zero.2 h)⟩
theorem wV_HT {s : Ssn} {V V' : List Vis} : HT (wV s V) V' ↔ HT s V' := Iff.rfl
theorem kp_ok {s : Ssn} (h : VS s) {S : Nat → Bool} : (∀ v ∈ kpF s.Visits 0 S, VV s v) ∧ (kpF s.Visits 0 S).length ≤ 6 := by
 refine ⟨fun v hv => ?_, Nat.le_trans (kpF_len _ _) (not_many h.many).2.2.2⟩
 obtain ⟨j, h1, _⟩ := (mem_kpF _ _).1 hv
 exact h.vis v (List.mem_of_getElem? h1)
open Classical in
theorem bounds_some {s : Ssn} (h : VS s) {S : Nat → Bool} : ∃ l, pBounds (wV s (kpF s.Visits 0 S)) = some (l, if PL s (fun j => !S j) then 0 else 11) := by
 obtain ⟨k1, k2⟩ := kp_ok h (S := S)
 have hv := wV_vs h k1 k2
 by_cases hT : PL s (fun j => !S j)
 ·obtain ⟨l, h1, _⟩ := Bounds_ok hv (wV_HT.2 (ht_kpF.2 hT))
  rw [if_pos hT]
  exact ⟨l, h1⟩
 ·rw [if_neg hT]
  exact ⟨_, Bounds_no hv fun q => hT (ht_kpF.1 (wV_HT.1 q))⟩
theorem or_bit {M : List Int} {n : Nat} (hI : Inc n 0 M) {i : Nat} (hi : i < M.length) {b : Nat} (hb : b < 2 ^ n) (hb2 : ∀ j, j < n → b.testBit j = decide ((j : Int) ∈ M.take i)) :
  (Nat.lor b (2 ^ (M[i]).toNat)) < 2 ^ n ∧ ∀ j, j < n → (Nat.lor b (2 ^ (M[i]).toNat)).testBit j = decide ((j : Int) ∈ M.take (i + 1)) := by
 have hx := hI.2 _ (List.getElem_mem hi)
 have e : ∀ j, (Nat.lor b (2 ^ (M[i]).toNat)).testBit j = (b.testBit j || decide ((M[i]).toNat = j)) := fun j => by
  show (b ||| 2 ^ _).testBit j = _
  rw [Nat.testBit_or, Nat.testBit_two_pow]
 refine ⟨Nat.lt_pow_two_of_testBit _ fun j hj => ?_, fun j hj => ?_⟩
 ·rw [e, Nat.testBit_lt_two_pow (Nat.lt_of_lt_of_le hb (Nat.pow_le_pow_right (by omega) hj)), decide_eq_false (by omega)]; rfl
 ·rw [e, hb2 j hj, List.take_add_one, List.getElem?_eq_getElem hi]
  rw [← Bool.decide_or]
  refine decide_eq_decide.2 ?_
  rw [List.mem_append]
  refine or_congr Iff.rfl ?_
  simp only [Option.toList_some, List.mem_singleton]
  omega
theorem left_go {s : Ssn} (h : VS s) {tried : Int} {M : List Int} (hI : Inc s.Visits.length 0 M) {X : Option Bool} (hX : ∀ b : Nat, b < 2 ^ s.Visits.length → (∀ j, j < s.Visits.length → b.testBit j = inD M j) → ∀ d, pGrowthLeft_L0 s tried (M, 0) (d + 1) (b : Int) (M.length : Int) = X) : ∀ (d i b : Nat), i ≤ M.length → M.length - i < d → b < 2 ^ s.Visits.length → (∀ j, j < s.Visits.length → b.testBit j = decide ((j : Int) ∈ M.take i)) →
  pGrowthLeft_L0 s tried (M, 0) d (b : Int) (i : Int) = X
 | 0, i, _, _, h, _, _ => by omega
 | d + 1, i, b, hi, hd, hb, hb2 => by
  have hM := inc_len hI
  obtain ⟨_, _, _, h4⟩ := not_many h.many
  by_cases hin : i = M.length
  ·subst hin
   rw [List.take_length] at hb2
   exact hX b hb hb2 d
  have hlt : i < M.length := by omega
  have hg := List.getElem?_eq_getElem hlt
  have hx := hI.2 _ (List.getElem_mem hlt)
  obtain ⟨o1, o2⟩ := or_bit hI hlt hb hb2
  have hpw : (1 : Int) * 2 ^ (Int.toNat (wrapZ .u64 M[i])) = ((2 ^ (M[i]).toNat : Nat) : Int) := by
   rw [show wrapZ .u64 M[i] = M[i] from wz (show (0 : Int) ≤ M[i] ∧ M[i] < 18446744073709551616 by omega), Int.one_mul]; simp
  have hp := pow6 (i := (M[i]).toNat) (by omega)
  have hp6 := pow6 h4
  have hw : wrapZ .u64 M[i] = M[i] := wz (show (0 : Int) ≤ M[i] ∧ M[i] < 18446744073709551616 by omega)
  have hpre : ∀ j, j + 1 = i → ∃ y, M[j]? = some y ∧ y < M[i] := fun j hj => by
   have hjl : j < M.length := by omega
   exact ⟨_, List.getElem?_eq_getElem hjl, List.pairwise_iff_getElem.1 hI.1 j i hjl hlt (by omega)⟩
  have ih := left_go h hI hX d (i + 1) (Nat.lor b (2 ^ (M[i]).toNat)) (by omega) (by omega) o1 o2
  generalize M[i] = x at *
  unfold pGrowthLeft_L0
  dsimp only
  rw [if_pos (by omega), idx_at hg, Option.bind_some, if_neg (by omega), Option.bind_some, if_neg (by omega)]
  have hend : (gd ((0 : Int) ≤ (1 : Int)) (gd ((0 : Int) ≤ (wrapZ .u64 x)) (gd ((wrapZ .u64 x) ≤ (64 : Int)) (gd (fitsP .i64 ((1 : Int) * ((2 : Int) ^ (Int.toNat (wrapZ .u64 x))))) (gd ((0 : Int) ≤ (b : Int)) (gd ((0 : Int) ≤ ((1 : Int) * ((2 : Int) ^ (Int.toNat (wrapZ .u64 x))))) (gd (fitsP .i64 (b : Int)) (gd (fitsP .i64 ((1 : Int) * ((2 : Int) ^ (Int.toNat (wrapZ .u64 x))))) (gd (fitsP .i64 (((Nat.lor (Int.toNat (b : Int)) (Int.toNat ((1 : Int) * ((2 : Int) ^ (Int.toNat (wrapZ .u64 x)))))) : Nat) : Int)) (gd (fitsP .i64 ((i : Int) + (1 : Int))) (pGrowthLeft_L0 s tried (M, 0) d (((Nat.lor (Int.toNat (b : Int)) (Int.toNat ((1 : Int) * ((2 : Int) ^ (Int.toNat (wrapZ .u64 x)))))) : Nat) : Int) ((i : Int) + (1 : Int))))))))))))) = X := by
   rw [hpw, Int.toNat_natCast, Int.toNat_natCast, hw]
   generalize hpg : 2 ^ x.toNat = P at *
   rw [gd_pos (by omega), gd_pos (by omega), gd_pos (by omega), gd_pos (fI (by omega)), gd_pos (by omega), gd_pos (by omega), gd_pos (fI (by omega)), gd_pos (fI (by omega)), gd_pos (fI (by omega)), gd_pos (fI (by omega))]
   exact ih
  by_cases h0 : 0 < i
  ·obtain ⟨y, y1, y2⟩ := hpre (i - 1) (by omega)
   rw [if_pos (by omega), Option.bind_some, gd_pos (fI (by omega)), idx_pred h0 y1, Option.bind_some, if_neg (by omega), Option.bind_some]
   exact hend
  ·rw [if_neg (by omega), Option.bind_some]
   exact hend
theorem m_GrowthLeft {s : Ssn} {tried : Int} (hs : ok_Ssn s) (htr : fitsP .u8 tried) : pGrowthLeft s tried = some true := by
 have hR := okS hs
 unfold pGrowthLeft
 refine (ready_ev hR).pick (fun ⟨ht, h⟩ => ?_) fun _ => by rw [if_neg (by simp), aw, Option.bind_some]
 obtain ⟨M, q1, q2⟩ := Leave_eq h
 obtain ⟨_, _, _, h4⟩ := not_many h.many
 have hp6 := pow6 h4
 have hp0 := Nat.two_pow_pos s.Visits.length
 have hM := inc_len q2.inc
 have u1 := fU8 htr
 rw [if_pos rfl, lSeason_eq ht, Option.bind_some, q1, Option.bind_some, if_pos rfl]
 refine left_go h q2.inc (fun b hb hb2 d => ?_) (M.length + 1) 0 0 (Nat.zero_le _) (by omega) hp0 fun j _ => by simp
 obtain ⟨n, hn1⟩ : ∃ n : Nat, tried = (n : Int) := ⟨tried.toNat, by omega⟩
 subst hn1
 have hwt : wrapZ .i64 (n : Int) = (n : Int) := wz (fI (by omega))
 obtain ⟨N, hN⟩ : ∃ N, N = Nat.land n (2 ^ s.Visits.length - 1) := ⟨_, rfl⟩
 have hNlt : N < 2 ^ s.Visits.length := by
  have : N ≤ 2 ^ s.Visits.length - 1 := by rw [hN]; exact Nat.and_le_right
  omega
 obtain ⟨c1, c2⟩ := clear_bit hb
 obtain ⟨d1, d2⟩ := clear_bit hNlt
 generalize hC : Nat.xor (2 ^ s.Visits.length - 1) (Nat.land (2 ^ s.Visits.length - 1) b) = C1 at *
 generalize hCN : Nat.xor (2 ^ s.Visits.length - 1) (Nat.land (2 ^ s.Visits.length - 1) N) = C2 at *
 unfold pGrowthLeft_L0
 dsimp only
 rw [if_neg (Int.lt_irrefl _), rFull_eq h4, Option.bind_some, hwt, gd_pos (by omega), gd_pos (by omega), gd_pos (fI (by omega)), gd_pos (fI (by omega)), Int.toNat_natCast, Int.toNat_natCast, ← hN, gd_pos (fI (by omega)), Option.bind_some, gd_pos (by omega), gd_pos (by omega), gd_pos (fI (by omega)), gd_pos (fI (by omega)), Int.toNat_natCast, Int.toNat_natCast, hC, gd_pos (fI (by omega))]
 rw [some_eq h4 (by omega), Option.bind_some, lSeason_eq (wV_thin h ht (kp_ok h).2), Option.bind_some]
 obtain ⟨l1, e1⟩ := bounds_some h (S := fun j => C1.testBit j)
 obtain ⟨l2, e2⟩ := bounds_some h (S := fun j => C2.testBit j)
 have p1 : PL s (fun j => !C1.testBit j) := (PL.congr fun j hj => by rw [c2 j hj, Bool.not_not, hb2 j hj]).2 q2.ok
 have p2 : PL s (fun j => !C2.testBit j) ↔ PL s (inD (bitsL N)) := (PL.congr fun j hj => by rw [d2 j hj, Bool.not_not]).trans (PL_bits h).symm
 rw [e1, if_pos p1, Option.bind_some, Option.bind_some, gd_pos (by omega), gd_pos (by omega), gd_pos (fI (by omega)), gd_pos (fI (by omega)), Int.toNat_natCast, Int.toNat_natCast, hCN, gd_pos (fI (by omega)), some_eq h4 (by omega), Option.bind_some, lSeason_eq (wV_thin h ht (kp_ok h).2), Option.bind_some, e2, Option.bind_some, if_pos rfl]
 by_cases hp : PL s (fun j => !C2.testBit j)
 ·have hl := len_bits (b := N)
  have hsh : shB (bitsL N) M = false := by
   rcases q2.min (bitsL N) (bits_inc (by omega) hNlt) (p2.1 hp) with h1 | h1
   ·rw [h1]; exact shB_irr M
   ·exact shB_asym h1
  rw [if_pos hp, if_neg (show ¬ (0 : Int) = 11 by omega), if_pos rfl, rBits_eq (by omega), Option.bind_some, rShorter_eq (by omega), Option.bind_some, hsh, if_neg (by simp), aw, Option.bind_some]
 ·rw [if_neg hp, if_pos rfl, aw, Option.bind_some]
end
end Go.Proofs.YtmlaphekbnanjaaGreat

namespace Go.Proofs.YtmlaphekbnanjaaGreat
open _root_.Go.Proofs.Tryz
open Go.ChangeShapes Go.WideShapes Go.ChangeAt Go.RowKit Go.Abs
set_option maxRecDepth 100000
theorem op3 : Opens prog 3 Int (fitsP .i64) := opens_int (by kernel_rfl)
theorem op75 : Opens prog 75 (List Int) (fun l => l.length ≤ maxLen ∧ ∀ a0 ∈ l, fitsP .i64 a0) := opens_slice (by kernel_rfl) (by kernel_rfl) op3
theorem op22 : Opens prog 22 (List (List Int)) (fun l => l.length ≤ maxLen ∧ ∀ a0 ∈ l, a0.length ≤ maxLen ∧ ∀ a1 ∈ a0, fitsP .i64 a1) := opens_slice (by kernel_rfl) (by kernel_rfl) op75
theorem op45 : Opens prog 45 Rg ok_Rg := opens_struct (fs := [(3, 0), (3, 1)]) (by kernel_rfl) (by kernel_rfl) (opensFs_cons (α := Int) (ok := fitsP .i64) (k := 1) op3 (by kernel_rfl) rfl (opensFs_cons (α := Int) (ok := fitsP .i64) (k := 1) op3 (by kernel_rfl) rfl opensFs_nil)) (by kernel_rfl) fun m vs h => by
 obtain ⟨a0, c0, r0, m0, h0, p0, k0, s0, ⟨a1, c1, r1, m1, h1, p1, k1, s1, rfl⟩⟩ := h
 have p0 : c0 = [.int .i64 a0] := p0; subst p0
 have p1 : c1 = [.int .i64 a1] := p1; subst p1
 subst h1 h0
 exact ⟨⟨a0, a1⟩, rfl, ⟨k0, k1⟩⟩
theorem op62 : Opens prog 62 Fld ok_Fld := opens_struct (fs := [(3, 0), (45, 1), (45, 3), (45, 5)]) (by kernel_rfl) (by kernel_rfl) (opensFs_cons (α := Int) (ok := fitsP .i64) (k := 1) op3 (by kernel_rfl) rfl (opensFs_cons (α := Rg) (ok := ok_Rg) (k := 2) op45 (by kernel_rfl) rfl (opensFs_cons (α := Rg) (ok := ok_Rg) (k := 2) op45 (by kernel_rfl) rfl (opensFs_cons (α := Rg) (ok := ok_Rg) (k := 2) op45 (by kernel_rfl) rfl opensFs_nil)))) (by kernel_rfl) fun m vs h => by
 obtain ⟨a0, c0, r0, m0, h0, p0, k0, s0, ⟨a1, c1, r1, m1, h1, p1, k1, s1, ⟨a2, c2, r2, m2, h2, p2, k2, s2, ⟨a3, c3, r3, m3, h3, p3, k3, s3, rfl⟩⟩⟩⟩ := h
 have p0 : c0 = [.int .i64 a0] := p0; subst p0
 have p1 : c1 = [.int .i64 a1.Lo, .int .i64 a1.Hi] := p1; subst p1
 have p2 : c2 = [.int .i64 a2.Lo, .int .i64 a2.Hi] := p2; subst p2
 have p3 : c3 = [.int .i64 a3.Lo, .int .i64 a3.Hi] := p3; subst p3
 subst h3 h2 h1 h0
 exact ⟨⟨a0, a1, a2, a3⟩, rfl, ⟨k0, k1, k2, k3⟩⟩
theorem op23 : Opens prog 23 (List Fld) (fun l => l.length ≤ maxLen ∧ ∀ a0 ∈ l, ok_Fld a0) := opens_slice (by kernel_rfl) (by kernel_rfl) op62
theorem op116 : Opens prog 116 Vis ok_Vis := opens_struct (fs := [(3, 0), (3, 1), (45, 2)]) (by kernel_rfl) (by kernel_rfl) (opensFs_cons (α := Int) (ok := fitsP .i64) (k := 1) op3 (by kernel_rfl) rfl (opensFs_cons (α := Int) (ok := fitsP .i64) (k := 1) op3 (by kernel_rfl) rfl (opensFs_cons (α := Rg) (ok := ok_Rg) (k := 2) op45 (by kernel_rfl) rfl opensFs_nil))) (by kernel_rfl) fun m vs h => by
 obtain ⟨a0, c0, r0, m0, h0, p0, k0, s0, ⟨a1, c1, r1, m1, h1, p1, k1, s1, ⟨a2, c2, r2, m2, h2, p2, k2, s2, rfl⟩⟩⟩ := h
 have p0 : c0 = [.int .i64 a0] := p0; subst p0
 have p1 : c1 = [.int .i64 a1] := p1; subst p1
 have p2 : c2 = [.int .i64 a2.Lo, .int .i64 a2.Hi] := p2; subst p2
 subst h2 h1 h0
 exact ⟨⟨a0, a1, a2⟩, rfl, ⟨k0, k1, k2⟩⟩
theorem op24 : Opens prog 24 (List Vis) (fun l => l.length ≤ maxLen ∧ ∀ a0 ∈ l, ok_Vis a0) := opens_slice (by kernel_rfl) (by kernel_rfl) op116
theorem op26 : Opens prog 26 Ssn ok_Ssn := opens_struct (fs := [(3, 0), (22, 1), (23, 2), (24, 3)]) (by kernel_rfl) (by kernel_rfl) (opensFs_cons (α := Int) (ok := fitsP .i64) (k := 1) op3 (by kernel_rfl) rfl (opensFs_cons (α := List (List Int)) (ok := (fun l => l.length ≤ maxLen ∧ ∀ a0 ∈ l, a0.length ≤ maxLen ∧ ∀ a1 ∈ a0, fitsP .i64 a1)) (k := 1) op22 (by kernel_rfl) rfl (opensFs_cons (α := List Fld) (ok := (fun l => l.length ≤ maxLen ∧ ∀ a0 ∈ l, ok_Fld a0)) (k := 1) op23 (by kernel_rfl) rfl (opensFs_cons (α := List Vis) (ok := (fun l => l.length ≤ maxLen ∧ ∀ a0 ∈ l, ok_Vis a0)) (k := 1) op24 (by kernel_rfl) rfl opensFs_nil)))) (by kernel_rfl) fun m vs h => by
 obtain ⟨a0, c0, r0, m0, h0, p0, k0, s0, ⟨a1, c1, r1, m1, h1, p1, k1, s1, ⟨a2, c2, r2, m2, h2, p2, k2, s2, ⟨a3, c3, r3, m3, h3, p3, k3, s3, rfl⟩⟩⟩⟩ := h
 have p0 : c0 = [.int .i64 a0] := p0; subst p0
 obtain ⟨d1, rfl, p1⟩ := p1
 obtain ⟨d2, rfl, p2⟩ := p2
 obtain ⟨d3, rfl, p3⟩ := p3
 subst h3 h2 h1 h0
 exact ⟨⟨a0, a1, a2, a3⟩, ⟨_, _, _, rfl, p1, p2, p3⟩, ⟨k0, k1, k2, k3⟩⟩
theorem laid : laidOutB prog = true := by kernel_rfl
theorem ownNone : ownKnob prog.godebug = none := by kernel_rfl
theorem GrowthLeft_lifted (os : Os) (started : os.Started) (H : Type) (enc : TypeId × Value → H) :
    ReturnsInHanded {} Tryz.checked os 10 .any (Rows.growthLeftSpec.pre6 enc Tryz.prog Tryz.f10 Rows.growthLeftRow.domain false) (Rows.growthLeftSpec.post enc Tryz.prog Tryz.f10 false true false false) := by
  refine returnsInHanded_of_change (C := Tryz.checked) ownNone started (by kernel_rfl) Tryz.func10
    (ChangeSpec.witness6 (enc := enc) (C := Tryz.checked) false ⟨#[], #[.agg #[.int .i64 0, .slice none 0 0, .slice none 0 0, .slice none 0 0], .int .u8 0], []⟩ 8 (by kernel_rfl) (by kernel_rfl) (by kernel_rfl) (by kernel_rfl)) ?_
  intro W base args ds gs before hval0 hW hcnd _
  have hval : ∀ (j : Nat) t v, Tryz.f10.params[j]? = some t → args[j]? = some v → Value.okWide Tryz.prog W .any base t v := hval0
  have hW' := hW
  obtain ⟨p, q, hA0, hV, rfl, hfz, hnd⟩ := hW
  have hA : DataW.TrodAll enc Tryz.prog W 0 (fun _ => true) true Tryz.f10.params.toList args.toList ds p := hA0
  rw [Tryz.params10] at hA hval
  obtain ⟨v0, v1, d0, d1, p0, p1, rfl, rfl, rfl, h0, h1⟩ := trodAll_two hA
  obtain ⟨rfl, rfl⟩ := trodVars_none hV
  obtain ⟨n1, hv1⟩ := okWide_int Tryz.underlying5 (hval 1 5 v1 rfl rfl)
  have hlt : ∀ x ∈ p0 ++ p1, x.block < W.heap.size := fun x hx => by simpa using hW'.lt x (by simpa using hx)
  obtain ⟨fu0, hf0⟩ := id h0
  obtain ⟨fu1, hf1⟩ := id h1
  clear hA0 hval0
  obtain ⟨e0, m0, w0, a_0, le0, sv0, lay0, cr0, rep0, ok0⟩ := op26 H enc W true _ _ _ hf0 _ _ (Lay.nil W)
  obtain ⟨i1, hc1, _, hw1⟩ := DataW.trod_int Tryz.underlying5 hf1
  obtain ⟨c0_1, c0_2, c0_3, rfl, g0_1, g0_2, g0_3⟩ := rep0
  obtain ⟨cs0, hv0, cl0⟩ : ∃ cs, v0 = .agg cs ∧ v0.cells.toList = cs.toList := by
    have hl := cr0.length
    cases v0 with
    | agg cs => exact ⟨cs, rfl, rfl⟩
    | _ => exact absurd hl (by simp [Value.cells])
  subst hv0
  subst hv1
  have hi1 : i1 = n1 := by
    have h : [Value.int .u8 n1] = [.int .u8 i1] := hc1
    cases h; rfl
  subst hi1
  have hargs : All2 (VR e0) [.agg 4 [.int .i64 a_0.Last, c0_1, c0_2, c0_3], .c (.int .u8 i1)] [.agg cs0, .int .u8 i1] := .cons ⟨cs0, rfl, cr0, rfl⟩ (.cons rfl .nil)
  refine (callsIn_wide.1 (call_of fits htab (s_GrowthLeft (s := a_0) (tried := i1) lay0.pre g0_1 g0_2 g0_3 (m_GrowthLeft ok0 (wf_fits hw1)) (Q := fun v _ => v = .c (.bool true)) fun _ _ => rfl) lay0.hr (args' := #[.agg cs0, .int .u8 i1]) hargs 0)).mono fun en W' hp => ?_
  obtain ⟨v, v', e', m', rfl, hst, hvr, rfl⟩ := hp
  have hv' : v' = .bool true := hvr
  subst hv'
  have hbelow := lay0.below hst
  refine ⟨_, rfl, [d0, d1], [], p0 ++ p1, [], p0 ++ p1, [], by simpa using hW', trodAll_mk1 (shut_bool Tryz.underlying4 _),
    trodAll_mk2 (Below.trod laid (by kernel_rfl) (of_decide_eq_true (by kernel_rfl)) h0 hbelow fun x hx => hlt x (by simp [hx])) (Below.trod laid (by kernel_rfl) (of_decide_eq_true (by kernel_rfl)) h1 hbelow fun x hx => hlt x (by simp [hx])), rfl, lay0.kept hst _, fun hc => by cases hc⟩
theorem GrowthLeft_holds : Rows.GrowthLeftSaid :=
 OpenClaim.holds_of_wide 10 Tryz.f10 rfl rfl rfl rfl rfl rfl rfl ⟨rfl, rfl, rfl, rfl, rfl⟩ rfl rfl rfl rfl rfl (by kernel_rfl) Tryz.func10 (by kernel_rfl)
  (of_decide_eq_true (by kernel_rfl)) (by unfold Func.isWrapper; first | (rw [if_pos (by decide +kernel)]; kernel_rfl) | (rw [if_neg (by decide +kernel)]; exact ⟨rfl, rfl⟩))
  (fun os started H enc _ => GrowthLeft_lifted os started H enc)
end Go.Proofs.YtmlaphekbnanjaaGreat

