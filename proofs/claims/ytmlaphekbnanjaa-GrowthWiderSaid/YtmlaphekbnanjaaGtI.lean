/- GrowthWider, for all that it can be called with, returns true. Condition: none. -/
import Derived.Test.YtmlaphekbnanjaaGtH
import GoSem.Step
import GoSem.ClaimKeys
import Derived.DeepKeys2
import Derived.RangeFuncLeaves
import Derived.OrdersIn
import Derived.Laws.World
import Derived.Laws.Sem
import Derived.RangeFuncRecord
import Derived.Laws.CopyRow
import Derived.Laws.Append
import Derived.Laws.Rows
import Derived.Laws.Slices
import Derived.Laws.Entries
import Derived.ChangeKeysEq
import Derived.IntWalk
import Derived.DeepKeys
import Derived.DeepKeys3
import Derived.Laws.StructEq
import Derived.MapKept
import Derived.Laws.AppendOwn
import Derived.ChangeArms
import Derived.ChangeOld
import Derived.Carry
import Derived.ChangeShapes
import Derived.KernelRfl
import Derived.ProofKit
import Derived.Test.YtmlaphekbnanjaaRows

namespace Go.Proofs.Ytmlaphekbnanjaa
open _root_.Go.Proofs.Try
open Go.Abs Go.Abs.Grow
set_option maxRecDepth 100000
noncomputable section
def Wi (r : Rg) (lo hi : Int) : Prop := lo ≤ r.Lo ∧ r.Lo ≤ r.Hi ∧ r.Hi ≤ hi
def inR (r : Rg) (n : Int) : Prop := r.Lo ≤ n ∧ n ≤ r.Hi
def cnt (r : Rg) : Int := r.Hi - r.Lo + 1
def manyN (f : Fld) : Int := cnt f.Week * cnt f.Damage * cnt f.Old
structure VF (s : Ssn) (f : Fld) : Prop where
 crp : 0 ≤ f.Crop ∧ f.Crop < s.Rules.length
 wk : Wi f.Week 0 s.Last
 dm : Wi f.Damage 0 100
 old : Wi f.Old 0 100
def VV (s : Ssn) (v : Vis) : Prop := (0 ≤ v.Field ∧ v.Field < s.Fields.length) ∧ (0 ≤ v.Week ∧ v.Week ≤ s.Last) ∧ Wi v.Seen 0 100
def VRu (s : Ssn) (l : List Int) : Prop := (l.length : Int) = s.Last + 1 ∧ ∀ x ∈ l, 0 ≤ x ∧ x ≤ 100
def ManyS (s : Ssn) : Prop := 12 < s.Last ∨ 3 < s.Rules.length ∨ 3 < s.Fields.length ∨ 6 < s.Visits.length
structure VS0 (s : Ssn) : Prop where
 last : 0 ≤ s.Last
 rne : 0 < s.Rules.length
 fne : 0 < s.Fields.length
 rules : ∀ l ∈ s.Rules, VRu s l
 flds : ∀ f ∈ s.Fields, VF s f
 vis : ∀ v ∈ s.Visits, VV s v
def FewS (s : Ssn) : Prop := ∀ f ∈ s.Fields, manyN f ≤ 3000
open Classical in
def faultN (s : Ssn) : Int := if ManyS s then 3 else if VS0 s then (if FewS s then 0 else 3) else 1
structure VS (s : Ssn) : Prop extends VS0 s where
 many : ¬ ManyS s
 few : FewS s
theorem fault_zero {s : Ssn} : faultN s = 0 ↔ VS s := by
 unfold faultN
 split
 ·rename_i h; exact ⟨fun h => by omega, fun h' => absurd h h'.many⟩
 ·rename_i h
  split
  ·rename_i h2
   split
   ·rename_i h3; exact ⟨fun _ => ⟨h2, h, h3⟩, fun _ => rfl⟩
   ·rename_i h3; exact ⟨fun h => by omega, fun h' => absurd h'.few h3⟩
  ·rename_i h2; exact ⟨fun h => by omega, fun h' => absurd h'.toVS0 h2⟩
theorem not_many {s : Ssn} (h : ¬ ManyS s) : s.Last ≤ 12 ∧ s.Rules.length ≤ 3 ∧ s.Fields.length ≤ 3 ∧ s.Visits.length ≤ 6 := by
 unfold ManyS at h; omega
theorem In_ev {n lo hi : Int} : Ev (prIn n lo hi) (lo ≤ n ∧ n ≤ hi) := Ev.ite fun _ => Ev.dec Iff.rfl
theorem has_ev {r : Rg} {n : Int} : Ev (phas r n) (inR r n) := Ev.ite fun _ => Ev.dec Iff.rfl
theorem rWithin_ev {r : Rg} {lo hi : Int} : Ev (prWithin r lo hi) (Wi r lo hi) := Ev.ite fun _ => Ev.ite fun _ => Ev.dec Iff.rfl
theorem within_ev {r : Rg} {lo hi : Int} : Ev (pwithin r lo hi) (Wi r lo hi) := Ev.ite fun _ => Ev.ite fun _ => Ev.dec Iff.rfl
theorem isH_ev {n : Int} : Ev (pisHundredths n) (0 ≤ n ∧ n ≤ 100) := has_ev.ret
theorem hasField_ev {s : Ssn} (h : s.Fields.length ≤ 1000000) {n : Int} : Ev (phasField s n) (0 ≤ n ∧ n < s.Fields.length) := Ev.gd (fI (by omega)) (has_ev.ret.imp (by show 0 ≤ n ∧ n ≤ _ - 1 ↔ _; omega))
theorem hasWeek_ev {s : Ssn} {n : Int} : Ev (phasWeek s n) (0 ≤ n ∧ n ≤ s.Last) := has_ev.ret
theorem tooMany_ev {s : Ssn} : Ev (ptooMany s) (ManyS s) := by
 unfold ptooMany ManyS
 by_cases h1 : (12 : Int) < s.Last
 ·rw [if_pos h1]; exact Ev.tt (.inl h1)
 rw [if_neg h1]
 by_cases h2 : (3 : Int) < (s.Rules.length : Int)
 ·rw [if_pos h2]; exact Ev.tt (.inr (.inl (by omega)))
 rw [if_neg h2]
 by_cases h3 : (3 : Int) < (s.Fields.length : Int)
 ·rw [if_pos h3]; exact Ev.tt (.inr (.inr (.inl (by omega))))
 rw [if_neg h3]; exact Ev.dec (by omega)
theorem gI {l : List Int} {p : Int → Option Bool} : ∀ {d : Nat} {x : Int}, pindexI_L0 l p d x = gIdx l p d x
 | 0, _ => rfl
 | d + 1, x => by unfold pindexI_L0 gIdx; simp only [gI (d := d)]
theorem gL {l : List (List Int)} {p : List Int → Option Bool} : ∀ {d : Nat} {x : Int}, pindexL_L0 l p d x = gIdx l p d x
 | 0, _ => rfl
 | d + 1, x => by unfold pindexL_L0 gIdx; simp only [gL (d := d)]
theorem gF {l : List Fld} {p : Fld → Option Bool} : ∀ {d : Nat} {x : Int}, pindexF_L0 l p d x = gIdx l p d x
 | 0, _ => rfl
 | d + 1, x => by unfold pindexF_L0 gIdx; simp only [gF (d := d)]
theorem gV {l : List Vis} {p : Vis → Option Bool} : ∀ {d : Nat} {x : Int}, pindexV_L0 l p d x = gIdx l p d x
 | 0, _ => rfl
 | d + 1, x => by unfold pindexV_L0 gIdx; simp only [gV (d := d)]
theorem eachI_ev {l : List Int} {p : Int → Option Bool} {q : Int → Prop} (hp : ∀ a ∈ l, Ev (p a) (q a)) (hl : shrt l) : Ev (peachI l p) (∀ a ∈ l, q a) := Ev.each hp hl.lt gI
theorem eachL_ev {l : List (List Int)} {p : List Int → Option Bool} {q : List Int → Prop} (hp : ∀ a ∈ l, Ev (p a) (q a)) (hl : shrt l) : Ev (peachL l p) (∀ a ∈ l, q a) := Ev.each hp hl.lt gL
theorem eachF_ev {l : List Fld} {p : Fld → Option Bool} {q : Fld → Prop} (hp : ∀ a ∈ l, Ev (p a) (q a)) (hl : shrt l) : Ev (peachF l p) (∀ a ∈ l, q a) := Ev.each hp hl.lt gF
theorem eachV_ev {l : List Vis} {p : Vis → Option Bool} {q : Vis → Prop} (hp : ∀ a ∈ l, Ev (p a) (q a)) (hl : shrt l) : Ev (peachV l p) (∀ a ∈ l, q a) := Ev.each hp hl.lt gV
theorem cnt_rng {r : Rg} {lo hi : Int} (h : Wi r lo hi) : 1 ≤ cnt r ∧ cnt r ≤ hi - lo + 1 := by unfold Wi at h; unfold cnt; omega
theorem count_eq {r : Rg} (h : Wi r (-1000) 1000) : pcount r = some (cnt r) := by
 unfold Wi at h
 unfold pcount
 rw [gd_pos (fI (by omega)), gd_pos (fI (by omega))]; rfl
theorem rCount_eq {r : Rg} (h : Wi r (-1000) 1000) : prCount r = some (cnt r) := by
 unfold Wi at h
 unfold prCount
 rw [gd_pos (fI (by omega)), gd_pos (fI (by omega))]; rfl
theorem Wi.w {r : Rg} {lo hi : Int} (h : Wi r lo hi) (h1 : -1000 ≤ lo) (h2 : hi ≤ 1000) : Wi r (-1000) 1000 := by unfold Wi at h ⊢; omega
theorem mul_rng {a b A B : Int} (ha : 1 ≤ a ∧ a ≤ A) (hb : 1 ≤ b ∧ b ≤ B) : 1 ≤ a * b ∧ a * b ≤ A * B := by
 have h1 : 1 * 1 ≤ a * b := Int.mul_le_mul ha.1 hb.1 (by omega) (by omega)
 have h2 : a * b ≤ A * B := Int.mul_le_mul ha.2 hb.2 (by omega) (by omega)
 omega
theorem many_rng {s : Ssn} {f : Fld} (h : VF s f) (hl : s.Last ≤ 12) : (1 ≤ cnt f.Week ∧ cnt f.Week ≤ 13) ∧ (1 ≤ cnt f.Damage ∧ cnt f.Damage ≤ 101) ∧ (1 ≤ cnt f.Old ∧ cnt f.Old ≤ 101) ∧ (1 ≤ cnt f.Week * cnt f.Damage ∧ cnt f.Week * cnt f.Damage ≤ 1313) ∧ 1 ≤ manyN f ∧ manyN f ≤ 132613 := by
 have h1 := cnt_rng h.wk
 have h2 := cnt_rng h.dm
 have h3 := cnt_rng h.old
 have h4 := mul_rng (A := 13) (B := 101) (a := cnt f.Week) (b := cnt f.Damage) (by omega) (by omega)
 have h5 := mul_rng (A := 1313) (B := 101) (a := cnt f.Week * cnt f.Damage) (b := cnt f.Old) (by omega) (by omega)
 exact ⟨by omega, by omega, by omega, by omega, by unfold manyN; omega⟩
theorem rMany_eq {s : Ssn} {f : Fld} (h : VF s f) (hl : s.Last ≤ 12) : prMany f = some (manyN f) := by
 obtain ⟨h1, h2, h3, h4, h5⟩ := many_rng h hl
 unfold prMany
 unfold manyN at h5 ⊢
 rw [rCount_eq (h.wk.w (by omega) (by omega)), Option.bind_some, rCount_eq (h.dm.w (by omega) (by omega)), Option.bind_some, gd_pos (by omega), gd_pos (by omega), gd_pos (fI (by omega)), rCount_eq (h.old.w (by omega) (by omega)), Option.bind_some, gd_pos (by omega), gd_pos (by omega), gd_pos (fI (by omega))]
theorem hasFew_ev {s : Ssn} {f : Fld} (h : VF s f) (hl : s.Last ≤ 12) : Ev (phasFew f) (manyN f ≤ 3000) := by
 obtain ⟨h1, h2, h3, h4, h5⟩ := many_rng h hl
 unfold phasFew
 unfold manyN at h5 ⊢
 rw [count_eq (h.wk.w (by omega) (by omega)), Option.bind_some, count_eq (h.dm.w (by omega) (by omega)), Option.bind_some, gd_pos (by omega), gd_pos (by omega), gd_pos (fI (by omega)), count_eq (h.old.w (by omega) (by omega)), Option.bind_some, gd_pos (by omega), gd_pos (by omega), gd_pos (fI (by omega))]
 exact Ev.dec Iff.rfl
theorem validRule_ev {s : Ssn} (h : ¬ ManyS s) (h0 : 0 ≤ s.Last) {l : List Int} : Ev (pvalidRule s l) (VRu s l) := by
 obtain ⟨h1, _⟩ := not_many h
 exact Ev.gd (fI (by omega)) (Ev.ite fun hl => (eachI_ev (q := fun r => 0 ≤ r ∧ r ≤ 100) (fun _ _ => isH_ev) (fewS (n := 13) (by omega) (by omega))).ret)
theorem validField_ev {s : Ssn} (h : ¬ ManyS s) {f : Fld} : Ev (pvalidField s f) (VF s f) := by
 obtain ⟨_, h1, _⟩ := not_many h
 refine Ev.gd (fI (by omega)) ((Ev.and has_ev fun _ => Ev.and within_ev fun _ => Ev.and within_ev fun _ => within_ev.ret).imp ?_)
 exact ⟨fun ⟨a, b, c, d⟩ => ⟨by unfold inR at a; dsimp only at a; omega, b, c, d⟩, fun q => ⟨by have := q.crp; show 0 ≤ _ ∧ _ ≤ _ - 1; omega, q.wk, q.dm, q.old⟩⟩
theorem validVisit_ev {s : Ssn} (h : ¬ ManyS s) {v : Vis} : Ev (pvalidVisit s v) (VV s v) := by
 obtain ⟨_, _, h1, _⟩ := not_many h
 exact Ev.and (hasField_ev (by omega)) fun _ => Ev.and hasWeek_ev fun _ => within_ev.ret
theorem valid_ev {s : Ssn} (h : ¬ ManyS s) : Ev (pvalid s) (VS0 s) := by
 obtain ⟨h1, h2, h3, h4⟩ := not_many h
 refine (Ev.ite fun q1 => Ev.ite fun q2 => Ev.ite fun q3 => Ev.and (eachL_ev (fun _ _ => validRule_ev h q1) (fewS h2 (by omega))) fun _ => Ev.and (eachF_ev (fun _ _ => validField_ev h) (fewS h3 (by omega))) fun _ => (eachV_ev (fun _ _ => validVisit_ev h) (fewS h4 (by omega))).ret).imp ?_
 exact ⟨fun ⟨a, b, c, d, e, g⟩ => ⟨a, by omega, by omega, d, e, g⟩, fun q => ⟨q.last, by have := q.rne; omega, by have := q.fne; omega, q.rules, q.flds, q.vis⟩⟩
theorem check_eq {s : Ssn} : pcheck s = some (faultN s) := by
 unfold pcheck faultN
 refine tooMany_ev.pick (fun h => ?_) fun h => ?_
 ·rw [if_pos rfl, if_pos h]
 ·rw [if_neg (by simp), if_neg h]
  obtain ⟨h1, h2, h3, h4⟩ := not_many h
  refine (valid_ev h).pick (fun hv => ?_) fun hv => ?_
  ·rw [if_pos rfl, if_pos hv]
   refine (eachF_ev (q := fun f => manyN f ≤ 3000) (fun f hf => hasFew_ev (hv.flds f hf) h1) (fewS h3 (by omega))).pick (fun hf => ?_) fun hf => ?_
   ·rw [if_pos rfl, if_pos (show FewS s from hf)]
   ·rw [if_neg (by simp), if_neg (show ¬ FewS s from hf)]
  ·rw [if_neg (by simp), if_neg hv]
theorem rIsRule_ev {s : Ssn} (h : ¬ ManyS s) (h0 : 0 ≤ s.Last) {l : List Int} (hl : l.length ≤ 9223372036854775807) : Ev (prIsRule s l) (VRu s l) := by
 obtain ⟨h1, _⟩ := not_many h
 refine (Ev.loopE (l := l) (F := prIsRule_L0 s l) (ok := fun x => 0 ≤ x ∧ x ≤ 100) (fin := some (decide ((l.length : Int) = s.Last + 1))) (P := (l.length : Int) = s.Last + 1) (fun d k a ha => ?_) (fun d => ?_) (Nat.lt_succ_self _) fun _ => Ev.dec Iff.rfl).imp ⟨fun h => ⟨h.2, h.1⟩, fun h => ⟨h.2, h.1⟩⟩
 ·have hk := (List.getElem?_eq_some_iff.1 ha).1
  rw [prIsRule_L0, if_pos (by omega), idx_at ha, Option.bind_some]
  exact In_ev.step (by rw [if_pos rfl, gd_pos (fI (by omega))]) (by rw [if_neg (by simp)])
 ·rw [prIsRule_L0, if_neg (Int.lt_irrefl _), gd_pos (fI (by omega))]
open Classical in
theorem fault_L3 {s : Ssn} (h : ¬ ManyS s) (hv : VS0 s) : prFault_L3 s 1000000 0 = some (if FewS s then 0 else 3) := by
 obtain ⟨h1, h2, h3, h4⟩ := not_many h
 have key := loop_each (l := s.Fields) (F := prFault_L3 s) (ok := fun f => manyN f ≤ 3000) (bad := some 3) (fin := some 0) (fun d k f hf => by
  have hk := (List.getElem?_eq_some_iff.1 hf).1
  have hvf := hv.flds f (List.mem_of_getElem? hf)
  rw [prFault_L3, if_pos (by omega), idx_at hf, Option.bind_some, rMany_eq hvf h1, Option.bind_some]
  constructor
  ·intro hm; rw [if_neg (by omega), gd_pos (fI (by omega))]
  ·intro hm; rw [if_pos (by omega)]) (fun d => by rw [prFault_L3, if_neg (Int.lt_irrefl _)]) (d := 1000000) (by omega)
 by_cases hf : FewS s
 ·rw [if_pos hf]; exact key.1 hf
 ·rw [if_neg hf]; exact key.2 hf
theorem fault_L2 {s : Ssn} (h : ¬ ManyS s) {x : Int} : ((∀ v ∈ s.Visits, VV s v) → prFault_L2 s 1000000 x 0 = prFault_L3 s 1000000 0) ∧ (¬ (∀ v ∈ s.Visits, VV s v) → prFault_L2 s 1000000 x 0 = some 1) := by
 obtain ⟨h1, h2, h3, h4⟩ := not_many h
 refine loop_each (l := s.Visits) (F := fun d y => prFault_L2 s d x y) (fun d k v hg => ?_) (fun d => by rw [prFault_L2, if_neg (Int.lt_irrefl _)]) (by omega)
 have hk := (List.getElem?_eq_some_iff.1 hg).1
 rw [prFault_L2, if_pos (by omega), idx_at hg, Option.bind_some, gd_pos (fI (by omega))]
 have e : VV s v ↔ ((0 ≤ v.Field ∧ v.Field ≤ (s.Fields.length : Int) - 1) ∧ (0 ≤ v.Week ∧ v.Week ≤ s.Last) ∧ Wi v.Seen 0 100) := by unfold VV; rw [show (v.Field < (s.Fields.length : Int) ↔ v.Field ≤ (s.Fields.length : Int) - 1) by omega]
 rw [e]
 obtain ⟨b1, g1, g2⟩ := In_ev (n := v.Field) (lo := 0) (hi := (s.Fields.length : Int) - 1)
 obtain ⟨b2, g3, g4⟩ := In_ev (n := v.Week) (lo := 0) (hi := s.Last)
 obtain ⟨b3, g5, g6⟩ := rWithin_ev (r := v.Seen) (lo := 0) (hi := 100)
 rw [g1, g3, g5, ← g2, ← g4, ← g6]
 simp only [Option.bind_some]
 cases b1 <;> cases b2 <;> cases b3 <;> simp only [if_true, Bool.false_eq_true, if_false, false_and, and_false, true_and, and_true, not_true_eq_false, not_false_eq_true, false_implies, true_implies, and_self] <;> first | exact trivial | (rw [gd_pos (fI (by omega))])
theorem fault_L1 {s : Ssn} (h : ¬ ManyS s) {x : Int} : ((∀ f ∈ s.Fields, VF s f) → prFault_L1 s 1000000 x 0 = prFault_L2 s 1000000 x 0) ∧ (¬ (∀ f ∈ s.Fields, VF s f) → prFault_L1 s 1000000 x 0 = some 1) := by
 obtain ⟨h1, h2, h3, h4⟩ := not_many h
 refine loop_each (l := s.Fields) (F := fun d y => prFault_L1 s d x y) (fun d k f hg => ?_) (fun d => by rw [prFault_L1, if_neg (Int.lt_irrefl _)]) (by omega)
 have hk := (List.getElem?_eq_some_iff.1 hg).1
 rw [prFault_L1, if_pos (by omega), idx_at hg, Option.bind_some, gd_pos (fI (by omega))]
 have e : VF s f ↔ ((0 ≤ f.Crop ∧ f.Crop ≤ (s.Rules.length : Int) - 1) ∧ Wi f.Week 0 s.Last ∧ Wi f.Damage 0 100 ∧ Wi f.Old 0 100) := ⟨fun q => ⟨by have := q.crp; omega, q.wk, q.dm, q.old⟩, fun q => ⟨by have := q.1; omega, q.2.1, q.2.2.1, q.2.2.2⟩⟩
 rw [e]
 obtain ⟨b1, g1, g2⟩ := In_ev (n := f.Crop) (lo := 0) (hi := (s.Rules.length : Int) - 1)
 obtain ⟨b2, g3, g4⟩ := rWithin_ev (r := f.Week) (lo := 0) (hi := s.Last)
 obtain ⟨b3, g5, g6⟩ := rWithin_ev (r := f.Damage) (lo := 0) (hi := 100)
 obtain ⟨b4, g7, g8⟩ := rWithin_ev (r := f.Old) (lo := 0) (hi := 100)
 rw [g1, g3, g5, g7, ← g2, ← g4, ← g6, ← g8]
 simp only [Option.bind_some]
 cases b1 <;> cases b2 <;> cases b3 <;> cases b4 <;> simp only [if_true, Bool.false_eq_true, if_false, false_and, and_false, true_and, and_true, not_true_eq_false, not_false_eq_true, false_implies, true_implies, and_self] <;> first | exact trivial | (rw [gd_pos (fI (by omega))])
theorem rFault_eq {s : Ssn} (hR : ∀ l ∈ s.Rules, l.length ≤ maxLen) : prFault s = some (faultN s) := by
 unfold prFault faultN
 by_cases hm : ManyS s
 ·rw [if_pos hm]
  unfold ManyS at hm
  by_cases h1 : (12 : Int) < s.Last
  ·rw [if_pos h1]
  rw [if_neg h1]
  by_cases h2 : (3 : Int) < (s.Rules.length : Int)
  ·rw [if_pos h2]
  rw [if_neg h2]
  by_cases h3 : (3 : Int) < (s.Fields.length : Int)
  ·rw [if_pos h3]
  rw [if_neg h3, if_pos (by omega)]
 obtain ⟨h1, h2, h3, h4⟩ := not_many hm
 rw [if_neg hm, if_neg (by omega), if_neg (by omega), if_neg (by omega), if_neg (by omega)]
 by_cases q1 : s.Last < 0
 ·rw [if_pos q1, if_neg fun hv => by have := hv.last; omega]
 rw [if_neg q1]
 by_cases q2 : (s.Rules.length : Int) = 0
 ·rw [if_pos q2, if_neg fun hv => by have := hv.rne; omega]
 rw [if_neg q2]
 by_cases q3 : (s.Fields.length : Int) = 0
 ·rw [if_pos q3, if_neg fun hv => by have := hv.fne; omega]
 rw [if_neg q3]
 have key := loop_each (l := s.Rules) (F := fun d y => prFault_L0 s d 0 y) (ok := VRu s) (bad := some 1) (fin := prFault_L1 s 1000000 0 0) (fun d k l hg => by
  have hk := (List.getElem?_eq_some_iff.1 hg).1
  rw [prFault_L0, if_pos (by omega), idx_at hg, Option.bind_some]
  exact (rIsRule_ev hm (by omega) (l := l) (by have := hR l (List.mem_of_getElem? hg); unfold maxLen at this; omega)).step (by rw [if_pos rfl, gd_pos (fI (by omega))]) (by rw [if_neg (by simp)])) (fun d => by rw [prFault_L0, if_neg (Int.lt_irrefl _)]) (d := 1000000) (by omega)
 by_cases r1 : ∀ l ∈ s.Rules, VRu s l
 ·rw [key.1 r1]
  by_cases r2 : ∀ f ∈ s.Fields, VF s f
  ·rw [(fault_L1 hm).1 r2]
   by_cases r3 : ∀ v ∈ s.Visits, VV s v
   ·have hv : VS0 s := ⟨by omega, by omega, by omega, r1, r2, r3⟩
    rw [(fault_L2 hm).1 r3, fault_L3 hm hv, if_pos hv]
   ·rw [(fault_L2 hm).2 r3, if_neg fun hv => r3 hv.vis]
  ·rw [(fault_L1 hm).2 r2, if_neg fun hv => r2 hv.flds]
 ·rw [key.2 r1, if_neg fun hv => r1 hv.rules]
end
end Go.Proofs.Ytmlaphekbnanjaa

namespace Go.Proofs.Ytmlaphekbnanjaa
open _root_.Go.Proofs.Try
open Go.Abs Go.Abs.Grow
set_option maxRecDepth 100000
noncomputable section
def fldAt (s : Ssn) (k : Int) : Fld := (s.Fields[k.toNat]?).getD ⟨0, ⟨0, 0⟩, ⟨0, 0⟩, ⟨0, 0⟩⟩
def ruleOf (s : Ssn) (crop : Int) : List Int := (s.Rules[crop.toNat]?).getD []
def FieldOk (s : Ssn) (k : Int) : Prop := 0 ≤ k ∧ k < s.Fields.length
theorem fld_at {s : Ssn} {k : Int} (h : FieldOk s k) : idx s.Fields k = some (fldAt s k) ∧ fldAt s k ∈ s.Fields := by
 unfold FieldOk at h
 have hk : k.toNat < s.Fields.length := by omega
 have e := List.getElem?_eq_getElem hk
 have e2 : fldAt s k = s.Fields[k.toNat] := by unfold fldAt; rw [e]; rfl
 refine ⟨?_, by rw [e2]; exact List.getElem_mem hk⟩
 rw [show k = ((k.toNat : Nat) : Int) by omega, idx_nat]
 rw [show ((k.toNat : Nat) : Int) = k by omega, e2, e]
theorem VS0.vf {s : Ssn} (h : VS0 s) {k : Int} (hk : FieldOk s k) : VF s (fldAt s k) := h.flds _ (fld_at hk).2
theorem rule_at {s : Ssn} (h : VS0 s) {c : Int} (h0 : 0 ≤ c) (h1 : c < s.Rules.length) : idx s.Rules c = some (ruleOf s c) ∧ VRu s (ruleOf s c) := by
 have hk : c.toNat < s.Rules.length := by omega
 have e := List.getElem?_eq_getElem hk
 have e2 : ruleOf s c = s.Rules[c.toNat] := by unfold ruleOf; rw [e]; rfl
 refine ⟨?_, by rw [e2]; exact h.rules _ (List.getElem_mem hk)⟩
 rw [show c = ((c.toNat : Nat) : Int) by omega, idx_nat]
 rw [show ((c.toNat : Nat) : Int) = c by omega, e2, e]
theorem VRu.okR {s : Ssn} {l : List Int} (h : VRu s l) : okR l := h.2
theorem rule_idx {l : List Int} {n : Nat} (h : n < l.length) : idx l (n : Int) = some (l.getD n 0) := by
 rw [idx_nat, List.getD_eq_getElem?_getD, List.getElem?_eq_getElem h]; rfl
def dmg (s : Ssn) (crop : Int) (t : Trh) (w : Int) : Int := dmgN (ruleOf s crop) t.Week t.Damage w.toNat
def IsT (f : Fld) (t : Trh) : Prop := inR f.Week t.Week ∧ inR f.Damage t.Damage ∧ inR f.Old t.Old
theorem IsT.rng {s : Ssn} {f : Fld} {t : Trh} (h : IsT f t) (hf : VF s f) : (0 ≤ t.Week ∧ t.Week ≤ s.Last) ∧ (0 ≤ t.Damage ∧ t.Damage ≤ 100) ∧ (0 ≤ t.Old ∧ t.Old ≤ 100) := by
 obtain ⟨h1, h2, h3⟩ := h
 have a := hf.wk; have b := hf.dm; have c := hf.old
 unfold Wi at a b c; unfold inR at h1 h2 h3
 omega
theorem dmg_rng' {s : Ssn} (h : VS0 s) {c : Int} (h0 : 0 ≤ c) (h1 : c < s.Rules.length) {t : Trh} (hd : 0 ≤ t.Damage) (w : Int) : 0 ≤ dmg s c t w ∧ dmg s c t w ≤ t.Damage := dmg_rng (rule_at h h0 h1).2.okR hd _
def mkDm (g : Nat → Int) : Dm := ⟨g 0, g 1, g 2, g 3, g 4, g 5, g 6, g 7, g 8, g 9, g 10, g 11, g 12⟩
def dmL (d : Dm) : List Int := [d.d0, d.d1, d.d2, d.d3, d.d4, d.d5, d.d6, d.d7, d.d8, d.d9, d.d10, d.d11, d.d12]
theorem dmL_get (g : Nat → Int) {k : Nat} (h : k < 13) : (dmL (mkDm g))[k]? = some (g k) := by
 unfold dmL mkDm
 match k, h with
 | 0, _ => rfl
 | 1, _ => rfl
 | 2, _ => rfl
 | 3, _ => rfl
 | 4, _ => rfl
 | 5, _ => rfl
 | 6, _ => rfl
 | 7, _ => rfl
 | 8, _ => rfl
 | 9, _ => rfl
 | 10, _ => rfl
 | 11, _ => rfl
 | 12, _ => rfl
theorem sti_at {g : Nat → Int} {n j : Nat} {v : Int} (hv : v = g n) : sti (n : Int) j v (if j < n then g j else 0) = if j < n + 1 then g j else 0 := by
 unfold sti
 by_cases h : n = j
 ·subst h; rw [if_pos rfl, if_pos (by omega), hv]
 ·rw [if_neg (by omega)]
  by_cases h2 : j < n
  ·rw [if_pos h2, if_pos (by omega)]
  ·rw [if_neg h2, if_neg (by omega)]
theorem grow_go {s : Ssn} (h : VS0 s) (hl : s.Last ≤ 12) {p : Plt} (h0 : 0 ≤ p.crop) (h1 : p.crop < s.Rules.length) (ht : 0 ≤ p.t.Week) (hd : 0 ≤ p.t.Damage ∧ p.t.Damage ≤ 100) (g : Nat → Int) (hg : ∀ n, g n = dmgN (ruleOf s p.crop) p.t.Week p.t.Damage n) :
  ∀ (d n : Nat) (x : Int), n ≤ 13 → 13 - n < d → (x = if n = 0 then 0 else g (n - 1)) → pgrow_L0 s p d (if 0 < n then g 0 else 0) (if 1 < n then g 1 else 0) (if 2 < n then g 2 else 0) (if 3 < n then g 3 else 0) (if 4 < n then g 4 else 0) (if 5 < n then g 5 else 0) (if 6 < n then g 6 else 0) (if 7 < n then g 7 else 0) (if 8 < n then g 8 else 0) (if 9 < n then g 9 else 0) (if 10 < n then g 10 else 0) (if 11 < n then g 11 else 0) (if 12 < n then g 12 else 0) x (n : Int) = some (mkDm g)
 | 0, n, _, _, hn, _ => by omega
 | d + 1, n, x, hn, hd', hx => by
  obtain ⟨e1, e2⟩ := rule_at h h0 h1
  unfold pgrow_L0
  by_cases h13 : n = 13
  ·subst h13
   rw [if_neg (by omega)]
   rfl
  have hlt : n < 13 := by omega
  rw [if_pos (by omega)]
  have ih := fun y hy => grow_go h hl h0 h1 ht hd g hg d (n + 1) y (by omega) (by omega) hy
  have hgo : ∀ v, v = g n → pgrow_L0 s p d (sti (n : Int) 0 v (if 0 < n then g 0 else 0)) (sti (n : Int) 1 v (if 1 < n then g 1 else 0)) (sti (n : Int) 2 v (if 2 < n then g 2 else 0)) (sti (n : Int) 3 v (if 3 < n then g 3 else 0)) (sti (n : Int) 4 v (if 4 < n then g 4 else 0)) (sti (n : Int) 5 v (if 5 < n then g 5 else 0)) (sti (n : Int) 6 v (if 6 < n then g 6 else 0)) (sti (n : Int) 7 v (if 7 < n then g 7 else 0)) (sti (n : Int) 8 v (if 8 < n then g 8 else 0)) (sti (n : Int) 9 v (if 9 < n then g 9 else 0)) (sti (n : Int) 10 v (if 10 < n then g 10 else 0)) (sti (n : Int) 11 v (if 11 < n then g 11 else 0)) (sti (n : Int) 12 v (if 12 < n then g 12 else 0)) v ((n : Int) + 1) = some (mkDm g) := fun v hv => by
   simp only [sti_at hv]
   exact ih v (by rw [if_neg (by omega)]; exact hv)
  by_cases hw : (n : Int) = p.t.Week
  ·rw [if_pos hw, gd_pos (by omega), gd_pos (fI (by omega))]
   exact hgo _ (by rw [hg, dmg_at hw.symm])
  rw [if_neg hw]
  have hgn : g n = x - x * (ruleOf s p.crop).getD n 0 / 100 := by
   cases n with
   | zero =>
    rw [hg, hx, if_pos rfl]
    unfold dmgN
    rw [if_neg (fun hh => hw hh.symm)]; simp
   | succ n =>
    rw [hg, hx, if_neg (by omega), show n + 1 - 1 = n by omega, hg]
    show (if _ then _ else _) = _
    rw [if_neg (fun hh => hw hh.symm)]
  have hxr : 0 ≤ x ∧ x ≤ p.t.Damage := by
   rw [hx]
   split
   ·omega
   ·rw [hg]; exact dmg_rng e2.okR hd.1 _
  by_cases hlast : (n : Int) ≤ s.Last
  ·have hr := e2.okR.at n
   have hlen := e2.1
   have hm := Int.mul_nonneg hxr.1 hr.1
   have hm2 := Int.mul_le_mul hxr.2 hr.2 hr.1 hd.1
   have hs := step_rng hxr.1 hr.1 hr.2
   rw [if_pos hlast, e1, Option.bind_some, rule_idx (by omega), Option.bind_some, gd_pos hxr.1, gd_pos hr.1]
   generalize hy : (ruleOf s p.crop).getD n 0 = r at *
   generalize hz : x * r = z at *
   rw [gd_pos (fI (by omega)), gd_pos hm, gd_pos (by omega), gd_pos (fI (by omega)), gd_pos (fI (by omega)), gd_pos (by omega), gd_pos (fI (by omega))]
   exact hgo _ hgn.symm
  ·have hlen := e2.1
   rw [if_neg hlast, gd_pos (by omega), gd_pos (fI (by omega))]
   refine hgo _ ?_
   rw [hgn, List.getD_eq_getElem?_getD, List.getElem?_eq_none (by omega)]
   simp
def dmOf (s : Ssn) (crop : Int) (t : Trh) : Dm := mkDm (dmgN (ruleOf s crop) t.Week t.Damage)
theorem grow_eq {s : Ssn} (h : VS0 s) (hl : s.Last ≤ 12) {p : Plt} (h0 : 0 ≤ p.crop) (h1 : p.crop < s.Rules.length) (ht : 0 ≤ p.t.Week) (hd : 0 ≤ p.t.Damage ∧ p.t.Damage ≤ 100) : pgrow s p = some (dmOf s p.crop p.t) :=
 grow_go h hl h0 h1 ht hd _ (fun _ => rfl) 14 0 0 (by omega) (by omega) rfl
theorem dm_at {s : Ssn} {c : Int} {t : Trh} {w : Int} (hw : 0 ≤ w ∧ w ≤ 12) : idx (dmL (dmOf s c t)) w = some (dmg s c t w) := by
 rw [show w = ((w.toNat : Nat) : Int) by omega, idx_nat]
 exact dmL_get _ (by omega)
def harv (s : Ssn) (crop : Int) (t : Trh) : Int := dmg s crop t s.Last
theorem dm_12 {s : Ssn} (h : VS0 s) (hl : s.Last ≤ 12) {c : Int} (h0 : 0 ≤ c) (h1 : c < s.Rules.length) {t : Trh} (ht : t.Week ≤ s.Last) : dmg s c t 12 = harv s c t := by
 have hv := (rule_at h h0 h1).2.1
 have hla := h.last
 have := dmg_after (r := ruleOf s c) (w := t.Week) (d := t.Damage) (n := s.Last.toNat) (by omega) (by omega) (12 - s.Last.toNat)
 unfold harv dmg
 rw [← this]
 congr 1
 show (12 : Int).toNat = _
 have : (12 : Int).toNat = 12 := rfl
 omega
theorem harvestD_eq {s : Ssn} (h : VS0 s) (hl : s.Last ≤ 12) {c : Int} (h0 : 0 ≤ c) (h1 : c < s.Rules.length) {t : Trh} (ht : t.Week ≤ s.Last) : pharvestD (dmOf s c t) = some (harv s c t) := by
 unfold pharvestD
 have e : idx (dmL (dmOf s c t)) 12 = some (harv s c t) := by rw [dm_at (by omega), dm_12 h hl h0 h1 ht]
 have e' : idx [(dmOf s c t).d0, (dmOf s c t).d1, (dmOf s c t).d2, (dmOf s c t).d3, (dmOf s c t).d4, (dmOf s c t).d5, (dmOf s c t).d6, (dmOf s c t).d7, (dmOf s c t).d8, (dmOf s c t).d9, (dmOf s c t).d10, (dmOf s c t).d11, (dmOf s c t).d12] (12 : Int) = some (harv s c t) := e
 rw [e', Option.bind_some]
def seenN (s : Ssn) (crop : Int) (t : Trh) (w : Int) : Int := min (t.Old + dmg s crop t w) 100
theorem seen_eq {s : Ssn} (h : VS0 s) {c : Int} (h0 : 0 ≤ c) (h1 : c < s.Rules.length) {t : Trh} (hd : 0 ≤ t.Damage ∧ t.Damage ≤ 100) (ho : 0 ≤ t.Old ∧ t.Old ≤ 100) {w : Int} (hw : 0 ≤ w ∧ w ≤ 12) : pseen ⟨t, dmOf s c t⟩ w = some (seenN s c t w) := by
 have hr := dmg_rng' h h0 h1 (t := t) hd.1 w
 unfold pseen
 have e' : idx [(dmOf s c t).d0, (dmOf s c t).d1, (dmOf s c t).d2, (dmOf s c t).d3, (dmOf s c t).d4, (dmOf s c t).d5, (dmOf s c t).d6, (dmOf s c t).d7, (dmOf s c t).d8, (dmOf s c t).d9, (dmOf s c t).d10, (dmOf s c t).d11, (dmOf s c t).d12] w = some (dmg s c t w) := dm_at hw
 dsimp only
 rw [e', Option.bind_some, gd_pos (fI (by omega))]; rfl
end
end Go.Proofs.Ytmlaphekbnanjaa

namespace Go.Proofs.Ytmlaphekbnanjaa
open _root_.Go.Proofs.Try
open Go.Abs Go.Abs.Grow
set_option maxRecDepth 100000
noncomputable section
def nums (r : Rg) : List Int := segI r.Lo (cnt r).toNat
theorem mem_nums {r : Rg} (h : r.Lo ≤ r.Hi) {x : Int} : x ∈ nums r ↔ inR r x := by
 unfold nums inR cnt
 rw [mem_segI]; omega
theorem nums_len {r : Rg} {lo hi : Int} (h : Wi r lo hi) {n : Nat} (hn : hi - lo + 1 ≤ n) : (nums r).length ≤ n := by
 have := cnt_rng h
 unfold nums; rw [segI_len]; omega
theorem numbers_go {r : Rg} {n : Int} (h : Wi r (-1000) 1000) (hn : n = cnt r) : ∀ (d k m : Nat), (k : Int) + m = n → m < d → pnumbersI_L0 r n d (k : Int) = some (segI (r.Lo + k) m)
 | 0, _, _, _, h => by omega
 | d + 1, k, 0, hk, _ => by
  unfold pnumbersI_L0
  rw [if_neg (by omega)]; rfl
 | d + 1, k, m + 1, hk, hd => by
  have hc := h
  unfold Wi at hc
  unfold cnt at hn
  unfold pnumbersI_L0
  rw [if_pos (by omega), gd_pos (fI (by omega)), gd_pos (fI (by omega)), show (k : Int) + 1 = ((k + 1 : Nat) : Int) by omega, numbers_go h (by unfold cnt; exact hn) d (k + 1) m (by omega) (by omega), Option.bind_some, show r.Lo + ((k + 1 : Nat) : Int) = r.Lo + k + 1 by omega]
  rfl
theorem numbers_eq {r : Rg} (h : Wi r (-1000) 1000) : pnumbers r = some (nums r) := by
 have hc := h
 unfold Wi at hc
 have hcn : 0 < cnt r := by unfold cnt; omega
 unfold pnumbers pnumbersI
 rw [count_eq h, Option.bind_some]
 have := numbers_go h rfl ((cnt r).toNat + 1) 0 (cnt r).toNat (by omega) (by omega)
 rw [show ((0 : Nat) : Int) = 0 by rfl] at this
 rw [this, Option.bind_some]
 unfold nums
 rw [Int.add_zero]
def chL (f : Fld) : List Trh := (nums f.Week).flatMap fun w => (nums f.Damage).flatMap fun d => (nums f.Old).map fun o => ⟨w, d, o⟩
theorem mem_chL {s : Ssn} {f : Fld} (h : VF s f) {t : Trh} : t ∈ chL f ↔ IsT f t := by
 have h1 := h.wk; have h2 := h.dm; have h3 := h.old
 unfold Wi at h1 h2 h3
 unfold chL IsT
 rw [List.mem_flatMap]
 constructor
 ·rintro ⟨w, hw, ht⟩
  obtain ⟨d, hd, ht⟩ := List.mem_flatMap.1 ht
  obtain ⟨o, ho, rfl⟩ := List.mem_map.1 ht
  exact ⟨(mem_nums (by omega)).1 hw, (mem_nums (by omega)).1 hd, (mem_nums (by omega)).1 ho⟩
 ·rintro ⟨a, b, c⟩
  exact ⟨t.Week, (mem_nums (by omega)).2 a, List.mem_flatMap.2 ⟨t.Damage, (mem_nums (by omega)).2 b, List.mem_map.2 ⟨t.Old, (mem_nums (by omega)).2 c, rfl⟩⟩⟩
theorem flatMap_len {α β : Type} {f : α → List β} {B : Nat} : ∀ {l : List α}, (∀ x ∈ l, (f x).length ≤ B) → (l.flatMap f).length ≤ l.length * B
 | [], _ => by simp
 | a :: l, h => by
  rw [List.flatMap_cons, List.length_append, List.length_cons, Nat.add_mul, Nat.one_mul, Nat.add_comm]
  exact Nat.add_le_add (flatMap_len fun x hx => h x (List.mem_cons_of_mem _ hx)) (h a (List.mem_cons_self ..))
theorem chL_len {s : Ssn} {f : Fld} (h : VF s f) (hl : s.Last ≤ 12) : (chL f).length ≤ 132613 := by
 have h1 := nums_len h.wk (n := 13) (by omega)
 have h2 := nums_len h.dm (n := 101) (by omega)
 have h3 := nums_len h.old (n := 101) (by omega)
 have q1 : ∀ w : Int, ((nums f.Damage).flatMap fun d => (nums f.Old).map fun o => (⟨w, d, o⟩ : Trh)).length ≤ 10201 := fun w => by
  have := flatMap_len (l := nums f.Damage) (f := fun d => (nums f.Old).map fun o => (⟨w, d, o⟩ : Trh)) (B := 101) fun d _ => by rw [List.length_map]; exact h3
  have h4 : (nums f.Damage).length * 101 ≤ 101 * 101 := Nat.mul_le_mul_right _ h2
  omega
 have q2 := flatMap_len (l := nums f.Week) (f := fun w => (nums f.Damage).flatMap fun d => (nums f.Old).map fun o => (⟨w, d, o⟩ : Trh)) (B := 10201) fun w _ => q1 w
 have h4 : (nums f.Week).length * 10201 ≤ 13 * 10201 := Nat.mul_le_mul_right _ h1
 unfold chL; omega
def Good (s : Ssn) (D : Plt → Prop) (m : Option (Plt → Option Dm)) : Prop := ∃ g, m = some g ∧ ∀ p, D p → g p = some (dmOf s p.crop p.t)
theorem Good.mono {s : Ssn} {D D' : Plt → Prop} {m : Option (Plt → Option Dm)} (h : Good s D m) (hD : ∀ p, D' p → D p) : Good s D' m := by
 obtain ⟨g, h1, h2⟩ := h
 exact ⟨g, h1, fun p hp => h2 p (hD p hp)⟩
theorem Good.set {s : Ssn} {D : Plt → Prop} {m : Option (Plt → Option Dm)} (h : Good s D m) (p : Plt) : ∃ m', mset m p (dmOf s p.crop p.t) = some m' ∧ Good s (fun q => D q ∨ q = p) m' := by
 obtain ⟨g, rfl, h2⟩ := h
 refine ⟨_, rfl, _, rfl, fun q hq => ?_⟩
 by_cases hqp : q = p
 ·rw [if_pos hqp, hqp]
 ·rw [if_neg hqp]
  exact h2 q (hq.elim id fun h => absurd h hqp)
theorem open_L2 {s : Ssn} (h : VS0 s) (hl : s.Last ≤ 12) (hr3 : s.Rules.length ≤ 3) {f : Fld} (hf : VF s f) {w : Int} (hw : 0 ≤ w ∧ w ≤ s.Last) {K : Option (Plt → Option Dm) → Option Wk} {R : Option Wk → Prop} : ∀ (ds : List Int) (D : Plt → Prop) (m : Option (Plt → Option Dm)), (∀ d ∈ ds, 0 ≤ d ∧ d ≤ 100) → Good s D m →
  (∀ m', Good s (fun q => D q ∨ ∃ d ∈ ds, q = ⟨⟨w, d, 0⟩, f.Crop⟩) m' → R (K m')) → R (popen_L2 s f w K ds m)
 | [], D, m, _, hm, hK => hK m (hm.mono fun p hp => hp.elim id fun ⟨d, hd, _⟩ => by cases hd)
 | d :: ds, D, m, hd, hm, hK => by
  have hc := hf.crp
  have h1 := hd d (List.mem_cons_self ..)
  unfold popen_L2
  obtain ⟨m', h2, h3⟩ := hm.set ⟨⟨w, d, 0⟩, f.Crop⟩
  rw [show pplant f w d = some ⟨⟨w, d, 0⟩, f.Crop⟩ from rfl, Option.bind_some, grow_eq h hl hc.1 hc.2 hw.1 h1, Option.bind_some, gd_pos ⟨fI (by dsimp only; omega), fI (by dsimp only; omega), fI (by dsimp only; omega), fI (by dsimp only; omega), trivial⟩, h2, Option.bind_some]
  refine open_L2 h hl hr3 hf hw ds _ m' (fun x hx => hd x (List.mem_cons_of_mem _ hx)) h3 fun m'' hm'' => hK m'' (hm''.mono fun p hp => ?_)
  rcases hp with hp | ⟨x, hx, hp⟩
  ·exact .inl (.inl hp)
  ·rcases List.mem_cons.1 hx with rfl | hx
   ·exact .inl (.inr hp)
   ·exact .inr ⟨x, hx, hp⟩
theorem open_L1 {s : Ssn} (h : VS0 s) (hl : s.Last ≤ 12) (hr3 : s.Rules.length ≤ 3) {f : Fld} (hf : VF s f) {x : Int} (hx : fitsP .i64 (x + 1)) {K : Option (Plt → Option Dm) → Int → Option Wk} {R : Option Wk → Prop} : ∀ (ws : List Int) (D : Plt → Prop) (m : Option (Plt → Option Dm)), (∀ w ∈ ws, 0 ≤ w ∧ w ≤ s.Last) → Good s D m →
  (∀ m', Good s (fun q => D q ∨ ∃ w ∈ ws, ∃ d, inR f.Damage d ∧ q = ⟨⟨w, d, 0⟩, f.Crop⟩) m' → R (K m' (x + 1))) → R (popen_L1 s x f K ws m)
 | [], D, m, _, hm, hK => by
  unfold popen_L1
  rw [gd_pos hx]
  exact hK m (hm.mono fun p hp => hp.elim id fun ⟨d, hd, _⟩ => by cases hd)
 | w :: ws, D, m, hw, hm, hK => by
  have hd := hf.dm
  have hdw := hd.w (by omega) (by omega)
  unfold popen_L1
  rw [numbers_eq hdw, Option.bind_some]
  unfold Wi at hd
  refine open_L2 h hl hr3 hf (hw w (List.mem_cons_self ..)) (nums f.Damage) D m (fun d hd' => ?_) hm fun m' hm' => ?_
  ·have := (mem_nums (by omega)).1 hd'
   unfold inR at this; omega
  ·refine open_L1 h hl hr3 hf hx ws _ m' (fun y hy => hw y (List.mem_cons_of_mem _ hy)) hm' fun m'' hm'' => hK m'' (hm''.mono fun p hp => ?_)
   rcases hp with hp | ⟨y, hy, d, hdd, hp⟩
   ·exact .inl (.inl hp)
   ·rcases List.mem_cons.1 hy with rfl | hy
    ·exact .inl (.inr ⟨d, (mem_nums (by omega)).2 hdd, hp⟩)
    ·exact .inr ⟨y, hy, d, hdd, hp⟩
def DomF (l : List Fld) (q : Plt) : Prop := ∃ f ∈ l, ∃ w, inR f.Week w ∧ ∃ d, inR f.Damage d ∧ q = ⟨⟨w, d, 0⟩, f.Crop⟩
theorem open_L0 {s : Ssn} (h : VS0 s) (hl : s.Last ≤ 12) (hr3 : s.Rules.length ≤ 3) (h3 : s.Fields.length ≤ 3) : ∀ (d k : Nat) (m : Option (Plt → Option Dm)), k ≤ s.Fields.length → s.Fields.length - k < d → Good s (DomF (s.Fields.take k)) m →
  ∃ m', popen_L0 s d m (k : Int) = some ⟨s, m'⟩ ∧ Good s (DomF s.Fields) m'
 | 0, k, m, _, hd, _ => by omega
 | d + 1, k, m, hk, hd, hm => by
  unfold popen_L0
  by_cases hkn : k = s.Fields.length
  ·subst hkn
   rw [if_neg (Int.lt_irrefl _)]
   exact ⟨m, rfl, by rw [List.take_length] at hm; exact hm⟩
  have hlt : k < s.Fields.length := by omega
  have hg := List.getElem?_eq_getElem hlt
  have hf := h.flds _ (List.getElem_mem hlt)
  generalize hfe : s.Fields[k] = f at hg hf
  have hwk := hf.wk
  rw [if_pos (by omega), idx_at hg, Option.bind_some, numbers_eq (hwk.w (by omega) (by omega)), Option.bind_some]
  unfold Wi at hwk
  refine open_L1 (R := fun o => ∃ m', o = some ⟨s, m'⟩ ∧ Good s (DomF s.Fields) m') h hl hr3 hf (fI (by omega)) (nums f.Week) _ m (fun w hw => ?_) hm fun m' hm' => ?_
  ·have := (mem_nums (by omega)).1 hw
   unfold inR at this; omega
  ·rw [show (k : Int) + 1 = ((k + 1 : Nat) : Int) by omega]
   refine open_L0 h hl hr3 h3 d (k + 1) m' (by omega) (by omega) (hm'.mono fun p hp => ?_)
   obtain ⟨f', hf', w, hw, x, hx, hp⟩ := hp
   rw [List.take_add_one, hg] at hf'
   rcases List.mem_append.1 hf' with hf' | hf'
   ·exact .inl ⟨f', hf', w, hw, x, hx, hp⟩
   ·have : f' = f := by simpa using hf'
    subst this
    exact .inr ⟨w, (mem_nums (by omega)).2 hw, x, hx, hp⟩
theorem open_eq {s : Ssn} (h : VS s) : ∃ m, popen s = some ⟨s, m⟩ ∧ Good s (DomF s.Fields) m := by
 obtain ⟨h1, h2, h3, h4⟩ := not_many h.many
 exact open_L0 h.toVS0 h1 h2 h3 (s.Fields.length + 1) 0 _ (Nat.zero_le _) (by omega) ⟨_, rfl, fun p hp => by obtain ⟨f, hf, _⟩ := hp; cases hf⟩
def crs (s : Ssn) (c : Int) (t : Trh) : Crs := ⟨t, dmOf s c t⟩
theorem ch_L3 {w d : Int} {dm : Dm} {r : List Crs} : ∀ os : List Int, pchoicesI_L3 w d dm (some r) os = some (os.map (fun o => ⟨⟨w, d, o⟩, dm⟩) ++ r)
 | [] => rfl
 | o :: os => by unfold pchoicesI_L3; rw [ch_L3 os, Option.bind_some]; rfl
theorem ch_L1 {s : Ssn} {W : Wk} {f : Fld} (hm : Good s (DomF s.Fields) W.damages) (hf : f ∈ s.Fields) (hv : VF s f) (hl : s.Last ≤ 12) (h3 : s.Rules.length ≤ 3) {w : Int} (hw : inR f.Week w) {r : List Crs} : ∀ ds : List Int, (∀ d ∈ ds, inR f.Damage d) →
  pchoicesI_L1 f W w (some r) ds = some ((ds.flatMap fun d => (nums f.Old).map fun o => crs s f.Crop ⟨w, d, o⟩) ++ r)
 | [], _ => rfl
 | d :: ds, hd => by
  have h1 := hd d (List.mem_cons_self ..)
  have hwk := hv.wk; have hdm := hv.dm; have hcr := hv.crp
  unfold Wi at hwk hdm
  have hw' := hw
  have h1' := h1
  unfold inR at hw' h1'
  obtain ⟨g, hg1, hg2⟩ := id hm
  have hget : mget W.damages ⟨⟨w, d, 0⟩, f.Crop⟩ = some (dmOf s f.Crop ⟨w, d, 0⟩) := by rw [hg1]; exact hg2 _ ⟨f, hf, w, hw, d, h1, rfl⟩
  unfold pchoicesI_L1
  rw [show pplant f w d = some ⟨⟨w, d, 0⟩, f.Crop⟩ from rfl, Option.bind_some, gd_pos ⟨fI (by dsimp only; omega), fI (by dsimp only; omega), fI (by dsimp only; omega), fI (by dsimp only; omega), trivial⟩, mcase_some hget, numbers_eq (hv.old.w (by omega) (by omega)), Option.bind_some, ch_L1 hm hf hv hl h3 hw ds fun x hx => hd x (List.mem_cons_of_mem _ hx), ch_L3, List.flatMap_cons, List.append_assoc]
  rfl
theorem ch_L0 {s : Ssn} {W : Wk} {f : Fld} (hm : Good s (DomF s.Fields) W.damages) (hf : f ∈ s.Fields) (hv : VF s f) (hl : s.Last ≤ 12) (h3 : s.Rules.length ≤ 3) : ∀ ws : List Int, (∀ w ∈ ws, inR f.Week w) →
  pchoicesI_L0 f W ws = some ((ws.flatMap fun w => (nums f.Damage).flatMap fun d => (nums f.Old).map fun o => crs s f.Crop ⟨w, d, o⟩))
 | [], _ => rfl
 | w :: ws, hw => by
  have hdm := hv.dm
  unfold Wi at hdm
  unfold pchoicesI_L0
  rw [numbers_eq (hv.dm.w (by omega) (by omega)), Option.bind_some, ch_L0 hm hf hv hl h3 ws fun x hx => hw x (List.mem_cons_of_mem _ hx), ch_L1 hm hf hv hl h3 (hw w (List.mem_cons_self ..)) _ fun d hd => (mem_nums (by omega)).1 hd]
  rfl
theorem choices_eq {s : Ssn} {W : Wk} {f : Fld} (hm : Good s (DomF s.Fields) W.damages) (hf : f ∈ s.Fields) (hv : VF s f) (hl : s.Last ≤ 12) (h3 : s.Rules.length ≤ 3) : pchoices W f = some ((chL f).map (crs s f.Crop)) := by
 have hwk := hv.wk
 unfold Wi at hwk
 unfold pchoices pchoicesI
 rw [numbers_eq (hv.wk.w (by omega) (by omega)), Option.bind_some, ch_L0 hm hf hv hl h3 _ fun w hw => (mem_nums (by omega)).1 hw, Option.bind_some]
 congr 1
 unfold chL
 rw [List.map_flatMap]
 congr 1
 funext w
 rw [List.map_flatMap]
 congr 1
 funext d
 rw [List.map_map]; rfl
def okV (s : Ssn) (V : List Vis) (k : Int) (t : Trh) : Prop := ∀ v ∈ V, v.Field = k → inR v.Seen (seenN s (fldAt s k).Crop t v.Week)
def TR (s : Ssn) (V : List Vis) (k : Int) (t : Trh) : Prop := IsT (fldAt s k) t ∧ okV s V k t
open Classical in
def TL (s : Ssn) (V : List Vis) (k : Int) : List Trh := (chL (fldAt s k)).filter fun t => decide (okV s V k t)
structure WOk (s : Ssn) (V : List Vis) (W : Wk) : Prop where
 vs : VS s
 ss : W.s = { s with Visits := V }
 m : Good s (DomF s.Fields) W.damages
 v : ∀ v ∈ V, VV s v
 len : V.length ≤ 6
open Classical in
theorem mem_TL {s : Ssn} (h : VS s) {V : List Vis} {k : Int} (hk : FieldOk s k) {t : Trh} : t ∈ TL s V k ↔ TR s V k t := by
 unfold TL TR
 rw [List.mem_filter, mem_chL (h.vf hk), decide_eq_true_eq]
theorem TL_len {s : Ssn} (h : VS s) {V : List Vis} {k : Int} (hk : FieldOk s k) : (TL s V k).length ≤ 132613 := by
 unfold TL
 exact Nat.le_trans (List.length_filter_le _ _) (chL_len (h.vf hk) (not_many h.many).1)
theorem allows_ev {s : Ssn} (h : VS s) {V : List Vis} (hV : ∀ v ∈ V, VV s v) (hn : V.length ≤ 6) {k : Int} (hk : FieldOk s k) {t : Trh} (ht : IsT (fldAt s k) t) : Ev (pallows { s with Visits := V } k (crs s (fldAt s k).Crop t)) (okV s V k t) := by
 obtain ⟨h1, _⟩ := not_many h.many
 have hf := h.vf hk
 obtain ⟨q1, q2, q3⟩ := ht.rng hf
 refine (eachV_ev (q := fun v => v.Field = k → inR v.Seen (seenN s (fldAt s k).Crop t v.Week)) (fun v hv => ?_) (fewS hn (by omega))).ret
 unfold pallows1
 by_cases hvk : v.Field = k
 ·rw [if_pos hvk, show pseen (crs s (fldAt s k).Crop t) v.Week = _ from seen_eq h.toVS0 hf.crp.1 hf.crp.2 q2 q3 (by have := (hV v hv).2.1; omega), Option.bind_some]
  exact has_ev.ret.imp ⟨fun h _ => h, fun h => h hvk⟩
 ·rw [if_neg hvk]; exact Ev.tt fun h => absurd h hvk
open Classical in
theorem truths_L0 {s : Ssn} {V : List Vis} {W : Wk} (h : WOk s V W) {k : Int} (hk : FieldOk s k) : ∀ l : List Trh, (∀ t ∈ l, IsT (fldAt s k) t) → ptruthsI_L0 W k (l.map (crs s (fldAt s k).Crop)) = some ((l.filter fun t => decide (okV s V k t)).map (crs s (fldAt s k).Crop))
 | [], _ => rfl
 | t :: l, ht => by
  have ih := truths_L0 h hk l fun x hx => ht x (List.mem_cons_of_mem _ hx)
  rw [List.map_cons]
  unfold ptruthsI_L0
  rw [h.ss, (allows_ev h.vs h.v h.len hk (ht t (List.mem_cons_self ..))).eqd, Option.bind_some, ih]
  by_cases ho : okV s V k t
  ·rw [decide_eq_true ho, if_pos rfl, List.filter_cons_of_pos (by simpa using ho)]; rfl
  ·rw [decide_eq_false ho, if_neg (by simp), List.filter_cons_of_neg (by simpa using ho)]
theorem truths_eq {s : Ssn} {V : List Vis} {W : Wk} (h : WOk s V W) {k : Int} (hk : FieldOk s k) : ptruths W k = some ((TL s V k).map (crs s (fldAt s k).Crop)) := by
 obtain ⟨h1, h2, _⟩ := not_many h.vs.many
 have hf := h.vs.vf hk
 unfold ptruths ptruthsI
 rw [h.ss]
 rw [show idx ({ s with Visits := V } : Ssn).Fields k = some (fldAt s k) from (fld_at hk).1, Option.bind_some, choices_eq h.m (fld_at hk).2 hf h1 h2, Option.bind_some, truths_L0 h hk _ fun t ht => (mem_chL hf).1 ht, Option.bind_some]; rfl
def HTf (s : Ssn) (V : List Vis) (k : Int) : Prop := ∃ t, TR s V k t
def HT (s : Ssn) (V : List Vis) : Prop := ∀ k, FieldOk s k → HTf s V k
theorem TL_ne {s : Ssn} (h : VS s) {V : List Vis} {k : Int} (hk : FieldOk s k) : TL s V k ≠ [] ↔ HTf s V k := by
 constructor
 ·intro hn
  obtain ⟨t, ht⟩ := List.exists_mem_of_ne_nil _ hn
  exact ⟨t, (mem_TL h hk).1 ht⟩
 ·rintro ⟨t, ht⟩ hn
  have := (mem_TL h hk).2 ht
  rw [hn] at this; cases this
theorem hasTruthOf_ev {s : Ssn} {V : List Vis} {W : Wk} (h : WOk s V W) {k : Int} (hk : FieldOk s k) : Ev (phasTruthOf W k) (HTf s V k) := by
 unfold phasTruthOf
 rw [truths_eq h hk, Option.bind_some]
 have hn := TL_ne h.vs (V := V) hk
 cases hl : TL s V k with
 | nil => rw [hl] at hn; exact Ev.ff fun hh => (hn.2 hh) rfl
 | cons t l => rw [hl] at hn; exact Ev.tt (hn.1 (by simp))
theorem hasTruth_ev {s : Ssn} {V : List Vis} {W : Wk} (h : WOk s V W) : Ev (phasTruth W) (HT s V) := by
 obtain ⟨h1, h2, h3, h4⟩ := not_many h.vs.many
 have e : W.s.Fields = s.Fields := by rw [h.ss]
 unfold phasTruth
 rw [e]
 have key := loopAll_tt (n := s.Fields.length) (F := phasTruth_L0 W) (ok := fun j => HTf s V (j : Int)) (bad := some false) (fin := some true) (fun d k hk => by
  rw [phasTruth_L0, e, if_pos (by omega)]
  exact (hasTruthOf_ev h (k := (k : Int)) ⟨by omega, by omega⟩).step (by rw [if_pos rfl, gd_pos (fI (by omega))]) (by rw [if_neg (by simp)])) (fun d => by rw [phasTruth_L0, e, if_neg (Int.lt_irrefl _)]) (d := s.Fields.length + 1) (by omega)
 have hiff : (∀ j, j < s.Fields.length → HTf s V (j : Int)) ↔ HT s V := ⟨fun q k hk => by
  unfold FieldOk at hk
  have := q k.toNat (by omega)
  rwa [show ((k.toNat : Nat) : Int) = k by omega] at this, fun q j hj => q j ⟨by omega, by omega⟩⟩
 rw [hiff] at key
 by_cases hh : HT s V
 ·rw [key.1 hh]; exact Ev.tt hh
 ·rw [key.2 hh]; exact Ev.ff hh
theorem WOk.of {s : Ssn} (h : VS s) {m : Option (Plt → Option Dm)} (hm : Good s (DomF s.Fields) m) : WOk s s.Visits ⟨s, m⟩ := ⟨h, rfl, hm, h.vis, (not_many h.many).2.2.2⟩
theorem WOk.wth {s : Ssn} {V V' : List Vis} {W : Wk} (h : WOk s V W) (hv : ∀ v ∈ V', VV s v) (hn : V'.length ≤ 6) : ∃ W', pwth W V' = some W' ∧ WOk s V' W' := ⟨_, rfl, h.vs, by rw [h.ss], h.m, hv, hn⟩
def wk0 : Wk := { s := ({ Last := (0 : Int), Rules := [], Fields := [], Visits := [] } : Ssn), damages := none }
theorem openTrue_ok {s : Ssn} (h : VS s) (ht : HT s s.Visits) : ∃ W, popenTrue s = some (W, 0) ∧ WOk s s.Visits W := by
 obtain ⟨m, h1, h2⟩ := open_eq h
 have hw := WOk.of h h2
 refine ⟨_, ?_, hw⟩
 unfold popenTrue
 rw [check_eq, fault_zero.2 h, Option.bind_some, if_pos rfl, h1, Option.bind_some, (hasTruth_ev hw).some_of ht, Option.bind_some, if_pos rfl]
theorem openTrue_no {s : Ssn} (h : VS s) (ht : ¬ HT s s.Visits) : popenTrue s = some (wk0, 11) := by
 obtain ⟨m, h1, h2⟩ := open_eq h
 have hw := WOk.of h h2
 unfold popenTrue
 rw [check_eq, fault_zero.2 h, Option.bind_some, if_pos rfl, h1, Option.bind_some, (hasTruth_ev hw).some_not ht, Option.bind_some, if_neg (by simp)]; rfl
end
end Go.Proofs.Ytmlaphekbnanjaa

namespace Go.Proofs.Ytmlaphekbnanjaa
open _root_.Go.Proofs.Try
open Go.Abs Go.Abs.Grow
set_option maxRecDepth 100000
noncomputable section
theorem minimum_eq {l : List Int} (h : l ≠ []) (hl : shrt l) : pminimum l = some (minL l) := by
 have hl := hl.lt
 cases l with
 | nil => exact absurd rfl h
 | cons x l =>
  unfold pminimum
  rw [if_neg (by simp; omega), idx_zero rfl, Option.bind_some]
  have key := loopFold (l := x :: l) (fun s a => min s a) (fun d s k => pminimum_L0 (x :: l) d s k) some (fun d k s a ha => by
   have hk := (List.getElem?_eq_some_iff.1 ha).1
   rw [pminimum_L0, if_pos (by omega), idx_at ha, Option.bind_some]
   by_cases hc : a < s
   ·rw [if_pos hc, gd_pos (fI (by omega)), Int.min_eq_right (by omega)]
   ·rw [if_neg hc, gd_pos (fI (by omega)), Int.min_eq_left (by omega)]) (fun d s => by rw [pminimum_L0, if_neg (Int.lt_irrefl _)]) ((x :: l).length + 1) 0 x (Nat.zero_le _) (by omega)
  refine key.trans ?_
  rw [List.drop_zero]
  show some (l.foldl min (min x x)) = _
  rw [Int.min_self]; rfl
theorem max_eq {l : List Int} (h : l ≠ []) (hl : shrt l) : psMax l = some (maxL l) := by
 have hl := hl.lt
 cases l with
 | nil => exact absurd rfl h
 | cons x l =>
  unfold psMax
  rw [if_neg (by simp; omega), idx_zero rfl, Option.bind_some]
  have key := loopFold (l := x :: l) (fun s a => max s a) (fun d s k => psMax_L0 (x :: l) d s k) some (fun d k s a ha => by
   have hk := (List.getElem?_eq_some_iff.1 ha).1
   rw [psMax_L0, if_pos (by omega), idx_at ha, Option.bind_some, gd_pos (fI (by omega))]) (fun d s => by rw [psMax_L0, if_neg (Int.lt_irrefl _)]) ((((x :: l).length : Int) - 1).toNat + 1) 1 x (by simp) (by simp only [List.length_cons]; omega)
  exact key
def Of (s : Ssn) (V : List Vis) (k : Int) (h : Trh → Int) : Int → Prop := fun x => ∃ t, TR s V k t ∧ h t = x
theorem span_L0 {q : Qn} {g : Crs → Trh} {h : Trh → Int} : ∀ (l : List Crs) (acc : List Int), (∀ c ∈ l, q.number c = some (h (g c))) → acc.length + l.length < 1048576 → acc ++ l.map (fun c => h (g c)) ≠ [] →
  pspan_L0 q l acc = some ⟨minL (acc ++ l.map (fun c => h (g c))), maxL (acc ++ l.map (fun c => h (g c)))⟩
 | [], acc, _, hl, hne => by
  unfold pspan_L0
  rw [List.map_nil, List.append_nil] at hne ⊢
  simp only [List.length_nil] at hl
  rw [minimum_eq hne (by unfold shrt; omega), Option.bind_some, max_eq hne (by unfold shrt; omega), Option.bind_some]
 | c :: l, acc, hq, hl, hne => by
  simp only [List.length_cons] at hl
  unfold pspan_L0
  rw [hq c (List.mem_cons_self ..), Option.bind_some, gd_pos (by omega), span_L0 l (acc ++ [h (g c)]) (fun x hx => hq x (List.mem_cons_of_mem _ hx)) (by rw [List.length_append]; simp only [List.length_cons, List.length_nil]; omega) (by simp), List.append_assoc]
  rfl
theorem span_eq {s : Ssn} {V : List Vis} {W : Wk} (hw : WOk s V W) {k : Int} (hk : FieldOk s k) (ht : HTf s V k) {q : Qn} {h : Trh → Int} (hq : ∀ t, TR s V k t → q.number (crs s (fldAt s k).Crop t) = some (h t)) :
  ∃ lo hi, pspan W k q = some ⟨lo, hi⟩ ∧ Spn (Of s V k h) lo hi := by
 have hne := (TL_ne hw.vs (V := V) hk).2 ht
 have hlen := TL_len hw.vs (V := V) hk
 have hne2 : [] ++ ((TL s V k).map (crs s (fldAt s k).Crop)).map (fun c => h c.t) ≠ [] := by simpa using hne
 have hmem : ∀ x, x ∈ ([] : List Int) ++ ((TL s V k).map (crs s (fldAt s k).Crop)).map (fun c => h c.t) ↔ Of s V k h x := fun x => by
  rw [List.nil_append, List.map_map, List.mem_map]
  exact ⟨fun ⟨t, h1, h2⟩ => ⟨t, (mem_TL hw.vs hk).1 h1, h2⟩, fun ⟨t, h1, h2⟩ => ⟨t, (mem_TL hw.vs hk).2 h1, h2⟩⟩
 refine ⟨_, _, ?_, (hmem _).1 (minL_mem hne2).1, (hmem _).1 (maxL_mem hne2).1, fun x hx => ⟨(minL_mem hne2).2 x ((hmem x).2 hx), (maxL_mem hne2).2 x ((hmem x).2 hx)⟩⟩
 unfold pspan
 rw [truths_eq hw hk, Option.bind_some, span_L0 (g := fun c => c.t) (h := h) _ [] (fun c hc => by
  obtain ⟨t, h1, rfl⟩ := List.mem_map.1 hc
  exact hq t ((mem_TL hw.vs hk).1 h1)) (by rw [List.length_map]; simp only [List.length_nil]; omega) hne2]
structure BOk (s : Ssn) (V : List Vis) (k : Int) (b : Bnd) : Prop where
 wk : Spn (Of s V k fun t => t.Week) b.Week.Lo b.Week.Hi
 dm : Spn (Of s V k fun t => t.Damage) b.Damage.Lo b.Damage.Hi
 old : Spn (Of s V k fun t => t.Old) b.Old.Lo b.Old.Hi
 hv : Spn (Of s V k fun t => harv s (fldAt s k).Crop t) b.Harvest.Lo b.Harvest.Hi
theorem TR.rng {s : Ssn} (h : VS s) {V : List Vis} {k : Int} (hk : FieldOk s k) {t : Trh} (ht : TR s V k t) : (0 ≤ t.Week ∧ t.Week ≤ s.Last) ∧ (0 ≤ t.Damage ∧ t.Damage ≤ 100) ∧ (0 ≤ t.Old ∧ t.Old ≤ 100) := ht.1.rng (h.vf hk)
theorem bound_eq {s : Ssn} {V : List Vis} {W : Wk} (hw : WOk s V W) {k : Int} (hk : FieldOk s k) (ht : HTf s V k) : ∃ b, pbound W k = some b ∧ BOk s V k b := by
 have hf := hw.vs.vf hk
 have hl := (not_many hw.vs.many).1
 unfold pbound
 obtain ⟨a1, a2, a3, a4⟩ := span_eq hw hk ht (q := ⟨fun a => pcWeek a⟩) (h := fun t => t.Week) (fun t _ => rfl)
 obtain ⟨b1, b2, b3, b4⟩ := span_eq hw hk ht (q := ⟨fun a => pcDamage a⟩) (h := fun t => t.Damage) (fun t _ => rfl)
 obtain ⟨c1, c2, c3, c4⟩ := span_eq hw hk ht (q := ⟨fun a => pcOld a⟩) (h := fun t => t.Old) (fun t _ => rfl)
 obtain ⟨d1, d2, d3, d4⟩ := span_eq hw hk ht (q := ⟨fun a => pharvestD a.d⟩) (h := fun t => harv s (fldAt s k).Crop t) (fun t h => harvestD_eq hw.vs.toVS0 hl hf.crp.1 hf.crp.2 (h.rng hw.vs hk).1.2)
 rw [a3, Option.bind_some, b3, Option.bind_some, c3, Option.bind_some, d3, Option.bind_some]
 exact ⟨_, rfl, a4, b4, c4, d4⟩
theorem Bounds_ok {s : Ssn} (h : VS s) (ht : HT s s.Visits) : ∃ l, pBounds s = some (l, 0) ∧ l.length = s.Fields.length ∧ ∀ (j : Nat) b, l[j]? = some b → BOk s s.Visits (j : Int) b := by
 obtain ⟨W, h1, hw⟩ := openTrue_ok h ht
 have e : W.s.Fields = s.Fields := by rw [hw.ss]
 obtain ⟨_, _, h3, _⟩ := not_many h.many
 unfold pBounds
 rw [h1, Option.bind_some, if_pos rfl]
 show ∃ l, pBounds_L0 (W, 0) (W.s.Fields.length + 1) [] 0 = _ ∧ _
 have key : ∀ (d k : Nat) (acc : List Bnd), k ≤ s.Fields.length → s.Fields.length - k < d → acc.length = k → (∀ (j : Nat) b, acc[j]? = some b → BOk s s.Visits (j : Int) b) → ∃ l, pBounds_L0 (W, 0) d acc (k : Int) = some (l, 0) ∧ l.length = s.Fields.length ∧ ∀ (j : Nat) b, l[j]? = some b → BOk s s.Visits (j : Int) b := by
  intro d
  induction d with
  | zero => intro k acc _ h; omega
  | succ d ih =>
   intro k acc hk hd hlen hacc
   unfold pBounds_L0
   dsimp only
   rw [e]
   by_cases hkn : k = s.Fields.length
   ·rw [if_neg (by omega)]
    exact ⟨acc, rfl, by omega, hacc⟩
   ·have hfk : FieldOk s (k : Int) := ⟨by omega, by omega⟩
    obtain ⟨b, hb1, hb2⟩ := bound_eq hw hfk (ht _ hfk)
    rw [if_pos (by omega), hb1, Option.bind_some, gd_pos (by omega), gd_pos (fI (by omega)), show (k : Int) + 1 = ((k + 1 : Nat) : Int) by omega]
    refine ih (k + 1) (acc ++ [b]) (by omega) (by omega) (by simp [hlen]) fun j b' hj => ?_
    rcases Nat.lt_or_ge j acc.length with hj2 | hj2
    ·rw [List.getElem?_append_left hj2] at hj
     exact hacc j b' hj
    ·rw [List.getElem?_append_right hj2] at hj
     have hjl := (List.getElem?_eq_some_iff.1 hj).1
     simp only [List.length_cons, List.length_nil] at hjl
     have : j = k := by omega
     subst this
     rw [hlen, Nat.sub_self] at hj
     cases hj
     exact hb2
 rw [e]
 exact key (s.Fields.length + 1) 0 [] (Nat.zero_le _) (by omega) rfl fun j b hj => by simp at hj
theorem Bounds_no {s : Ssn} (h : VS s) (ht : ¬ HT s s.Visits) : pBounds s = some ([], 11) := by
 unfold pBounds
 rw [openTrue_no h ht, Option.bind_some, if_neg (by decide)]
end
end Go.Proofs.Ytmlaphekbnanjaa

namespace Go.Proofs.Ytmlaphekbnanjaa
open _root_.Go.Proofs.Try
open Go.Abs Go.Abs.Grow
set_option maxRecDepth 100000
noncomputable section
open Classical in
def SB (s : Ssn) (k : Int) (t : Trh) (i : Nat) : Bool := decide (∀ v, s.Visits[i]? = some v → v.Field = k → inR v.Seen (seenN s (fldAt s k).Crop t v.Week))
end
end Go.Proofs.Ytmlaphekbnanjaa

namespace Go.Proofs.Ytmlaphekbnanjaa
open _root_.Go.Proofs.Try
open Go.Abs Go.Abs.Grow
set_option maxRecDepth 100000
noncomputable section
theorem aw : pawake = some true := rfl
def ThinN (s : Ssn) : Prop := s.Rules.length ≤ 5 ∧ s.Fields.length ≤ 5 ∧ s.Visits.length ≤ 9 ∧ (∀ l ∈ s.Rules, l.length ≤ 20) ∧ (faultN s = 0 → ∀ f ∈ s.Fields, manyN f ≤ 200)
def OkS (s : Ssn) : Prop := ∀ l ∈ s.Rules, l.length ≤ maxLen
theorem okS {s : Ssn} (h : ok_Ssn s) : OkS s := fun l hl => (h.2.1.2 l hl).1
theorem thin_ev {s : Ssn} (hR : OkS s) : Ev (plThin s) (ThinN s) := by
 unfold plThin ThinN
 refine Ev.imp (P := ¬ (5 : Int) < (s.Rules.length : Int) ∧ ¬ (5 : Int) < (s.Fields.length : Int) ∧ ¬ (9 : Int) < (s.Visits.length : Int) ∧ (∀ l ∈ s.Rules, l.length ≤ 20) ∧ (faultN s = 0 → ∀ f ∈ s.Fields, manyN f ≤ 200)) (Ev.itn fun h1 => Ev.itn fun h2 => Ev.itn fun h3 => ?_) ⟨fun ⟨a, b, c, d⟩ => ⟨by omega, by omega, by omega, d⟩, fun ⟨a, b, c, d⟩ => ⟨by omega, by omega, by omega, d⟩⟩
 refine Ev.loopE (l := s.Rules) (F := fun d x => plThin_L0 s d false x) (ok := fun l => l.length ≤ 20) (fin := plThin_L1 s (faultN s) 1000000 0) (fun d k l hl => ?_) (fun d => by rw [plThin_L0, if_neg (Int.lt_irrefl _), rFault_eq hR, Option.bind_some]) (by omega) fun _ => ?_
 ·have hk := (List.getElem?_eq_some_iff.1 hl).1
  rw [plThin_L0, if_pos (by omega), idx_at hl, Option.bind_some]
  constructor
  ·intro h; rw [if_neg (by omega), gd_pos (fI (by omega))]
  ·intro h; rw [if_pos (by omega)]
 ·by_cases hf : faultN s = 0
  ·have hv := fault_zero.1 hf
   refine (Ev.loopE (l := s.Fields) (F := plThin_L1 s (faultN s)) (ok := fun f => manyN f ≤ 200) (fin := some true) (P := True) (fun d k f hg => ?_) (fun d => by rw [plThin_L1, if_neg (Int.lt_irrefl _)]) (by omega) fun _ => Ev.tt trivial).imp ⟨fun h _ => h.1, fun h => ⟨h hf, trivial⟩⟩
   have hk := (List.getElem?_eq_some_iff.1 hg).1
   rw [plThin_L1, if_pos (by omega), if_neg (by rw [hf]; simp), idx_at hg, Option.bind_some, rMany_eq (hv.flds f (List.mem_of_getElem? hg)) (not_many hv.many).1, Option.bind_some]
   constructor
   ·intro h; rw [if_neg (by omega), gd_pos (fI (by omega))]
   ·intro h; rw [if_pos (by omega)]
  ·refine (Ev.loopE (l := s.Fields) (F := plThin_L1 s (faultN s)) (ok := fun _ => True) (fin := some true) (P := True) (fun d k f hg => ?_) (fun d => by rw [plThin_L1, if_neg (Int.lt_irrefl _)]) (by omega) fun _ => Ev.tt trivial).imp ⟨fun _ h => absurd h hf, fun _ => ⟨fun _ _ => trivial, trivial⟩⟩
   have hk := (List.getElem?_eq_some_iff.1 hg).1
   rw [plThin_L1, if_pos (by omega), if_pos (by rw [decide_eq_false hf]; rfl), gd_pos (fI (by omega))]
   exact ⟨fun _ => rfl, fun h => absurd trivial h⟩
theorem lSeason_eq {s : Ssn} (h : ThinN s) : plSeason s = some s := by
 obtain ⟨h1, h2, h3, h4, _⟩ := h
 have k1 := loopApp0 (l := s.Rules) (F := fun d acc x => plSeason_L0 s d s.Last acc [] [] x) (fun l : List Int => l) (fun acc => plSeason_L1 s acc 1000000 s.Last [] [] 0) (fun d k acc a ha hac => by
  have hk := (List.getElem?_eq_some_iff.1 ha).1
  have := h4 a (List.mem_of_getElem? ha)
  show plSeason_L0 s (d + 1) _ _ _ _ _ = _
  rw [plSeason_L0, if_pos (by omega), idx_at ha, Option.bind_some]
  unfold plList
  rw [gd_pos (by simp only [List.length_nil]; omega), Option.bind_some, gd_pos (by omega), gd_pos (fI (by omega))]
  rfl) (fun d acc => by show plSeason_L0 s (d + 1) _ _ _ _ _ = _; rw [plSeason_L0, if_neg (Int.lt_irrefl _)]) (d := 1000000) (by omega)
 have k2 := loopApp0 (l := s.Fields) (F := fun d acc x => plSeason_L1 s s.Rules d s.Last acc [] x) (fun f : Fld => f) (fun acc => plSeason_L2 s s.Rules acc 1000000 s.Last [] 0) (fun d k acc a ha hac => by
  have hk := (List.getElem?_eq_some_iff.1 ha).1
  show plSeason_L1 s _ (d + 1) _ _ _ _ = _
  rw [plSeason_L1, if_pos (by omega), idx_at ha, Option.bind_some]
  unfold plTo
  rw [Option.bind_some, Option.bind_some, Option.bind_some, gd_pos (by omega), gd_pos (fI (by omega))]) (fun d acc => by show plSeason_L1 s _ (d + 1) _ _ _ _ = _; rw [plSeason_L1, if_neg (Int.lt_irrefl _)]) (d := 1000000) (by omega)
 have k3 := loopApp0 (l := s.Visits) (F := fun d acc x => plSeason_L2 s s.Rules s.Fields d s.Last acc x) (fun f : Vis => f) (fun acc => some ({ s with Visits := acc } : Ssn)) (fun d k acc a ha hac => by
  have hk := (List.getElem?_eq_some_iff.1 ha).1
  show plSeason_L2 s _ _ (d + 1) _ _ _ = _
  rw [plSeason_L2, if_pos (by omega), idx_at ha, Option.bind_some]
  unfold plTo
  rw [Option.bind_some, gd_pos (by omega), gd_pos (fI (by omega))]) (fun d acc => by show plSeason_L2 s _ _ (d + 1) _ _ _ = _; rw [plSeason_L2, if_neg (Int.lt_irrefl _)]) (d := 1000000) (by omega)
 unfold plSeason
 refine k1.trans ?_
 rw [List.map_id']
 refine k2.trans ?_
 rw [List.map_id']
 refine k3.trans ?_
 rw [List.map_id']
end
end Go.Proofs.Ytmlaphekbnanjaa

namespace Go.Proofs.Ytmlaphekbnanjaa
open _root_.Go.Proofs.Try
open Go.Abs
set_option maxRecDepth 100000
noncomputable section
def Inc (n fr : Nat) (T : List Int) : Prop := T.Pairwise (· < ·) ∧ ∀ v ∈ T, (fr : Int) ≤ v ∧ v < n
theorem Inc.cons {n fr : Nat} {x : Int} {T : List Int} : Inc n fr (x :: T) ↔ ((fr : Int) ≤ x ∧ x < n) ∧ Inc n (x + 1).toNat T := by
 unfold Inc
 rw [List.pairwise_cons]
 constructor
 ·rintro ⟨⟨h1, h2⟩, h3⟩
  have hx := h3 x (List.mem_cons_self ..)
  exact ⟨hx, h2, fun v hv => by have := h1 v hv; have := h3 v (List.mem_cons_of_mem _ hv); omega⟩
 ·rintro ⟨hx, h2, h3⟩
  refine ⟨⟨fun v hv => by have := h3 v hv; omega, h2⟩, fun v hv => ?_⟩
  rcases List.mem_cons.1 hv with rfl | hv
  ·exact hx
  ·have := h3 v hv; omega
theorem mem_combs {n : Nat} {D : List Int} : ∀ {d : Nat} {pre : List Int} {fr : Nat}, D ∈ combs n d pre fr ↔ ∃ T, D = pre ++ T ∧ T.length = d ∧ Inc n fr T
 | 0, pre, fr => by
  show D ∈ [pre] ↔ _
  rw [List.mem_singleton]
  constructor
  ·rintro rfl; exact ⟨[], by simp, rfl, .nil, fun v hv => by cases hv⟩
  ·rintro ⟨T, h1, h2, _⟩
   rw [List.eq_nil_of_length_eq_zero h2, List.append_nil] at h1; exact h1
 | d + 1, pre, fr => by
  show D ∈ rests (fun x => combs n d (pre ++ [(x : Int)]) (x + 1)) (n - fr) fr ↔ _
  rw [mem_rests]
  constructor
  ·rintro ⟨x, h1, h2, h3⟩
   obtain ⟨T, h4, h5, h6⟩ := mem_combs.1 h3
   refine ⟨(x : Int) :: T, by rw [h4]; simp, by simp [h5], Inc.cons.2 ⟨by omega, ?_⟩⟩
   rw [show ((x : Int) + 1).toNat = x + 1 by omega]; exact h6
  ·rintro ⟨T, h1, h2, h3⟩
   cases T with
   | nil => simp at h2
   | cons v T =>
    obtain ⟨h4, h5⟩ := Inc.cons.1 h3
    refine ⟨v.toNat, by omega, by omega, mem_combs.2 ⟨T, ?_, by simpa using h2, ?_⟩⟩
    ·rw [show ((v.toNat : Nat) : Int) = v by omega, h1]; simp
    ·rw [show v.toNat + 1 = (v + 1).toNat by omega]; exact h5
theorem inc_len {n : Nat} : ∀ {T : List Int} {fr : Nat}, Inc n fr T → T.length ≤ n - fr
 | [], _, _ => Nat.zero_le _
 | v :: T, fr, h => by
  obtain ⟨h1, h2⟩ := Inc.cons.1 h
  have := inc_len h2
  simp only [List.length_cons]
  omega
theorem mem_allL {n : Nat} {D : List Int} : D ∈ allL n ↔ Inc n 0 D := by
 unfold allL
 rw [mem_rests]
 constructor
 ·rintro ⟨s, _, _, h⟩
  obtain ⟨T, h1, _, h2⟩ := mem_combs.1 h
  rw [h1]; exact h2
 ·intro h
  have := inc_len h
  exact ⟨D.length, Nat.zero_le _, by omega, mem_combs.2 ⟨D, rfl, rfl, h⟩⟩
def inD (D : List Int) (j : Nat) : Bool := decide ((j : Int) ∈ D)
def bef : List Int → List Int → Bool
 | [], [] => false
 | [], _ :: _ => true
 | _ :: _, [] => false
 | x :: a, y :: b => if x = y then bef a b else decide (x < y)
def shB (a b : List Int) : Bool := decide (a.length < b.length) || (decide (a.length = b.length) && bef a b)
theorem bef_irr : ∀ A : List Int, bef A A = false
 | [] => rfl
 | x :: A => by show (if x = x then bef A A else _) = _; rw [if_pos rfl, bef_irr A]
theorem shB_iff {A B : List Int} : shB A B = true ↔ A.length < B.length ∨ (A.length = B.length ∧ bef A B = true) := by
 unfold shB
 rw [Bool.or_eq_true, Bool.and_eq_true, decide_eq_true_eq, decide_eq_true_eq]
theorem bef_app (x y : Int) (A B : List Int) (hxy : x < y) : ∀ pre : List Int, bef (pre ++ x :: A) (pre ++ y :: B) = true
 | [] => by show (if x = y then _ else decide (x < y)) = true; rw [if_neg (by omega), decide_eq_true hxy]
 | p :: pre => by show (if p = p then bef (pre ++ x :: A) (pre ++ y :: B) else _) = true; rw [if_pos rfl]; exact bef_app x y A B hxy pre
theorem rests_pairwise {α : Type} {R : α → α → Prop} (g : Nat → List α) (h1 : ∀ x, (g x).Pairwise R) (h2 : ∀ x y, x < y → ∀ a ∈ g x, ∀ b ∈ g y, R a b) : ∀ e x, (rests g e x).Pairwise R
 | 0, _ => .nil
 | e + 1, x => by
  show (g x ++ rests g e (x + 1)).Pairwise R
  rw [List.pairwise_append]
  refine ⟨h1 x, rests_pairwise g h1 h2 e (x + 1), fun a ha b hb => ?_⟩
  obtain ⟨j, h3, _, h4⟩ := (mem_rests g b e (x + 1)).1 hb
  exact h2 x j (by omega) a ha b h4
theorem combs_pairwise {n : Nat} : ∀ (d : Nat) (pre : List Int) (fr : Nat), (combs n d pre fr).Pairwise fun a b => bef a b = true
 | 0, pre, fr => List.pairwise_singleton _ _
 | d + 1, pre, fr => rests_pairwise _ (fun x => combs_pairwise d _ _) (fun x y hxy a ha b hb => by
  obtain ⟨T, h1, _, _⟩ := mem_combs.1 ha
  obtain ⟨T', h2, _, _⟩ := mem_combs.1 hb
  rw [h1, h2, List.append_assoc, List.append_assoc]
  exact bef_app _ _ _ _ (by omega) pre) _ _
theorem allL_pairwise (n : Nat) : (allL n).Pairwise fun a b => shB a b = true :=
 rests_pairwise _ (fun s => (combs_pairwise s [] 0).imp_of_mem fun {a b} ha hb hab => by
  have h1 := combs_len ha
  have h2 := combs_len hb
  unfold shB
  rw [hab, decide_eq_true (show a.length = b.length by omega)]; simp) (fun s s' hs a ha b hb => by
  have h1 := combs_len ha
  have h2 := combs_len hb
  unfold shB
  rw [decide_eq_true (by omega)]; rfl) _ _
theorem find_min {t : List Int → Bool} : ∀ {l : List (List Int)}, l.Pairwise (fun a b => shB a b = true) → ∀ {D D' : List Int}, l.find? t = some D → D' ∈ l → t D' = true → D' = D ∨ shB D D' = true
 | [], _, _, _, h, _, _ => by cases h
 | a :: l, hp, D, D', h, hm, ht => by
  rw [List.pairwise_cons] at hp
  rw [List.find?_cons] at h
  cases hta : t a with
  | true =>
   rw [hta] at h
   have : a = D := Option.some.inj h
   subst this
   rcases List.mem_cons.1 hm with rfl | h1
   ·exact .inl rfl
   ·exact .inr (hp.1 _ h1)
  | false =>
   rw [hta] at h
   rcases List.mem_cons.1 hm with rfl | h1
   ·rw [hta] at ht; cases ht
   ·exact find_min hp.2 h h1 ht
theorem shortL_spec {n : Nat} {t : List Int → Bool} (h : ∃ D, Inc n 0 D ∧ t D = true) : Inc n 0 (shortL n t) ∧ t (shortL n t) = true ∧ ∀ D, Inc n 0 D → t D = true → D = shortL n t ∨ shB (shortL n t) D = true := by
 obtain ⟨D0, h1, h2⟩ := h
 unfold shortL
 cases hf : (allL n).find? t with
 | none => exact absurd h2 (by have := List.find?_eq_none.1 hf D0 (mem_allL.2 h1); simpa using this)
 | some D => exact ⟨mem_allL.1 (List.mem_of_find?_eq_some hf), List.find?_some hf, fun D' h3 h4 => find_min (allL_pairwise n) hf (mem_allL.2 h3) h4⟩
end
end Go.Proofs.Ytmlaphekbnanjaa

namespace Go.Proofs.Ytmlaphekbnanjaa
open _root_.Go.Proofs.Try
open Go.Abs Go.Abs.Grow
set_option maxRecDepth 100000
noncomputable section
def allI (n : Nat) : List Int := (List.range n).map fun j => ((j : Nat) : Int)
theorem all_inc (n : Nat) : Inc n 0 (allI n) := by
 refine ⟨?_, fun v hv => ?_⟩
 ·unfold allI
  rw [List.pairwise_map]
  exact List.pairwise_lt_range.imp fun h => by omega
 ·obtain ⟨j, hj, rfl⟩ := List.mem_map.1 hv
  have := List.mem_range.1 hj
  omega
theorem all_in {n j : Nat} (h : j < n) : inD (allI n) j = true := decide_eq_true (List.mem_map.2 ⟨j, List.mem_range.2 h, rfl⟩)
structure MinP (n : Nat) (P : (Nat → Bool) → Prop) (M : List Int) : Prop where
 inc : Inc n 0 M
 ok : P (inD M)
 min : ∀ D, Inc n 0 D → P (inD D) → D = M ∨ shB M D = true
def PL (s : Ssn) (S : Nat → Bool) : Prop := ∀ k, FieldOk s k → ∃ t, IsT (fldAt s k) t ∧ ∀ j, j < s.Visits.length → S j = false → SB s k t j = true
theorem PL.congr {s : Ssn} {S S' : Nat → Bool} (h : ∀ j, j < s.Visits.length → S j = S' j) : PL s S ↔ PL s S' := by
 unfold PL
 refine forall_congr' fun k => forall_congr' fun _ => exists_congr fun t => and_congr Iff.rfl ?_
 exact ⟨fun f j hj hs => f j hj (by rw [h j hj]; exact hs), fun f j hj hs => f j hj (by rw [← h j hj]; exact hs)⟩
theorem isT_ex {s : Ssn} {f : Fld} (h : VF s f) : ∃ t, IsT f t := by
 have a := h.wk; have b := h.dm; have c := h.old
 unfold Wi at a b c
 exact ⟨⟨f.Week.Lo, f.Damage.Lo, f.Old.Lo⟩, ⟨Int.le_refl _, a.2.1⟩, ⟨Int.le_refl _, b.2.1⟩, ⟨Int.le_refl _, c.2.1⟩⟩
theorem PL_all {s : Ssn} (h : VS s) : PL s (inD (allI s.Visits.length)) := fun k hk => by
 obtain ⟨t, ht⟩ := isT_ex (h.vf hk)
 exact ⟨t, ht, fun j hj hs => by rw [all_in hj] at hs; cases hs⟩
def kpF : List Vis → Nat → (Nat → Bool) → List Vis
 | [], _, _ => []
 | v :: V, i, S => if S i = true then v :: kpF V (i + 1) S else kpF V (i + 1) S
theorem mem_kpF {S : Nat → Bool} {v : Vis} : ∀ (V : List Vis) (i : Nat), v ∈ kpF V i S ↔ ∃ j, V[j]? = some v ∧ S (i + j) = true
 | [], i => by simp [kpF]
 | a :: V, i => by
  have ih := mem_kpF (S := S) (v := v) V (i + 1)
  have e : (∃ j, (a :: V)[j]? = some v ∧ S (i + j) = true) ↔ (a = v ∧ S i = true) ∨ ∃ j, V[j]? = some v ∧ S (i + 1 + j) = true := by
   constructor
   ·rintro ⟨j, h1, h2⟩
    cases j with
    | zero => exact .inl ⟨by simpa using h1, h2⟩
    | succ j => exact .inr ⟨j, by simpa using h1, by rw [show i + 1 + j = i + (j + 1) by omega]; exact h2⟩
   ·rintro (⟨h1, h2⟩ | ⟨j, h1, h2⟩)
    ·exact ⟨0, by simpa using h1, h2⟩
    ·exact ⟨j + 1, by simpa using h1, by rw [show i + (j + 1) = i + 1 + j by omega]; exact h2⟩
  rw [e]
  unfold kpF
  by_cases hs : S i = true
  ·rw [if_pos hs, List.mem_cons, ih]
   exact or_congr ⟨fun h => ⟨h.symm, hs⟩, fun h => h.1.symm⟩ Iff.rfl
  ·rw [if_neg hs, ih]
   exact ⟨.inr, fun h => h.elim (fun h => absurd h.2 hs) id⟩
theorem kpF_len {S : Nat → Bool} : ∀ (V : List Vis) (i : Nat), (kpF V i S).length ≤ V.length
 | [], _ => Nat.le_refl _
 | a :: V, i => by
  have := kpF_len (S := S) V (i + 1)
  unfold kpF
  split <;> simp only [List.length_cons] <;> omega
open Classical in
theorem ht_kpF {s : Ssn} {S : Nat → Bool} : HT s (kpF s.Visits 0 S) ↔ PL s fun j => !S j := by
 unfold HT HTf TR PL
 refine forall_congr' fun k => forall_congr' fun _ => exists_congr fun t => and_congr Iff.rfl ?_
 unfold okV SB
 constructor
 ·intro h j hj hs
  rw [decide_eq_true_eq]
  intro v hv hvk
  exact h v ((mem_kpF _ _).2 ⟨j, hv, by rw [Nat.zero_add]; simpa using hs⟩) hvk
 ·intro h v hv hvk
  obtain ⟨j, h1, h2⟩ := (mem_kpF _ _).1 hv
  rw [Nat.zero_add] at h2
  have := h j (List.getElem?_eq_some_iff.1 h1).1 (by show (!S j) = false; rw [h2]; rfl)
  rw [decide_eq_true_eq] at this
  exact this v h1 hvk
theorem contains_ev {l : List Int} (hl : l.length ≤ 1000) {x : Int} : Ev (pcontains l x) (x ∈ l) := by
 have key : ∀ (d k : Nat), k ≤ l.length → l.length - k < d → ∃ r, pindexOf_L0 l x d (k : Int) = some r ∧ (0 ≤ r ↔ x ∈ l.drop k) := by
  intro d
  induction d with
  | zero => intro k _ h; omega
  | succ d ih =>
   intro k hk hd
   unfold pindexOf_L0
   by_cases hkn : k = l.length
   ·subst hkn
    rw [if_neg (Int.lt_irrefl _), List.drop_length]
    exact ⟨_, rfl, by simp⟩
   ·have hlt : k < l.length := by omega
    rw [if_pos (by omega), idx_at (List.getElem?_eq_getElem hlt), Option.bind_some, List.drop_eq_getElem_cons hlt]
    by_cases he : x = l[k]
    ·rw [if_pos he]
     exact ⟨_, rfl, ⟨fun _ => by rw [he]; exact List.mem_cons_self .., fun _ => by omega⟩⟩
    ·rw [if_neg he, gd_pos (fI (by omega)), show (k : Int) + 1 = ((k + 1 : Nat) : Int) by omega]
     obtain ⟨r, q1, q2⟩ := ih (k + 1) (by omega) (by omega)
     exact ⟨r, q1, q2.trans ⟨fun h => List.mem_cons_of_mem _ h, fun h => (List.mem_cons.1 h).elim (fun h => absurd h he) id⟩⟩
 obtain ⟨r, q1, q2⟩ := key (l.length + 1) 0 (Nat.zero_le _) (by omega)
 have q1 : pindexOf_L0 l x (l.length + 1) 0 = some r := q1
 unfold pcontains pindexOf
 rw [q1, Option.bind_some]
 rw [List.drop_zero] at q2
 exact Ev.dec q2
theorem canLeave_ev {s : Ssn} {W : Wk} (h : WOk s s.Visits W) {D : List Int} (hD : D.length ≤ 1000) : Ev (pcanLeave W D) (PL s (inD D)) := by
 obtain ⟨_, _, _, h4⟩ := not_many h.vs.many
 have e : W.s = s := h.ss
 obtain ⟨R, hR⟩ : ∃ R, R = kpF s.Visits 0 (fun j => !inD D j) := ⟨_, rfl⟩
 have key : ∀ (d i : Nat) (acc : List Vis), i ≤ s.Visits.length → s.Visits.length - i < d → acc.length ≤ i → Ev (pcanLeave_L0 W D d acc (i : Int)) (PL s (inD D)) ∨ ¬ (acc ++ kpF (s.Visits.drop i) i (fun j => !inD D j) = R) := by
  intro d
  induction d with
  | zero => intro i acc _ h; omega
  | succ d ih =>
   intro i acc hi hd ha
   by_cases hq : acc ++ kpF (s.Visits.drop i) i (fun j => !inD D j) = R
   ·refine .inl ?_
    unfold pcanLeave_L0
    rw [e]
    by_cases hin : i = s.Visits.length
    ·rw [if_neg (by omega)]
     rw [hin, List.drop_length] at hq
     have hq : acc = kpF s.Visits 0 (fun j => !inD D j) := by rw [← hR, ← hq]; simp [kpF]
     obtain ⟨W', w1, w2⟩ := h.wth (V' := acc) (fun v hv => by
      rw [hq] at hv
      obtain ⟨j, h1, _⟩ := (mem_kpF _ _).1 hv
      exact h.vs.vis v (List.mem_of_getElem? h1)) (by rw [hq]; exact Nat.le_trans (kpF_len _ _) h4)
     rw [w1, Option.bind_some]
     refine (hasTruth_ev w2).ret.imp ?_
     rw [hq, ht_kpF]
     exact PL.congr fun j _ => by simp
    ·have hlt : i < s.Visits.length := by omega
     have hg := List.getElem?_eq_getElem hlt
     rw [List.drop_eq_getElem_cons hlt] at hq
     rw [if_pos (by omega), idx_at hg, Option.bind_some]
     generalize s.Visits[i] = v at hg hq
     rw [kpF] at hq
     obtain ⟨b, c1, c2⟩ := contains_ev hD (x := (i : Int))
     rw [c1, Option.bind_some]
     cases b with
     | true =>
      have hin' : inD D i = true := decide_eq_true (c2.1 rfl)
      rw [if_neg (by rw [hin']; simp)] at hq
      rw [if_pos rfl, gd_pos (fI (by omega)), show (i : Int) + 1 = ((i + 1 : Nat) : Int) by omega]
      rcases ih (i + 1) acc (by omega) (by omega) (by omega) with h1 | h1
      ·exact h1
      ·exact absurd hq h1
     | false =>
      have hin' : inD D i = false := decide_eq_false fun hh => by have := c2.2 hh; cases this
      rw [if_pos (by rw [hin']; rfl)] at hq
      rw [if_neg (by simp), gd_pos (by omega), gd_pos (fI (by omega)), show (i : Int) + 1 = ((i + 1 : Nat) : Int) by omega]
      rcases ih (i + 1) (acc ++ [v]) (by omega) (by omega) (by simp; omega) with h1 | h1
      ·exact h1
      ·exact absurd (by rw [List.append_assoc]; exact hq) h1
   ·exact .inr hq
 unfold pcanLeave
 rw [e]
 rcases key (s.Visits.length + 1) 0 [] (Nat.zero_le _) (by omega) (Nat.le_refl _) with h1 | h1
 ·exact h1
 ·exact absurd (by rw [List.drop_zero, List.nil_append, hR]) h1
theorem Leave_eq {s : Ssn} (h : VS s) : ∃ M, pLeave s = some (M, 0) ∧ MinP s.Visits.length (PL s) M := by
 obtain ⟨m, h1, h2⟩ := open_eq h
 have hw := WOk.of h h2
 obtain ⟨_, _, _, h4⟩ := not_many h.many
 have ht : ∀ D, Inc s.Visits.length 0 D → ((pcanLeave ⟨s, m⟩ D).getD false = true ↔ PL s (inD D)) := fun D hD => by
  obtain ⟨b, q1, q2⟩ := canLeave_ev hw (D := D) (by have := inc_len hD; omega)
  rw [q1]; exact q2
 obtain ⟨s1, s2, s3⟩ := shortL_spec (n := s.Visits.length) (t := fun L => (pcanLeave ⟨s, m⟩ L).getD false) ⟨allI s.Visits.length, all_inc _, (ht _ (all_inc _)).2 (PL_all h)⟩
 refine ⟨shortL s.Visits.length fun L => (pcanLeave ⟨s, m⟩ L).getD false, ?_, s1, (ht _ s1).1 s2, fun D hD hD2 => s3 D hD ((ht D hD).2 hD2)⟩
 unfold pLeave pshortest
 rw [check_eq, fault_zero.2 h, Option.bind_some, if_pos rfl, h1, Option.bind_some, gd_pos ⟨by omega, by omega, fun L hL => by
  have hI : Inc s.Visits.length 0 L := by rw [Int.toNat_natCast] at hL; exact mem_allL.1 hL
  obtain ⟨b, q1, _⟩ := canLeave_ev hw (D := L) (by have := inc_len hI; omega)
  show (pcanLeave ⟨s, m⟩ L).isSome = true
  rw [q1]; rfl⟩, Option.bind_some, Int.toNat_natCast]
end
end Go.Proofs.Ytmlaphekbnanjaa

namespace Go.Proofs.Ytmlaphekbnanjaa
open _root_.Go.Proofs.Try
open Go.Abs Go.Abs.Grow
set_option maxRecDepth 100000
noncomputable section
theorem ready_ev {s : Ssn} (hR : OkS s) : Ev (plReady s) (ThinN s ∧ VS s) := by
 unfold plReady
 refine Ev.and (thin_ev hR) fun _ => ?_
 rw [rFault_eq hR, Option.bind_some]
 exact Ev.dec fault_zero
end
end Go.Proofs.Ytmlaphekbnanjaa

namespace Go.Proofs.Ytmlaphekbnanjaa
open _root_.Go.Proofs.Try
open Go.Abs Go.Abs.Grow
set_option maxRecDepth 100000
noncomputable section
def InRg (a b : Rg) : Prop := b.Lo ≤ a.Lo ∧ a.Hi ≤ b.Hi
theorem inside_ev {a b : Rg} : Ev (plInside a b) (InRg a b) := Ev.ite fun _ => Ev.dec Iff.rfl
def InB (a b : Bnd) : Prop := InRg a.Week b.Week ∧ InRg a.Damage b.Damage ∧ InRg a.Old b.Old ∧ InRg a.Harvest b.Harvest
theorem narrower_tt {a b : List Bnd} (hl : a.length = b.length) (hs : a.length ≤ 1000) (h : ∀ (j : Nat) x y, a[j]? = some x → b[j]? = some y → InB x y) : plNarrower a b = some true := by
 have key : ∀ (d i : Nat), i ≤ a.length → a.length - i < d → plNarrower_L0 a b d (i : Int) = some true := by
  intro d
  induction d with
  | zero => intro i _ h; omega
  | succ d ih =>
   intro i hi hd
   unfold plNarrower_L0
   by_cases hin : i = a.length
   ·rw [if_neg (by omega)]
   have h1 := List.getElem?_eq_getElem (show i < a.length by omega)
   have h2 := List.getElem?_eq_getElem (show i < b.length by omega)
   obtain ⟨q1, q2, q3, q4⟩ := h i _ _ h1 h2
   generalize a[i] = x at *
   generalize b[i] = y at *
   simp only [if_pos (show (i : Int) < a.length by omega), idx_at h1, idx_at h2, Option.bind_some, inside_ev.some_of q1, inside_ev.some_of q2, inside_ev.some_of q3, inside_ev.some_of q4, if_true]
   rw [gd_pos (fI (by omega)), show (i : Int) + 1 = ((i + 1 : Nat) : Int) by omega]
   exact ih (i + 1) (by omega) (by omega)
 unfold plNarrower
 rw [if_pos (by omega)]
 exact key _ 0 (Nat.zero_le _) (by omega)
structure Wid (s x : Ssn) : Prop where
 last : x.Last = s.Last
 rules : x.Rules = s.Rules
 fl : x.Fields.length = s.Fields.length
 fld : ∀ k, FieldOk s k → (fldAt x k).Crop = (fldAt s k).Crop ∧ ∀ t, IsT (fldAt s k) t → IsT (fldAt x k) t
 vl : x.Visits.length = s.Visits.length
 vis : ∀ (i : Nat) v, s.Visits[i]? = some v → ∃ w, x.Visits[i]? = some w ∧ w.Field = v.Field ∧ w.Week = v.Week ∧ ∀ n, inR v.Seen n → inR w.Seen n
theorem Wid.ok {s x : Ssn} (h : Wid s x) {k : Int} : FieldOk x k ↔ FieldOk s k := by unfold FieldOk; rw [h.fl]
theorem Wid.dm {s x : Ssn} (h : Wid s x) {c : Int} {t : Trh} {w : Int} : dmg x c t w = dmg s c t w := by unfold dmg ruleOf; rw [h.rules]
theorem Wid.sn {s x : Ssn} (h : Wid s x) {c : Int} {t : Trh} {w : Int} : seenN x c t w = seenN s c t w := by unfold seenN; rw [h.dm]
theorem Wid.hv {s x : Ssn} (h : Wid s x) {c : Int} {t : Trh} : harv x c t = harv s c t := by unfold harv; rw [h.dm, h.last]
open Classical in
theorem Wid.sb {s x : Ssn} (h : Wid s x) {k : Int} (hk : FieldOk s k) {t : Trh} {i : Nat} (hi : i < s.Visits.length) (hs : SB s k t i = true) : SB x k t i = true := by
 unfold SB at hs ⊢
 rw [decide_eq_true_eq] at hs ⊢
 intro w hw hwk
 obtain ⟨w', h1, h2, h3, h4⟩ := h.vis i _ (List.getElem?_eq_getElem hi)
 rw [hw] at h1
 cases h1
 have := hs _ (List.getElem?_eq_getElem hi) (h2.symm.trans hwk)
 rw [h.sn, (h.fld k hk).1, h3]
 exact h4 _ this
theorem Wid.pl {s x : Ssn} (h : Wid s x) {S : Nat → Bool} (hp : PL s S) : PL x S := fun k hk => by
 have hk' := h.ok.1 hk
 obtain ⟨t, h1, h2⟩ := hp k hk'
 exact ⟨t, (h.fld k hk').2 t h1, fun j hj hS => h.sb hk' (by rw [← h.vl]; exact hj) (h2 j (by rw [← h.vl]; exact hj) hS)⟩
theorem Wid.tr {s x : Ssn} (h : Wid s x) {k : Int} (hk : FieldOk s k) {t : Trh} (ht : TR s s.Visits k t) : TR x x.Visits k t := by
 refine ⟨(h.fld k hk).2 t ht.1, fun w hw hwk => ?_⟩
 obtain ⟨i, hi⟩ := List.mem_iff_getElem?.1 hw
 have hlt := (List.getElem?_eq_some_iff.1 hi).1
 have hlt' : i < s.Visits.length := by rw [← h.vl]; exact hlt
 obtain ⟨w', h1, h2, h3, h4⟩ := h.vis i _ (List.getElem?_eq_getElem hlt')
 rw [hi] at h1
 cases h1
 have := ht.2 _ (List.getElem_mem hlt') (h2.symm.trans hwk)
 rw [h.sn, (h.fld k hk).1, h3]
 exact h4 _ this
theorem Wid.ht {s x : Ssn} (h : Wid s x) (hT : HT s s.Visits) : HT x x.Visits := fun k hk => by
 obtain ⟨t, q⟩ := hT k (h.ok.1 hk)
 exact ⟨t, h.tr (h.ok.1 hk) q⟩
theorem Wid.bnd {s x : Ssn} (h : Wid s x) {k : Int} (hk : FieldOk s k) {a b : Bnd} (ha : BOk s s.Visits k a) (hb : BOk x x.Visits k b) : InB a b := by
 have e : ∀ f : Trh → Int, ∀ y, Of s s.Visits k f y → Of x x.Visits k f y := fun f y ⟨t, q1, q2⟩ => ⟨t, h.tr hk q1, q2⟩
 refine ⟨ha.wk.le hb.wk (e _), ha.dm.le hb.dm (e _), ha.old.le hb.old (e _), ha.hv.le hb.hv fun y ⟨t, q1, q2⟩ => ⟨t, h.tr hk q1, ?_⟩⟩
 dsimp only at q2 ⊢
 rw [h.hv, (h.fld k hk).1]; exact q2
theorem min_len {n : Nat} {P P' : (Nat → Bool) → Prop} {M M' : List Int} (h : MinP n P M) (h' : MinP n P' M') (hp : P (inD M) → P' (inD M)) : M'.length ≤ M.length := by
 rcases h'.min M h.inc (hp h.ok) with h1 | h1
 ·rw [h1]; exact Nat.le_refl _
 ·rcases shB_iff.1 h1 with h2 | h2 <;> omega
theorem wider_tail {s x : Ssn} (hx : OkS x) (ht : ThinN s) (h : VS s) (hw : Wid s x) :
  ((plReady x).bind fun r0 => (if r0 = true then ((plSeason s).bind fun r1 => ((pLeave r1).bind fun r2 => ((plSeason x).bind fun r3 => ((pLeave r3).bind fun r4 => ((plSeason s).bind fun r5 => ((pBounds r5).bind fun r6 => ((plSeason x).bind fun r7 => ((pBounds r7).bind fun r8 => (if r2.2 = (0 : Int) then (if r4.2 = (0 : Int) then (if (r2.1.length : Int) < (r4.1.length : Int) then (some false) else (if r6.2 = (0 : Int) then (if r8.2 = (0 : Int) then ((plNarrower r6.1 r8.1).bind fun r9 => (if r9 = true then ((pawake).bind fun r10 => (some r10)) else (some false))) else (some false)) else (if r6.2 = (11 : Int) then ((pawake).bind fun r11 => (some r11)) else (some false)))) else (some false)) else (some false)))))))))) else ((pawake).bind fun r12 => (some r12)))) = some true := by
 refine (ready_ev hx).pick (fun ⟨ht', h'⟩ => ?_) fun _ => by rw [if_neg (by simp), aw, Option.bind_some]
 obtain ⟨M, q1, q2⟩ := Leave_eq h
 obtain ⟨M', q3, q4⟩ := Leave_eq h'
 rw [hw.vl] at q4
 have hM := min_len q2 q4 fun hp => hw.pl hp
 rw [if_pos rfl, lSeason_eq ht, Option.bind_some, q1, Option.bind_some, lSeason_eq ht', Option.bind_some, q3, Option.bind_some, Option.bind_some]
 have hM' : ¬ (M.length : Int) < (M'.length : Int) := by omega
 by_cases hT : HT s s.Visits
 ·obtain ⟨a, a1, a2, a3⟩ := Bounds_ok h hT
  obtain ⟨b, b1, b2, b3⟩ := Bounds_ok h' (hw.ht hT)
  obtain ⟨_, _, h3, _⟩ := not_many h.many
  have hab : a.length = b.length := by rw [a2, b2, hw.fl]
  have hn := narrower_tt hab (by omega) fun j u v hu hv => hw.bnd ⟨by omega, by have := (List.getElem?_eq_some_iff.1 hu).1; omega⟩ (a3 j u hu) (b3 j v hv)
  rw [a1, Option.bind_some, Option.bind_some, b1, Option.bind_some, if_pos rfl, if_pos rfl, if_neg hM', if_pos rfl, if_pos rfl, hn, Option.bind_some, if_pos rfl, aw, Option.bind_some]
 ·obtain ⟨o, ho⟩ : ∃ o, pBounds x = some o := by
   by_cases hT' : HT x x.Visits
   ·obtain ⟨l', b1, _⟩ := Bounds_ok h' hT'; exact ⟨_, b1⟩
   ·exact ⟨_, Bounds_no h' hT'⟩
  rw [Bounds_no h hT, Option.bind_some, Option.bind_some, ho, Option.bind_some, if_pos rfl, if_pos rfl, if_neg hM', if_neg (by decide), if_pos rfl, aw, Option.bind_some]
theorem Wid.refl (s : Ssn) : Wid s s := ⟨rfl, rfl, rfl, fun _ _ => ⟨rfl, fun _ h => h⟩, rfl, fun i v hv => ⟨v, hv, rfl, rfl, fun _ h => h⟩⟩
theorem Wid.fset {s : Ssn} {i : Nat} {f g : Fld} (hi : s.Fields[i]? = some f) (hc : g.Crop = f.Crop) (ht : ∀ t, IsT f t → IsT g t) : Wid s { s with Fields := s.Fields.set i g } := by
 refine ⟨rfl, rfl, List.length_set, fun k hk => ?_, rfl, fun i v hv => ⟨v, hv, rfl, rfl, fun _ h => h⟩⟩
 have hlt := (List.getElem?_eq_some_iff.1 hi).1
 unfold fldAt
 dsimp only
 by_cases hk' : k.toNat = i
 ·rw [hk', List.getElem?_set_self hlt, hi]
  exact ⟨hc, ht⟩
 ·rw [List.getElem?_set_ne (fun h => hk' h.symm)]
  exact ⟨rfl, fun _ h => h⟩
theorem Wid.vset {s : Ssn} {i : Nat} {v w : Vis} (hi : s.Visits[i]? = some v) (hf : w.Field = v.Field) (hw : w.Week = v.Week) (hs : ∀ n, inR v.Seen n → inR w.Seen n) : Wid s { s with Visits := s.Visits.set i w } := by
 have hlt := (List.getElem?_eq_some_iff.1 hi).1
 refine ⟨rfl, rfl, rfl, fun _ _ => ⟨rfl, fun _ h => h⟩, List.length_set, fun j u hu => ?_⟩
 dsimp only
 by_cases hk' : i = j
 ·subst hk'
  rw [hi] at hu
  cases hu
  exact ⟨w, List.getElem?_set_self hlt, hf, hw, hs⟩
 ·rw [List.getElem?_set_ne hk']
  exact ⟨u, hu, rfl, rfl, fun _ h => h⟩
theorem m_GrowthWider {s : Ssn} {which inc : Int} (hs : ok_Ssn s) (hwh : fitsP .u8 which) (hin : fitsP .u8 inc) : pGrowthWider s which inc = some true := by
 have hR := okS hs
 unfold pGrowthWider
 refine (ready_ev hR).pick (fun ⟨ht, h⟩ => ?_) fun _ => by rw [if_neg (by simp), aw, Option.bind_some]
 obtain ⟨hla, _, h3, h4⟩ := not_many h.many
 have hfn := h.fne
 have hlast := h.last
 have u1 := fU8 hwh; have u2 := fU8 hin
 have w1 : wrapZ .i64 which = which := wz (fI (by omega))
 have w2 : wrapZ .i64 inc = inc := wz (fI (by omega))
 have d1 : 0 ≤ which / 4 ∧ which / 4 ≤ 63 := by omega
 have m1 := Int.emod_nonneg (which / 4) (show (s.Fields.length : Int) ≠ 0 by omega)
 have m1' := Int.emod_lt_of_pos (which / 4) (show (0 : Int) < s.Fields.length by omega)
 obtain ⟨k, hk⟩ : ∃ k, which / 4 % (s.Fields.length : Int) = k := ⟨_, rfl⟩
 rw [hk] at m1 m1'
 have hlo : 0 ≤ inc % 3 ∧ inc % 3 ≤ 2 := by omega
 have hhi : 0 ≤ inc / 4 % 3 ∧ inc / 4 % 3 ≤ 2 := by omega
 obtain ⟨lo, hloe⟩ : ∃ lo, inc % 3 = lo := ⟨_, rfl⟩
 obtain ⟨hi, hhie⟩ : ∃ hi, inc / 4 % 3 = hi := ⟨_, rfl⟩
 have hfi : s.Fields[k.toNat]? = some s.Fields[k.toNat] := List.getElem?_eq_getElem (by omega)
 have hfm := List.getElem_mem (show k.toNat < s.Fields.length by omega)
 generalize s.Fields[k.toNat] = f at hfi hfm
 have hf := h.flds f hfm
 have fw := hf.wk; have fd := hf.dm; have fo := hf.old
 unfold Wi at fw fd fo
 have hix : idx s.Fields k = some f := by rw [show k = ((k.toNat : Nat) : Int) by omega]; exact idx_at hfi
 rw [if_pos rfl]
 simp only [w1, w2, hk, hloe, hhie, List.nil_append]
 rw [hloe] at hlo
 rw [hhie] at hhi
 rw [gd_pos (by simp only [List.length_nil]; omega), gd_pos (by simp only [List.length_nil]; omega), gd_pos (by omega), gd_pos (by omega), gd_pos (fI (by omega)), gd_pos (by omega), gd_pos (by omega), gd_pos (fI (by omega)), gd_pos (by omega), gd_pos (by omega), gd_pos (fI (by omega)), gd_pos (by omega), gd_pos (by omega), gd_pos (fI (by omega)), gd_pos (by omega), gd_pos (by omega), gd_pos (fI (by omega)), hix, Option.bind_some, gd_pos (by omega), gd_pos (by omega), gd_pos (show fitsP .u8 (which % 4) from (show 0 ≤ which % 4 ∧ which % 4 < 256 by omega))]
 by_cases c0 : which % 4 = 0
 ·rw [if_pos c0, gd_pos (fI (by omega)), gd_pos (fI (by omega))]
  exact wider_tail (x := { s with Fields := s.Fields.set k.toNat _ }) hR ht h (Wid.fset hfi rfl fun t q => ⟨q.1, by have := q.2.1; unfold inR at this ⊢; dsimp only; omega, q.2.2⟩)
 ·rw [if_neg c0]
  by_cases c1 : which % 4 = 1
  ·rw [if_pos c1, gd_pos (fI (by omega)), gd_pos (fI (by omega))]
   exact wider_tail (x := { s with Fields := s.Fields.set k.toNat _ }) hR ht h (Wid.fset hfi rfl fun t q => ⟨q.1, q.2.1, by have := q.2.2; unfold inR at this ⊢; dsimp only; omega⟩)
  ·rw [if_neg c1]
   by_cases c2 : which % 4 = 2
   ·rw [if_pos c2, gd_pos (fI (by omega)), gd_pos (fI (by omega))]
    exact wider_tail (x := { s with Fields := s.Fields.set k.toNat _ }) hR ht h (Wid.fset hfi rfl fun t q => ⟨by have := q.1; unfold inR at this ⊢; dsimp only; omega, q.2⟩)
   ·rw [if_neg c2]
    by_cases hv : (0 : Int) < s.Visits.length
    ·have n1 := Int.emod_nonneg (which / 4) (show (s.Visits.length : Int) ≠ 0 by omega)
     have n1' := Int.emod_lt_of_pos (which / 4) hv
     obtain ⟨j, hj⟩ : ∃ j, which / 4 % (s.Visits.length : Int) = j := ⟨_, rfl⟩
     simp only [hj]
     rw [hj] at n1 n1'
     have hvi : s.Visits[j.toNat]? = some s.Visits[j.toNat] := List.getElem?_eq_getElem (by omega)
     have hvm := List.getElem_mem (show j.toNat < s.Visits.length by omega)
     generalize s.Visits[j.toNat] = v at hvi hvm
     have hvv := (h.vis v hvm).2.2
     unfold Wi at hvv
     have hiv : idx s.Visits j = some v := by rw [show j = ((j.toNat : Nat) : Int) by omega]; exact idx_at hvi
     rw [if_pos hv, gd_pos (by omega), gd_pos (by omega), gd_pos (fI (by omega)), gd_pos (by omega), gd_pos (by omega), gd_pos (fI (by omega)), hiv, Option.bind_some, gd_pos (fI (by omega)), gd_pos (fI (by omega))]
     exact wider_tail (x := { s with Visits := s.Visits.set j.toNat _ }) hR ht h (Wid.vset hvi rfl rfl fun n q => by unfold inR at q ⊢; dsimp only; omega)
    ·rw [if_neg hv]
     exact wider_tail hR ht h (Wid.refl s)
end
end Go.Proofs.Ytmlaphekbnanjaa

namespace Go.Proofs.Ytmlaphekbnanjaa
open _root_.Go.Proofs.Try
open Go.ChangeShapes Go.WideShapes Go.ChangeAt Go.RowKit Go.Abs
set_option maxRecDepth 100000
theorem op3 : Opens prog 3 Int (fitsP .i64) := opens_int (by kernel_rfl)
theorem op39 : Opens prog 39 (List Int) (fun l => l.length ≤ maxLen ∧ ∀ a0 ∈ l, fitsP .i64 a0) := opens_slice (by kernel_rfl) (by kernel_rfl) op3
theorem op27 : Opens prog 27 (List (List Int)) (fun l => l.length ≤ maxLen ∧ ∀ a0 ∈ l, a0.length ≤ maxLen ∧ ∀ a1 ∈ a0, fitsP .i64 a1) := opens_slice (by kernel_rfl) (by kernel_rfl) op39
theorem op60 : Opens prog 60 Rg ok_Rg := opens_struct (fs := [(3, 0), (3, 1)]) (by kernel_rfl) (by kernel_rfl) (opensFs_cons (α := Int) (ok := fitsP .i64) (k := 1) op3 (by kernel_rfl) rfl (opensFs_cons (α := Int) (ok := fitsP .i64) (k := 1) op3 (by kernel_rfl) rfl opensFs_nil)) (by kernel_rfl) fun m vs h => by
 obtain ⟨a0, c0, r0, m0, h0, p0, k0, s0, ⟨a1, c1, r1, m1, h1, p1, k1, s1, rfl⟩⟩ := h
 have p0 : c0 = [.int .i64 a0] := p0; subst p0
 have p1 : c1 = [.int .i64 a1] := p1; subst p1
 subst h1 h0
 exact ⟨⟨a0, a1⟩, rfl, ⟨k0, k1⟩⟩
theorem op70 : Opens prog 70 Fld ok_Fld := opens_struct (fs := [(3, 0), (60, 1), (60, 3), (60, 5)]) (by kernel_rfl) (by kernel_rfl) (opensFs_cons (α := Int) (ok := fitsP .i64) (k := 1) op3 (by kernel_rfl) rfl (opensFs_cons (α := Rg) (ok := ok_Rg) (k := 2) op60 (by kernel_rfl) rfl (opensFs_cons (α := Rg) (ok := ok_Rg) (k := 2) op60 (by kernel_rfl) rfl (opensFs_cons (α := Rg) (ok := ok_Rg) (k := 2) op60 (by kernel_rfl) rfl opensFs_nil)))) (by kernel_rfl) fun m vs h => by
 obtain ⟨a0, c0, r0, m0, h0, p0, k0, s0, ⟨a1, c1, r1, m1, h1, p1, k1, s1, ⟨a2, c2, r2, m2, h2, p2, k2, s2, ⟨a3, c3, r3, m3, h3, p3, k3, s3, rfl⟩⟩⟩⟩ := h
 have p0 : c0 = [.int .i64 a0] := p0; subst p0
 have p1 : c1 = [.int .i64 a1.Lo, .int .i64 a1.Hi] := p1; subst p1
 have p2 : c2 = [.int .i64 a2.Lo, .int .i64 a2.Hi] := p2; subst p2
 have p3 : c3 = [.int .i64 a3.Lo, .int .i64 a3.Hi] := p3; subst p3
 subst h3 h2 h1 h0
 exact ⟨⟨a0, a1, a2, a3⟩, rfl, ⟨k0, k1, k2, k3⟩⟩
theorem op56 : Opens prog 56 (List Fld) (fun l => l.length ≤ maxLen ∧ ∀ a0 ∈ l, ok_Fld a0) := opens_slice (by kernel_rfl) (by kernel_rfl) op70
theorem op62 : Opens prog 62 Vis ok_Vis := opens_struct (fs := [(3, 0), (3, 1), (60, 2)]) (by kernel_rfl) (by kernel_rfl) (opensFs_cons (α := Int) (ok := fitsP .i64) (k := 1) op3 (by kernel_rfl) rfl (opensFs_cons (α := Int) (ok := fitsP .i64) (k := 1) op3 (by kernel_rfl) rfl (opensFs_cons (α := Rg) (ok := ok_Rg) (k := 2) op60 (by kernel_rfl) rfl opensFs_nil))) (by kernel_rfl) fun m vs h => by
 obtain ⟨a0, c0, r0, m0, h0, p0, k0, s0, ⟨a1, c1, r1, m1, h1, p1, k1, s1, ⟨a2, c2, r2, m2, h2, p2, k2, s2, rfl⟩⟩⟩ := h
 have p0 : c0 = [.int .i64 a0] := p0; subst p0
 have p1 : c1 = [.int .i64 a1] := p1; subst p1
 have p2 : c2 = [.int .i64 a2.Lo, .int .i64 a2.Hi] := p2; subst p2
 subst h2 h1 h0
 exact ⟨⟨a0, a1, a2⟩, rfl, ⟨k0, k1, k2⟩⟩
theorem op57 : Opens prog 57 (List Vis) (fun l => l.length ≤ maxLen ∧ ∀ a0 ∈ l, ok_Vis a0) := opens_slice (by kernel_rfl) (by kernel_rfl) op62
theorem op59 : Opens prog 59 Ssn ok_Ssn := opens_struct (fs := [(3, 0), (27, 1), (56, 2), (57, 3)]) (by kernel_rfl) (by kernel_rfl) (opensFs_cons (α := Int) (ok := fitsP .i64) (k := 1) op3 (by kernel_rfl) rfl (opensFs_cons (α := List (List Int)) (ok := (fun l => l.length ≤ maxLen ∧ ∀ a0 ∈ l, a0.length ≤ maxLen ∧ ∀ a1 ∈ a0, fitsP .i64 a1)) (k := 1) op27 (by kernel_rfl) rfl (opensFs_cons (α := List Fld) (ok := (fun l => l.length ≤ maxLen ∧ ∀ a0 ∈ l, ok_Fld a0)) (k := 1) op56 (by kernel_rfl) rfl (opensFs_cons (α := List Vis) (ok := (fun l => l.length ≤ maxLen ∧ ∀ a0 ∈ l, ok_Vis a0)) (k := 1) op57 (by kernel_rfl) rfl opensFs_nil)))) (by kernel_rfl) fun m vs h => by
 obtain ⟨a0, c0, r0, m0, h0, p0, k0, s0, ⟨a1, c1, r1, m1, h1, p1, k1, s1, ⟨a2, c2, r2, m2, h2, p2, k2, s2, ⟨a3, c3, r3, m3, h3, p3, k3, s3, rfl⟩⟩⟩⟩ := h
 have p0 : c0 = [.int .i64 a0] := p0; subst p0
 obtain ⟨d1, rfl, p1⟩ := p1
 obtain ⟨d2, rfl, p2⟩ := p2
 obtain ⟨d3, rfl, p3⟩ := p3
 subst h3 h2 h1 h0
 exact ⟨⟨a0, a1, a2, a3⟩, ⟨_, _, _, rfl, p1, p2, p3⟩, ⟨k0, k1, k2, k3⟩⟩
theorem laid : laidOutB prog = true := by kernel_rfl
theorem ownNone : ownKnob prog.godebug = none := by kernel_rfl
theorem GrowthWider_lifted (os : Os) (started : os.Started) (H : Type) (enc : TypeId × Value → H) :
    ReturnsInHanded {} Try.checked os 6 .any (Rows.growthWiderSpec.pre6 enc Try.prog Try.f6 Rows.growthWiderRow.domain false) (Rows.growthWiderSpec.post enc Try.prog Try.f6 false true false false) := by
  refine returnsInHanded_of_change (C := Try.checked) ownNone started (by kernel_rfl) Try.func6
    (ChangeSpec.witness6 (enc := enc) (C := Try.checked) false ⟨#[], #[.agg #[.int .i64 0, .slice none 0 0, .slice none 0 0, .slice none 0 0], .int .u8 0, .int .u8 0], []⟩ 8 (by kernel_rfl) (by kernel_rfl) (by kernel_rfl) (by kernel_rfl)) ?_
  intro W base args ds gs before hval0 hW hcnd _
  have hval : ∀ (j : Nat) t v, Try.f6.params[j]? = some t → args[j]? = some v → Value.okWide Try.prog W .any base t v := hval0
  have hW' := hW
  obtain ⟨p, q, hA0, hV, rfl, hfz, hnd⟩ := hW
  have hA : DataW.TrodAll enc Try.prog W 0 (fun _ => true) true Try.f6.params.toList args.toList ds p := hA0
  rw [Try.params6] at hA hval
  obtain ⟨v0, v1, v2, d0, d1, d2, p0, p1, p2, rfl, rfl, rfl, h0, h1, h2⟩ := trodAll_three hA
  obtain ⟨rfl, rfl⟩ := trodVars_none hV
  obtain ⟨n1, hv1⟩ := okWide_int Try.underlying5 (hval 1 5 v1 rfl rfl)
  obtain ⟨n2, hv2⟩ := okWide_int Try.underlying5 (hval 2 5 v2 rfl rfl)
  have hlt : ∀ x ∈ p0 ++ p1 ++ p2, x.block < W.heap.size := fun x hx => by simpa using hW'.lt x (by simpa using hx)
  obtain ⟨fu0, hf0⟩ := id h0
  obtain ⟨fu1, hf1⟩ := id h1
  obtain ⟨fu2, hf2⟩ := id h2
  clear hA0 hval0
  obtain ⟨e0, m0, w0, a_0, le0, sv0, lay0, cr0, rep0, ok0⟩ := op59 H enc W true _ _ _ hf0 _ _ (Lay.nil W)
  obtain ⟨i1, hc1, _, hw1⟩ := DataW.trod_int Try.underlying5 hf1
  obtain ⟨i2, hc2, _, hw2⟩ := DataW.trod_int Try.underlying5 hf2
  obtain ⟨c0_1, c0_2, c0_3, rfl, g0_1, g0_2, g0_3⟩ := rep0
  obtain ⟨cs0, hv0, cl0⟩ : ∃ cs, v0 = .agg cs ∧ v0.cells.toList = cs.toList := by
    have hl := cr0.length
    cases v0 with
    | agg cs => exact ⟨cs, rfl, rfl⟩
    | _ => exact absurd hl (by simp [Value.cells])
  subst hv0
  subst hv1
  have hi1 : i1 = n1 := by
    have h : [Value.int .u8 n1] = [.int .u8 i1] := hc1
    cases h; rfl
  subst hi1
  subst hv2
  have hi2 : i2 = n2 := by
    have h : [Value.int .u8 n2] = [.int .u8 i2] := hc2
    cases h; rfl
  subst hi2
  have hargs : All2 (VR e0) [.agg 4 [.int .i64 a_0.Last, c0_1, c0_2, c0_3], .c (.int .u8 i1), .c (.int .u8 i2)] [.agg cs0, .int .u8 i1, .int .u8 i2] := .cons ⟨cs0, rfl, cr0, rfl⟩ (.cons rfl (.cons rfl .nil))
  refine (callsIn_wide.1 (call_of fits htab (s_GrowthWider (s := a_0) (which := i1) (inc := i2) lay0.pre g0_1 g0_2 g0_3 (m_GrowthWider ok0 (wf_fits hw1) (wf_fits hw2)) (Q := fun v _ => v = .c (.bool true)) fun _ _ => rfl) lay0.hr (args' := #[.agg cs0, .int .u8 i1, .int .u8 i2]) hargs 0)).mono fun en W' hp => ?_
  obtain ⟨v, v', e', m', rfl, hst, hvr, rfl⟩ := hp
  have hv' : v' = .bool true := hvr
  subst hv'
  have hbelow := lay0.below hst
  refine ⟨_, rfl, [d0, d1, d2], [], p0 ++ p1 ++ p2, [], p0 ++ (p1 ++ p2), [], by simpa using hW', trodAll_mk1 (shut_bool Try.underlying4 _),
    trodAll_mk3 (Below.trod laid (by kernel_rfl) (of_decide_eq_true (by kernel_rfl)) h0 hbelow fun x hx => hlt x (by simp [hx])) (Below.trod laid (by kernel_rfl) (of_decide_eq_true (by kernel_rfl)) h1 hbelow fun x hx => hlt x (by simp [hx])) (Below.trod laid (by kernel_rfl) (of_decide_eq_true (by kernel_rfl)) h2 hbelow fun x hx => hlt x (by simp [hx])), rfl, lay0.kept hst _, fun hc => by cases hc⟩
theorem GrowthWider_holds : Rows.GrowthWiderSaid :=
 OpenClaim.holds_of_wide 6 Try.f6 rfl rfl rfl rfl rfl rfl rfl ⟨rfl, rfl, rfl, rfl, rfl⟩ rfl rfl rfl rfl rfl (by kernel_rfl) Try.func6 (by kernel_rfl)
  (of_decide_eq_true (by kernel_rfl)) (by unfold Func.isWrapper; first | (rw [if_pos (by decide +kernel)]; kernel_rfl) | (rw [if_neg (by decide +kernel)]; exact ⟨rfl, rfl⟩))
  (fun os started H enc _ => GrowthWider_lifted os started H enc)
end Go.Proofs.Ytmlaphekbnanjaa

