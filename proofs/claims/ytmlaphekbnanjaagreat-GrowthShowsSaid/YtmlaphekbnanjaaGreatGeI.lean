/- GrowthShows, for all that it can be called with, returns true. Condition: none. -/
import Derived.Test.YtmlaphekbnanjaaGreatGeH
import GoSem.Step
import GoSem.ClaimKeys
import Derived.DeepKeys2
import Derived.RangeFuncLeaves
import Derived.OrdersIn
import Derived.Laws.World
import Derived.Laws.Sem
import Derived.RangeFuncRecord
import Derived.Laws.CopyRow
import Derived.Laws.Append
import Derived.Laws.Rows
import Derived.Laws.Slices
import Derived.Laws.Entries
import Derived.ChangeKeysEq
import Derived.IntWalk
import Derived.DeepKeys
import Derived.DeepKeys3
import Derived.Laws.StructEq
import Derived.MapKept
import Derived.Laws.AppendOwn
import Derived.ChangeArms
import Derived.ChangeOld
import Derived.Carry
import Derived.ChangeShapes
import Derived.KernelRfl
import Derived.ProofKit
import Derived.Test.YtmlaphekbnanjaaGreatRows

namespace Go.Proofs.YtmlaphekbnanjaaGreat
open _root_.Go.Proofs.Tryz
open Go.Abs Go.Abs.Grow
set_option maxRecDepth 100000
noncomputable section
def Wi (r : Rg) (lo hi : Int) : Prop := lo ≤ r.Lo ∧ r.Lo ≤ r.Hi ∧ r.Hi ≤ hi
def inR (r : Rg) (n : Int) : Prop := r.Lo ≤ n ∧ n ≤ r.Hi
def cnt (r : Rg) : Int := r.Hi - r.Lo + 1
def manyN (f : Fld) : Int := cnt f.Week * cnt f.Damage * cnt f.Old
structure VF (s : Ssn) (f : Fld) : Prop where
 crp : 0 ≤ f.Crop ∧ f.Crop < s.Rules.length
 wk : Wi f.Week 0 s.Last
 dm : Wi f.Damage 0 100
 old : Wi f.Old 0 100
def VV (s : Ssn) (v : Vis) : Prop := (0 ≤ v.Field ∧ v.Field < s.Fields.length) ∧ (0 ≤ v.Week ∧ v.Week ≤ s.Last) ∧ Wi v.Seen 0 100
def VRu (s : Ssn) (l : List Int) : Prop := (l.length : Int) = s.Last + 1 ∧ ∀ x ∈ l, 0 ≤ x ∧ x ≤ 100
def ManyS (s : Ssn) : Prop := 12 < s.Last ∨ 3 < s.Rules.length ∨ 3 < s.Fields.length ∨ 6 < s.Visits.length
structure VS0 (s : Ssn) : Prop where
 last : 0 ≤ s.Last
 rne : 0 < s.Rules.length
 fne : 0 < s.Fields.length
 rules : ∀ l ∈ s.Rules, VRu s l
 flds : ∀ f ∈ s.Fields, VF s f
 vis : ∀ v ∈ s.Visits, VV s v
def FewS (s : Ssn) : Prop := ∀ f ∈ s.Fields, manyN f ≤ 3000
open Classical in
def faultN (s : Ssn) : Int := if ManyS s then 3 else if VS0 s then (if FewS s then 0 else 3) else 1
structure VS (s : Ssn) : Prop extends VS0 s where
 many : ¬ ManyS s
 few : FewS s
theorem fault_zero {s : Ssn} : faultN s = 0 ↔ VS s := by
 unfold faultN
 split
 ·rename_i h; exact ⟨fun h => by omega, fun h' => absurd h h'.many⟩
 ·rename_i h
  split
  ·rename_i h2
   split
   ·rename_i h3; exact ⟨fun _ => ⟨h2, h, h3⟩, fun _ => rfl⟩
   ·rename_i h3; exact ⟨fun h => by omega, fun h' => absurd h'.few h3⟩
  ·rename_i h2; exact ⟨fun h => by omega, fun h' => absurd h'.toVS0 h2⟩
theorem not_many {s : Ssn} (h : ¬ ManyS s) : s.Last ≤ 12 ∧ s.Rules.length ≤ 3 ∧ s.Fields.length ≤ 3 ∧ s.Visits.length ≤ 6 := by
 unfold ManyS at h; omega
theorem In_ev {n lo hi : Int} : Ev (prIn n lo hi) (lo ≤ n ∧ n ≤ hi) := Ev.ite fun _ => Ev.dec Iff.rfl
theorem has_ev {r : Rg} {n : Int} : Ev (phas r n) (inR r n) := Ev.ite fun _ => Ev.dec Iff.rfl
theorem rWithin_ev {r : Rg} {lo hi : Int} : Ev (prWithin r lo hi) (Wi r lo hi) := Ev.ite fun _ => Ev.ite fun _ => Ev.dec Iff.rfl
theorem within_ev {r : Rg} {lo hi : Int} : Ev (pwithin r lo hi) (Wi r lo hi) := Ev.ite fun _ => Ev.ite fun _ => Ev.dec Iff.rfl
theorem isH_ev {n : Int} : Ev (pisHundredths n) (0 ≤ n ∧ n ≤ 100) := has_ev.ret
theorem hasField_ev {s : Ssn} (h : s.Fields.length ≤ 1000000) {n : Int} : Ev (phasField s n) (0 ≤ n ∧ n < s.Fields.length) := Ev.gd (fI (by omega)) (has_ev.ret.imp (by show 0 ≤ n ∧ n ≤ _ - 1 ↔ _; omega))
theorem hasWeek_ev {s : Ssn} {n : Int} : Ev (phasWeek s n) (0 ≤ n ∧ n ≤ s.Last) := has_ev.ret
theorem tooMany_ev {s : Ssn} : Ev (ptooMany s) (ManyS s) := by
 unfold ptooMany ManyS
 by_cases h1 : (12 : Int) < s.Last
 ·rw [if_pos h1]; exact Ev.tt (.inl h1)
 rw [if_neg h1]
 by_cases h2 : (3 : Int) < (s.Rules.length : Int)
 ·rw [if_pos h2]; exact Ev.tt (.inr (.inl (by omega)))
 rw [if_neg h2]
 by_cases h3 : (3 : Int) < (s.Fields.length : Int)
 ·rw [if_pos h3]; exact Ev.tt (.inr (.inr (.inl (by omega))))
 rw [if_neg h3]; exact Ev.dec (by omega)
theorem gI {l : List Int} {p : Int → Option Bool} : ∀ {d : Nat} {x : Int}, pindexI_L0 l p d x = gIdx l p d x
 | 0, _ => rfl
 | d + 1, x => by unfold pindexI_L0 gIdx; simp only [gI (d := d)]
theorem gL {l : List (List Int)} {p : List Int → Option Bool} : ∀ {d : Nat} {x : Int}, pindexL_L0 l p d x = gIdx l p d x
 | 0, _ => rfl
 | d + 1, x => by unfold pindexL_L0 gIdx; simp only [gL (d := d)]
theorem gF {l : List Fld} {p : Fld → Option Bool} : ∀ {d : Nat} {x : Int}, pindexF_L0 l p d x = gIdx l p d x
 | 0, _ => rfl
 | d + 1, x => by unfold pindexF_L0 gIdx; simp only [gF (d := d)]
theorem gV {l : List Vis} {p : Vis → Option Bool} : ∀ {d : Nat} {x : Int}, pindexV_L0 l p d x = gIdx l p d x
 | 0, _ => rfl
 | d + 1, x => by unfold pindexV_L0 gIdx; simp only [gV (d := d)]
theorem eachI_ev {l : List Int} {p : Int → Option Bool} {q : Int → Prop} (hp : ∀ a ∈ l, Ev (p a) (q a)) (hl : shrt l) : Ev (peachI l p) (∀ a ∈ l, q a) := Ev.each hp hl.lt gI
theorem eachL_ev {l : List (List Int)} {p : List Int → Option Bool} {q : List Int → Prop} (hp : ∀ a ∈ l, Ev (p a) (q a)) (hl : shrt l) : Ev (peachL l p) (∀ a ∈ l, q a) := Ev.each hp hl.lt gL
theorem eachF_ev {l : List Fld} {p : Fld → Option Bool} {q : Fld → Prop} (hp : ∀ a ∈ l, Ev (p a) (q a)) (hl : shrt l) : Ev (peachF l p) (∀ a ∈ l, q a) := Ev.each hp hl.lt gF
theorem eachV_ev {l : List Vis} {p : Vis → Option Bool} {q : Vis → Prop} (hp : ∀ a ∈ l, Ev (p a) (q a)) (hl : shrt l) : Ev (peachV l p) (∀ a ∈ l, q a) := Ev.each hp hl.lt gV
theorem cnt_rng {r : Rg} {lo hi : Int} (h : Wi r lo hi) : 1 ≤ cnt r ∧ cnt r ≤ hi - lo + 1 := by unfold Wi at h; unfold cnt; omega
theorem count_eq {r : Rg} (h : Wi r (-1000) 1000) : pcount r = some (cnt r) := by
 unfold Wi at h
 unfold pcount
 rw [gd_pos (fI (by omega)), gd_pos (fI (by omega))]; rfl
theorem rCount_eq {r : Rg} (h : Wi r (-1000) 1000) : prCount r = some (cnt r) := by
 unfold Wi at h
 unfold prCount
 rw [gd_pos (fI (by omega)), gd_pos (fI (by omega))]; rfl
theorem Wi.w {r : Rg} {lo hi : Int} (h : Wi r lo hi) (h1 : -1000 ≤ lo) (h2 : hi ≤ 1000) : Wi r (-1000) 1000 := by unfold Wi at h ⊢; omega
theorem mul_rng {a b A B : Int} (ha : 1 ≤ a ∧ a ≤ A) (hb : 1 ≤ b ∧ b ≤ B) : 1 ≤ a * b ∧ a * b ≤ A * B := by
 have h1 : 1 * 1 ≤ a * b := Int.mul_le_mul ha.1 hb.1 (by omega) (by omega)
 have h2 : a * b ≤ A * B := Int.mul_le_mul ha.2 hb.2 (by omega) (by omega)
 omega
theorem many_rng {s : Ssn} {f : Fld} (h : VF s f) (hl : s.Last ≤ 12) : (1 ≤ cnt f.Week ∧ cnt f.Week ≤ 13) ∧ (1 ≤ cnt f.Damage ∧ cnt f.Damage ≤ 101) ∧ (1 ≤ cnt f.Old ∧ cnt f.Old ≤ 101) ∧ (1 ≤ cnt f.Week * cnt f.Damage ∧ cnt f.Week * cnt f.Damage ≤ 1313) ∧ 1 ≤ manyN f ∧ manyN f ≤ 132613 := by
 have h1 := cnt_rng h.wk
 have h2 := cnt_rng h.dm
 have h3 := cnt_rng h.old
 have h4 := mul_rng (A := 13) (B := 101) (a := cnt f.Week) (b := cnt f.Damage) (by omega) (by omega)
 have h5 := mul_rng (A := 1313) (B := 101) (a := cnt f.Week * cnt f.Damage) (b := cnt f.Old) (by omega) (by omega)
 exact ⟨by omega, by omega, by omega, by omega, by unfold manyN; omega⟩
theorem rMany_eq {s : Ssn} {f : Fld} (h : VF s f) (hl : s.Last ≤ 12) : prMany f = some (manyN f) := by
 obtain ⟨h1, h2, h3, h4, h5⟩ := many_rng h hl
 unfold prMany
 unfold manyN at h5 ⊢
 rw [rCount_eq (h.wk.w (by omega) (by omega)), Option.bind_some, rCount_eq (h.dm.w (by omega) (by omega)), Option.bind_some, gd_pos (by omega), gd_pos (by omega), gd_pos (fI (by omega)), rCount_eq (h.old.w (by omega) (by omega)), Option.bind_some, gd_pos (by omega), gd_pos (by omega), gd_pos (fI (by omega))]
theorem hasFew_ev {s : Ssn} {f : Fld} (h : VF s f) (hl : s.Last ≤ 12) : Ev (phasFew f) (manyN f ≤ 3000) := by
 obtain ⟨h1, h2, h3, h4, h5⟩ := many_rng h hl
 unfold phasFew
 unfold manyN at h5 ⊢
 rw [count_eq (h.wk.w (by omega) (by omega)), Option.bind_some, count_eq (h.dm.w (by omega) (by omega)), Option.bind_some, gd_pos (by omega), gd_pos (by omega), gd_pos (fI (by omega)), count_eq (h.old.w (by omega) (by omega)), Option.bind_some, gd_pos (by omega), gd_pos (by omega), gd_pos (fI (by omega))]
 exact Ev.dec Iff.rfl
theorem validRule_ev {s : Ssn} (h : ¬ ManyS s) (h0 : 0 ≤ s.Last) {l : List Int} : Ev (pvalidRule s l) (VRu s l) := by
 obtain ⟨h1, _⟩ := not_many h
 exact Ev.gd (fI (by omega)) (Ev.ite fun hl => (eachI_ev (q := fun r => 0 ≤ r ∧ r ≤ 100) (fun _ _ => isH_ev) (fewS (n := 13) (by omega) (by omega))).ret)
theorem validField_ev {s : Ssn} (h : ¬ ManyS s) {f : Fld} : Ev (pvalidField s f) (VF s f) := by
 obtain ⟨_, h1, _⟩ := not_many h
 refine Ev.gd (fI (by omega)) ((Ev.and has_ev fun _ => Ev.and within_ev fun _ => Ev.and within_ev fun _ => within_ev.ret).imp ?_)
 exact ⟨fun ⟨a, b, c, d⟩ => ⟨by unfold inR at a; dsimp only at a; omega, b, c, d⟩, fun q => ⟨by have := q.crp; show 0 ≤ _ ∧ _ ≤ _ - 1; omega, q.wk, q.dm, q.old⟩⟩
theorem validVisit_ev {s : Ssn} (h : ¬ ManyS s) {v : Vis} : Ev (pvalidVisit s v) (VV s v) := by
 obtain ⟨_, _, h1, _⟩ := not_many h
 exact Ev.and (hasField_ev (by omega)) fun _ => Ev.and hasWeek_ev fun _ => within_ev.ret
theorem valid_ev {s : Ssn} (h : ¬ ManyS s) : Ev (pvalid s) (VS0 s) := by
 obtain ⟨h1, h2, h3, h4⟩ := not_many h
 refine (Ev.ite fun q1 => Ev.ite fun q2 => Ev.ite fun q3 => Ev.and (eachL_ev (fun _ _ => validRule_ev h q1) (fewS h2 (by omega))) fun _ => Ev.and (eachF_ev (fun _ _ => validField_ev h) (fewS h3 (by omega))) fun _ => (eachV_ev (fun _ _ => validVisit_ev h) (fewS h4 (by omega))).ret).imp ?_
 exact ⟨fun ⟨a, b, c, d, e, g⟩ => ⟨a, by omega, by omega, d, e, g⟩, fun q => ⟨q.last, by have := q.rne; omega, by have := q.fne; omega, q.rules, q.flds, q.vis⟩⟩
theorem check_eq {s : Ssn} : pcheck s = some (faultN s) := by
 unfold pcheck faultN
 refine tooMany_ev.pick (fun h => ?_) fun h => ?_
 ·rw [if_pos rfl, if_pos h]
 ·rw [if_neg (by simp), if_neg h]
  obtain ⟨h1, h2, h3, h4⟩ := not_many h
  refine (valid_ev h).pick (fun hv => ?_) fun hv => ?_
  ·rw [if_pos rfl, if_pos hv]
   refine (eachF_ev (q := fun f => manyN f ≤ 3000) (fun f hf => hasFew_ev (hv.flds f hf) h1) (fewS h3 (by omega))).pick (fun hf => ?_) fun hf => ?_
   ·rw [if_pos rfl, if_pos (show FewS s from hf)]
   ·rw [if_neg (by simp), if_neg (show ¬ FewS s from hf)]
  ·rw [if_neg (by simp), if_neg hv]
theorem rIsRule_ev {s : Ssn} (h : ¬ ManyS s) (h0 : 0 ≤ s.Last) {l : List Int} (hl : l.length ≤ 9223372036854775807) : Ev (prIsRule s l) (VRu s l) := by
 obtain ⟨h1, _⟩ := not_many h
 refine (Ev.loopE (l := l) (F := prIsRule_L0 s l) (ok := fun x => 0 ≤ x ∧ x ≤ 100) (fin := some (decide ((l.length : Int) = s.Last + 1))) (P := (l.length : Int) = s.Last + 1) (fun d k a ha => ?_) (fun d => ?_) (Nat.lt_succ_self _) fun _ => Ev.dec Iff.rfl).imp ⟨fun h => ⟨h.2, h.1⟩, fun h => ⟨h.2, h.1⟩⟩
 ·have hk := (List.getElem?_eq_some_iff.1 ha).1
  rw [prIsRule_L0, if_pos (by omega), idx_at ha, Option.bind_some]
  exact In_ev.step (by rw [if_pos rfl, gd_pos (fI (by omega))]) (by rw [if_neg (by simp)])
 ·rw [prIsRule_L0, if_neg (Int.lt_irrefl _), gd_pos (fI (by omega))]
open Classical in
theorem fault_L3 {s : Ssn} (h : ¬ ManyS s) (hv : VS0 s) : prFault_L3 s 1000000 0 = some (if FewS s then 0 else 3) := by
 obtain ⟨h1, h2, h3, h4⟩ := not_many h
 have key := loop_each (l := s.Fields) (F := prFault_L3 s) (ok := fun f => manyN f ≤ 3000) (bad := some 3) (fin := some 0) (fun d k f hf => by
  have hk := (List.getElem?_eq_some_iff.1 hf).1
  have hvf := hv.flds f (List.mem_of_getElem? hf)
  rw [prFault_L3, if_pos (by omega), idx_at hf, Option.bind_some, rMany_eq hvf h1, Option.bind_some]
  constructor
  ·intro hm; rw [if_neg (by omega), gd_pos (fI (by omega))]
  ·intro hm; rw [if_pos (by omega)]) (fun d => by rw [prFault_L3, if_neg (Int.lt_irrefl _)]) (d := 1000000) (by omega)
 by_cases hf : FewS s
 ·rw [if_pos hf]; exact key.1 hf
 ·rw [if_neg hf]; exact key.2 hf
theorem fault_L2 {s : Ssn} (h : ¬ ManyS s) {x : Int} : ((∀ v ∈ s.Visits, VV s v) → prFault_L2 s 1000000 x 0 = prFault_L3 s 1000000 0) ∧ (¬ (∀ v ∈ s.Visits, VV s v) → prFault_L2 s 1000000 x 0 = some 1) := by
 obtain ⟨h1, h2, h3, h4⟩ := not_many h
 refine loop_each (l := s.Visits) (F := fun d y => prFault_L2 s d x y) (fun d k v hg => ?_) (fun d => by rw [prFault_L2, if_neg (Int.lt_irrefl _)]) (by omega)
 have hk := (List.getElem?_eq_some_iff.1 hg).1
 rw [prFault_L2, if_pos (by omega), idx_at hg, Option.bind_some, gd_pos (fI (by omega))]
 have e : VV s v ↔ ((0 ≤ v.Field ∧ v.Field ≤ (s.Fields.length : Int) - 1) ∧ (0 ≤ v.Week ∧ v.Week ≤ s.Last) ∧ Wi v.Seen 0 100) := by unfold VV; rw [show (v.Field < (s.Fields.length : Int) ↔ v.Field ≤ (s.Fields.length : Int) - 1) by omega]
 rw [e]
 obtain ⟨b1, g1, g2⟩ := In_ev (n := v.Field) (lo := 0) (hi := (s.Fields.length : Int) - 1)
 obtain ⟨b2, g3, g4⟩ := In_ev (n := v.Week) (lo := 0) (hi := s.Last)
 obtain ⟨b3, g5, g6⟩ := rWithin_ev (r := v.Seen) (lo := 0) (hi := 100)
 rw [g1, g3, g5, ← g2, ← g4, ← g6]
 simp only [Option.bind_some]
 cases b1 <;> cases b2 <;> cases b3 <;> simp only [if_true, Bool.false_eq_true, if_false, and_false, and_true, not_true_eq_false, not_false_eq_true, false_implies, true_implies, and_self] <;> first | exact trivial | (rw [gd_pos (fI (by omega))])
theorem fault_L1 {s : Ssn} (h : ¬ ManyS s) {x : Int} : ((∀ f ∈ s.Fields, VF s f) → prFault_L1 s 1000000 x 0 = prFault_L2 s 1000000 x 0) ∧ (¬ (∀ f ∈ s.Fields, VF s f) → prFault_L1 s 1000000 x 0 = some 1) := by
 obtain ⟨h1, h2, h3, h4⟩ := not_many h
 refine loop_each (l := s.Fields) (F := fun d y => prFault_L1 s d x y) (fun d k f hg => ?_) (fun d => by rw [prFault_L1, if_neg (Int.lt_irrefl _)]) (by omega)
 have hk := (List.getElem?_eq_some_iff.1 hg).1
 rw [prFault_L1, if_pos (by omega), idx_at hg, Option.bind_some, gd_pos (fI (by omega))]
 have e : VF s f ↔ ((0 ≤ f.Crop ∧ f.Crop ≤ (s.Rules.length : Int) - 1) ∧ Wi f.Week 0 s.Last ∧ Wi f.Damage 0 100 ∧ Wi f.Old 0 100) := ⟨fun q => ⟨by have := q.crp; omega, q.wk, q.dm, q.old⟩, fun q => ⟨by have := q.1; omega, q.2.1, q.2.2.1, q.2.2.2⟩⟩
 rw [e]
 obtain ⟨b1, g1, g2⟩ := In_ev (n := f.Crop) (lo := 0) (hi := (s.Rules.length : Int) - 1)
 obtain ⟨b2, g3, g4⟩ := rWithin_ev (r := f.Week) (lo := 0) (hi := s.Last)
 obtain ⟨b3, g5, g6⟩ := rWithin_ev (r := f.Damage) (lo := 0) (hi := 100)
 obtain ⟨b4, g7, g8⟩ := rWithin_ev (r := f.Old) (lo := 0) (hi := 100)
 rw [g1, g3, g5, g7, ← g2, ← g4, ← g6, ← g8]
 simp only [Option.bind_some]
 cases b1 <;> cases b2 <;> cases b3 <;> cases b4 <;> simp only [if_true, Bool.false_eq_true, if_false, and_false, and_true, not_true_eq_false, not_false_eq_true, false_implies, true_implies, and_self] <;> first | exact trivial | (rw [gd_pos (fI (by omega))])
theorem rFault_eq {s : Ssn} (hR : ∀ l ∈ s.Rules, l.length ≤ maxLen) : prFault s = some (faultN s) := by
 unfold prFault faultN
 by_cases hm : ManyS s
 ·rw [if_pos hm]
  unfold ManyS at hm
  by_cases h1 : (12 : Int) < s.Last
  ·rw [if_pos h1]
  rw [if_neg h1]
  by_cases h2 : (3 : Int) < (s.Rules.length : Int)
  ·rw [if_pos h2]
  rw [if_neg h2]
  by_cases h3 : (3 : Int) < (s.Fields.length : Int)
  ·rw [if_pos h3]
  rw [if_neg h3, if_pos (by omega)]
 obtain ⟨h1, h2, h3, h4⟩ := not_many hm
 rw [if_neg hm, if_neg (by omega), if_neg (by omega), if_neg (by omega), if_neg (by omega)]
 by_cases q1 : s.Last < 0
 ·rw [if_pos q1, if_neg fun hv => by have := hv.last; omega]
 rw [if_neg q1]
 by_cases q2 : (s.Rules.length : Int) = 0
 ·rw [if_pos q2, if_neg fun hv => by have := hv.rne; omega]
 rw [if_neg q2]
 by_cases q3 : (s.Fields.length : Int) = 0
 ·rw [if_pos q3, if_neg fun hv => by have := hv.fne; omega]
 rw [if_neg q3]
 have key := loop_each (l := s.Rules) (F := fun d y => prFault_L0 s d 0 y) (ok := VRu s) (bad := some 1) (fin := prFault_L1 s 1000000 0 0) (fun d k l hg => by
  have hk := (List.getElem?_eq_some_iff.1 hg).1
  rw [prFault_L0, if_pos (by omega), idx_at hg, Option.bind_some]
  exact (rIsRule_ev hm (by omega) (l := l) (by have := hR l (List.mem_of_getElem? hg); unfold maxLen at this; omega)).step (by rw [if_pos rfl, gd_pos (fI (by omega))]) (by rw [if_neg (by simp)])) (fun d => by rw [prFault_L0, if_neg (Int.lt_irrefl _)]) (d := 1000000) (by omega)
 by_cases r1 : ∀ l ∈ s.Rules, VRu s l
 ·rw [key.1 r1]
  by_cases r2 : ∀ f ∈ s.Fields, VF s f
  ·rw [(fault_L1 hm).1 r2]
   by_cases r3 : ∀ v ∈ s.Visits, VV s v
   ·have hv : VS0 s := ⟨by omega, by omega, by omega, r1, r2, r3⟩
    rw [(fault_L2 hm).1 r3, fault_L3 hm hv, if_pos hv]
   ·rw [(fault_L2 hm).2 r3, if_neg fun hv => r3 hv.vis]
  ·rw [(fault_L1 hm).2 r2, if_neg fun hv => r2 hv.flds]
 ·rw [key.2 r1, if_neg fun hv => r1 hv.rules]
end
end Go.Proofs.YtmlaphekbnanjaaGreat

namespace Go.Proofs.YtmlaphekbnanjaaGreat
open _root_.Go.Proofs.Tryz
open Go.Abs Go.Abs.Grow
set_option maxRecDepth 100000
noncomputable section
def fldAt (s : Ssn) (k : Int) : Fld := (s.Fields[k.toNat]?).getD ⟨0, ⟨0, 0⟩, ⟨0, 0⟩, ⟨0, 0⟩⟩
def ruleOf (s : Ssn) (crop : Int) : List Int := (s.Rules[crop.toNat]?).getD []
def FieldOk (s : Ssn) (k : Int) : Prop := 0 ≤ k ∧ k < s.Fields.length
theorem fld_at {s : Ssn} {k : Int} (h : FieldOk s k) : idx s.Fields k = some (fldAt s k) ∧ fldAt s k ∈ s.Fields := by
 unfold FieldOk at h
 have hk : k.toNat < s.Fields.length := by omega
 have e := List.getElem?_eq_getElem hk
 have e2 : fldAt s k = s.Fields[k.toNat] := by unfold fldAt; rw [e]; rfl
 refine ⟨?_, by rw [e2]; exact List.getElem_mem hk⟩
 rw [show k = ((k.toNat : Nat) : Int) by omega, idx_nat]
 rw [show ((k.toNat : Nat) : Int) = k by omega, e2, e]
theorem VS0.vf {s : Ssn} (h : VS0 s) {k : Int} (hk : FieldOk s k) : VF s (fldAt s k) := h.flds _ (fld_at hk).2
theorem rule_at {s : Ssn} (h : VS0 s) {c : Int} (h0 : 0 ≤ c) (h1 : c < s.Rules.length) : idx s.Rules c = some (ruleOf s c) ∧ VRu s (ruleOf s c) := by
 have hk : c.toNat < s.Rules.length := by omega
 have e := List.getElem?_eq_getElem hk
 have e2 : ruleOf s c = s.Rules[c.toNat] := by unfold ruleOf; rw [e]; rfl
 refine ⟨?_, by rw [e2]; exact h.rules _ (List.getElem_mem hk)⟩
 rw [show c = ((c.toNat : Nat) : Int) by omega, idx_nat]
 rw [show ((c.toNat : Nat) : Int) = c by omega, e2, e]
theorem VRu.okR {s : Ssn} {l : List Int} (h : VRu s l) : okR l := h.2
theorem rule_idx {l : List Int} {n : Nat} (h : n < l.length) : idx l (n : Int) = some (l.getD n 0) := by
 rw [idx_nat, List.getD_eq_getElem?_getD, List.getElem?_eq_getElem h]; rfl
def dmg (s : Ssn) (crop : Int) (t : Trh) (w : Int) : Int := dmgN (ruleOf s crop) t.Week t.Damage w.toNat
def IsT (f : Fld) (t : Trh) : Prop := inR f.Week t.Week ∧ inR f.Damage t.Damage ∧ inR f.Old t.Old
theorem IsT.rng {s : Ssn} {f : Fld} {t : Trh} (h : IsT f t) (hf : VF s f) : (0 ≤ t.Week ∧ t.Week ≤ s.Last) ∧ (0 ≤ t.Damage ∧ t.Damage ≤ 100) ∧ (0 ≤ t.Old ∧ t.Old ≤ 100) := by
 obtain ⟨h1, h2, h3⟩ := h
 have a := hf.wk; have b := hf.dm; have c := hf.old
 unfold Wi at a b c; unfold inR at h1 h2 h3
 omega
theorem rDamage_go {s : Ssn} (h : VS0 s) (hl : s.Last ≤ 12) {c : Int} (h0 : 0 ≤ c) (h1 : c < s.Rules.length) {t : Trh} (ht : 0 ≤ t.Week) (hd : 0 ≤ t.Damage ∧ t.Damage ≤ 100) : ∀ (d n : Nat), (n : Int) ≤ s.Last → ((n : Int) - t.Week).toNat + 2 ≤ d → prDamage_F d s c t n = some (dmgN (ruleOf s c) t.Week t.Damage n)
 | 0, n, _, hn => by omega
 | d + 1, n, hn, hd' => by
  obtain ⟨e1, e2⟩ := rule_at h h0 h1
  unfold prDamage_F
  by_cases hw : (n : Int) < t.Week
  ·rw [if_pos hw, dmg_before n hw]
  rw [if_neg hw]
  by_cases he : (n : Int) = t.Week
  ·rw [if_pos he, dmg_at he.symm]
  rw [if_neg he]
  cases n with
  | zero => omega
  | succ n =>
   have hlen := e2.1
   have ih := rDamage_go h hl h0 h1 ht hd d n (by omega) (by omega)
   have hr := e2.okR.at (n + 1)
   have hg := dmg_rng (r := ruleOf s c) (w := t.Week) e2.okR hd.1 n
   have hs := step_rng hg.1 hr.1 hr.2
   have hm := Int.mul_nonneg hg.1 hr.1
   have hm2 := Int.mul_le_mul hg.2 hr.2 hr.1 hd.1
   rw [gd_pos (fI (by omega)), show (((n + 1 : Nat) : Int) - 1) = (n : Int) by omega, ih, Option.bind_some, e1, Option.bind_some, rule_idx (by omega), Option.bind_some]
   show _ = some (if _ then _ else _)
   rw [if_neg (fun hh => he hh.symm)]
   generalize hx : dmgN (ruleOf s c) t.Week t.Damage n = x at *
   generalize hy : (ruleOf s c).getD (n + 1) 0 = r at *
   rw [gd_pos hg.1, gd_pos hr.1]
   generalize hz : x * r = z at *
   rw [gd_pos (fI (by omega)), gd_pos hm, gd_pos (by omega), gd_pos (fI (by omega)), gd_pos (fI (by omega))]
theorem rDamage_eq {s : Ssn} (h : VS0 s) (hl : s.Last ≤ 12) {c : Int} (h0 : 0 ≤ c) (h1 : c < s.Rules.length) {t : Trh} (ht : 0 ≤ t.Week) (hd : 0 ≤ t.Damage ∧ t.Damage ≤ 100) {w : Int} (hw : 0 ≤ w ∧ w ≤ s.Last) : prDamage s c t w = some (dmg s c t w) := by
 have := rDamage_go h hl h0 h1 ht hd ((w - t.Week).toNat + 2) w.toNat (by omega) (by omega)
 rw [show ((w.toNat : Nat) : Int) = w by omega] at this
 exact this
theorem dmg_rng' {s : Ssn} (h : VS0 s) {c : Int} (h0 : 0 ≤ c) (h1 : c < s.Rules.length) {t : Trh} (hd : 0 ≤ t.Damage) (w : Int) : 0 ≤ dmg s c t w ∧ dmg s c t w ≤ t.Damage := dmg_rng (rule_at h h0 h1).2.okR hd _
def mkDm (g : Nat → Int) : Dm := ⟨g 0, g 1, g 2, g 3, g 4, g 5, g 6, g 7, g 8, g 9, g 10, g 11, g 12⟩
def dmL (d : Dm) : List Int := [d.d0, d.d1, d.d2, d.d3, d.d4, d.d5, d.d6, d.d7, d.d8, d.d9, d.d10, d.d11, d.d12]
theorem dmL_get (g : Nat → Int) {k : Nat} (h : k < 13) : (dmL (mkDm g))[k]? = some (g k) := by
 unfold dmL mkDm
 match k, h with
 | 0, _ => rfl
 | 1, _ => rfl
 | 2, _ => rfl
 | 3, _ => rfl
 | 4, _ => rfl
 | 5, _ => rfl
 | 6, _ => rfl
 | 7, _ => rfl
 | 8, _ => rfl
 | 9, _ => rfl
 | 10, _ => rfl
 | 11, _ => rfl
 | 12, _ => rfl
theorem sti_at {g : Nat → Int} {n j : Nat} {v : Int} (hv : v = g n) : sti (n : Int) j v (if j < n then g j else 0) = if j < n + 1 then g j else 0 := by
 unfold sti
 by_cases h : n = j
 ·subst h; rw [if_pos rfl, if_pos (by omega), hv]
 ·rw [if_neg (by omega)]
  by_cases h2 : j < n
  ·rw [if_pos h2, if_pos (by omega)]
  ·rw [if_neg h2, if_neg (by omega)]
theorem grow_go {s : Ssn} (h : VS0 s) (hl : s.Last ≤ 12) {p : Plt} (h0 : 0 ≤ p.crop) (h1 : p.crop < s.Rules.length) (ht : 0 ≤ p.t.Week) (hd : 0 ≤ p.t.Damage ∧ p.t.Damage ≤ 100) (g : Nat → Int) (hg : ∀ n, g n = dmgN (ruleOf s p.crop) p.t.Week p.t.Damage n) :
  ∀ (d n : Nat) (x : Int), n ≤ 13 → 13 - n < d → (x = if n = 0 then 0 else g (n - 1)) → pgrow_L0 s p d (if 0 < n then g 0 else 0) (if 1 < n then g 1 else 0) (if 2 < n then g 2 else 0) (if 3 < n then g 3 else 0) (if 4 < n then g 4 else 0) (if 5 < n then g 5 else 0) (if 6 < n then g 6 else 0) (if 7 < n then g 7 else 0) (if 8 < n then g 8 else 0) (if 9 < n then g 9 else 0) (if 10 < n then g 10 else 0) (if 11 < n then g 11 else 0) (if 12 < n then g 12 else 0) x (n : Int) = some (mkDm g)
 | 0, n, _, _, hn, _ => by omega
 | d + 1, n, x, hn, hd', hx => by
  obtain ⟨e1, e2⟩ := rule_at h h0 h1
  unfold pgrow_L0
  by_cases h13 : n = 13
  ·subst h13
   rw [if_neg (by omega)]
   rfl
  have hlt : n < 13 := by omega
  rw [if_pos (by omega)]
  have ih := fun y hy => grow_go h hl h0 h1 ht hd g hg d (n + 1) y (by omega) (by omega) hy
  have hgo : ∀ v, v = g n → pgrow_L0 s p d (sti (n : Int) 0 v (if 0 < n then g 0 else 0)) (sti (n : Int) 1 v (if 1 < n then g 1 else 0)) (sti (n : Int) 2 v (if 2 < n then g 2 else 0)) (sti (n : Int) 3 v (if 3 < n then g 3 else 0)) (sti (n : Int) 4 v (if 4 < n then g 4 else 0)) (sti (n : Int) 5 v (if 5 < n then g 5 else 0)) (sti (n : Int) 6 v (if 6 < n then g 6 else 0)) (sti (n : Int) 7 v (if 7 < n then g 7 else 0)) (sti (n : Int) 8 v (if 8 < n then g 8 else 0)) (sti (n : Int) 9 v (if 9 < n then g 9 else 0)) (sti (n : Int) 10 v (if 10 < n then g 10 else 0)) (sti (n : Int) 11 v (if 11 < n then g 11 else 0)) (sti (n : Int) 12 v (if 12 < n then g 12 else 0)) v ((n : Int) + 1) = some (mkDm g) := fun v hv => by
   simp only [sti_at hv]
   exact ih v (by rw [if_neg (by omega)]; exact hv)
  by_cases hw : (n : Int) = p.t.Week
  ·rw [if_pos hw, gd_pos (by omega), gd_pos (fI (by omega))]
   exact hgo _ (by rw [hg, dmg_at hw.symm])
  rw [if_neg hw]
  have hgn : g n = x - x * (ruleOf s p.crop).getD n 0 / 100 := by
   cases n with
   | zero =>
    rw [hg, hx, if_pos rfl]
    unfold dmgN
    rw [if_neg (fun hh => hw hh.symm)]; simp
   | succ n =>
    rw [hg, hx, if_neg (by omega), show n + 1 - 1 = n by omega, hg]
    show (if _ then _ else _) = _
    rw [if_neg (fun hh => hw hh.symm)]
  have hxr : 0 ≤ x ∧ x ≤ p.t.Damage := by
   rw [hx]
   split
   ·omega
   ·rw [hg]; exact dmg_rng e2.okR hd.1 _
  by_cases hlast : (n : Int) ≤ s.Last
  ·have hr := e2.okR.at n
   have hlen := e2.1
   have hm := Int.mul_nonneg hxr.1 hr.1
   have hm2 := Int.mul_le_mul hxr.2 hr.2 hr.1 hd.1
   have hs := step_rng hxr.1 hr.1 hr.2
   rw [if_pos hlast, e1, Option.bind_some, rule_idx (by omega), Option.bind_some, gd_pos hxr.1, gd_pos hr.1]
   generalize hy : (ruleOf s p.crop).getD n 0 = r at *
   generalize hz : x * r = z at *
   rw [gd_pos (fI (by omega)), gd_pos hm, gd_pos (by omega), gd_pos (fI (by omega)), gd_pos (fI (by omega)), gd_pos (by omega), gd_pos (fI (by omega))]
   exact hgo _ hgn.symm
  ·have hlen := e2.1
   rw [if_neg hlast, gd_pos (by omega), gd_pos (fI (by omega))]
   refine hgo _ ?_
   rw [hgn, List.getD_eq_getElem?_getD, List.getElem?_eq_none (by omega)]
   simp
def dmOf (s : Ssn) (crop : Int) (t : Trh) : Dm := mkDm (dmgN (ruleOf s crop) t.Week t.Damage)
theorem grow_eq {s : Ssn} (h : VS0 s) (hl : s.Last ≤ 12) {p : Plt} (h0 : 0 ≤ p.crop) (h1 : p.crop < s.Rules.length) (ht : 0 ≤ p.t.Week) (hd : 0 ≤ p.t.Damage ∧ p.t.Damage ≤ 100) : pgrow s p = some (dmOf s p.crop p.t) :=
 grow_go h hl h0 h1 ht hd _ (fun _ => rfl) 14 0 0 (by omega) (by omega) rfl
theorem dm_at {s : Ssn} {c : Int} {t : Trh} {w : Int} (hw : 0 ≤ w ∧ w ≤ 12) : idx (dmL (dmOf s c t)) w = some (dmg s c t w) := by
 rw [show w = ((w.toNat : Nat) : Int) by omega, idx_nat]
 exact dmL_get _ (by omega)
def harv (s : Ssn) (crop : Int) (t : Trh) : Int := dmg s crop t s.Last
theorem dm_12 {s : Ssn} (h : VS0 s) (hl : s.Last ≤ 12) {c : Int} (h0 : 0 ≤ c) (h1 : c < s.Rules.length) {t : Trh} (ht : t.Week ≤ s.Last) : dmg s c t 12 = harv s c t := by
 have hv := (rule_at h h0 h1).2.1
 have hla := h.last
 have := dmg_after (r := ruleOf s c) (w := t.Week) (d := t.Damage) (n := s.Last.toNat) (by omega) (by omega) (12 - s.Last.toNat)
 unfold harv dmg
 rw [← this]
 congr 1
 show (12 : Int).toNat = _
 have : (12 : Int).toNat = 12 := rfl
 omega
theorem harvestD_eq {s : Ssn} (h : VS0 s) (hl : s.Last ≤ 12) {c : Int} (h0 : 0 ≤ c) (h1 : c < s.Rules.length) {t : Trh} (ht : t.Week ≤ s.Last) : pharvestD (dmOf s c t) = some (harv s c t) := by
 unfold pharvestD
 have e : idx (dmL (dmOf s c t)) 12 = some (harv s c t) := by rw [dm_at (by omega), dm_12 h hl h0 h1 ht]
 have e' : idx [(dmOf s c t).d0, (dmOf s c t).d1, (dmOf s c t).d2, (dmOf s c t).d3, (dmOf s c t).d4, (dmOf s c t).d5, (dmOf s c t).d6, (dmOf s c t).d7, (dmOf s c t).d8, (dmOf s c t).d9, (dmOf s c t).d10, (dmOf s c t).d11, (dmOf s c t).d12] (12 : Int) = some (harv s c t) := e
 rw [e', Option.bind_some]
def seenN (s : Ssn) (crop : Int) (t : Trh) (w : Int) : Int := min (t.Old + dmg s crop t w) 100
theorem seen_eq {s : Ssn} (h : VS0 s) {c : Int} (h0 : 0 ≤ c) (h1 : c < s.Rules.length) {t : Trh} (hd : 0 ≤ t.Damage ∧ t.Damage ≤ 100) (ho : 0 ≤ t.Old ∧ t.Old ≤ 100) {w : Int} (hw : 0 ≤ w ∧ w ≤ 12) : pseen ⟨t, dmOf s c t⟩ w = some (seenN s c t w) := by
 have hr := dmg_rng' h h0 h1 (t := t) hd.1 w
 unfold pseen
 have e' : idx [(dmOf s c t).d0, (dmOf s c t).d1, (dmOf s c t).d2, (dmOf s c t).d3, (dmOf s c t).d4, (dmOf s c t).d5, (dmOf s c t).d6, (dmOf s c t).d7, (dmOf s c t).d8, (dmOf s c t).d9, (dmOf s c t).d10, (dmOf s c t).d11, (dmOf s c t).d12] w = some (dmg s c t w) := dm_at hw
 dsimp only
 rw [e', Option.bind_some, gd_pos (fI (by omega))]; rfl
theorem rSeen_eq {s : Ssn} (h : VS0 s) (hl : s.Last ≤ 12) {k : Int} (hk : FieldOk s k) {t : Trh} (ht : 0 ≤ t.Week) (hd : 0 ≤ t.Damage ∧ t.Damage ≤ 100) (ho : 0 ≤ t.Old ∧ t.Old ≤ 100) {w : Int} (hw : 0 ≤ w ∧ w ≤ s.Last) : prSeen s k t w = some (seenN s (fldAt s k).Crop t w) := by
 have hf := h.vf hk
 have hr := dmg_rng' h hf.crp.1 hf.crp.2 (t := t) hd.1 w
 unfold prSeen
 rw [(fld_at hk).1, Option.bind_some, rDamage_eq h hl hf.crp.1 hf.crp.2 ht hd hw, Option.bind_some, gd_pos (fI (by omega))]
 unfold seenN
 rw [Int.min_comm]
theorem rHarvest_eq {s : Ssn} (h : VS0 s) (hl : s.Last ≤ 12) {k : Int} (hk : FieldOk s k) {t : Trh} (ht : 0 ≤ t.Week) (hd : 0 ≤ t.Damage ∧ t.Damage ≤ 100) : prHarvest s k t = some (harv s (fldAt s k).Crop t) := by
 have hf := h.vf hk
 unfold prHarvest
 rw [(fld_at hk).1, Option.bind_some, rDamage_eq h hl hf.crp.1 hf.crp.2 ht hd ⟨h.last, Int.le_refl _⟩, Option.bind_some]; rfl
theorem rListed_ev {f : Fld} {t : Trh} : Ev (prIsListed f t) (IsT f t) := Ev.and In_ev fun _ => Ev.and In_ev fun _ => In_ev.ret
end
end Go.Proofs.YtmlaphekbnanjaaGreat

namespace Go.Proofs.YtmlaphekbnanjaaGreat
open _root_.Go.Proofs.Tryz
open Go.Abs Go.Abs.Grow
set_option maxRecDepth 100000
noncomputable section
def nums (r : Rg) : List Int := segI r.Lo (cnt r).toNat
theorem mem_nums {r : Rg} (h : r.Lo ≤ r.Hi) {x : Int} : x ∈ nums r ↔ inR r x := by
 unfold nums inR cnt
 rw [mem_segI]; omega
theorem nums_len {r : Rg} {lo hi : Int} (h : Wi r lo hi) {n : Nat} (hn : hi - lo + 1 ≤ n) : (nums r).length ≤ n := by
 have := cnt_rng h
 unfold nums; rw [segI_len]; omega
theorem numbers_go {r : Rg} {n : Int} (h : Wi r (-1000) 1000) (hn : n = cnt r) : ∀ (d k m : Nat), (k : Int) + m = n → m < d → pnumbersI_L0 r n d (k : Int) = some (segI (r.Lo + k) m)
 | 0, _, _, _, h => by omega
 | d + 1, k, 0, hk, _ => by
  unfold pnumbersI_L0
  rw [if_neg (by omega)]; rfl
 | d + 1, k, m + 1, hk, hd => by
  have hc := h
  unfold Wi at hc
  unfold cnt at hn
  unfold pnumbersI_L0
  rw [if_pos (by omega), gd_pos (fI (by omega)), gd_pos (fI (by omega)), show (k : Int) + 1 = ((k + 1 : Nat) : Int) by omega, numbers_go h (by unfold cnt; exact hn) d (k + 1) m (by omega) (by omega), Option.bind_some, show r.Lo + ((k + 1 : Nat) : Int) = r.Lo + k + 1 by omega]
  rfl
theorem numbers_eq {r : Rg} (h : Wi r (-1000) 1000) : pnumbers r = some (nums r) := by
 have hc := h
 unfold Wi at hc
 have hcn : 0 < cnt r := by unfold cnt; omega
 unfold pnumbers pnumbersI
 rw [count_eq h, Option.bind_some]
 have := numbers_go h rfl ((cnt r).toNat + 1) 0 (cnt r).toNat (by omega) (by omega)
 rw [show ((0 : Nat) : Int) = 0 by rfl] at this
 rw [this, Option.bind_some]
 unfold nums
 rw [Int.add_zero]
def chL (f : Fld) : List Trh := (nums f.Week).flatMap fun w => (nums f.Damage).flatMap fun d => (nums f.Old).map fun o => ⟨w, d, o⟩
theorem mem_chL {s : Ssn} {f : Fld} (h : VF s f) {t : Trh} : t ∈ chL f ↔ IsT f t := by
 have h1 := h.wk; have h2 := h.dm; have h3 := h.old
 unfold Wi at h1 h2 h3
 unfold chL IsT
 rw [List.mem_flatMap]
 constructor
 ·rintro ⟨w, hw, ht⟩
  obtain ⟨d, hd, ht⟩ := List.mem_flatMap.1 ht
  obtain ⟨o, ho, rfl⟩ := List.mem_map.1 ht
  exact ⟨(mem_nums (by omega)).1 hw, (mem_nums (by omega)).1 hd, (mem_nums (by omega)).1 ho⟩
 ·rintro ⟨a, b, c⟩
  exact ⟨t.Week, (mem_nums (by omega)).2 a, List.mem_flatMap.2 ⟨t.Damage, (mem_nums (by omega)).2 b, List.mem_map.2 ⟨t.Old, (mem_nums (by omega)).2 c, rfl⟩⟩⟩
theorem flatMap_len {α β : Type} {f : α → List β} {B : Nat} : ∀ {l : List α}, (∀ x ∈ l, (f x).length ≤ B) → (l.flatMap f).length ≤ l.length * B
 | [], _ => by simp
 | a :: l, h => by
  rw [List.flatMap_cons, List.length_append, List.length_cons, Nat.add_mul, Nat.one_mul, Nat.add_comm]
  exact Nat.add_le_add (flatMap_len fun x hx => h x (List.mem_cons_of_mem _ hx)) (h a (List.mem_cons_self ..))
theorem chL_len {s : Ssn} {f : Fld} (h : VF s f) (hl : s.Last ≤ 12) : (chL f).length ≤ 132613 := by
 have h1 := nums_len h.wk (n := 13) (by omega)
 have h2 := nums_len h.dm (n := 101) (by omega)
 have h3 := nums_len h.old (n := 101) (by omega)
 have q1 : ∀ w : Int, ((nums f.Damage).flatMap fun d => (nums f.Old).map fun o => (⟨w, d, o⟩ : Trh)).length ≤ 10201 := fun w => by
  have := flatMap_len (l := nums f.Damage) (f := fun d => (nums f.Old).map fun o => (⟨w, d, o⟩ : Trh)) (B := 101) fun d _ => by rw [List.length_map]; exact h3
  have h4 : (nums f.Damage).length * 101 ≤ 101 * 101 := Nat.mul_le_mul_right _ h2
  omega
 have q2 := flatMap_len (l := nums f.Week) (f := fun w => (nums f.Damage).flatMap fun d => (nums f.Old).map fun o => (⟨w, d, o⟩ : Trh)) (B := 10201) fun w _ => q1 w
 have h4 : (nums f.Week).length * 10201 ≤ 13 * 10201 := Nat.mul_le_mul_right _ h1
 unfold chL; omega
def Good (s : Ssn) (D : Plt → Prop) (m : Option (Plt → Option Dm)) : Prop := ∃ g, m = some g ∧ ∀ p, D p → g p = some (dmOf s p.crop p.t)
theorem Good.mono {s : Ssn} {D D' : Plt → Prop} {m : Option (Plt → Option Dm)} (h : Good s D m) (hD : ∀ p, D' p → D p) : Good s D' m := by
 obtain ⟨g, h1, h2⟩ := h
 exact ⟨g, h1, fun p hp => h2 p (hD p hp)⟩
theorem Good.set {s : Ssn} {D : Plt → Prop} {m : Option (Plt → Option Dm)} (h : Good s D m) (p : Plt) : ∃ m', mset m p (dmOf s p.crop p.t) = some m' ∧ Good s (fun q => D q ∨ q = p) m' := by
 obtain ⟨g, rfl, h2⟩ := h
 refine ⟨_, rfl, _, rfl, fun q hq => ?_⟩
 by_cases hqp : q = p
 ·rw [if_pos hqp, hqp]
 ·rw [if_neg hqp]
  exact h2 q (hq.elim id fun h => absurd h hqp)
theorem open_L2 {s : Ssn} (h : VS0 s) (hl : s.Last ≤ 12) (hr3 : s.Rules.length ≤ 3) {f : Fld} (hf : VF s f) {w : Int} (hw : 0 ≤ w ∧ w ≤ s.Last) {K : Option (Plt → Option Dm) → Option Wk} {R : Option Wk → Prop} : ∀ (ds : List Int) (D : Plt → Prop) (m : Option (Plt → Option Dm)), (∀ d ∈ ds, 0 ≤ d ∧ d ≤ 100) → Good s D m →
  (∀ m', Good s (fun q => D q ∨ ∃ d ∈ ds, q = ⟨⟨w, d, 0⟩, f.Crop⟩) m' → R (K m')) → R (popen_L2 s f w K ds m)
 | [], D, m, _, hm, hK => hK m (hm.mono fun p hp => hp.elim id fun ⟨d, hd, _⟩ => by cases hd)
 | d :: ds, D, m, hd, hm, hK => by
  have hc := hf.crp
  have h1 := hd d (List.mem_cons_self ..)
  unfold popen_L2
  obtain ⟨m', h2, h3⟩ := hm.set ⟨⟨w, d, 0⟩, f.Crop⟩
  rw [show pplant f w d = some ⟨⟨w, d, 0⟩, f.Crop⟩ from rfl, Option.bind_some, grow_eq h hl hc.1 hc.2 hw.1 h1, Option.bind_some, gd_pos ⟨fI (by dsimp only; omega), fI (by dsimp only; omega), fI (by dsimp only; omega), fI (by dsimp only; omega), trivial⟩, h2, Option.bind_some]
  refine open_L2 h hl hr3 hf hw ds _ m' (fun x hx => hd x (List.mem_cons_of_mem _ hx)) h3 fun m'' hm'' => hK m'' (hm''.mono fun p hp => ?_)
  rcases hp with hp | ⟨x, hx, hp⟩
  ·exact .inl (.inl hp)
  ·rcases List.mem_cons.1 hx with rfl | hx
   ·exact .inl (.inr hp)
   ·exact .inr ⟨x, hx, hp⟩
theorem open_L1 {s : Ssn} (h : VS0 s) (hl : s.Last ≤ 12) (hr3 : s.Rules.length ≤ 3) {f : Fld} (hf : VF s f) {x : Int} (hx : fitsP .i64 (x + 1)) {K : Option (Plt → Option Dm) → Int → Option Wk} {R : Option Wk → Prop} : ∀ (ws : List Int) (D : Plt → Prop) (m : Option (Plt → Option Dm)), (∀ w ∈ ws, 0 ≤ w ∧ w ≤ s.Last) → Good s D m →
  (∀ m', Good s (fun q => D q ∨ ∃ w ∈ ws, ∃ d, inR f.Damage d ∧ q = ⟨⟨w, d, 0⟩, f.Crop⟩) m' → R (K m' (x + 1))) → R (popen_L1 s x f K ws m)
 | [], D, m, _, hm, hK => by
  unfold popen_L1
  rw [gd_pos hx]
  exact hK m (hm.mono fun p hp => hp.elim id fun ⟨d, hd, _⟩ => by cases hd)
 | w :: ws, D, m, hw, hm, hK => by
  have hd := hf.dm
  have hdw := hd.w (by omega) (by omega)
  unfold popen_L1
  rw [numbers_eq hdw, Option.bind_some]
  unfold Wi at hd
  refine open_L2 h hl hr3 hf (hw w (List.mem_cons_self ..)) (nums f.Damage) D m (fun d hd' => ?_) hm fun m' hm' => ?_
  ·have := (mem_nums (by omega)).1 hd'
   unfold inR at this; omega
  ·refine open_L1 h hl hr3 hf hx ws _ m' (fun y hy => hw y (List.mem_cons_of_mem _ hy)) hm' fun m'' hm'' => hK m'' (hm''.mono fun p hp => ?_)
   rcases hp with hp | ⟨y, hy, d, hdd, hp⟩
   ·exact .inl (.inl hp)
   ·rcases List.mem_cons.1 hy with rfl | hy
    ·exact .inl (.inr ⟨d, (mem_nums (by omega)).2 hdd, hp⟩)
    ·exact .inr ⟨y, hy, d, hdd, hp⟩
def DomF (l : List Fld) (q : Plt) : Prop := ∃ f ∈ l, ∃ w, inR f.Week w ∧ ∃ d, inR f.Damage d ∧ q = ⟨⟨w, d, 0⟩, f.Crop⟩
theorem open_L0 {s : Ssn} (h : VS0 s) (hl : s.Last ≤ 12) (hr3 : s.Rules.length ≤ 3) (h3 : s.Fields.length ≤ 3) : ∀ (d k : Nat) (m : Option (Plt → Option Dm)), k ≤ s.Fields.length → s.Fields.length - k < d → Good s (DomF (s.Fields.take k)) m →
  ∃ m', popen_L0 s d m (k : Int) = some ⟨s, m'⟩ ∧ Good s (DomF s.Fields) m'
 | 0, k, m, _, hd, _ => by omega
 | d + 1, k, m, hk, hd, hm => by
  unfold popen_L0
  by_cases hkn : k = s.Fields.length
  ·subst hkn
   rw [if_neg (Int.lt_irrefl _)]
   exact ⟨m, rfl, by rw [List.take_length] at hm; exact hm⟩
  have hlt : k < s.Fields.length := by omega
  have hg := List.getElem?_eq_getElem hlt
  have hf := h.flds _ (List.getElem_mem hlt)
  generalize hfe : s.Fields[k] = f at hg hf
  have hwk := hf.wk
  rw [if_pos (by omega), idx_at hg, Option.bind_some, numbers_eq (hwk.w (by omega) (by omega)), Option.bind_some]
  unfold Wi at hwk
  refine open_L1 (R := fun o => ∃ m', o = some ⟨s, m'⟩ ∧ Good s (DomF s.Fields) m') h hl hr3 hf (fI (by omega)) (nums f.Week) _ m (fun w hw => ?_) hm fun m' hm' => ?_
  ·have := (mem_nums (by omega)).1 hw
   unfold inR at this; omega
  ·rw [show (k : Int) + 1 = ((k + 1 : Nat) : Int) by omega]
   refine open_L0 h hl hr3 h3 d (k + 1) m' (by omega) (by omega) (hm'.mono fun p hp => ?_)
   obtain ⟨f', hf', w, hw, x, hx, hp⟩ := hp
   rw [List.take_add_one, hg] at hf'
   rcases List.mem_append.1 hf' with hf' | hf'
   ·exact .inl ⟨f', hf', w, hw, x, hx, hp⟩
   ·have : f' = f := by simpa using hf'
    subst this
    exact .inr ⟨w, (mem_nums (by omega)).2 hw, x, hx, hp⟩
theorem open_eq {s : Ssn} (h : VS s) : ∃ m, popen s = some ⟨s, m⟩ ∧ Good s (DomF s.Fields) m := by
 obtain ⟨h1, h2, h3, h4⟩ := not_many h.many
 exact open_L0 h.toVS0 h1 h2 h3 (s.Fields.length + 1) 0 _ (Nat.zero_le _) (by omega) ⟨_, rfl, fun p hp => by obtain ⟨f, hf, _⟩ := hp; cases hf⟩
def crs (s : Ssn) (c : Int) (t : Trh) : Crs := ⟨t, dmOf s c t⟩
theorem ch_L3 {w d : Int} {dm : Dm} {r : List Crs} : ∀ os : List Int, pchoicesI_L3 w d dm (some r) os = some (os.map (fun o => ⟨⟨w, d, o⟩, dm⟩) ++ r)
 | [] => rfl
 | o :: os => by unfold pchoicesI_L3; rw [ch_L3 os, Option.bind_some]; rfl
theorem ch_L1 {s : Ssn} {W : Wk} {f : Fld} (hm : Good s (DomF s.Fields) W.damages) (hf : f ∈ s.Fields) (hv : VF s f) (hl : s.Last ≤ 12) (h3 : s.Rules.length ≤ 3) {w : Int} (hw : inR f.Week w) {r : List Crs} : ∀ ds : List Int, (∀ d ∈ ds, inR f.Damage d) →
  pchoicesI_L1 f W w (some r) ds = some ((ds.flatMap fun d => (nums f.Old).map fun o => crs s f.Crop ⟨w, d, o⟩) ++ r)
 | [], _ => rfl
 | d :: ds, hd => by
  have h1 := hd d (List.mem_cons_self ..)
  have hwk := hv.wk; have hdm := hv.dm; have hcr := hv.crp
  unfold Wi at hwk hdm
  have hw' := hw
  have h1' := h1
  unfold inR at hw' h1'
  obtain ⟨g, hg1, hg2⟩ := id hm
  have hget : mget W.damages ⟨⟨w, d, 0⟩, f.Crop⟩ = some (dmOf s f.Crop ⟨w, d, 0⟩) := by rw [hg1]; exact hg2 _ ⟨f, hf, w, hw, d, h1, rfl⟩
  unfold pchoicesI_L1
  rw [show pplant f w d = some ⟨⟨w, d, 0⟩, f.Crop⟩ from rfl, Option.bind_some, gd_pos ⟨fI (by dsimp only; omega), fI (by dsimp only; omega), fI (by dsimp only; omega), fI (by dsimp only; omega), trivial⟩, mcase_some hget, numbers_eq (hv.old.w (by omega) (by omega)), Option.bind_some, ch_L1 hm hf hv hl h3 hw ds fun x hx => hd x (List.mem_cons_of_mem _ hx), ch_L3, List.flatMap_cons, List.append_assoc]
  rfl
theorem ch_L0 {s : Ssn} {W : Wk} {f : Fld} (hm : Good s (DomF s.Fields) W.damages) (hf : f ∈ s.Fields) (hv : VF s f) (hl : s.Last ≤ 12) (h3 : s.Rules.length ≤ 3) : ∀ ws : List Int, (∀ w ∈ ws, inR f.Week w) →
  pchoicesI_L0 f W ws = some ((ws.flatMap fun w => (nums f.Damage).flatMap fun d => (nums f.Old).map fun o => crs s f.Crop ⟨w, d, o⟩))
 | [], _ => rfl
 | w :: ws, hw => by
  have hdm := hv.dm
  unfold Wi at hdm
  unfold pchoicesI_L0
  rw [numbers_eq (hv.dm.w (by omega) (by omega)), Option.bind_some, ch_L0 hm hf hv hl h3 ws fun x hx => hw x (List.mem_cons_of_mem _ hx), ch_L1 hm hf hv hl h3 (hw w (List.mem_cons_self ..)) _ fun d hd => (mem_nums (by omega)).1 hd]
  rfl
theorem choices_eq {s : Ssn} {W : Wk} {f : Fld} (hm : Good s (DomF s.Fields) W.damages) (hf : f ∈ s.Fields) (hv : VF s f) (hl : s.Last ≤ 12) (h3 : s.Rules.length ≤ 3) : pchoices W f = some ((chL f).map (crs s f.Crop)) := by
 have hwk := hv.wk
 unfold Wi at hwk
 unfold pchoices pchoicesI
 rw [numbers_eq (hv.wk.w (by omega) (by omega)), Option.bind_some, ch_L0 hm hf hv hl h3 _ fun w hw => (mem_nums (by omega)).1 hw, Option.bind_some]
 congr 1
 unfold chL
 rw [List.map_flatMap]
 congr 1
 funext w
 rw [List.map_flatMap]
 congr 1
 funext d
 rw [List.map_map]; rfl
def okV (s : Ssn) (V : List Vis) (k : Int) (t : Trh) : Prop := ∀ v ∈ V, v.Field = k → inR v.Seen (seenN s (fldAt s k).Crop t v.Week)
def TR (s : Ssn) (V : List Vis) (k : Int) (t : Trh) : Prop := IsT (fldAt s k) t ∧ okV s V k t
open Classical in
def TL (s : Ssn) (V : List Vis) (k : Int) : List Trh := (chL (fldAt s k)).filter fun t => decide (okV s V k t)
structure WOk (s : Ssn) (V : List Vis) (W : Wk) : Prop where
 vs : VS s
 ss : W.s = { s with Visits := V }
 m : Good s (DomF s.Fields) W.damages
 v : ∀ v ∈ V, VV s v
 len : V.length ≤ 6
open Classical in
theorem mem_TL {s : Ssn} (h : VS s) {V : List Vis} {k : Int} (hk : FieldOk s k) {t : Trh} : t ∈ TL s V k ↔ TR s V k t := by
 unfold TL TR
 rw [List.mem_filter, mem_chL (h.vf hk), decide_eq_true_eq]
theorem TL_len {s : Ssn} (h : VS s) {V : List Vis} {k : Int} (hk : FieldOk s k) : (TL s V k).length ≤ 132613 := by
 unfold TL
 exact Nat.le_trans (List.length_filter_le _ _) (chL_len (h.vf hk) (not_many h.many).1)
theorem allows_ev {s : Ssn} (h : VS s) {V : List Vis} (hV : ∀ v ∈ V, VV s v) (hn : V.length ≤ 6) {k : Int} (hk : FieldOk s k) {t : Trh} (ht : IsT (fldAt s k) t) : Ev (pallows { s with Visits := V } k (crs s (fldAt s k).Crop t)) (okV s V k t) := by
 obtain ⟨h1, _⟩ := not_many h.many
 have hf := h.vf hk
 obtain ⟨q1, q2, q3⟩ := ht.rng hf
 refine (eachV_ev (q := fun v => v.Field = k → inR v.Seen (seenN s (fldAt s k).Crop t v.Week)) (fun v hv => ?_) (fewS hn (by omega))).ret
 unfold pallows1
 by_cases hvk : v.Field = k
 ·rw [if_pos hvk, show pseen (crs s (fldAt s k).Crop t) v.Week = _ from seen_eq h.toVS0 hf.crp.1 hf.crp.2 q2 q3 (by have := (hV v hv).2.1; omega), Option.bind_some]
  exact has_ev.ret.imp ⟨fun h _ => h, fun h => h hvk⟩
 ·rw [if_neg hvk]; exact Ev.tt fun h => absurd h hvk
open Classical in
theorem truths_L0 {s : Ssn} {V : List Vis} {W : Wk} (h : WOk s V W) {k : Int} (hk : FieldOk s k) : ∀ l : List Trh, (∀ t ∈ l, IsT (fldAt s k) t) → ptruthsI_L0 W k (l.map (crs s (fldAt s k).Crop)) = some ((l.filter fun t => decide (okV s V k t)).map (crs s (fldAt s k).Crop))
 | [], _ => rfl
 | t :: l, ht => by
  have ih := truths_L0 h hk l fun x hx => ht x (List.mem_cons_of_mem _ hx)
  rw [List.map_cons]
  unfold ptruthsI_L0
  rw [h.ss, (allows_ev h.vs h.v h.len hk (ht t (List.mem_cons_self ..))).eqd, Option.bind_some, ih]
  by_cases ho : okV s V k t
  ·rw [decide_eq_true ho, if_pos rfl, List.filter_cons_of_pos (by simpa using ho)]; rfl
  ·rw [decide_eq_false ho, if_neg (by simp), List.filter_cons_of_neg (by simpa using ho)]
theorem truths_eq {s : Ssn} {V : List Vis} {W : Wk} (h : WOk s V W) {k : Int} (hk : FieldOk s k) : ptruths W k = some ((TL s V k).map (crs s (fldAt s k).Crop)) := by
 obtain ⟨h1, h2, _⟩ := not_many h.vs.many
 have hf := h.vs.vf hk
 unfold ptruths ptruthsI
 rw [h.ss]
 rw [show idx ({ s with Visits := V } : Ssn).Fields k = some (fldAt s k) from (fld_at hk).1, Option.bind_some, choices_eq h.m (fld_at hk).2 hf h1 h2, Option.bind_some, truths_L0 h hk _ fun t ht => (mem_chL hf).1 ht, Option.bind_some]; rfl
def HTf (s : Ssn) (V : List Vis) (k : Int) : Prop := ∃ t, TR s V k t
def HT (s : Ssn) (V : List Vis) : Prop := ∀ k, FieldOk s k → HTf s V k
theorem TL_ne {s : Ssn} (h : VS s) {V : List Vis} {k : Int} (hk : FieldOk s k) : TL s V k ≠ [] ↔ HTf s V k := by
 constructor
 ·intro hn
  obtain ⟨t, ht⟩ := List.exists_mem_of_ne_nil _ hn
  exact ⟨t, (mem_TL h hk).1 ht⟩
 ·rintro ⟨t, ht⟩ hn
  have := (mem_TL h hk).2 ht
  rw [hn] at this; cases this
theorem hasTruthOf_ev {s : Ssn} {V : List Vis} {W : Wk} (h : WOk s V W) {k : Int} (hk : FieldOk s k) : Ev (phasTruthOf W k) (HTf s V k) := by
 unfold phasTruthOf
 rw [truths_eq h hk, Option.bind_some]
 have hn := TL_ne h.vs (V := V) hk
 cases hl : TL s V k with
 | nil => rw [hl] at hn; exact Ev.ff fun hh => (hn.2 hh) rfl
 | cons t l => rw [hl] at hn; exact Ev.tt (hn.1 (by simp))
theorem hasTruth_ev {s : Ssn} {V : List Vis} {W : Wk} (h : WOk s V W) : Ev (phasTruth W) (HT s V) := by
 obtain ⟨h1, h2, h3, h4⟩ := not_many h.vs.many
 have e : W.s.Fields = s.Fields := by rw [h.ss]
 unfold phasTruth
 rw [e]
 have key := loopAll_tt (n := s.Fields.length) (F := phasTruth_L0 W) (ok := fun j => HTf s V (j : Int)) (bad := some false) (fin := some true) (fun d k hk => by
  rw [phasTruth_L0, e, if_pos (by omega)]
  exact (hasTruthOf_ev h (k := (k : Int)) ⟨by omega, by omega⟩).step (by rw [if_pos rfl, gd_pos (fI (by omega))]) (by rw [if_neg (by simp)])) (fun d => by rw [phasTruth_L0, e, if_neg (Int.lt_irrefl _)]) (d := s.Fields.length + 1) (by omega)
 have hiff : (∀ j, j < s.Fields.length → HTf s V (j : Int)) ↔ HT s V := ⟨fun q k hk => by
  unfold FieldOk at hk
  have := q k.toNat (by omega)
  rwa [show ((k.toNat : Nat) : Int) = k by omega] at this, fun q j hj => q j ⟨by omega, by omega⟩⟩
 rw [hiff] at key
 by_cases hh : HT s V
 ·rw [key.1 hh]; exact Ev.tt hh
 ·rw [key.2 hh]; exact Ev.ff hh
theorem WOk.of {s : Ssn} (h : VS s) {m : Option (Plt → Option Dm)} (hm : Good s (DomF s.Fields) m) : WOk s s.Visits ⟨s, m⟩ := ⟨h, rfl, hm, h.vis, (not_many h.many).2.2.2⟩
def wk0 : Wk := { s := ({ Last := (0 : Int), Rules := [], Fields := [], Visits := [] } : Ssn), damages := none }
theorem openTrue_ok {s : Ssn} (h : VS s) (ht : HT s s.Visits) : ∃ W, popenTrue s = some (W, 0) ∧ WOk s s.Visits W := by
 obtain ⟨m, h1, h2⟩ := open_eq h
 have hw := WOk.of h h2
 refine ⟨_, ?_, hw⟩
 unfold popenTrue
 rw [check_eq, fault_zero.2 h, Option.bind_some, if_pos rfl, h1, Option.bind_some, (hasTruth_ev hw).some_of ht, Option.bind_some, if_pos rfl]
theorem openTrue_no {s : Ssn} (h : VS s) (ht : ¬ HT s s.Visits) : popenTrue s = some (wk0, 11) := by
 obtain ⟨m, h1, h2⟩ := open_eq h
 have hw := WOk.of h h2
 unfold popenTrue
 rw [check_eq, fault_zero.2 h, Option.bind_some, if_pos rfl, h1, Option.bind_some, (hasTruth_ev hw).some_not ht, Option.bind_some, if_neg (by simp)]; rfl
end
end Go.Proofs.YtmlaphekbnanjaaGreat

namespace Go.Proofs.YtmlaphekbnanjaaGreat
open _root_.Go.Proofs.Tryz
open Go.Abs Go.Abs.Grow
set_option maxRecDepth 100000
noncomputable section
def Of (s : Ssn) (V : List Vis) (k : Int) (h : Trh → Int) : Int → Prop := fun x => ∃ t, TR s V k t ∧ h t = x
structure BOk (s : Ssn) (V : List Vis) (k : Int) (b : Bnd) : Prop where
 wk : Spn (Of s V k fun t => t.Week) b.Week.Lo b.Week.Hi
 dm : Spn (Of s V k fun t => t.Damage) b.Damage.Lo b.Damage.Hi
 old : Spn (Of s V k fun t => t.Old) b.Old.Lo b.Old.Hi
 hv : Spn (Of s V k fun t => harv s (fldAt s k).Crop t) b.Harvest.Lo b.Harvest.Hi
theorem TR.rng {s : Ssn} (h : VS s) {V : List Vis} {k : Int} (hk : FieldOk s k) {t : Trh} (ht : TR s V k t) : (0 ≤ t.Week ∧ t.Week ≤ s.Last) ∧ (0 ≤ t.Damage ∧ t.Damage ≤ 100) ∧ (0 ≤ t.Old ∧ t.Old ≤ 100) := ht.1.rng (h.vf hk)
theorem openAsked_bad {s : Ssn} {k : Int} {b : Bool} (h : faultN s ≠ 0) : popenAsked s k b = some (wk0, faultN s) := by
 unfold popenAsked
 rw [check_eq, Option.bind_some, if_neg h]; rfl
theorem openAsked_out {s : Ssn} {k : Int} {b : Bool} (h : VS s) (hk : ¬ (FieldOk s k ∧ b = true)) : popenAsked s k b = some (wk0, 2) := by
 obtain ⟨_, _, h3, _⟩ := not_many h.many
 unfold popenAsked
 rw [check_eq, fault_zero.2 h, Option.bind_some, if_pos rfl]
 refine (hasField_ev (by omega)).pick (fun hf => ?_) fun hf => by rw [if_neg (by simp)]; rfl
 rw [if_pos rfl, if_neg fun hb => hk ⟨hf, hb⟩]; rfl
theorem openAsked_in {s : Ssn} {k : Int} {b : Bool} (h : VS s) (hk : FieldOk s k) (hb : b = true) {r : Wk × Int} (ho : popenTrue s = some r) : popenAsked s k b = some r := by
 obtain ⟨_, _, h3, _⟩ := not_many h.many
 unfold popenAsked
 rw [check_eq, fault_zero.2 h, Option.bind_some, if_pos rfl, (hasField_ev (by omega)).some_of hk, Option.bind_some, if_pos rfl, if_pos hb, ho, Option.bind_some]
end
end Go.Proofs.YtmlaphekbnanjaaGreat

namespace Go.Proofs.YtmlaphekbnanjaaGreat
open _root_.Go.Proofs.Tryz
open Go.Abs Go.Abs.Grow
set_option maxRecDepth 100000
noncomputable section
def nthT (f : Fld) (n : Int) : Trh := ⟨f.Week.Lo + n % cnt f.Week, f.Damage.Lo + n / cnt f.Week % cnt f.Damage, f.Old.Lo + n / cnt f.Week / cnt f.Damage⟩
theorem divlt {n a b : Int} (ha : 0 < a) (h : n < a * b) : n / a < b := by
 rw [Int.mul_comm] at h
 exact (Int.ediv_lt_iff_lt_mul ha).2 h
theorem nth_rng {s : Ssn} {f : Fld} (h : VF s f) (hl : s.Last ≤ 12) {n : Int} (h0 : 0 ≤ n) (hn : n < manyN f) :
  (0 ≤ n % cnt f.Week ∧ n % cnt f.Week < cnt f.Week) ∧ (0 ≤ n / cnt f.Week) ∧ (0 ≤ n / cnt f.Week % cnt f.Damage ∧ n / cnt f.Week % cnt f.Damage < cnt f.Damage) ∧ (0 ≤ n / cnt f.Week / cnt f.Damage ∧ n / cnt f.Week / cnt f.Damage < cnt f.Old) := by
 obtain ⟨h1, h2, h3, _⟩ := many_rng h hl
 unfold manyN at hn
 have e1 : n / cnt f.Week < cnt f.Damage * cnt f.Old := divlt (by omega) (by rw [← Int.mul_assoc]; exact hn)
 have e2 := divlt (by omega) e1
 have p1 := Int.ediv_nonneg h0 (show 0 ≤ cnt f.Week by omega)
 exact ⟨⟨Int.emod_nonneg _ (by omega), Int.emod_lt_of_pos _ (by omega)⟩, p1, ⟨Int.emod_nonneg _ (by omega), Int.emod_lt_of_pos _ (by omega)⟩, Int.ediv_nonneg p1 (by omega), e2⟩
theorem rNth_eq {s : Ssn} {f : Fld} (h : VF s f) (hl : s.Last ≤ 12) {n : Int} (h0 : 0 ≤ n) (hn : n < manyN f) : prNth f n = some (nthT f n) := by
 obtain ⟨h1, h2, h3, _, h5⟩ := many_rng h hl
 obtain ⟨e1, e2, e3, e4⟩ := nth_rng h hl h0 hn
 have a := h.wk; have b := h.dm; have c := h.old
 have p1 : n / cnt f.Week ≤ n := Int.ediv_le_self _ h0
 unfold Wi at a b c
 unfold prNth
 rw [rCount_eq (h.wk.w (by omega) (by omega)), Option.bind_some, gd_pos h0, gd_pos (by omega), gd_pos (fI (by omega)), gd_pos (fI (by omega)), Option.bind_some, gd_pos h0, gd_pos (by omega), gd_pos (fI (by omega)), rCount_eq (h.dm.w (by omega) (by omega)), Option.bind_some, gd_pos e2, gd_pos (by omega), gd_pos (fI (by omega)), gd_pos (fI (by omega)), Option.bind_some, gd_pos e2, gd_pos (by omega), gd_pos (fI (by omega)), gd_pos (fI (by omega))]
 rfl
theorem nth_isT {s : Ssn} {f : Fld} (h : VF s f) (hl : s.Last ≤ 12) {n : Int} (h0 : 0 ≤ n) (hn : n < manyN f) : IsT f (nthT f n) := by
 obtain ⟨e1, e2, e3, e4⟩ := nth_rng h hl h0 hn
 unfold IsT inR nthT
 dsimp only
 generalize n % cnt f.Week = x1 at *
 generalize n / cnt f.Week % cnt f.Damage = x2 at *
 generalize n / cnt f.Week / cnt f.Damage = x3 at *
 unfold cnt at e1 e3 e4
 omega
theorem isT_nth {s : Ssn} {f : Fld} (h : VF s f) (hl : s.Last ≤ 12) {t : Trh} (ht : IsT f t) : ∃ n, 0 ≤ n ∧ n < manyN f ∧ nthT f n = t := by
 obtain ⟨h1, h2, h3, _⟩ := many_rng h hl
 obtain ⟨a, b, c⟩ := ht
 unfold inR at a b c
 have w1 : 0 ≤ t.Week - f.Week.Lo ∧ t.Week - f.Week.Lo < cnt f.Week := by unfold cnt; omega
 have w2 : 0 ≤ t.Damage - f.Damage.Lo ∧ t.Damage - f.Damage.Lo < cnt f.Damage := by unfold cnt; omega
 have w3 : 0 ≤ t.Old - f.Old.Lo ∧ t.Old - f.Old.Lo < cnt f.Old := by unfold cnt; omega
 generalize hx : t.Week - f.Week.Lo = x at *
 generalize hy : t.Damage - f.Damage.Lo = y at *
 generalize hz : t.Old - f.Old.Lo = z at *
 generalize hA : cnt f.Week = A at *
 generalize hB : cnt f.Damage = B at *
 generalize hC : cnt f.Old = D at *
 have m1 : 0 ≤ z * B := Int.mul_nonneg w3.1 (by omega)
 have m2 : z * B ≤ (D - 1) * B := Int.mul_le_mul_of_nonneg_right (by omega) (by omega)
 have m2' : (D - 1) * B = D * B - B := by rw [Int.sub_mul, Int.one_mul]
 have m3 : 0 ≤ (y + z * B) * A := Int.mul_nonneg (by omega) (by omega)
 have m4 : (y + z * B) * A ≤ (D * B - 1) * A := Int.mul_le_mul_of_nonneg_right (by omega) (by omega)
 have m4' : (D * B - 1) * A = D * B * A - A := by rw [Int.sub_mul, Int.one_mul]
 have hm : manyN f = D * B * A := by
  unfold manyN; rw [hA, hB, hC, Int.mul_comm A B, Int.mul_comm, ← Int.mul_assoc]
 refine ⟨x + (y + z * B) * A, by omega, by omega, ?_⟩
 have q1 : (x + (y + z * B) * A) % A = x := by rw [Int.add_mul_emod_self_right]; exact Int.emod_eq_of_lt w1.1 w1.2
 have q2 : (x + (y + z * B) * A) / A = y + z * B := by rw [Int.add_mul_ediv_right _ _ (by omega), Int.ediv_eq_zero_of_lt w1.1 w1.2, Int.zero_add]
 have q3 : (y + z * B) % B = y := by rw [Int.add_mul_emod_self_right]; exact Int.emod_eq_of_lt w2.1 w2.2
 have q4 : (y + z * B) / B = z := by rw [Int.add_mul_ediv_right _ _ (by omega), Int.ediv_eq_zero_of_lt w2.1 w2.2, Int.zero_add]
 unfold nthT
 rw [hA, hB, q1, q2, q3, q4, ← hx, ← hy, ← hz]
 cases t
 dsimp only
 congr 1 <;> omega
def macc (S : Nat → Bool) : Nat → Nat
 | 0 => 0
 | i + 1 => if S i = true then macc S i ||| 2 ^ i else macc S i
theorem macc_bit (S : Nat → Bool) (j : Nat) : ∀ i, (macc S i).testBit j = (decide (j < i) && S j)
 | 0 => by simp [macc]
 | i + 1 => by
  have ih := macc_bit S j i
  unfold macc
  by_cases hs : S i = true
  ·rw [if_pos hs, Nat.testBit_or, ih, Nat.testBit_two_pow]
   by_cases h : i = j
   ·subst h; simp [hs]
   ·have : decide (j < i + 1) = decide (j < i) := decide_eq_decide.2 (by omega)
    rw [this]; simp [h]
  ·rw [if_neg hs, ih]
   by_cases h : i = j
   ·subst h
    have : S i = false := by simpa using hs
    rw [this]; simp
   ·have : decide (j < i + 1) = decide (j < i) := decide_eq_decide.2 (by omega)
    rw [this]
theorem macc_lt (S : Nat → Bool) (i : Nat) : macc S i < 2 ^ i := by
 apply Nat.lt_pow_two_of_testBit
 intro j hj
 rw [macc_bit, decide_eq_false (by omega)]; rfl
theorem bits_eq {a b n : Nat} (ha : a < 2 ^ n) (hb : b < 2 ^ n) (h : ∀ j, j < n → a.testBit j = b.testBit j) : a = b := by
 apply Nat.eq_of_testBit_eq
 intro j
 by_cases hj : j < n
 ·exact h j hj
 ·rw [Nat.testBit_lt_two_pow (Nat.lt_of_lt_of_le ha (Nat.pow_le_pow_right (by omega) (by omega))), Nat.testBit_lt_two_pow (Nat.lt_of_lt_of_le hb (Nat.pow_le_pow_right (by omega) (by omega)))]
open Classical in
def SB (s : Ssn) (k : Int) (t : Trh) (i : Nat) : Bool := decide (∀ v, s.Visits[i]? = some v → v.Field = k → inR v.Seen (seenN s (fldAt s k).Crop t v.Week))
def allN (s : Ssn) (k : Int) (t : Trh) : Nat := macc (SB s k t) s.Visits.length
theorem rRight_ev {s : Ssn} (h : VS s) {k : Int} (hk : FieldOk s k) {t : Trh} (ht : IsT (fldAt s k) t) {v : Vis} (hv : VV s v) (hvk : v.Field = k) : Ev (prRight s v t) (inR v.Seen (seenN s (fldAt s k).Crop t v.Week)) := by
 obtain ⟨q1, q2, q3⟩ := ht.rng (h.vf hk)
 unfold prRight
 rw [hvk, rSeen_eq h.toVS0 (not_many h.many).1 hk q1.1 q2 q3 hv.2.1, Option.bind_some]
 exact In_ev.ret
theorem pow6 {i : Nat} (h : i ≤ 6) : 2 ^ i ≤ 64 := Nat.le_trans (Nat.pow_le_pow_right (by omega) h) (by decide)
open Classical in
theorem all_L1 {s : Ssn} (h : VS s) {k : Int} (hk : FieldOk s k) {n : Int} (h0 : 0 ≤ n) (hn : n < manyN (fldAt s k)) {l : List Int} {K : List Int → Int → Option (List Int)} (hl : l.length < 1048576) : ∀ (d i : Nat), i ≤ s.Visits.length → s.Visits.length - i < d →
  prAll_L1 s k l n K d (macc (SB s k (nthT (fldAt s k) n)) i : Int) (i : Int) = K (l ++ [(allN s k (nthT (fldAt s k) n) : Int)]) (n + 1)
 | 0, i, _, hd => by omega
 | d + 1, i, hi, hd => by
  obtain ⟨h1, _, h3, h4⟩ := not_many h.many
  have hf := h.vf hk
  have hmr := many_rng hf h1
  unfold prAll_L1
  by_cases hin : i = s.Visits.length
  ·rw [if_neg (by omega), gd_pos hl, gd_pos (fI (by omega)), hin]; rfl
  have hlt : i < s.Visits.length := by omega
  have hg := List.getElem?_eq_getElem hlt
  have hv := h.vis _ (List.getElem_mem hlt)
  generalize s.Visits[i] = v at hg hv
  rw [if_pos (by omega), idx_at hg, Option.bind_some]
  have ih := all_L1 h hk h0 hn (K := K) hl d (i + 1) (by omega) (by omega)
  have hSB : SB s k (nthT (fldAt s k) n) i = true ↔ (v.Field = k → inR v.Seen (seenN s (fldAt s k).Crop (nthT (fldAt s k) n) v.Week)) := by
   unfold SB
   rw [decide_eq_true_eq]
   exact ⟨fun q => q v hg, fun q v' hv' => by rw [hg] at hv'; cases hv'; exact q⟩
  have hb := macc_lt (SB s k (nthT (fldAt s k) n)) i
  have hp := pow6 (i := i) (by omega)
  have hp2 := pow6 (i := i + 1) (by omega)
  have hb2 := macc_lt (SB s k (nthT (fldAt s k) n)) (i + 1)
  have hw : wrapZ .u64 (i : Int) = (i : Int) := wz (show (0 : Int) ≤ i ∧ (i : Int) < 18446744073709551616 by omega)
  have hpow : (1 : Int) * 2 ^ (Int.toNat (wrapZ .u64 (i : Int))) = ((2 ^ i : Nat) : Int) := by rw [hw, Int.toNat_natCast, Int.one_mul, Int.natCast_pow]; rfl
  have hset : SB s k (nthT (fldAt s k) n) i = true → ∀ X, (gd ((0 : Int) ≤ (1 : Int)) (gd ((0 : Int) ≤ (wrapZ .u64 (i : Int))) (gd ((wrapZ .u64 (i : Int)) ≤ (64 : Int)) (gd (fitsP .i64 ((1 : Int) * ((2 : Int) ^ (Int.toNat (wrapZ .u64 (i : Int)))))) (gd ((0 : Int) ≤ ((macc (SB s k (nthT (fldAt s k) n)) i : Nat) : Int)) (gd ((0 : Int) ≤ ((1 : Int) * ((2 : Int) ^ (Int.toNat (wrapZ .u64 (i : Int)))))) (gd (fitsP .i64 ((macc (SB s k (nthT (fldAt s k) n)) i : Nat) : Int)) (gd (fitsP .i64 ((1 : Int) * ((2 : Int) ^ (Int.toNat (wrapZ .u64 (i : Int)))))) (gd (fitsP .i64 (((Nat.lor (Int.toNat ((macc (SB s k (nthT (fldAt s k) n)) i : Nat) : Int)) (Int.toNat ((1 : Int) * ((2 : Int) ^ (Int.toNat (wrapZ .u64 (i : Int))))))) : Nat) : Int)) (gd (fitsP .i64 ((i : Int) + (1 : Int))) (prAll_L1 s k l n K d (((Nat.lor (Int.toNat ((macc (SB s k (nthT (fldAt s k) n)) i : Nat) : Int)) (Int.toNat ((1 : Int) * ((2 : Int) ^ (Int.toNat (wrapZ .u64 (i : Int))))))) : Nat) : Int) ((i : Int) + (1 : Int))))))))))))) = X → K (l ++ [(allN s k (nthT (fldAt s k) n) : Int)]) (n + 1) = X := by
   intro hs X hX
   have hm : macc (SB s k (nthT (fldAt s k) n)) i ||| 2 ^ i = macc (SB s k (nthT (fldAt s k) n)) (i + 1) := by
    conv => rhs; unfold macc
    rw [if_pos hs]
   have hm' : Nat.lor (macc (SB s k (nthT (fldAt s k) n)) i) (2 ^ i) = macc (SB s k (nthT (fldAt s k) n)) (i + 1) := hm
   rw [hpow, Int.toNat_natCast, Int.toNat_natCast, hm'] at hX
   rw [← hX, gd_pos (by omega), hw, gd_pos (by omega), gd_pos (by omega), gd_pos (fI (by omega)), gd_pos (by omega), gd_pos (by omega), gd_pos (fI (by omega)), gd_pos (fI (by omega)), gd_pos (fI (by omega)), gd_pos (fI (by omega))]
   exact ih.symm
  by_cases hvk : v.Field = k
  ·rw [if_pos hvk, Option.bind_some, (fld_at hk).1, Option.bind_some, rNth_eq hf h1 h0 hn, Option.bind_some]
   obtain ⟨b, hb1', hb2'⟩ := rRight_ev h hk (nth_isT hf h1 h0 hn) hv hvk
   rw [hb1', Option.bind_some]
   by_cases hr : inR v.Seen (seenN s (fldAt s k).Crop (nthT (fldAt s k) n) v.Week)
   ·rw [hb2'.2 hr, if_pos rfl]
    exact (hset (hSB.2 fun _ => hr) _ rfl).symm
   ·rw [if_neg fun q => hr (hb2'.1 q), gd_pos (fI (by omega))]
    have hs : ¬ SB s k (nthT (fldAt s k) n) i = true := fun q => hr (hSB.1 q hvk)
    have hm : macc (SB s k (nthT (fldAt s k) n)) (i + 1) = macc (SB s k (nthT (fldAt s k) n)) i := by
     conv => lhs; unfold macc
     rw [if_neg hs]
    rw [← hm]
    exact ih
  ·rw [if_neg hvk]
   exact (hset (hSB.2 fun q => absurd q hvk) _ rfl).symm
def allL' (s : Ssn) (k : Int) : List Int := (segI 0 (manyN (fldAt s k)).toNat).map fun n => ((allN s k (nthT (fldAt s k) n) : Nat) : Int)
theorem rAll_eq {s : Ssn} (h : VS s) {k : Int} (hk : FieldOk s k) : prAll s k = some (allL' s k) := by
 have h1 := (not_many h.many).1
 have hf := h.vf hk
 have hmr := many_rng hf h1
 have hfew := h.few _ (fld_at hk).2
 have key : ∀ (d m : Nat) (n : Int) (acc : List Int), 0 ≤ n → n + m = manyN (fldAt s k) → m < d → acc.length = n.toNat → prAll_L0 s k d acc n = some (acc ++ (segI n m).map fun n => ((allN s k (nthT (fldAt s k) n) : Nat) : Int)) := by
  intro d
  induction d with
  | zero => intro m n acc _ _ h; omega
  | succ d ih =>
   intro m n acc h0 hm hd hacc
   unfold prAll_L0
   rw [(fld_at hk).1, Option.bind_some, rMany_eq hf h1, Option.bind_some]
   cases m with
   | zero => rw [if_neg (by omega)]; simp [segI]
   | succ m =>
    rw [if_pos (by omega)]
    have := all_L1 h hk h0 (by omega) (l := acc) (K := prAll_L0 s k d) (by omega) 1000000 0 (Nat.zero_le _) (by have := (not_many h.many).2.2.2; omega)
    refine Eq.trans this ?_
    rw [ih m (n + 1) _ (by omega) (by omega) (by omega) (by rw [List.length_append, hacc]; simp only [List.length_cons, List.length_nil]; omega), List.append_assoc]
    rfl
 unfold prAll
 have := key 1000000 (manyN (fldAt s k)).toNat 0 [] (Int.le_refl _) (by omega) (by omega) rfl
 rw [this, List.nil_append]; rfl
theorem allL_len {s : Ssn} {k : Int} : (allL' s k).length = (manyN (fldAt s k)).toNat := by unfold allL'; rw [List.length_map, segI_len]
theorem allL_get {s : Ssn} {k : Int} {n : Nat} (hn : (n : Int) < manyN (fldAt s k)) : (allL' s k)[n]? = some ((allN s k (nthT (fldAt s k) n) : Nat) : Int) := by
 unfold allL'
 rw [List.getElem?_map, segI_get (by omega), Int.zero_add]; rfl
theorem mem_allL' {s : Ssn} (h : VS s) {k : Int} (hk : FieldOk s k) {x : Int} : x ∈ allL' s k ↔ ∃ t, IsT (fldAt s k) t ∧ x = ((allN s k t : Nat) : Int) := by
 have h1 := (not_many h.many).1
 have hf := h.vf hk
 unfold allL'
 rw [List.mem_map]
 constructor
 ·rintro ⟨n, hn, rfl⟩
  have := mem_segI.1 hn
  exact ⟨_, nth_isT hf h1 (by omega) (by omega), rfl⟩
 ·rintro ⟨t, ht, rfl⟩
  obtain ⟨n, q1, q2, q3⟩ := isT_nth hf h1 ht
  exact ⟨n, mem_segI.2 (by omega), by rw [q3]⟩
def everyL (s : Ssn) : List (List Int) := (segI 0 s.Fields.length).map fun k => allL' s k
theorem every_get {s : Ssn} {k : Nat} (hk : k < s.Fields.length) : (everyL s)[k]? = some (allL' s (k : Int)) := by
 unfold everyL
 rw [List.getElem?_map, segI_get hk, Int.zero_add]; rfl
theorem rEvery_eq {s : Ssn} (h : VS s) : prEvery s = some (everyL s) := by
 obtain ⟨_, _, h3, _⟩ := not_many h.many
 have key : ∀ (d m : Nat) (k : Int) (acc : List (List Int)), 0 ≤ k → k + m = s.Fields.length → m < d → acc.length = k.toNat → prEvery_L0 s d acc k = some (acc ++ (segI k m).map fun k => allL' s k) := by
  intro d
  induction d with
  | zero => intro m n acc _ _ h; omega
  | succ d ih =>
   intro m k acc h0 hm hd hacc
   unfold prEvery_L0
   cases m with
   | zero => rw [if_neg (by omega)]; simp [segI]
   | succ m =>
    rw [if_pos (by omega), rAll_eq h ⟨h0, by omega⟩, Option.bind_some, gd_pos (by omega), gd_pos (fI (by omega)), ih m (k + 1) _ (by omega) (by omega) (by omega) (by rw [List.length_append, hacc]; simp only [List.length_cons, List.length_nil]; omega), List.append_assoc]
    rfl
 unfold prEvery
 have := key 1000000 s.Fields.length 0 [] (Int.le_refl _) (by omega) (by omega) rfl
 rw [this, List.nil_append]; rfl
theorem rFull_eq {s : Ssn} (h : s.Visits.length ≤ 6) : prFull s = some (((2 ^ s.Visits.length - 1 : Nat)) : Int) := by
 have hp := pow6 h
 have hp0 : 0 < 2 ^ s.Visits.length := Nat.two_pow_pos _
 have hw : wrapZ .u64 (s.Visits.length : Int) = (s.Visits.length : Int) := wz (show (0 : Int) ≤ s.Visits.length ∧ (s.Visits.length : Int) < 18446744073709551616 by omega)
 have hpow : (1 : Int) * 2 ^ (Int.toNat (wrapZ .u64 (s.Visits.length : Int))) = ((2 ^ s.Visits.length : Nat) : Int) := by rw [hw, Int.toNat_natCast, Int.one_mul, Int.natCast_pow]; rfl
 unfold prFull
 rw [hpow, gd_pos (by omega), hw, gd_pos (by omega), gd_pos (by omega), gd_pos (fI (by omega)), gd_pos (fI (by omega))]
 congr 1
 omega
def CanB (s : Ssn) (b : Nat) : Prop := ∀ k, FieldOk s k → ∃ t, IsT (fldAt s k) t ∧ ∀ j, b.testBit j = true → (allN s k t).testBit j = true
theorem land_eq {a b : Nat} : Nat.land a b = b ↔ ∀ j, b.testBit j = true → a.testBit j = true := by
 have e : Nat.land a b = a &&& b := rfl
 rw [e]
 constructor
 ·intro h j hj
  have := congrArg (fun x => x.testBit j) h
  simp only [Nat.testBit_and] at this
  rw [hj] at this
  simpa using this
 ·intro h
  apply Nat.eq_of_testBit_eq
  intro j
  rw [Nat.testBit_and]
  cases hb : b.testBit j with
  | true => rw [h j hb]; rfl
  | false => simp
theorem can_L1 {every : List (List Int)} {b : Nat} (hb : b < 1000000) {x : Nat} {l : List Int} (hx : every[x]? = some l) (hl : l.length ≤ 100000) (hr : ∀ a ∈ l, ∃ n : Nat, a = (n : Int) ∧ n < 1000000) (hxn : x < 1000) {K : Int → Option Bool} : ∀ (d i : Nat) (f : Bool), i ≤ l.length → l.length - i < d → (f = true ↔ ∃ n : Nat, (n : Int) ∈ l.take i ∧ Nat.land n b = b) →
  ((∃ n : Nat, (n : Int) ∈ l ∧ Nat.land n b = b) → prCan_L1 every (b : Int) (x : Int) K d f (i : Int) = K ((x : Int) + 1)) ∧ (¬ (∃ n : Nat, (n : Int) ∈ l ∧ Nat.land n b = b) → prCan_L1 every (b : Int) (x : Int) K d f (i : Int) = some false)
 | 0, i, _, _, hd, _ => by omega
 | d + 1, i, f, hi, hd, hf => by
  unfold prCan_L1
  rw [idx_at hx, Option.bind_some]
  by_cases hin : i = l.length
  ·subst hin
   rw [List.take_length] at hf
   rw [if_neg (Int.lt_irrefl _)]
   constructor
   ·intro hh; rw [if_pos (hf.2 hh), gd_pos (fI (by omega))]
   ·intro hh; rw [if_neg fun q => hh (hf.1 q)]
  have hlt : i < l.length := by omega
  have hg := List.getElem?_eq_getElem hlt
  obtain ⟨n, hn1, hn2⟩ := hr _ (List.getElem_mem hlt)
  have hland : Nat.land n b ≤ b := Nat.and_le_right
  rw [hn1] at hg
  rw [if_pos (by omega)]
  by_cases hft : f = true
  ·subst hft
   rw [if_pos rfl, gd_pos (fI (by omega)), show (i : Int) + 1 = ((i + 1 : Nat) : Int) by omega]
   refine can_L1 hb hx hl hr hxn d (i + 1) true (by omega) (by omega) ⟨fun _ => ?_, fun _ => rfl⟩
   obtain ⟨m, q1, q2⟩ := hf.1 rfl
   exact ⟨m, by rw [List.take_add_one]; exact List.mem_append_left _ q1, q2⟩
  ·rw [if_neg hft, Option.bind_some, idx_at hg, Option.bind_some, gd_pos (by omega), gd_pos (by omega), gd_pos (fI (by omega)), gd_pos (fI (by omega)), Int.toNat_natCast, Int.toNat_natCast, gd_pos (fI (by omega)), gd_pos (fI (by omega)), show (i : Int) + 1 = ((i + 1 : Nat) : Int) by omega]
   refine can_L1 hb hx hl hr hxn d (i + 1) _ (by omega) (by omega) ?_
   rw [decide_eq_true_eq, List.take_add_one, hg]
   constructor
   ·intro q; exact ⟨n, by simp, Int.ofNat_inj.1 q⟩
   ·rintro ⟨m, q1, q2⟩
    rcases List.mem_append.1 q1 with q1 | q1
    ·exact absurd (hf.2 ⟨m, q1, q2⟩) hft
    ·have : (m : Int) = n := by simpa using q1
     rw [Int.ofNat_inj.1 this] at q2
     rw [q2]
theorem rCan_ev {s : Ssn} (h : VS s) {b : Nat} (hb : b < 1000000) : Ev (prCan (everyL s) (b : Int)) (CanB s b) := by
 obtain ⟨h1, _, h3, h4⟩ := not_many h.many
 have hel : (everyL s).length = s.Fields.length := by unfold everyL; rw [List.length_map, segI_len]
 unfold prCan
 rw [hel]
 have key := loopAll_tt (n := s.Fields.length) (F := prCan_L0 (everyL s) (b : Int)) (ok := fun j => ∃ n : Nat, (n : Int) ∈ allL' s (j : Int) ∧ Nat.land n b = b) (bad := some false) (fin := some true) (fun d k hk => by
  have hfk : FieldOk s (k : Int) := ⟨by omega, by omega⟩
  have hmr := many_rng (h.vf hfk) h1
  rw [prCan_L0, hel, if_pos (by omega)]
  refine can_L1 hb (every_get hk) (by rw [allL_len]; have := h.few _ (fld_at hfk).2; omega) (fun a ha => ?_) (by omega) 1000000 0 false (Nat.zero_le _) (by rw [allL_len]; have := h.few _ (fld_at hfk).2; omega) ⟨fun q => (by cases q), fun q => by obtain ⟨n, q1, _⟩ := q; simp at q1⟩
  obtain ⟨t, _, rfl⟩ := (mem_allL' h hfk).1 ha
  exact ⟨_, rfl, Nat.lt_of_lt_of_le (macc_lt _ _) (Nat.le_trans (pow6 h4) (by omega))⟩) (fun d => by rw [prCan_L0, hel, if_neg (Int.lt_irrefl _)]) (d := s.Fields.length + 1) (by omega)
 have hiff : (∀ j, j < s.Fields.length → ∃ n : Nat, (n : Int) ∈ allL' s (j : Int) ∧ Nat.land n b = b) ↔ CanB s b := by
  constructor
  ·intro q k hk
   have hk' := hk
   unfold FieldOk at hk'
   obtain ⟨n, q1, q2⟩ := q k.toNat (by omega)
   rw [show ((k.toNat : Nat) : Int) = k by omega] at q1
   obtain ⟨t, ht, he⟩ := (mem_allL' h hk).1 q1
   rw [Int.ofNat_inj.1 he] at q2
   exact ⟨t, ht, land_eq.1 q2⟩
  ·intro q j hj
   have hfk : FieldOk s (j : Int) := ⟨by omega, by omega⟩
   obtain ⟨t, ht, hq⟩ := q _ hfk
   exact ⟨_, (mem_allL' h hfk).2 ⟨t, ht, rfl⟩, land_eq.2 hq⟩
 rw [hiff] at key
 by_cases hh : CanB s b
 ·rw [key.1 hh]; exact Ev.tt hh
 ·rw [key.2 hh]; exact Ev.ff hh
theorem full_lt {n : Nat} : 2 ^ n - 1 < 2 ^ n := by have := Nat.two_pow_pos n; omega
open Classical in
theorem okV_iff {s : Ssn} {k : Int} {t : Trh} : okV s s.Visits k t ↔ ∀ j, j < s.Visits.length → SB s k t j = true := by
 unfold okV SB
 constructor
 ·intro h j hj
  rw [decide_eq_true_eq]
  intro v hv
  exact h v (List.mem_of_getElem? hv)
 ·intro h v hv
  obtain ⟨i, hi⟩ := List.mem_iff_getElem?.1 hv
  have := h i (List.getElem?_eq_some_iff.1 hi).1
  rw [decide_eq_true_eq] at this
  exact this v hi
theorem all_full {s : Ssn} {k : Int} {t : Trh} : allN s k t = 2 ^ s.Visits.length - 1 ↔ okV s s.Visits k t := by
 rw [okV_iff]
 unfold allN
 constructor
 ·intro h j hj
  have := macc_bit (SB s k t) j s.Visits.length
  rw [h, Nat.testBit_two_pow_sub_one, decide_eq_true hj] at this
  simpa using this.symm
 ·intro h
  refine bits_eq (macc_lt _ _) full_lt fun j hj => ?_
  rw [macc_bit, Nat.testBit_two_pow_sub_one, decide_eq_true hj, h j hj]; rfl
theorem can_full {s : Ssn} : CanB s (2 ^ s.Visits.length - 1) ↔ HT s s.Visits := by
 unfold CanB HT HTf TR
 refine forall_congr' fun k => forall_congr' fun hk => exists_congr fun t => and_congr Iff.rfl ?_
 rw [okV_iff]
 unfold allN
 constructor
 ·intro h j hj
  have := h j (by rw [Nat.testBit_two_pow_sub_one, decide_eq_true hj])
  rw [macc_bit, decide_eq_true hj] at this
  simpa using this
 ·intro h j hj
  rw [Nat.testBit_two_pow_sub_one, decide_eq_true_eq] at hj
  rw [macc_bit, decide_eq_true hj, h j hj]; rfl
open Classical in
def sureN (s : Ssn) : Int := if faultN s = 0 then (if HT s s.Visits then 0 else 11) else faultN s
theorem lSure_eq {s : Ssn} (hR : ∀ l ∈ s.Rules, l.length ≤ maxLen) : plSure s = some (sureN s) := by
 unfold plSure plFault sureN
 rw [rFault_eq hR, Option.bind_some, Option.bind_some]
 by_cases hf : faultN s = 0
 ·have h := fault_zero.1 hf
  obtain ⟨_, _, _, h4⟩ := not_many h.many
  have hp := pow6 h4
  rw [if_pos hf, if_pos hf, rEvery_eq h, Option.bind_some, rFull_eq h4, Option.bind_some]
  refine (rCan_ev h (by omega)).pick (fun hc => ?_) fun hc => ?_
  ·rw [if_pos rfl, if_pos (can_full.1 hc)]
  ·rw [if_neg (by simp), if_neg fun q => hc (can_full.2 q)]
 ·rw [if_neg hf, if_neg hf]
open Classical in
theorem rTruths_eq {s : Ssn} (h : VS s) {k : Int} (hk : FieldOk s k) : ∃ l, prTruths s k = some l ∧ (∀ t, t ∈ l ↔ TR s s.Visits k t) ∧ l.length ≤ 3000 := by
 obtain ⟨h1, _, h3, h4⟩ := not_many h.many
 have hf := h.vf hk
 have hmr := many_rng hf h1
 have hfew := h.few _ (fld_at hk).2
 have hlen := allL_len (s := s) (k := k)
 have hp := pow6 h4
 let L : List Trh := ((segI 0 (manyN (fldAt s k)).toNat).map fun n => nthT (fldAt s k) n)
 have hL : L.length = (manyN (fldAt s k)).toNat := by show (List.map _ _).length = _; rw [List.length_map, segI_len]
 have hget : ∀ j : Nat, (j : Int) < manyN (fldAt s k) → L[j]? = some (nthT (fldAt s k) j) := fun j hj => by
  show (List.map _ _)[j]? = _
  rw [List.getElem?_map, segI_get (by omega), Int.zero_add]; rfl
 have key : ∀ (d i : Nat) (acc : List Trh), i ≤ L.length → L.length - i < d → acc = ((L.take i).filter fun t => decide (okV s s.Visits k t)) → prTruths_L0 s k (allL' s k) d acc (i : Int) = some (L.filter fun t => decide (okV s s.Visits k t)) := by
  intro d
  induction d with
  | zero => intro i acc _ h; omega
  | succ d ih =>
   intro i acc hi hd hacc
   unfold prTruths_L0
   rw [hlen]
   by_cases hin : i = L.length
   ·rw [if_neg (by omega), hacc, hin, List.take_length]
   have hlt : (i : Int) < manyN (fldAt s k) := by omega
   rw [if_pos (by omega), idx_at (allL_get hlt), Option.bind_some, rFull_eq h4, Option.bind_some]
   have hacl : acc.length ≤ i := by
    rw [hacc]
    exact Nat.le_trans (List.length_filter_le _ _) (by rw [List.length_take]; omega)
   have htk : (L.take (i + 1)) = L.take i ++ [nthT (fldAt s k) i] := by rw [List.take_add_one, hget i hlt]; rfl
   by_cases ho : okV s s.Visits k (nthT (fldAt s k) i)
   ·rw [if_pos (Int.ofNat_inj.2 (all_full.2 ho)), (fld_at hk).1, Option.bind_some, rNth_eq hf h1 (by omega) hlt, Option.bind_some, gd_pos (by omega), gd_pos (fI (by omega)), show (i : Int) + 1 = ((i + 1 : Nat) : Int) by omega]
    refine ih (i + 1) _ (by omega) (by omega) ?_
    rw [htk, List.filter_append, ← hacc, List.filter_cons_of_pos (by simpa using ho)]; rfl
   ·rw [if_neg fun q => ho (all_full.1 (Int.ofNat_inj.1 q)), gd_pos (fI (by omega)), show (i : Int) + 1 = ((i + 1 : Nat) : Int) by omega]
    refine ih (i + 1) _ (by omega) (by omega) ?_
    rw [htk, List.filter_append, ← hacc, List.filter_cons_of_neg (by simpa using ho)]; simp
 refine ⟨L.filter fun t => decide (okV s s.Visits k t), ?_, fun t => ?_, Nat.le_trans (List.length_filter_le _ _) (by omega)⟩
 ·unfold prTruths
  rw [rAll_eq h hk, Option.bind_some, hlen]
  exact key ((manyN (fldAt s k)).toNat + 1) 0 [] (Nat.zero_le _) (by omega) (by simp)
 ·rw [List.mem_filter, decide_eq_true_eq]
  refine and_congr ?_ Iff.rfl
  show t ∈ List.map _ _ ↔ _
  rw [List.mem_map]
  constructor
  ·rintro ⟨n, hn, rfl⟩
   have := mem_segI.1 hn
   exact nth_isT hf h1 (by omega) (by omega)
  ·intro ht
   obtain ⟨n, q1, q2, q3⟩ := isT_nth hf h1 ht
   exact ⟨n, mem_segI.2 (by omega), q3⟩
theorem rIsTruth_ev {s : Ssn} (h : VS s) {k : Int} (hk : FieldOk s k) {t : Trh} : Ev (prIsTruth s k t) (TR s s.Visits k t) := by
 obtain ⟨h1, _, h3, h4⟩ := not_many h.many
 unfold prIsTruth
 rw [(fld_at hk).1, Option.bind_some]
 refine Ev.and rListed_ev fun ht => ?_
 refine (Ev.loopE (l := s.Visits) (F := prIsTruth_L0 s k t) (ok := fun v => v.Field = k → inR v.Seen (seenN s (fldAt s k).Crop t v.Week)) (fin := some true) (P := True) (fun d i v hv => ?_) (fun d => by rw [prIsTruth_L0, if_neg (Int.lt_irrefl _)]) (by omega) fun _ => Ev.tt trivial).imp ⟨fun q => q.1, fun q => ⟨q, trivial⟩⟩
 have hi := (List.getElem?_eq_some_iff.1 hv).1
 have hvv := h.vis v (List.mem_of_getElem? hv)
 rw [prIsTruth_L0, if_pos (by omega), idx_at hv, Option.bind_some]
 by_cases hvk : v.Field = k
 ·rw [if_pos hvk, Option.bind_some]
  have := (rRight_ev h hk ht hvv hvk).step (f := fun r => if r = true then (gd (fitsP .i64 ((i : Int) + (1 : Int))) (prIsTruth_L0 s k t d ((i : Int) + (1 : Int)))) else (some false)) (A := prIsTruth_L0 s k t d ((i : Int) + 1)) (B := some false) (by rw [if_pos rfl, gd_pos (fI (by omega))]) (by rw [if_neg (by simp)])
  exact ⟨fun q => this.1 (q hvk), fun q => this.2 fun q' => q fun _ => q'⟩
 ·rw [if_neg hvk, gd_pos (fI (by omega))]
  exact ⟨fun _ => rfl, fun q => absurd (fun q' => absurd q' hvk) q⟩
end
end Go.Proofs.YtmlaphekbnanjaaGreat

namespace Go.Proofs.YtmlaphekbnanjaaGreat
open _root_.Go.Proofs.Tryz
open Go.Abs Go.Abs.Grow
set_option maxRecDepth 100000
noncomputable section
theorem aw : pawake = some true := rfl
def ThinN (s : Ssn) : Prop := s.Rules.length ≤ 5 ∧ s.Fields.length ≤ 5 ∧ s.Visits.length ≤ 9 ∧ (∀ l ∈ s.Rules, l.length ≤ 20) ∧ (faultN s = 0 → ∀ f ∈ s.Fields, manyN f ≤ 200)
def OkS (s : Ssn) : Prop := ∀ l ∈ s.Rules, l.length ≤ maxLen
theorem okS {s : Ssn} (h : ok_Ssn s) : OkS s := fun l hl => (h.2.1.2 l hl).1
theorem thin_ev {s : Ssn} (hR : OkS s) : Ev (plThin s) (ThinN s) := by
 unfold plThin ThinN
 refine Ev.imp (P := ¬ (5 : Int) < (s.Rules.length : Int) ∧ ¬ (5 : Int) < (s.Fields.length : Int) ∧ ¬ (9 : Int) < (s.Visits.length : Int) ∧ (∀ l ∈ s.Rules, l.length ≤ 20) ∧ (faultN s = 0 → ∀ f ∈ s.Fields, manyN f ≤ 200)) (Ev.itn fun h1 => Ev.itn fun h2 => Ev.itn fun h3 => ?_) ⟨fun ⟨a, b, c, d⟩ => ⟨by omega, by omega, by omega, d⟩, fun ⟨a, b, c, d⟩ => ⟨by omega, by omega, by omega, d⟩⟩
 refine Ev.loopE (l := s.Rules) (F := fun d x => plThin_L0 s d false x) (ok := fun l => l.length ≤ 20) (fin := plThin_L1 s (faultN s) 1000000 0) (fun d k l hl => ?_) (fun d => by rw [plThin_L0, if_neg (Int.lt_irrefl _), rFault_eq hR, Option.bind_some]) (by omega) fun _ => ?_
 ·have hk := (List.getElem?_eq_some_iff.1 hl).1
  rw [plThin_L0, if_pos (by omega), idx_at hl, Option.bind_some]
  constructor
  ·intro h; rw [if_neg (by omega), gd_pos (fI (by omega))]
  ·intro h; rw [if_pos (by omega)]
 ·by_cases hf : faultN s = 0
  ·have hv := fault_zero.1 hf
   refine (Ev.loopE (l := s.Fields) (F := plThin_L1 s (faultN s)) (ok := fun f => manyN f ≤ 200) (fin := some true) (P := True) (fun d k f hg => ?_) (fun d => by rw [plThin_L1, if_neg (Int.lt_irrefl _)]) (by omega) fun _ => Ev.tt trivial).imp ⟨fun h _ => h.1, fun h => ⟨h hf, trivial⟩⟩
   have hk := (List.getElem?_eq_some_iff.1 hg).1
   rw [plThin_L1, if_pos (by omega), if_neg (by rw [hf]; simp), idx_at hg, Option.bind_some, rMany_eq (hv.flds f (List.mem_of_getElem? hg)) (not_many hv.many).1, Option.bind_some]
   constructor
   ·intro h; rw [if_neg (by omega), gd_pos (fI (by omega))]
   ·intro h; rw [if_pos (by omega)]
  ·refine (Ev.loopE (l := s.Fields) (F := plThin_L1 s (faultN s)) (ok := fun _ => True) (fin := some true) (P := True) (fun d k f hg => ?_) (fun d => by rw [plThin_L1, if_neg (Int.lt_irrefl _)]) (by omega) fun _ => Ev.tt trivial).imp ⟨fun _ h => absurd h hf, fun _ => ⟨fun _ _ => trivial, trivial⟩⟩
   have hk := (List.getElem?_eq_some_iff.1 hg).1
   rw [plThin_L1, if_pos (by omega), if_pos (by rw [decide_eq_false hf]; rfl), gd_pos (fI (by omega))]
   exact ⟨fun _ => rfl, fun h => absurd trivial h⟩
theorem lFault_eq {s : Ssn} (hR : OkS s) : plFault s = some (faultN s) := by unfold plFault; rw [rFault_eq hR]; rfl
theorem lSeason_eq {s : Ssn} (h : ThinN s) : plSeason s = some s := by
 obtain ⟨h1, h2, h3, h4, _⟩ := h
 have k1 := loopApp0 (l := s.Rules) (F := fun d acc x => plSeason_L0 s d s.Last acc [] [] x) (fun l : List Int => l) (fun acc => plSeason_L1 s acc 1000000 s.Last [] [] 0) (fun d k acc a ha hac => by
  have hk := (List.getElem?_eq_some_iff.1 ha).1
  have := h4 a (List.mem_of_getElem? ha)
  show plSeason_L0 s (d + 1) _ _ _ _ _ = _
  rw [plSeason_L0, if_pos (by omega), idx_at ha, Option.bind_some]
  unfold plList
  rw [gd_pos (by simp only [List.length_nil]; omega), Option.bind_some, gd_pos (by omega), gd_pos (fI (by omega))]
  rfl) (fun d acc => by show plSeason_L0 s (d + 1) _ _ _ _ _ = _; rw [plSeason_L0, if_neg (Int.lt_irrefl _)]) (d := 1000000) (by omega)
 have k2 := loopApp0 (l := s.Fields) (F := fun d acc x => plSeason_L1 s s.Rules d s.Last acc [] x) (fun f : Fld => f) (fun acc => plSeason_L2 s s.Rules acc 1000000 s.Last [] 0) (fun d k acc a ha hac => by
  have hk := (List.getElem?_eq_some_iff.1 ha).1
  show plSeason_L1 s _ (d + 1) _ _ _ _ = _
  rw [plSeason_L1, if_pos (by omega), idx_at ha, Option.bind_some]
  unfold plTo
  rw [Option.bind_some, Option.bind_some, Option.bind_some, gd_pos (by omega), gd_pos (fI (by omega))]) (fun d acc => by show plSeason_L1 s _ (d + 1) _ _ _ _ = _; rw [plSeason_L1, if_neg (Int.lt_irrefl _)]) (d := 1000000) (by omega)
 have k3 := loopApp0 (l := s.Visits) (F := fun d acc x => plSeason_L2 s s.Rules s.Fields d s.Last acc x) (fun f : Vis => f) (fun acc => some ({ s with Visits := acc } : Ssn)) (fun d k acc a ha hac => by
  have hk := (List.getElem?_eq_some_iff.1 ha).1
  show plSeason_L2 s _ _ (d + 1) _ _ _ = _
  rw [plSeason_L2, if_pos (by omega), idx_at ha, Option.bind_some]
  unfold plTo
  rw [Option.bind_some, gd_pos (by omega), gd_pos (fI (by omega))]) (fun d acc => by show plSeason_L2 s _ _ (d + 1) _ _ _ = _; rw [plSeason_L2, if_neg (Int.lt_irrefl _)]) (d := 1000000) (by omega)
 unfold plSeason
 refine k1.trans ?_
 rw [List.map_id']
 refine k2.trans ?_
 rw [List.map_id']
 refine k3.trans ?_
 rw [List.map_id']
theorem fold_spn {P : Int → Prop} {L : List Int} (hne : L ≠ []) (hm : ∀ x, x ∈ L ↔ P x) (hb : ∀ x ∈ L, -1099511627776 < x ∧ x < 1099511627776) : Spn P (L.foldl min 1099511627776) (L.foldl max (-1099511627776)) := by
 obtain ⟨y, hy⟩ := List.exists_mem_of_ne_nil _ hne
 have hyb := hb y hy
 obtain ⟨a1, a2, a3⟩ := foldl_min L 1099511627776
 obtain ⟨b1, b2, b3⟩ := foldl_max L (-1099511627776)
 have a4 := a3 y hy
 have b4 := b3 y hy
 exact ⟨(hm _).1 (a1.elim (fun h => by omega) id), (hm _).1 (b1.elim (fun h => by omega) id), fun x hx => ⟨a3 x ((hm x).2 hx), b3 x ((hm x).2 hx)⟩⟩
theorem map_spn {s : Ssn} {k : Int} {l : List Trh} (hl : ∀ t, t ∈ l ↔ TR s s.Visits k t) (hne : l ≠ []) {h : Trh → Int} (hb : ∀ t, TR s s.Visits k t → -1099511627776 < h t ∧ h t < 1099511627776) : Spn (Of s s.Visits k h) ((l.map h).foldl min 1099511627776) ((l.map h).foldl max (-1099511627776)) := by
 refine fold_spn (by simpa using hne) (fun x => ?_) fun x hx => ?_
 ·rw [List.mem_map]
  exact ⟨fun ⟨t, h1, h2⟩ => ⟨t, (hl t).1 h1, h2⟩, fun ⟨t, h1, h2⟩ => ⟨t, (hl t).2 h1, h2⟩⟩
 ·obtain ⟨t, h1, rfl⟩ := List.mem_map.1 hx
  exact hb t ((hl t).1 h1)
theorem rBounds_go {s : Ssn} {k : Int} {l : List Trh} (hlen : l.length ≤ 3000) {g : Trh → Int} (hg : ∀ t ∈ l, prHarvest s k t = some (g t)) : ∀ (d i : Nat) (a1 b1 a2 b2 a3 b3 a4 b4 : Int), i ≤ l.length → l.length - i < d →
  prBounds_L0 s k l d a1 b1 a2 b2 a3 b3 a4 b4 (i : Int) = some ⟨⟨((l.drop i).map (·.Week)).foldl min a1, ((l.drop i).map (·.Week)).foldl max b1⟩, ⟨((l.drop i).map (·.Damage)).foldl min a2, ((l.drop i).map (·.Damage)).foldl max b2⟩, ⟨((l.drop i).map (·.Old)).foldl min a3, ((l.drop i).map (·.Old)).foldl max b3⟩, ⟨((l.drop i).map g).foldl min a4, ((l.drop i).map g).foldl max b4⟩⟩
 | 0, i, _, _, _, _, _, _, _, _, _, h => by omega
 | d + 1, i, a1, b1, a2, b2, a3, b3, a4, b4, hi, hd => by
  unfold prBounds_L0
  by_cases hin : i = l.length
  ·subst hin
   rw [if_neg (Int.lt_irrefl _), List.drop_length]; rfl
  have hlt : i < l.length := by omega
  have he := List.getElem?_eq_getElem hlt
  have hgi := hg _ (List.getElem_mem hlt)
  rw [List.drop_eq_getElem_cons hlt]
  generalize l[i] = t at he hgi
  unfold prWider
  rw [if_pos (by omega), idx_at he, Option.bind_some, Option.bind_some, Option.bind_some, Option.bind_some, Option.bind_some, Option.bind_some, Option.bind_some, hgi, Option.bind_some, Option.bind_some, gd_pos (fI (by omega)), show (i : Int) + 1 = ((i + 1 : Nat) : Int) by omega, rBounds_go hlen hg d (i + 1) _ _ _ _ _ _ _ _ (by omega) (by omega)]
  rfl
theorem rBounds_eq {s : Ssn} (h : VS s) {k : Int} (hk : FieldOk s k) {l : List Trh} (hl : ∀ t, t ∈ l ↔ TR s s.Visits k t) (hlen : l.length ≤ 3000) (hne : HTf s s.Visits k) : ∃ b, prBounds s k l = some b ∧ BOk s s.Visits k b := by
 have hf := h.vf hk
 have hlast := (not_many h.many).1
 have hn : l ≠ [] := by obtain ⟨t, ht⟩ := hne; exact List.ne_nil_of_mem ((hl t).2 ht)
 have hr : ∀ t, TR s s.Visits k t → (0 ≤ t.Week ∧ t.Week ≤ 12) ∧ (0 ≤ t.Damage ∧ t.Damage ≤ 100) ∧ (0 ≤ t.Old ∧ t.Old ≤ 100) := fun t ht => by have := ht.rng h hk; omega
 have key := rBounds_go hlen (g := fun t => harv s (fldAt s k).Crop t) (s := s) (k := k) (l := l) (fun t ht => by
  have := hr t ((hl t).1 ht)
  exact rHarvest_eq h.toVS0 hlast hk this.1.1 this.2.1) (l.length + 1) 0 1099511627776 (-1099511627776) 1099511627776 (-1099511627776) 1099511627776 (-1099511627776) 1099511627776 (-1099511627776) (Nat.zero_le _) (by omega)
 refine ⟨_, key, ?_⟩
 rw [List.drop_zero]
 refine ⟨map_spn hl hn fun t ht => ?_, map_spn hl hn fun t ht => ?_, map_spn hl hn fun t ht => ?_, map_spn hl hn fun t ht => ?_⟩
 ·have := hr t ht; omega
 ·have := hr t ht; omega
 ·have := hr t ht; omega
 ·have := hr t ht
  have := dmg_rng' h.toVS0 hf.crp.1 hf.crp.2 (t := t) this.2.1.1 s.Last
  unfold harv; omega
end
end Go.Proofs.YtmlaphekbnanjaaGreat

namespace Go.Proofs.YtmlaphekbnanjaaGreat
open _root_.Go.Proofs.Tryz
open Go.Abs Go.Abs.Grow
set_option maxRecDepth 100000
noncomputable section
theorem lIsField_ev {s : Ssn} (h : s.Fields.length ≤ 1000000) {n : Int} : Ev (plIsField s n) (FieldOk s n) := Ev.gd (fI (by omega)) (In_ev.ret.imp (by unfold FieldOk; omega))
theorem lBack_eq {t : Trh} : plBack t = some t := rfl
theorem f0 : fitsP .i64 (0 : Int) := fI (by omega)
end
end Go.Proofs.YtmlaphekbnanjaaGreat

namespace Go.Proofs.YtmlaphekbnanjaaGreat
open _root_.Go.Proofs.Tryz
open Go.Abs Go.Abs.Grow
set_option maxRecDepth 100000
noncomputable section
theorem collect_go : ∀ (l acc : List Crs), acc.length + l.length < 1048576 → pappendSeq_L0 l acc = some (acc ++ l)
 | [], acc, _ => by rw [List.append_nil]; rfl
 | a :: l, acc, h => by
  simp only [List.length_cons] at h
  unfold pappendSeq_L0
  rw [gd_pos (by omega), collect_go l _ (by rw [List.length_append]; simp only [List.length_cons, List.length_nil]; omega), List.append_assoc]; rfl
theorem collect_eq {l : List Crs} (h : l.length < 1048576) : pcollect l = some l := by
 unfold pcollect pappendSeq
 rw [collect_go l [] (by simpa using h), Option.bind_some]; rfl
theorem isNaN_eq {x : Int} : pisNaN x = some false := by unfold pisNaN; simp
theorem compare_eq {x y : Int} : pcompare x y = some (if x < y then -1 else if y < x then 1 else 0) := by
 unfold pcompare
 rw [isNaN_eq, isNaN_eq, Option.bind_some, Option.bind_some, if_neg (by simp), if_neg (by simp)]
 split
 ·rfl
 ·split <;> rfl
def cmpN (H : Crs → Int) (a b : Crs) : Int := if H a < H b then -1 else if H b < H a then 1 else 0
theorem max_go {l : List Crs} (hlen : l.length < 1048576) {cmp : Crs → Crs → Option Int} {H : Crs → Int} (hc : ∀ a ∈ l, ∀ b ∈ l, cmp a b = some (cmpN H a b)) : ∀ (d i : Nat) (c : Crs), i ≤ l.length → l.length - i < d → c ∈ l → (∀ c' ∈ l.take i, H c' ≤ H c) →
  ∃ r ∈ l, pmaxFunc_L0 l cmp d c.t.Week c.t.Damage c.t.Old c.d.d0 c.d.d1 c.d.d2 c.d.d3 c.d.d4 c.d.d5 c.d.d6 c.d.d7 c.d.d8 c.d.d9 c.d.d10 c.d.d11 c.d.d12 (i : Int) = some r ∧ ∀ c' ∈ l, H c' ≤ H r
 | 0, i, _, _, h, _, _ => by omega
 | d + 1, i, c, hi, hd, hcl, hm => by
  unfold pmaxFunc_L0
  by_cases hin : i = l.length
  ·rw [if_neg (by omega)]
   rw [hin, List.take_length] at hm
   exact ⟨c, hcl, rfl, hm⟩
  have hlt : i < l.length := by omega
  have he := List.getElem?_eq_getElem hlt
  have hmem := List.getElem_mem hlt
  have htk : l.take (i + 1) = l.take i ++ [l[i]] := by rw [List.take_add_one, he]; rfl
  generalize l[i] = a at he hmem htk
  have h1 := hc a hmem c hcl
  rw [if_pos (by omega), idx_at he, Option.bind_some]
  rw [show cmp a { t := { Week := c.t.Week, Damage := c.t.Damage, Old := c.t.Old }, d := { d0 := c.d.d0, d1 := c.d.d1, d2 := c.d.d2, d3 := c.d.d3, d4 := c.d.d4, d5 := c.d.d5, d6 := c.d.d6, d7 := c.d.d7, d8 := c.d.d8, d9 := c.d.d9, d10 := c.d.d10, d11 := c.d.d11, d12 := c.d.d12 } } = _ from h1, Option.bind_some]
  unfold cmpN
  by_cases hac : H c < H a
  ·rw [if_neg (show ¬ H a < H c by omega), if_pos hac, if_pos (show (0 : Int) < 1 by omega), Option.bind_some, gd_pos (fI (by omega)), show (i : Int) + 1 = ((i + 1 : Nat) : Int) by omega]
   refine max_go hlen hc d (i + 1) a (by omega) (by omega) hmem fun c' hc' => ?_
   rw [htk] at hc'
   rcases List.mem_append.1 hc' with h2 | h2
   ·have := hm c' h2; omega
   ·rw [List.mem_singleton.1 h2]; exact Int.le_refl _
  ·have : ¬ (0 : Int) < (if H a < H c then -1 else if H c < H a then 1 else 0) := by
    by_cases hb : H a < H c
    ·rw [if_pos hb]; omega
    ·rw [if_neg hb, if_neg hac]; omega
   rw [if_neg this, gd_pos (fI (by omega)), show (i : Int) + 1 = ((i + 1 : Nat) : Int) by omega]
   refine max_go hlen hc d (i + 1) c (by omega) (by omega) hcl fun c' hc' => ?_
   rw [htk] at hc'
   rcases List.mem_append.1 hc' with h2 | h2
   ·exact hm c' h2
   ·rw [List.mem_singleton.1 h2]; omega
theorem min_go {l : List Crs} (hlen : l.length < 1048576) {cmp : Crs → Crs → Option Int} {H : Crs → Int} (hc : ∀ a ∈ l, ∀ b ∈ l, cmp a b = some (cmpN H a b)) : ∀ (d i : Nat) (c : Crs), i ≤ l.length → l.length - i < d → c ∈ l → (∀ c' ∈ l.take i, H c ≤ H c') →
  ∃ r ∈ l, pminFunc_L0 l cmp d c.t.Week c.t.Damage c.t.Old c.d.d0 c.d.d1 c.d.d2 c.d.d3 c.d.d4 c.d.d5 c.d.d6 c.d.d7 c.d.d8 c.d.d9 c.d.d10 c.d.d11 c.d.d12 (i : Int) = some r ∧ ∀ c' ∈ l, H r ≤ H c'
 | 0, i, _, _, h, _, _ => by omega
 | d + 1, i, c, hi, hd, hcl, hm => by
  unfold pminFunc_L0
  by_cases hin : i = l.length
  ·rw [if_neg (by omega)]
   rw [hin, List.take_length] at hm
   exact ⟨c, hcl, rfl, hm⟩
  have hlt : i < l.length := by omega
  have he := List.getElem?_eq_getElem hlt
  have hmem := List.getElem_mem hlt
  have htk : l.take (i + 1) = l.take i ++ [l[i]] := by rw [List.take_add_one, he]; rfl
  generalize l[i] = a at he hmem htk
  have h1 := hc a hmem c hcl
  rw [if_pos (by omega), idx_at he, Option.bind_some]
  rw [show cmp a { t := { Week := c.t.Week, Damage := c.t.Damage, Old := c.t.Old }, d := { d0 := c.d.d0, d1 := c.d.d1, d2 := c.d.d2, d3 := c.d.d3, d4 := c.d.d4, d5 := c.d.d5, d6 := c.d.d6, d7 := c.d.d7, d8 := c.d.d8, d9 := c.d.d9, d10 := c.d.d10, d11 := c.d.d11, d12 := c.d.d12 } } = _ from h1, Option.bind_some]
  unfold cmpN
  by_cases hac : H a < H c
  ·rw [if_pos hac, if_pos (show (-1 : Int) < 0 by omega), Option.bind_some, gd_pos (fI (by omega)), show (i : Int) + 1 = ((i + 1 : Nat) : Int) by omega]
   refine min_go hlen hc d (i + 1) a (by omega) (by omega) hmem fun c' hc' => ?_
   rw [htk] at hc'
   rcases List.mem_append.1 hc' with h2 | h2
   ·have := hm c' h2; omega
   ·rw [List.mem_singleton.1 h2]; exact Int.le_refl _
  ·have : ¬ (if H a < H c then -1 else if H c < H a then 1 else 0) < (0 : Int) := by
    rw [if_neg hac]
    by_cases hb : H c < H a
    ·rw [if_pos hb]; omega
    ·rw [if_neg hb]; omega
   rw [if_neg this, gd_pos (fI (by omega)), show (i : Int) + 1 = ((i + 1 : Nat) : Int) by omega]
   refine min_go hlen hc d (i + 1) c (by omega) (by omega) hcl fun c' hc' => ?_
   rw [htk] at hc'
   rcases List.mem_append.1 hc' with h2 | h2
   ·exact hm c' h2
   ·rw [List.mem_singleton.1 h2]; omega
theorem maxF {l : List Crs} (hne : l ≠ []) (hlen : l.length < 1048576) {cmp : Crs → Crs → Option Int} {H : Crs → Int} (hc : ∀ a ∈ l, ∀ b ∈ l, cmp a b = some (cmpN H a b)) : ∃ r ∈ l, pmaxFunc l cmp = some r ∧ ∀ c' ∈ l, H c' ≤ H r := by
 have hp := List.length_pos_iff.2 hne
 have he := List.getElem?_eq_getElem hp
 unfold pmaxFunc
 rw [if_neg (by omega), idx_zero he, Option.bind_some]
 exact max_go hlen hc (((l.length : Int) - 1).toNat + 1) 1 l[0] (by omega) (by omega) (List.getElem_mem hp) fun c' hc' => by
  rw [List.take_add_one, he] at hc'
  have : c' = l[0] := by simpa using hc'
  rw [this]; exact Int.le_refl _
theorem minF {l : List Crs} (hne : l ≠ []) (hlen : l.length < 1048576) {cmp : Crs → Crs → Option Int} {H : Crs → Int} (hc : ∀ a ∈ l, ∀ b ∈ l, cmp a b = some (cmpN H a b)) : ∃ r ∈ l, pminFunc l cmp = some r ∧ ∀ c' ∈ l, H r ≤ H c' := by
 have hp := List.length_pos_iff.2 hne
 have he := List.getElem?_eq_getElem hp
 unfold pminFunc
 rw [if_neg (by omega), idx_zero he, Option.bind_some]
 exact min_go hlen hc (((l.length : Int) - 1).toNat + 1) 1 l[0] (by omega) (by omega) (List.getElem_mem hp) fun c' hc' => by
  rw [List.take_add_one, he] at hc'
  have : c' = l[0] := by simpa using hc'
  rw [this]; exact Int.le_refl _
theorem Show_ok {s : Ssn} (h : VS s) (ht : HT s s.Visits) {k : Int} (hk : FieldOk s k) (high : Bool) : ∃ t, pShow s k high = some (t, 0) ∧ TR s s.Visits k t ∧ ∀ t', TR s s.Visits k t' → (if high = true then harv s (fldAt s k).Crop t' ≤ harv s (fldAt s k).Crop t else harv s (fldAt s k).Crop t ≤ harv s (fldAt s k).Crop t') := by
 obtain ⟨W, h1, hW⟩ := openTrue_ok h ht
 have hf := h.vf hk
 have hl := (not_many h.many).1
 have hlen : ((TL s s.Visits k).map (crs s (fldAt s k).Crop)).length < 1048576 := by rw [List.length_map]; have := TL_len h (V := s.Visits) hk; omega
 have hne : (TL s s.Visits k).map (crs s (fldAt s k).Crop) ≠ [] := by simpa using (TL_ne h (V := s.Visits) hk).2 (ht k hk)
 have hc : ∀ a ∈ (TL s s.Visits k).map (crs s (fldAt s k).Crop), ∀ b ∈ (TL s s.Visits k).map (crs s (fldAt s k).Crop), (fun a b => pshow1 a b) a b = some (cmpN (fun c => harv s (fldAt s k).Crop c.t) a b) := by
  intro a ha b hb
  obtain ⟨t, h2, rfl⟩ := List.mem_map.1 ha
  obtain ⟨u, h3, rfl⟩ := List.mem_map.1 hb
  have r1 := ((mem_TL h hk).1 h2).rng h hk
  have r2 := ((mem_TL h hk).1 h3).rng h hk
  show pshow1 _ _ = _
  unfold pshow1
  rw [show pharvestD (crs s (fldAt s k).Crop t).d = _ from harvestD_eq h.toVS0 hl hf.crp.1 hf.crp.2 r1.1.2, Option.bind_some, show pharvestD (crs s (fldAt s k).Crop u).d = _ from harvestD_eq h.toVS0 hl hf.crp.1 hf.crp.2 r2.1.2, Option.bind_some, compare_eq, Option.bind_some]; rfl
 unfold pShow
 rw [openAsked_in h hk rfl h1, Option.bind_some, if_pos rfl]
 dsimp only
 rw [truths_eq hW hk, Option.bind_some, collect_eq hlen, Option.bind_some]
 cases high with
 | true =>
  obtain ⟨r, q1, q2, q3⟩ := maxF hne hlen hc
  obtain ⟨t, h2, rfl⟩ := List.mem_map.1 q1
  rw [if_pos rfl, q2, Option.bind_some]
  exact ⟨t, rfl, (mem_TL h hk).1 h2, fun t' ht' => by rw [if_pos rfl]; exact q3 _ (List.mem_map.2 ⟨t', (mem_TL h hk).2 ht', rfl⟩)⟩
 | false =>
  obtain ⟨r, q1, q2, q3⟩ := minF hne hlen hc
  obtain ⟨t, h2, rfl⟩ := List.mem_map.1 q1
  rw [if_neg (by simp), q2, Option.bind_some]
  exact ⟨t, rfl, (mem_TL h hk).1 h2, fun t' ht' => by rw [if_neg (by simp)]; exact q3 _ (List.mem_map.2 ⟨t', (mem_TL h hk).2 ht', rfl⟩)⟩
theorem Show_no {s : Ssn} (h : VS s) (ht : ¬ HT s s.Visits) {k : Int} (hk : FieldOk s k) {high : Bool} : pShow s k high = some (⟨0, 0, 0⟩, 11) := by
 unfold pShow
 rw [openAsked_in h hk rfl (openTrue_no h ht), Option.bind_some, if_neg (by decide)]
theorem Show_out {s : Ssn} (h : VS s) {k : Int} (hk : ¬ FieldOk s k) {high : Bool} : pShow s k high = some (⟨0, 0, 0⟩, 2) := by
 unfold pShow
 rw [openAsked_out h fun q => hk q.1, Option.bind_some, if_neg (by decide)]
theorem Show_bad {s : Ssn} (h : faultN s ≠ 0) {k : Int} {high : Bool} : pShow s k high = some (⟨0, 0, 0⟩, faultN s) := by
 unfold pShow
 rw [openAsked_bad h, Option.bind_some, if_neg h]
theorem m_GrowthShows {s : Ssn} {field : Int} {high : Bool} (hs : ok_Ssn s) (_ : fitsP .i64 field) (_ : True) : pGrowthShows s field high = some true := by
 have hR := okS hs
 unfold pGrowthShows
 refine (thin_ev hR).pick (fun ht => ?_) fun _ => by rw [if_neg (by simp), aw, Option.bind_some]
 rw [if_pos rfl]
 simp only [lSeason_eq ht, Option.bind_some, lBack_eq, lFault_eq hR, lSure_eq hR, aw]
 by_cases hf : faultN s = 0
 ·have h := fault_zero.1 hf
  obtain ⟨hl, _, h3, _⟩ := not_many h.many
  have hfe := lIsField_ev (s := s) (n := field) (by omega)
  by_cases hk : FieldOk s field
  ·have hff := h.vf hk
   by_cases hT : HT s s.Visits
   ·have hs0 : sureN s = 0 := by unfold sureN; rw [if_pos hf, if_pos hT]
    obtain ⟨t, q1, q2, q3⟩ := Show_ok h hT hk high
    obtain ⟨L, q4, q5, q6⟩ := rTruths_eq h hk
    obtain ⟨b, q7, q8⟩ := rBounds_eq h hk q5 q6 (hT _ hk)
    have hr := q2.rng h hk
    have hlo := q8.hv.pl
    have hhi := q8.hv.ph
    have hall := q8.hv.all _ ⟨t, q2, rfl⟩
    obtain ⟨t1, a1, a2⟩ := hlo
    obtain ⟨t2, b1, b2⟩ := hhi
    have c1 := q3 t1 a1
    have c2 := q3 t2 b1
    dsimp only at a2 b2 hall
    simp only [q1, q4, q7, Option.bind_some, hs0, hf, hfe.some_of hk, if_true, (rIsTruth_ev h hk).some_of q2, rHarvest_eq h.toVS0 hl hk hr.1.1 hr.2.1]
    cases high with
    | true =>
     rw [if_pos rfl] at c1 c2
     have e : harv s (fldAt s field).Crop t = b.Harvest.Hi := by omega
     simp [e]
    | false =>
     rw [if_neg (by simp)] at c1 c2
     have e : harv s (fldAt s field).Crop t = b.Harvest.Lo := by omega
     simp [e]
   ·have hs0 : sureN s = 11 := by unfold sureN; rw [if_pos hf, if_neg hT]
    simp [Show_no h hT hk, hs0, hf, hfe.some_of hk, gd_pos f0]
  ·simp [Show_out h hk, hf, hfe.some_not hk, gd_pos f0]
 ·have hs0 : sureN s = faultN s := by unfold sureN; rw [if_neg hf]
  simp [Show_bad hf, hf, hs0, gd_pos f0]
end
end Go.Proofs.YtmlaphekbnanjaaGreat

namespace Go.Proofs.YtmlaphekbnanjaaGreat
open _root_.Go.Proofs.Tryz
open Go.ChangeShapes Go.WideShapes Go.ChangeAt Go.RowKit Go.Abs
set_option maxRecDepth 100000
theorem op3 : Opens prog 3 Int (fitsP .i64) := opens_int (by kernel_rfl)
theorem op75 : Opens prog 75 (List Int) (fun l => l.length ≤ maxLen ∧ ∀ a0 ∈ l, fitsP .i64 a0) := opens_slice (by kernel_rfl) (by kernel_rfl) op3
theorem op22 : Opens prog 22 (List (List Int)) (fun l => l.length ≤ maxLen ∧ ∀ a0 ∈ l, a0.length ≤ maxLen ∧ ∀ a1 ∈ a0, fitsP .i64 a1) := opens_slice (by kernel_rfl) (by kernel_rfl) op75
theorem op45 : Opens prog 45 Rg ok_Rg := opens_struct (fs := [(3, 0), (3, 1)]) (by kernel_rfl) (by kernel_rfl) (opensFs_cons (α := Int) (ok := fitsP .i64) (k := 1) op3 (by kernel_rfl) rfl (opensFs_cons (α := Int) (ok := fitsP .i64) (k := 1) op3 (by kernel_rfl) rfl opensFs_nil)) (by kernel_rfl) fun m vs h => by
 obtain ⟨a0, c0, r0, m0, h0, p0, k0, s0, ⟨a1, c1, r1, m1, h1, p1, k1, s1, rfl⟩⟩ := h
 have p0 : c0 = [.int .i64 a0] := p0; subst p0
 have p1 : c1 = [.int .i64 a1] := p1; subst p1
 subst h1 h0
 exact ⟨⟨a0, a1⟩, rfl, ⟨k0, k1⟩⟩
theorem op62 : Opens prog 62 Fld ok_Fld := opens_struct (fs := [(3, 0), (45, 1), (45, 3), (45, 5)]) (by kernel_rfl) (by kernel_rfl) (opensFs_cons (α := Int) (ok := fitsP .i64) (k := 1) op3 (by kernel_rfl) rfl (opensFs_cons (α := Rg) (ok := ok_Rg) (k := 2) op45 (by kernel_rfl) rfl (opensFs_cons (α := Rg) (ok := ok_Rg) (k := 2) op45 (by kernel_rfl) rfl (opensFs_cons (α := Rg) (ok := ok_Rg) (k := 2) op45 (by kernel_rfl) rfl opensFs_nil)))) (by kernel_rfl) fun m vs h => by
 obtain ⟨a0, c0, r0, m0, h0, p0, k0, s0, ⟨a1, c1, r1, m1, h1, p1, k1, s1, ⟨a2, c2, r2, m2, h2, p2, k2, s2, ⟨a3, c3, r3, m3, h3, p3, k3, s3, rfl⟩⟩⟩⟩ := h
 have p0 : c0 = [.int .i64 a0] := p0; subst p0
 have p1 : c1 = [.int .i64 a1.Lo, .int .i64 a1.Hi] := p1; subst p1
 have p2 : c2 = [.int .i64 a2.Lo, .int .i64 a2.Hi] := p2; subst p2
 have p3 : c3 = [.int .i64 a3.Lo, .int .i64 a3.Hi] := p3; subst p3
 subst h3 h2 h1 h0
 exact ⟨⟨a0, a1, a2, a3⟩, rfl, ⟨k0, k1, k2, k3⟩⟩
theorem op23 : Opens prog 23 (List Fld) (fun l => l.length ≤ maxLen ∧ ∀ a0 ∈ l, ok_Fld a0) := opens_slice (by kernel_rfl) (by kernel_rfl) op62
theorem op116 : Opens prog 116 Vis ok_Vis := opens_struct (fs := [(3, 0), (3, 1), (45, 2)]) (by kernel_rfl) (by kernel_rfl) (opensFs_cons (α := Int) (ok := fitsP .i64) (k := 1) op3 (by kernel_rfl) rfl (opensFs_cons (α := Int) (ok := fitsP .i64) (k := 1) op3 (by kernel_rfl) rfl (opensFs_cons (α := Rg) (ok := ok_Rg) (k := 2) op45 (by kernel_rfl) rfl opensFs_nil))) (by kernel_rfl) fun m vs h => by
 obtain ⟨a0, c0, r0, m0, h0, p0, k0, s0, ⟨a1, c1, r1, m1, h1, p1, k1, s1, ⟨a2, c2, r2, m2, h2, p2, k2, s2, rfl⟩⟩⟩ := h
 have p0 : c0 = [.int .i64 a0] := p0; subst p0
 have p1 : c1 = [.int .i64 a1] := p1; subst p1
 have p2 : c2 = [.int .i64 a2.Lo, .int .i64 a2.Hi] := p2; subst p2
 subst h2 h1 h0
 exact ⟨⟨a0, a1, a2⟩, rfl, ⟨k0, k1, k2⟩⟩
theorem op24 : Opens prog 24 (List Vis) (fun l => l.length ≤ maxLen ∧ ∀ a0 ∈ l, ok_Vis a0) := opens_slice (by kernel_rfl) (by kernel_rfl) op116
theorem op26 : Opens prog 26 Ssn ok_Ssn := opens_struct (fs := [(3, 0), (22, 1), (23, 2), (24, 3)]) (by kernel_rfl) (by kernel_rfl) (opensFs_cons (α := Int) (ok := fitsP .i64) (k := 1) op3 (by kernel_rfl) rfl (opensFs_cons (α := List (List Int)) (ok := (fun l => l.length ≤ maxLen ∧ ∀ a0 ∈ l, a0.length ≤ maxLen ∧ ∀ a1 ∈ a0, fitsP .i64 a1)) (k := 1) op22 (by kernel_rfl) rfl (opensFs_cons (α := List Fld) (ok := (fun l => l.length ≤ maxLen ∧ ∀ a0 ∈ l, ok_Fld a0)) (k := 1) op23 (by kernel_rfl) rfl (opensFs_cons (α := List Vis) (ok := (fun l => l.length ≤ maxLen ∧ ∀ a0 ∈ l, ok_Vis a0)) (k := 1) op24 (by kernel_rfl) rfl opensFs_nil)))) (by kernel_rfl) fun m vs h => by
 obtain ⟨a0, c0, r0, m0, h0, p0, k0, s0, ⟨a1, c1, r1, m1, h1, p1, k1, s1, ⟨a2, c2, r2, m2, h2, p2, k2, s2, ⟨a3, c3, r3, m3, h3, p3, k3, s3, rfl⟩⟩⟩⟩ := h
 have p0 : c0 = [.int .i64 a0] := p0; subst p0
 obtain ⟨d1, rfl, p1⟩ := p1
 obtain ⟨d2, rfl, p2⟩ := p2
 obtain ⟨d3, rfl, p3⟩ := p3
 subst h3 h2 h1 h0
 exact ⟨⟨a0, a1, a2, a3⟩, ⟨_, _, _, rfl, p1, p2, p3⟩, ⟨k0, k1, k2, k3⟩⟩
theorem op4 : Opens prog 4 Bool (fun _ => True) := opens_bool (by kernel_rfl)
theorem laid : laidOutB prog = true := by kernel_rfl
theorem ownNone : ownKnob prog.godebug = none := by kernel_rfl
theorem GrowthShows_lifted (os : Os) (started : os.Started) (H : Type) (enc : TypeId × Value → H) :
    ReturnsInHanded {} Tryz.checked os 5 .any (Rows.growthShowsSpec.pre6 enc Tryz.prog Tryz.f5 Rows.growthShowsRow.domain false) (Rows.growthShowsSpec.post enc Tryz.prog Tryz.f5 false true false false) := by
  refine returnsInHanded_of_change (C := Tryz.checked) ownNone started (by kernel_rfl) Tryz.func5
    (ChangeSpec.witness6 (enc := enc) (C := Tryz.checked) false ⟨#[], #[.agg #[.int .i64 0, .slice none 0 0, .slice none 0 0, .slice none 0 0], .int .i64 0, .bool false], []⟩ 8 (by kernel_rfl) (by kernel_rfl) (by kernel_rfl) (by kernel_rfl)) ?_
  intro W base args ds gs before hval0 hW hcnd _
  have hval : ∀ (j : Nat) t v, Tryz.f5.params[j]? = some t → args[j]? = some v → Value.okWide Tryz.prog W .any base t v := hval0
  have hW' := hW
  obtain ⟨p, q, hA0, hV, rfl, hfz, hnd⟩ := hW
  have hA : DataW.TrodAll enc Tryz.prog W 0 (fun _ => true) true Tryz.f5.params.toList args.toList ds p := hA0
  rw [Tryz.params5] at hA hval
  obtain ⟨v0, v1, v2, d0, d1, d2, p0, p1, p2, rfl, rfl, rfl, h0, h1, h2⟩ := trodAll_three hA
  obtain ⟨rfl, rfl⟩ := trodVars_none hV
  obtain ⟨n1, hv1⟩ := okWide_int Tryz.underlying3 (hval 1 3 v1 rfl rfl)
  obtain ⟨n2, hv2⟩ := okWide_bool Tryz.underlying4 (hval 2 4 v2 rfl rfl)
  have hlt : ∀ x ∈ p0 ++ p1 ++ p2, x.block < W.heap.size := fun x hx => by simpa using hW'.lt x (by simpa using hx)
  obtain ⟨fu0, hf0⟩ := id h0
  obtain ⟨fu1, hf1⟩ := id h1
  obtain ⟨fu2, hf2⟩ := id h2
  clear hA0 hval0
  obtain ⟨e0, m0, w0, a_0, le0, sv0, lay0, cr0, rep0, ok0⟩ := op26 H enc W true _ _ _ hf0 _ _ (Lay.nil W)
  obtain ⟨e1, m1, w1, a_1, le1, sv1, lay1, cr1, rep1, ok1⟩ := op3 H enc W true _ _ _ hf1 e0 m0 lay0
  obtain ⟨e2, m2, w2, a_2, le2, sv2, lay2, cr2, rep2, ok2⟩ := op4 H enc W true _ _ _ hf2 e1 m1 lay1
  obtain ⟨c0_1, c0_2, c0_3, rfl, g0_1, g0_2, g0_3⟩ := rep0
  obtain ⟨cs0, hv0, cl0⟩ : ∃ cs, v0 = .agg cs ∧ v0.cells.toList = cs.toList := by
    have hl := cr0.length
    cases v0 with
    | agg cs => exact ⟨cs, rfl, rfl⟩
    | _ => exact absurd hl (by simp [Value.cells])
  subst hv0
  have rep1 : w1 = [.int .i64 a_1] := rep1
  subst rep1 hv1
  have ha1 : n1 = a_1 := by
    cases cr1 with
    | cons h _ => have h : Value.int .i64 n1 = .int .i64 a_1 := h; cases h; rfl
  subst ha1
  have rep2 : w2 = [.bool a_2] := rep2
  subst rep2 hv2
  have ha2 : n2 = a_2 := by
    cases cr2 with
    | cons h _ => have h : Value.bool n2 = .bool a_2 := h; cases h; rfl
  subst ha2
  have hargs : All2 (VR e2) [.agg 4 [.int .i64 a_0.Last, c0_1, c0_2, c0_3], .c (.int .i64 n1), .c (.bool n2)] [.agg cs0, .int .i64 n1, .bool n2] := .cons ⟨cs0, rfl, (cr0.mono fun _ _ => CR.mono (le1.trans le2)), rfl⟩ (.cons rfl (.cons rfl .nil))
  refine (callsIn_wide.1 (call_of fits htab (s_GrowthShows (s := a_0) (field := n1) (high := n2) lay2.pre ((g0_1.subv sv1).subv sv2) ((g0_2.subv sv1).subv sv2) ((g0_3.subv sv1).subv sv2) (m_GrowthShows ok0 ok1 ok2) (Q := fun v _ => v = .c (.bool true)) fun _ _ => rfl) lay2.hr (args' := #[.agg cs0, .int .i64 n1, .bool n2]) hargs 0)).mono fun en W' hp => ?_
  obtain ⟨v, v', e', m', rfl, hst, hvr, rfl⟩ := hp
  have hv' : v' = .bool true := hvr
  subst hv'
  have hbelow := lay2.below hst
  refine ⟨_, rfl, [d0, d1, d2], [], p0 ++ p1 ++ p2, [], p0 ++ (p1 ++ p2), [], by simpa using hW', trodAll_mk1 (shut_bool Tryz.underlying4 _),
    trodAll_mk3 (Below.trod laid (by kernel_rfl) (of_decide_eq_true (by kernel_rfl)) h0 hbelow fun x hx => hlt x (by simp [hx])) (Below.trod laid (by kernel_rfl) (of_decide_eq_true (by kernel_rfl)) h1 hbelow fun x hx => hlt x (by simp [hx])) (Below.trod laid (by kernel_rfl) (of_decide_eq_true (by kernel_rfl)) h2 hbelow fun x hx => hlt x (by simp [hx])), rfl, lay2.kept hst _, fun hc => by cases hc⟩
theorem GrowthShows_holds : Rows.GrowthShowsSaid :=
 OpenClaim.holds_of_wide 5 Tryz.f5 rfl rfl rfl rfl rfl rfl rfl ⟨rfl, rfl, rfl, rfl, rfl⟩ rfl rfl rfl rfl rfl (by kernel_rfl) Tryz.func5 (by kernel_rfl)
  (of_decide_eq_true (by kernel_rfl)) (by unfold Func.isWrapper; first | (rw [if_pos (by decide +kernel)]; kernel_rfl) | (rw [if_neg (by decide +kernel)]; exact ⟨rfl, rfl⟩))
  (fun os started H enc _ => GrowthShows_lifted os started H enc)
end Go.Proofs.YtmlaphekbnanjaaGreat

