/- GrowthFirst, for all that it can be called with, returns true. Condition: none. -/
import Derived.Test.YtmlaphekbnanjaaGtH
import GoSem.Step
import GoSem.ClaimKeys
import Derived.DeepKeys2
import Derived.RangeFuncLeaves
import Derived.OrdersIn
import Derived.Laws.World
import Derived.Laws.Sem
import Derived.RangeFuncRecord
import Derived.Laws.CopyRow
import Derived.Laws.Append
import Derived.Laws.Rows
import Derived.Laws.Slices
import Derived.Laws.Entries
import Derived.ChangeKeysEq
import Derived.IntWalk
import Derived.DeepKeys
import Derived.DeepKeys3
import Derived.Laws.StructEq
import Derived.MapKept
import Derived.Laws.AppendOwn
import Derived.ChangeArms
import Derived.ChangeOld
import Derived.Carry
import Derived.ChangeShapes
import Derived.KernelRfl
import Derived.ProofKit
import Derived.Test.YtmlaphekbnanjaaRows

namespace Go.Proofs.Ytmlaphekbnanjaa
open _root_.Go.Proofs.Try
open Go.Abs Go.Abs.Grow
set_option maxRecDepth 100000
noncomputable section
theorem minimum_eq {l : List Int} (h : l ≠ []) (hl : shrt l) : pminimum l = some (minL l) := by
 have hl := hl.lt
 cases l with
 | nil => exact absurd rfl h
 | cons x l =>
  unfold pminimum
  rw [if_neg (by simp; omega), idx_zero rfl, Option.bind_some]
  have key := loopFold (l := x :: l) (fun s a => min s a) (fun d s k => pminimum_L0 (x :: l) d s k) some (fun d k s a ha => by
   have hk := (List.getElem?_eq_some_iff.1 ha).1
   rw [pminimum_L0, if_pos (by omega), idx_at ha, Option.bind_some]
   by_cases hc : a < s
   ·rw [if_pos hc, gd_pos (fI (by omega)), Int.min_eq_right (by omega)]
   ·rw [if_neg hc, gd_pos (fI (by omega)), Int.min_eq_left (by omega)]) (fun d s => by rw [pminimum_L0, if_neg (Int.lt_irrefl _)]) ((x :: l).length + 1) 0 x (Nat.zero_le _) (by omega)
  refine key.trans ?_
  rw [List.drop_zero]
  show some (l.foldl min (min x x)) = _
  rw [Int.min_self]; rfl
theorem max_eq {l : List Int} (h : l ≠ []) (hl : shrt l) : psMax l = some (maxL l) := by
 have hl := hl.lt
 cases l with
 | nil => exact absurd rfl h
 | cons x l =>
  unfold psMax
  rw [if_neg (by simp; omega), idx_zero rfl, Option.bind_some]
  have key := loopFold (l := x :: l) (fun s a => max s a) (fun d s k => psMax_L0 (x :: l) d s k) some (fun d k s a ha => by
   have hk := (List.getElem?_eq_some_iff.1 ha).1
   rw [psMax_L0, if_pos (by omega), idx_at ha, Option.bind_some, gd_pos (fI (by omega))]) (fun d s => by rw [psMax_L0, if_neg (Int.lt_irrefl _)]) ((((x :: l).length : Int) - 1).toNat + 1) 1 x (by simp) (by simp only [List.length_cons]; omega)
  exact key
def Of (s : Ssn) (V : List Vis) (k : Int) (h : Trh → Int) : Int → Prop := fun x => ∃ t, TR s V k t ∧ h t = x
theorem span_L0 {q : Qn} {g : Crs → Trh} {h : Trh → Int} : ∀ (l : List Crs) (acc : List Int), (∀ c ∈ l, q.number c = some (h (g c))) → acc.length + l.length < 1048576 → acc ++ l.map (fun c => h (g c)) ≠ [] →
  pspan_L0 q l acc = some ⟨minL (acc ++ l.map (fun c => h (g c))), maxL (acc ++ l.map (fun c => h (g c)))⟩
 | [], acc, _, hl, hne => by
  unfold pspan_L0
  rw [List.map_nil, List.append_nil] at hne ⊢
  simp only [List.length_nil] at hl
  rw [minimum_eq hne (by unfold shrt; omega), Option.bind_some, max_eq hne (by unfold shrt; omega), Option.bind_some]
 | c :: l, acc, hq, hl, hne => by
  simp only [List.length_cons] at hl
  unfold pspan_L0
  rw [hq c (List.mem_cons_self ..), Option.bind_some, gd_pos (by omega), span_L0 l (acc ++ [h (g c)]) (fun x hx => hq x (List.mem_cons_of_mem _ hx)) (by rw [List.length_append]; simp only [List.length_cons, List.length_nil]; omega) (by simp), List.append_assoc]
  rfl
theorem span_eq {s : Ssn} {V : List Vis} {W : Wk} (hw : WOk s V W) {k : Int} (hk : FieldOk s k) (ht : HTf s V k) {q : Qn} {h : Trh → Int} (hq : ∀ t, TR s V k t → q.number (crs s (fldAt s k).Crop t) = some (h t)) :
  ∃ lo hi, pspan W k q = some ⟨lo, hi⟩ ∧ Spn (Of s V k h) lo hi := by
 have hne := (TL_ne hw.vs (V := V) hk).2 ht
 have hlen := TL_len hw.vs (V := V) hk
 have hne2 : [] ++ ((TL s V k).map (crs s (fldAt s k).Crop)).map (fun c => h c.t) ≠ [] := by simpa using hne
 have hmem : ∀ x, x ∈ ([] : List Int) ++ ((TL s V k).map (crs s (fldAt s k).Crop)).map (fun c => h c.t) ↔ Of s V k h x := fun x => by
  rw [List.nil_append, List.map_map, List.mem_map]
  exact ⟨fun ⟨t, h1, h2⟩ => ⟨t, (mem_TL hw.vs hk).1 h1, h2⟩, fun ⟨t, h1, h2⟩ => ⟨t, (mem_TL hw.vs hk).2 h1, h2⟩⟩
 refine ⟨_, _, ?_, (hmem _).1 (minL_mem hne2).1, (hmem _).1 (maxL_mem hne2).1, fun x hx => ⟨(minL_mem hne2).2 x ((hmem x).2 hx), (maxL_mem hne2).2 x ((hmem x).2 hx)⟩⟩
 unfold pspan
 rw [truths_eq hw hk, Option.bind_some, span_L0 (g := fun c => c.t) (h := h) _ [] (fun c hc => by
  obtain ⟨t, h1, rfl⟩ := List.mem_map.1 hc
  exact hq t ((mem_TL hw.vs hk).1 h1)) (by rw [List.length_map]; simp only [List.length_nil]; omega) hne2]
structure BOk (s : Ssn) (V : List Vis) (k : Int) (b : Bnd) : Prop where
 wk : Spn (Of s V k fun t => t.Week) b.Week.Lo b.Week.Hi
 dm : Spn (Of s V k fun t => t.Damage) b.Damage.Lo b.Damage.Hi
 old : Spn (Of s V k fun t => t.Old) b.Old.Lo b.Old.Hi
 hv : Spn (Of s V k fun t => harv s (fldAt s k).Crop t) b.Harvest.Lo b.Harvest.Hi
theorem TR.rng {s : Ssn} (h : VS s) {V : List Vis} {k : Int} (hk : FieldOk s k) {t : Trh} (ht : TR s V k t) : (0 ≤ t.Week ∧ t.Week ≤ s.Last) ∧ (0 ≤ t.Damage ∧ t.Damage ≤ 100) ∧ (0 ≤ t.Old ∧ t.Old ≤ 100) := ht.1.rng (h.vf hk)
theorem bound_eq {s : Ssn} {V : List Vis} {W : Wk} (hw : WOk s V W) {k : Int} (hk : FieldOk s k) (ht : HTf s V k) : ∃ b, pbound W k = some b ∧ BOk s V k b := by
 have hf := hw.vs.vf hk
 have hl := (not_many hw.vs.many).1
 unfold pbound
 obtain ⟨a1, a2, a3, a4⟩ := span_eq hw hk ht (q := ⟨fun a => pcWeek a⟩) (h := fun t => t.Week) (fun t _ => rfl)
 obtain ⟨b1, b2, b3, b4⟩ := span_eq hw hk ht (q := ⟨fun a => pcDamage a⟩) (h := fun t => t.Damage) (fun t _ => rfl)
 obtain ⟨c1, c2, c3, c4⟩ := span_eq hw hk ht (q := ⟨fun a => pcOld a⟩) (h := fun t => t.Old) (fun t _ => rfl)
 obtain ⟨d1, d2, d3, d4⟩ := span_eq hw hk ht (q := ⟨fun a => pharvestD a.d⟩) (h := fun t => harv s (fldAt s k).Crop t) (fun t h => harvestD_eq hw.vs.toVS0 hl hf.crp.1 hf.crp.2 (h.rng hw.vs hk).1.2)
 rw [a3, Option.bind_some, b3, Option.bind_some, c3, Option.bind_some, d3, Option.bind_some]
 exact ⟨_, rfl, a4, b4, c4, d4⟩
theorem Bounds_ok {s : Ssn} (h : VS s) (ht : HT s s.Visits) : ∃ l, pBounds s = some (l, 0) ∧ l.length = s.Fields.length ∧ ∀ (j : Nat) b, l[j]? = some b → BOk s s.Visits (j : Int) b := by
 obtain ⟨W, h1, hw⟩ := openTrue_ok h ht
 have e : W.s.Fields = s.Fields := by rw [hw.ss]
 obtain ⟨_, _, h3, _⟩ := not_many h.many
 unfold pBounds
 rw [h1, Option.bind_some, if_pos rfl]
 show ∃ l, pBounds_L0 (W, 0) (W.s.Fields.length + 1) [] 0 = _ ∧ _
 have key : ∀ (d k : Nat) (acc : List Bnd), k ≤ s.Fields.length → s.Fields.length - k < d → acc.length = k → (∀ (j : Nat) b, acc[j]? = some b → BOk s s.Visits (j : Int) b) → ∃ l, pBounds_L0 (W, 0) d acc (k : Int) = some (l, 0) ∧ l.length = s.Fields.length ∧ ∀ (j : Nat) b, l[j]? = some b → BOk s s.Visits (j : Int) b := by
  intro d
  induction d with
  | zero => intro k acc _ h; omega
  | succ d ih =>
   intro k acc hk hd hlen hacc
   unfold pBounds_L0
   dsimp only
   rw [e]
   by_cases hkn : k = s.Fields.length
   ·rw [if_neg (by omega)]
    exact ⟨acc, rfl, by omega, hacc⟩
   ·have hfk : FieldOk s (k : Int) := ⟨by omega, by omega⟩
    obtain ⟨b, hb1, hb2⟩ := bound_eq hw hfk (ht _ hfk)
    rw [if_pos (by omega), hb1, Option.bind_some, gd_pos (by omega), gd_pos (fI (by omega)), show (k : Int) + 1 = ((k + 1 : Nat) : Int) by omega]
    refine ih (k + 1) (acc ++ [b]) (by omega) (by omega) (by simp [hlen]) fun j b' hj => ?_
    rcases Nat.lt_or_ge j acc.length with hj2 | hj2
    ·rw [List.getElem?_append_left hj2] at hj
     exact hacc j b' hj
    ·rw [List.getElem?_append_right hj2] at hj
     have hjl := (List.getElem?_eq_some_iff.1 hj).1
     simp only [List.length_cons, List.length_nil] at hjl
     have : j = k := by omega
     subst this
     rw [hlen, Nat.sub_self] at hj
     cases hj
     exact hb2
 rw [e]
 exact key (s.Fields.length + 1) 0 [] (Nat.zero_le _) (by omega) rfl fun j b hj => by simp at hj
theorem Bounds_no {s : Ssn} (h : VS s) (ht : ¬ HT s s.Visits) : pBounds s = some ([], 11) := by
 unfold pBounds
 rw [openTrue_no h ht, Option.bind_some, if_neg (by decide)]
end
end Go.Proofs.Ytmlaphekbnanjaa

namespace Go.Proofs.Ytmlaphekbnanjaa
open _root_.Go.Proofs.Try
open Go.Abs Go.Abs.Grow
set_option maxRecDepth 100000
noncomputable section
open Classical in
def SB (s : Ssn) (k : Int) (t : Trh) (i : Nat) : Bool := decide (∀ v, s.Visits[i]? = some v → v.Field = k → inR v.Seen (seenN s (fldAt s k).Crop t v.Week))
theorem pow6 {i : Nat} (h : i ≤ 6) : 2 ^ i ≤ 64 := Nat.le_trans (Nat.pow_le_pow_right (by omega) h) (by decide)
end
end Go.Proofs.Ytmlaphekbnanjaa

namespace Go.Proofs.Ytmlaphekbnanjaa
open _root_.Go.Proofs.Try
open Go.Abs Go.Abs.Grow
set_option maxRecDepth 100000
noncomputable section
theorem aw : pawake = some true := rfl
def ThinN (s : Ssn) : Prop := s.Rules.length ≤ 5 ∧ s.Fields.length ≤ 5 ∧ s.Visits.length ≤ 9 ∧ (∀ l ∈ s.Rules, l.length ≤ 20) ∧ (faultN s = 0 → ∀ f ∈ s.Fields, manyN f ≤ 200)
def OkS (s : Ssn) : Prop := ∀ l ∈ s.Rules, l.length ≤ maxLen
theorem okS {s : Ssn} (h : ok_Ssn s) : OkS s := fun l hl => (h.2.1.2 l hl).1
theorem thin_ev {s : Ssn} (hR : OkS s) : Ev (plThin s) (ThinN s) := by
 unfold plThin ThinN
 refine Ev.imp (P := ¬ (5 : Int) < (s.Rules.length : Int) ∧ ¬ (5 : Int) < (s.Fields.length : Int) ∧ ¬ (9 : Int) < (s.Visits.length : Int) ∧ (∀ l ∈ s.Rules, l.length ≤ 20) ∧ (faultN s = 0 → ∀ f ∈ s.Fields, manyN f ≤ 200)) (Ev.itn fun h1 => Ev.itn fun h2 => Ev.itn fun h3 => ?_) ⟨fun ⟨a, b, c, d⟩ => ⟨by omega, by omega, by omega, d⟩, fun ⟨a, b, c, d⟩ => ⟨by omega, by omega, by omega, d⟩⟩
 refine Ev.loopE (l := s.Rules) (F := fun d x => plThin_L0 s d false x) (ok := fun l => l.length ≤ 20) (fin := plThin_L1 s (faultN s) 1000000 0) (fun d k l hl => ?_) (fun d => by rw [plThin_L0, if_neg (Int.lt_irrefl _), rFault_eq hR, Option.bind_some]) (by omega) fun _ => ?_
 ·have hk := (List.getElem?_eq_some_iff.1 hl).1
  rw [plThin_L0, if_pos (by omega), idx_at hl, Option.bind_some]
  constructor
  ·intro h; rw [if_neg (by omega), gd_pos (fI (by omega))]
  ·intro h; rw [if_pos (by omega)]
 ·by_cases hf : faultN s = 0
  ·have hv := fault_zero.1 hf
   refine (Ev.loopE (l := s.Fields) (F := plThin_L1 s (faultN s)) (ok := fun f => manyN f ≤ 200) (fin := some true) (P := True) (fun d k f hg => ?_) (fun d => by rw [plThin_L1, if_neg (Int.lt_irrefl _)]) (by omega) fun _ => Ev.tt trivial).imp ⟨fun h _ => h.1, fun h => ⟨h hf, trivial⟩⟩
   have hk := (List.getElem?_eq_some_iff.1 hg).1
   rw [plThin_L1, if_pos (by omega), if_neg (by rw [hf]; simp), idx_at hg, Option.bind_some, rMany_eq (hv.flds f (List.mem_of_getElem? hg)) (not_many hv.many).1, Option.bind_some]
   constructor
   ·intro h; rw [if_neg (by omega), gd_pos (fI (by omega))]
   ·intro h; rw [if_pos (by omega)]
  ·refine (Ev.loopE (l := s.Fields) (F := plThin_L1 s (faultN s)) (ok := fun _ => True) (fin := some true) (P := True) (fun d k f hg => ?_) (fun d => by rw [plThin_L1, if_neg (Int.lt_irrefl _)]) (by omega) fun _ => Ev.tt trivial).imp ⟨fun _ h => absurd h hf, fun _ => ⟨fun _ _ => trivial, trivial⟩⟩
   have hk := (List.getElem?_eq_some_iff.1 hg).1
   rw [plThin_L1, if_pos (by omega), if_pos (by rw [decide_eq_false hf]; rfl), gd_pos (fI (by omega))]
   exact ⟨fun _ => rfl, fun h => absurd trivial h⟩
theorem lSeason_eq {s : Ssn} (h : ThinN s) : plSeason s = some s := by
 obtain ⟨h1, h2, h3, h4, _⟩ := h
 have k1 := loopApp0 (l := s.Rules) (F := fun d acc x => plSeason_L0 s d s.Last acc [] [] x) (fun l : List Int => l) (fun acc => plSeason_L1 s acc 1000000 s.Last [] [] 0) (fun d k acc a ha hac => by
  have hk := (List.getElem?_eq_some_iff.1 ha).1
  have := h4 a (List.mem_of_getElem? ha)
  show plSeason_L0 s (d + 1) _ _ _ _ _ = _
  rw [plSeason_L0, if_pos (by omega), idx_at ha, Option.bind_some]
  unfold plList
  rw [gd_pos (by simp only [List.length_nil]; omega), Option.bind_some, gd_pos (by omega), gd_pos (fI (by omega))]
  rfl) (fun d acc => by show plSeason_L0 s (d + 1) _ _ _ _ _ = _; rw [plSeason_L0, if_neg (Int.lt_irrefl _)]) (d := 1000000) (by omega)
 have k2 := loopApp0 (l := s.Fields) (F := fun d acc x => plSeason_L1 s s.Rules d s.Last acc [] x) (fun f : Fld => f) (fun acc => plSeason_L2 s s.Rules acc 1000000 s.Last [] 0) (fun d k acc a ha hac => by
  have hk := (List.getElem?_eq_some_iff.1 ha).1
  show plSeason_L1 s _ (d + 1) _ _ _ _ = _
  rw [plSeason_L1, if_pos (by omega), idx_at ha, Option.bind_some]
  unfold plTo
  rw [Option.bind_some, Option.bind_some, Option.bind_some, gd_pos (by omega), gd_pos (fI (by omega))]) (fun d acc => by show plSeason_L1 s _ (d + 1) _ _ _ _ = _; rw [plSeason_L1, if_neg (Int.lt_irrefl _)]) (d := 1000000) (by omega)
 have k3 := loopApp0 (l := s.Visits) (F := fun d acc x => plSeason_L2 s s.Rules s.Fields d s.Last acc x) (fun f : Vis => f) (fun acc => some ({ s with Visits := acc } : Ssn)) (fun d k acc a ha hac => by
  have hk := (List.getElem?_eq_some_iff.1 ha).1
  show plSeason_L2 s _ _ (d + 1) _ _ _ = _
  rw [plSeason_L2, if_pos (by omega), idx_at ha, Option.bind_some]
  unfold plTo
  rw [Option.bind_some, gd_pos (by omega), gd_pos (fI (by omega))]) (fun d acc => by show plSeason_L2 s _ _ (d + 1) _ _ _ = _; rw [plSeason_L2, if_neg (Int.lt_irrefl _)]) (d := 1000000) (by omega)
 unfold plSeason
 refine k1.trans ?_
 rw [List.map_id']
 refine k2.trans ?_
 rw [List.map_id']
 refine k3.trans ?_
 rw [List.map_id']
end
end Go.Proofs.Ytmlaphekbnanjaa

namespace Go.Proofs.Ytmlaphekbnanjaa
open _root_.Go.Proofs.Try
open Go.Abs
set_option maxRecDepth 100000
noncomputable section
def Inc (n fr : Nat) (T : List Int) : Prop := T.Pairwise (· < ·) ∧ ∀ v ∈ T, (fr : Int) ≤ v ∧ v < n
theorem Inc.cons {n fr : Nat} {x : Int} {T : List Int} : Inc n fr (x :: T) ↔ ((fr : Int) ≤ x ∧ x < n) ∧ Inc n (x + 1).toNat T := by
 unfold Inc
 rw [List.pairwise_cons]
 constructor
 ·rintro ⟨⟨h1, h2⟩, h3⟩
  have hx := h3 x (List.mem_cons_self ..)
  exact ⟨hx, h2, fun v hv => by have := h1 v hv; have := h3 v (List.mem_cons_of_mem _ hv); omega⟩
 ·rintro ⟨hx, h2, h3⟩
  refine ⟨⟨fun v hv => by have := h3 v hv; omega, h2⟩, fun v hv => ?_⟩
  rcases List.mem_cons.1 hv with rfl | hv
  ·exact hx
  ·have := h3 v hv; omega
end
end Go.Proofs.Ytmlaphekbnanjaa

namespace Go.Proofs.Ytmlaphekbnanjaa
open _root_.Go.Proofs.Try
open Go.Abs Go.Abs.Grow
set_option maxRecDepth 100000
noncomputable section
theorem wu {n : Nat} (h : n ≤ 64) : wrapZ .u64 (n : Int) = (n : Int) := wz (show (0 : Int) ≤ n ∧ (n : Int) < 18446744073709551616 by omega)
def PL (s : Ssn) (S : Nat → Bool) : Prop := ∀ k, FieldOk s k → ∃ t, IsT (fldAt s k) t ∧ ∀ j, j < s.Visits.length → S j = false → SB s k t j = true
theorem PL.congr {s : Ssn} {S S' : Nat → Bool} (h : ∀ j, j < s.Visits.length → S j = S' j) : PL s S ↔ PL s S' := by
 unfold PL
 refine forall_congr' fun k => forall_congr' fun _ => exists_congr fun t => and_congr Iff.rfl ?_
 exact ⟨fun f j hj hs => f j hj (by rw [h j hj]; exact hs), fun f j hj hs => f j hj (by rw [← h j hj]; exact hs)⟩
def kpF : List Vis → Nat → (Nat → Bool) → List Vis
 | [], _, _ => []
 | v :: V, i, S => if S i = true then v :: kpF V (i + 1) S else kpF V (i + 1) S
theorem mem_kpF {S : Nat → Bool} {v : Vis} : ∀ (V : List Vis) (i : Nat), v ∈ kpF V i S ↔ ∃ j, V[j]? = some v ∧ S (i + j) = true
 | [], i => by simp [kpF]
 | a :: V, i => by
  have ih := mem_kpF (S := S) (v := v) V (i + 1)
  have e : (∃ j, (a :: V)[j]? = some v ∧ S (i + j) = true) ↔ (a = v ∧ S i = true) ∨ ∃ j, V[j]? = some v ∧ S (i + 1 + j) = true := by
   constructor
   ·rintro ⟨j, h1, h2⟩
    cases j with
    | zero => exact .inl ⟨by simpa using h1, h2⟩
    | succ j => exact .inr ⟨j, by simpa using h1, by rw [show i + 1 + j = i + (j + 1) by omega]; exact h2⟩
   ·rintro (⟨h1, h2⟩ | ⟨j, h1, h2⟩)
    ·exact ⟨0, by simpa using h1, h2⟩
    ·exact ⟨j + 1, by simpa using h1, by rw [show i + (j + 1) = i + 1 + j by omega]; exact h2⟩
  rw [e]
  unfold kpF
  by_cases hs : S i = true
  ·rw [if_pos hs, List.mem_cons, ih]
   exact or_congr ⟨fun h => ⟨h.symm, hs⟩, fun h => h.1.symm⟩ Iff.rfl
  ·rw [if_neg hs, ih]
   exact ⟨.inr, fun h => h.elim (fun h => absurd h.2 hs) id⟩
theorem kpF_len {S : Nat → Bool} : ∀ (V : List Vis) (i : Nat), (kpF V i S).length ≤ V.length
 | [], _ => Nat.le_refl _
 | a :: V, i => by
  have := kpF_len (S := S) V (i + 1)
  unfold kpF
  split <;> simp only [List.length_cons] <;> omega
open Classical in
theorem ht_kpF {s : Ssn} {S : Nat → Bool} : HT s (kpF s.Visits 0 S) ↔ PL s fun j => !S j := by
 unfold HT HTf TR PL
 refine forall_congr' fun k => forall_congr' fun _ => exists_congr fun t => and_congr Iff.rfl ?_
 unfold okV SB
 constructor
 ·intro h j hj hs
  rw [decide_eq_true_eq]
  intro v hv hvk
  exact h v ((mem_kpF _ _).2 ⟨j, hv, by rw [Nat.zero_add]; simpa using hs⟩) hvk
 ·intro h v hv hvk
  obtain ⟨j, h1, h2⟩ := (mem_kpF _ _).1 hv
  rw [Nat.zero_add] at h2
  have := h j (List.getElem?_eq_some_iff.1 h1).1 (by show (!S j) = false; rw [h2]; rfl)
  rw [decide_eq_true_eq] at this
  exact this v h1 hvk
end
end Go.Proofs.Ytmlaphekbnanjaa

namespace Go.Proofs.Ytmlaphekbnanjaa
open _root_.Go.Proofs.Try
open Go.Abs Go.Abs.Grow
set_option maxRecDepth 100000
noncomputable section
theorem loopFirst {β : Type} {n : Nat} {F : Nat → Int → Option β} {ok : Nat → Prop} {res : Nat → Option β} {fin : Option β} (hstep : ∀ d k, k < n → (ok k → F (d + 1) (k : Int) = F d ((k : Int) + 1)) ∧ (¬ ok k → F (d + 1) (k : Int) = res k)) (hend : ∀ d, F (d + 1) (n : Int) = fin) :
  ∀ (d k : Nat), k ≤ n → n - k < d → (∃ j, k ≤ j ∧ j < n ∧ ¬ ok j ∧ (∀ i, k ≤ i → i < j → ok i) ∧ F d (k : Int) = res j) ∨ ((∀ j, k ≤ j → j < n → ok j) ∧ F d (k : Int) = fin)
 | 0, k, _, h => by omega
 | d + 1, k, hk, hd => by
  by_cases hkn : k = n
  ·subst hkn
   exact .inr ⟨fun j h1 h2 => by omega, hend d⟩
  ·by_cases ho : ok k
   ·rw [(hstep d k (by omega)).1 ho, show (k : Int) + 1 = ((k + 1 : Nat) : Int) by omega]
    have hor : ∀ i, k ≤ i → (k + 1 ≤ i → ok i) → ok i := fun i h1 h2 => by
     rcases Nat.eq_or_lt_of_le h1 with h3 | h3
     ·subst h3; exact ho
     ·exact h2 h3
    rcases loopFirst hstep hend d (k + 1) (by omega) (by omega) with ⟨j, q1, q2, q3, q4, q5⟩ | ⟨q1, q2⟩
    ·exact .inl ⟨j, by omega, q2, q3, fun i h1 h2 => hor i h1 fun h3 => q4 i h3 h2, q5⟩
    ·exact .inr ⟨fun j h1 h2 => hor j h1 fun h3 => q1 j h3 h2, q2⟩
   ·exact .inl ⟨k, Nat.le_refl _, by omega, ho, fun i h1 h2 => by omega, (hstep d k (by omega)).2 ho⟩
def FP (s : Ssn) (j : Nat) : Prop := HT s (s.Visits.take (j + 1))
theorem kp_take {S : Nat → Bool} : ∀ (V : List Vis) (i n : Nat), (∀ j, S j = decide (j < i + n)) → kpF V i S = V.take n
 | [], _, _, _ => by simp [kpF]
 | v :: V, i, n, h => by
  rw [kpF]
  cases n with
  | zero =>
   rw [if_neg (by rw [h]; simp), List.take_zero]
   have : ∀ (V : List Vis) (i' : Nat), i ≤ i' → kpF V i' S = [] := by
    intro V
    induction V with
    | nil => intro i' _; rfl
    | cons a V ih => intro i' hi; rw [kpF, if_neg (by rw [h]; simp; omega)]; exact ih (i' + 1) (by omega)
   exact this V (i + 1) (by omega)
  | succ n =>
   rw [if_pos (by rw [h]; simp), List.take_succ_cons, kp_take V (i + 1) n fun j => by rw [h]; exact decide_eq_decide.2 (by omega)]
theorem FP_iff {s : Ssn} {j : Nat} : FP s j ↔ PL s fun i => !decide (i < j + 1) := by
 unfold FP
 rw [← kp_take (S := fun i => decide (i < j + 1)) s.Visits 0 (j + 1) fun i => by rw [Nat.zero_add], ht_kpF]
theorem First_eq {s : Ssn} (h : VS s) : (∃ j, j < s.Visits.length ∧ ¬ FP s j ∧ (∀ i, i < j → FP s i) ∧ pFirst s = some ((j : Int), 0)) ∨ ((∀ j, j < s.Visits.length → FP s j) ∧ pFirst s = some (0, 7)) := by
 obtain ⟨m, h1, h2⟩ := open_eq h
 have hw := WOk.of h h2
 obtain ⟨_, _, _, h4⟩ := not_many h.many
 have e : pFirst s = pFirst_L0 s ⟨s, m⟩ (s.Visits.length + 1) 0 := by
  unfold pFirst
  rw [check_eq, fault_zero.2 h, Option.bind_some, if_pos rfl, h1, Option.bind_some]
 have key := loopFirst (n := s.Visits.length) (F := pFirst_L0 s ⟨s, m⟩) (ok := FP s) (res := fun j => some ((j : Int), 0)) (fin := some (0, 7)) (fun d k hk => by
  rw [pFirst_L0, if_pos (by omega), gd_pos (fI (by omega)), gd_pos (by omega), show Int.toNat ((k : Int) + 1) = k + 1 by omega, show Int.toNat (0 : Int) = 0 from rfl, List.drop_zero]
  obtain ⟨W', w1, w2⟩ := hw.wth (V' := s.Visits.take (k + 1)) (fun v hv => h.vis v (List.mem_of_mem_take hv)) (by rw [List.length_take]; omega)
  rw [w1, Option.bind_some]
  exact (hasTruth_ev w2).step (by rw [if_pos rfl, gd_pos (fI (by omega))]) (by rw [if_neg (by simp)])) (fun d => by rw [pFirst_L0, if_neg (Int.lt_irrefl _)]) (s.Visits.length + 1) 0 (Nat.zero_le _) (by omega)
 rw [e]
 rcases key with ⟨j, _, q2, q3, q4, q5⟩ | ⟨q1, q2⟩
 ·exact .inl ⟨j, q2, q3, fun i hi => q4 i (Nat.zero_le _) hi, q5⟩
 ·exact .inr ⟨fun j hj => q1 j (Nat.zero_le _) hj, q2⟩
end
end Go.Proofs.Ytmlaphekbnanjaa

namespace Go.Proofs.Ytmlaphekbnanjaa
open _root_.Go.Proofs.Try
open Go.Abs Go.Abs.Grow
set_option maxRecDepth 100000
noncomputable section
theorem ready_ev {s : Ssn} (hR : OkS s) : Ev (plReady s) (ThinN s ∧ VS s) := by
 unfold plReady
 refine Ev.and (thin_ev hR) fun _ => ?_
 rw [rFault_eq hR, Option.bind_some]
 exact Ev.dec fault_zero
def wV (s : Ssn) (V : List Vis) : Ssn := { s with Visits := V }
theorem some_go {s : Ssn} (hn : s.Visits.length ≤ 6) {b : Nat} (hb : b < 65536) : ∀ (d i : Nat) (acc : List Vis), i ≤ s.Visits.length → s.Visits.length - i < d → acc.length ≤ i →
  plSome_L0 s (b : Int) d s.Last acc (i : Int) = some (wV s (acc ++ kpF (s.Visits.drop i) i fun j => b.testBit j))
 | 0, i, _, _, h, _ => by omega
 | d + 1, i, acc, hi, hd, ha => by
  unfold plSome_L0
  by_cases hin : i = s.Visits.length
  ·rw [if_neg (by omega), hin, List.drop_length]
   unfold kpF wV
   rw [List.append_nil]
  have hlt : i < s.Visits.length := by omega
  have hg := List.getElem?_eq_getElem hlt
  rw [List.drop_eq_getElem_cons hlt]
  generalize s.Visits[i] = v at hg
  have hle : b / 2 ^ i ≤ b := Nat.div_le_self _ _
  have hbit : b.testBit i = decide (b / 2 ^ i % 2 = 1) := Nat.testBit_eq_decide_div_mod_eq ..
  have hq : (b : Int) / 2 ^ (Int.toNat (i : Int)) = ((b / 2 ^ i : Nat) : Int) := by rw [Int.toNat_natCast]; simp
  rw [if_pos (by omega), gd_pos (by omega), wu (show i ≤ 64 by omega), gd_pos (by omega), gd_pos (by omega), hq]
  clear hq
  generalize b / 2 ^ i = q at *
  rw [gd_pos (fI (by omega)), gd_pos (by omega), gd_pos (by omega), gd_pos (fI (by omega)), kpF]
  by_cases h1 : q % 2 = 1
  ·rw [if_pos (by omega), idx_at hg, Option.bind_some, gd_pos (by omega), gd_pos (fI (by omega)), show (i : Int) + 1 = ((i + 1 : Nat) : Int) by omega, some_go hn hb d (i + 1) (acc ++ [v]) (by omega) (by omega) (by simp; omega), if_pos (by rw [hbit, decide_eq_true h1]), List.append_assoc]
   rfl
  ·rw [if_neg (by omega), gd_pos (fI (by omega)), show (i : Int) + 1 = ((i + 1 : Nat) : Int) by omega, some_go hn hb d (i + 1) acc (by omega) (by omega) (by omega), if_neg (by rw [hbit, decide_eq_false h1]; simp)]
theorem some_eq {s : Ssn} (hn : s.Visits.length ≤ 6) {b : Nat} (hb : b < 65536) : plSome s (b : Int) = some (wV s (kpF s.Visits 0 fun j => b.testBit j)) := by
 have := some_go hn hb 1000000 0 [] (Nat.zero_le _) (by omega) (Nat.le_refl _)
 rw [List.drop_zero, List.nil_append] at this
 exact this
theorem wV_vs {s : Ssn} (h : VS s) {V : List Vis} (hv : ∀ v ∈ V, VV s v) (hn : V.length ≤ 6) : VS (wV s V) := by
 refine ⟨⟨h.last, h.rne, h.fne, h.rules, fun f hf => ?_, hv⟩, ?_, h.few⟩
 ·have := h.flds f hf
  exact ⟨this.crp, this.wk, this.dm, this.old⟩
 ·have := not_many h.many
  unfold ManyS wV
  dsimp only
  omega
theorem wV_thin {s : Ssn} (h : VS s) (ht : ThinN s) {V : List Vis} (hn : V.length ≤ 6) : ThinN (wV s V) :=
 ⟨ht.1, ht.2.1, by show V.length ≤ 9; omega, ht.2.2.2.1, fun _ => ht.2.2.2.2 (fault_zero.2 h)⟩
theorem wV_HT {s : Ssn} {V V' : List Vis} : HT (wV s V) V' ↔ HT s V' := Iff.rfl
theorem kp_ok {s : Ssn} (h : VS s) {S : Nat → Bool} : (∀ v ∈ kpF s.Visits 0 S, VV s v) ∧ (kpF s.Visits 0 S).length ≤ 6 := by
 refine ⟨fun v hv => ?_, Nat.le_trans (kpF_len _ _) (not_many h.many).2.2.2⟩
 obtain ⟨j, h1, _⟩ := (mem_kpF _ _).1 hv
 exact h.vis v (List.mem_of_getElem? h1)
open Classical in
theorem bounds_some {s : Ssn} (h : VS s) {S : Nat → Bool} : ∃ l, pBounds (wV s (kpF s.Visits 0 S)) = some (l, if PL s (fun j => !S j) then 0 else 11) := by
 obtain ⟨k1, k2⟩ := kp_ok h (S := S)
 have hv := wV_vs h k1 k2
 by_cases hT : PL s (fun j => !S j)
 ·obtain ⟨l, h1, _⟩ := Bounds_ok hv (wV_HT.2 (ht_kpF.2 hT))
  rw [if_pos hT]
  exact ⟨l, h1⟩
 ·rw [if_neg hT]
  exact ⟨_, Bounds_no hv fun q => hT (ht_kpF.1 (wV_HT.1 q))⟩
end
end Go.Proofs.Ytmlaphekbnanjaa

namespace Go.Proofs.Ytmlaphekbnanjaa
open _root_.Go.Proofs.Try
open Go.Abs Go.Abs.Grow
set_option maxRecDepth 100000
noncomputable section
theorem pow_cast (j : Nat) (c : Int) : c * 2 ^ (Int.toNat (j : Int)) = c * ((2 ^ j : Nat) : Int) := by rw [Int.toNat_natCast, Int.natCast_pow]; rfl
theorem first_isT {s : Ssn} (h : VS s) {k : Int} (hk : FieldOk s k) : IsT (fldAt s k) ⟨(fldAt s k).Week.Lo, (fldAt s k).Damage.Lo, (fldAt s k).Old.Lo⟩ := by
 have hf := h.vf hk
 have a := hf.wk; have b := hf.dm; have c := hf.old
 unfold Wi at a b c
 unfold IsT inR
 dsimp only
 omega
open Classical in
theorem bounds_first {s : Ssn} (h : VS s) (ht : ThinN s) {n : Nat} (hn : n ≤ s.Visits.length) : ∃ l, (plSome s ((2 ^ n - 1 : Nat) : Int)).bind (fun r => (plSeason r).bind fun r => pBounds r) = some (l, if PL s (fun i => !decide (i < n)) then 0 else 11) := by
 obtain ⟨_, _, _, h4⟩ := not_many h.many
 have hp := pow6 (show n ≤ 6 by omega)
 obtain ⟨l, hl⟩ := bounds_some h (S := fun j => (2 ^ n - 1).testBit j)
 refine ⟨l, ?_⟩
 rw [some_eq h4 (by omega), Option.bind_some, lSeason_eq (wV_thin h ht (kp_ok h).2), Option.bind_some, hl]
 congr 2
 have e : PL s (fun j => !(2 ^ n - 1).testBit j) ↔ PL s (fun i => !decide (i < n)) := PL.congr fun j _ => by rw [Nat.testBit_two_pow_sub_one]
 by_cases hp : PL s (fun i => !decide (i < n))
 ·rw [if_pos hp, if_pos (e.2 hp)]
 ·rw [if_neg hp, if_neg fun q => hp (e.1 q)]
theorem PL_before {s : Ssn} (h : VS s) {j : Nat} (hb : ∀ i, i < j → FP s i) : PL s (fun i => !decide (i < j)) := by
 cases j with
 | zero => exact fun k hk => ⟨_, first_isT h hk, fun i _ hi => by simp at hi⟩
 | succ j => exact FP_iff.1 (hb j (by omega))
theorem m_GrowthFirst {s : Ssn} (hs : ok_Ssn s) : pGrowthFirst s = some true := by
 have hR := okS hs
 unfold pGrowthFirst
 refine (ready_ev hR).pick (fun ⟨ht, h⟩ => ?_) fun _ => by rw [if_neg (by simp), aw, Option.bind_some]
 obtain ⟨_, _, _, h4⟩ := not_many h.many
 rw [if_pos rfl, lSeason_eq ht, Option.bind_some]
 rcases First_eq h with ⟨j, hj, h1, h2, h3⟩ | ⟨h1, h2⟩
 ·rw [h3, Option.bind_some]
  dsimp only
  have hp := pow6 (show j ≤ 6 by omega)
  have hp1 := pow6 (show j + 1 ≤ 6 by omega)
  have hp0 := Nat.two_pow_pos j
  have hw : wrapZ .u64 (j : Int) = (j : Int) := wu (show j ≤ 64 by omega)
  have e1 : (1 : Int) * 2 ^ (Int.toNat (j : Int)) - 1 = ((2 ^ j - 1 : Nat) : Int) := by rw [pow_cast]; omega
  have e2 : (2 : Int) * 2 ^ (Int.toNat (j : Int)) - 1 = ((2 ^ (j + 1) - 1 : Nat) : Int) := by rw [pow_cast, Nat.pow_succ]; omega
  have e1' : (1 : Int) * 2 ^ (Int.toNat (j : Int)) = ((2 ^ j : Nat) : Int) := by rw [pow_cast]; omega
  have e2' : (2 : Int) * 2 ^ (Int.toNat (j : Int)) = ((2 ^ (j + 1) : Nat) : Int) := by rw [pow_cast, Nat.pow_succ]; omega
  obtain ⟨l1, q1⟩ := bounds_first h ht (show j ≤ s.Visits.length by omega)
  obtain ⟨l2, q2⟩ := bounds_first h ht (show j + 1 ≤ s.Visits.length by omega)
  rw [if_pos (PL_before h h2)] at q1
  rw [if_neg fun q => h1 (FP_iff.2 q)] at q2
  obtain ⟨r1, a1, q1⟩ := bsome q1
  obtain ⟨r2, a2, q1⟩ := bsome q1
  obtain ⟨r3, a3, q2⟩ := bsome q2
  obtain ⟨r4, a4, q2⟩ := bsome q2
  have hin := In_ev (n := (j : Int)) (lo := 0) (hi := (s.Visits.length : Int) - 1)
  rw [if_pos rfl, gd_pos (fI (by omega)), hin.some_of (by omega), Option.bind_some, if_pos rfl, hw, gd_pos (by omega), gd_pos (by omega), gd_pos (by omega), gd_pos (by rw [e1']; exact fI (by omega)), gd_pos (by rw [e1]; exact fI (by omega)), e1, a1, Option.bind_some, a2, Option.bind_some, q1, Option.bind_some,
   gd_pos (by omega), gd_pos (by omega), gd_pos (by omega), gd_pos (by rw [e2']; exact fI (by omega)), gd_pos (by rw [e2]; exact fI (by omega)), e2, a3, Option.bind_some, a4, Option.bind_some, q2, Option.bind_some]
  simp [aw]
 ·rw [h2, Option.bind_some]
  dsimp only
  have hT : HT s s.Visits := by
   have : PL s (fun i => !decide (i < s.Visits.length)) := PL_before h fun i hi => h1 i hi
   have h5 := (ht_kpF (s := s) (S := fun i => decide (i < s.Visits.length))).2 this
   have e : kpF s.Visits 0 (fun i => decide (i < s.Visits.length)) = s.Visits := by
    rw [kp_take s.Visits 0 s.Visits.length fun j => by simp, List.take_length]
   rw [e] at h5; exact h5
  obtain ⟨l, q, _⟩ := Bounds_ok h hT
  rw [if_neg (by omega), Option.bind_some, q, Option.bind_some]
  simp [aw]
end
end Go.Proofs.Ytmlaphekbnanjaa

namespace Go.Proofs.Ytmlaphekbnanjaa
open _root_.Go.Proofs.Try
open Go.ChangeShapes Go.WideShapes Go.ChangeAt Go.RowKit Go.Abs
set_option maxRecDepth 100000
theorem op3 : Opens prog 3 Int (fitsP .i64) := opens_int (by kernel_rfl)
theorem op39 : Opens prog 39 (List Int) (fun l => l.length ≤ maxLen ∧ ∀ a0 ∈ l, fitsP .i64 a0) := opens_slice (by kernel_rfl) (by kernel_rfl) op3
theorem op27 : Opens prog 27 (List (List Int)) (fun l => l.length ≤ maxLen ∧ ∀ a0 ∈ l, a0.length ≤ maxLen ∧ ∀ a1 ∈ a0, fitsP .i64 a1) := opens_slice (by kernel_rfl) (by kernel_rfl) op39
theorem op60 : Opens prog 60 Rg ok_Rg := opens_struct (fs := [(3, 0), (3, 1)]) (by kernel_rfl) (by kernel_rfl) (opensFs_cons (α := Int) (ok := fitsP .i64) (k := 1) op3 (by kernel_rfl) rfl (opensFs_cons (α := Int) (ok := fitsP .i64) (k := 1) op3 (by kernel_rfl) rfl opensFs_nil)) (by kernel_rfl) fun m vs h => by
 obtain ⟨a0, c0, r0, m0, h0, p0, k0, s0, ⟨a1, c1, r1, m1, h1, p1, k1, s1, rfl⟩⟩ := h
 have p0 : c0 = [.int .i64 a0] := p0; subst p0
 have p1 : c1 = [.int .i64 a1] := p1; subst p1
 subst h1 h0
 exact ⟨⟨a0, a1⟩, rfl, ⟨k0, k1⟩⟩
theorem op70 : Opens prog 70 Fld ok_Fld := opens_struct (fs := [(3, 0), (60, 1), (60, 3), (60, 5)]) (by kernel_rfl) (by kernel_rfl) (opensFs_cons (α := Int) (ok := fitsP .i64) (k := 1) op3 (by kernel_rfl) rfl (opensFs_cons (α := Rg) (ok := ok_Rg) (k := 2) op60 (by kernel_rfl) rfl (opensFs_cons (α := Rg) (ok := ok_Rg) (k := 2) op60 (by kernel_rfl) rfl (opensFs_cons (α := Rg) (ok := ok_Rg) (k := 2) op60 (by kernel_rfl) rfl opensFs_nil)))) (by kernel_rfl) fun m vs h => by
 obtain ⟨a0, c0, r0, m0, h0, p0, k0, s0, ⟨a1, c1, r1, m1, h1, p1, k1, s1, ⟨a2, c2, r2, m2, h2, p2, k2, s2, ⟨a3, c3, r3, m3, h3, p3, k3, s3, rfl⟩⟩⟩⟩ := h
 have p0 : c0 = [.int .i64 a0] := p0; subst p0
 have p1 : c1 = [.int .i64 a1.Lo, .int .i64 a1.Hi] := p1; subst p1
 have p2 : c2 = [.int .i64 a2.Lo, .int .i64 a2.Hi] := p2; subst p2
 have p3 : c3 = [.int .i64 a3.Lo, .int .i64 a3.Hi] := p3; subst p3
 subst h3 h2 h1 h0
 exact ⟨⟨a0, a1, a2, a3⟩, rfl, ⟨k0, k1, k2, k3⟩⟩
theorem op56 : Opens prog 56 (List Fld) (fun l => l.length ≤ maxLen ∧ ∀ a0 ∈ l, ok_Fld a0) := opens_slice (by kernel_rfl) (by kernel_rfl) op70
theorem op62 : Opens prog 62 Vis ok_Vis := opens_struct (fs := [(3, 0), (3, 1), (60, 2)]) (by kernel_rfl) (by kernel_rfl) (opensFs_cons (α := Int) (ok := fitsP .i64) (k := 1) op3 (by kernel_rfl) rfl (opensFs_cons (α := Int) (ok := fitsP .i64) (k := 1) op3 (by kernel_rfl) rfl (opensFs_cons (α := Rg) (ok := ok_Rg) (k := 2) op60 (by kernel_rfl) rfl opensFs_nil))) (by kernel_rfl) fun m vs h => by
 obtain ⟨a0, c0, r0, m0, h0, p0, k0, s0, ⟨a1, c1, r1, m1, h1, p1, k1, s1, ⟨a2, c2, r2, m2, h2, p2, k2, s2, rfl⟩⟩⟩ := h
 have p0 : c0 = [.int .i64 a0] := p0; subst p0
 have p1 : c1 = [.int .i64 a1] := p1; subst p1
 have p2 : c2 = [.int .i64 a2.Lo, .int .i64 a2.Hi] := p2; subst p2
 subst h2 h1 h0
 exact ⟨⟨a0, a1, a2⟩, rfl, ⟨k0, k1, k2⟩⟩
theorem op57 : Opens prog 57 (List Vis) (fun l => l.length ≤ maxLen ∧ ∀ a0 ∈ l, ok_Vis a0) := opens_slice (by kernel_rfl) (by kernel_rfl) op62
theorem op59 : Opens prog 59 Ssn ok_Ssn := opens_struct (fs := [(3, 0), (27, 1), (56, 2), (57, 3)]) (by kernel_rfl) (by kernel_rfl) (opensFs_cons (α := Int) (ok := fitsP .i64) (k := 1) op3 (by kernel_rfl) rfl (opensFs_cons (α := List (List Int)) (ok := (fun l => l.length ≤ maxLen ∧ ∀ a0 ∈ l, a0.length ≤ maxLen ∧ ∀ a1 ∈ a0, fitsP .i64 a1)) (k := 1) op27 (by kernel_rfl) rfl (opensFs_cons (α := List Fld) (ok := (fun l => l.length ≤ maxLen ∧ ∀ a0 ∈ l, ok_Fld a0)) (k := 1) op56 (by kernel_rfl) rfl (opensFs_cons (α := List Vis) (ok := (fun l => l.length ≤ maxLen ∧ ∀ a0 ∈ l, ok_Vis a0)) (k := 1) op57 (by kernel_rfl) rfl opensFs_nil)))) (by kernel_rfl) fun m vs h => by
 obtain ⟨a0, c0, r0, m0, h0, p0, k0, s0, ⟨a1, c1, r1, m1, h1, p1, k1, s1, ⟨a2, c2, r2, m2, h2, p2, k2, s2, ⟨a3, c3, r3, m3, h3, p3, k3, s3, rfl⟩⟩⟩⟩ := h
 have p0 : c0 = [.int .i64 a0] := p0; subst p0
 obtain ⟨d1, rfl, p1⟩ := p1
 obtain ⟨d2, rfl, p2⟩ := p2
 obtain ⟨d3, rfl, p3⟩ := p3
 subst h3 h2 h1 h0
 exact ⟨⟨a0, a1, a2, a3⟩, ⟨_, _, _, rfl, p1, p2, p3⟩, ⟨k0, k1, k2, k3⟩⟩
theorem laid : laidOutB prog = true := by kernel_rfl
theorem ownNone : ownKnob prog.godebug = none := by kernel_rfl
theorem GrowthFirst_lifted (os : Os) (started : os.Started) (H : Type) (enc : TypeId × Value → H) :
    ReturnsInHanded {} Try.checked os 7 .any (Rows.growthFirstSpec.pre6 enc Try.prog Try.f7 Rows.growthFirstRow.domain false) (Rows.growthFirstSpec.post enc Try.prog Try.f7 false true false false) := by
  refine returnsInHanded_of_change (C := Try.checked) ownNone started (by kernel_rfl) Try.func7
    (ChangeSpec.witness6 (enc := enc) (C := Try.checked) false ⟨#[], #[.agg #[.int .i64 0, .slice none 0 0, .slice none 0 0, .slice none 0 0]], []⟩ 8 (by kernel_rfl) (by kernel_rfl) (by kernel_rfl) (by kernel_rfl)) ?_
  intro W base args ds gs before hval0 hW hcnd _
  have hval : ∀ (j : Nat) t v, Try.f7.params[j]? = some t → args[j]? = some v → Value.okWide Try.prog W .any base t v := hval0
  have hW' := hW
  obtain ⟨p, q, hA0, hV, rfl, hfz, hnd⟩ := hW
  have hA : DataW.TrodAll enc Try.prog W 0 (fun _ => true) true Try.f7.params.toList args.toList ds p := hA0
  rw [Try.params7] at hA hval
  obtain ⟨v0, d0, rfl, rfl, h0⟩ := trodAll_one hA
  obtain ⟨rfl, rfl⟩ := trodVars_none hV
  have hlt : ∀ x ∈ p, x.block < W.heap.size := fun x hx => by simpa using hW'.lt x (by simpa using hx)
  obtain ⟨fu0, hf0⟩ := id h0
  clear hA0 hval0
  obtain ⟨e0, m0, w0, a_0, le0, sv0, lay0, cr0, rep0, ok0⟩ := op59 H enc W true _ _ _ hf0 _ _ (Lay.nil W)
  obtain ⟨c0_1, c0_2, c0_3, rfl, g0_1, g0_2, g0_3⟩ := rep0
  obtain ⟨cs0, hv0, cl0⟩ : ∃ cs, v0 = .agg cs ∧ v0.cells.toList = cs.toList := by
    have hl := cr0.length
    cases v0 with
    | agg cs => exact ⟨cs, rfl, rfl⟩
    | _ => exact absurd hl (by simp [Value.cells])
  subst hv0
  have hargs : All2 (VR e0) [.agg 4 [.int .i64 a_0.Last, c0_1, c0_2, c0_3]] [.agg cs0] := .cons ⟨cs0, rfl, cr0, rfl⟩ .nil
  refine (callsIn_wide.1 (call_of fits htab (s_GrowthFirst (s := a_0) lay0.pre g0_1 g0_2 g0_3 (m_GrowthFirst ok0) (Q := fun v _ => v = .c (.bool true)) fun _ _ => rfl) lay0.hr (args' := #[.agg cs0]) hargs 0)).mono fun en W' hp => ?_
  obtain ⟨v, v', e', m', rfl, hst, hvr, rfl⟩ := hp
  have hv' : v' = .bool true := hvr
  subst hv'
  have hbelow := lay0.below hst
  refine ⟨_, rfl, [d0], [], p, [], p, [], by simpa using hW', trodAll_mk1 (shut_bool Try.underlying4 _),
    trodAll_mk1 (Below.trod laid (by kernel_rfl) (of_decide_eq_true (by kernel_rfl)) h0 hbelow fun x hx => hlt x (by simp [hx])), rfl, lay0.kept hst _, fun hc => by cases hc⟩
theorem GrowthFirst_holds : Rows.GrowthFirstSaid :=
 OpenClaim.holds_of_wide 7 Try.f7 rfl rfl rfl rfl rfl rfl rfl ⟨rfl, rfl, rfl, rfl, rfl⟩ rfl rfl rfl rfl rfl (by kernel_rfl) Try.func7 (by kernel_rfl)
  (of_decide_eq_true (by kernel_rfl)) (by unfold Func.isWrapper; first | (rw [if_pos (by decide +kernel)]; kernel_rfl) | (rw [if_neg (by decide +kernel)]; exact ⟨rfl, rfl⟩))
  (fun os started H enc _ => GrowthFirst_lifted os started H enc)
end Go.Proofs.Ytmlaphekbnanjaa

