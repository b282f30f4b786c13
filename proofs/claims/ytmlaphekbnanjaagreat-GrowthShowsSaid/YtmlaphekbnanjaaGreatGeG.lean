/- An evaluator of the code of a program, its soundness, what calls ask, memory, and what functions of the program do. Condition: none; a lemma text of this claim. -/
import Derived.Test.YtmlaphekbnanjaaGreatGeF

namespace Go.Proofs.YtmlaphekbnanjaaGreat
theorem gdi {α : Type} {p A : Prop} {o : Option α} {r : α} (hp : Go.Abs.gd p o = some r) (h : p → o = some r → A) : p ∧ A := have ⟨a, b⟩ := Go.Abs.gd_some hp; ⟨a, h a b⟩
end Go.Proofs.YtmlaphekbnanjaaGreat

namespace Go.Proofs.YtmlaphekbnanjaaGreat
open _root_.Go.Proofs.Tryz
open Go.Abs
set_option maxRecDepth 100000
noncomputable section
structure Rg where
 Lo : Int
 Hi : Int
def ok_Rg (a : Rg) : Prop := (fitsP .i64 a.Lo) ∧ (fitsP .i64 a.Hi)
instance : MK Rg := ⟨fun k => .agg 2 [.int .i64 k.Lo, .int .i64 k.Hi], fun k => fitsP .i64 k.Lo ∧ fitsP .i64 k.Hi ∧ True⟩
instance : MV Rg := ⟨fun k => .agg 2 [.int .i64 k.Lo, .int .i64 k.Hi]⟩
instance : Rp Rg := ⟨2, by omega, fun _ cs a => cs = [.int .i64 a.Lo, .int .i64 a.Hi], fun h => by rw [h]; rfl, fun h _ => h⟩
structure Fld where
 Crop : Int
 Week : Rg
 Damage : Rg
 Old : Rg
def ok_Fld (a : Fld) : Prop := (fitsP .i64 a.Crop) ∧ (ok_Rg a.Week) ∧ (ok_Rg a.Damage) ∧ (ok_Rg a.Old)
instance : MK Fld := ⟨fun k => .agg 7 [.int .i64 k.Crop, .int .i64 k.Week.Lo, .int .i64 k.Week.Hi, .int .i64 k.Damage.Lo, .int .i64 k.Damage.Hi, .int .i64 k.Old.Lo, .int .i64 k.Old.Hi], fun k => fitsP .i64 k.Crop ∧ fitsP .i64 k.Week.Lo ∧ fitsP .i64 k.Week.Hi ∧ fitsP .i64 k.Damage.Lo ∧ fitsP .i64 k.Damage.Hi ∧ fitsP .i64 k.Old.Lo ∧ fitsP .i64 k.Old.Hi ∧ True⟩
instance : MV Fld := ⟨fun k => .agg 7 [.int .i64 k.Crop, .int .i64 k.Week.Lo, .int .i64 k.Week.Hi, .int .i64 k.Damage.Lo, .int .i64 k.Damage.Hi, .int .i64 k.Old.Lo, .int .i64 k.Old.Hi]⟩
instance : Rp Fld := ⟨7, by omega, fun _ cs a => cs = [.int .i64 a.Crop, .int .i64 a.Week.Lo, .int .i64 a.Week.Hi, .int .i64 a.Damage.Lo, .int .i64 a.Damage.Hi, .int .i64 a.Old.Lo, .int .i64 a.Old.Hi], fun h => by rw [h]; rfl, fun h _ => h⟩
theorem rd_Fld {f : M} {x : C} {l : List Fld} (h : Sl f x l) {n : Nat} {a : Fld} (hi : l[n]? = some a) : ∃ _u : Unit, (∀ m, Sub f m → ldA m (slAt x (n * 7)) 7 = some [.int .i64 a.Crop, .int .i64 a.Week.Lo, .int .i64 a.Week.Hi, .int .i64 a.Damage.Lo, .int .i64 a.Damage.Hi, .int .i64 a.Old.Lo, .int .i64 a.Old.Hi] ∧ (∀ j c, ([.int .i64 a.Crop, .int .i64 a.Week.Lo, .int .i64 a.Week.Hi, .int .i64 a.Damage.Lo, .int .i64 a.Damage.Hi, .int .i64 a.Old.Lo, .int .i64 a.Old.Hi] : List C)[j]? = some c → ldC m (ptAdd (slAt x (n * 7)) j) = some c) ∧ ∀ j i, 0 < i → j + i ≤ 7 → ldA m (ptAdd (slAt x (n * 7)) j) i = some ((([.int .i64 a.Crop, .int .i64 a.Week.Lo, .int .i64 a.Week.Hi, .int .i64 a.Damage.Lo, .int .i64 a.Damage.Hi, .int .i64 a.Old.Lo, .int .i64 a.Old.Hi] : List C).drop j).take i)) := by
 obtain ⟨cs, q1, q2⟩ := h.rdP hi
 have q2 : cs = _ := q2
 subst q2
 exact ⟨(), q1⟩
structure Vis where
 Field : Int
 Week : Int
 Seen : Rg
def ok_Vis (a : Vis) : Prop := (fitsP .i64 a.Field) ∧ (fitsP .i64 a.Week) ∧ (ok_Rg a.Seen)
instance : MK Vis := ⟨fun k => .agg 4 [.int .i64 k.Field, .int .i64 k.Week, .int .i64 k.Seen.Lo, .int .i64 k.Seen.Hi], fun k => fitsP .i64 k.Field ∧ fitsP .i64 k.Week ∧ fitsP .i64 k.Seen.Lo ∧ fitsP .i64 k.Seen.Hi ∧ True⟩
instance : MV Vis := ⟨fun k => .agg 4 [.int .i64 k.Field, .int .i64 k.Week, .int .i64 k.Seen.Lo, .int .i64 k.Seen.Hi]⟩
instance : Rp Vis := ⟨4, by omega, fun _ cs a => cs = [.int .i64 a.Field, .int .i64 a.Week, .int .i64 a.Seen.Lo, .int .i64 a.Seen.Hi], fun h => by rw [h]; rfl, fun h _ => h⟩
theorem rd_Vis {f : M} {x : C} {l : List Vis} (h : Sl f x l) {n : Nat} {a : Vis} (hi : l[n]? = some a) : ∃ _u : Unit, (∀ m, Sub f m → ldA m (slAt x (n * 4)) 4 = some [.int .i64 a.Field, .int .i64 a.Week, .int .i64 a.Seen.Lo, .int .i64 a.Seen.Hi] ∧ (∀ j c, ([.int .i64 a.Field, .int .i64 a.Week, .int .i64 a.Seen.Lo, .int .i64 a.Seen.Hi] : List C)[j]? = some c → ldC m (ptAdd (slAt x (n * 4)) j) = some c) ∧ ∀ j i, 0 < i → j + i ≤ 4 → ldA m (ptAdd (slAt x (n * 4)) j) i = some ((([.int .i64 a.Field, .int .i64 a.Week, .int .i64 a.Seen.Lo, .int .i64 a.Seen.Hi] : List C).drop j).take i)) := by
 obtain ⟨cs, q1, q2⟩ := h.rdP hi
 have q2 : cs = _ := q2
 subst q2
 exact ⟨(), q1⟩
structure Ssn where
 Last : Int
 Rules : List (List Int)
 Fields : List Fld
 Visits : List Vis
def ok_Ssn (a : Ssn) : Prop := (fitsP .i64 a.Last) ∧ (a.Rules.length ≤ maxLen ∧ ∀ a0 ∈ a.Rules, a0.length ≤ maxLen ∧ ∀ a1 ∈ a0, fitsP .i64 a1) ∧ (a.Fields.length ≤ maxLen ∧ ∀ a0 ∈ a.Fields, ok_Fld a0) ∧ (a.Visits.length ≤ maxLen ∧ ∀ a0 ∈ a.Visits, ok_Vis a0)
instance : Rp Ssn := ⟨4, by omega, fun f cs a => ∃ c1 c2 c3 : C, cs = [.int .i64 a.Last, c1, c2, c3] ∧ Sl f c1 a.Rules ∧ Sl f c2 a.Fields ∧ Sl f c3 a.Visits, fun h => by obtain ⟨c1, c2, c3, h, _, _, _⟩ := h; rw [h]; rfl, fun h s => by obtain ⟨c1, c2, c3, h, h0, h1, h2⟩ := h; exact ⟨c1, c2, c3, h, h0.subv s, h1.subv s, h2.subv s⟩⟩
structure Trh where
 Week : Int
 Damage : Int
 Old : Int
instance : MK Trh := ⟨fun k => .agg 3 [.int .i64 k.Week, .int .i64 k.Damage, .int .i64 k.Old], fun k => fitsP .i64 k.Week ∧ fitsP .i64 k.Damage ∧ fitsP .i64 k.Old ∧ True⟩
instance : MV Trh := ⟨fun k => .agg 3 [.int .i64 k.Week, .int .i64 k.Damage, .int .i64 k.Old]⟩
instance : Rp Trh := ⟨3, by omega, fun _ cs a => cs = [.int .i64 a.Week, .int .i64 a.Damage, .int .i64 a.Old], fun h => by rw [h]; rfl, fun h _ => h⟩
theorem rd_Trh {f : M} {x : C} {l : List Trh} (h : Sl f x l) {n : Nat} {a : Trh} (hi : l[n]? = some a) : ∃ _u : Unit, (∀ m, Sub f m → ldA m (slAt x (n * 3)) 3 = some [.int .i64 a.Week, .int .i64 a.Damage, .int .i64 a.Old] ∧ (∀ j c, ([.int .i64 a.Week, .int .i64 a.Damage, .int .i64 a.Old] : List C)[j]? = some c → ldC m (ptAdd (slAt x (n * 3)) j) = some c) ∧ ∀ j i, 0 < i → j + i ≤ 3 → ldA m (ptAdd (slAt x (n * 3)) j) i = some ((([.int .i64 a.Week, .int .i64 a.Damage, .int .i64 a.Old] : List C).drop j).take i)) := by
 obtain ⟨cs, q1, q2⟩ := h.rdP hi
 have q2 : cs = _ := q2
 subst q2
 exact ⟨(), q1⟩
structure Bnd where
 Week : Rg
 Damage : Rg
 Old : Rg
 Harvest : Rg
instance : MK Bnd := ⟨fun k => .agg 8 [.int .i64 k.Week.Lo, .int .i64 k.Week.Hi, .int .i64 k.Damage.Lo, .int .i64 k.Damage.Hi, .int .i64 k.Old.Lo, .int .i64 k.Old.Hi, .int .i64 k.Harvest.Lo, .int .i64 k.Harvest.Hi], fun k => fitsP .i64 k.Week.Lo ∧ fitsP .i64 k.Week.Hi ∧ fitsP .i64 k.Damage.Lo ∧ fitsP .i64 k.Damage.Hi ∧ fitsP .i64 k.Old.Lo ∧ fitsP .i64 k.Old.Hi ∧ fitsP .i64 k.Harvest.Lo ∧ fitsP .i64 k.Harvest.Hi ∧ True⟩
instance : MV Bnd := ⟨fun k => .agg 8 [.int .i64 k.Week.Lo, .int .i64 k.Week.Hi, .int .i64 k.Damage.Lo, .int .i64 k.Damage.Hi, .int .i64 k.Old.Lo, .int .i64 k.Old.Hi, .int .i64 k.Harvest.Lo, .int .i64 k.Harvest.Hi]⟩
instance : Rp Bnd := ⟨8, by omega, fun _ cs a => cs = [.int .i64 a.Week.Lo, .int .i64 a.Week.Hi, .int .i64 a.Damage.Lo, .int .i64 a.Damage.Hi, .int .i64 a.Old.Lo, .int .i64 a.Old.Hi, .int .i64 a.Harvest.Lo, .int .i64 a.Harvest.Hi], fun h => by rw [h]; rfl, fun h _ => h⟩
structure Dm where
 d0 : Int
 d1 : Int
 d2 : Int
 d3 : Int
 d4 : Int
 d5 : Int
 d6 : Int
 d7 : Int
 d8 : Int
 d9 : Int
 d10 : Int
 d11 : Int
 d12 : Int
instance : MK Dm := ⟨fun k => .agg 13 [.int .i64 k.d0, .int .i64 k.d1, .int .i64 k.d2, .int .i64 k.d3, .int .i64 k.d4, .int .i64 k.d5, .int .i64 k.d6, .int .i64 k.d7, .int .i64 k.d8, .int .i64 k.d9, .int .i64 k.d10, .int .i64 k.d11, .int .i64 k.d12], fun k => fitsP .i64 k.d0 ∧ fitsP .i64 k.d1 ∧ fitsP .i64 k.d2 ∧ fitsP .i64 k.d3 ∧ fitsP .i64 k.d4 ∧ fitsP .i64 k.d5 ∧ fitsP .i64 k.d6 ∧ fitsP .i64 k.d7 ∧ fitsP .i64 k.d8 ∧ fitsP .i64 k.d9 ∧ fitsP .i64 k.d10 ∧ fitsP .i64 k.d11 ∧ fitsP .i64 k.d12 ∧ True⟩
instance : MV Dm := ⟨fun k => .agg 13 [.int .i64 k.d0, .int .i64 k.d1, .int .i64 k.d2, .int .i64 k.d3, .int .i64 k.d4, .int .i64 k.d5, .int .i64 k.d6, .int .i64 k.d7, .int .i64 k.d8, .int .i64 k.d9, .int .i64 k.d10, .int .i64 k.d11, .int .i64 k.d12]⟩
instance : Rp Dm := ⟨13, by omega, fun _ cs a => cs = [.int .i64 a.d0, .int .i64 a.d1, .int .i64 a.d2, .int .i64 a.d3, .int .i64 a.d4, .int .i64 a.d5, .int .i64 a.d6, .int .i64 a.d7, .int .i64 a.d8, .int .i64 a.d9, .int .i64 a.d10, .int .i64 a.d11, .int .i64 a.d12], fun h => by rw [h]; rfl, fun h _ => h⟩
structure Plt where
 t : Trh
 crop : Int
instance : MK Plt := ⟨fun k => .agg 4 [.int .i64 k.t.Week, .int .i64 k.t.Damage, .int .i64 k.t.Old, .int .i64 k.crop], fun k => fitsP .i64 k.t.Week ∧ fitsP .i64 k.t.Damage ∧ fitsP .i64 k.t.Old ∧ fitsP .i64 k.crop ∧ True⟩
instance : MV Plt := ⟨fun k => .agg 4 [.int .i64 k.t.Week, .int .i64 k.t.Damage, .int .i64 k.t.Old, .int .i64 k.crop]⟩
instance : Rp Plt := ⟨4, by omega, fun _ cs a => cs = [.int .i64 a.t.Week, .int .i64 a.t.Damage, .int .i64 a.t.Old, .int .i64 a.crop], fun h => by rw [h]; rfl, fun h _ => h⟩
structure Crs where
 t : Trh
 d : Dm
instance : MK Crs := ⟨fun k => .agg 16 [.int .i64 k.t.Week, .int .i64 k.t.Damage, .int .i64 k.t.Old, .int .i64 k.d.d0, .int .i64 k.d.d1, .int .i64 k.d.d2, .int .i64 k.d.d3, .int .i64 k.d.d4, .int .i64 k.d.d5, .int .i64 k.d.d6, .int .i64 k.d.d7, .int .i64 k.d.d8, .int .i64 k.d.d9, .int .i64 k.d.d10, .int .i64 k.d.d11, .int .i64 k.d.d12], fun k => fitsP .i64 k.t.Week ∧ fitsP .i64 k.t.Damage ∧ fitsP .i64 k.t.Old ∧ fitsP .i64 k.d.d0 ∧ fitsP .i64 k.d.d1 ∧ fitsP .i64 k.d.d2 ∧ fitsP .i64 k.d.d3 ∧ fitsP .i64 k.d.d4 ∧ fitsP .i64 k.d.d5 ∧ fitsP .i64 k.d.d6 ∧ fitsP .i64 k.d.d7 ∧ fitsP .i64 k.d.d8 ∧ fitsP .i64 k.d.d9 ∧ fitsP .i64 k.d.d10 ∧ fitsP .i64 k.d.d11 ∧ fitsP .i64 k.d.d12 ∧ True⟩
instance : MV Crs := ⟨fun k => .agg 16 [.int .i64 k.t.Week, .int .i64 k.t.Damage, .int .i64 k.t.Old, .int .i64 k.d.d0, .int .i64 k.d.d1, .int .i64 k.d.d2, .int .i64 k.d.d3, .int .i64 k.d.d4, .int .i64 k.d.d5, .int .i64 k.d.d6, .int .i64 k.d.d7, .int .i64 k.d.d8, .int .i64 k.d.d9, .int .i64 k.d.d10, .int .i64 k.d.d11, .int .i64 k.d.d12]⟩
instance : Rp Crs := ⟨16, by omega, fun _ cs a => cs = [.int .i64 a.t.Week, .int .i64 a.t.Damage, .int .i64 a.t.Old, .int .i64 a.d.d0, .int .i64 a.d.d1, .int .i64 a.d.d2, .int .i64 a.d.d3, .int .i64 a.d.d4, .int .i64 a.d.d5, .int .i64 a.d.d6, .int .i64 a.d.d7, .int .i64 a.d.d8, .int .i64 a.d.d9, .int .i64 a.d.d10, .int .i64 a.d.d11, .int .i64 a.d.d12], fun h => by rw [h]; rfl, fun h _ => h⟩
theorem rd_Crs {f : M} {x : C} {l : List Crs} (h : Sl f x l) {n : Nat} {a : Crs} (hi : l[n]? = some a) : ∃ _u : Unit, (∀ m, Sub f m → ldA m (slAt x (n * 16)) 16 = some [.int .i64 a.t.Week, .int .i64 a.t.Damage, .int .i64 a.t.Old, .int .i64 a.d.d0, .int .i64 a.d.d1, .int .i64 a.d.d2, .int .i64 a.d.d3, .int .i64 a.d.d4, .int .i64 a.d.d5, .int .i64 a.d.d6, .int .i64 a.d.d7, .int .i64 a.d.d8, .int .i64 a.d.d9, .int .i64 a.d.d10, .int .i64 a.d.d11, .int .i64 a.d.d12] ∧ (∀ j c, ([.int .i64 a.t.Week, .int .i64 a.t.Damage, .int .i64 a.t.Old, .int .i64 a.d.d0, .int .i64 a.d.d1, .int .i64 a.d.d2, .int .i64 a.d.d3, .int .i64 a.d.d4, .int .i64 a.d.d5, .int .i64 a.d.d6, .int .i64 a.d.d7, .int .i64 a.d.d8, .int .i64 a.d.d9, .int .i64 a.d.d10, .int .i64 a.d.d11, .int .i64 a.d.d12] : List C)[j]? = some c → ldC m (ptAdd (slAt x (n * 16)) j) = some c) ∧ ∀ j i, 0 < i → j + i ≤ 16 → ldA m (ptAdd (slAt x (n * 16)) j) i = some ((([.int .i64 a.t.Week, .int .i64 a.t.Damage, .int .i64 a.t.Old, .int .i64 a.d.d0, .int .i64 a.d.d1, .int .i64 a.d.d2, .int .i64 a.d.d3, .int .i64 a.d.d4, .int .i64 a.d.d5, .int .i64 a.d.d6, .int .i64 a.d.d7, .int .i64 a.d.d8, .int .i64 a.d.d9, .int .i64 a.d.d10, .int .i64 a.d.d11, .int .i64 a.d.d12] : List C).drop j).take i)) := by
 obtain ⟨cs, q1, q2⟩ := h.rdP hi
 have q2 : cs = _ := q2
 subst q2
 exact ⟨(), q1⟩
structure Wk where
 s : Ssn
 damages : Option (Plt → Option (Dm))
def pawake : Option Bool := some true
def prIn (n : Int) (low : Int) (high : Int) : Option (Bool) := (if low ≤ n then (some (decide (n ≤ high))) else (some false))
def prWithin (r : Rg) (low : Int) (high : Int) : Option (Bool) := (if low ≤ r.Lo then (if r.Lo ≤ r.Hi then (some (decide (r.Hi ≤ high))) else (some false)) else (some false))
def prCount (r : Rg) : Option (Int) := (gd (fitsP .i64 (r.Hi - r.Lo)) (gd (fitsP .i64 ((r.Hi - r.Lo) + (1 : Int))) (some ((r.Hi - r.Lo) + (1 : Int)))))
def prIsRule_L0 (s : Ssn) (l : List Int) : Nat → Int → Option (Bool)
 | 0, _ => none
 | d23 + 1, x3 => (if x3 < (l.length : Int) then ((idx l x3).bind fun x25 => ((prIn x25 (0 : Int) (100 : Int)).bind fun r27 => (if r27 = true then (gd (fitsP .i64 (x3 + 1)) (prIsRule_L0 s l d23 (x3 + 1))) else (some false)))) else (gd (fitsP .i64 (s.Last + (1 : Int))) (some (decide ((l.length : Int) = (s.Last + (1 : Int)))))))
def prIsRule (s : Ssn) (l : List Int) : Option (Bool) := (prIsRule_L0 s l (l.length + 1) (0 : Int))
def prMany (fl : Fld) : Option (Int) := ((prCount fl.Week).bind fun r41 => ((prCount fl.Damage).bind fun r47 => (gd ((0 : Int) ≤ r41) (gd ((0 : Int) ≤ r47) (gd (fitsP .i64 (r41 * r47)) ((prCount fl.Old).bind fun r56 => (gd ((0 : Int) ≤ (r41 * r47)) (gd ((0 : Int) ≤ r56) (gd (fitsP .i64 ((r41 * r47) * r56)) (some ((r41 * r47) * r56)))))))))))
def prFault_L3 (s : Ssn) : Nat → Int → Option (Int)
 | 0, _ => none
 | d194 + 1, x90 => (if x90 < (s.Fields.length : Int) then ((idx s.Fields x90).bind fun v196 => ((prMany v196).bind fun r199 => (if (3000 : Int) < r199 then (some (3 : Int)) else (gd (fitsP .i64 (x90 + 1)) (prFault_L3 s d194 (x90 + 1)))))) else (some (0 : Int)))
def prFault_L2 (s : Ssn) : Nat → Int → Int → Option (Int)
 | 0, _, _ => none
 | d149 + 1, x61, x62 => (if x62 < (s.Visits.length : Int) then ((idx s.Visits x62).bind fun v151 => (gd (fitsP .i64 ((s.Fields.length : Int) - (1 : Int))) ((prIn v151.Field (0 : Int) ((s.Fields.length : Int) - (1 : Int))).bind fun r167 => (if r167 = true then ((prIn v151.Week (0 : Int) s.Last).bind fun r175 => (if r175 = true then ((prWithin v151.Seen (0 : Int) (100 : Int)).bind fun r183 => (if r183 = true then (gd (fitsP .i64 (x62 + 1)) (prFault_L2 s d149 x61 (x62 + 1))) else (some (1 : Int)))) else (some (1 : Int)))) else (some (1 : Int)))))) else (prFault_L3 s 1000000 (0 : Int)))
def prFault_L1 (s : Ssn) : Nat → Int → Int → Option (Int)
 | 0, _, _ => none
 | d96 + 1, x24, x25 => (if x25 < (s.Fields.length : Int) then ((idx s.Fields x25).bind fun v98 => (gd (fitsP .i64 ((s.Rules.length : Int) - (1 : Int))) ((prIn v98.Crop (0 : Int) ((s.Rules.length : Int) - (1 : Int))).bind fun r114 => (if r114 = true then ((prWithin v98.Week (0 : Int) s.Last).bind fun r122 => (if r122 = true then ((prWithin v98.Damage (0 : Int) (100 : Int)).bind fun r130 => (if r130 = true then ((prWithin v98.Old (0 : Int) (100 : Int)).bind fun r138 => (if r138 = true then (gd (fitsP .i64 (x25 + 1)) (prFault_L1 s d96 x24 (x25 + 1))) else (some (1 : Int)))) else (some (1 : Int)))) else (some (1 : Int)))) else (some (1 : Int)))))) else (prFault_L2 s 1000000 x24 (0 : Int)))
def prFault_L0 (s : Ssn) : Nat → Int → Int → Option (Int)
 | 0, _, _ => none
 | d79 + 1, x9, x10 => (if x10 < (s.Rules.length : Int) then ((idx s.Rules x10).bind fun v81 => ((prIsRule s v81).bind fun r86 => (if r86 = true then (gd (fitsP .i64 (x10 + 1)) (prFault_L0 s d79 x9 (x10 + 1))) else (some (1 : Int))))) else (prFault_L1 s 1000000 x9 (0 : Int)))
def prFault (s : Ssn) : Option (Int) := (if (12 : Int) < s.Last then (some (3 : Int)) else (if (3 : Int) < (s.Rules.length : Int) then (some (3 : Int)) else (if (3 : Int) < (s.Fields.length : Int) then (some (3 : Int)) else (if (6 : Int) < (s.Visits.length : Int) then (some (3 : Int)) else (if s.Last < (0 : Int) then (some (1 : Int)) else (if (s.Rules.length : Int) = (0 : Int) then (some (1 : Int)) else (if (s.Fields.length : Int) = (0 : Int) then (some (1 : Int)) else (prFault_L0 s 1000000 (0 : Int) (0 : Int)))))))))
def prNth (fl : Fld) (n : Int) : Option (Trh) := ((prCount fl.Week).bind fun r225 => (gd ((0 : Int) ≤ n) (gd ((0 : Int) < r225) (gd (fitsP .i64 (n % r225)) (gd (fitsP .i64 (fl.Week.Lo + (n % r225))) ((prCount fl.Week).bind fun r237 => (gd ((0 : Int) ≤ n) (gd ((0 : Int) < r237) (gd (fitsP .i64 (n / r237)) ((prCount fl.Damage).bind fun r255 => (gd ((0 : Int) ≤ (n / r237)) (gd ((0 : Int) < r255) (gd (fitsP .i64 ((n / r237) % r255)) (gd (fitsP .i64 (fl.Damage.Lo + ((n / r237) % r255))) ((prCount fl.Damage).bind fun r267 => (gd ((0 : Int) ≤ (n / r237)) (gd ((0 : Int) < r267) (gd (fitsP .i64 ((n / r237) / r267)) (gd (fitsP .i64 (fl.Old.Lo + ((n / r237) / r267))) (some ({ Week := (fl.Week.Lo + (n % r225)), Damage := (fl.Damage.Lo + ((n / r237) % r255)), Old := (fl.Old.Lo + ((n / r237) / r267)) } : Trh)))))))))))))))))))))
def prIsListed (fl : Fld) (t : Trh) : Option (Bool) := ((prIn t.Week fl.Week.Lo fl.Week.Hi).bind fun r311 => (if r311 = true then ((prIn t.Damage fl.Damage.Lo fl.Damage.Hi).bind fun r319 => (if r319 = true then ((prIn t.Old fl.Old.Lo fl.Old.Hi).bind fun r327 => (some r327)) else (some false))) else (some false)))
def prDamage_F : Nat → Ssn → Int → Trh → Int → Option (Int)
 | 0, _, _, _, _ => none
 | d_ + 1, s, crop, t, week => (if week < t.Week then (some (0 : Int)) else (if week = t.Week then (some t.Damage) else (gd (fitsP .i64 (week - 1)) ((prDamage_F d_ s crop t (week - 1)).bind fun r348 => ((idx s.Rules crop).bind fun v355 => ((idx v355 week).bind fun x360 => (gd ((0 : Int) ≤ r348) (gd ((0 : Int) ≤ x360) (gd (fitsP .i64 (r348 * x360)) (gd ((0 : Int) ≤ (r348 * x360)) (gd ((0 : Int) < (100 : Int)) (gd (fitsP .i64 ((r348 * x360) / (100 : Int))) (gd (fitsP .i64 (r348 - ((r348 * x360) / (100 : Int)))) (some (r348 - ((r348 * x360) / (100 : Int)))))))))))))))))
def prDamage (s : Ssn) (crop : Int) (t : Trh) (week : Int) : Option (Int) := prDamage_F ((week - t.Week).toNat + 2) s crop t week
def prHarvest (s : Ssn) (field : Int) (t : Trh) : Option (Int) := ((idx s.Fields field).bind fun v380 => ((prDamage s v380.Crop t s.Last).bind fun r383 => (some r383)))
def prSeen (s : Ssn) (field : Int) (t : Trh) (week : Int) : Option (Int) := ((idx s.Fields field).bind fun v401 => ((prDamage s v401.Crop t week).bind fun r404 => (gd (fitsP .i64 (t.Old + r404)) (some (min (100 : Int) (t.Old + r404))))))
def prRight (s : Ssn) (v : Vis) (t : Trh) : Option (Bool) := ((prSeen s v.Field t v.Week).bind fun r430 => ((prIn r430 v.Seen.Lo v.Seen.Hi).bind fun r438 => (some r438)))
def prAll_L1 (s : Ssn) (field : Int) (l453 : List Int) (x3 : Int) (K_R1 : (List Int) → Int → Option (List Int)) : Nat → Int → Int → Option (List Int)
 | 0, _, _ => none
 | d468 + 1, x18, x19 => (if x19 < (s.Visits.length : Int) then ((idx s.Visits x19).bind fun v470 => (if v470.Field = field then ((idx s.Visits x19).bind fun v484 => ((idx s.Fields field).bind fun v487 => ((prNth v487 x3).bind fun r490 => ((prRight s v484 r490).bind fun r496 => (if r496 = true then (gd ((0 : Int) ≤ (1 : Int)) (gd ((0 : Int) ≤ (wrapZ .u64 x19)) (gd ((wrapZ .u64 x19) ≤ (64 : Int)) (gd (fitsP .i64 ((1 : Int) * ((2 : Int) ^ (Int.toNat (wrapZ .u64 x19))))) (gd ((0 : Int) ≤ x18) (gd ((0 : Int) ≤ ((1 : Int) * ((2 : Int) ^ (Int.toNat (wrapZ .u64 x19))))) (gd (fitsP .i64 x18) (gd (fitsP .i64 ((1 : Int) * ((2 : Int) ^ (Int.toNat (wrapZ .u64 x19))))) (gd (fitsP .i64 (((Nat.lor (Int.toNat x18) (Int.toNat ((1 : Int) * ((2 : Int) ^ (Int.toNat (wrapZ .u64 x19)))))) : Nat) : Int)) (gd (fitsP .i64 (x19 + 1)) (prAll_L1 s field l453 x3 K_R1 d468 (((Nat.lor (Int.toNat x18) (Int.toNat ((1 : Int) * ((2 : Int) ^ (Int.toNat (wrapZ .u64 x19)))))) : Nat) : Int) (x19 + 1)))))))))))) else (gd (fitsP .i64 (x19 + 1)) (prAll_L1 s field l453 x3 K_R1 d468 x18 (x19 + 1)))))))) else (gd ((0 : Int) ≤ (1 : Int)) (gd ((0 : Int) ≤ (wrapZ .u64 x19)) (gd ((wrapZ .u64 x19) ≤ (64 : Int)) (gd (fitsP .i64 ((1 : Int) * ((2 : Int) ^ (Int.toNat (wrapZ .u64 x19))))) (gd ((0 : Int) ≤ x18) (gd ((0 : Int) ≤ ((1 : Int) * ((2 : Int) ^ (Int.toNat (wrapZ .u64 x19))))) (gd (fitsP .i64 x18) (gd (fitsP .i64 ((1 : Int) * ((2 : Int) ^ (Int.toNat (wrapZ .u64 x19))))) (gd (fitsP .i64 (((Nat.lor (Int.toNat x18) (Int.toNat ((1 : Int) * ((2 : Int) ^ (Int.toNat (wrapZ .u64 x19)))))) : Nat) : Int)) (gd (fitsP .i64 (x19 + 1)) (prAll_L1 s field l453 x3 K_R1 d468 (((Nat.lor (Int.toNat x18) (Int.toNat ((1 : Int) * ((2 : Int) ^ (Int.toNat (wrapZ .u64 x19)))))) : Nat) : Int) (x19 + 1)))))))))))))) else (gd (l453.length < 1048576) (gd (fitsP .i64 (x3 + 1)) (K_R1 (l453 ++ [x18]) (x3 + 1)))))
def prAll_L0 (s : Ssn) (field : Int) : Nat → (List Int) → Int → Option (List Int)
 | 0, _, _ => none
 | d455 + 1, l453, x3 => ((idx s.Fields field).bind fun v456 => ((prMany v456).bind fun r459 => (if x3 < r459 then (prAll_L1 s field l453 x3 (prAll_L0 s field d455) 1000000 (0 : Int) (0 : Int)) else (some l453))))
def prAll (s : Ssn) (field : Int) : Option (List Int) := (prAll_L0 s field 1000000 [] (0 : Int))
def prEvery_L0 (s : Ssn) : Nat → (List (List Int)) → Int → Option (List (List Int))
 | 0, _, _ => none
 | d540 + 1, l538, x3 => (if x3 < (s.Fields.length : Int) then ((prAll s x3).bind fun r542 => (gd (l538.length < 1048576) (gd (fitsP .i64 (x3 + 1)) (prEvery_L0 s d540 (l538 ++ [r542]) (x3 + 1))))) else (some l538))
def prEvery (s : Ssn) : Option (List (List Int)) := (prEvery_L0 s 1000000 [] (0 : Int))
def prCan_L1 (every : List (List Int)) (visits : Int) (x2 : Int) (K_R0 : Int → Option (Bool)) : Nat → Bool → Int → Option (Bool)
 | 0, _, _ => none
 | d573 + 1, b5, x6 => ((idx every x2).bind fun v574 => (if x6 < (v574.length : Int) then (if b5 = true then (gd (fitsP .i64 (x6 + 1)) (prCan_L1 every visits x2 K_R0 d573 true (x6 + 1))) else ((idx every x2).bind fun v582 => ((idx v582 x6).bind fun x587 => (gd ((0 : Int) ≤ x587) (gd ((0 : Int) ≤ visits) (gd (fitsP .i64 x587) (gd (fitsP .i64 visits) (gd (fitsP .i64 (((Nat.land (Int.toNat x587) (Int.toNat visits)) : Nat) : Int)) (gd (fitsP .i64 (x6 + 1)) (prCan_L1 every visits x2 K_R0 d573 (decide ((((Nat.land (Int.toNat x587) (Int.toNat visits)) : Nat) : Int) = visits)) (x6 + 1))))))))))) else (if b5 = true then (gd (fitsP .i64 (x2 + 1)) (K_R0 (x2 + 1))) else (some false))))
def prCan_L0 (every : List (List Int)) (visits : Int) : Nat → Int → Option (Bool)
 | 0, _ => none
 | d569 + 1, x2 => (if x2 < (every.length : Int) then (prCan_L1 every visits x2 (prCan_L0 every visits d569) 1000000 false (0 : Int)) else (some true))
def prCan (every : List (List Int)) (visits : Int) : Option (Bool) := (prCan_L0 every visits (every.length + 1) (0 : Int))
def prFull (s : Ssn) : Option (Int) := (gd ((0 : Int) ≤ (1 : Int)) (gd ((0 : Int) ≤ (wrapZ .u64 (s.Visits.length : Int))) (gd ((wrapZ .u64 (s.Visits.length : Int)) ≤ (64 : Int)) (gd (fitsP .i64 ((1 : Int) * ((2 : Int) ^ (Int.toNat (wrapZ .u64 (s.Visits.length : Int)))))) (gd (fitsP .i64 (((1 : Int) * ((2 : Int) ^ (Int.toNat (wrapZ .u64 (s.Visits.length : Int))))) - (1 : Int))) (some (((1 : Int) * ((2 : Int) ^ (Int.toNat (wrapZ .u64 (s.Visits.length : Int))))) - (1 : Int))))))))
def prTruths_L0 (s : Ssn) (field : Int) (r612 : List Int) : Nat → (List Trh) → Int → Option (List Trh)
 | 0, _, _ => none
 | d625 + 1, l623, x10 => (if x10 < (r612.length : Int) then ((idx r612 x10).bind fun x627 => ((prFull s).bind fun r629 => (if x627 = r629 then ((idx s.Fields field).bind fun v636 => ((prNth v636 x10).bind fun r639 => (gd (l623.length < 1048576) (gd (fitsP .i64 (x10 + 1)) (prTruths_L0 s field r612 d625 (l623 ++ [r639]) (x10 + 1)))))) else (gd (fitsP .i64 (x10 + 1)) (prTruths_L0 s field r612 d625 l623 (x10 + 1)))))) else (some l623))
def prTruths (s : Ssn) (field : Int) : Option (List Trh) := ((prAll s field).bind fun r612 => (prTruths_L0 s field r612 (r612.length + 1) [] (0 : Int)))
def prIsTruth_L0 (s : Ssn) (field : Int) (t : Trh) : Nat → Int → Option (Bool)
 | 0, _ => none
 | d686 + 1, x19 => (if x19 < (s.Visits.length : Int) then ((idx s.Visits x19).bind fun v688 => (if v688.Field = field then ((idx s.Visits x19).bind fun v692 => ((prRight s v692 t).bind fun r695 => (if r695 = true then (gd (fitsP .i64 (x19 + 1)) (prIsTruth_L0 s field t d686 (x19 + 1))) else (some false)))) else (gd (fitsP .i64 (x19 + 1)) (prIsTruth_L0 s field t d686 (x19 + 1))))) else (some true))
def prIsTruth (s : Ssn) (field : Int) (t : Trh) : Option (Bool) := ((idx s.Fields field).bind fun v673 => ((prIsListed v673 t).bind fun r676 => (if r676 = true then (prIsTruth_L0 s field t 1000000 (0 : Int)) else (some false))))
def prWider (r : Rg) (n : Int) : Option (Rg) := (some ({ Lo := (min r.Lo n), Hi := (max r.Hi n) } : Rg))
def prEmpty : Option (Rg) := (some ({ Lo := (1099511627776 : Int), Hi := (-1099511627776 : Int) } : Rg))
def prBounds_L0 (s : Ssn) (field : Int) (l : List Trh) : Nat → Int → Int → Int → Int → Int → Int → Int → Int → Int → Option (Bnd)
 | 0, _, _, _, _, _, _, _, _, _ => none
 | d795 + 1, y787, y788, y789, y790, y791, y792, y793, y794, x21 => (if x21 < (l.length : Int) then ((idx l x21).bind fun v797 => ((prWider ({ Lo := y787, Hi := y788 } : Rg) v797.Week).bind fun r800 => ((idx l x21).bind fun v808 => ((prWider ({ Lo := y789, Hi := y790 } : Rg) v808.Damage).bind fun r811 => ((idx l x21).bind fun v819 => ((prWider ({ Lo := y791, Hi := y792 } : Rg) v819.Old).bind fun r822 => ((idx l x21).bind fun v830 => ((prHarvest s field v830).bind fun r833 => ((prWider ({ Lo := y793, Hi := y794 } : Rg) r833).bind fun r841 => (gd (fitsP .i64 (x21 + 1)) (prBounds_L0 s field l d795 r800.Lo r800.Hi r811.Lo r811.Hi r822.Lo r822.Hi r841.Lo r841.Hi (x21 + 1)))))))))))) else (some ({ Week := ({ Lo := y787, Hi := y788 } : Rg), Damage := ({ Lo := y789, Hi := y790 } : Rg), Old := ({ Lo := y791, Hi := y792 } : Rg), Harvest := ({ Lo := y793, Hi := y794 } : Rg) } : Bnd)))
def prBounds (s : Ssn) (field : Int) (l : List Trh) : Option (Bnd) := ((prEmpty).bind fun r743 => ((prEmpty).bind fun r750 => ((prEmpty).bind fun r757 => ((prEmpty).bind fun r764 => (prBounds_L0 s field l (l.length + 1) r743.Lo r743.Hi r750.Lo r750.Hi r757.Lo r757.Hi r764.Lo r764.Hi (0 : Int))))))
def plList (l : List Int) : Option (List Int) := (gd (([] : List Int).length + l.length ≤ 1048576) (some ([] ++ l)))
def plTo (r : Rg) : Option (Rg) := (some r)
def plSeason_L2 (s : Ssn) (y1148 : List (List Int)) (y1198 : List Fld) : Nat → Int → (List Vis) → Int → Option (Ssn)
 | 0, _, _, _ => none
 | d1280 + 1, y1276, y1277, x60 => (if x60 < (s.Visits.length : Int) then ((idx s.Visits x60).bind fun v1282 => ((plTo v1282.Seen).bind fun r1301 => (gd (y1277.length < 1048576) (gd (fitsP .i64 (x60 + 1)) (plSeason_L2 s y1148 y1198 d1280 y1276 (y1277 ++ [({ Field := v1282.Field, Week := v1282.Week, Seen := r1301 } : Vis)]) (x60 + 1)))))) else (some ({ Last := y1276, Rules := y1148, Fields := y1198, Visits := y1277 } : Ssn)))
def plSeason_L1 (s : Ssn) (y1148 : List (List Int)) : Nat → Int → (List Fld) → (List Vis) → Int → Option (Ssn)
 | 0, _, _, _, _ => none
 | d1204 + 1, y1197, y1198, y1201, x21 => (if x21 < (s.Fields.length : Int) then ((idx s.Fields x21).bind fun v1206 => ((plTo v1206.Week).bind fun r1225 => ((plTo v1206.Damage).bind fun r1234 => ((plTo v1206.Old).bind fun r1243 => (gd (y1198.length < 1048576) (gd (fitsP .i64 (x21 + 1)) (plSeason_L1 s y1148 d1204 y1197 (y1198 ++ [({ Crop := v1206.Crop, Week := r1225, Damage := r1234, Old := r1243 } : Fld)]) y1201 (x21 + 1)))))))) else (plSeason_L2 s y1148 y1198 1000000 y1197 y1201 (0 : Int)))
def plSeason_L0 (s : Ssn) : Nat → Int → (List (List Int)) → (List Fld) → (List Vis) → Int → Option (Ssn)
 | 0, _, _, _, _, _ => none
 | d1157 + 1, y1147, y1148, y1151, y1154, x6 => (if x6 < (s.Rules.length : Int) then ((idx s.Rules x6).bind fun v1159 => ((plList v1159).bind fun r1164 => (gd (y1148.length < 1048576) (gd (fitsP .i64 (x6 + 1)) (plSeason_L0 s d1157 y1147 (y1148 ++ [r1164]) y1151 y1154 (x6 + 1)))))) else (plSeason_L1 s y1148 1000000 y1147 y1151 y1154 (0 : Int)))
def plSeason (s : Ssn) : Option (Ssn) := (plSeason_L0 s 1000000 s.Last [] [] [] (0 : Int))
def plBack (t : Trh) : Option (Trh) := (some t)
def plThin_L1 (s : Ssn) (r1482 : Int) : Nat → Int → Option (Bool)
 | 0, _ => none
 | d1490 + 1, x21 => (if x21 < (s.Fields.length : Int) then (if (!(decide (r1482 = 0))) = true then (gd (fitsP .i64 (x21 + 1)) (plThin_L1 s r1482 d1490 (x21 + 1))) else ((idx s.Fields x21).bind fun v1493 => ((prMany v1493).bind fun r1496 => (if (200 : Int) < r1496 then (some false) else (gd (fitsP .i64 (x21 + 1)) (plThin_L1 s r1482 d1490 (x21 + 1))))))) else (some true))
def plThin_L0 (s : Ssn) : Nat → Bool → Int → Option (Bool)
 | 0, _, _ => none
 | d1473 + 1, b5, x6 => (if x6 < (s.Rules.length : Int) then ((idx s.Rules x6).bind fun v1475 => (if (20 : Int) < (v1475.length : Int) then (some false) else (gd (fitsP .i64 (x6 + 1)) (plThin_L0 s d1473 b5 (x6 + 1))))) else ((prFault s).bind fun r1482 => (plThin_L1 s r1482 1000000 (0 : Int))))
def plThin (s : Ssn) : Option (Bool) := (if (5 : Int) < (s.Rules.length : Int) then (some false) else (if (5 : Int) < (s.Fields.length : Int) then (some false) else (if (9 : Int) < (s.Visits.length : Int) then (some false) else (plThin_L0 s 1000000 false (0 : Int)))))
def plFault (s : Ssn) : Option (Int) := ((prFault s).bind fun r1510 => (some r1510))
def plSure (s : Ssn) : Option (Int) := ((plFault s).bind fun r1521 => (if r1521 = 0 then ((prEvery s).bind fun r1528 => ((prFull s).bind fun r1537 => ((prCan r1528 r1537).bind fun r1543 => (if r1543 = true then (some (0 : Int)) else (some (11 : Int)))))) else (some r1521)))
def plIsField (s : Ssn) (n : Int) : Option (Bool) := (gd (fitsP .i64 ((s.Fields.length : Int) - (1 : Int))) ((prIn n (0 : Int) ((s.Fields.length : Int) - (1 : Int))).bind fun r1556 => (some r1556)))
def phas (r : Rg) (n : Int) : Option (Bool) := (if r.Lo ≤ n then (some (decide (n ≤ r.Hi))) else (some false))
def pcount (r : Rg) : Option (Int) := (gd (fitsP .i64 (r.Hi - r.Lo)) (gd (fitsP .i64 ((r.Hi - r.Lo) + (1 : Int))) (some ((r.Hi - r.Lo) + (1 : Int)))))
def pwithin (r : Rg) (low : Int) (high : Int) : Option (Bool) := (if low ≤ r.Lo then (if r.Lo ≤ r.Hi then (some (decide (r.Hi ≤ high))) else (some false)) else (some false))
def pisHundredths (n : Int) : Option (Bool) := ((phas ({ Lo := (0 : Int), Hi := (100 : Int) } : Rg) n).bind fun r1909 => (some r1909))
def phasField (s : Ssn) (n : Int) : Option (Bool) := (gd (fitsP .i64 ((s.Fields.length : Int) - (1 : Int))) ((phas ({ Lo := (0 : Int), Hi := ((s.Fields.length : Int) - (1 : Int)) } : Rg) n).bind fun r1920 => (some r1920)))
def phasWeek (s : Ssn) (n : Int) : Option (Bool) := ((phas ({ Lo := (0 : Int), Hi := s.Last } : Rg) n).bind fun r1931 => (some r1931))
def ptooMany (s : Ssn) : Option (Bool) := (if (12 : Int) < s.Last then (some true) else (if (3 : Int) < (s.Rules.length : Int) then (some true) else (if (3 : Int) < (s.Fields.length : Int) then (some true) else (some (decide ((6 : Int) < (s.Visits.length : Int)))))))
def peachI1 (x : Int) (passes : Int → Option (Bool)) : Option (Bool) := ((passes x).bind fun r1945 => (some (!r1945)))
def pindexI_L0 (l : List Int) (p : Int → Option (Bool)) : Nat → Int → Option (Int)
 | 0, _ => none
 | d1952 + 1, x2 => (if x2 < (l.length : Int) then ((idx l x2).bind fun x1954 => ((p x1954).bind fun r1956 => (if r1956 = true then (some x2) else (gd (fitsP .i64 (x2 + 1)) (pindexI_L0 l p d1952 (x2 + 1)))))) else (some (-1 : Int)))
def pindexI (l : List Int) (p : Int → Option (Bool)) : Option (Int) := (pindexI_L0 l p (l.length + 1) (0 : Int))
def pcontainsI (l : List Int) (p : Int → Option (Bool)) : Option (Bool) := ((pindexI l p).bind fun r1963 => (some (decide ((0 : Int) ≤ r1963))))
def peachI (l : List Int) (passes : Int → Option (Bool)) : Option (Bool) := ((pcontainsI l (fun a1977 => peachI1 a1977 passes)).bind fun r1979 => (some (!r1979)))
def peachL1 (x : List Int) (passes : List Int → Option (Bool)) : Option (Bool) := ((passes x).bind fun r1984 => (some (!r1984)))
def pindexL_L0 (l : List (List Int)) (p : List Int → Option (Bool)) : Nat → Int → Option (Int)
 | 0, _ => none
 | d1991 + 1, x2 => (if x2 < (l.length : Int) then ((idx l x2).bind fun v1993 => ((p v1993).bind fun r1998 => (if r1998 = true then (some x2) else (gd (fitsP .i64 (x2 + 1)) (pindexL_L0 l p d1991 (x2 + 1)))))) else (some (-1 : Int)))
def pindexL (l : List (List Int)) (p : List Int → Option (Bool)) : Option (Int) := (pindexL_L0 l p (l.length + 1) (0 : Int))
def pcontainsL (l : List (List Int)) (p : List Int → Option (Bool)) : Option (Bool) := ((pindexL l p).bind fun r2005 => (some (decide ((0 : Int) ≤ r2005))))
def peachL (l : List (List Int)) (passes : List Int → Option (Bool)) : Option (Bool) := ((pcontainsL l (fun a2019 => peachL1 a2019 passes)).bind fun r2023 => (some (!r2023)))
def peachF1 (x : Fld) (passes : Fld → Option (Bool)) : Option (Bool) := ((passes x).bind fun r2033 => (some (!r2033)))
def pindexF_L0 (l : List Fld) (p : Fld → Option (Bool)) : Nat → Int → Option (Int)
 | 0, _ => none
 | d2041 + 1, x2 => (if x2 < (l.length : Int) then ((idx l x2).bind fun v2043 => ((p v2043).bind fun r2046 => (if r2046 = true then (some x2) else (gd (fitsP .i64 (x2 + 1)) (pindexF_L0 l p d2041 (x2 + 1)))))) else (some (-1 : Int)))
def pindexF (l : List Fld) (p : Fld → Option (Bool)) : Option (Int) := (pindexF_L0 l p (l.length + 1) (0 : Int))
def pcontainsF (l : List Fld) (p : Fld → Option (Bool)) : Option (Bool) := ((pindexF l p).bind fun r2053 => (some (decide ((0 : Int) ≤ r2053))))
def peachF (l : List Fld) (passes : Fld → Option (Bool)) : Option (Bool) := ((pcontainsF l (fun a2067 => peachF1 a2067 passes)).bind fun r2069 => (some (!r2069)))
def peachV1 (x : Vis) (passes : Vis → Option (Bool)) : Option (Bool) := ((passes x).bind fun r2079 => (some (!r2079)))
def pindexV_L0 (l : List Vis) (p : Vis → Option (Bool)) : Nat → Int → Option (Int)
 | 0, _ => none
 | d2087 + 1, x2 => (if x2 < (l.length : Int) then ((idx l x2).bind fun v2089 => ((p v2089).bind fun r2092 => (if r2092 = true then (some x2) else (gd (fitsP .i64 (x2 + 1)) (pindexV_L0 l p d2087 (x2 + 1)))))) else (some (-1 : Int)))
def pindexV (l : List Vis) (p : Vis → Option (Bool)) : Option (Int) := (pindexV_L0 l p (l.length + 1) (0 : Int))
def pcontainsV (l : List Vis) (p : Vis → Option (Bool)) : Option (Bool) := ((pindexV l p).bind fun r2099 => (some (decide ((0 : Int) ≤ r2099))))
def peachV (l : List Vis) (passes : Vis → Option (Bool)) : Option (Bool) := ((pcontainsV l (fun a2113 => peachV1 a2113 passes)).bind fun r2115 => (some (!r2115)))
def pvalidRule (s : Ssn) (rule : List Int) : Option (Bool) := (gd (fitsP .i64 (s.Last + (1 : Int))) (if (rule.length : Int) = (s.Last + (1 : Int)) then ((peachI rule (fun a2173 => pisHundredths a2173)).bind fun r2175 => (some r2175)) else (some false)))
def pvalidField (s : Ssn) (fl : Fld) : Option (Bool) := (gd (fitsP .i64 ((s.Rules.length : Int) - (1 : Int))) ((phas ({ Lo := (0 : Int), Hi := ((s.Rules.length : Int) - (1 : Int)) } : Rg) fl.Crop).bind fun r2193 => (if r2193 = true then ((pwithin fl.Week (0 : Int) s.Last).bind fun r2201 => (if r2201 = true then ((pwithin fl.Damage (0 : Int) (100 : Int)).bind fun r2209 => (if r2209 = true then ((pwithin fl.Old (0 : Int) (100 : Int)).bind fun r2217 => (some r2217)) else (some false))) else (some false))) else (some false))))
def pvalidVisit (s : Ssn) (v : Vis) : Option (Bool) := ((phasField s v.Field).bind fun r2235 => (if r2235 = true then ((phasWeek s v.Week).bind fun r2243 => (if r2243 = true then ((pwithin v.Seen (0 : Int) (100 : Int)).bind fun r2251 => (some r2251)) else (some false))) else (some false)))
def phasFew (fl : Fld) : Option (Bool) := ((pcount fl.Week).bind fun r2263 => ((pcount fl.Damage).bind fun r2269 => (gd ((0 : Int) ≤ r2263) (gd ((0 : Int) ≤ r2269) (gd (fitsP .i64 (r2263 * r2269)) ((pcount fl.Old).bind fun r2278 => (gd ((0 : Int) ≤ (r2263 * r2269)) (gd ((0 : Int) ≤ r2278) (gd (fitsP .i64 ((r2263 * r2269) * r2278)) (some (decide (((r2263 * r2269) * r2278) ≤ (3000 : Int)))))))))))))
def pisChoice (fl : Fld) (t : Trh) : Option (Bool) := ((phas fl.Week t.Week).bind fun r2298 => (if r2298 = true then ((phas fl.Damage t.Damage).bind fun r2306 => (if r2306 = true then ((phas fl.Old t.Old).bind fun r2314 => (some r2314)) else (some false))) else (some false)))
def pvalid (s : Ssn) : Option (Bool) := (if (0 : Int) ≤ s.Last then (if (0 : Int) < (s.Rules.length : Int) then (if (0 : Int) < (s.Fields.length : Int) then ((peachL s.Rules (fun a2329 => pvalidRule s a2329)).bind fun r2333 => (if r2333 = true then ((peachF s.Fields (fun a2340 => pvalidField s a2340)).bind fun r2342 => (if r2342 = true then ((peachV s.Visits (fun a2349 => pvalidVisit s a2349)).bind fun r2351 => (some r2351)) else (some false))) else (some false))) else (some false)) else (some false)) else (some false))
def pcheck (s : Ssn) : Option (Int) := ((ptooMany s).bind fun r2362 => (if r2362 = true then (some (3 : Int)) else ((pvalid s).bind fun r2369 => (if r2369 = true then ((peachF s.Fields (fun a2376 => phasFew a2376)).bind fun r2378 => (if r2378 = true then (some (0 : Int)) else (some (3 : Int)))) else (some (1 : Int))))))
def pgrow_L0 (s : Ssn) (p : Plt) : Nat → Int → Int → Int → Int → Int → Int → Int → Int → Int → Int → Int → Int → Int → Int → Int → Option (Dm)
 | 0, _, _, _, _, _, _, _, _, _, _, _, _, _, _, _ => none
 | d2426 + 1, y2413, y2414, y2415, y2416, y2417, y2418, y2419, y2420, y2421, y2422, y2423, y2424, y2425, x5, x7 => (if x7 < 13 then (if x7 = p.t.Week then (gd (0 ≤ x7 ∧ x7 < 13) (gd (fitsP .i64 (x7 + 1)) (pgrow_L0 s p d2426 (sti x7 0 p.t.Damage y2413) (sti x7 1 p.t.Damage y2414) (sti x7 2 p.t.Damage y2415) (sti x7 3 p.t.Damage y2416) (sti x7 4 p.t.Damage y2417) (sti x7 5 p.t.Damage y2418) (sti x7 6 p.t.Damage y2419) (sti x7 7 p.t.Damage y2420) (sti x7 8 p.t.Damage y2421) (sti x7 9 p.t.Damage y2422) (sti x7 10 p.t.Damage y2423) (sti x7 11 p.t.Damage y2424) (sti x7 12 p.t.Damage y2425) p.t.Damage (x7 + 1)))) else (if x7 ≤ s.Last then ((idx s.Rules p.crop).bind fun v2440 => ((idx v2440 x7).bind fun x2445 => (gd ((0 : Int) ≤ x5) (gd ((0 : Int) ≤ x2445) (gd (fitsP .i64 (x5 * x2445)) (gd ((0 : Int) ≤ (x5 * x2445)) (gd ((0 : Int) < (100 : Int)) (gd (fitsP .i64 ((x5 * x2445) / (100 : Int))) (gd (fitsP .i64 (x5 - ((x5 * x2445) / (100 : Int)))) (gd (0 ≤ x7 ∧ x7 < 13) (gd (fitsP .i64 (x7 + 1)) (pgrow_L0 s p d2426 (sti x7 0 (x5 - ((x5 * x2445) / (100 : Int))) y2413) (sti x7 1 (x5 - ((x5 * x2445) / (100 : Int))) y2414) (sti x7 2 (x5 - ((x5 * x2445) / (100 : Int))) y2415) (sti x7 3 (x5 - ((x5 * x2445) / (100 : Int))) y2416) (sti x7 4 (x5 - ((x5 * x2445) / (100 : Int))) y2417) (sti x7 5 (x5 - ((x5 * x2445) / (100 : Int))) y2418) (sti x7 6 (x5 - ((x5 * x2445) / (100 : Int))) y2419) (sti x7 7 (x5 - ((x5 * x2445) / (100 : Int))) y2420) (sti x7 8 (x5 - ((x5 * x2445) / (100 : Int))) y2421) (sti x7 9 (x5 - ((x5 * x2445) / (100 : Int))) y2422) (sti x7 10 (x5 - ((x5 * x2445) / (100 : Int))) y2423) (sti x7 11 (x5 - ((x5 * x2445) / (100 : Int))) y2424) (sti x7 12 (x5 - ((x5 * x2445) / (100 : Int))) y2425) (x5 - ((x5 * x2445) / (100 : Int))) (x7 + 1))))))))))))) else (gd (0 ≤ x7 ∧ x7 < 13) (gd (fitsP .i64 (x7 + 1)) (pgrow_L0 s p d2426 (sti x7 0 x5 y2413) (sti x7 1 x5 y2414) (sti x7 2 x5 y2415) (sti x7 3 x5 y2416) (sti x7 4 x5 y2417) (sti x7 5 x5 y2418) (sti x7 6 x5 y2419) (sti x7 7 x5 y2420) (sti x7 8 x5 y2421) (sti x7 9 x5 y2422) (sti x7 10 x5 y2423) (sti x7 11 x5 y2424) (sti x7 12 x5 y2425) x5 (x7 + 1)))))) else (some ({ d0 := y2413, d1 := y2414, d2 := y2415, d3 := y2416, d4 := y2417, d5 := y2418, d6 := y2419, d7 := y2420, d8 := y2421, d9 := y2422, d10 := y2423, d11 := y2424, d12 := y2425 } : Dm)))
def pgrow (s : Ssn) (p : Plt) : Option (Dm) := (pgrow_L0 s p (Int.toNat (13 : Int) + 1) (0 : Int) (0 : Int) (0 : Int) (0 : Int) (0 : Int) (0 : Int) (0 : Int) (0 : Int) (0 : Int) (0 : Int) (0 : Int) (0 : Int) (0 : Int) (0 : Int) (0 : Int))
def pfollow (s : Ssn) (field : Int) (t : Trh) : Option (Crs × Bool) := ((pcheck s).bind fun r2500 => (if r2500 = 0 then ((phasField s field).bind fun r2516 => (if r2516 = true then ((idx s.Fields field).bind fun v2532 => ((pisChoice v2532 t).bind fun r2535 => (if r2535 = true then ((idx s.Fields field).bind fun v2551 => ((pgrow s ({ t := t, crop := v2551.Crop } : Plt)).bind fun r2554 => (some (({ t := t, d := r2554 } : Crs), true)))) else (some (({ t := ({ Week := (0 : Int), Damage := (0 : Int), Old := (0 : Int) } : Trh), d := ({ d0 := (0 : Int), d1 := (0 : Int), d2 := (0 : Int), d3 := (0 : Int), d4 := (0 : Int), d5 := (0 : Int), d6 := (0 : Int), d7 := (0 : Int), d8 := (0 : Int), d9 := (0 : Int), d10 := (0 : Int), d11 := (0 : Int), d12 := (0 : Int) } : Dm) } : Crs), false))))) else (some (({ t := ({ Week := (0 : Int), Damage := (0 : Int), Old := (0 : Int) } : Trh), d := ({ d0 := (0 : Int), d1 := (0 : Int), d2 := (0 : Int), d3 := (0 : Int), d4 := (0 : Int), d5 := (0 : Int), d6 := (0 : Int), d7 := (0 : Int), d8 := (0 : Int), d9 := (0 : Int), d10 := (0 : Int), d11 := (0 : Int), d12 := (0 : Int) } : Dm) } : Crs), false)))) else (some (({ t := ({ Week := (0 : Int), Damage := (0 : Int), Old := (0 : Int) } : Trh), d := ({ d0 := (0 : Int), d1 := (0 : Int), d2 := (0 : Int), d3 := (0 : Int), d4 := (0 : Int), d5 := (0 : Int), d6 := (0 : Int), d7 := (0 : Int), d8 := (0 : Int), d9 := (0 : Int), d10 := (0 : Int), d11 := (0 : Int), d12 := (0 : Int) } : Dm) } : Crs), false))))
def pharvestD (d : Dm) : Option (Int) := ((idx ([d.d0, d.d1, d.d2, d.d3, d.d4, d.d5, d.d6, d.d7, d.d8, d.d9, d.d10, d.d11, d.d12] : List Int) (12 : Int)).bind fun v2575 => (some v2575))
def pseen (c : Crs) (week : Int) : Option (Int) := ((idx ([c.d.d0, c.d.d1, c.d.d2, c.d.d3, c.d.d4, c.d.d5, c.d.d6, c.d.d7, c.d.d8, c.d.d9, c.d.d10, c.d.d11, c.d.d12] : List Int) week).bind fun v2597 => (gd (fitsP .i64 (c.t.Old + v2597)) (some (min (c.t.Old + v2597) (100 : Int)))))
def pHarvest (s : Ssn) (field : Int) (t : Trh) : Option (Int) := ((pfollow s field t).bind fun r2610 => (if r2610.2 = true then ((pharvestD r2610.1.d).bind fun r2632 => (some r2632)) else (some (0 : Int))))
def pallows1 (v : Vis) (field : Int) (c : Crs) : Option (Bool) := (if v.Field = field then ((pseen c v.Week).bind fun r2646 => ((phas v.Seen r2646).bind fun r2652 => (some r2652))) else (some true))
def pallows (s : Ssn) (field : Int) (c : Crs) : Option (Bool) := ((peachV s.Visits (fun a2687 => pallows1 a2687 field c)).bind fun r2689 => (some r2689))
def pnumbersI_L0 (r : Rg) (r2736 : Int) : Nat → Int → Option (List Int)
 | 0, _ => none
 | d2747 + 1, x6 => (if x6 < r2736 then (gd (fitsP .i64 (r.Lo + x6)) (((gd (fitsP .i64 (x6 + 1)) (pnumbersI_L0 r r2736 d2747 (x6 + 1)))).bind fun r2750 => some ((r.Lo + x6) :: r2750))) else (some []))
def pnumbersI (r : Rg) : Option (List Int) := ((pcount r).bind fun r2736 => (pnumbersI_L0 r r2736 (Int.toNat r2736 + 1) (0 : Int)))
def pnumbers (r : Rg) : Option (List Int) := ((pnumbersI r).bind fun l2773 => (some l2773))
def pplant (fl : Fld) (week : Int) (damage : Int) : Option (Plt) := (some ({ t := ({ Week := week, Damage := damage, Old := (0 : Int) } : Trh), crop := fl.Crop } : Plt))
def popen_L1_xret (_s : Ssn) (_w2871 : Option (Plt → Option (Dm))) : Option (Wk) := (some ({ s := ({ Last := (0 : Int), Rules := [], Fields := [], Visits := [] } : Ssn), damages := none } : Wk))
def popen_L2 (s : Ssn) (v2833 : Fld) (a2877 : Int) (K_X1 : (Option (Plt → Option (Dm))) → Option (Wk)) : List Int → (Option (Plt → Option (Dm))) → Option (Wk)
 | [], w2944 => (K_X1 w2944)
 | a2947 :: q2948, w2944 => ((pplant v2833 a2877 a2947).bind fun r2973 => ((pgrow s r2973).bind fun r3012 => (gd (MK.fit r2973) ((mset w2944 r2973 r3012).bind fun w3027 => ((popen_L2 s v2833 a2877 K_X1 q2948) w3027)))))
def popen_L1 (s : Ssn) (x11 : Int) (v2833 : Fld) (K_R10 : (Option (Plt → Option (Dm))) → Int → Option (Wk)) : List Int → (Option (Plt → Option (Dm))) → Option (Wk)
 | [], w2871 => (gd (fitsP .i64 (x11 + 1)) (K_R10 w2871 (x11 + 1)))
 | a2877 :: q2878, w2871 => ((pnumbers v2833.Damage).bind fun r2924 => (popen_L2 s v2833 a2877 ((popen_L1 s x11 v2833 K_R10 q2878)) r2924 w2871))
def popen_L0 (s : Ssn) : Nat → (Option (Plt → Option (Dm))) → Int → Option (Wk)
 | 0, _, _ => none
 | d2831 + 1, w2830, x11 => (if x11 < (s.Fields.length : Int) then ((idx s.Fields x11).bind fun v2833 => ((pnumbers v2833.Week).bind fun r2854 => (popen_L1 s x11 v2833 (popen_L0 s d2831) r2854 w2830))) else (some ({ s := s, damages := w2830 } : Wk)))
def popen (s : Ssn) : Option (Wk) := (popen_L0 s (s.Fields.length + 1) (some fun _ => none : Option (Plt → Option (Dm))) (0 : Int))
def pchoicesI_L0_xret : Option (List Crs) := (some [])
def pchoicesI_L1_xret : Option (List Crs) := (pchoicesI_L0_xret)
def pchoicesI_L2_xret : Option (List Crs) := (pchoicesI_L1_xret)
def pchoicesI_L2 (a3091 : Int) (a3152 : Int) (K_X1 : Option (List Crs)) : List Int → Option (List Crs)
 | [] => (K_X1)
 | a3273 :: q3274 => ((((pchoicesI_L2 a3091 a3152 K_X1 q3274))).bind fun r3299 => some (({ t := ({ Week := a3091, Damage := a3152, Old := a3273 } : Trh), d := ({ d0 := (0 : Int), d1 := (0 : Int), d2 := (0 : Int), d3 := (0 : Int), d4 := (0 : Int), d5 := (0 : Int), d6 := (0 : Int), d7 := (0 : Int), d8 := (0 : Int), d9 := (0 : Int), d10 := (0 : Int), d11 := (0 : Int), d12 := (0 : Int) } : Dm) } : Crs) :: r3299))
def pchoicesI_L3_xret : Option (List Crs) := (pchoicesI_L1_xret)
def pchoicesI_L3 (a3091 : Int) (a3152 : Int) (w3222 : Dm) (K_X1 : Option (List Crs)) : List Int → Option (List Crs)
 | [] => (K_X1)
 | a3380 :: q3381 => ((((pchoicesI_L3 a3091 a3152 w3222 K_X1 q3381))).bind fun r3406 => some (({ t := ({ Week := a3091, Damage := a3152, Old := a3380 } : Trh), d := w3222 } : Crs) :: r3406))
def pchoicesI_L1 (fl : Fld) (w : Wk) (a3091 : Int) (K_X0 : Option (List Crs)) : List Int → Option (List Crs)
 | [] => (K_X0)
 | a3152 :: q3153 => ((pplant fl a3091 a3152).bind fun r3208 => (gd (MK.fit r3208) (mcase (mget w.damages r3208) ((pnumbers fl.Old).bind fun r3244 => (pchoicesI_L2 a3091 a3152 ((pchoicesI_L1 fl w a3091 K_X0 q3153)) r3244)) fun w3222 => ((pnumbers fl.Old).bind fun r3351 => (pchoicesI_L3 a3091 a3152 w3222 ((pchoicesI_L1 fl w a3091 K_X0 q3153)) r3351)))))
def pchoicesI_L0 (fl : Fld) (w : Wk) : List Int → Option (List Crs)
 | [] => (some [])
 | a3091 :: q3092 => ((pnumbers fl.Damage).bind fun r3129 => (pchoicesI_L1 fl w a3091 ((pchoicesI_L0 fl w q3092)) r3129))
def pchoicesI (fl : Fld) (w : Wk) : Option (List Crs) := ((pnumbers fl.Week).bind fun r3072 => (pchoicesI_L0 fl w r3072))
def pchoices (w : Wk) (fl : Fld) : Option (List Crs) := ((pchoicesI fl w).bind fun l3465 => (some l3465))
def ptruthsI_L0_xret : Option (List Crs) := (some [])
def ptruthsI_L0 (w : Wk) (field : Int) : List Crs → Option (List Crs)
 | [] => (some [])
 | a3496 :: q3497 => ((pallows w.s field a3496).bind fun r3534 => (if r3534 = true then ((((ptruthsI_L0 w field q3497))).bind fun r3544 => some (a3496 :: r3544)) else ((ptruthsI_L0 w field q3497))))
def ptruthsI (w : Wk) (field : Int) : Option (List Crs) := ((idx w.s.Fields field).bind fun v3474 => ((pchoices w v3474).bind fun r3477 => (ptruthsI_L0 w field r3477)))
def ptruths (w : Wk) (field : Int) : Option (List Crs) := ((ptruthsI w field).bind fun l3587 => (some l3587))
def phasTruthOf_L0_xret (y3612 : Bool) : Option (Bool) := (some y3612)
def phasTruthOf_L0 : List Crs → Bool → Option (Bool)
 | [], _y3612 => (some false)
 | _a3618 :: _q3619, _y3612 => (phasTruthOf_L0_xret true)
def phasTruthOf (w : Wk) (field : Int) : Option (Bool) := ((ptruths w field).bind fun r3601 => (phasTruthOf_L0 r3601 false))
def phasTruth_L0 (w : Wk) : Nat → Int → Option (Bool)
 | 0, _ => none
 | d3663 + 1, x4 => (if x4 < (w.s.Fields.length : Int) then ((phasTruthOf w x4).bind fun r3665 => (if r3665 = true then (gd (fitsP .i64 (x4 + 1)) (phasTruth_L0 w d3663 (x4 + 1))) else (some false))) else (some true))
def phasTruth (w : Wk) : Option (Bool) := (phasTruth_L0 w (w.s.Fields.length + 1) (0 : Int))
def popenTrue (s : Ssn) : Option (Wk × Int) := ((pcheck s).bind fun r3707 => (if r3707 = 0 then ((popen s).bind fun r3721 => ((phasTruth r3721).bind fun r3751 => (if r3751 = true then (some (r3721, (0 : Int))) else (some (({ s := ({ Last := (0 : Int), Rules := [], Fields := [], Visits := [] } : Ssn), damages := none } : Wk), (11 : Int)))))) else (some (({ s := ({ Last := (0 : Int), Rules := [], Fields := [], Visits := [] } : Ssn), damages := none } : Wk), r3707))))
def popenAsked (s : Ssn) (field : Int) (known : Bool) : Option (Wk × Int) := ((pcheck s).bind fun r3785 => (if r3785 = 0 then ((phasField s field).bind fun r3799 => (if r3799 = true then (if known = true then ((popenTrue s).bind fun r3820 => (some (r3820.1, r3820.2))) else (some (({ s := ({ Last := (0 : Int), Rules := [], Fields := [], Visits := [] } : Ssn), damages := none } : Wk), (2 : Int)))) else (some (({ s := ({ Last := (0 : Int), Rules := [], Fields := [], Visits := [] } : Ssn), damages := none } : Wk), (2 : Int))))) else (some (({ s := ({ Last := (0 : Int), Rules := [], Fields := [], Visits := [] } : Ssn), damages := none } : Wk), r3785))))
def pisNaN (x : Int) : Option (Bool) := (some (!(decide (x = x))))
def pcompare (x : Int) (y : Int) : Option (Int) := ((pisNaN x).bind fun r3842 => ((pisNaN y).bind fun r3847 => (if r3842 = true then (if r3847 = true then (some (0 : Int)) else (some (-1 : Int))) else (if r3847 = true then (some (1 : Int)) else (if x < y then (some (-1 : Int)) else (if y < x then (some (1 : Int)) else (some (0 : Int))))))))
def pappendSeq_L0 : List Crs → (List Crs) → Option (List Crs)
 | [], y4280 => (some y4280)
 | a4284 :: q4285, y4280 => (gd (y4280.length < 1048576) ((pappendSeq_L0 q4285) (y4280 ++ [a4284])))
def pappendSeq (seq : List Crs) : Option (List Crs) := (pappendSeq_L0 seq [])
def pcollect (seq : List Crs) : Option (List Crs) := ((pappendSeq seq).bind fun r4347 => (some r4347))
def pshow1 (a : Crs) (b : Crs) : Option (Int) := ((pharvestD a.d).bind fun r4366 => ((pharvestD b.d).bind fun r4373 => ((pcompare r4366 r4373).bind fun r4380 => (some r4380))))
def pmaxFunc_L0 (l : List Crs) (cmp : Crs → Crs → Option (Int)) : Nat → Int → Int → Int → Int → Int → Int → Int → Int → Int → Int → Int → Int → Int → Int → Int → Int → Int → Option (Crs)
 | 0, _, _, _, _, _, _, _, _, _, _, _, _, _, _, _, _, _ => none
 | d4426 + 1, y4410, y4411, y4412, y4413, y4414, y4415, y4416, y4417, y4418, y4419, y4420, y4421, y4422, y4423, y4424, y4425, x21 => (if x21 < (l.length : Int) then ((idx l x21).bind fun v4428 => ((cmp v4428 ({ t := ({ Week := y4410, Damage := y4411, Old := y4412 } : Trh), d := ({ d0 := y4413, d1 := y4414, d2 := y4415, d3 := y4416, d4 := y4417, d5 := y4418, d6 := y4419, d7 := y4420, d8 := y4421, d9 := y4422, d10 := y4423, d11 := y4424, d12 := y4425 } : Dm) } : Crs)).bind fun r4431 => (if (0 : Int) < r4431 then ((idx l x21).bind fun v4439 => (gd (fitsP .i64 (x21 + 1)) (pmaxFunc_L0 l cmp d4426 v4439.t.Week v4439.t.Damage v4439.t.Old v4439.d.d0 v4439.d.d1 v4439.d.d2 v4439.d.d3 v4439.d.d4 v4439.d.d5 v4439.d.d6 v4439.d.d7 v4439.d.d8 v4439.d.d9 v4439.d.d10 v4439.d.d11 v4439.d.d12 (x21 + 1)))) else (gd (fitsP .i64 (x21 + 1)) (pmaxFunc_L0 l cmp d4426 y4410 y4411 y4412 y4413 y4414 y4415 y4416 y4417 y4418 y4419 y4420 y4421 y4422 y4423 y4424 y4425 (x21 + 1)))))) else (some ({ t := ({ Week := y4410, Damage := y4411, Old := y4412 } : Trh), d := ({ d0 := y4413, d1 := y4414, d2 := y4415, d3 := y4416, d4 := y4417, d5 := y4418, d6 := y4419, d7 := y4420, d8 := y4421, d9 := y4422, d10 := y4423, d11 := y4424, d12 := y4425 } : Dm) } : Crs)))
def pmaxFunc (l : List Crs) (cmp : Crs → Crs → Option (Int)) : Option (Crs) := (if (l.length : Int) < (1 : Int) then none else ((idx l (0 : Int)).bind fun v4393 => (pmaxFunc_L0 l cmp (((l.length : Int) - (1 : Int)).toNat + 1) v4393.t.Week v4393.t.Damage v4393.t.Old v4393.d.d0 v4393.d.d1 v4393.d.d2 v4393.d.d3 v4393.d.d4 v4393.d.d5 v4393.d.d6 v4393.d.d7 v4393.d.d8 v4393.d.d9 v4393.d.d10 v4393.d.d11 v4393.d.d12 (1 : Int))))
def pminFunc_L0 (l : List Crs) (cmp : Crs → Crs → Option (Int)) : Nat → Int → Int → Int → Int → Int → Int → Int → Int → Int → Int → Int → Int → Int → Int → Int → Int → Int → Option (Crs)
 | 0, _, _, _, _, _, _, _, _, _, _, _, _, _, _, _, _, _ => none
 | d4495 + 1, y4479, y4480, y4481, y4482, y4483, y4484, y4485, y4486, y4487, y4488, y4489, y4490, y4491, y4492, y4493, y4494, x21 => (if x21 < (l.length : Int) then ((idx l x21).bind fun v4497 => ((cmp v4497 ({ t := ({ Week := y4479, Damage := y4480, Old := y4481 } : Trh), d := ({ d0 := y4482, d1 := y4483, d2 := y4484, d3 := y4485, d4 := y4486, d5 := y4487, d6 := y4488, d7 := y4489, d8 := y4490, d9 := y4491, d10 := y4492, d11 := y4493, d12 := y4494 } : Dm) } : Crs)).bind fun r4500 => (if r4500 < 0 then ((idx l x21).bind fun v4508 => (gd (fitsP .i64 (x21 + 1)) (pminFunc_L0 l cmp d4495 v4508.t.Week v4508.t.Damage v4508.t.Old v4508.d.d0 v4508.d.d1 v4508.d.d2 v4508.d.d3 v4508.d.d4 v4508.d.d5 v4508.d.d6 v4508.d.d7 v4508.d.d8 v4508.d.d9 v4508.d.d10 v4508.d.d11 v4508.d.d12 (x21 + 1)))) else (gd (fitsP .i64 (x21 + 1)) (pminFunc_L0 l cmp d4495 y4479 y4480 y4481 y4482 y4483 y4484 y4485 y4486 y4487 y4488 y4489 y4490 y4491 y4492 y4493 y4494 (x21 + 1)))))) else (some ({ t := ({ Week := y4479, Damage := y4480, Old := y4481 } : Trh), d := ({ d0 := y4482, d1 := y4483, d2 := y4484, d3 := y4485, d4 := y4486, d5 := y4487, d6 := y4488, d7 := y4489, d8 := y4490, d9 := y4491, d10 := y4492, d11 := y4493, d12 := y4494 } : Dm) } : Crs)))
def pminFunc (l : List Crs) (cmp : Crs → Crs → Option (Int)) : Option (Crs) := (if (l.length : Int) < (1 : Int) then none else ((idx l (0 : Int)).bind fun v4462 => (pminFunc_L0 l cmp (((l.length : Int) - (1 : Int)).toNat + 1) v4462.t.Week v4462.t.Damage v4462.t.Old v4462.d.d0 v4462.d.d1 v4462.d.d2 v4462.d.d3 v4462.d.d4 v4462.d.d5 v4462.d.d6 v4462.d.d7 v4462.d.d8 v4462.d.d9 v4462.d.d10 v4462.d.d11 v4462.d.d12 (1 : Int))))
def pShow (s : Ssn) (field : Int) (high : Bool) : Option (Trh × Int) := ((popenAsked s field true).bind fun r4536 => (if r4536.2 = (0 : Int) then ((ptruths r4536.1 field).bind fun r4574 => ((pcollect r4574).bind fun r4585 => (if high = true then ((pmaxFunc r4585 (fun a4597 a4598 => pshow1 a4597 a4598)).bind fun r4600 => (some (r4600.t, (0 : Int)))) else ((pminFunc r4585 (fun a4615 a4616 => pshow1 a4615 a4616)).bind fun r4618 => (some (r4618.t, (0 : Int))))))) else (some (({ Week := (0 : Int), Damage := (0 : Int), Old := (0 : Int) } : Trh), r4536.2))))
def pGrowthShows (s : Ssn) (field : Int) (high : Bool) : Option (Bool) := ((plThin s).bind fun r6325 => (if r6325 = true then ((plSeason s).bind fun r6338 => ((pShow r6338 field high).bind fun r6351 => ((plSure s).bind fun r6369 => ((plFault s).bind fun r6376 => (if r6376 = 0 then ((plIsField s field).bind fun r6384 => (if r6384 = true then (if r6369 = 0 then ((prTruths s field).bind fun r6431 => ((prBounds s field r6431).bind fun r6442 => (if r6351.2 = (0 : Int) then ((plBack r6351.1).bind fun r6464 => ((prIsTruth s field r6464).bind fun r6472 => (if r6472 = true then ((plBack r6351.1).bind fun r6481 => ((prHarvest s field r6481).bind fun r6489 => (if high = true then (if r6489 = r6442.Harvest.Hi then ((pawake).bind fun r6499 => (some r6499)) else (some false)) else (if r6489 = r6442.Harvest.Lo then ((pawake).bind fun r6508 => (some r6508)) else (some false))))) else (some false)))) else (some false)))) else (if r6351.2 = r6369 then (gd (fitsP .i64 r6351.1.Week) (gd (fitsP .i64 (0 : Int)) (gd (fitsP .i64 r6351.1.Damage) (gd (fitsP .i64 (0 : Int)) (gd (fitsP .i64 r6351.1.Old) (gd (fitsP .i64 (0 : Int)) (if ((decide (r6351.1.Week = (0 : Int))) && ((decide (r6351.1.Damage = (0 : Int))) && (decide (r6351.1.Old = (0 : Int))))) = true then ((pawake).bind fun r6416 => (some r6416)) else (some false)))))))) else (some false))) else (if r6351.2 = (2 : Int) then (gd (fitsP .i64 r6351.1.Week) (gd (fitsP .i64 (0 : Int)) (gd (fitsP .i64 r6351.1.Damage) (gd (fitsP .i64 (0 : Int)) (gd (fitsP .i64 r6351.1.Old) (gd (fitsP .i64 (0 : Int)) (if ((decide (r6351.1.Week = (0 : Int))) && ((decide (r6351.1.Damage = (0 : Int))) && (decide (r6351.1.Old = (0 : Int))))) = true then ((pawake).bind fun r6400 => (some r6400)) else (some false)))))))) else (some false)))) else (if r6369 = 0 then ((prTruths s field).bind fun r6540 => ((prBounds s field r6540).bind fun r6551 => (if r6351.2 = (0 : Int) then ((plBack r6351.1).bind fun r6573 => ((prIsTruth s field r6573).bind fun r6581 => (if r6581 = true then ((plBack r6351.1).bind fun r6590 => ((prHarvest s field r6590).bind fun r6598 => (if high = true then (if r6598 = r6551.Harvest.Hi then ((pawake).bind fun r6608 => (some r6608)) else (some false)) else (if r6598 = r6551.Harvest.Lo then ((pawake).bind fun r6617 => (some r6617)) else (some false))))) else (some false)))) else (some false)))) else (if r6351.2 = r6369 then (gd (fitsP .i64 r6351.1.Week) (gd (fitsP .i64 (0 : Int)) (gd (fitsP .i64 r6351.1.Damage) (gd (fitsP .i64 (0 : Int)) (gd (fitsP .i64 r6351.1.Old) (gd (fitsP .i64 (0 : Int)) (if ((decide (r6351.1.Week = (0 : Int))) && ((decide (r6351.1.Damage = (0 : Int))) && (decide (r6351.1.Old = (0 : Int))))) = true then ((pawake).bind fun r6525 => (some r6525)) else (some false)))))))) else (some false)))))))) else ((pawake).bind fun r6332 => (some r6332))))
end
end Go.Proofs.YtmlaphekbnanjaaGreat

namespace Go.Proofs.YtmlaphekbnanjaaGreat
open _root_.Go.Proofs.Tryz
open Go.Abs
set_option maxRecDepth 100000
noncomputable section
theorem c144 {a100 : Int} {b0 : Nat} {m : M} {Q : V → M → Prop} (h :
 (∃ c0 : C, ((ldC m (C.ptr b0 0)) = (some c0)) ∧ callP prog tbl [(V.c (Il a100))] c0 m (fun v1 m2 => 
 ∃ b3 : Bool, (v1 = (V.c (C.bool b3))) ∧ Q (V.c (C.bool (!b3))) m2))) : Wc prog tbl 144 [.c (Il a100), .c (.ptr b0 0)] m Q :=
 wc_eq (n := 2) rfl (by kernel_rfl) (by kernel_rfl) h
theorem c131 {a100 : C} {b0 : Nat} {m : M} {Q : V → M → Prop} (h :
 (∃ c0 : C, ((ldC m (C.ptr b0 0)) = (some c0)) ∧ callP prog tbl [(V.c a100)] c0 m (fun v1 m2 => ∃ b3 : Bool, 
 (v1 = (V.c (C.bool b3))) ∧ Q (V.c (C.bool (!b3))) m2))) : Wc prog tbl 131 [.c (a100), .c (.ptr b0 0)] m Q :=
 wc_eq (n := 2) rfl (by kernel_rfl) (by kernel_rfl) h
theorem c109 {a100 : Int} {a101 : Int} {a102 : Int} {a103 : Int} {a104 : Int} {a105 : Int} {a106 : Int} {b0 : Nat} {m : M} {Q : V → M → Prop} (h :
 (∀ m0 : M, (m0 = (M.new m (AO.cells 7 [(Il a100), (Il a101), (Il a102), 
 (Il a103), (Il a104), (Il a105), (Il a106)] false))) → 
 ∃ c1 : C, ((ldC m0 (C.ptr b0 0)) = (some c1)) ∧ ∃ x2, ∃ x3, ∃ x4, ∃ x5, 
 ∃ x6, ∃ x7, ∃ x8, ((ldA m0 (C.ptr m.nxt 0) 7) = (some [(Il x2), 
 (Il x3), (Il x4), (Il x5), (Il x6), 
 (Il x7), (Il x8)])) ∧ callP prog tbl [(V.agg 7 [(Il x2), 
 (Il x3), (Il x4), (Il x5), (Il x6), 
 (Il x7), (Il x8)])] c1 m0 (fun v9 m10 => ∃ b11 : Bool, (v9 = (V.c (C.bool b11))) ∧ 
 Q (V.c (C.bool (!b11))) m10))) : Wc prog tbl 109 [.agg 7 [Il a100, Il a101, Il a102, Il a103, Il a104, Il a105, Il a106], .c (.ptr b0 0)] m Q :=
 wc_eq (n := 2) rfl (by kernel_rfl) (by kernel_rfl) h
theorem c135 {a100 : Int} {a101 : Int} {a102 : Int} {a103 : Int} {b0 : Nat} {m : M} {Q : V → M → Prop} (h :
 (∀ m0 : M, (m0 = (M.new m (AO.cells 4 [(Il a100), (Il a101), (Il a102), 
 (Il a103)] false))) → ∃ c1 : C, ((ldC m0 (C.ptr b0 0)) = (some c1)) ∧ ∃ x2, 
 ∃ x3, ∃ x4, ∃ x5, ((ldA m0 (C.ptr m.nxt 0) 4) = (some [(Il x2), 
 (Il x3), (Il x4), (Il x5)])) ∧ callP prog tbl [(V.agg 4 [(Il x2), 
 (Il x3), (Il x4), (Il x5)])] c1 m0 (fun v6 m7 => 
 ∃ b8 : Bool, (v6 = (V.c (C.bool b8))) ∧ Q (V.c (C.bool (!b8))) m7))) : Wc prog tbl 135 [.agg 4 [Il a100, Il a101, Il a102, Il a103], .c (.ptr b0 0)] m Q :=
 wc_eq (n := 2) rfl (by kernel_rfl) (by kernel_rfl) h
theorem c117 {a100 : Int} {a101 : Int} {a102 : Int} {a103 : Int} {b0 : Nat} {b1 : Nat} {m : M} {Q : V → M → Prop} (h :
 (∀ m0 : M, (m0 = (M.new m (AO.cells 4 [(Il a100), (Il a101), (Il a102), 
 (Il a103)] false))) → isPt (C.ptr m.nxt 0) ∧ ∃ x1, ((ldC m0 (C.ptr m.nxt 0)) = (some (Il x1))) ∧ 
 ∃ x2, ((ldC m0 (C.ptr b0 0)) = (some (Il x2))) ∧ ifB (!decide (x1 = x2)) (Q (V.c (C.bool true)) m0) (isPt (C.ptr m.nxt 0) ∧ 
 ∃ x3, ∃ x4, ((ldA m0 (C.ptr m.nxt 2) 2) = (some [(Il x3), (Il x4)])) ∧ 
 ∃ x5, ∃ x6, ∃ x7, ∃ x8, ∃ x9, ∃ x10, ∃ x11, ∃ x12, 
 ∃ x13, ∃ x14, ∃ x15, ∃ x16, ∃ x17, ∃ x18, ∃ x19, 
 ∃ x20, ((ldA m0 (C.ptr b1 0) 16) = (some [(Il x5), 
 (Il x6), (Il x7), (Il x8), (Il x9), 
 (Il x10), (Il x11), (Il x12), (Il x13), 
 (Il x14), (Il x15), (Il x16), (Il x17), 
 (Il x18), (Il x19), (Il x20)])) ∧ 
 isPt (C.ptr m.nxt 0) ∧ ∃ x21, ((ldC m0 (C.ptr m.nxt 1)) = (some (Il x21))) ∧ 
 Wc prog tbl 72 [(V.agg 16 [(Il x5), (Il x6), (Il x7), 
 (Il x8), (Il x9), (Il x10), (Il x11), 
 (Il x12), (Il x13), (Il x14), (Il x15), 
 (Il x16), (Il x17), (Il x18), (Il x19), 
 (Il x20)]), (V.c (Il x21))] m0 (fun v22 m23 => 
 ∃ x24, (v22 = (V.c (Il x24))) ∧ ((ldA m23 (C.ptr m.nxt 2) 2) = (some [(Il x3), 
 (Il x4)])) ∧ Wc prog tbl 112 [(V.agg 2 [(Il x3), 
 (Il x4)]), (V.c (Il x24))] m23 (fun v25 m26 => 
 ∃ b27 : Bool, (v25 = (V.c (C.bool b27))) ∧ Q (V.c (C.bool b27)) m26))))) : Wc prog tbl 117 [.agg 4 [Il a100, Il a101, Il a102, Il a103], .c (.ptr b0 0), .c (.ptr b1 0)] m Q :=
 wc_eq (n := 3) rfl (by kernel_rfl) (by kernel_rfl) h
theorem c138 {a100 : C} {b0 : Nat} {m : M} {Q : V → M → Prop} (h :
 (∃ x0, ∃ x1, ((ldA m (C.ptr b0 0) 2) = (some [(Il x0), (Il x1)])) ∧ 
 Wc prog tbl 110 [(V.agg 2 [(Il x0), (Il x1)])] m (fun v2 m3 => ∃ x4, 
 (v2 = (V.c (Il x4))) ∧ ∀ R5 : List V → M → Prop, (∀ x6 : Int, ∀ m7 : M, (ifB (decide (x6 < x4)) (isPt (C.ptr b0 0) ∧ 
 ∃ x8, ((ldC m7 (C.ptr b0 0)) = (some (Il x8))) ∧ fitsP .i64 (x8 + x6) ∧ 
 callP prog tbl [(V.c (Il (x8 + x6)))] a100 m7 (fun v9 m10 => ∃ b11 : Bool, 
 (v9 = (V.c (C.bool b11))) ∧ ifB (!b11) (Q (V.tup []) m10) (fitsP .i64 (x6 + 1) ∧ 
 R5 [(V.c (Il (x6 + 1)))] m10))) (Q (V.tup []) m7)) → 
 R5 [(V.c (Il x6))] m7) → R5 [(V.c (Il 0))] m3))) : Wc prog tbl 138 [.c (a100), .c (.ptr b0 0)] m Q :=
 wc_eq (n := 2) rfl (by kernel_rfl) (by kernel_rfl) h
theorem c137 {a100 : C} {b0 : Nat} {b1 : Nat} {m : M} {Q : V → M → Prop} (h :
 (∀ m0 : M, (m0 = (M.new m (AO.cells 1 [a100] false))) → isPt (C.ptr b0 0) ∧ ∃ x1, ∃ x2, ((ldA m0 (C.ptr b0 1) 2) = (some [(Il x1), 
 (Il x2)])) ∧ Wc prog tbl 124 [(V.agg 2 [(Il x1), (Il x2)])] m0 (fun v3 m4 => 
 ∃ c5 : C, (v3 = (V.c c5)) ∧ rangeP prog tbl c5 m4 (fun l6 m7 R8 R9 => ∃ x10, (l6 = [(V.c (Il x10))]) ∧ 
 ∀ m11 : M, (m11 = (M.new m7 (AO.cells 1 [(Il 0)] false))) → ∃ m12 : M, 
 ((stC m11 (C.ptr m7.nxt 0) 1 [(Il x10)]) = (some m12)) ∧ R8 m12 (fun m13 => 
 isPt (C.ptr b0 0) ∧ ∃ x14, ∃ x15, ((ldA m13 (C.ptr b0 3) 2) = (some [(Il x14), 
 (Il x15)])) ∧ Wc prog tbl 124 [(V.agg 2 [(Il x14), 
 (Il x15)])] m13 (fun v16 m17 => ∃ c18 : C, (v16 = (V.c c18)) ∧ 
 rangeP prog tbl c18 m17 (fun l19 m20 R21 R22 => ∃ x23, (l19 = [(V.c (Il x23))]) ∧ 
 ∀ m24 : M, (m24 = (M.new m20 (AO.cells 1 [(Il 0)] false))) → 
 ∃ m25 : M, ((stC m24 (C.ptr m20.nxt 0) 1 [(Il x23)]) = (some m25)) ∧ 
 R21 m25 (fun m26 => ∀ m27 : M, (m27 = (mGrow m26 1)) → isPt (C.ptr b1 0) ∧ 
 ∃ c28 : C, ((ldC m27 (C.ptr b1 4)) = (some c28)) ∧ ∃ x29, ∃ x30, 
 ∃ x31, ∃ x32, ∃ x33, ∃ x34, ∃ x35, ((ldA m27 (C.ptr b0 0) 7) = (some [(Il x29), 
 (Il x30), (Il x31), (Il x32), (Il x33), 
 (Il x34), (Il x35)])) ∧ ∃ x36, ((ldC m27 (C.ptr m7.nxt 0)) = (some (Il x36))) ∧ 
 ∃ x37, ((ldC m27 (C.ptr m20.nxt 0)) = (some (Il x37))) ∧ 
 Wc prog tbl 125 [(V.agg 7 [(Il x29), (Il x30), 
 (Il x31), (Il x32), (Il x33), (Il x34), 
 (Il x35)]), (V.c (Il x36)), (V.c (Il x37))] m27 (fun v38 m39 => 
 ∃ x40, ∃ x41, ∃ x42, ∃ x43, (v38 = (V.agg 4 [(Il x40), 
 (Il x41), (Il x42), (Il x43)])) ∧ 
 (ifB (noFnC c28) ((ldC m39 (C.ptr b1 4)) = (some c28)) False) ∧ ∃ y44 : Option U, 
 ((lkM prog 170 m39 c28 (V.agg 4 [(Il x40), (Il x41), 
 (Il x42), (Il x43)])) = (some y44)) ∧ ((y44 = Option.none) → 
 ∀ m45 : M, (m45 = (M.set m39 (m26.nxt + 0) (AO.cells 13 [(Il 0), 
 (Il 0), (Il 0), (Il 0), 
 (Il 0), (Il 0), (Il 0), 
 (Il 0), (Il 0), (Il 0), 
 (Il 0), (Il 0), (Il 0)] false))) → 
 (∃ y46 : Option U, ((lkM prog 170 m45 c28 (V.agg 4 [(Il x40), 
 (Il x41), (Il x42), (Il x43)])) = (some y46)) ∧ 
 (optB y46 ((some (V.agg 13 [(Il 0), (Il 0), 
 (Il 0), (Il 0), (Il 0), 
 (Il 0), (Il 0), (Il 0), 
 (Il 0), (Il 0), (Il 0), 
 (Il 0), (Il 0)])) = (some (V.agg 13 [(Il 0), 
 (Il 0), (Il 0), (Il 0), 
 (Il 0), (Il 0), (Il 0), 
 (Il 0), (Il 0), (Il 0), 
 (Il 0), (Il 0), (Il 0)]))) fun u47 => 
 (some (uV u47)) = (some (V.agg 13 [(Il 0), 
 (Il 0), (Il 0), (Il 0), 
 (Il 0), (Il 0), (Il 0), 
 (Il 0), (Il 0), (Il 0), 
 (Il 0), (Il 0), (Il 0)]))) ∧ 
 true = true) ∧ ((ldC m45 (C.ptr m20.nxt 0)) = (some (Il x37))) ∧ 
 ((ldC m45 (C.ptr m7.nxt 0)) = (some (Il x36))) ∧ ((ldA m45 (C.ptr b0 0) 7) = (some [(Il x29), 
 (Il x30), (Il x31), (Il x32), (Il x33), 
 (Il x34), (Il x35)])) ∧ (ifB (noFnC c28) ((ldC m45 (C.ptr b1 4)) = (some c28)) False) ∧ 
 ∃ m48 : M, ((stC m45 (C.ptr (m26.nxt + 0) 0) 13 [(Il 0), 
 (Il 0), (Il 0), (Il 0), 
 (Il 0), (Il 0), (Il 0), 
 (Il 0), (Il 0), (Il 0), 
 (Il 0), (Il 0), (Il 0)]) = (some m48)) ∧ 
 isPt (C.ptr b0 0) ∧ ∃ x49, ∃ x50, ((ldA m48 (C.ptr b0 5) 2) = (some [(Il x49), 
 (Il x50)])) ∧ Wc prog tbl 124 [(V.agg 2 [(Il x49), 
 (Il x50)])] m48 (fun v51 m52 => ∃ c53 : C, (v51 = (V.c c53)) ∧ 
 rangeP prog tbl c53 m52 (fun l54 m55 R56 R57 => ∃ x58, (l54 = [(V.c (Il x58))]) ∧ 
 R56 m55 (fun m59 => ∃ c60 : C, ((ldC m59 (C.ptr m.nxt 0)) = (some c60)) ∧ 
 ∃ x61, ((ldC m59 (C.ptr m7.nxt 0)) = (some (Il x61))) ∧ 
 ∃ x62, ((ldC m59 (C.ptr m20.nxt 0)) = (some (Il x62))) ∧ 
 ∃ x63, ∃ x64, ∃ x65, ∃ x66, ∃ x67, ∃ x68, 
 ∃ x69, ∃ x70, ∃ x71, ∃ x72, ∃ x73, ∃ x74, 
 ∃ x75, ((ldA m59 (C.ptr (m26.nxt + 0) 0) 13) = (some [(Il x63), 
 (Il x64), (Il x65), (Il x66), (Il x67), 
 (Il x68), (Il x69), (Il x70), (Il x71), 
 (Il x72), (Il x73), (Il x74), (Il x75)])) ∧ 
 callP prog tbl [(V.agg 16 [(Il x61), (Il x62), 
 (Il x58), (Il x63), (Il x64), (Il x65), 
 (Il x66), (Il x67), (Il x68), (Il x69), 
 (Il x70), (Il x71), (Il x72), (Il x73), 
 (Il x74), (Il x75)])] c60 m59 (fun v76 m77 => ∃ b78 : Bool, 
 (v76 = (V.c (C.bool b78))) ∧ ifB (!b78) (R57 Ex.ret m77) (R57 Ex.nrm m77)))) (After.mk (fun m79 => 
 R22 Ex.nrm m79) [] (fun m80 => R22 Ex.ret m80)))) ∧ ∀ u81 : U, 
 (y44 = (some u81)) → ∃ x82, ∃ x83, ∃ x84, ∃ x85, 
 ∃ x86, ∃ x87, ∃ x88, ∃ x89, ∃ x90, ∃ x91, 
 ∃ x92, ∃ x93, ∃ x94, (u81 = (U.agg 13 [(Il x82), 
 (Il x83), (Il x84), (Il x85), (Il x86), 
 (Il x87), (Il x88), (Il x89), (Il x90), 
 (Il x91), (Il x92), (Il x93), (Il x94)])) ∧ 
 ∀ m95 : M, (m95 = (M.set m39 (m26.nxt + 0) (AO.cells 13 [(Il 0), 
 (Il 0), (Il 0), (Il 0), 
 (Il 0), (Il 0), (Il 0), 
 (Il 0), (Il 0), (Il 0), 
 (Il 0), (Il 0), (Il 0)] false))) → 
 (∃ y96 : Option U, ((lkM prog 170 m95 c28 (V.agg 4 [(Il x40), 
 (Il x41), (Il x42), (Il x43)])) = (some y96)) ∧ 
 (optB y96 ((some (V.agg 13 [(Il 0), (Il 0), 
 (Il 0), (Il 0), (Il 0), 
 (Il 0), (Il 0), (Il 0), 
 (Il 0), (Il 0), (Il 0), 
 (Il 0), (Il 0)])) = (some (V.agg 13 [(Il x82), 
 (Il x83), (Il x84), (Il x85), (Il x86), 
 (Il x87), (Il x88), (Il x89), (Il x90), 
 (Il x91), (Il x92), (Il x93), (Il x94)]))) fun u97 => 
 (some (uV u97)) = (some (V.agg 13 [(Il x82), (Il x83), 
 (Il x84), (Il x85), (Il x86), (Il x87), 
 (Il x88), (Il x89), (Il x90), (Il x91), 
 (Il x92), (Il x93), (Il x94)]))) ∧ 
 true = true) ∧ ((ldC m95 (C.ptr m20.nxt 0)) = (some (Il x37))) ∧ 
 ((ldC m95 (C.ptr m7.nxt 0)) = (some (Il x36))) ∧ ((ldA m95 (C.ptr b0 0) 7) = (some [(Il x29), 
 (Il x30), (Il x31), (Il x32), (Il x33), 
 (Il x34), (Il x35)])) ∧ (ifB (noFnC c28) ((ldC m95 (C.ptr b1 4)) = (some c28)) False) ∧ 
 ∃ m98 : M, ((stC m95 (C.ptr (m26.nxt + 0) 0) 13 [(Il x82), 
 (Il x83), (Il x84), (Il x85), (Il x86), 
 (Il x87), (Il x88), (Il x89), (Il x90), 
 (Il x91), (Il x92), (Il x93), (Il x94)]) = (some m98)) ∧ 
 isPt (C.ptr b0 0) ∧ ∃ x99, ∃ x100, ((ldA m98 (C.ptr b0 5) 2) = (some [(Il x99), 
 (Il x100)])) ∧ Wc prog tbl 124 [(V.agg 2 [(Il x99), 
 (Il x100)])] m98 (fun v101 m102 => ∃ c103 : C, (v101 = (V.c c103)) ∧ 
 rangeP prog tbl c103 m102 (fun l104 m105 R106 R107 => ∃ x108, (l104 = [(V.c (Il x108))]) ∧ 
 R106 m105 (fun m109 => ∃ c110 : C, ((ldC m109 (C.ptr m.nxt 0)) = (some c110)) ∧ 
 ∃ x111, ((ldC m109 (C.ptr m7.nxt 0)) = (some (Il x111))) ∧ 
 ∃ x112, ((ldC m109 (C.ptr m20.nxt 0)) = (some (Il x112))) ∧ 
 ∃ x113, ∃ x114, ∃ x115, ∃ x116, ∃ x117, ∃ x118, 
 ∃ x119, ∃ x120, ∃ x121, ∃ x122, ∃ x123, ∃ x124, 
 ∃ x125, ((ldA m109 (C.ptr (m26.nxt + 0) 0) 13) = (some [(Il x113), 
 (Il x114), (Il x115), (Il x116), 
 (Il x117), (Il x118), (Il x119), 
 (Il x120), (Il x121), (Il x122), 
 (Il x123), (Il x124), (Il x125)])) ∧ 
 callP prog tbl [(V.agg 16 [(Il x111), (Il x112), 
 (Il x108), (Il x113), (Il x114), 
 (Il x115), (Il x116), (Il x117), 
 (Il x118), (Il x119), (Il x120), 
 (Il x121), (Il x122), (Il x123), 
 (Il x124), (Il x125)])] c110 m109 (fun v126 m127 => 
 ∃ b128 : Bool, (v126 = (V.c (C.bool b128))) ∧ ifB (!b128) (R107 Ex.ret m127) (R107 Ex.nrm m127)))) (After.mk (fun m129 => 
 R22 Ex.nrm m129) [] (fun m130 => R22 Ex.ret m130)))))) (After.mk (fun m131 => 
 R9 Ex.nrm m131) [] (fun m132 => R9 Ex.ret m132))))) (After.mk (fun m133 => 
 Q (V.tup []) m133) [] (fun m134 => Q (V.tup []) m134))))) : Wc prog tbl 137 [.c (a100), .c (.ptr b0 0), .c (.ptr b1 0)] m Q :=
 wc_eq (n := 3) rfl (by kernel_rfl) (by kernel_rfl) h
theorem c119 {a100 : C} {b0 : Nat} {b1 : Nat} {m : M} {Q : V → M → Prop} (h :
 (∀ m0 : M, (m0 = (M.new m (AO.cells 1 [a100] false))) → ∃ x1, ∃ c2 : C, ∃ c3 : C, ∃ c4 : C, ∃ c5 : C, 
 ((ldA m0 (C.ptr b0 0) 5) = (some [(Il x1), c2, c3, c4, c5])) ∧ isPt (C.ptr b0 0) ∧ 
 isPt (C.ptr b0 0) ∧ ∃ c6 : C, ((ldC m0 (C.ptr b0 2)) = (some c6)) ∧ ∃ x7, ((ldC m0 (C.ptr b1 0)) = (some (Il x7))) ∧ 
 ∃ n8 : Nat, (x7 = ((n8 : Nat) : Int)) ∧ (n8 < (slLen c6)) ∧ ∃ x9, ∃ x10, ∃ x11, 
 ∃ x12, ∃ x13, ∃ x14, ∃ x15, ((ldA m0 (slAt c6 (n8 * 7)) 7) = (some [(Il x9), 
 (Il x10), (Il x11), (Il x12), (Il x13), 
 (Il x14), (Il x15)])) ∧ Wc prog tbl 120 [(V.agg 5 [(Il x1), 
 c2, c3, c4, c5]), (V.agg 7 [(Il x9), (Il x10), (Il x11), 
 (Il x12), (Il x13), (Il x14), (Il x15)])] m0 (fun v16 m17 => 
 ∃ c18 : C, (v16 = (V.c c18)) ∧ rangeP prog tbl c18 m17 (fun l19 m20 R21 R22 => 
 ∃ x23, ∃ x24, ∃ x25, ∃ x26, ∃ x27, ∃ x28, 
 ∃ x29, ∃ x30, ∃ x31, ∃ x32, ∃ x33, ∃ x34, 
 ∃ x35, ∃ x36, ∃ x37, ∃ x38, (l19 = [(V.agg 16 [(Il x23), 
 (Il x24), (Il x25), (Il x26), (Il x27), 
 (Il x28), (Il x29), (Il x30), (Il x31), 
 (Il x32), (Il x33), (Il x34), (Il x35), 
 (Il x36), (Il x37), (Il x38)])]) ∧ 
 ∀ m39 : M, (m39 = (M.new m20 (AO.cells 16 [(Il 0), (Il 0), 
 (Il 0), (Il 0), (Il 0), 
 (Il 0), (Il 0), (Il 0), 
 (Il 0), (Il 0), (Il 0), 
 (Il 0), (Il 0), (Il 0), 
 (Il 0), (Il 0)] false))) → ∃ m40 : M, 
 ((stC m39 (C.ptr m20.nxt 0) 16 [(Il x23), (Il x24), 
 (Il x25), (Il x26), (Il x27), (Il x28), 
 (Il x29), (Il x30), (Il x31), (Il x32), 
 (Il x33), (Il x34), (Il x35), (Il x36), 
 (Il x37), (Il x38)]) = (some m40)) ∧ R21 m40 (fun m41 => 
 isPt (C.ptr b0 0) ∧ ∃ x42, ∃ c43 : C, ∃ c44 : C, ∃ c45 : C, ((ldA m41 (C.ptr b0 0) 4) = (some [(Il x42), 
 c43, c44, c45])) ∧ ∃ x46, ((ldC m41 (C.ptr b1 0)) = (some (Il x46))) ∧ 
 ∃ x47, ∃ x48, ∃ x49, ∃ x50, ∃ x51, ∃ x52, 
 ∃ x53, ∃ x54, ∃ x55, ∃ x56, ∃ x57, ∃ x58, 
 ∃ x59, ∃ x60, ∃ x61, ∃ x62, ((ldA m41 (C.ptr m20.nxt 0) 16) = (some [(Il x47), 
 (Il x48), (Il x49), (Il x50), (Il x51), 
 (Il x52), (Il x53), (Il x54), (Il x55), 
 (Il x56), (Il x57), (Il x58), (Il x59), 
 (Il x60), (Il x61), (Il x62)])) ∧ 
 Wc prog tbl 75 [(V.agg 4 [(Il x42), c43, c44, c45]), (V.c (Il x46)), 
 (V.agg 16 [(Il x47), (Il x48), (Il x49), 
 (Il x50), (Il x51), (Il x52), (Il x53), 
 (Il x54), (Il x55), (Il x56), (Il x57), 
 (Il x58), (Il x59), (Il x60), (Il x61), 
 (Il x62)])] m41 (fun v63 m64 => ∃ b65 : Bool, (v63 = (V.c (C.bool b65))) ∧ 
 ifB b65 (∃ c66 : C, ((ldC m64 (C.ptr m.nxt 0)) = (some c66)) ∧ ∃ x67, 
 ∃ x68, ∃ x69, ∃ x70, ∃ x71, ∃ x72, ∃ x73, 
 ∃ x74, ∃ x75, ∃ x76, ∃ x77, ∃ x78, ∃ x79, 
 ∃ x80, ∃ x81, ∃ x82, ((ldA m64 (C.ptr m20.nxt 0) 16) = (some [(Il x67), 
 (Il x68), (Il x69), (Il x70), (Il x71), 
 (Il x72), (Il x73), (Il x74), (Il x75), 
 (Il x76), (Il x77), (Il x78), (Il x79), 
 (Il x80), (Il x81), (Il x82)])) ∧ 
 callP prog tbl [(V.agg 16 [(Il x67), (Il x68), 
 (Il x69), (Il x70), (Il x71), (Il x72), 
 (Il x73), (Il x74), (Il x75), (Il x76), 
 (Il x77), (Il x78), (Il x79), (Il x80), 
 (Il x81), (Il x82)])] c66 m64 (fun v83 m84 => ∃ b85 : Bool, 
 (v83 = (V.c (C.bool b85))) ∧ ifB (!b85) (R22 Ex.ret m84) (R22 Ex.nrm m84))) (R22 Ex.nrm m64)))) (After.mk (fun m86 => 
 Q (V.tup []) m86) [] (fun m87 => Q (V.tup []) m87))))) : Wc prog tbl 119 [.c (a100), .c (.ptr b0 0), .c (.ptr b1 0)] m Q :=
 wc_eq (n := 3) rfl (by kernel_rfl) (by kernel_rfl) h
end
end Go.Proofs.YtmlaphekbnanjaaGreat

namespace Go.Proofs.YtmlaphekbnanjaaGreat
open _root_.Go.Proofs.Tryz
open Go.Abs
set_option maxRecDepth 100000
noncomputable section
theorem w16 {a100 : Int} {a101 : C} {a102 : C} {a103 : C} {m : M} {Q : V → M → Prop} (h :
 (∀ m0 : M, (m0 = (M.new m (AO.cells 4 [(Il a100), a101, a102, a103] false))) → ∃ x1, ∃ c2 : C, 
 ∃ c3 : C, ∃ c4 : C, ((ldA m0 (C.ptr m.nxt 0) 4) = (some [(Il x1), c2, c3, c4])) ∧ 
 Wc prog tbl 55 [(V.agg 4 [(Il x1), c2, c3, c4])] m0 (fun v5 m6 => ∃ x7, (v5 = (V.c (Il x7))) ∧ 
 Q (V.c (Il x7)) m6))) : Wc prog tbl 16 [(V.agg 4 [(Il a100), a101, a102, a103])] m Q :=
 wc_eq (n := 1) rfl (by kernel_rfl) (by kernel_rfl) h
theorem w19 {a100 : Int} {a101 : C} {a102 : C} {a103 : C} {a200 : Int} {a300 : C} {m : M} {Q : V → M → Prop} (h :
 (∀ m0 : M, (m0 = (M.new m (AO.cells 4 [(Il a100), a101, a102, a103] false))) → ∀ m1 : M, (m1 = (M.new m0 (AO.cells 8 [(Il 0), 
 (Il 0), (Il 0), (Il 0), (Il 0), 
 (Il 0), (Il 0), (Il 0)] false))) → 
 Wc prog tbl 65 [] m1 (fun v2 m3 => ∃ x4, ∃ x5, (v2 = (V.agg 2 [(Il x4), 
 (Il x5)])) ∧ Wc prog tbl 65 [] m3 (fun v6 m7 => ∃ x8, ∃ x9, (v6 = (V.agg 2 [(Il x8), 
 (Il x9)])) ∧ Wc prog tbl 65 [] m7 (fun v10 m11 => ∃ x12, ∃ x13, 
 (v10 = (V.agg 2 [(Il x12), (Il x13)])) ∧ Wc prog tbl 65 [] m11 (fun v14 m15 => 
 ∃ x16, ∃ x17, (v14 = (V.agg 2 [(Il x16), (Il x17)])) ∧ 
 ∀ m18 : M, (m18 = (M.new m15 (AO.cells 8 [(Il 0), (Il 0), 
 (Il 0), (Il 0), (Il 0), 
 (Il 0), (Il 0), (Il 0)] false))) → 
 ∃ m19 : M, ((stC m18 (C.ptr m15.nxt 0) 8 [(Il x4), (Il x5), 
 (Il x8), (Il x9), (Il x12), (Il x13), 
 (Il x16), (Il x17)]) = (some m19)) ∧ ∀ R20 : List V → 
 M → Prop, (∀ x21 : Int, ∀ m22 : M, (isSl a300 ∧ ifB (decide (x21 < (((slLen a300) : Nat) : Int))) (isPt (C.ptr m15.nxt 0) ∧ 
 ∃ x23, ∃ x24, ((ldA m22 (C.ptr m15.nxt 0) 2) = (some [(Il x23), 
 (Il x24)])) ∧ ∃ n25 : Nat, (x21 = ((n25 : Nat) : Int)) ∧ (n25 < (slLen a300)) ∧ 
 isPt (slAt a300 (n25 * 3)) ∧ ∃ x26, ((ldC m22 (ptAdd (slAt a300 (n25 * 3)) 0)) = (some (Il x26))) ∧ 
 Wc prog tbl 66 [(V.agg 2 [(Il x23), (Il x24)]), 
 (V.c (Il x26))] m22 (fun v27 m28 => ∃ x29, ∃ x30, 
 (v27 = (V.agg 2 [(Il x29), (Il x30)])) ∧ isPt (C.ptr m15.nxt 0) ∧ 
 ∃ x31, ∃ x32, ((ldA m28 (C.ptr m15.nxt 2) 2) = (some [(Il x31), 
 (Il x32)])) ∧ ((ldA m22 (C.ptr m15.nxt 2) 2) = (some [(Il x31), 
 (Il x32)])) ∧ ∃ n33 : Nat, (x21 = ((n33 : Nat) : Int)) ∧ (n33 < (slLen a300)) ∧ 
 isPt (slAt a300 (n33 * 3)) ∧ ∃ x34, ((ldC m28 (ptAdd (slAt a300 (n33 * 3)) 1)) = (some (Il x34))) ∧ 
 ((ldC m22 (ptAdd (slAt a300 (n33 * 3)) 1)) = (some (Il x34))) ∧ 
 Wc prog tbl 66 [(V.agg 2 [(Il x31), (Il x32)]), 
 (V.c (Il x34))] m28 (fun v35 m36 => ∃ x37, ∃ x38, 
 (v35 = (V.agg 2 [(Il x37), (Il x38)])) ∧ isPt (C.ptr m15.nxt 0) ∧ 
 ∃ x39, ∃ x40, ((ldA m36 (C.ptr m15.nxt 4) 2) = (some [(Il x39), 
 (Il x40)])) ∧ ((ldA m28 (C.ptr m15.nxt 4) 2) = (some [(Il x39), 
 (Il x40)])) ∧ ((ldA m22 (C.ptr m15.nxt 4) 2) = (some [(Il x39), 
 (Il x40)])) ∧ ∃ n41 : Nat, (x21 = ((n41 : Nat) : Int)) ∧ (n41 < (slLen a300)) ∧ 
 isPt (slAt a300 (n41 * 3)) ∧ ∃ x42, ((ldC m36 (ptAdd (slAt a300 (n41 * 3)) 2)) = (some (Il x42))) ∧ 
 ((ldC m28 (ptAdd (slAt a300 (n41 * 3)) 2)) = (some (Il x42))) ∧ 
 ((ldC m22 (ptAdd (slAt a300 (n41 * 3)) 2)) = (some (Il x42))) ∧ 
 Wc prog tbl 66 [(V.agg 2 [(Il x39), (Il x40)]), 
 (V.c (Il x42))] m36 (fun v43 m44 => ∃ x45, ∃ x46, 
 (v43 = (V.agg 2 [(Il x45), (Il x46)])) ∧ isPt (C.ptr m15.nxt 0) ∧ 
 ∃ x47, ∃ x48, ((ldA m44 (C.ptr m15.nxt 6) 2) = (some [(Il x47), 
 (Il x48)])) ∧ ((ldA m36 (C.ptr m15.nxt 6) 2) = (some [(Il x47), 
 (Il x48)])) ∧ ((ldA m28 (C.ptr m15.nxt 6) 2) = (some [(Il x47), 
 (Il x48)])) ∧ ((ldA m22 (C.ptr m15.nxt 6) 2) = (some [(Il x47), 
 (Il x48)])) ∧ ∃ x49, ∃ c50 : C, ∃ c51 : C, ∃ c52 : C, 
 ((ldA m44 (C.ptr m.nxt 0) 4) = (some [(Il x49), c50, 
 c51, c52])) ∧ (ifB (allS noFnC [(Il x49), c50, c51, c52]) ((ldA m36 (C.ptr m.nxt 0) 4) = (some [(Il x49), 
 c50, c51, c52])) False) ∧ (ifB (allS noFnC [(Il x49), c50, c51, 
 c52]) ((ldA m28 (C.ptr m.nxt 0) 4) = (some [(Il x49), 
 c50, c51, c52])) False) ∧ (ifB (allS noFnC [(Il x49), c50, c51, 
 c52]) ((ldA m22 (C.ptr m.nxt 0) 4) = (some [(Il x49), 
 c50, c51, c52])) False) ∧ ∃ n53 : Nat, (x21 = ((n53 : Nat) : Int)) ∧ (n53 < (slLen a300)) ∧ 
 ∃ x54, ∃ x55, ∃ x56, ((ldA m44 (slAt a300 (n53 * 3)) 3) = (some [(Il x54), 
 (Il x55), (Il x56)])) ∧ ((ldA m36 (slAt a300 (n53 * 3)) 3) = (some [(Il x54), 
 (Il x55), (Il x56)])) ∧ ((ldA m28 (slAt a300 (n53 * 3)) 3) = (some [(Il x54), 
 (Il x55), (Il x56)])) ∧ ((ldA m22 (slAt a300 (n53 * 3)) 3) = (some [(Il x54), 
 (Il x55), (Il x56)])) ∧ Wc prog tbl 27 [(V.agg 4 [(Il x49), 
 c50, c51, c52]), (V.c (Il a200)), (V.agg 3 [(Il x54), 
 (Il x55), (Il x56)])] m44 (fun v57 m58 => ∃ x59, 
 (v57 = (V.c (Il x59))) ∧ ((ldA m58 (C.ptr m15.nxt 6) 2) = (some [(Il x47), 
 (Il x48)])) ∧ Wc prog tbl 66 [(V.agg 2 [(Il x47), 
 (Il x48)]), (V.c (Il x59))] m58 (fun v60 m61 => 
 ∃ x62, ∃ x63, (v60 = (V.agg 2 [(Il x62), (Il x63)])) ∧ 
 ∃ m64 : M, ((stC m61 (C.ptr m15.nxt 0) 8 [(Il x29), (Il x30), 
 (Il x37), (Il x38), (Il x45), (Il x46), 
 (Il x62), (Il x63)]) = (some m64)) ∧ fitsP .i64 (x21 + 1) ∧ 
 R20 [(V.c (Il (x21 + 1)))] m64)))))) (∃ x65, 
 ∃ x66, ∃ x67, ∃ x68, ∃ x69, ∃ x70, ∃ x71, 
 ∃ x72, ((ldA m22 (C.ptr m15.nxt 0) 8) = (some [(Il x65), 
 (Il x66), (Il x67), (Il x68), (Il x69), 
 (Il x70), (Il x71), (Il x72)])) ∧ 
 ∃ m73 : M, ((stC m22 (C.ptr m0.nxt 0) 8 [(Il x65), (Il x66), 
 (Il x67), (Il x68), (Il x69), (Il x70), 
 (Il x71), (Il x72)]) = (some m73)) ∧ ∃ x74, 
 ∃ x75, ∃ x76, ∃ x77, ∃ x78, ∃ x79, ∃ x80, 
 ∃ x81, ((ldA m73 (C.ptr m0.nxt 0) 8) = (some [(Il x74), 
 (Il x75), (Il x76), (Il x77), (Il x78), 
 (Il x79), (Il x80), (Il x81)])) ∧ 
 Q (V.agg 8 [(Il x74), (Il x75), (Il x76), 
 (Il x77), (Il x78), (Il x79), (Il x80), 
 (Il x81)]) m73)) → R20 [(V.c (Il x21))] m22) → 
 R20 [(V.c (Il 0))] m19)))))) : Wc prog tbl 19 [(V.agg 4 [(Il a100), a101, a102, a103]), (V.c (Il a200)), (V.c a300)] m Q :=
 wc_eq (n := 3) rfl (by kernel_rfl) (by kernel_rfl) h
theorem w22 {a100 : Int} {a101 : C} {a102 : C} {a103 : C} {a200 : Int} {a300 : Int} {a301 : Int} {a302 : Int} {m : M} {Q : V → M → Prop} (h :
 (∀ m0 : M, (m0 = (M.new m (AO.cells 4 [(Il a100), a101, a102, a103] false))) → ∀ m1 : M, (m1 = (M.new m0 (AO.cells 3 [(Il a300), 
 (Il a301), (Il a302)] false))) → ∃ x2, ∃ c3 : C, ∃ c4 : C, ∃ c5 : C, 
 ((ldA m1 (C.ptr m.nxt 0) 4) = (some [(Il x2), c3, c4, c5])) ∧ ∃ x6, 
 ∃ x7, ∃ x8, ((ldA m1 (C.ptr m0.nxt 0) 3) = (some [(Il x6), 
 (Il x7), (Il x8)])) ∧ Wc prog tbl 73 [(V.agg 4 [(Il x2), 
 c3, c4, c5]), (V.c (Il a200)), (V.agg 3 [(Il x6), (Il x7), 
 (Il x8)])] m1 (fun v9 m10 => ∃ x11, ∃ x12, ∃ x13, ∃ x14, 
 ∃ x15, ∃ x16, ∃ x17, ∃ x18, ∃ x19, ∃ x20, ∃ x21, 
 ∃ x22, ∃ x23, ∃ x24, ∃ x25, ∃ x26, ∃ b27 : Bool, 
 (v9 = (V.tup [(U.agg 16 [(Il x11), (Il x12), (Il x13), 
 (Il x14), (Il x15), (Il x16), (Il x17), 
 (Il x18), (Il x19), (Il x20), (Il x21), 
 (Il x22), (Il x23), (Il x24), (Il x25), 
 (Il x26)]), (U.c (C.bool b27))])) ∧ ∀ m28 : M, (m28 = (M.new m10 (AO.cells 16 [(Il 0), 
 (Il 0), (Il 0), (Il 0), 
 (Il 0), (Il 0), (Il 0), 
 (Il 0), (Il 0), (Il 0), 
 (Il 0), (Il 0), (Il 0), 
 (Il 0), (Il 0), (Il 0)] false))) → 
 ∃ m29 : M, ((stC m28 (C.ptr m10.nxt 0) 16 [(Il x11), (Il x12), 
 (Il x13), (Il x14), (Il x15), (Il x16), 
 (Il x17), (Il x18), (Il x19), (Il x20), 
 (Il x21), (Il x22), (Il x23), (Il x24), 
 (Il x25), (Il x26)]) = (some m29)) ∧ ifB (!b27) (Q (V.c (Il 0)) m29) (isPt (C.ptr m10.nxt 0) ∧ 
 ∃ x30, ∃ x31, ∃ x32, ∃ x33, ∃ x34, ∃ x35, 
 ∃ x36, ∃ x37, ∃ x38, ∃ x39, ∃ x40, ∃ x41, 
 ∃ x42, ((ldA m29 (C.ptr m10.nxt 3) 13) = (some [(Il x30), 
 (Il x31), (Il x32), (Il x33), (Il x34), 
 (Il x35), (Il x36), (Il x37), (Il x38), 
 (Il x39), (Il x40), (Il x41), (Il x42)])) ∧ 
 Wc prog tbl 74 [(V.agg 13 [(Il x30), (Il x31), 
 (Il x32), (Il x33), (Il x34), (Il x35), 
 (Il x36), (Il x37), (Il x38), (Il x39), 
 (Il x40), (Il x41), (Il x42)])] m29 (fun v43 m44 => 
 ∃ x45, (v43 = (V.c (Il x45))) ∧ Q (V.c (Il x45)) m44))))) : Wc prog tbl 22 [(V.agg 4 [(Il a100), a101, a102, a103]), (V.c (Il a200)), (V.agg 3 [(Il a300), (Il a301), (Il a302)])] m Q :=
 wc_eq (n := 3) rfl (by kernel_rfl) (by kernel_rfl) h
theorem w25 {a100 : Int} {a101 : C} {a102 : C} {a103 : C} {a200 : Int} {m : M} {Q : V → M → Prop} (h :
 (∀ m0 : M, (m0 = (M.new m (AO.cells 4 [(Il a100), a101, a102, a103] false))) → isPt (C.ptr m.nxt 0) ∧ 
 ∃ c1 : C, ((ldC m0 (C.ptr m.nxt 2)) = (some c1)) ∧ isSl c1 ∧ fitsP .i64 ((((slLen c1) : Nat) : Int) - (1 : Int)) ∧ 
 Wc prog tbl 29 [(V.c (Il a200)), (V.c (Il 0)), (V.c (Il ((((slLen c1) : Nat) : Int) - (1 : Int))))] m0 (fun v2 m3 => 
 ∃ b4 : Bool, (v2 = (V.c (C.bool b4))) ∧ Q (V.c (C.bool b4)) m3))) : Wc prog tbl 25 [(V.agg 4 [(Il a100), a101, a102, a103]), (V.c (Il a200))] m Q :=
 wc_eq (n := 2) rfl (by kernel_rfl) (by kernel_rfl) h
theorem w28 {a100 : Int} {a101 : C} {a102 : C} {a103 : C} {a200 : Int} {a300 : Int} {a301 : Int} {a302 : Int} {m : M} {Q : V → M → Prop} (h :
 (∀ m0 : M, (m0 = (M.new m (AO.cells 4 [(Il a100), a101, a102, a103] false))) → ∀ m1 : M, (m1 = (M.new m0 (AO.cells 3 [(Il a300), 
 (Il a301), (Il a302)] false))) → isPt (C.ptr m.nxt 0) ∧ ∃ c2 : C, 
 ((ldC m1 (C.ptr m.nxt 2)) = (some c2)) ∧ ∃ n3 : Nat, (a200 = ((n3 : Nat) : Int)) ∧ (n3 < (slLen c2)) ∧ 
 ∃ x4, ∃ x5, ∃ x6, ∃ x7, ∃ x8, ∃ x9, ∃ x10, ((ldA m1 (slAt c2 (n3 * 7)) 7) = (some [(Il x4), 
 (Il x5), (Il x6), (Il x7), (Il x8), 
 (Il x9), (Il x10)])) ∧ ∃ x11, ∃ x12, ∃ x13, 
 ((ldA m1 (C.ptr m0.nxt 0) 3) = (some [(Il x11), (Il x12), 
 (Il x13)])) ∧ Wc prog tbl 26 [(V.agg 7 [(Il x4), (Il x5), 
 (Il x6), (Il x7), (Il x8), (Il x9), 
 (Il x10)]), (V.agg 3 [(Il x11), (Il x12), 
 (Il x13)])] m1 (fun v14 m15 => ∃ b16 : Bool, (v14 = (V.c (C.bool b16))) ∧ 
 ifB (!b16) (Q (V.c (C.bool false)) m15) (∀ R17 : List V → M → Prop, (∀ b18 : Bool, 
 ∀ x19 : Int, ∀ m20 : M, (isPt (C.ptr m.nxt 0) ∧ ∃ c21 : C, ((ldC m20 (C.ptr m.nxt 3)) = (some c21)) ∧ 
 isSl c21 ∧ ifB (decide (x19 < (((slLen c21) : Nat) : Int))) (isPt (C.ptr m.nxt 0) ∧ 
 ∃ c22 : C, ((ldC m20 (C.ptr m.nxt 3)) = (some c22)) ∧ ∃ n23 : Nat, 
 (x19 = ((n23 : Nat) : Int)) ∧ (n23 < (slLen c22)) ∧ isPt (slAt c22 (n23 * 4)) ∧ 
 ∃ x24, ((ldC m20 (ptAdd (slAt c22 (n23 * 4)) 0)) = (some (Il x24))) ∧ 
 ifB (decide (x24 = a200)) (∃ x25, ∃ c26 : C, ∃ c27 : C, ∃ c28 : C, 
 ((ldA m20 (C.ptr m.nxt 0) 4) = (some [(Il x25), c26, 
 c27, c28])) ∧ isPt (C.ptr m.nxt 0) ∧ ∃ c29 : C, ((ldC m20 (C.ptr m.nxt 3)) = (some c29)) ∧ 
 ∃ n30 : Nat, (x19 = ((n30 : Nat) : Int)) ∧ (n30 < (slLen c29)) ∧ ∃ x31, 
 ∃ x32, ∃ x33, ∃ x34, ((ldA m20 (slAt c29 (n30 * 4)) 4) = (some [(Il x31), 
 (Il x32), (Il x33), (Il x34)])) ∧ 
 ∃ x35, ∃ x36, ∃ x37, ((ldA m20 (C.ptr m0.nxt 0) 3) = (some [(Il x35), 
 (Il x36), (Il x37)])) ∧ Wc prog tbl 77 [(V.agg 4 [(Il x25), 
 c26, c27, c28]), (V.agg 4 [(Il x31), (Il x32), 
 (Il x33), (Il x34)]), (V.agg 3 [(Il x35), 
 (Il x36), (Il x37)])] m20 (fun v38 m39 => ∃ b40 : Bool, 
 (v38 = (V.c (C.bool b40))) ∧ ifB (!b40) (Q (V.c (C.bool false)) m39) (fitsP .i64 (x19 + 1) ∧ 
 R17 [(V.c (C.bool b18)), (V.c (Il (x19 + 1)))] m39))) (fitsP .i64 (x19 + 1) ∧ 
 R17 [(V.c (C.bool b18)), (V.c (Il (x19 + 1)))] m20)) (Q (V.c (C.bool true)) m20)) → 
 R17 [(V.c (C.bool b18)), (V.c (Il x19))] m20) → R17 [(V.c (C.bool false)), 
 (V.c (Il 0))] m15)))) : Wc prog tbl 28 [(V.agg 4 [(Il a100), a101, a102, a103]), (V.c (Il a200)), (V.agg 3 [(Il a300), (Il a301), (Il a302)])] m Q :=
 wc_eq (n := 3) rfl (by kernel_rfl) (by kernel_rfl) h
theorem w49 {a100 : Int} {a101 : Int} {a102 : Int} {a103 : Int} {a104 : Int} {a105 : Int} {a106 : Int} {m : M} {Q : V → M → Prop} (h :
 (∀ m0 : M, (m0 = (M.new m (AO.cells 7 [(Il a100), (Il a101), (Il a102), 
 (Il a103), (Il a104), (Il a105), (Il a106)] false))) → 
 isPt (C.ptr m.nxt 0) ∧ ∃ x1, ∃ x2, ((ldA m0 (C.ptr m.nxt 1) 2) = (some [(Il x1), 
 (Il x2)])) ∧ Wc prog tbl 96 [(V.agg 2 [(Il x1), (Il x2)])] m0 (fun v3 m4 => 
 ∃ x5, (v3 = (V.c (Il x5))) ∧ isPt (C.ptr m.nxt 0) ∧ ∃ x6, ∃ x7, 
 ((ldA m4 (C.ptr m.nxt 3) 2) = (some [(Il x6), (Il x7)])) ∧ 
 ((ldA m0 (C.ptr m.nxt 3) 2) = (some [(Il x6), (Il x7)])) ∧ 
 Wc prog tbl 96 [(V.agg 2 [(Il x6), (Il x7)])] m4 (fun v8 m9 => 
 ∃ x10, (v8 = (V.c (Il x10))) ∧ ((0 : Int) ≤ x5) ∧ ((0 : Int) ≤ x10) ∧ 
 fitsP .i64 (x5 * x10) ∧ isPt (C.ptr m.nxt 0) ∧ ∃ x11, ∃ x12, 
 ((ldA m9 (C.ptr m.nxt 5) 2) = (some [(Il x11), (Il x12)])) ∧ 
 ((ldA m4 (C.ptr m.nxt 5) 2) = (some [(Il x11), (Il x12)])) ∧ 
 ((ldA m0 (C.ptr m.nxt 5) 2) = (some [(Il x11), (Il x12)])) ∧ 
 Wc prog tbl 96 [(V.agg 2 [(Il x11), (Il x12)])] m9 (fun v13 m14 => 
 ∃ x15, (v13 = (V.c (Il x15))) ∧ ((0 : Int) ≤ (x5 * x10)) ∧ 
 ((0 : Int) ≤ x15) ∧ fitsP .i64 ((x5 * x10) * x15) ∧ Q (V.c (Il ((x5 * x10) * x15))) m14))))) : Wc prog tbl 49 [(V.agg 7 [(Il a100), (Il a101), (Il a102), (Il a103), (Il a104), (Il a105), (Il a106)])] m Q :=
 wc_eq (n := 1) rfl (by kernel_rfl) (by kernel_rfl) h
theorem w55 {a100 : Int} {a101 : C} {a102 : C} {a103 : C} {m : M} {Q : V → M → Prop} (h :
 (∀ m0 : M, (m0 = (M.new m (AO.cells 4 [(Il a100), a101, a102, a103] false))) → isPt (C.ptr m.nxt 0) ∧ 
 ∃ x1, ((ldC m0 (C.ptr m.nxt 0)) = (some (Il x1))) ∧ ifB (decide ((12 : Int) < x1)) (Q (V.c (Il (3 : Int))) m0) (isPt (C.ptr m.nxt 0) ∧ 
 ∃ c2 : C, ((ldC m0 (C.ptr m.nxt 1)) = (some c2)) ∧ isSl c2 ∧ ifB (decide ((3 : Int) < (((slLen c2) : Nat) : Int))) (Q (V.c (Il (3 : Int))) m0) (isPt (C.ptr m.nxt 0) ∧ 
 ∃ c3 : C, ((ldC m0 (C.ptr m.nxt 2)) = (some c3)) ∧ isSl c3 ∧ ifB (decide ((3 : Int) < (((slLen c3) : Nat) : Int))) (Q (V.c (Il (3 : Int))) m0) (isPt (C.ptr m.nxt 0) ∧ 
 ∃ c4 : C, ((ldC m0 (C.ptr m.nxt 3)) = (some c4)) ∧ isSl c4 ∧ ifB (decide ((6 : Int) < (((slLen c4) : Nat) : Int))) (Q (V.c (Il (3 : Int))) m0) (isPt (C.ptr m.nxt 0) ∧ 
 ∃ x5, ((ldC m0 (C.ptr m.nxt 0)) = (some (Il x5))) ∧ ifB (decide (x5 < 0)) (Q (V.c (Il (1 : Int))) m0) (isPt (C.ptr m.nxt 0) ∧ 
 ∃ c6 : C, ((ldC m0 (C.ptr m.nxt 1)) = (some c6)) ∧ isSl c6 ∧ ifB (decide ((((slLen c6) : Nat) : Int) = (0 : Int))) (Q (V.c (Il (1 : Int))) m0) (isPt (C.ptr m.nxt 0) ∧ 
 ∃ c7 : C, ((ldC m0 (C.ptr m.nxt 2)) = (some c7)) ∧ isSl c7 ∧ ifB (decide ((((slLen c7) : Nat) : Int) = (0 : Int))) (Q (V.c (Il (1 : Int))) m0) (∀ R8 : List V → 
 M → Prop, (∀ x9 : Int, ∀ x10 : Int, ∀ m11 : M, (isPt (C.ptr m.nxt 0) ∧ 
 ∃ c12 : C, ((ldC m11 (C.ptr m.nxt 1)) = (some c12)) ∧ isSl c12 ∧ 
 ifB (decide (x10 < (((slLen c12) : Nat) : Int))) (∃ x13, ∃ c14 : C, ∃ c15 : C, 
 ∃ c16 : C, ((ldA m11 (C.ptr m.nxt 0) 4) = (some [(Il x13), 
 c14, c15, c16])) ∧ isPt (C.ptr m.nxt 0) ∧ ∃ c17 : C, ((ldC m11 (C.ptr m.nxt 1)) = (some c17)) ∧ 
 ∃ n18 : Nat, (x10 = ((n18 : Nat) : Int)) ∧ (n18 < (slLen c17)) ∧ ∃ c19 : C, 
 ((ldC m11 (slAt c17 (n18 * 1))) = (some c19)) ∧ Wc prog tbl 98 [(V.agg 4 [(Il x13), 
 c14, c15, c16]), (V.c c19)] m11 (fun v20 m21 => ∃ b22 : Bool, (v20 = (V.c (C.bool b22))) ∧ 
 ifB (!b22) (Q (V.c (Il (1 : Int))) m21) (fitsP .i64 (x10 + 1) ∧ 
 R8 [(V.c (Il x9)), (V.c (Il (x10 + 1)))] m21))) (∀ R23 : List V → 
 M → Prop, (∀ x24 : Int, ∀ x25 : Int, ∀ m26 : M, (isPt (C.ptr m.nxt 0) ∧ 
 ∃ c27 : C, ((ldC m26 (C.ptr m.nxt 2)) = (some c27)) ∧ isSl c27 ∧ 
 ifB (decide (x25 < (((slLen c27) : Nat) : Int))) (isPt (C.ptr m.nxt 0) ∧ ∃ c28 : C, 
 ((ldC m26 (C.ptr m.nxt 2)) = (some c28)) ∧ ∃ n29 : Nat, (x25 = ((n29 : Nat) : Int)) ∧ 
 (n29 < (slLen c28)) ∧ ∃ x30, ∃ x31, ∃ x32, ∃ x33, 
 ∃ x34, ∃ x35, ∃ x36, ((ldA m26 (slAt c28 (n29 * 7)) 7) = (some [(Il x30), 
 (Il x31), (Il x32), (Il x33), (Il x34), 
 (Il x35), (Il x36)])) ∧ ∀ m37 : M, (m37 = (M.new m26 (AO.cells 7 [(Il 0), 
 (Il 0), (Il 0), (Il 0), 
 (Il 0), (Il 0), (Il 0)] false))) → 
 ∃ m38 : M, ((stC m37 (C.ptr m26.nxt 0) 7 [(Il x30), (Il x31), 
 (Il x32), (Il x33), (Il x34), (Il x35), 
 (Il x36)]) = (some m38)) ∧ isPt (C.ptr m26.nxt 0) ∧ 
 ∃ x39, ((ldC m38 (C.ptr m26.nxt 0)) = (some (Il x39))) ∧ 
 isPt (C.ptr m.nxt 0) ∧ ∃ c40 : C, ((ldC m38 (C.ptr m.nxt 1)) = (some c40)) ∧ 
 isSl c40 ∧ fitsP .i64 ((((slLen c40) : Nat) : Int) - (1 : Int)) ∧ Wc prog tbl 29 [(V.c (Il x39)), 
 (V.c (Il 0)), (V.c (Il ((((slLen c40) : Nat) : Int) - (1 : Int))))] m38 (fun v41 m42 => 
 ∃ b43 : Bool, (v41 = (V.c (C.bool b43))) ∧ ifB (!b43) (Q (V.c (Il (1 : Int))) m42) (isPt (C.ptr m26.nxt 0) ∧ 
 ∃ x44, ∃ x45, ((ldA m42 (C.ptr m26.nxt 1) 2) = (some [(Il x44), 
 (Il x45)])) ∧ isPt (C.ptr m.nxt 0) ∧ ∃ x46, ((ldC m42 (C.ptr m.nxt 0)) = (some (Il x46))) ∧ 
 Wc prog tbl 99 [(V.agg 2 [(Il x44), (Il x45)]), 
 (V.c (Il 0)), (V.c (Il x46))] m42 (fun v47 m48 => 
 ∃ b49 : Bool, (v47 = (V.c (C.bool b49))) ∧ ifB (!b49) (Q (V.c (Il (1 : Int))) m48) (isPt (C.ptr m26.nxt 0) ∧ 
 ∃ x50, ∃ x51, ((ldA m48 (C.ptr m26.nxt 3) 2) = (some [(Il x50), 
 (Il x51)])) ∧ Wc prog tbl 99 [(V.agg 2 [(Il x50), 
 (Il x51)]), (V.c (Il 0)), (V.c (Il (100 : Int)))] m48 (fun v52 m53 => 
 ∃ b54 : Bool, (v52 = (V.c (C.bool b54))) ∧ ifB (!b54) (Q (V.c (Il (1 : Int))) m53) (isPt (C.ptr m26.nxt 0) ∧ 
 ∃ x55, ∃ x56, ((ldA m53 (C.ptr m26.nxt 5) 2) = (some [(Il x55), 
 (Il x56)])) ∧ Wc prog tbl 99 [(V.agg 2 [(Il x55), 
 (Il x56)]), (V.c (Il 0)), (V.c (Il (100 : Int)))] m53 (fun v57 m58 => 
 ∃ b59 : Bool, (v57 = (V.c (C.bool b59))) ∧ ifB (!b59) (Q (V.c (Il (1 : Int))) m58) (fitsP .i64 (x25 + 1) ∧ 
 R23 [(V.c (Il x24)), (V.c (Il (x25 + 1)))] m58))))))))) (∀ R60 : List V → 
 M → Prop, (∀ x61 : Int, ∀ x62 : Int, ∀ m63 : M, (isPt (C.ptr m.nxt 0) ∧ 
 ∃ c64 : C, ((ldC m63 (C.ptr m.nxt 3)) = (some c64)) ∧ isSl c64 ∧ 
 ifB (decide (x62 < (((slLen c64) : Nat) : Int))) (isPt (C.ptr m.nxt 0) ∧ ∃ c65 : C, 
 ((ldC m63 (C.ptr m.nxt 3)) = (some c65)) ∧ ∃ n66 : Nat, (x62 = ((n66 : Nat) : Int)) ∧ 
 (n66 < (slLen c65)) ∧ ∃ x67, ∃ x68, ∃ x69, ∃ x70, 
 ((ldA m63 (slAt c65 (n66 * 4)) 4) = (some [(Il x67), (Il x68), 
 (Il x69), (Il x70)])) ∧ ∀ m71 : M, (m71 = (M.new m63 (AO.cells 4 [(Il 0), 
 (Il 0), (Il 0), (Il 0)] false))) → 
 ∃ m72 : M, ((stC m71 (C.ptr m63.nxt 0) 4 [(Il x67), (Il x68), 
 (Il x69), (Il x70)]) = (some m72)) ∧ isPt (C.ptr m63.nxt 0) ∧ 
 ∃ x73, ((ldC m72 (C.ptr m63.nxt 0)) = (some (Il x73))) ∧ 
 isPt (C.ptr m.nxt 0) ∧ ∃ c74 : C, ((ldC m72 (C.ptr m.nxt 2)) = (some c74)) ∧ 
 isSl c74 ∧ fitsP .i64 ((((slLen c74) : Nat) : Int) - (1 : Int)) ∧ Wc prog tbl 29 [(V.c (Il x73)), 
 (V.c (Il 0)), (V.c (Il ((((slLen c74) : Nat) : Int) - (1 : Int))))] m72 (fun v75 m76 => 
 ∃ b77 : Bool, (v75 = (V.c (C.bool b77))) ∧ ifB (!b77) (Q (V.c (Il (1 : Int))) m76) (isPt (C.ptr m63.nxt 0) ∧ 
 ∃ x78, ((ldC m76 (C.ptr m63.nxt 1)) = (some (Il x78))) ∧ 
 isPt (C.ptr m.nxt 0) ∧ ∃ x79, ((ldC m76 (C.ptr m.nxt 0)) = (some (Il x79))) ∧ 
 Wc prog tbl 29 [(V.c (Il x78)), (V.c (Il 0)), 
 (V.c (Il x79))] m76 (fun v80 m81 => ∃ b82 : Bool, (v80 = (V.c (C.bool b82))) ∧ 
 ifB (!b82) (Q (V.c (Il (1 : Int))) m81) (isPt (C.ptr m63.nxt 0) ∧ 
 ∃ x83, ∃ x84, ((ldA m81 (C.ptr m63.nxt 2) 2) = (some [(Il x83), 
 (Il x84)])) ∧ Wc prog tbl 99 [(V.agg 2 [(Il x83), 
 (Il x84)]), (V.c (Il 0)), (V.c (Il (100 : Int)))] m81 (fun v85 m86 => 
 ∃ b87 : Bool, (v85 = (V.c (C.bool b87))) ∧ ifB (!b87) (Q (V.c (Il (1 : Int))) m86) (fitsP .i64 (x62 + 1) ∧ 
 R60 [(V.c (Il x61)), (V.c (Il (x62 + 1)))] m86))))))) (∀ R88 : List V → 
 M → Prop, (∀ x89 : Int, ∀ x90 : Int, ∀ m91 : M, (isPt (C.ptr m.nxt 0) ∧ 
 ∃ c92 : C, ((ldC m91 (C.ptr m.nxt 2)) = (some c92)) ∧ isSl c92 ∧ 
 ifB (decide (x90 < (((slLen c92) : Nat) : Int))) (isPt (C.ptr m.nxt 0) ∧ ∃ c93 : C, 
 ((ldC m91 (C.ptr m.nxt 2)) = (some c93)) ∧ ∃ n94 : Nat, (x90 = ((n94 : Nat) : Int)) ∧ 
 (n94 < (slLen c93)) ∧ ∃ x95, ∃ x96, ∃ x97, ∃ x98, 
 ∃ x99, ∃ x100, ∃ x101, ((ldA m91 (slAt c93 (n94 * 7)) 7) = (some [(Il x95), 
 (Il x96), (Il x97), (Il x98), (Il x99), 
 (Il x100), (Il x101)])) ∧ Wc prog tbl 49 [(V.agg 7 [(Il x95), 
 (Il x96), (Il x97), (Il x98), (Il x99), 
 (Il x100), (Il x101)])] m91 (fun v102 m103 => ∃ x104, 
 (v102 = (V.c (Il x104))) ∧ ifB (decide ((3000 : Int) < x104)) (Q (V.c (Il (3 : Int))) m103) (fitsP .i64 (x90 + 1) ∧ 
 R88 [(V.c (Il x89)), (V.c (Il (x90 + 1)))] m103))) (Q (V.c (Il 0)) m91)) → 
 R88 [(V.c (Il x89)), (V.c (Il x90))] m91) → 
 R88 [(V.c (Il x61)), (V.c (Il 0))] m63)) → 
 R60 [(V.c (Il x61)), (V.c (Il x62))] m63) → 
 R60 [(V.c (Il x24)), (V.c (Il 0))] m26)) → 
 R23 [(V.c (Il x24)), (V.c (Il x25))] m26) → 
 R23 [(V.c (Il x9)), (V.c (Il 0))] m11)) → 
 R8 [(V.c (Il x9)), (V.c (Il x10))] m11) → 
 R8 [(V.c (Il 0)), (V.c (Il 0))] m0))))))))) : Wc prog tbl 55 [(V.agg 4 [(Il a100), a101, a102, a103])] m Q :=
 wc_eq (n := 1) rfl (by kernel_rfl) (by kernel_rfl) h
theorem w60 {a100 : Int} {a101 : C} {a102 : C} {a103 : C} {m : M} {Q : V → M → Prop} (h :
 (∀ m0 : M, (m0 = (M.new m (AO.cells 4 [(Il a100), a101, a102, a103] false))) → isPt (C.ptr m.nxt 0) ∧ 
 ∃ x1, ((ldC m0 (C.ptr m.nxt 0)) = (some (Il x1))) ∧ ifB (decide ((12 : Int) < x1)) (Q (V.c (C.bool true)) m0) (isPt (C.ptr m.nxt 0) ∧ 
 ∃ c2 : C, ((ldC m0 (C.ptr m.nxt 1)) = (some c2)) ∧ isSl c2 ∧ ifB (decide ((3 : Int) < (((slLen c2) : Nat) : Int))) (Q (V.c (C.bool true)) m0) (isPt (C.ptr m.nxt 0) ∧ 
 ∃ c3 : C, ((ldC m0 (C.ptr m.nxt 2)) = (some c3)) ∧ isSl c3 ∧ ifB (decide ((3 : Int) < (((slLen c3) : Nat) : Int))) (Q (V.c (C.bool true)) m0) (isPt (C.ptr m.nxt 0) ∧ 
 ∃ c4 : C, ((ldC m0 (C.ptr m.nxt 3)) = (some c4)) ∧ isSl c4 ∧ Q (V.c (C.bool (decide ((6 : Int) < (((slLen c4) : Nat) : Int))))) m0))))) : Wc prog tbl 60 [(V.agg 4 [(Il a100), a101, a102, a103])] m Q :=
 wc_eq (n := 1) rfl (by kernel_rfl) (by kernel_rfl) h
theorem w63 {a100 : Int} {a101 : Int} {a102 : Int} {a103 : Int} {a104 : Int} {a105 : Int} {a106 : Int} {m : M} {Q : V → M → Prop} (h :
 (∀ m0 : M, (m0 = (M.new m (AO.cells 7 [(Il a100), (Il a101), (Il a102), 
 (Il a103), (Il a104), (Il a105), (Il a106)] false))) → 
 isPt (C.ptr m.nxt 0) ∧ ∃ x1, ∃ x2, ((ldA m0 (C.ptr m.nxt 1) 2) = (some [(Il x1), 
 (Il x2)])) ∧ Wc prog tbl 110 [(V.agg 2 [(Il x1), (Il x2)])] m0 (fun v3 m4 => 
 ∃ x5, (v3 = (V.c (Il x5))) ∧ isPt (C.ptr m.nxt 0) ∧ ∃ x6, ∃ x7, 
 ((ldA m4 (C.ptr m.nxt 3) 2) = (some [(Il x6), (Il x7)])) ∧ 
 ((ldA m0 (C.ptr m.nxt 3) 2) = (some [(Il x6), (Il x7)])) ∧ 
 Wc prog tbl 110 [(V.agg 2 [(Il x6), (Il x7)])] m4 (fun v8 m9 => 
 ∃ x10, (v8 = (V.c (Il x10))) ∧ ((0 : Int) ≤ x5) ∧ ((0 : Int) ≤ x10) ∧ 
 fitsP .i64 (x5 * x10) ∧ isPt (C.ptr m.nxt 0) ∧ ∃ x11, ∃ x12, 
 ((ldA m9 (C.ptr m.nxt 5) 2) = (some [(Il x11), (Il x12)])) ∧ 
 ((ldA m4 (C.ptr m.nxt 5) 2) = (some [(Il x11), (Il x12)])) ∧ 
 ((ldA m0 (C.ptr m.nxt 5) 2) = (some [(Il x11), (Il x12)])) ∧ 
 Wc prog tbl 110 [(V.agg 2 [(Il x11), (Il x12)])] m9 (fun v13 m14 => 
 ∃ x15, (v13 = (V.c (Il x15))) ∧ ((0 : Int) ≤ (x5 * x10)) ∧ 
 ((0 : Int) ≤ x15) ∧ fitsP .i64 ((x5 * x10) * x15) ∧ Q (V.c (C.bool (decide (((x5 * x10) * x15) ≤ (3000 : Int))))) m14))))) : Wc prog tbl 63 [(V.agg 7 [(Il a100), (Il a101), (Il a102), (Il a103), (Il a104), (Il a105), (Il a106)])] m Q :=
 wc_eq (n := 1) rfl (by kernel_rfl) (by kernel_rfl) h
theorem w66 {a100 : Int} {a101 : Int} {a200 : Int} {m : M} {Q : V → M → Prop} (h :
 (∀ m0 : M, (m0 = (M.new m (AO.cells 2 [(Il a100), (Il a101)] false))) → ∀ m1 : M, 
 (m1 = (M.new m0 (AO.cells 2 [(Il 0), (Il 0)] false))) → isPt (C.ptr m.nxt 0) ∧ 
 ∃ x2, ((ldC m1 (C.ptr m.nxt 0)) = (some (Il x2))) ∧ isPt (C.ptr m.nxt 0) ∧ 
 ∃ x3, ((ldC m1 (C.ptr m.nxt 1)) = (some (Il x3))) ∧ ∃ m4 : M, ((stC m1 (C.ptr m0.nxt 0) 2 [(Il (Min.min x2 a200)), 
 (Il (Max.max x3 a200))]) = (some m4)) ∧ ∃ x5, ∃ x6, ((ldA m4 (C.ptr m0.nxt 0) 2) = (some [(Il x5), 
 (Il x6)])) ∧ Q (V.agg 2 [(Il x5), (Il x6)]) m4)) : Wc prog tbl 66 [(V.agg 2 [(Il a100), (Il a101)]), (V.c (Il a200))] m Q :=
 wc_eq (n := 2) rfl (by kernel_rfl) (by kernel_rfl) h
theorem w69 {a100 : Int} {a101 : C} {a102 : C} {a103 : C} {a200 : Int} {m : M} {Q : V → M → Prop} (h :
 (∀ m0 : M, (m0 = (M.new m (AO.cells 4 [(Il a100), a101, a102, a103] false))) → isPt (C.ptr m.nxt 0) ∧ 
 ∃ x1, ((ldC m0 (C.ptr m.nxt 0)) = (some (Il x1))) ∧ Wc prog tbl 112 [(V.agg 2 [(Il 0), 
 (Il x1)]), (V.c (Il a200))] m0 (fun v2 m3 => ∃ b4 : Bool, (v2 = (V.c (C.bool b4))) ∧ 
 Q (V.c (C.bool b4)) m3))) : Wc prog tbl 69 [(V.agg 4 [(Il a100), a101, a102, a103]), (V.c (Il a200))] m Q :=
 wc_eq (n := 2) rfl (by kernel_rfl) (by kernel_rfl) h
theorem w73 {a100 : Int} {a101 : C} {a102 : C} {a103 : C} {a200 : Int} {a300 : Int} {a301 : Int} {a302 : Int} {m : M} {Q : V → M → Prop} (h :
 (∀ m0 : M, (m0 = (M.new m (AO.cells 4 [(Il a100), a101, a102, a103] false))) → ∀ m1 : M, (m1 = (M.new m0 (AO.cells 3 [(Il a300), 
 (Il a301), (Il a302)] false))) → ∀ m2 : M, (m2 = (M.new m1 (AO.cells 16 [(Il 0), 
 (Il 0), (Il 0), (Il 0), (Il 0), 
 (Il 0), (Il 0), (Il 0), (Il 0), 
 (Il 0), (Il 0), (Il 0), (Il 0), 
 (Il 0), (Il 0), (Il 0)] false))) → 
 ∃ x3, ∃ c4 : C, ∃ c5 : C, ∃ c6 : C, ((ldA m2 (C.ptr m.nxt 0) 4) = (some [(Il x3), 
 c4, c5, c6])) ∧ Wc prog tbl 15 [(V.agg 4 [(Il x3), c4, c5, c6])] m2 (fun v7 m8 => 
 ∃ x9, (v7 = (V.c (Il x9))) ∧ ifB (!decide (x9 = 0)) (∃ m10 : M, 
 ((stC m8 (C.ptr m1.nxt 0) 16 [(Il 0), (Il 0), 
 (Il 0), (Il 0), (Il 0), 
 (Il 0), (Il 0), (Il 0), 
 (Il 0), (Il 0), (Il 0), 
 (Il 0), (Il 0), (Il 0), 
 (Il 0), (Il 0)]) = (some m10)) ∧ 
 ∃ x11, ∃ x12, ∃ x13, ∃ x14, ∃ x15, ∃ x16, ∃ x17, 
 ∃ x18, ∃ x19, ∃ x20, ∃ x21, ∃ x22, ∃ x23, 
 ∃ x24, ∃ x25, ∃ x26, ((ldA m10 (C.ptr m1.nxt 0) 16) = (some [(Il x11), 
 (Il x12), (Il x13), (Il x14), (Il x15), 
 (Il x16), (Il x17), (Il x18), (Il x19), 
 (Il x20), (Il x21), (Il x22), (Il x23), 
 (Il x24), (Il x25), (Il x26)])) ∧ 
 Q (V.tup [(U.agg 16 [(Il x11), (Il x12), (Il x13), 
 (Il x14), (Il x15), (Il x16), (Il x17), 
 (Il x18), (Il x19), (Il x20), (Il x21), 
 (Il x22), (Il x23), (Il x24), (Il x25), 
 (Il x26)]), (U.c (C.bool false))]) m10) (∃ x27, 
 ∃ c28 : C, ∃ c29 : C, ∃ c30 : C, ((ldA m8 (C.ptr m.nxt 0) 4) = (some [(Il x27), 
 c28, c29, c30])) ∧ Wc prog tbl 111 [(V.agg 4 [(Il x27), c28, c29, c30]), 
 (V.c (Il a200))] m8 (fun v31 m32 => ∃ b33 : Bool, (v31 = (V.c (C.bool b33))) ∧ 
 ifB (!b33) (∃ m34 : M, ((stC m32 (C.ptr m1.nxt 0) 16 [(Il 0), 
 (Il 0), (Il 0), (Il 0), 
 (Il 0), (Il 0), (Il 0), 
 (Il 0), (Il 0), (Il 0), 
 (Il 0), (Il 0), (Il 0), 
 (Il 0), (Il 0), (Il 0)]) = (some m34)) ∧ 
 ∃ x35, ∃ x36, ∃ x37, ∃ x38, ∃ x39, ∃ x40, 
 ∃ x41, ∃ x42, ∃ x43, ∃ x44, ∃ x45, ∃ x46, 
 ∃ x47, ∃ x48, ∃ x49, ∃ x50, ((ldA m34 (C.ptr m1.nxt 0) 16) = (some [(Il x35), 
 (Il x36), (Il x37), (Il x38), (Il x39), 
 (Il x40), (Il x41), (Il x42), (Il x43), 
 (Il x44), (Il x45), (Il x46), (Il x47), 
 (Il x48), (Il x49), (Il x50)])) ∧ 
 Q (V.tup [(U.agg 16 [(Il x35), (Il x36), (Il x37), 
 (Il x38), (Il x39), (Il x40), (Il x41), 
 (Il x42), (Il x43), (Il x44), (Il x45), 
 (Il x46), (Il x47), (Il x48), (Il x49), 
 (Il x50)]), (U.c (C.bool false))]) m34) (isPt (C.ptr m.nxt 0) ∧ 
 ∃ c51 : C, ((ldC m32 (C.ptr m.nxt 2)) = (some c51)) ∧ ∃ n52 : Nat, (a200 = ((n52 : Nat) : Int)) ∧ 
 (n52 < (slLen c51)) ∧ ∃ x53, ∃ x54, ∃ x55, ∃ x56, 
 ∃ x57, ∃ x58, ∃ x59, ((ldA m32 (slAt c51 (n52 * 7)) 7) = (some [(Il x53), 
 (Il x54), (Il x55), (Il x56), (Il x57), 
 (Il x58), (Il x59)])) ∧ ∃ x60, ∃ x61, 
 ∃ x62, ((ldA m32 (C.ptr m0.nxt 0) 3) = (some [(Il x60), 
 (Il x61), (Il x62)])) ∧ Wc prog tbl 115 [(V.agg 7 [(Il x53), 
 (Il x54), (Il x55), (Il x56), (Il x57), 
 (Il x58), (Il x59)]), (V.agg 3 [(Il x60), 
 (Il x61), (Il x62)])] m32 (fun v63 m64 => ∃ b65 : Bool, 
 (v63 = (V.c (C.bool b65))) ∧ ifB (!b65) (∃ m66 : M, ((stC m64 (C.ptr m1.nxt 0) 16 [(Il 0), 
 (Il 0), (Il 0), (Il 0), 
 (Il 0), (Il 0), (Il 0), 
 (Il 0), (Il 0), (Il 0), 
 (Il 0), (Il 0), (Il 0), 
 (Il 0), (Il 0), (Il 0)]) = (some m66)) ∧ 
 ∃ x67, ∃ x68, ∃ x69, ∃ x70, ∃ x71, ∃ x72, 
 ∃ x73, ∃ x74, ∃ x75, ∃ x76, ∃ x77, ∃ x78, 
 ∃ x79, ∃ x80, ∃ x81, ∃ x82, ((ldA m66 (C.ptr m1.nxt 0) 16) = (some [(Il x67), 
 (Il x68), (Il x69), (Il x70), (Il x71), 
 (Il x72), (Il x73), (Il x74), (Il x75), 
 (Il x76), (Il x77), (Il x78), (Il x79), 
 (Il x80), (Il x81), (Il x82)])) ∧ 
 Q (V.tup [(U.agg 16 [(Il x67), (Il x68), (Il x69), 
 (Il x70), (Il x71), (Il x72), (Il x73), 
 (Il x74), (Il x75), (Il x76), (Il x77), 
 (Il x78), (Il x79), (Il x80), (Il x81), 
 (Il x82)]), (U.c (C.bool false))]) m66) (∃ x83, 
 ∃ x84, ∃ x85, ((ldA m64 (C.ptr m0.nxt 0) 3) = (some [(Il x83), 
 (Il x84), (Il x85)])) ∧ ∃ x86, ∃ c87 : C, 
 ∃ c88 : C, ∃ c89 : C, ((ldA m64 (C.ptr m.nxt 0) 4) = (some [(Il x86), 
 c87, c88, c89])) ∧ ∃ x90, ∃ x91, ∃ x92, ((ldA m64 (C.ptr m0.nxt 0) 3) = (some [(Il x90), 
 (Il x91), (Il x92)])) ∧ isPt (C.ptr m.nxt 0) ∧ 
 ∃ c93 : C, ((ldC m64 (C.ptr m.nxt 2)) = (some c93)) ∧ ∃ n94 : Nat, 
 (a200 = ((n94 : Nat) : Int)) ∧ (n94 < (slLen c93)) ∧ isPt (slAt c93 (n94 * 7)) ∧ 
 ∃ x95, ((ldC m64 (ptAdd (slAt c93 (n94 * 7)) 0)) = (some (Il x95))) ∧ 
 Wc prog tbl 116 [(V.agg 4 [(Il x86), c87, c88, c89]), (V.agg 4 [(Il x90), 
 (Il x91), (Il x92), (Il x95)])] m64 (fun v96 m97 => 
 ∃ x98, ∃ x99, ∃ x100, ∃ x101, ∃ x102, ∃ x103, 
 ∃ x104, ∃ x105, ∃ x106, ∃ x107, ∃ x108, ∃ x109, 
 ∃ x110, (v96 = (V.agg 13 [(Il x98), (Il x99), 
 (Il x100), (Il x101), (Il x102), 
 (Il x103), (Il x104), (Il x105), 
 (Il x106), (Il x107), (Il x108), 
 (Il x109), (Il x110)])) ∧ ((ldA m97 (C.ptr m0.nxt 0) 3) = (some [(Il x83), 
 (Il x84), (Il x85)])) ∧ ∃ m111 : M, ((stC m97 (C.ptr m1.nxt 0) 16 [(Il x83), 
 (Il x84), (Il x85), (Il x98), (Il x99), 
 (Il x100), (Il x101), (Il x102), 
 (Il x103), (Il x104), (Il x105), 
 (Il x106), (Il x107), (Il x108), 
 (Il x109), (Il x110)]) = (some m111)) ∧ 
 ∃ x112, ∃ x113, ∃ x114, ∃ x115, ∃ x116, ∃ x117, 
 ∃ x118, ∃ x119, ∃ x120, ∃ x121, ∃ x122, ∃ x123, 
 ∃ x124, ∃ x125, ∃ x126, ∃ x127, ((ldA m111 (C.ptr m1.nxt 0) 16) = (some [(Il x112), 
 (Il x113), (Il x114), (Il x115), 
 (Il x116), (Il x117), (Il x118), 
 (Il x119), (Il x120), (Il x121), 
 (Il x122), (Il x123), (Il x124), 
 (Il x125), (Il x126), (Il x127)])) ∧ 
 Q (V.tup [(U.agg 16 [(Il x112), (Il x113), (Il x114), 
 (Il x115), (Il x116), (Il x117), 
 (Il x118), (Il x119), (Il x120), 
 (Il x121), (Il x122), (Il x123), 
 (Il x124), (Il x125), (Il x126), 
 (Il x127)]), (U.c (C.bool true))]) m111))))))))) : Wc prog tbl 73 [(V.agg 4 [(Il a100), a101, a102, a103]), (V.c (Il a200)), (V.agg 3 [(Il a300), (Il a301), (Il a302)])] m Q :=
 wc_eq (n := 3) rfl (by kernel_rfl) (by kernel_rfl) h
theorem w76 {a100 : Int} {a101 : C} {a102 : C} {a103 : C} {a200 : Int} {a300 : Int} {a301 : Int} {a302 : Int} {a400 : Int} {m : M} {Q : V → M → Prop} (h :
 (∀ m0 : M, (m0 = (M.new m (AO.cells 4 [(Il a100), a101, a102, a103] false))) → ∀ m1 : M, (m1 = (M.new m0 (AO.cells 3 [(Il a300), 
 (Il a301), (Il a302)] false))) → isPt (C.ptr m0.nxt 0) ∧ ∃ x2, 
 ((ldC m1 (C.ptr m0.nxt 0)) = (some (Il x2))) ∧ ifB (decide (a400 < x2)) (Q (V.c (Il 0)) m1) (isPt (C.ptr m0.nxt 0) ∧ 
 ∃ x3, ((ldC m1 (C.ptr m0.nxt 0)) = (some (Il x3))) ∧ ifB (decide (a400 = x3)) (isPt (C.ptr m0.nxt 0) ∧ 
 ∃ x4, ((ldC m1 (C.ptr m0.nxt 1)) = (some (Il x4))) ∧ Q (V.c (Il x4)) m1) (∃ x5, 
 ∃ c6 : C, ∃ c7 : C, ∃ c8 : C, ((ldA m1 (C.ptr m.nxt 0) 4) = (some [(Il x5), 
 c6, c7, c8])) ∧ ∃ x9, ∃ x10, ∃ x11, ((ldA m1 (C.ptr m0.nxt 0) 3) = (some [(Il x9), 
 (Il x10), (Il x11)])) ∧ fitsP .i64 (a400 - 1) ∧ 
 Wc prog tbl 76 [(V.agg 4 [(Il x5), c6, c7, c8]), (V.c (Il a200)), 
 (V.agg 3 [(Il x9), (Il x10), (Il x11)]), 
 (V.c (Il (a400 - 1)))] m1 (fun v12 m13 => ∃ x14, (v12 = (V.c (Il x14))) ∧ 
 isPt (C.ptr m.nxt 0) ∧ ∃ c15 : C, ((ldC m13 (C.ptr m.nxt 1)) = (some c15)) ∧ 
 ∃ n16 : Nat, (a200 = ((n16 : Nat) : Int)) ∧ (n16 < (slLen c15)) ∧ ∃ c17 : C, 
 ((ldC m13 (slAt c15 (n16 * 1))) = (some c17)) ∧ ∃ n18 : Nat, (a400 = ((n18 : Nat) : Int)) ∧ 
 (n18 < (slLen c17)) ∧ ∃ x19, ((ldC m13 (slAt c17 (n18 * 1))) = (some (Il x19))) ∧ 
 ((0 : Int) ≤ x14) ∧ ((0 : Int) ≤ x19) ∧ fitsP .i64 (x14 * x19) ∧ ((0 : Int) ≤ (x14 * x19)) ∧ 
 ((0 : Int) < (100 : Int)) ∧ fitsP .i64 ((x14 * x19) / (100 : Int)) ∧ 
 fitsP .i64 (x14 - ((x14 * x19) / (100 : Int))) ∧ Q (V.c (Il (x14 - ((x14 * x19) / (100 : Int))))) m13))))) : Wc prog tbl 76 [(V.agg 4 [(Il a100), a101, a102, a103]), (V.c (Il a200)), (V.agg 3 [(Il a300), (Il a301), (Il a302)]), (V.c (Il a400))] m Q :=
 wc_eq (n := 4) rfl (by kernel_rfl) (by kernel_rfl) h
theorem w79 {a100 : Int} {a101 : C} {a102 : C} {a103 : C} {a104 : C} {a200 : Int} {m : M} {Q : V → M → Prop} (h :
 (∀ m0 : M, (m0 = (M.new m (AO.cells 5 [(Il a100), a101, a102, a103, a104] false))) → ∀ m1 : M, 
 (m1 = (M.new m0 (AO.cells 1 [(Il a200)] false))) → Q (V.c (C.fn (Fn.func 119) [] [(W.c (C0.ptr m.nxt 0)), 
 (W.c (C0.ptr m0.nxt 0))])) m1)) : Wc prog tbl 79 [(V.agg 5 [(Il a100), a101, a102, a103, a104]), (V.c (Il a200))] m Q :=
 wc_eq (n := 2) rfl (by kernel_rfl) (by kernel_rfl) h
theorem w82 {a100 : C} {a200 : C} {m : M} {Q : V → M → Prop} (h :
 (∀ m0 : M, (m0 = (M.new m (AO.cells 16 [(Il 0), (Il 0), (Il 0), 
 (Il 0), (Il 0), (Il 0), (Il 0), 
 (Il 0), (Il 0), (Il 0), (Il 0), 
 (Il 0), (Il 0), (Il 0), (Il 0), 
 (Il 0)] false))) → isSl a100 ∧ ifB (decide ((((slLen a100) : Nat) : Int) < (1 : Int))) False (∃ n1 : Nat, 
 ((0 : Int) = ((n1 : Nat) : Int)) ∧ (n1 < (slLen a100)) ∧ ∃ x2, ∃ x3, ∃ x4, ∃ x5, 
 ∃ x6, ∃ x7, ∃ x8, ∃ x9, ∃ x10, ∃ x11, ∃ x12, ∃ x13, 
 ∃ x14, ∃ x15, ∃ x16, ∃ x17, ((ldA m0 (slAt a100 (n1 * 16)) 16) = (some [(Il x2), 
 (Il x3), (Il x4), (Il x5), (Il x6), 
 (Il x7), (Il x8), (Il x9), (Il x10), 
 (Il x11), (Il x12), (Il x13), (Il x14), 
 (Il x15), (Il x16), (Il x17)])) ∧ ∀ m18 : M, 
 (m18 = (M.new m0 (AO.cells 16 [(Il 0), (Il 0), 
 (Il 0), (Il 0), (Il 0), 
 (Il 0), (Il 0), (Il 0), 
 (Il 0), (Il 0), (Il 0), 
 (Il 0), (Il 0), (Il 0), 
 (Il 0), (Il 0)] false))) → ∃ m19 : M, 
 ((stC m18 (C.ptr m0.nxt 0) 16 [(Il x2), (Il x3), 
 (Il x4), (Il x5), (Il x6), (Il x7), 
 (Il x8), (Il x9), (Il x10), (Il x11), 
 (Il x12), (Il x13), (Il x14), (Il x15), 
 (Il x16), (Il x17)]) = (some m19)) ∧ ∀ R20 : List V → 
 M → Prop, (∀ x21 : Int, ∀ m22 : M, (isSl a100 ∧ ifB (decide (x21 < (((slLen a100) : Nat) : Int))) (∃ n23 : Nat, 
 (x21 = ((n23 : Nat) : Int)) ∧ (n23 < (slLen a100)) ∧ ∃ x24, ∃ x25, 
 ∃ x26, ∃ x27, ∃ x28, ∃ x29, ∃ x30, ∃ x31, 
 ∃ x32, ∃ x33, ∃ x34, ∃ x35, ∃ x36, ∃ x37, 
 ∃ x38, ∃ x39, ((ldA m22 (slAt a100 (n23 * 16)) 16) = (some [(Il x24), 
 (Il x25), (Il x26), (Il x27), (Il x28), 
 (Il x29), (Il x30), (Il x31), (Il x32), 
 (Il x33), (Il x34), (Il x35), (Il x36), 
 (Il x37), (Il x38), (Il x39)])) ∧ 
 ∃ x40, ∃ x41, ∃ x42, ∃ x43, ∃ x44, ∃ x45, 
 ∃ x46, ∃ x47, ∃ x48, ∃ x49, ∃ x50, ∃ x51, 
 ∃ x52, ∃ x53, ∃ x54, ∃ x55, ((ldA m22 (C.ptr m0.nxt 0) 16) = (some [(Il x40), 
 (Il x41), (Il x42), (Il x43), (Il x44), 
 (Il x45), (Il x46), (Il x47), (Il x48), 
 (Il x49), (Il x50), (Il x51), (Il x52), 
 (Il x53), (Il x54), (Il x55)])) ∧ 
 callP prog tbl [(V.agg 16 [(Il x24), (Il x25), 
 (Il x26), (Il x27), (Il x28), (Il x29), 
 (Il x30), (Il x31), (Il x32), (Il x33), 
 (Il x34), (Il x35), (Il x36), (Il x37), 
 (Il x38), (Il x39)]), (V.agg 16 [(Il x40), 
 (Il x41), (Il x42), (Il x43), (Il x44), 
 (Il x45), (Il x46), (Il x47), (Il x48), 
 (Il x49), (Il x50), (Il x51), (Il x52), 
 (Il x53), (Il x54), (Il x55)])] a200 m22 (fun v56 m57 => 
 ∃ x58, (v56 = (V.c (Il x58))) ∧ ifB (decide ((0 : Int) < x58)) (∃ n59 : Nat, 
 (x21 = ((n59 : Nat) : Int)) ∧ (n59 < (slLen a100)) ∧ ∃ x60, ∃ x61, 
 ∃ x62, ∃ x63, ∃ x64, ∃ x65, ∃ x66, ∃ x67, 
 ∃ x68, ∃ x69, ∃ x70, ∃ x71, ∃ x72, ∃ x73, 
 ∃ x74, ∃ x75, ((ldA m57 (slAt a100 (n59 * 16)) 16) = (some [(Il x60), 
 (Il x61), (Il x62), (Il x63), (Il x64), 
 (Il x65), (Il x66), (Il x67), (Il x68), 
 (Il x69), (Il x70), (Il x71), (Il x72), 
 (Il x73), (Il x74), (Il x75)])) ∧ 
 ∃ m76 : M, ((stC m57 (C.ptr m0.nxt 0) 16 [(Il x60), (Il x61), 
 (Il x62), (Il x63), (Il x64), (Il x65), 
 (Il x66), (Il x67), (Il x68), (Il x69), 
 (Il x70), (Il x71), (Il x72), (Il x73), 
 (Il x74), (Il x75)]) = (some m76)) ∧ fitsP .i64 (x21 + 1) ∧ 
 R20 [(V.c (Il (x21 + 1)))] m76) (fitsP .i64 (x21 + 1) ∧ 
 R20 [(V.c (Il (x21 + 1)))] m57))) (∃ x77, 
 ∃ x78, ∃ x79, ∃ x80, ∃ x81, ∃ x82, ∃ x83, 
 ∃ x84, ∃ x85, ∃ x86, ∃ x87, ∃ x88, ∃ x89, 
 ∃ x90, ∃ x91, ∃ x92, ((ldA m22 (C.ptr m0.nxt 0) 16) = (some [(Il x77), 
 (Il x78), (Il x79), (Il x80), (Il x81), 
 (Il x82), (Il x83), (Il x84), (Il x85), 
 (Il x86), (Il x87), (Il x88), (Il x89), 
 (Il x90), (Il x91), (Il x92)])) ∧ 
 ∃ m93 : M, ((stC m22 (C.ptr m.nxt 0) 16 [(Il x77), (Il x78), 
 (Il x79), (Il x80), (Il x81), (Il x82), 
 (Il x83), (Il x84), (Il x85), (Il x86), 
 (Il x87), (Il x88), (Il x89), (Il x90), 
 (Il x91), (Il x92)]) = (some m93)) ∧ ∃ x94, 
 ∃ x95, ∃ x96, ∃ x97, ∃ x98, ∃ x99, ∃ x100, 
 ∃ x101, ∃ x102, ∃ x103, ∃ x104, ∃ x105, ∃ x106, 
 ∃ x107, ∃ x108, ∃ x109, ((ldA m93 (C.ptr m.nxt 0) 16) = (some [(Il x94), 
 (Il x95), (Il x96), (Il x97), (Il x98), 
 (Il x99), (Il x100), (Il x101), 
 (Il x102), (Il x103), (Il x104), 
 (Il x105), (Il x106), (Il x107), 
 (Il x108), (Il x109)])) ∧ Q (V.agg 16 [(Il x94), 
 (Il x95), (Il x96), (Il x97), (Il x98), 
 (Il x99), (Il x100), (Il x101), 
 (Il x102), (Il x103), (Il x104), 
 (Il x105), (Il x106), (Il x107), 
 (Il x108), (Il x109)]) m93)) → 
 R20 [(V.c (Il x21))] m22) → R20 [(V.c (Il (1 : Int)))] m19))) : Wc prog tbl 82 [(V.c a100), (V.c a200)] m Q :=
 wc_eq (n := 2) rfl (by kernel_rfl) (by kernel_rfl) h
theorem w92 {a100 : Int} {a101 : C} {a102 : C} {a103 : C} {a104 : C} {m : M} {Q : V → M → Prop} (h :
 (∀ m0 : M, (m0 = (M.new m (AO.cells 5 [(Il a100), a101, a102, a103, a104] false))) → isPt (C.ptr m.nxt 0) ∧ 
 isPt (C.ptr m.nxt 0) ∧ ∃ c1 : C, ((ldC m0 (C.ptr m.nxt 2)) = (some c1)) ∧ isSl c1 ∧ ∀ R2 : List V → 
 M → Prop, (∀ b3 : Bool, ∀ x4 : Int, ∀ m5 : M, (ifB (decide (x4 < (((slLen c1) : Nat) : Int))) (∃ x6, 
 ∃ c7 : C, ∃ c8 : C, ∃ c9 : C, ∃ c10 : C, ((ldA m5 (C.ptr m.nxt 0) 5) = (some [(Il x6), 
 c7, c8, c9, c10])) ∧ Wc prog tbl 126 [(V.agg 5 [(Il x6), c7, c8, c9, 
 c10]), (V.c (Il x4))] m5 (fun v11 m12 => ∃ b13 : Bool, (v11 = (V.c (C.bool b13))) ∧ 
 ifB (!b13) (Q (V.c (C.bool false)) m12) (fitsP .i64 (x4 + 1) ∧ R2 [(V.c (C.bool b3)), 
 (V.c (Il (x4 + 1)))] m12))) (Q (V.c (C.bool true)) m5)) → 
 R2 [(V.c (C.bool b3)), (V.c (Il x4))] m5) → R2 [(V.c (C.bool false)), (V.c (Il 0))] m0)) : Wc prog tbl 92 [(V.agg 5 [(Il a100), a101, a102, a103, a104])] m Q :=
 wc_eq (n := 1) rfl (by kernel_rfl) (by kernel_rfl) h
theorem w98 {a100 : Int} {a101 : C} {a102 : C} {a103 : C} {a200 : C} {m : M} {Q : V → M → Prop} (h :
 (∀ m0 : M, (m0 = (M.new m (AO.cells 4 [(Il a100), a101, a102, a103] false))) → ∀ R1 : List V → 
 M → Prop, (∀ b2 : Bool, ∀ x3 : Int, ∀ m4 : M, (isSl a200 ∧ ifB (decide (x3 < (((slLen a200) : Nat) : Int))) (∃ n5 : Nat, 
 (x3 = ((n5 : Nat) : Int)) ∧ (n5 < (slLen a200)) ∧ ∃ x6, ((ldC m4 (slAt a200 (n5 * 1))) = (some (Il x6))) ∧ 
 Wc prog tbl 29 [(V.c (Il x6)), (V.c (Il 0)), (V.c (Il (100 : Int)))] m4 (fun v7 m8 => 
 ∃ b9 : Bool, (v7 = (V.c (C.bool b9))) ∧ ifB (!b9) (Q (V.c (C.bool false)) m8) (fitsP .i64 (x3 + 1) ∧ 
 R1 [(V.c (C.bool b2)), (V.c (Il (x3 + 1)))] m8))) (isSl a200 ∧ 
 isPt (C.ptr m.nxt 0) ∧ ∃ x10, ((ldC m4 (C.ptr m.nxt 0)) = (some (Il x10))) ∧ 
 fitsP .i64 (x10 + 1) ∧ Q (V.c (C.bool (decide ((((slLen a200) : Nat) : Int) = (x10 + 1))))) m4)) → 
 R1 [(V.c (C.bool b2)), (V.c (Il x3))] m4) → R1 [(V.c (C.bool false)), (V.c (Il 0))] m0)) : Wc prog tbl 98 [(V.agg 4 [(Il a100), a101, a102, a103]), (V.c a200)] m Q :=
 wc_eq (n := 2) rfl (by kernel_rfl) (by kernel_rfl) h
theorem w104 {a100 : Int} {a101 : C} {a102 : C} {a103 : C} {a200 : C} {m : M} {Q : V → M → Prop} (h :
 (∀ m0 : M, (m0 = (M.new m (AO.cells 4 [(Il a100), a101, a102, a103] false))) → isSl a200 ∧ isPt (C.ptr m.nxt 0) ∧ 
 ∃ x1, ((ldC m0 (C.ptr m.nxt 0)) = (some (Il x1))) ∧ fitsP .i64 (x1 + 1) ∧ 
 ifB (decide ((((slLen a200) : Nat) : Int) = (x1 + 1))) (Wc prog tbl 132 [(V.c a200), (V.c (C.fn (Fn.func 84) [] []))] m0 (fun v2 m3 => 
 ∃ b4 : Bool, (v2 = (V.c (C.bool b4))) ∧ Q (V.c (C.bool b4)) m3)) (Q (V.c (C.bool false)) m0))) : Wc prog tbl 104 [(V.agg 4 [(Il a100), a101, a102, a103]), (V.c a200)] m Q :=
 wc_eq (n := 2) rfl (by kernel_rfl) (by kernel_rfl) h
theorem w107 {a100 : Int} {a101 : C} {a102 : C} {a103 : C} {a200 : Int} {a201 : Int} {a202 : Int} {a203 : Int} {m : M} {Q : V → M → Prop} (h :
 (∀ m0 : M, (m0 = (M.new m (AO.cells 4 [(Il a100), a101, a102, a103] false))) → ∀ m1 : M, (m1 = (M.new m0 (AO.cells 4 [(Il a200), 
 (Il a201), (Il a202), (Il a203)] false))) → ∃ x2, 
 ∃ c3 : C, ∃ c4 : C, ∃ c5 : C, ((ldA m1 (C.ptr m.nxt 0) 4) = (some [(Il x2), 
 c3, c4, c5])) ∧ isPt (C.ptr m0.nxt 0) ∧ ∃ x6, ((ldC m1 (C.ptr m0.nxt 0)) = (some (Il x6))) ∧ 
 Wc prog tbl 111 [(V.agg 4 [(Il x2), c3, c4, c5]), (V.c (Il x6))] m1 (fun v7 m8 => 
 ∃ b9 : Bool, (v7 = (V.c (C.bool b9))) ∧ ifB b9 (∃ x10, ∃ c11 : C, ∃ c12 : C, ∃ c13 : C, 
 ((ldA m8 (C.ptr m.nxt 0) 4) = (some [(Il x10), c11, c12, c13])) ∧ 
 isPt (C.ptr m0.nxt 0) ∧ ∃ x14, ((ldC m8 (C.ptr m0.nxt 1)) = (some (Il x14))) ∧ 
 Wc prog tbl 69 [(V.agg 4 [(Il x10), c11, c12, c13]), (V.c (Il x14))] m8 (fun v15 m16 => 
 ∃ b17 : Bool, (v15 = (V.c (C.bool b17))) ∧ ifB b17 (isPt (C.ptr m0.nxt 0) ∧ 
 ∃ x18, ∃ x19, ((ldA m16 (C.ptr m0.nxt 2) 2) = (some [(Il x18), 
 (Il x19)])) ∧ Wc prog tbl 133 [(V.agg 2 [(Il x18), 
 (Il x19)]), (V.c (Il 0)), (V.c (Il (100 : Int)))] m16 (fun v20 m21 => 
 ∃ b22 : Bool, (v20 = (V.c (C.bool b22))) ∧ Q (V.c (C.bool b22)) m21)) (Q (V.c (C.bool false)) m16))) (Q (V.c (C.bool false)) m8)))) : Wc prog tbl 107 [(V.agg 4 [(Il a100), a101, a102, a103]), (V.agg 4 [(Il a200), (Il a201), (Il a202), (Il a203)])] m Q :=
 wc_eq (n := 2) rfl (by kernel_rfl) (by kernel_rfl) h
theorem w111 {a100 : Int} {a101 : C} {a102 : C} {a103 : C} {a200 : Int} {m : M} {Q : V → M → Prop} (h :
 (∀ m0 : M, (m0 = (M.new m (AO.cells 4 [(Il a100), a101, a102, a103] false))) → isPt (C.ptr m.nxt 0) ∧ 
 ∃ c1 : C, ((ldC m0 (C.ptr m.nxt 2)) = (some c1)) ∧ isSl c1 ∧ fitsP .i64 ((((slLen c1) : Nat) : Int) - (1 : Int)) ∧ 
 Wc prog tbl 112 [(V.agg 2 [(Il 0), (Il ((((slLen c1) : Nat) : Int) - (1 : Int)))]), 
 (V.c (Il a200))] m0 (fun v2 m3 => ∃ b4 : Bool, (v2 = (V.c (C.bool b4))) ∧ Q (V.c (C.bool b4)) m3))) : Wc prog tbl 111 [(V.agg 4 [(Il a100), a101, a102, a103]), (V.c (Il a200))] m Q :=
 wc_eq (n := 2) rfl (by kernel_rfl) (by kernel_rfl) h
theorem w118 {a100 : C} {a200 : C} {m : M} {Q : V → M → Prop} (h :
 (∀ m0 : M, (m0 = (M.new m (AO.cells 1 [a100] false))) → rangeP prog tbl a200 m0 (fun l1 m2 R3 R4 => ∃ x5, 
 ∃ x6, ∃ x7, ∃ x8, ∃ x9, ∃ x10, ∃ x11, ∃ x12, ∃ x13, 
 ∃ x14, ∃ x15, ∃ x16, ∃ x17, ∃ x18, ∃ x19, ∃ x20, 
 (l1 = [(V.agg 16 [(Il x5), (Il x6), (Il x7), 
 (Il x8), (Il x9), (Il x10), (Il x11), 
 (Il x12), (Il x13), (Il x14), (Il x15), 
 (Il x16), (Il x17), (Il x18), (Il x19), 
 (Il x20)])]) ∧ ∀ m21 : M, (m21 = (M.new m2 (AO.cells 16 [(Il 0), 
 (Il 0), (Il 0), (Il 0), 
 (Il 0), (Il 0), (Il 0), 
 (Il 0), (Il 0), (Il 0), 
 (Il 0), (Il 0), (Il 0), 
 (Il 0), (Il 0), (Il 0)] false))) → 
 ∃ m22 : M, ((stC m21 (C.ptr m2.nxt 0) 16 [(Il x5), (Il x6), 
 (Il x7), (Il x8), (Il x9), (Il x10), 
 (Il x11), (Il x12), (Il x13), (Il x14), 
 (Il x15), (Il x16), (Il x17), (Il x18), 
 (Il x19), (Il x20)]) = (some m22)) ∧ R3 m22 (fun m23 => 
 ∃ c24 : C, ((ldC m23 (C.ptr m.nxt 0)) = (some c24)) ∧ ∃ x25, ∃ x26, 
 ∃ x27, ∃ x28, ∃ x29, ∃ x30, ∃ x31, ∃ x32, 
 ∃ x33, ∃ x34, ∃ x35, ∃ x36, ∃ x37, ∃ x38, 
 ∃ x39, ∃ x40, ((ldA m23 (C.ptr m2.nxt 0) 16) = (some [(Il x25), 
 (Il x26), (Il x27), (Il x28), (Il x29), 
 (Il x30), (Il x31), (Il x32), (Il x33), 
 (Il x34), (Il x35), (Il x36), (Il x37), 
 (Il x38), (Il x39), (Il x40)])) ∧ 
 ∀ m41 : M, (m41 = (M.new m23 (AO.cells 16 [(Il x25), (Il x26), 
 (Il x27), (Il x28), (Il x29), (Il x30), 
 (Il x31), (Il x32), (Il x33), (Il x34), 
 (Il x35), (Il x36), (Il x37), (Il x38), 
 (Il x39), (Il x40)] false))) → ∃ c42 : C, ∃ m43 : M, 
 (ApR prog 140 m41 c24 (C.sl m23.nxt 0 1 0 (some 1)) c42 m43) ∧ ∃ m44 : M, 
 ((stC m43 (C.ptr m.nxt 0) 1 [c42]) = (some m44)) ∧ R4 Ex.nrm m44)) (After.mk (fun m45 => 
 ∃ c46 : C, ((ldC m45 (C.ptr m.nxt 0)) = (some c46)) ∧ Q (V.c c46) m45) [] (fun m47 => Q (V.c C.sl0) m47)))) : Wc prog tbl 118 [(V.c a100), (V.c a200)] m Q :=
 wc_eq (n := 2) rfl (by kernel_rfl) (by kernel_rfl) h
theorem w126 {a100 : Int} {a101 : C} {a102 : C} {a103 : C} {a104 : C} {a200 : Int} {m : M} {Q : V → M → Prop} (h :
 (∀ m0 : M, (m0 = (M.new m (AO.cells 5 [(Il a100), a101, a102, a103, a104] false))) → ∀ m1 : M, 
 (m1 = (M.new m0 (AO.cells 1 [(C.bool false)] false))) → ∃ x2, ∃ c3 : C, ∃ c4 : C, ∃ c5 : C, ∃ c6 : C, 
 ((ldA m1 (C.ptr m.nxt 0) 5) = (some [(Il x2), c3, c4, c5, c6])) ∧ Wc prog tbl 79 [(V.agg 5 [(Il x2), 
 c3, c4, c5, c6]), (V.c (Il a200))] m1 (fun v7 m8 => ∃ c9 : C, (v7 = (V.c c9)) ∧ 
 rangeP prog tbl c9 m8 (fun l10 m11 R12 R13 => ∃ x14, ∃ x15, ∃ x16, ∃ x17, 
 ∃ x18, ∃ x19, ∃ x20, ∃ x21, ∃ x22, ∃ x23, ∃ x24, 
 ∃ x25, ∃ x26, ∃ x27, ∃ x28, ∃ x29, (l10 = [(V.agg 16 [(Il x14), 
 (Il x15), (Il x16), (Il x17), (Il x18), 
 (Il x19), (Il x20), (Il x21), (Il x22), 
 (Il x23), (Il x24), (Il x25), (Il x26), 
 (Il x27), (Il x28), (Il x29)])]) ∧ 
 R12 m11 (fun m30 => ∃ m31 : M, ((stC m30 (C.ptr m0.nxt 0) 1 [(C.bool true)]) = (some m31)) ∧ 
 R13 Ex.ret m31)) (After.mk (fun m32 => ∃ m33 : M, ((stC m32 (C.ptr m0.nxt 0) 1 [(C.bool false)]) = (some m33)) ∧ 
 ∃ b34 : Bool, ((ldC m33 (C.ptr m0.nxt 0)) = (some (C.bool b34))) ∧ Q (V.c (C.bool b34)) m33) [] (fun m35 => 
 ∃ b36 : Bool, ((ldC m35 (C.ptr m0.nxt 0)) = (some (C.bool b36))) ∧ Q (V.c (C.bool b36)) m35))))) : Wc prog tbl 126 [(V.agg 5 [(Il a100), a101, a102, a103, a104]), (V.c (Il a200))] m Q :=
 wc_eq (n := 2) rfl (by kernel_rfl) (by kernel_rfl) h
theorem w133 {a100 : Int} {a101 : Int} {a200 : Int} {a300 : Int} {m : M} {Q : V → M → Prop} (h :
 (∀ m0 : M, (m0 = (M.new m (AO.cells 2 [(Il a100), (Il a101)] false))) → isPt (C.ptr m.nxt 0) ∧ 
 ∃ x1, ((ldC m0 (C.ptr m.nxt 0)) = (some (Il x1))) ∧ ifB (decide (a200 ≤ x1)) (isPt (C.ptr m.nxt 0) ∧ 
 ∃ x2, ((ldC m0 (C.ptr m.nxt 0)) = (some (Il x2))) ∧ isPt (C.ptr m.nxt 0) ∧ 
 ∃ x3, ((ldC m0 (C.ptr m.nxt 1)) = (some (Il x3))) ∧ ifB (decide (x2 ≤ x3)) (isPt (C.ptr m.nxt 0) ∧ 
 ∃ x4, ((ldC m0 (C.ptr m.nxt 1)) = (some (Il x4))) ∧ Q (V.c (C.bool (decide (x4 ≤ a300)))) m0) (Q (V.c (C.bool false)) m0)) (Q (V.c (C.bool false)) m0))) : Wc prog tbl 133 [(V.agg 2 [(Il a100), (Il a101)]), (V.c (Il a200)), (V.c (Il a300))] m Q :=
 wc_eq (n := 3) rfl (by kernel_rfl) (by kernel_rfl) h
theorem w145 {a100 : C} {a200 : C} {m : M} {Q : V → M → Prop} (h :
 (isSl a100 ∧ ∀ R0 : List V → M → Prop, (∀ x1 : Int, ∀ x2 : Int, ∀ m3 : M, (ifB (decide (x2 < (((slLen a100) : Nat) : Int))) (∃ n4 : Nat, 
 (x2 = ((n4 : Nat) : Int)) ∧ (n4 < (slLen a100)) ∧ ∃ x5, ∃ x6, ∃ x7, ∃ x8, 
 ((ldA m3 (slAt a100 (n4 * 4)) 4) = (some [(Il x5), (Il x6), 
 (Il x7), (Il x8)])) ∧ callP prog tbl [(V.agg 4 [(Il x5), 
 (Il x6), (Il x7), (Il x8)])] a200 m3 (fun v9 m10 => 
 ∃ b11 : Bool, (v9 = (V.c (C.bool b11))) ∧ ifB b11 (Q (V.c (Il x2)) m10) (fitsP .i64 (x2 + 1) ∧ 
 R0 [(V.c (Il x1)), (V.c (Il (x2 + 1)))] m10))) (Q (V.c (Il (-1 : Int))) m3)) → 
 R0 [(V.c (Il x1)), (V.c (Il x2))] m3) → R0 [(V.c (Il 0)), 
 (V.c (Il 0))] m)) : Wc prog tbl 145 [(V.c a100), (V.c a200)] m Q :=
 wc_eq (n := 2) rfl (by kernel_rfl) (by kernel_rfl) h
end
end Go.Proofs.YtmlaphekbnanjaaGreat

namespace Go.Proofs.YtmlaphekbnanjaaGreat
open _root_.Go.Proofs.Tryz
open Go.Abs
set_option maxRecDepth 100000
noncomputable section
theorem w14 {a100 : Int} {a101 : C} {a102 : C} {a103 : C} {m : M} {Q : V → M → Prop} (h :
 (∀ m0 : M, (m0 = (M.new m (AO.cells 4 [(Il a100), a101, a102, a103] false))) → ∀ m1 : M, (m1 = (M.new m0 (AO.cells 4 [(Il 0), 
 C.sl0, C.sl0, C.sl0] false))) → isPt (C.ptr m.nxt 0) ∧ ∃ x2, ((ldC m1 (C.ptr m.nxt 0)) = (some (Il x2))) ∧ 
 ∀ m3 : M, (m3 = (M.new m1 (AO.cells 4 [(Il 0), C.sl0, C.sl0, C.sl0] false))) → 
 ∃ m4 : M, ((stC m3 (C.ptr m1.nxt 0) 4 [(Il x2), C.sl0, C.sl0, C.sl0]) = (some m4)) ∧ 
 ∀ R5 : List V → M → Prop, (∀ x6 : Int, ∀ m7 : M, (isPt (C.ptr m.nxt 0) ∧ ∃ c8 : C, ((ldC m7 (C.ptr m.nxt 1)) = (some c8)) ∧ 
 isSl c8 ∧ ifB (decide (x6 < (((slLen c8) : Nat) : Int))) (isPt (C.ptr m1.nxt 0) ∧ ∃ c9 : C, 
 ((ldC m7 (C.ptr m1.nxt 1)) = (some c9)) ∧ isPt (C.ptr m.nxt 0) ∧ ∃ c10 : C, 
 ((ldC m7 (C.ptr m.nxt 1)) = (some c10)) ∧ ∃ n11 : Nat, (x6 = ((n11 : Nat) : Int)) ∧ 
 (n11 < (slLen c10)) ∧ ∃ c12 : C, ((ldC m7 (slAt c10 (n11 * 1))) = (some c12)) ∧ 
 Wc prog tbl 50 [(V.c c12)] m7 (fun v13 m14 => ∃ c15 : C, (v13 = (V.c c15)) ∧ 
 (ifB (noFnC c9) ((ldC m14 (C.ptr m1.nxt 1)) = (some c9)) False) ∧ ∀ m16 : M, 
 (m16 = (M.new m14 (AO.cells 1 [c15] false))) → (ifB (noFnC c9) ((ldC m16 (C.ptr m1.nxt 1)) = (some c9)) False) ∧ 
 ∃ c17 : C, ∃ m18 : M, (ApR prog 22 m16 c9 (C.sl m14.nxt 0 1 0 (some 1)) c17 m18) ∧ 
 isPt (C.ptr m1.nxt 0) ∧ ∃ m19 : M, ((stC m18 (C.ptr m1.nxt 1) 1 [c17]) = (some m19)) ∧ 
 fitsP .i64 (x6 + 1) ∧ R5 [(V.c (Il (x6 + 1)))] m19)) (∀ R20 : List V → 
 M → Prop, (∀ x21 : Int, ∀ m22 : M, (isPt (C.ptr m.nxt 0) ∧ ∃ c23 : C, ((ldC m22 (C.ptr m.nxt 2)) = (some c23)) ∧ 
 isSl c23 ∧ ifB (decide (x21 < (((slLen c23) : Nat) : Int))) (isPt (C.ptr m.nxt 0) ∧ 
 ∃ c24 : C, ((ldC m22 (C.ptr m.nxt 2)) = (some c24)) ∧ ∃ n25 : Nat, 
 (x21 = ((n25 : Nat) : Int)) ∧ (n25 < (slLen c24)) ∧ ∃ x26, ∃ x27, 
 ∃ x28, ∃ x29, ∃ x30, ∃ x31, ∃ x32, ((ldA m22 (slAt c24 (n25 * 7)) 7) = (some [(Il x26), 
 (Il x27), (Il x28), (Il x29), (Il x30), 
 (Il x31), (Il x32)])) ∧ ∀ m33 : M, (m33 = (M.new m22 (AO.cells 7 [(Il 0), 
 (Il 0), (Il 0), (Il 0), 
 (Il 0), (Il 0), (Il 0)] false))) → 
 ∃ m34 : M, ((stC m33 (C.ptr m22.nxt 0) 7 [(Il x26), (Il x27), 
 (Il x28), (Il x29), (Il x30), (Il x31), 
 (Il x32)]) = (some m34)) ∧ isPt (C.ptr m1.nxt 0) ∧ ∃ c35 : C, 
 ((ldC m34 (C.ptr m1.nxt 2)) = (some c35)) ∧ isPt (C.ptr m22.nxt 0) ∧ 
 ∃ x36, ((ldC m34 (C.ptr m22.nxt 0)) = (some (Il x36))) ∧ 
 isPt (C.ptr m22.nxt 0) ∧ ∃ x37, ∃ x38, ((ldA m34 (C.ptr m22.nxt 1) 2) = (some [(Il x37), 
 (Il x38)])) ∧ Wc prog tbl 30 [(V.agg 2 [(Il x37), 
 (Il x38)])] m34 (fun v39 m40 => ∃ x41, ∃ x42, (v39 = (V.agg 2 [(Il x41), 
 (Il x42)])) ∧ ((ldC m40 (C.ptr m22.nxt 0)) = (some (Il x36))) ∧ 
 (ifB (noFnC c35) ((ldC m40 (C.ptr m1.nxt 2)) = (some c35)) False) ∧ 
 isPt (C.ptr m22.nxt 0) ∧ ∃ x43, ∃ x44, ((ldA m40 (C.ptr m22.nxt 3) 2) = (some [(Il x43), 
 (Il x44)])) ∧ ((ldA m34 (C.ptr m22.nxt 3) 2) = (some [(Il x43), 
 (Il x44)])) ∧ Wc prog tbl 30 [(V.agg 2 [(Il x43), 
 (Il x44)])] m40 (fun v45 m46 => ∃ x47, ∃ x48, (v45 = (V.agg 2 [(Il x47), 
 (Il x48)])) ∧ ((ldC m46 (C.ptr m22.nxt 0)) = (some (Il x36))) ∧ 
 (ifB (noFnC c35) ((ldC m46 (C.ptr m1.nxt 2)) = (some c35)) False) ∧ 
 isPt (C.ptr m22.nxt 0) ∧ ∃ x49, ∃ x50, ((ldA m46 (C.ptr m22.nxt 5) 2) = (some [(Il x49), 
 (Il x50)])) ∧ ((ldA m40 (C.ptr m22.nxt 5) 2) = (some [(Il x49), 
 (Il x50)])) ∧ ((ldA m34 (C.ptr m22.nxt 5) 2) = (some [(Il x49), 
 (Il x50)])) ∧ Wc prog tbl 30 [(V.agg 2 [(Il x49), 
 (Il x50)])] m46 (fun v51 m52 => ∃ x53, ∃ x54, (v51 = (V.agg 2 [(Il x53), 
 (Il x54)])) ∧ ((ldC m52 (C.ptr m22.nxt 0)) = (some (Il x36))) ∧ 
 (ifB (noFnC c35) ((ldC m52 (C.ptr m1.nxt 2)) = (some c35)) False) ∧ 
 ∀ m55 : M, (m55 = (M.new m52 (AO.cells 7 [(Il x36), (Il x41), 
 (Il x42), (Il x47), (Il x48), (Il x53), 
 (Il x54)] false))) → (ifB (noFnC c35) ((ldC m55 (C.ptr m1.nxt 2)) = (some c35)) False) ∧ 
 ∃ c56 : C, ∃ m57 : M, (ApR prog 33 m55 c35 (C.sl m52.nxt 0 1 0 (some 1)) c56 m57) ∧ 
 isPt (C.ptr m1.nxt 0) ∧ ∃ m58 : M, ((stC m57 (C.ptr m1.nxt 2) 1 [c56]) = (some m58)) ∧ 
 fitsP .i64 (x21 + 1) ∧ R20 [(V.c (Il (x21 + 1)))] m58)))) (∀ R59 : List V → 
 M → Prop, (∀ x60 : Int, ∀ m61 : M, (isPt (C.ptr m.nxt 0) ∧ ∃ c62 : C, ((ldC m61 (C.ptr m.nxt 3)) = (some c62)) ∧ 
 isSl c62 ∧ ifB (decide (x60 < (((slLen c62) : Nat) : Int))) (isPt (C.ptr m.nxt 0) ∧ 
 ∃ c63 : C, ((ldC m61 (C.ptr m.nxt 3)) = (some c63)) ∧ ∃ n64 : Nat, 
 (x60 = ((n64 : Nat) : Int)) ∧ (n64 < (slLen c63)) ∧ ∃ x65, ∃ x66, 
 ∃ x67, ∃ x68, ((ldA m61 (slAt c63 (n64 * 4)) 4) = (some [(Il x65), 
 (Il x66), (Il x67), (Il x68)])) ∧ 
 ∀ m69 : M, (m69 = (M.new m61 (AO.cells 4 [(Il 0), (Il 0), 
 (Il 0), (Il 0)] false))) → ∃ m70 : M, 
 ((stC m69 (C.ptr m61.nxt 0) 4 [(Il x65), (Il x66), 
 (Il x67), (Il x68)]) = (some m70)) ∧ isPt (C.ptr m1.nxt 0) ∧ 
 ∃ c71 : C, ((ldC m70 (C.ptr m1.nxt 3)) = (some c71)) ∧ isPt (C.ptr m61.nxt 0) ∧ 
 ∃ x72, ((ldC m70 (C.ptr m61.nxt 0)) = (some (Il x72))) ∧ 
 isPt (C.ptr m61.nxt 0) ∧ ∃ x73, ((ldC m70 (C.ptr m61.nxt 1)) = (some (Il x73))) ∧ 
 isPt (C.ptr m61.nxt 0) ∧ ∃ x74, ∃ x75, ((ldA m70 (C.ptr m61.nxt 2) 2) = (some [(Il x74), 
 (Il x75)])) ∧ Wc prog tbl 30 [(V.agg 2 [(Il x74), 
 (Il x75)])] m70 (fun v76 m77 => ∃ x78, ∃ x79, (v76 = (V.agg 2 [(Il x78), 
 (Il x79)])) ∧ ((ldC m77 (C.ptr m61.nxt 1)) = (some (Il x73))) ∧ 
 ((ldC m77 (C.ptr m61.nxt 0)) = (some (Il x72))) ∧ (ifB (noFnC c71) ((ldC m77 (C.ptr m1.nxt 3)) = (some c71)) False) ∧ 
 ∀ m80 : M, (m80 = (M.new m77 (AO.cells 4 [(Il x72), (Il x73), 
 (Il x78), (Il x79)] false))) → (ifB (noFnC c71) ((ldC m80 (C.ptr m1.nxt 3)) = (some c71)) False) ∧ 
 ∃ c81 : C, ∃ m82 : M, (ApR prog 34 m80 c71 (C.sl m77.nxt 0 1 0 (some 1)) c81 m82) ∧ 
 isPt (C.ptr m1.nxt 0) ∧ ∃ m83 : M, ((stC m82 (C.ptr m1.nxt 3) 1 [c81]) = (some m83)) ∧ 
 fitsP .i64 (x60 + 1) ∧ R59 [(V.c (Il (x60 + 1)))] m83)) (∃ x84, 
 ∃ c85 : C, ∃ c86 : C, ∃ c87 : C, ((ldA m61 (C.ptr m1.nxt 0) 4) = (some [(Il x84), 
 c85, c86, c87])) ∧ ∃ m88 : M, ((stC m61 (C.ptr m0.nxt 0) 4 [(Il x84), 
 c85, c86, c87]) = (some m88)) ∧ ∃ x89, ∃ c90 : C, ∃ c91 : C, 
 ∃ c92 : C, ((ldA m88 (C.ptr m0.nxt 0) 4) = (some [(Il x89), 
 c90, c91, c92])) ∧ Q (V.agg 4 [(Il x89), c90, c91, c92]) m88)) → 
 R59 [(V.c (Il x60))] m61) → R59 [(V.c (Il 0))] m22)) → 
 R20 [(V.c (Il x21))] m22) → R20 [(V.c (Il 0))] m7)) → 
 R5 [(V.c (Il x6))] m7) → R5 [(V.c (Il 0))] m4)) : Wc prog tbl 14 [(V.agg 4 [(Il a100), a101, a102, a103])] m Q :=
 wc_eq (n := 1) rfl (by kernel_rfl) (by kernel_rfl) h
theorem w17 {a100 : Int} {a101 : C} {a102 : C} {a103 : C} {m : M} {Q : V → M → Prop} (h :
 (∀ m0 : M, (m0 = (M.new m (AO.cells 4 [(Il a100), a101, a102, a103] false))) → ∃ x1, ∃ c2 : C, 
 ∃ c3 : C, ∃ c4 : C, ((ldA m0 (C.ptr m.nxt 0) 4) = (some [(Il x1), c2, c3, c4])) ∧ 
 Wc prog tbl 16 [(V.agg 4 [(Il x1), c2, c3, c4])] m0 (fun v5 m6 => ∃ x7, (v5 = (V.c (Il x7))) ∧ 
 ifB (!decide (x7 = 0)) (Q (V.c (Il x7)) m6) (∃ x8, ∃ c9 : C, ∃ c10 : C, 
 ∃ c11 : C, ((ldA m6 (C.ptr m.nxt 0) 4) = (some [(Il x8), c9, c10, 
 c11])) ∧ Wc prog tbl 41 [(V.agg 4 [(Il x8), c9, c10, c11])] m6 (fun v12 m13 => 
 ∃ c14 : C, (v12 = (V.c c14)) ∧ ∃ x15, ∃ c16 : C, ∃ c17 : C, ∃ c18 : C, ((ldA m13 (C.ptr m.nxt 0) 4) = (some [(Il x15), 
 c16, c17, c18])) ∧ (ifB (allS noFnC [(Il x15), c16, c17, c18]) ((ldA m6 (C.ptr m.nxt 0) 4) = (some [(Il x15), 
 c16, c17, c18])) False) ∧ Wc prog tbl 51 [(V.agg 4 [(Il x15), 
 c16, c17, c18])] m13 (fun v19 m20 => ∃ x21, (v19 = (V.c (Il x21))) ∧ 
 Wc prog tbl 64 [(V.c c14), (V.c (Il x21))] m20 (fun v22 m23 => 
 ∃ b24 : Bool, (v22 = (V.c (C.bool b24))) ∧ ifB (!b24) (Q (V.c (Il (11 : Int))) m23) (Q (V.c (Il 0)) m23)))))))) : Wc prog tbl 17 [(V.agg 4 [(Il a100), a101, a102, a103])] m Q :=
 wc_eq (n := 1) rfl (by kernel_rfl) (by kernel_rfl) h
theorem w20 {a100 : Int} {a101 : C} {a102 : C} {a103 : C} {a200 : Int} {m : M} {Q : V → M → Prop} (h :
 (∀ m0 : M, (m0 = (M.new m (AO.cells 4 [(Il a100), a101, a102, a103] false))) → ∃ x1, ∃ c2 : C, 
 ∃ c3 : C, ∃ c4 : C, ((ldA m0 (C.ptr m.nxt 0) 4) = (some [(Il x1), c2, c3, c4])) ∧ 
 Wc prog tbl 67 [(V.agg 4 [(Il x1), c2, c3, c4]), (V.c (Il a200))] m0 (fun v5 m6 => 
 ∃ c7 : C, (v5 = (V.c c7)) ∧ ∀ R8 : List V → M → Prop, (∀ c9 : C, ∀ x10 : Int, ∀ m11 : M, (isSl c7 ∧ 
 ifB (decide (x10 < (((slLen c7) : Nat) : Int))) (∃ n12 : Nat, (x10 = ((n12 : Nat) : Int)) ∧ 
 (n12 < (slLen c7)) ∧ ∃ x13, ((ldC m11 (slAt c7 (n12 * 1))) = (some (Il x13))) ∧ 
 ∃ x14, ∃ c15 : C, ∃ c16 : C, ∃ c17 : C, ((ldA m11 (C.ptr m.nxt 0) 4) = (some [(Il x14), 
 c15, c16, c17])) ∧ Wc prog tbl 51 [(V.agg 4 [(Il x14), c15, c16, 
 c17])] m11 (fun v18 m19 => ∃ x20, (v18 = (V.c (Il x20))) ∧ 
 ((ldC m19 (slAt c7 (n12 * 1))) = (some (Il x13))) ∧ ifB (decide (x13 = x20)) (isPt (C.ptr m.nxt 0) ∧ 
 ∃ c21 : C, ((ldC m19 (C.ptr m.nxt 2)) = (some c21)) ∧ ∃ n22 : Nat, 
 (a200 = ((n22 : Nat) : Int)) ∧ (n22 < (slLen c21)) ∧ ∃ x23, ∃ x24, 
 ∃ x25, ∃ x26, ∃ x27, ∃ x28, ∃ x29, ((ldA m19 (slAt c21 (n22 * 7)) 7) = (some [(Il x23), 
 (Il x24), (Il x25), (Il x26), (Il x27), 
 (Il x28), (Il x29)])) ∧ Wc prog tbl 48 [(V.agg 7 [(Il x23), 
 (Il x24), (Il x25), (Il x26), (Il x27), 
 (Il x28), (Il x29)]), (V.c (Il x10))] m19 (fun v30 m31 => 
 ∃ x32, ∃ x33, ∃ x34, (v30 = (V.agg 3 [(Il x32), 
 (Il x33), (Il x34)])) ∧ ∀ m35 : M, (m35 = (M.new m31 (AO.cells 3 [(Il x32), 
 (Il x33), (Il x34)] false))) → ∃ c36 : C, ∃ m37 : M, 
 (ApR prog 49 m35 c9 (C.sl m31.nxt 0 1 0 (some 1)) c36 m37) ∧ fitsP .i64 (x10 + 1) ∧ 
 R8 [(V.c c36), (V.c (Il (x10 + 1)))] m37)) (fitsP .i64 (x10 + 1) ∧ 
 R8 [(V.c c9), (V.c (Il (x10 + 1)))] m19))) (Q (V.c c9) m11)) → 
 R8 [(V.c c9), (V.c (Il x10))] m11) → R8 [(V.c C.sl0), (V.c (Il 0))] m6))) : Wc prog tbl 20 [(V.agg 4 [(Il a100), a101, a102, a103]), (V.c (Il a200))] m Q :=
 wc_eq (n := 2) rfl (by kernel_rfl) (by kernel_rfl) h
theorem w26 {a100 : Int} {a101 : Int} {a102 : Int} {a103 : Int} {a104 : Int} {a105 : Int} {a106 : Int} {a200 : Int} {a201 : Int} {a202 : Int} {m : M} {Q : V → M → Prop} (h :
 (∀ m0 : M, (m0 = (M.new m (AO.cells 7 [(Il a100), (Il a101), (Il a102), 
 (Il a103), (Il a104), (Il a105), (Il a106)] false))) → 
 ∀ m1 : M, (m1 = (M.new m0 (AO.cells 3 [(Il a200), (Il a201), (Il a202)] false))) → 
 isPt (C.ptr m0.nxt 0) ∧ ∃ x2, ((ldC m1 (C.ptr m0.nxt 0)) = (some (Il x2))) ∧ 
 isPt (C.ptr m.nxt 0) ∧ isPt (C.ptr m.nxt 1) ∧ ∃ x3, ((ldC m1 (C.ptr m.nxt 1)) = (some (Il x3))) ∧ 
 isPt (C.ptr m.nxt 0) ∧ isPt (C.ptr m.nxt 1) ∧ ∃ x4, ((ldC m1 (C.ptr m.nxt 2)) = (some (Il x4))) ∧ 
 Wc prog tbl 29 [(V.c (Il x2)), (V.c (Il x3)), (V.c (Il x4))] m1 (fun v5 m6 => 
 ∃ b7 : Bool, (v5 = (V.c (C.bool b7))) ∧ ifB b7 (isPt (C.ptr m0.nxt 0) ∧ ∃ x8, 
 ((ldC m6 (C.ptr m0.nxt 1)) = (some (Il x8))) ∧ isPt (C.ptr m.nxt 0) ∧ 
 isPt (C.ptr m.nxt 3) ∧ ∃ x9, ((ldC m6 (C.ptr m.nxt 3)) = (some (Il x9))) ∧ 
 isPt (C.ptr m.nxt 0) ∧ isPt (C.ptr m.nxt 3) ∧ ∃ x10, ((ldC m6 (C.ptr m.nxt 4)) = (some (Il x10))) ∧ 
 Wc prog tbl 29 [(V.c (Il x8)), (V.c (Il x9)), 
 (V.c (Il x10))] m6 (fun v11 m12 => ∃ b13 : Bool, (v11 = (V.c (C.bool b13))) ∧ 
 ifB b13 (isPt (C.ptr m0.nxt 0) ∧ ∃ x14, ((ldC m12 (C.ptr m0.nxt 2)) = (some (Il x14))) ∧ 
 isPt (C.ptr m.nxt 0) ∧ isPt (C.ptr m.nxt 5) ∧ ∃ x15, ((ldC m12 (C.ptr m.nxt 5)) = (some (Il x15))) ∧ 
 isPt (C.ptr m.nxt 0) ∧ isPt (C.ptr m.nxt 5) ∧ ∃ x16, ((ldC m12 (C.ptr m.nxt 6)) = (some (Il x16))) ∧ 
 Wc prog tbl 29 [(V.c (Il x14)), (V.c (Il x15)), 
 (V.c (Il x16))] m12 (fun v17 m18 => ∃ b19 : Bool, (v17 = (V.c (C.bool b19))) ∧ 
 Q (V.c (C.bool b19)) m18)) (Q (V.c (C.bool false)) m12))) (Q (V.c (C.bool false)) m6)))) : Wc prog tbl 26 [(V.agg 7 [(Il a100), (Il a101), (Il a102), (Il a103), (Il a104), (Il a105), (Il a106)]), (V.agg 3 [(Il a200), (Il a201), (Il a202)])] m Q :=
 wc_eq (n := 2) rfl (by kernel_rfl) (by kernel_rfl) h
theorem w29 {a100 : Int} {a200 : Int} {a300 : Int} {m : M} {Q : V → M → Prop} (h :
 (ifB (decide (a200 ≤ a100)) (Q (V.c (C.bool (decide (a100 ≤ a300)))) m) (Q (V.c (C.bool false)) m))) : Wc prog tbl 29 [(V.c (Il a100)), (V.c (Il a200)), (V.c (Il a300))] m Q :=
 wc_eq (n := 3) rfl (by kernel_rfl) (by kernel_rfl) h
theorem w32 {a100 : Int} {a101 : C} {a102 : C} {a103 : C} {a200 : Int} {a300 : Bool} {m : M} {Q : V → M → Prop} (h :
 (∀ m0 : M, (m0 = (M.new m (AO.cells 4 [(Il a100), a101, a102, a103] false))) → ∀ m1 : M, (m1 = (M.new m0 (AO.cells 3 [(Il 0), 
 (Il 0), (Il 0)] false))) → ∃ x2, ∃ c3 : C, ∃ c4 : C, 
 ∃ c5 : C, ((ldA m1 (C.ptr m.nxt 0) 4) = (some [(Il x2), c3, c4, c5])) ∧ Wc prog tbl 68 [(V.agg 4 [(Il x2), 
 c3, c4, c5]), (V.c (Il a200)), (V.c (C.bool true))] m1 (fun v6 m7 => ∃ x8, 
 ∃ c9 : C, ∃ c10 : C, ∃ c11 : C, ∃ c12 : C, ∃ x13, (v6 = (V.tup [(U.agg 5 [(Il x8), 
 c9, c10, c11, c12]), (U.c (Il x13))])) ∧ ∀ m14 : M, (m14 = (M.new m7 (AO.cells 5 [(Il 0), 
 C.sl0, C.sl0, C.sl0, C.map0] false))) → ∃ m15 : M, ((stC m14 (C.ptr m7.nxt 0) 5 [(Il x8), 
 c9, c10, c11, c12]) = (some m15)) ∧ ifB (!decide (x13 = 0)) (∃ m16 : M, 
 ((stC m15 (C.ptr m0.nxt 0) 3 [(Il 0), (Il 0), 
 (Il 0)]) = (some m16)) ∧ ∃ x17, ∃ x18, 
 ∃ x19, ((ldA m16 (C.ptr m0.nxt 0) 3) = (some [(Il x17), 
 (Il x18), (Il x19)])) ∧ Q (V.tup [(U.agg 3 [(Il x17), 
 (Il x18), (Il x19)]), (U.c (Il x13))]) m16) (∃ x20, 
 ∃ c21 : C, ∃ c22 : C, ∃ c23 : C, ∃ c24 : C, ((ldA m15 (C.ptr m7.nxt 0) 5) = (some [(Il x20), 
 c21, c22, c23, c24])) ∧ Wc prog tbl 79 [(V.agg 5 [(Il x20), c21, 
 c22, c23, c24]), (V.c (Il a200))] m15 (fun v25 m26 => ∃ c27 : C, 
 (v25 = (V.c c27)) ∧ Wc prog tbl 78 [(V.c c27)] m26 (fun v28 m29 => ∃ c30 : C, 
 (v28 = (V.c c30)) ∧ ifB a300 (Wc prog tbl 82 [(V.c c30), (V.c (C.fn (Fn.func 80) [] []))] m29 (fun v31 m32 => 
 ∃ x33, ∃ x34, ∃ x35, ∃ x36, ∃ x37, ∃ x38, 
 ∃ x39, ∃ x40, ∃ x41, ∃ x42, ∃ x43, ∃ x44, 
 ∃ x45, ∃ x46, ∃ x47, ∃ x48, (v31 = (V.agg 16 [(Il x33), 
 (Il x34), (Il x35), (Il x36), (Il x37), 
 (Il x38), (Il x39), (Il x40), (Il x41), 
 (Il x42), (Il x43), (Il x44), (Il x45), 
 (Il x46), (Il x47), (Il x48)])) ∧ 
 ∃ m49 : M, ((stC m32 (C.ptr m0.nxt 0) 3 [(Il x33), (Il x34), 
 (Il x35)]) = (some m49)) ∧ ∃ x50, ∃ x51, 
 ∃ x52, ((ldA m49 (C.ptr m0.nxt 0) 3) = (some [(Il x50), 
 (Il x51), (Il x52)])) ∧ Q (V.tup [(U.agg 3 [(Il x50), 
 (Il x51), (Il x52)]), (U.c (Il 0))]) m49)) (Wc prog tbl 83 [(V.c c30), 
 (V.c (C.fn (Fn.func 80) [] []))] m29 (fun v53 m54 => ∃ x55, ∃ x56, 
 ∃ x57, ∃ x58, ∃ x59, ∃ x60, ∃ x61, ∃ x62, 
 ∃ x63, ∃ x64, ∃ x65, ∃ x66, ∃ x67, ∃ x68, 
 ∃ x69, ∃ x70, (v53 = (V.agg 16 [(Il x55), (Il x56), 
 (Il x57), (Il x58), (Il x59), (Il x60), 
 (Il x61), (Il x62), (Il x63), (Il x64), 
 (Il x65), (Il x66), (Il x67), (Il x68), 
 (Il x69), (Il x70)])) ∧ ∃ m71 : M, ((stC m54 (C.ptr m0.nxt 0) 3 [(Il x55), 
 (Il x56), (Il x57)]) = (some m71)) ∧ ∃ x72, 
 ∃ x73, ∃ x74, ((ldA m71 (C.ptr m0.nxt 0) 3) = (some [(Il x72), 
 (Il x73), (Il x74)])) ∧ Q (V.tup [(U.agg 3 [(Il x72), 
 (Il x73), (Il x74)]), (U.c (Il 0))]) m71)))))))) : Wc prog tbl 32 [(V.agg 4 [(Il a100), a101, a102, a103]), (V.c (Il a200)), (V.c (C.bool a300))] m Q :=
 wc_eq (n := 3) rfl (by kernel_rfl) (by kernel_rfl) h
theorem w41 {a100 : Int} {a101 : C} {a102 : C} {a103 : C} {m : M} {Q : V → M → Prop} (h :
 (∀ m0 : M, (m0 = (M.new m (AO.cells 4 [(Il a100), a101, a102, a103] false))) → ∀ R1 : List V → 
 M → Prop, (∀ c2 : C, ∀ x3 : Int, ∀ m4 : M, (isPt (C.ptr m.nxt 0) ∧ ∃ c5 : C, ((ldC m4 (C.ptr m.nxt 2)) = (some c5)) ∧ 
 isSl c5 ∧ ifB (decide (x3 < (((slLen c5) : Nat) : Int))) (∃ x6, ∃ c7 : C, ∃ c8 : C, ∃ c9 : C, 
 ((ldA m4 (C.ptr m.nxt 0) 4) = (some [(Il x6), c7, c8, c9])) ∧ Wc prog tbl 67 [(V.agg 4 [(Il x6), 
 c7, c8, c9]), (V.c (Il x3))] m4 (fun v10 m11 => ∃ c12 : C, (v10 = (V.c c12)) ∧ 
 ∀ m13 : M, (m13 = (M.new m11 (AO.cells 1 [c12] false))) → ∃ c14 : C, ∃ m15 : M, (ApR prog 22 m13 c2 (C.sl m11.nxt 0 1 0 (some 1)) c14 m15) ∧ 
 fitsP .i64 (x3 + 1) ∧ R1 [(V.c c14), (V.c (Il (x3 + 1)))] m15)) (Q (V.c c2) m4)) → 
 R1 [(V.c c2), (V.c (Il x3))] m4) → R1 [(V.c C.sl0), (V.c (Il 0))] m0)) : Wc prog tbl 41 [(V.agg 4 [(Il a100), a101, a102, a103])] m Q :=
 wc_eq (n := 1) rfl (by kernel_rfl) (by kernel_rfl) h
theorem w47 {a100 : Int} {a101 : C} {a102 : C} {a103 : C} {a200 : Int} {a300 : Int} {a301 : Int} {a302 : Int} {a400 : Int} {m : M} {Q : V → M → Prop} (h :
 (∀ m0 : M, (m0 = (M.new m (AO.cells 4 [(Il a100), a101, a102, a103] false))) → ∀ m1 : M, (m1 = (M.new m0 (AO.cells 3 [(Il a300), 
 (Il a301), (Il a302)] false))) → isPt (C.ptr m0.nxt 0) ∧ ∃ x2, 
 ((ldC m1 (C.ptr m0.nxt 2)) = (some (Il x2))) ∧ ∃ x3, ∃ c4 : C, ∃ c5 : C, 
 ∃ c6 : C, ((ldA m1 (C.ptr m.nxt 0) 4) = (some [(Il x3), c4, c5, c6])) ∧ 
 isPt (C.ptr m.nxt 0) ∧ ∃ c7 : C, ((ldC m1 (C.ptr m.nxt 2)) = (some c7)) ∧ ∃ n8 : Nat, 
 (a200 = ((n8 : Nat) : Int)) ∧ (n8 < (slLen c7)) ∧ isPt (slAt c7 (n8 * 7)) ∧ ∃ x9, 
 ((ldC m1 (ptAdd (slAt c7 (n8 * 7)) 0)) = (some (Il x9))) ∧ ∃ x10, 
 ∃ x11, ∃ x12, ((ldA m1 (C.ptr m0.nxt 0) 3) = (some [(Il x10), 
 (Il x11), (Il x12)])) ∧ Wc prog tbl 76 [(V.agg 4 [(Il x3), 
 c4, c5, c6]), (V.c (Il x9)), (V.agg 3 [(Il x10), 
 (Il x11), (Il x12)]), (V.c (Il a400))] m1 (fun v13 m14 => 
 ∃ x15, (v13 = (V.c (Il x15))) ∧ ((ldC m14 (C.ptr m0.nxt 2)) = (some (Il x2))) ∧ 
 fitsP .i64 (x2 + x15) ∧ Q (V.c (Il (Min.min (100 : Int) (x2 + x15)))) m14))) : Wc prog tbl 47 [(V.agg 4 [(Il a100), a101, a102, a103]), (V.c (Il a200)), (V.agg 3 [(Il a300), (Il a301), (Il a302)]), (V.c (Il a400))] m Q :=
 wc_eq (n := 4) rfl (by kernel_rfl) (by kernel_rfl) h
theorem w50 {a100 : C} {m : M} {Q : V → M → Prop} (h :
 (∃ c0 : C, ∃ m1 : M, (ApR prog 75 m C.sl0 a100 c0 m1) ∧ Q (V.c c0) m1)) : Wc prog tbl 50 [(V.c a100)] m Q :=
 wc_eq (n := 1) rfl (by kernel_rfl) (by kernel_rfl) h
theorem w58 {a100 : Int} {a101 : C} {a102 : C} {a103 : C} {m : M} {Q : V → M → Prop} (h :
 (∀ m0 : M, (m0 = (M.new m (AO.cells 4 [(Il a100), a101, a102, a103] false))) → ∀ m1 : M, (m1 = (M.new m0 (AO.cells 5 [(Il 0), 
 C.sl0, C.sl0, C.sl0, C.map0] false))) → ∃ x2, ∃ c3 : C, ∃ c4 : C, ∃ c5 : C, ((ldA m1 (C.ptr m.nxt 0) 4) = (some [(Il x2), 
 c3, c4, c5])) ∧ Wc prog tbl 15 [(V.agg 4 [(Il x2), c3, c4, c5])] m1 (fun v6 m7 => 
 ∃ x8, (v6 = (V.c (Il x8))) ∧ ifB (!decide (x8 = 0)) (∃ m9 : M, ((stC m7 (C.ptr m0.nxt 0) 5 [(Il 0), 
 C.sl0, C.sl0, C.sl0, C.map0]) = (some m9)) ∧ ∃ x10, ∃ c11 : C, ∃ c12 : C, 
 ∃ c13 : C, ∃ c14 : C, ((ldA m9 (C.ptr m0.nxt 0) 5) = (some [(Il x10), 
 c11, c12, c13, c14])) ∧ Q (V.tup [(U.agg 5 [(Il x10), c11, c12, c13, 
 c14]), (U.c (Il x8))]) m9) (∃ x15, ∃ c16 : C, ∃ c17 : C, 
 ∃ c18 : C, ((ldA m7 (C.ptr m.nxt 0) 4) = (some [(Il x15), c16, c17, 
 c18])) ∧ Wc prog tbl 90 [(V.agg 4 [(Il x15), c16, c17, c18])] m7 (fun v19 m20 => 
 ∃ x21, ∃ c22 : C, ∃ c23 : C, ∃ c24 : C, ∃ c25 : C, (v19 = (V.agg 5 [(Il x21), 
 c22, c23, c24, c25])) ∧ ∀ m26 : M, (m26 = (M.new m20 (AO.cells 5 [(Il 0), 
 C.sl0, C.sl0, C.sl0, C.map0] false))) → ∃ m27 : M, ((stC m26 (C.ptr m20.nxt 0) 5 [(Il x21), 
 c22, c23, c24, c25]) = (some m27)) ∧ ∃ x28, ∃ c29 : C, ∃ c30 : C, 
 ∃ c31 : C, ∃ c32 : C, ((ldA m27 (C.ptr m20.nxt 0) 5) = (some [(Il x28), 
 c29, c30, c31, c32])) ∧ Wc prog tbl 92 [(V.agg 5 [(Il x28), c29, 
 c30, c31, c32])] m27 (fun v33 m34 => ∃ b35 : Bool, (v33 = (V.c (C.bool b35))) ∧ 
 ifB (!b35) (∃ m36 : M, ((stC m34 (C.ptr m0.nxt 0) 5 [(Il 0), 
 C.sl0, C.sl0, C.sl0, C.map0]) = (some m36)) ∧ ∃ x37, ∃ c38 : C, 
 ∃ c39 : C, ∃ c40 : C, ∃ c41 : C, ((ldA m36 (C.ptr m0.nxt 0) 5) = (some [(Il x37), 
 c38, c39, c40, c41])) ∧ Q (V.tup [(U.agg 5 [(Il x37), c38, c39, 
 c40, c41]), (U.c (Il (11 : Int)))]) m36) (∃ x42, 
 ∃ c43 : C, ∃ c44 : C, ∃ c45 : C, ∃ c46 : C, ((ldA m34 (C.ptr m20.nxt 0) 5) = (some [(Il x42), 
 c43, c44, c45, c46])) ∧ ∃ m47 : M, ((stC m34 (C.ptr m0.nxt 0) 5 [(Il x42), 
 c43, c44, c45, c46]) = (some m47)) ∧ ∃ x48, ∃ c49 : C, ∃ c50 : C, 
 ∃ c51 : C, ∃ c52 : C, ((ldA m47 (C.ptr m0.nxt 0) 5) = (some [(Il x48), 
 c49, c50, c51, c52])) ∧ Q (V.tup [(U.agg 5 [(Il x48), c49, c50, 
 c51, c52]), (U.c (Il 0))]) m47))))))) : Wc prog tbl 58 [(V.agg 4 [(Il a100), a101, a102, a103])] m Q :=
 wc_eq (n := 1) rfl (by kernel_rfl) (by kernel_rfl) h
theorem w61 {a100 : Int} {a101 : C} {a102 : C} {a103 : C} {m : M} {Q : V → M → Prop} (h :
 (∀ m0 : M, (m0 = (M.new m (AO.cells 4 [(Il a100), a101, a102, a103] false))) → isPt (C.ptr m.nxt 0) ∧ 
 ∃ x1, ((ldC m0 (C.ptr m.nxt 0)) = (some (Il x1))) ∧ ifB (decide ((0 : Int) ≤ x1)) (isPt (C.ptr m.nxt 0) ∧ 
 ∃ c2 : C, ((ldC m0 (C.ptr m.nxt 1)) = (some c2)) ∧ isSl c2 ∧ ifB (decide ((0 : Int) < (((slLen c2) : Nat) : Int))) (isPt (C.ptr m.nxt 0) ∧ 
 ∃ c3 : C, ((ldC m0 (C.ptr m.nxt 2)) = (some c3)) ∧ isSl c3 ∧ ifB (decide ((0 : Int) < (((slLen c3) : Nat) : Int))) (isPt (C.ptr m.nxt 0) ∧ 
 ∃ c4 : C, ((ldC m0 (C.ptr m.nxt 1)) = (some c4)) ∧ ∃ x5, ∃ c6 : C, ∃ c7 : C, 
 ∃ c8 : C, ((ldA m0 (C.ptr m.nxt 0) 4) = (some [(Il x5), c6, 
 c7, c8])) ∧ optB (mapO vW [(V.agg 4 [(Il x5), c6, c7, c8])]) False fun l9 => 
 Wc prog tbl 103 [(V.c c4), (V.c (C.fn (Fn.func 104) l9 []))] m0 (fun v10 m11 => ∃ b12 : Bool, 
 (v10 = (V.c (C.bool b12))) ∧ ifB b12 (isPt (C.ptr m.nxt 0) ∧ ∃ c13 : C, ((ldC m11 (C.ptr m.nxt 2)) = (some c13)) ∧ 
 ∃ x14, ∃ c15 : C, ∃ c16 : C, ∃ c17 : C, ((ldA m11 (C.ptr m.nxt 0) 4) = (some [(Il x14), 
 c15, c16, c17])) ∧ optB (mapO vW [(V.agg 4 [(Il x14), c15, c16, 
 c17])]) False fun l18 => Wc prog tbl 62 [(V.c c13), (V.c (C.fn (Fn.func 105) l18 []))] m11 (fun v19 m20 => 
 ∃ b21 : Bool, (v19 = (V.c (C.bool b21))) ∧ ifB b21 (isPt (C.ptr m.nxt 0) ∧ 
 ∃ c22 : C, ((ldC m20 (C.ptr m.nxt 3)) = (some c22)) ∧ ∃ x23, 
 ∃ c24 : C, ∃ c25 : C, ∃ c26 : C, ((ldA m20 (C.ptr m.nxt 0) 4) = (some [(Il x23), 
 c24, c25, c26])) ∧ optB (mapO vW [(V.agg 4 [(Il x23), c24, c25, 
 c26])]) False fun l27 => Wc prog tbl 106 [(V.c c22), (V.c (C.fn (Fn.func 107) l27 []))] m20 (fun v28 m29 => 
 ∃ b30 : Bool, (v28 = (V.c (C.bool b30))) ∧ Q (V.c (C.bool b30)) m29)) (Q (V.c (C.bool false)) m20))) (Q (V.c (C.bool false)) m11))) (Q (V.c (C.bool false)) m0)) (Q (V.c (C.bool false)) m0)) (Q (V.c (C.bool false)) m0))) : Wc prog tbl 61 [(V.agg 4 [(Il a100), a101, a102, a103])] m Q :=
 wc_eq (n := 1) rfl (by kernel_rfl) (by kernel_rfl) h
theorem w64 {a100 : C} {a200 : Int} {m : M} {Q : V → M → Prop} (h :
 (∀ R0 : List V → M → Prop, (∀ b1 : Bool, ∀ x2 : Int, ∀ m3 : M, (isSl a100 ∧ ifB (decide (x2 < (((slLen a100) : Nat) : Int))) (∀ R4 : List V → 
 M → Prop, (∀ b5 : Bool, ∀ x6 : Int, ∀ m7 : M, (∃ n8 : Nat, (x2 = ((n8 : Nat) : Int)) ∧ (n8 < (slLen a100)) ∧ 
 ∃ c9 : C, ((ldC m7 (slAt a100 (n8 * 1))) = (some c9)) ∧ isSl c9 ∧ ifB (decide (x6 < (((slLen c9) : Nat) : Int))) (ifB b5 (fitsP .i64 (x6 + 1) ∧ 
 R4 [(V.c (C.bool true)), (V.c (Il (x6 + 1)))] m7) (∃ n10 : Nat, 
 (x2 = ((n10 : Nat) : Int)) ∧ (n10 < (slLen a100)) ∧ ∃ c11 : C, ((ldC m7 (slAt a100 (n10 * 1))) = (some c11)) ∧ 
 ∃ n12 : Nat, (x6 = ((n12 : Nat) : Int)) ∧ (n12 < (slLen c11)) ∧ ∃ x13, 
 ((ldC m7 (slAt c11 (n12 * 1))) = (some (Il x13))) ∧ ((0 : Int) ≤ x13) ∧ 
 ((0 : Int) ≤ a200) ∧ fitsP .i64 x13 ∧ fitsP .i64 a200 ∧ fitsP .i64 (((Nat.land (Int.toNat x13) (Int.toNat a200)) : Nat) : Int) ∧ 
 fitsP .i64 (x6 + 1) ∧ R4 [(V.c (C.bool (decide ((((Nat.land (Int.toNat x13) (Int.toNat a200)) : Nat) : Int) = a200)))), 
 (V.c (Il (x6 + 1)))] m7)) (ifB (!b5) (Q (V.c (C.bool false)) m7) (fitsP .i64 (x2 + 1) ∧ 
 R0 [(V.c (C.bool b1)), (V.c (Il (x2 + 1)))] m7))) → R4 [(V.c (C.bool b5)), 
 (V.c (Il x6))] m7) → R4 [(V.c (C.bool false)), (V.c (Il 0))] m3) (Q (V.c (C.bool true)) m3)) → 
 R0 [(V.c (C.bool b1)), (V.c (Il x2))] m3) → R0 [(V.c (C.bool false)), (V.c (Il 0))] m)) : Wc prog tbl 64 [(V.c a100), (V.c (Il a200))] m Q :=
 wc_eq (n := 2) rfl (by kernel_rfl) (by kernel_rfl) h
theorem w67 {a100 : Int} {a101 : C} {a102 : C} {a103 : C} {a200 : Int} {m : M} {Q : V → M → Prop} (h :
 (∀ m0 : M, (m0 = (M.new m (AO.cells 4 [(Il a100), a101, a102, a103] false))) → ∀ R1 : List V → 
 M → Prop, (∀ c2 : C, ∀ x3 : Int, ∀ m4 : M, (isPt (C.ptr m.nxt 0) ∧ ∃ c5 : C, ((ldC m4 (C.ptr m.nxt 2)) = (some c5)) ∧ 
 ∃ n6 : Nat, (a200 = ((n6 : Nat) : Int)) ∧ (n6 < (slLen c5)) ∧ ∃ x7, ∃ x8, ∃ x9, 
 ∃ x10, ∃ x11, ∃ x12, ∃ x13, ((ldA m4 (slAt c5 (n6 * 7)) 7) = (some [(Il x7), 
 (Il x8), (Il x9), (Il x10), (Il x11), 
 (Il x12), (Il x13)])) ∧ Wc prog tbl 49 [(V.agg 7 [(Il x7), 
 (Il x8), (Il x9), (Il x10), (Il x11), 
 (Il x12), (Il x13)])] m4 (fun v14 m15 => ∃ x16, 
 (v14 = (V.c (Il x16))) ∧ ifB (decide (x3 < x16)) (∀ R17 : List V → 
 M → Prop, (∀ x18 : Int, ∀ x19 : Int, ∀ m20 : M, (isPt (C.ptr m.nxt 0) ∧ ∃ c21 : C, 
 ((ldC m20 (C.ptr m.nxt 3)) = (some c21)) ∧ isSl c21 ∧ ifB (decide (x19 < (((slLen c21) : Nat) : Int))) (isPt (C.ptr m.nxt 0) ∧ 
 ∃ c22 : C, ((ldC m20 (C.ptr m.nxt 3)) = (some c22)) ∧ ∃ n23 : Nat, 
 (x19 = ((n23 : Nat) : Int)) ∧ (n23 < (slLen c22)) ∧ isPt (slAt c22 (n23 * 4)) ∧ 
 ∃ x24, ((ldC m20 (ptAdd (slAt c22 (n23 * 4)) 0)) = (some (Il x24))) ∧ 
 ifB (!decide (x24 = a200)) (((0 : Int) ≤ (1 : Int)) ∧ ((0 : Int) ≤ (wrapZ .u64 x19)) ∧ 
 ((wrapZ .u64 x19) ≤ (64 : Int)) ∧ fitsP .i64 ((1 : Int) * ((2 : Int) ^ (Int.toNat (wrapZ .u64 x19)))) ∧ 
 ((0 : Int) ≤ x18) ∧ ((0 : Int) ≤ ((1 : Int) * ((2 : Int) ^ (Int.toNat (wrapZ .u64 x19))))) ∧ 
 fitsP .i64 x18 ∧ fitsP .i64 ((1 : Int) * ((2 : Int) ^ (Int.toNat (wrapZ .u64 x19)))) ∧ 
 fitsP .i64 (((Nat.lor (Int.toNat x18) (Int.toNat ((1 : Int) * ((2 : Int) ^ (Int.toNat (wrapZ .u64 x19)))))) : Nat) : Int) ∧ 
 fitsP .i64 (x19 + 1) ∧ R17 [(V.c (Il (((Nat.lor (Int.toNat x18) (Int.toNat ((1 : Int) * ((2 : Int) ^ (Int.toNat (wrapZ .u64 x19)))))) : Nat) : Int))), 
 (V.c (Il (x19 + 1)))] m20) (∃ x25, ∃ c26 : C, 
 ∃ c27 : C, ∃ c28 : C, ((ldA m20 (C.ptr m.nxt 0) 4) = (some [(Il x25), 
 c26, c27, c28])) ∧ isPt (C.ptr m.nxt 0) ∧ ∃ c29 : C, ((ldC m20 (C.ptr m.nxt 3)) = (some c29)) ∧ 
 ∃ n30 : Nat, (x19 = ((n30 : Nat) : Int)) ∧ (n30 < (slLen c29)) ∧ ∃ x31, 
 ∃ x32, ∃ x33, ∃ x34, ((ldA m20 (slAt c29 (n30 * 4)) 4) = (some [(Il x31), 
 (Il x32), (Il x33), (Il x34)])) ∧ 
 isPt (C.ptr m.nxt 0) ∧ ∃ c35 : C, ((ldC m20 (C.ptr m.nxt 2)) = (some c35)) ∧ 
 ∃ n36 : Nat, (a200 = ((n36 : Nat) : Int)) ∧ (n36 < (slLen c35)) ∧ ∃ x37, 
 ∃ x38, ∃ x39, ∃ x40, ∃ x41, ∃ x42, ∃ x43, 
 ((ldA m20 (slAt c35 (n36 * 7)) 7) = (some [(Il x37), (Il x38), 
 (Il x39), (Il x40), (Il x41), (Il x42), 
 (Il x43)])) ∧ Wc prog tbl 48 [(V.agg 7 [(Il x37), 
 (Il x38), (Il x39), (Il x40), (Il x41), 
 (Il x42), (Il x43)]), (V.c (Il x3))] m20 (fun v44 m45 => 
 ∃ x46, ∃ x47, ∃ x48, (v44 = (V.agg 3 [(Il x46), 
 (Il x47), (Il x48)])) ∧ ((ldA m45 (slAt c29 (n30 * 4)) 4) = (some [(Il x31), 
 (Il x32), (Il x33), (Il x34)])) ∧ 
 (ifB (noFnC c29) ((ldC m45 (C.ptr m.nxt 3)) = (some c29)) False) ∧ 
 (ifB (allS noFnC [(Il x25), c26, c27, c28]) ((ldA m45 (C.ptr m.nxt 0) 4) = (some [(Il x25), 
 c26, c27, c28])) False) ∧ Wc prog tbl 77 [(V.agg 4 [(Il x25), 
 c26, c27, c28]), (V.agg 4 [(Il x31), (Il x32), 
 (Il x33), (Il x34)]), (V.agg 3 [(Il x46), 
 (Il x47), (Il x48)])] m45 (fun v49 m50 => ∃ b51 : Bool, 
 (v49 = (V.c (C.bool b51))) ∧ ifB b51 (((0 : Int) ≤ (1 : Int)) ∧ ((0 : Int) ≤ (wrapZ .u64 x19)) ∧ 
 ((wrapZ .u64 x19) ≤ (64 : Int)) ∧ fitsP .i64 ((1 : Int) * ((2 : Int) ^ (Int.toNat (wrapZ .u64 x19)))) ∧ 
 ((0 : Int) ≤ x18) ∧ ((0 : Int) ≤ ((1 : Int) * ((2 : Int) ^ (Int.toNat (wrapZ .u64 x19))))) ∧ 
 fitsP .i64 x18 ∧ fitsP .i64 ((1 : Int) * ((2 : Int) ^ (Int.toNat (wrapZ .u64 x19)))) ∧ 
 fitsP .i64 (((Nat.lor (Int.toNat x18) (Int.toNat ((1 : Int) * ((2 : Int) ^ (Int.toNat (wrapZ .u64 x19)))))) : Nat) : Int) ∧ 
 fitsP .i64 (x19 + 1) ∧ R17 [(V.c (Il (((Nat.lor (Int.toNat x18) (Int.toNat ((1 : Int) * ((2 : Int) ^ (Int.toNat (wrapZ .u64 x19)))))) : Nat) : Int))), 
 (V.c (Il (x19 + 1)))] m50) (fitsP .i64 (x19 + 1) ∧ 
 R17 [(V.c (Il x18)), (V.c (Il (x19 + 1)))] m50))))) (∀ m52 : M, 
 (m52 = (M.new m20 (AO.cells 1 [(Il x18)] false))) → ∃ c53 : C, 
 ∃ m54 : M, (ApR prog 75 m52 c2 (C.sl m20.nxt 0 1 0 (some 1)) c53 m54) ∧ 
 fitsP .i64 (x3 + 1) ∧ R1 [(V.c c53), (V.c (Il (x3 + 1)))] m54)) → 
 R17 [(V.c (Il x18)), (V.c (Il x19))] m20) → 
 R17 [(V.c (Il 0)), (V.c (Il 0))] m15) (Q (V.c c2) m15))) → 
 R1 [(V.c c2), (V.c (Il x3))] m4) → R1 [(V.c C.sl0), (V.c (Il 0))] m0)) : Wc prog tbl 67 [(V.agg 4 [(Il a100), a101, a102, a103]), (V.c (Il a200))] m Q :=
 wc_eq (n := 2) rfl (by kernel_rfl) (by kernel_rfl) h
theorem w74 {a100 : Int} {a101 : Int} {a102 : Int} {a103 : Int} {a104 : Int} {a105 : Int} {a106 : Int} {a107 : Int} {a108 : Int} {a109 : Int} {a110 : Int} {a111 : Int} {a112 : Int} {m : M} {Q : V → M → Prop} (h :
 (∀ m0 : M, (m0 = (M.new m (AO.cells 13 [(Il a100), (Il a101), (Il a102), 
 (Il a103), (Il a104), (Il a105), (Il a106), 
 (Il a107), (Il a108), (Il a109), (Il a110), 
 (Il a111), (Il a112)] false))) → isPt (C.ptr m.nxt 0) ∧ ∃ n1 : Nat, 
 ((12 : Int) = ((n1 : Nat) : Int)) ∧ (n1 < 13) ∧ ∃ x2, ((ldC m0 (C.ptr m.nxt (0 + (n1 * 1)))) = (some (Il x2))) ∧ 
 Q (V.c (Il x2)) m0)) : Wc prog tbl 74 [(V.agg 13 [(Il a100), (Il a101), (Il a102), (Il a103), (Il a104), (Il a105), (Il a106), (Il a107), (Il a108), (Il a109), (Il a110), (Il a111), (Il a112)])] m Q :=
 wc_eq (n := 1) rfl (by kernel_rfl) (by kernel_rfl) h
theorem w77 {a100 : Int} {a101 : C} {a102 : C} {a103 : C} {a200 : Int} {a201 : Int} {a202 : Int} {a203 : Int} {a300 : Int} {a301 : Int} {a302 : Int} {m : M} {Q : V → M → Prop} (h :
 (∀ m0 : M, (m0 = (M.new m (AO.cells 4 [(Il a100), a101, a102, a103] false))) → ∀ m1 : M, (m1 = (M.new m0 (AO.cells 4 [(Il a200), 
 (Il a201), (Il a202), (Il a203)] false))) → ∀ m2 : M, 
 (m2 = (M.new m1 (AO.cells 3 [(Il a300), (Il a301), (Il a302)] false))) → 
 ∃ x3, ∃ c4 : C, ∃ c5 : C, ∃ c6 : C, ((ldA m2 (C.ptr m.nxt 0) 4) = (some [(Il x3), 
 c4, c5, c6])) ∧ isPt (C.ptr m0.nxt 0) ∧ ∃ x7, ((ldC m2 (C.ptr m0.nxt 0)) = (some (Il x7))) ∧ 
 ∃ x8, ∃ x9, ∃ x10, ((ldA m2 (C.ptr m1.nxt 0) 3) = (some [(Il x8), 
 (Il x9), (Il x10)])) ∧ isPt (C.ptr m0.nxt 0) ∧ ∃ x11, 
 ((ldC m2 (C.ptr m0.nxt 1)) = (some (Il x11))) ∧ Wc prog tbl 47 [(V.agg 4 [(Il x3), 
 c4, c5, c6]), (V.c (Il x7)), (V.agg 3 [(Il x8), (Il x9), 
 (Il x10)]), (V.c (Il x11))] m2 (fun v12 m13 => ∃ x14, 
 (v12 = (V.c (Il x14))) ∧ isPt (C.ptr m0.nxt 0) ∧ isPt (C.ptr m0.nxt 2) ∧ 
 ∃ x15, ((ldC m13 (C.ptr m0.nxt 2)) = (some (Il x15))) ∧ 
 ((ldC m2 (C.ptr m0.nxt 2)) = (some (Il x15))) ∧ isPt (C.ptr m0.nxt 0) ∧ 
 isPt (C.ptr m0.nxt 2) ∧ ∃ x16, ((ldC m13 (C.ptr m0.nxt 3)) = (some (Il x16))) ∧ 
 ((ldC m2 (C.ptr m0.nxt 3)) = (some (Il x16))) ∧ Wc prog tbl 29 [(V.c (Il x14)), 
 (V.c (Il x15)), (V.c (Il x16))] m13 (fun v17 m18 => 
 ∃ b19 : Bool, (v17 = (V.c (C.bool b19))) ∧ Q (V.c (C.bool b19)) m18)))) : Wc prog tbl 77 [(V.agg 4 [(Il a100), a101, a102, a103]), (V.agg 4 [(Il a200), (Il a201), (Il a202), (Il a203)]), (V.agg 3 [(Il a300), (Il a301), (Il a302)])] m Q :=
 wc_eq (n := 3) rfl (by kernel_rfl) (by kernel_rfl) h
theorem w80 {a100 : Int} {a101 : Int} {a102 : Int} {a103 : Int} {a104 : Int} {a105 : Int} {a106 : Int} {a107 : Int} {a108 : Int} {a109 : Int} {a110 : Int} {a111 : Int} {a112 : Int} {a113 : Int} {a114 : Int} {a115 : Int} {a200 : Int} {a201 : Int} {a202 : Int} {a203 : Int} {a204 : Int} {a205 : Int} {a206 : Int} {a207 : Int} {a208 : Int} {a209 : Int} {a210 : Int} {a211 : Int} {a212 : Int} {a213 : Int} {a214 : Int} {a215 : Int} {m : M} {Q : V → M → Prop} (h :
 (∀ m0 : M, (m0 = (M.new m (AO.cells 16 [(Il a100), (Il a101), (Il a102), 
 (Il a103), (Il a104), (Il a105), (Il a106), 
 (Il a107), (Il a108), (Il a109), (Il a110), 
 (Il a111), (Il a112), (Il a113), (Il a114), 
 (Il a115)] false))) → ∀ m1 : M, (m1 = (M.new m0 (AO.cells 16 [(Il a200), 
 (Il a201), (Il a202), (Il a203), (Il a204), 
 (Il a205), (Il a206), (Il a207), (Il a208), 
 (Il a209), (Il a210), (Il a211), (Il a212), 
 (Il a213), (Il a214), (Il a215)] false))) → isPt (C.ptr m.nxt 0) ∧ 
 ∃ x2, ∃ x3, ∃ x4, ∃ x5, ∃ x6, ∃ x7, ∃ x8, ∃ x9, 
 ∃ x10, ∃ x11, ∃ x12, ∃ x13, ∃ x14, ((ldA m1 (C.ptr m.nxt 3) 13) = (some [(Il x2), 
 (Il x3), (Il x4), (Il x5), (Il x6), 
 (Il x7), (Il x8), (Il x9), (Il x10), 
 (Il x11), (Il x12), (Il x13), (Il x14)])) ∧ 
 Wc prog tbl 74 [(V.agg 13 [(Il x2), (Il x3), (Il x4), 
 (Il x5), (Il x6), (Il x7), (Il x8), 
 (Il x9), (Il x10), (Il x11), (Il x12), 
 (Il x13), (Il x14)])] m1 (fun v15 m16 => ∃ x17, 
 (v15 = (V.c (Il x17))) ∧ isPt (C.ptr m0.nxt 0) ∧ ∃ x18, ∃ x19, 
 ∃ x20, ∃ x21, ∃ x22, ∃ x23, ∃ x24, ∃ x25, 
 ∃ x26, ∃ x27, ∃ x28, ∃ x29, ∃ x30, ((ldA m16 (C.ptr m0.nxt 3) 13) = (some [(Il x18), 
 (Il x19), (Il x20), (Il x21), (Il x22), 
 (Il x23), (Il x24), (Il x25), (Il x26), 
 (Il x27), (Il x28), (Il x29), (Il x30)])) ∧ 
 ((ldA m1 (C.ptr m0.nxt 3) 13) = (some [(Il x18), (Il x19), 
 (Il x20), (Il x21), (Il x22), (Il x23), 
 (Il x24), (Il x25), (Il x26), (Il x27), 
 (Il x28), (Il x29), (Il x30)])) ∧ 
 Wc prog tbl 74 [(V.agg 13 [(Il x18), (Il x19), 
 (Il x20), (Il x21), (Il x22), (Il x23), 
 (Il x24), (Il x25), (Il x26), (Il x27), 
 (Il x28), (Il x29), (Il x30)])] m16 (fun v31 m32 => 
 ∃ x33, (v31 = (V.c (Il x33))) ∧ Wc prog tbl 81 [(V.c (Il x17)), 
 (V.c (Il x33))] m32 (fun v34 m35 => ∃ x36, (v34 = (V.c (Il x36))) ∧ 
 Q (V.c (Il x36)) m35))))) : Wc prog tbl 80 [(V.agg 16 [(Il a100), (Il a101), (Il a102), (Il a103), (Il a104), (Il a105), (Il a106), (Il a107), (Il a108), (Il a109), (Il a110), (Il a111), (Il a112), (Il a113), (Il a114), (Il a115)]), (V.agg 16 [(Il a200), (Il a201), (Il a202), (Il a203), (Il a204), (Il a205), (Il a206), (Il a207), (Il a208), (Il a209), (Il a210), (Il a211), (Il a212), (Il a213), (Il a214), (Il a215)])] m Q :=
 wc_eq (n := 2) rfl (by kernel_rfl) (by kernel_rfl) h
theorem w83 {a100 : C} {a200 : C} {m : M} {Q : V → M → Prop} (h :
 (∀ m0 : M, (m0 = (M.new m (AO.cells 16 [(Il 0), (Il 0), (Il 0), 
 (Il 0), (Il 0), (Il 0), (Il 0), 
 (Il 0), (Il 0), (Il 0), (Il 0), 
 (Il 0), (Il 0), (Il 0), (Il 0), 
 (Il 0)] false))) → isSl a100 ∧ ifB (decide ((((slLen a100) : Nat) : Int) < (1 : Int))) False (∃ n1 : Nat, 
 ((0 : Int) = ((n1 : Nat) : Int)) ∧ (n1 < (slLen a100)) ∧ ∃ x2, ∃ x3, ∃ x4, ∃ x5, 
 ∃ x6, ∃ x7, ∃ x8, ∃ x9, ∃ x10, ∃ x11, ∃ x12, ∃ x13, 
 ∃ x14, ∃ x15, ∃ x16, ∃ x17, ((ldA m0 (slAt a100 (n1 * 16)) 16) = (some [(Il x2), 
 (Il x3), (Il x4), (Il x5), (Il x6), 
 (Il x7), (Il x8), (Il x9), (Il x10), 
 (Il x11), (Il x12), (Il x13), (Il x14), 
 (Il x15), (Il x16), (Il x17)])) ∧ ∀ m18 : M, 
 (m18 = (M.new m0 (AO.cells 16 [(Il 0), (Il 0), 
 (Il 0), (Il 0), (Il 0), 
 (Il 0), (Il 0), (Il 0), 
 (Il 0), (Il 0), (Il 0), 
 (Il 0), (Il 0), (Il 0), 
 (Il 0), (Il 0)] false))) → ∃ m19 : M, 
 ((stC m18 (C.ptr m0.nxt 0) 16 [(Il x2), (Il x3), 
 (Il x4), (Il x5), (Il x6), (Il x7), 
 (Il x8), (Il x9), (Il x10), (Il x11), 
 (Il x12), (Il x13), (Il x14), (Il x15), 
 (Il x16), (Il x17)]) = (some m19)) ∧ ∀ R20 : List V → 
 M → Prop, (∀ x21 : Int, ∀ m22 : M, (isSl a100 ∧ ifB (decide (x21 < (((slLen a100) : Nat) : Int))) (∃ n23 : Nat, 
 (x21 = ((n23 : Nat) : Int)) ∧ (n23 < (slLen a100)) ∧ ∃ x24, ∃ x25, 
 ∃ x26, ∃ x27, ∃ x28, ∃ x29, ∃ x30, ∃ x31, 
 ∃ x32, ∃ x33, ∃ x34, ∃ x35, ∃ x36, ∃ x37, 
 ∃ x38, ∃ x39, ((ldA m22 (slAt a100 (n23 * 16)) 16) = (some [(Il x24), 
 (Il x25), (Il x26), (Il x27), (Il x28), 
 (Il x29), (Il x30), (Il x31), (Il x32), 
 (Il x33), (Il x34), (Il x35), (Il x36), 
 (Il x37), (Il x38), (Il x39)])) ∧ 
 ∃ x40, ∃ x41, ∃ x42, ∃ x43, ∃ x44, ∃ x45, 
 ∃ x46, ∃ x47, ∃ x48, ∃ x49, ∃ x50, ∃ x51, 
 ∃ x52, ∃ x53, ∃ x54, ∃ x55, ((ldA m22 (C.ptr m0.nxt 0) 16) = (some [(Il x40), 
 (Il x41), (Il x42), (Il x43), (Il x44), 
 (Il x45), (Il x46), (Il x47), (Il x48), 
 (Il x49), (Il x50), (Il x51), (Il x52), 
 (Il x53), (Il x54), (Il x55)])) ∧ 
 callP prog tbl [(V.agg 16 [(Il x24), (Il x25), 
 (Il x26), (Il x27), (Il x28), (Il x29), 
 (Il x30), (Il x31), (Il x32), (Il x33), 
 (Il x34), (Il x35), (Il x36), (Il x37), 
 (Il x38), (Il x39)]), (V.agg 16 [(Il x40), 
 (Il x41), (Il x42), (Il x43), (Il x44), 
 (Il x45), (Il x46), (Il x47), (Il x48), 
 (Il x49), (Il x50), (Il x51), (Il x52), 
 (Il x53), (Il x54), (Il x55)])] a200 m22 (fun v56 m57 => 
 ∃ x58, (v56 = (V.c (Il x58))) ∧ ifB (decide (x58 < 0)) (∃ n59 : Nat, 
 (x21 = ((n59 : Nat) : Int)) ∧ (n59 < (slLen a100)) ∧ ∃ x60, ∃ x61, 
 ∃ x62, ∃ x63, ∃ x64, ∃ x65, ∃ x66, ∃ x67, 
 ∃ x68, ∃ x69, ∃ x70, ∃ x71, ∃ x72, ∃ x73, 
 ∃ x74, ∃ x75, ((ldA m57 (slAt a100 (n59 * 16)) 16) = (some [(Il x60), 
 (Il x61), (Il x62), (Il x63), (Il x64), 
 (Il x65), (Il x66), (Il x67), (Il x68), 
 (Il x69), (Il x70), (Il x71), (Il x72), 
 (Il x73), (Il x74), (Il x75)])) ∧ 
 ∃ m76 : M, ((stC m57 (C.ptr m0.nxt 0) 16 [(Il x60), (Il x61), 
 (Il x62), (Il x63), (Il x64), (Il x65), 
 (Il x66), (Il x67), (Il x68), (Il x69), 
 (Il x70), (Il x71), (Il x72), (Il x73), 
 (Il x74), (Il x75)]) = (some m76)) ∧ fitsP .i64 (x21 + 1) ∧ 
 R20 [(V.c (Il (x21 + 1)))] m76) (fitsP .i64 (x21 + 1) ∧ 
 R20 [(V.c (Il (x21 + 1)))] m57))) (∃ x77, 
 ∃ x78, ∃ x79, ∃ x80, ∃ x81, ∃ x82, ∃ x83, 
 ∃ x84, ∃ x85, ∃ x86, ∃ x87, ∃ x88, ∃ x89, 
 ∃ x90, ∃ x91, ∃ x92, ((ldA m22 (C.ptr m0.nxt 0) 16) = (some [(Il x77), 
 (Il x78), (Il x79), (Il x80), (Il x81), 
 (Il x82), (Il x83), (Il x84), (Il x85), 
 (Il x86), (Il x87), (Il x88), (Il x89), 
 (Il x90), (Il x91), (Il x92)])) ∧ 
 ∃ m93 : M, ((stC m22 (C.ptr m.nxt 0) 16 [(Il x77), (Il x78), 
 (Il x79), (Il x80), (Il x81), (Il x82), 
 (Il x83), (Il x84), (Il x85), (Il x86), 
 (Il x87), (Il x88), (Il x89), (Il x90), 
 (Il x91), (Il x92)]) = (some m93)) ∧ ∃ x94, 
 ∃ x95, ∃ x96, ∃ x97, ∃ x98, ∃ x99, ∃ x100, 
 ∃ x101, ∃ x102, ∃ x103, ∃ x104, ∃ x105, ∃ x106, 
 ∃ x107, ∃ x108, ∃ x109, ((ldA m93 (C.ptr m.nxt 0) 16) = (some [(Il x94), 
 (Il x95), (Il x96), (Il x97), (Il x98), 
 (Il x99), (Il x100), (Il x101), 
 (Il x102), (Il x103), (Il x104), 
 (Il x105), (Il x106), (Il x107), 
 (Il x108), (Il x109)])) ∧ Q (V.agg 16 [(Il x94), 
 (Il x95), (Il x96), (Il x97), (Il x98), 
 (Il x99), (Il x100), (Il x101), 
 (Il x102), (Il x103), (Il x104), 
 (Il x105), (Il x106), (Il x107), 
 (Il x108), (Il x109)]) m93)) → 
 R20 [(V.c (Il x21))] m22) → R20 [(V.c (Il (1 : Int)))] m19))) : Wc prog tbl 83 [(V.c a100), (V.c a200)] m Q :=
 wc_eq (n := 2) rfl (by kernel_rfl) (by kernel_rfl) h
theorem w90 {a100 : Int} {a101 : C} {a102 : C} {a103 : C} {m : M} {Q : V → M → Prop} (h :
 (∀ m0 : M, (m0 = (M.new m (AO.cells 4 [(Il a100), a101, a102, a103] false))) → ∀ m1 : M, (m1 = (M.new m0 (AO.cells 5 [(Il 0), 
 C.sl0, C.sl0, C.sl0, C.map0] false))) → ∃ x2, ∃ c3 : C, ∃ c4 : C, ∃ c5 : C, ((ldA m1 (C.ptr m.nxt 0) 4) = (some [(Il x2), 
 c3, c4, c5])) ∧ ∀ m6 : M, (m6 = (M.new m1 (AO.map [] 0))) → ∀ m7 : M, (m7 = (M.new m6 (AO.cells 5 [(Il 0), 
 C.sl0, C.sl0, C.sl0, C.map0] false))) → ∃ m8 : M, ((stC m7 (C.ptr m6.nxt 0) 5 [(Il x2), 
 c3, c4, c5, (C.map m1.nxt)]) = (some m8)) ∧ isPt (C.ptr m.nxt 0) ∧ ∃ c9 : C, 
 ((ldC m8 (C.ptr m.nxt 2)) = (some c9)) ∧ isSl c9 ∧ ∀ R10 : List V → M → Prop, 
 (∀ x11 : Int, ∀ m12 : M, (ifB (decide (x11 < (((slLen c9) : Nat) : Int))) (∃ n13 : Nat, 
 (x11 = ((n13 : Nat) : Int)) ∧ (n13 < (slLen c9)) ∧ ∃ x14, ∃ x15, 
 ∃ x16, ∃ x17, ∃ x18, ∃ x19, ∃ x20, ((ldA m12 (slAt c9 (n13 * 7)) 7) = (some [(Il x14), 
 (Il x15), (Il x16), (Il x17), (Il x18), 
 (Il x19), (Il x20)])) ∧ ∀ m21 : M, (m21 = (M.new m12 (AO.cells 7 [(Il 0), 
 (Il 0), (Il 0), (Il 0), 
 (Il 0), (Il 0), (Il 0)] false))) → 
 ∃ m22 : M, ((stC m21 (C.ptr m12.nxt 0) 7 [(Il x14), (Il x15), 
 (Il x16), (Il x17), (Il x18), (Il x19), 
 (Il x20)]) = (some m22)) ∧ isPt (C.ptr m12.nxt 0) ∧ 
 ∃ x23, ∃ x24, ((ldA m22 (C.ptr m12.nxt 1) 2) = (some [(Il x23), 
 (Il x24)])) ∧ Wc prog tbl 124 [(V.agg 2 [(Il x23), 
 (Il x24)])] m22 (fun v25 m26 => ∃ c27 : C, (v25 = (V.c c27)) ∧ 
 rangeP prog tbl c27 m26 (fun l28 m29 R30 R31 => ∃ x32, (l28 = [(V.c (Il x32))]) ∧ 
 ∀ m33 : M, (m33 = (M.new m29 (AO.cells 1 [(Il 0)] false))) → 
 ∃ m34 : M, ((stC m33 (C.ptr m29.nxt 0) 1 [(Il x32)]) = (some m34)) ∧ 
 R30 m34 (fun m35 => isPt (C.ptr m12.nxt 0) ∧ ∃ x36, ∃ x37, 
 ((ldA m35 (C.ptr m12.nxt 3) 2) = (some [(Il x36), (Il x37)])) ∧ 
 Wc prog tbl 124 [(V.agg 2 [(Il x36), (Il x37)])] m35 (fun v38 m39 => 
 ∃ c40 : C, (v38 = (V.c c40)) ∧ rangeP prog tbl c40 m39 (fun l41 m42 R43 R44 => 
 ∃ x45, (l41 = [(V.c (Il x45))]) ∧ R43 m42 (fun m46 => 
 ∃ x47, ∃ x48, ∃ x49, ∃ x50, ∃ x51, ∃ x52, 
 ∃ x53, ((ldA m46 (C.ptr m12.nxt 0) 7) = (some [(Il x47), 
 (Il x48), (Il x49), (Il x50), (Il x51), 
 (Il x52), (Il x53)])) ∧ ∃ x54, ((ldC m46 (C.ptr m29.nxt 0)) = (some (Il x54))) ∧ 
 Wc prog tbl 125 [(V.agg 7 [(Il x47), (Il x48), 
 (Il x49), (Il x50), (Il x51), (Il x52), 
 (Il x53)]), (V.c (Il x54)), (V.c (Il x45))] m46 (fun v55 m56 => 
 ∃ x57, ∃ x58, ∃ x59, ∃ x60, (v55 = (V.agg 4 [(Il x57), 
 (Il x58), (Il x59), (Il x60)])) ∧ 
 ∀ m61 : M, (m61 = (M.new m56 (AO.cells 4 [(Il 0), (Il 0), 
 (Il 0), (Il 0)] false))) → ∃ m62 : M, 
 ((stC m61 (C.ptr m56.nxt 0) 4 [(Il x57), (Il x58), 
 (Il x59), (Il x60)]) = (some m62)) ∧ isPt (C.ptr m6.nxt 0) ∧ 
 ∃ c63 : C, ((ldC m62 (C.ptr m6.nxt 4)) = (some c63)) ∧ ∃ x64, 
 ∃ x65, ∃ x66, ∃ x67, ((ldA m62 (C.ptr m56.nxt 0) 4) = (some [(Il x64), 
 (Il x65), (Il x66), (Il x67)])) ∧ 
 ∃ x68, ∃ c69 : C, ∃ c70 : C, ∃ c71 : C, ((ldA m62 (C.ptr m.nxt 0) 4) = (some [(Il x68), 
 c69, c70, c71])) ∧ ∃ x72, ∃ x73, ∃ x74, ∃ x75, ((ldA m62 (C.ptr m56.nxt 0) 4) = (some [(Il x72), 
 (Il x73), (Il x74), (Il x75)])) ∧ 
 Wc prog tbl 116 [(V.agg 4 [(Il x68), c69, c70, c71]), (V.agg 4 [(Il x72), 
 (Il x73), (Il x74), (Il x75)])] m62 (fun v76 m77 => 
 ∃ x78, ∃ x79, ∃ x80, ∃ x81, ∃ x82, ∃ x83, 
 ∃ x84, ∃ x85, ∃ x86, ∃ x87, ∃ x88, ∃ x89, 
 ∃ x90, (v76 = (V.agg 13 [(Il x78), (Il x79), 
 (Il x80), (Il x81), (Il x82), (Il x83), 
 (Il x84), (Il x85), (Il x86), (Il x87), 
 (Il x88), (Il x89), (Il x90)])) ∧ 
 ((ldA m77 (C.ptr m56.nxt 0) 4) = (some [(Il x64), (Il x65), 
 (Il x66), (Il x67)])) ∧ (ifB (noFnC c63) ((ldC m77 (C.ptr m6.nxt 4)) = (some c63)) False) ∧ 
 ∃ m91 : M, ((upM prog 170 m77 c63 (V.agg 4 [(Il x64), (Il x65), 
 (Il x66), (Il x67)]) (V.agg 13 [(Il x78), 
 (Il x79), (Il x80), (Il x81), (Il x82), 
 (Il x83), (Il x84), (Il x85), (Il x86), 
 (Il x87), (Il x88), (Il x89), (Il x90)])) = (some m91)) ∧ 
 R44 Ex.nrm m91)))) (After.mk (fun m92 => 
 R31 Ex.nrm m92) [] (fun m93 => R31 Ex.ret m93))))) (After.mk (fun m94 => 
 fitsP .i64 (x11 + 1) ∧ R10 [(V.c (Il (x11 + 1)))] m94) [] (fun m95 => 
 ∃ x96, ∃ c97 : C, ∃ c98 : C, ∃ c99 : C, ∃ c100 : C, ((ldA m95 (C.ptr m0.nxt 0) 5) = (some [(Il x96), 
 c97, c98, c99, c100])) ∧ Q (V.agg 5 [(Il x96), c97, c98, c99, 
 c100]) m95)))) (∃ x101, ∃ c102 : C, ∃ c103 : C, 
 ∃ c104 : C, ∃ c105 : C, ((ldA m12 (C.ptr m6.nxt 0) 5) = (some [(Il x101), 
 c102, c103, c104, c105])) ∧ ∃ m106 : M, ((stC m12 (C.ptr m0.nxt 0) 5 [(Il x101), 
 c102, c103, c104, c105]) = (some m106)) ∧ ∃ x107, ∃ c108 : C, 
 ∃ c109 : C, ∃ c110 : C, ∃ c111 : C, ((ldA m106 (C.ptr m0.nxt 0) 5) = (some [(Il x107), 
 c108, c109, c110, c111])) ∧ Q (V.agg 5 [(Il x107), c108, c109, 
 c110, c111]) m106)) → R10 [(V.c (Il x11))] m12) → 
 R10 [(V.c (Il 0))] m8)) : Wc prog tbl 90 [(V.agg 4 [(Il a100), a101, a102, a103])] m Q :=
 wc_eq (n := 1) rfl (by kernel_rfl) (by kernel_rfl) h
theorem w96 {a100 : Int} {a101 : Int} {m : M} {Q : V → M → Prop} (h :
 (∀ m0 : M, (m0 = (M.new m (AO.cells 2 [(Il a100), (Il a101)] false))) → isPt (C.ptr m.nxt 0) ∧ 
 ∃ x1, ((ldC m0 (C.ptr m.nxt 1)) = (some (Il x1))) ∧ isPt (C.ptr m.nxt 0) ∧ 
 ∃ x2, ((ldC m0 (C.ptr m.nxt 0)) = (some (Il x2))) ∧ fitsP .i64 (x1 - x2) ∧ 
 fitsP .i64 ((x1 - x2) + (1 : Int)) ∧ Q (V.c (Il ((x1 - x2) + (1 : Int)))) m0)) : Wc prog tbl 96 [(V.agg 2 [(Il a100), (Il a101)])] m Q :=
 wc_eq (n := 1) rfl (by kernel_rfl) (by kernel_rfl) h
theorem w99 {a100 : Int} {a101 : Int} {a200 : Int} {a300 : Int} {m : M} {Q : V → M → Prop} (h :
 (∀ m0 : M, (m0 = (M.new m (AO.cells 2 [(Il a100), (Il a101)] false))) → isPt (C.ptr m.nxt 0) ∧ 
 ∃ x1, ((ldC m0 (C.ptr m.nxt 0)) = (some (Il x1))) ∧ ifB (decide (a200 ≤ x1)) (isPt (C.ptr m.nxt 0) ∧ 
 ∃ x2, ((ldC m0 (C.ptr m.nxt 0)) = (some (Il x2))) ∧ isPt (C.ptr m.nxt 0) ∧ 
 ∃ x3, ((ldC m0 (C.ptr m.nxt 1)) = (some (Il x3))) ∧ ifB (decide (x2 ≤ x3)) (isPt (C.ptr m.nxt 0) ∧ 
 ∃ x4, ((ldC m0 (C.ptr m.nxt 1)) = (some (Il x4))) ∧ Q (V.c (C.bool (decide (x4 ≤ a300)))) m0) (Q (V.c (C.bool false)) m0)) (Q (V.c (C.bool false)) m0))) : Wc prog tbl 99 [(V.agg 2 [(Il a100), (Il a101)]), (V.c (Il a200)), (V.c (Il a300))] m Q :=
 wc_eq (n := 3) rfl (by kernel_rfl) (by kernel_rfl) h
theorem w105 {a100 : Int} {a101 : C} {a102 : C} {a103 : C} {a200 : Int} {a201 : Int} {a202 : Int} {a203 : Int} {a204 : Int} {a205 : Int} {a206 : Int} {m : M} {Q : V → M → Prop} (h :
 (∀ m0 : M, (m0 = (M.new m (AO.cells 4 [(Il a100), a101, a102, a103] false))) → ∀ m1 : M, (m1 = (M.new m0 (AO.cells 7 [(Il a200), 
 (Il a201), (Il a202), (Il a203), (Il a204), 
 (Il a205), (Il a206)] false))) → isPt (C.ptr m.nxt 0) ∧ ∃ c2 : C, 
 ((ldC m1 (C.ptr m.nxt 1)) = (some c2)) ∧ isSl c2 ∧ fitsP .i64 ((((slLen c2) : Nat) : Int) - (1 : Int)) ∧ 
 isPt (C.ptr m0.nxt 0) ∧ ∃ x3, ((ldC m1 (C.ptr m0.nxt 0)) = (some (Il x3))) ∧ 
 Wc prog tbl 112 [(V.agg 2 [(Il 0), (Il ((((slLen c2) : Nat) : Int) - (1 : Int)))]), 
 (V.c (Il x3))] m1 (fun v4 m5 => ∃ b6 : Bool, (v4 = (V.c (C.bool b6))) ∧ ifB b6 (isPt (C.ptr m0.nxt 0) ∧ 
 ∃ x7, ∃ x8, ((ldA m5 (C.ptr m0.nxt 1) 2) = (some [(Il x7), 
 (Il x8)])) ∧ isPt (C.ptr m.nxt 0) ∧ ∃ x9, ((ldC m5 (C.ptr m.nxt 0)) = (some (Il x9))) ∧ 
 Wc prog tbl 133 [(V.agg 2 [(Il x7), (Il x8)]), (V.c (Il 0)), 
 (V.c (Il x9))] m5 (fun v10 m11 => ∃ b12 : Bool, (v10 = (V.c (C.bool b12))) ∧ 
 ifB b12 (isPt (C.ptr m0.nxt 0) ∧ ∃ x13, ∃ x14, ((ldA m11 (C.ptr m0.nxt 3) 2) = (some [(Il x13), 
 (Il x14)])) ∧ Wc prog tbl 133 [(V.agg 2 [(Il x13), 
 (Il x14)]), (V.c (Il 0)), (V.c (Il (100 : Int)))] m11 (fun v15 m16 => 
 ∃ b17 : Bool, (v15 = (V.c (C.bool b17))) ∧ ifB b17 (isPt (C.ptr m0.nxt 0) ∧ 
 ∃ x18, ∃ x19, ((ldA m16 (C.ptr m0.nxt 5) 2) = (some [(Il x18), 
 (Il x19)])) ∧ Wc prog tbl 133 [(V.agg 2 [(Il x18), 
 (Il x19)]), (V.c (Il 0)), (V.c (Il (100 : Int)))] m16 (fun v20 m21 => 
 ∃ b22 : Bool, (v20 = (V.c (C.bool b22))) ∧ Q (V.c (C.bool b22)) m21)) (Q (V.c (C.bool false)) m16))) (Q (V.c (C.bool false)) m11))) (Q (V.c (C.bool false)) m5)))) : Wc prog tbl 105 [(V.agg 4 [(Il a100), a101, a102, a103]), (V.agg 7 [(Il a200), (Il a201), (Il a202), (Il a203), (Il a204), (Il a205), (Il a206)])] m Q :=
 wc_eq (n := 2) rfl (by kernel_rfl) (by kernel_rfl) h
theorem w108 {a100 : C} {a200 : C} {m : M} {Q : V → M → Prop} (h :
 (Wc prog tbl 136 [(V.c a100), (V.c a200)] m (fun v0 m1 => ∃ x2, (v0 = (V.c (Il x2))) ∧ Q (V.c (C.bool (decide ((0 : Int) ≤ x2)))) m1))) : Wc prog tbl 108 [(V.c a100), (V.c a200)] m Q :=
 wc_eq (n := 2) rfl (by kernel_rfl) (by kernel_rfl) h
theorem w112 {a100 : Int} {a101 : Int} {a200 : Int} {m : M} {Q : V → M → Prop} (h :
 (∀ m0 : M, (m0 = (M.new m (AO.cells 2 [(Il a100), (Il a101)] false))) → isPt (C.ptr m.nxt 0) ∧ 
 ∃ x1, ((ldC m0 (C.ptr m.nxt 0)) = (some (Il x1))) ∧ ifB (decide (x1 ≤ a200)) (isPt (C.ptr m.nxt 0) ∧ 
 ∃ x2, ((ldC m0 (C.ptr m.nxt 1)) = (some (Il x2))) ∧ Q (V.c (C.bool (decide (a200 ≤ x2)))) m0) (Q (V.c (C.bool false)) m0))) : Wc prog tbl 112 [(V.agg 2 [(Il a100), (Il a101)]), (V.c (Il a200))] m Q :=
 wc_eq (n := 2) rfl (by kernel_rfl) (by kernel_rfl) h
theorem w115 {a100 : Int} {a101 : Int} {a102 : Int} {a103 : Int} {a104 : Int} {a105 : Int} {a106 : Int} {a200 : Int} {a201 : Int} {a202 : Int} {m : M} {Q : V → M → Prop} (h :
 (∀ m0 : M, (m0 = (M.new m (AO.cells 7 [(Il a100), (Il a101), (Il a102), 
 (Il a103), (Il a104), (Il a105), (Il a106)] false))) → 
 ∀ m1 : M, (m1 = (M.new m0 (AO.cells 3 [(Il a200), (Il a201), (Il a202)] false))) → 
 isPt (C.ptr m.nxt 0) ∧ ∃ x2, ∃ x3, ((ldA m1 (C.ptr m.nxt 1) 2) = (some [(Il x2), 
 (Il x3)])) ∧ isPt (C.ptr m0.nxt 0) ∧ ∃ x4, ((ldC m1 (C.ptr m0.nxt 0)) = (some (Il x4))) ∧ 
 Wc prog tbl 112 [(V.agg 2 [(Il x2), (Il x3)]), (V.c (Il x4))] m1 (fun v5 m6 => 
 ∃ b7 : Bool, (v5 = (V.c (C.bool b7))) ∧ ifB b7 (isPt (C.ptr m.nxt 0) ∧ ∃ x8, ∃ x9, 
 ((ldA m6 (C.ptr m.nxt 3) 2) = (some [(Il x8), (Il x9)])) ∧ 
 isPt (C.ptr m0.nxt 0) ∧ ∃ x10, ((ldC m6 (C.ptr m0.nxt 1)) = (some (Il x10))) ∧ 
 Wc prog tbl 112 [(V.agg 2 [(Il x8), (Il x9)]), (V.c (Il x10))] m6 (fun v11 m12 => 
 ∃ b13 : Bool, (v11 = (V.c (C.bool b13))) ∧ ifB b13 (isPt (C.ptr m.nxt 0) ∧ ∃ x14, 
 ∃ x15, ((ldA m12 (C.ptr m.nxt 5) 2) = (some [(Il x14), 
 (Il x15)])) ∧ isPt (C.ptr m0.nxt 0) ∧ ∃ x16, ((ldC m12 (C.ptr m0.nxt 2)) = (some (Il x16))) ∧ 
 Wc prog tbl 112 [(V.agg 2 [(Il x14), (Il x15)]), 
 (V.c (Il x16))] m12 (fun v17 m18 => ∃ b19 : Bool, (v17 = (V.c (C.bool b19))) ∧ 
 Q (V.c (C.bool b19)) m18)) (Q (V.c (C.bool false)) m12))) (Q (V.c (C.bool false)) m6)))) : Wc prog tbl 115 [(V.agg 7 [(Il a100), (Il a101), (Il a102), (Il a103), (Il a104), (Il a105), (Il a106)]), (V.agg 3 [(Il a200), (Il a201), (Il a202)])] m Q :=
 wc_eq (n := 2) rfl (by kernel_rfl) (by kernel_rfl) h
theorem w120 {a100 : Int} {a101 : C} {a102 : C} {a103 : C} {a104 : C} {a200 : Int} {a201 : Int} {a202 : Int} {a203 : Int} {a204 : Int} {a205 : Int} {a206 : Int} {m : M} {Q : V → M → Prop} (h :
 (∀ m0 : M, (m0 = (M.new m (AO.cells 5 [(Il a100), a101, a102, a103, a104] false))) → ∀ m1 : M, 
 (m1 = (M.new m0 (AO.cells 7 [(Il a200), (Il a201), (Il a202), 
 (Il a203), (Il a204), (Il a205), (Il a206)] false))) → 
 Q (V.c (C.fn (Fn.func 137) [] [(W.c (C0.ptr m0.nxt 0)), (W.c (C0.ptr m.nxt 0))])) m1)) : Wc prog tbl 120 [(V.agg 5 [(Il a100), a101, a102, a103, a104]), (V.agg 7 [(Il a200), (Il a201), (Il a202), (Il a203), (Il a204), (Il a205), (Il a206)])] m Q :=
 wc_eq (n := 2) rfl (by kernel_rfl) (by kernel_rfl) h
theorem w124 {a100 : Int} {a101 : Int} {m : M} {Q : V → M → Prop} (h :
 (∀ m0 : M, (m0 = (M.new m (AO.cells 2 [(Il a100), (Il a101)] false))) → Q (V.c (C.fn (Fn.func 138) [] [(W.c (C0.ptr m.nxt 0))])) m0)) : Wc prog tbl 124 [(V.agg 2 [(Il a100), (Il a101)])] m Q :=
 wc_eq (n := 1) rfl (by kernel_rfl) (by kernel_rfl) h
theorem w130 {a100 : C} {a200 : C} {m : M} {Q : V → M → Prop} (h :
 (Wc prog tbl 142 [(V.c a100), (V.c a200)] m (fun v0 m1 => ∃ x2, (v0 = (V.c (Il x2))) ∧ Q (V.c (C.bool (decide ((0 : Int) ≤ x2)))) m1))) : Wc prog tbl 130 [(V.c a100), (V.c a200)] m Q :=
 wc_eq (n := 2) rfl (by kernel_rfl) (by kernel_rfl) h
theorem w134 {a100 : C} {a200 : C} {m : M} {Q : V → M → Prop} (h :
 (Wc prog tbl 145 [(V.c a100), (V.c a200)] m (fun v0 m1 => ∃ x2, (v0 = (V.c (Il x2))) ∧ Q (V.c (C.bool (decide ((0 : Int) ≤ x2)))) m1))) : Wc prog tbl 134 [(V.c a100), (V.c a200)] m Q :=
 wc_eq (n := 2) rfl (by kernel_rfl) (by kernel_rfl) h
theorem w142 {a100 : C} {a200 : C} {m : M} {Q : V → M → Prop} (h :
 (isSl a100 ∧ ∀ R0 : List V → M → Prop, (∀ x1 : Int, ∀ x2 : Int, ∀ m3 : M, (ifB (decide (x2 < (((slLen a100) : Nat) : Int))) (∃ n4 : Nat, 
 (x2 = ((n4 : Nat) : Int)) ∧ (n4 < (slLen a100)) ∧ ∃ c5 : C, ((ldC m3 (slAt a100 (n4 * 1))) = (some c5)) ∧ 
 callP prog tbl [(V.c c5)] a200 m3 (fun v6 m7 => ∃ b8 : Bool, (v6 = (V.c (C.bool b8))) ∧ ifB b8 (Q (V.c (Il x2)) m7) (fitsP .i64 (x2 + 1) ∧ 
 R0 [(V.c (Il x1)), (V.c (Il (x2 + 1)))] m7))) (Q (V.c (Il (-1 : Int))) m3)) → 
 R0 [(V.c (Il x1)), (V.c (Il x2))] m3) → R0 [(V.c (Il 0)), 
 (V.c (Il 0))] m)) : Wc prog tbl 142 [(V.c a100), (V.c a200)] m Q :=
 wc_eq (n := 2) rfl (by kernel_rfl) (by kernel_rfl) h
theorem w146 {a100 : C} {a200 : C} {m : M} {Q : V → M → Prop} (h :
 (isSl a100 ∧ ∀ R0 : List V → M → Prop, (∀ x1 : Int, ∀ x2 : Int, ∀ m3 : M, (ifB (decide (x2 < (((slLen a100) : Nat) : Int))) (∃ n4 : Nat, 
 (x2 = ((n4 : Nat) : Int)) ∧ (n4 < (slLen a100)) ∧ ∃ x5, ((ldC m3 (slAt a100 (n4 * 1))) = (some (Il x5))) ∧ 
 callP prog tbl [(V.c (Il x5))] a200 m3 (fun v6 m7 => ∃ b8 : Bool, (v6 = (V.c (C.bool b8))) ∧ 
 ifB b8 (Q (V.c (Il x2)) m7) (fitsP .i64 (x2 + 1) ∧ R0 [(V.c (Il x1)), 
 (V.c (Il (x2 + 1)))] m7))) (Q (V.c (Il (-1 : Int))) m3)) → 
 R0 [(V.c (Il x1)), (V.c (Il x2))] m3) → R0 [(V.c (Il 0)), 
 (V.c (Il 0))] m)) : Wc prog tbl 146 [(V.c a100), (V.c a200)] m Q :=
 wc_eq (n := 2) rfl (by kernel_rfl) (by kernel_rfl) h
end
end Go.Proofs.YtmlaphekbnanjaaGreat

namespace Go.Proofs.YtmlaphekbnanjaaGreat
open _root_.Go.Proofs.Tryz
open Go.Abs
set_option maxRecDepth 100000
noncomputable section
theorem w5 {a100 : Int} {a101 : C} {a102 : C} {a103 : C} {a200 : Int} {a300 : Bool} {m : M} {Q : V → M → Prop} (h :
 (∀ m0 : M, (m0 = (M.new m (AO.cells 4 [(Il a100), a101, a102, a103] false))) → ∃ x1, ∃ c2 : C, 
 ∃ c3 : C, ∃ c4 : C, ((ldA m0 (C.ptr m.nxt 0) 4) = (some [(Il x1), c2, c3, c4])) ∧ 
 Wc prog tbl 11 [(V.agg 4 [(Il x1), c2, c3, c4])] m0 (fun v5 m6 => ∃ b7 : Bool, (v5 = (V.c (C.bool b7))) ∧ 
 ifB (!b7) (Wc prog tbl 12 [] m6 (fun v8 m9 => ∃ b10 : Bool, (v8 = (V.c (C.bool b10))) ∧ Q (V.c (C.bool b10)) m9)) (∃ x11, 
 ∃ c12 : C, ∃ c13 : C, ∃ c14 : C, ((ldA m6 (C.ptr m.nxt 0) 4) = (some [(Il x11), 
 c12, c13, c14])) ∧ Wc prog tbl 14 [(V.agg 4 [(Il x11), c12, c13, c14])] m6 (fun v15 m16 => 
 ∃ x17, ∃ c18 : C, ∃ c19 : C, ∃ c20 : C, (v15 = (V.agg 4 [(Il x17), 
 c18, c19, c20])) ∧ Wc prog tbl 32 [(V.agg 4 [(Il x17), c18, c19, 
 c20]), (V.c (Il a200)), (V.c (C.bool a300))] m16 (fun v21 m22 => 
 ∃ x23, ∃ x24, ∃ x25, ∃ x26, (v21 = (V.tup [(U.agg 3 [(Il x23), 
 (Il x24), (Il x25)]), (U.c (Il x26))])) ∧ 
 ∀ m27 : M, (m27 = (M.new m22 (AO.cells 3 [(Il 0), (Il 0), 
 (Il 0)] false))) → ∃ m28 : M, ((stC m27 (C.ptr m22.nxt 0) 3 [(Il x23), 
 (Il x24), (Il x25)]) = (some m28)) ∧ ∃ x29, 
 ∃ c30 : C, ∃ c31 : C, ∃ c32 : C, ((ldA m28 (C.ptr m.nxt 0) 4) = (some [(Il x29), 
 c30, c31, c32])) ∧ Wc prog tbl 17 [(V.agg 4 [(Il x29), c30, c31, 
 c32])] m28 (fun v33 m34 => ∃ x35, (v33 = (V.c (Il x35))) ∧ 
 ∃ x36, ∃ c37 : C, ∃ c38 : C, ∃ c39 : C, ((ldA m34 (C.ptr m.nxt 0) 4) = (some [(Il x36), 
 c37, c38, c39])) ∧ Wc prog tbl 16 [(V.agg 4 [(Il x36), c37, c38, 
 c39])] m34 (fun v40 m41 => ∃ x42, (v40 = (V.c (Il x42))) ∧ 
 ifB (decide (x42 = 0)) (∃ x43, ∃ c44 : C, ∃ c45 : C, ∃ c46 : C, 
 ((ldA m41 (C.ptr m.nxt 0) 4) = (some [(Il x43), c44, 
 c45, c46])) ∧ Wc prog tbl 25 [(V.agg 4 [(Il x43), c44, c45, c46]), 
 (V.c (Il a200))] m41 (fun v47 m48 => ∃ b49 : Bool, (v47 = (V.c (C.bool b49))) ∧ 
 ifB (!b49) (ifB (decide (x26 = 2)) (∃ x50, ∃ x51, ∃ x52, 
 ((ldA m48 (C.ptr m22.nxt 0) 3) = (some [(Il x50), (Il x51), 
 (Il x52)])) ∧ fitsP .i64 x50 ∧ fitsP .i64 (0 : Int) ∧ 
 fitsP .i64 x51 ∧ fitsP .i64 (0 : Int) ∧ fitsP .i64 x52 ∧ 
 fitsP .i64 (0 : Int) ∧ ifB ((decide (x50 = 0)) && ((decide (x51 = 0)) && (decide (x52 = 0)))) (Wc prog tbl 12 [] m48 (fun v53 m54 => 
 ∃ b55 : Bool, (v53 = (V.c (C.bool b55))) ∧ Q (V.c (C.bool b55)) m54)) (Q (V.c (C.bool false)) m48)) (Q (V.c (C.bool false)) m48)) (ifB (!decide (x35 = 0)) (ifB (decide (x26 = x35)) (∃ x56, 
 ∃ x57, ∃ x58, ((ldA m48 (C.ptr m22.nxt 0) 3) = (some [(Il x56), 
 (Il x57), (Il x58)])) ∧ fitsP .i64 x56 ∧ 
 fitsP .i64 (0 : Int) ∧ fitsP .i64 x57 ∧ fitsP .i64 (0 : Int) ∧ 
 fitsP .i64 x58 ∧ fitsP .i64 (0 : Int) ∧ ifB ((decide (x56 = 0)) && ((decide (x57 = 0)) && (decide (x58 = 0)))) (Wc prog tbl 12 [] m48 (fun v59 m60 => 
 ∃ b61 : Bool, (v59 = (V.c (C.bool b61))) ∧ Q (V.c (C.bool b61)) m60)) (Q (V.c (C.bool false)) m48)) (Q (V.c (C.bool false)) m48)) (∀ m62 : M, 
 (m62 = (mGrow m48 1)) → ∃ x63, ∃ c64 : C, ∃ c65 : C, ∃ c66 : C, ((ldA m62 (C.ptr m.nxt 0) 4) = (some [(Il x63), 
 c64, c65, c66])) ∧ ∃ x67, ∃ c68 : C, ∃ c69 : C, ∃ c70 : C, ((ldA m62 (C.ptr m.nxt 0) 4) = (some [(Il x67), 
 c68, c69, c70])) ∧ Wc prog tbl 20 [(V.agg 4 [(Il x67), c68, c69, 
 c70]), (V.c (Il a200))] m62 (fun v71 m72 => ∃ c73 : C, (v71 = (V.c c73)) ∧ 
 (ifB (allS noFnC [(Il x63), c64, c65, c66]) ((ldA m72 (C.ptr m.nxt 0) 4) = (some [(Il x63), 
 c64, c65, c66])) False) ∧ Wc prog tbl 19 [(V.agg 4 [(Il x63), 
 c64, c65, c66]), (V.c (Il a200)), (V.c c73)] m72 (fun v74 m75 => 
 ∃ x76, ∃ x77, ∃ x78, ∃ x79, ∃ x80, ∃ x81, 
 ∃ x82, ∃ x83, (v74 = (V.agg 8 [(Il x76), (Il x77), 
 (Il x78), (Il x79), (Il x80), (Il x81), 
 (Il x82), (Il x83)])) ∧ ∀ m84 : M, (m84 = (M.set m75 (m48.nxt + 0) (AO.cells 2 [(Il 0), 
 (Il 0)] false))) → (ifB (allS noFnC [(Il x67), 
 c68, c69, c70]) ((ldA m84 (C.ptr m.nxt 0) 4) = (some [(Il x67), 
 c68, c69, c70])) False) ∧ (ifB (allS noFnC [(Il x63), c64, c65, 
 c66]) ((ldA m84 (C.ptr m.nxt 0) 4) = (some [(Il x63), 
 c64, c65, c66])) False) ∧ ∃ m85 : M, ((stC m84 (C.ptr (m48.nxt + 0) 0) 2 [(Il x82), 
 (Il x83)]) = (some m85)) ∧ ifB (!decide (x26 = 0)) (Q (V.c (C.bool false)) m85) (∃ x86, 
 ∃ c87 : C, ∃ c88 : C, ∃ c89 : C, ((ldA m85 (C.ptr m.nxt 0) 4) = (some [(Il x86), 
 c87, c88, c89])) ∧ ∃ x90, ∃ x91, ∃ x92, ((ldA m85 (C.ptr m22.nxt 0) 3) = (some [(Il x90), 
 (Il x91), (Il x92)])) ∧ Wc prog tbl 33 [(V.agg 3 [(Il x90), 
 (Il x91), (Il x92)])] m85 (fun v93 m94 => ∃ x95, 
 ∃ x96, ∃ x97, (v93 = (V.agg 3 [(Il x95), (Il x96), 
 (Il x97)])) ∧ (ifB (allS noFnC [(Il x86), c87, 
 c88, c89]) ((ldA m94 (C.ptr m.nxt 0) 4) = (some [(Il x86), 
 c87, c88, c89])) False) ∧ Wc prog tbl 28 [(V.agg 4 [(Il x86), 
 c87, c88, c89]), (V.c (Il a200)), (V.agg 3 [(Il x95), 
 (Il x96), (Il x97)])] m94 (fun v98 m99 => ∃ b100 : Bool, 
 (v98 = (V.c (C.bool b100))) ∧ ifB (!b100) (Q (V.c (C.bool false)) m99) (∃ x101, 
 ∃ c102 : C, ∃ c103 : C, ∃ c104 : C, ((ldA m99 (C.ptr m.nxt 0) 4) = (some [(Il x101), 
 c102, c103, c104])) ∧ ∃ x105, ∃ x106, ∃ x107, ((ldA m99 (C.ptr m22.nxt 0) 3) = (some [(Il x105), 
 (Il x106), (Il x107)])) ∧ Wc prog tbl 33 [(V.agg 3 [(Il x105), 
 (Il x106), (Il x107)])] m99 (fun v108 m109 => ∃ x110, 
 ∃ x111, ∃ x112, (v108 = (V.agg 3 [(Il x110), (Il x111), 
 (Il x112)])) ∧ (ifB (allS noFnC [(Il x101), c102, 
 c103, c104]) ((ldA m109 (C.ptr m.nxt 0) 4) = (some [(Il x101), 
 c102, c103, c104])) False) ∧ Wc prog tbl 27 [(V.agg 4 [(Il x101), 
 c102, c103, c104]), (V.c (Il a200)), (V.agg 3 [(Il x110), 
 (Il x111), (Il x112)])] m109 (fun v113 m114 => 
 ∃ x115, (v113 = (V.c (Il x115))) ∧ ifB a300 (isPt (C.ptr (m48.nxt + 0) 0) ∧ 
 ∃ x116, ((ldC m114 (C.ptr (m48.nxt + 0) 1)) = (some (Il x116))) ∧ 
 ifB (decide (x115 = x116)) (Wc prog tbl 12 [] m114 (fun v117 m118 => ∃ b119 : Bool, 
 (v117 = (V.c (C.bool b119))) ∧ Q (V.c (C.bool b119)) m118)) (ifB (!a300) (isPt (C.ptr (m48.nxt + 0) 0) ∧ 
 ∃ x120, ((ldC m114 (C.ptr (m48.nxt + 0) 0)) = (some (Il x120))) ∧ 
 ifB (decide (x115 = x120)) (Wc prog tbl 12 [] m114 (fun v121 m122 => ∃ b123 : Bool, 
 (v121 = (V.c (C.bool b123))) ∧ Q (V.c (C.bool b123)) m122)) (Q (V.c (C.bool false)) m114)) (Q (V.c (C.bool false)) m114))) (ifB (!a300) (isPt (C.ptr (m48.nxt + 0) 0) ∧ 
 ∃ x124, ((ldC m114 (C.ptr (m48.nxt + 0) 0)) = (some (Il x124))) ∧ 
 ifB (decide (x115 = x124)) (Wc prog tbl 12 [] m114 (fun v125 m126 => ∃ b127 : Bool, 
 (v125 = (V.c (C.bool b127))) ∧ Q (V.c (C.bool b127)) m126)) (Q (V.c (C.bool false)) m114)) (Q (V.c (C.bool false)) m114)))))))))))))) (ifB (!decide (x35 = 0)) (ifB (decide (x26 = x35)) (∃ x128, 
 ∃ x129, ∃ x130, ((ldA m41 (C.ptr m22.nxt 0) 3) = (some [(Il x128), 
 (Il x129), (Il x130)])) ∧ fitsP .i64 x128 ∧ 
 fitsP .i64 (0 : Int) ∧ fitsP .i64 x129 ∧ fitsP .i64 (0 : Int) ∧ 
 fitsP .i64 x130 ∧ fitsP .i64 (0 : Int) ∧ ifB ((decide (x128 = 0)) && ((decide (x129 = 0)) && (decide (x130 = 0)))) (Wc prog tbl 12 [] m41 (fun v131 m132 => 
 ∃ b133 : Bool, (v131 = (V.c (C.bool b133))) ∧ Q (V.c (C.bool b133)) m132)) (Q (V.c (C.bool false)) m41)) (Q (V.c (C.bool false)) m41)) (∀ m134 : M, 
 (m134 = (mGrow m41 1)) → ∃ x135, ∃ c136 : C, ∃ c137 : C, ∃ c138 : C, 
 ((ldA m134 (C.ptr m.nxt 0) 4) = (some [(Il x135), c136, 
 c137, c138])) ∧ ∃ x139, ∃ c140 : C, ∃ c141 : C, ∃ c142 : C, ((ldA m134 (C.ptr m.nxt 0) 4) = (some [(Il x139), 
 c140, c141, c142])) ∧ Wc prog tbl 20 [(V.agg 4 [(Il x139), c140, 
 c141, c142]), (V.c (Il a200))] m134 (fun v143 m144 => ∃ c145 : C, 
 (v143 = (V.c c145)) ∧ (ifB (allS noFnC [(Il x135), c136, c137, 
 c138]) ((ldA m144 (C.ptr m.nxt 0) 4) = (some [(Il x135), 
 c136, c137, c138])) False) ∧ Wc prog tbl 19 [(V.agg 4 [(Il x135), 
 c136, c137, c138]), (V.c (Il a200)), (V.c c145)] m144 (fun v146 m147 => 
 ∃ x148, ∃ x149, ∃ x150, ∃ x151, ∃ x152, ∃ x153, 
 ∃ x154, ∃ x155, (v146 = (V.agg 8 [(Il x148), (Il x149), 
 (Il x150), (Il x151), (Il x152), 
 (Il x153), (Il x154), (Il x155)])) ∧ 
 ∀ m156 : M, (m156 = (M.set m147 (m41.nxt + 0) (AO.cells 2 [(Il 0), 
 (Il 0)] false))) → (ifB (allS noFnC [(Il x139), 
 c140, c141, c142]) ((ldA m156 (C.ptr m.nxt 0) 4) = (some [(Il x139), 
 c140, c141, c142])) False) ∧ (ifB (allS noFnC [(Il x135), c136, 
 c137, c138]) ((ldA m156 (C.ptr m.nxt 0) 4) = (some [(Il x135), 
 c136, c137, c138])) False) ∧ ∃ m157 : M, ((stC m156 (C.ptr (m41.nxt + 0) 0) 2 [(Il x154), 
 (Il x155)]) = (some m157)) ∧ ifB (!decide (x26 = 0)) (Q (V.c (C.bool false)) m157) (∃ x158, 
 ∃ c159 : C, ∃ c160 : C, ∃ c161 : C, ((ldA m157 (C.ptr m.nxt 0) 4) = (some [(Il x158), 
 c159, c160, c161])) ∧ ∃ x162, ∃ x163, ∃ x164, ((ldA m157 (C.ptr m22.nxt 0) 3) = (some [(Il x162), 
 (Il x163), (Il x164)])) ∧ Wc prog tbl 33 [(V.agg 3 [(Il x162), 
 (Il x163), (Il x164)])] m157 (fun v165 m166 => 
 ∃ x167, ∃ x168, ∃ x169, (v165 = (V.agg 3 [(Il x167), 
 (Il x168), (Il x169)])) ∧ (ifB (allS noFnC [(Il x158), 
 c159, c160, c161]) ((ldA m166 (C.ptr m.nxt 0) 4) = (some [(Il x158), 
 c159, c160, c161])) False) ∧ Wc prog tbl 28 [(V.agg 4 [(Il x158), 
 c159, c160, c161]), (V.c (Il a200)), (V.agg 3 [(Il x167), 
 (Il x168), (Il x169)])] m166 (fun v170 m171 => 
 ∃ b172 : Bool, (v170 = (V.c (C.bool b172))) ∧ ifB (!b172) (Q (V.c (C.bool false)) m171) (∃ x173, 
 ∃ c174 : C, ∃ c175 : C, ∃ c176 : C, ((ldA m171 (C.ptr m.nxt 0) 4) = (some [(Il x173), 
 c174, c175, c176])) ∧ ∃ x177, ∃ x178, ∃ x179, ((ldA m171 (C.ptr m22.nxt 0) 3) = (some [(Il x177), 
 (Il x178), (Il x179)])) ∧ Wc prog tbl 33 [(V.agg 3 [(Il x177), 
 (Il x178), (Il x179)])] m171 (fun v180 m181 => 
 ∃ x182, ∃ x183, ∃ x184, (v180 = (V.agg 3 [(Il x182), 
 (Il x183), (Il x184)])) ∧ (ifB (allS noFnC [(Il x173), 
 c174, c175, c176]) ((ldA m181 (C.ptr m.nxt 0) 4) = (some [(Il x173), 
 c174, c175, c176])) False) ∧ Wc prog tbl 27 [(V.agg 4 [(Il x173), 
 c174, c175, c176]), (V.c (Il a200)), (V.agg 3 [(Il x182), 
 (Il x183), (Il x184)])] m181 (fun v185 m186 => 
 ∃ x187, (v185 = (V.c (Il x187))) ∧ ifB a300 (isPt (C.ptr (m41.nxt + 0) 0) ∧ 
 ∃ x188, ((ldC m186 (C.ptr (m41.nxt + 0) 1)) = (some (Il x188))) ∧ 
 ifB (decide (x187 = x188)) (Wc prog tbl 12 [] m186 (fun v189 m190 => ∃ b191 : Bool, 
 (v189 = (V.c (C.bool b191))) ∧ Q (V.c (C.bool b191)) m190)) (ifB (!a300) (isPt (C.ptr (m41.nxt + 0) 0) ∧ 
 ∃ x192, ((ldC m186 (C.ptr (m41.nxt + 0) 0)) = (some (Il x192))) ∧ 
 ifB (decide (x187 = x192)) (Wc prog tbl 12 [] m186 (fun v193 m194 => ∃ b195 : Bool, 
 (v193 = (V.c (C.bool b195))) ∧ Q (V.c (C.bool b195)) m194)) (Q (V.c (C.bool false)) m186)) (Q (V.c (C.bool false)) m186))) (ifB (!a300) (isPt (C.ptr (m41.nxt + 0) 0) ∧ 
 ∃ x196, ((ldC m186 (C.ptr (m41.nxt + 0) 0)) = (some (Il x196))) ∧ 
 ifB (decide (x187 = x196)) (Wc prog tbl 12 [] m186 (fun v197 m198 => ∃ b199 : Bool, 
 (v197 = (V.c (C.bool b199))) ∧ Q (V.c (C.bool b199)) m198)) (Q (V.c (C.bool false)) m186)) (Q (V.c (C.bool false)) m186)))))))))))))))))))) : Wc prog tbl 5 [(V.agg 4 [(Il a100), a101, a102, a103]), (V.c (Il a200)), (V.c (C.bool a300))] m Q :=
 wc_eq (n := 3) rfl (by kernel_rfl) (by kernel_rfl) h
theorem w11 {a100 : Int} {a101 : C} {a102 : C} {a103 : C} {m : M} {Q : V → M → Prop} (h :
 (∀ m0 : M, (m0 = (M.new m (AO.cells 4 [(Il a100), a101, a102, a103] false))) → isPt (C.ptr m.nxt 0) ∧ 
 ∃ c1 : C, ((ldC m0 (C.ptr m.nxt 1)) = (some c1)) ∧ isSl c1 ∧ ifB (decide ((5 : Int) < (((slLen c1) : Nat) : Int))) (Q (V.c (C.bool false)) m0) (isPt (C.ptr m.nxt 0) ∧ 
 ∃ c2 : C, ((ldC m0 (C.ptr m.nxt 2)) = (some c2)) ∧ isSl c2 ∧ ifB (decide ((5 : Int) < (((slLen c2) : Nat) : Int))) (Q (V.c (C.bool false)) m0) (isPt (C.ptr m.nxt 0) ∧ 
 ∃ c3 : C, ((ldC m0 (C.ptr m.nxt 3)) = (some c3)) ∧ isSl c3 ∧ ifB (decide ((9 : Int) < (((slLen c3) : Nat) : Int))) (Q (V.c (C.bool false)) m0) (∀ R4 : List V → 
 M → Prop, (∀ b5 : Bool, ∀ x6 : Int, ∀ m7 : M, (isPt (C.ptr m.nxt 0) ∧ ∃ c8 : C, ((ldC m7 (C.ptr m.nxt 1)) = (some c8)) ∧ 
 isSl c8 ∧ ifB (decide (x6 < (((slLen c8) : Nat) : Int))) (isPt (C.ptr m.nxt 0) ∧ 
 ∃ c9 : C, ((ldC m7 (C.ptr m.nxt 1)) = (some c9)) ∧ ∃ n10 : Nat, (x6 = ((n10 : Nat) : Int)) ∧ 
 (n10 < (slLen c9)) ∧ ∃ c11 : C, ((ldC m7 (slAt c9 (n10 * 1))) = (some c11)) ∧ 
 isSl c11 ∧ ifB (decide ((20 : Int) < (((slLen c11) : Nat) : Int))) (Q (V.c (C.bool false)) m7) (fitsP .i64 (x6 + 1) ∧ 
 R4 [(V.c (C.bool b5)), (V.c (Il (x6 + 1)))] m7)) (∃ x12, 
 ∃ c13 : C, ∃ c14 : C, ∃ c15 : C, ((ldA m7 (C.ptr m.nxt 0) 4) = (some [(Il x12), 
 c13, c14, c15])) ∧ Wc prog tbl 55 [(V.agg 4 [(Il x12), c13, c14, 
 c15])] m7 (fun v16 m17 => ∃ x18, (v16 = (V.c (Il x18))) ∧ 
 ∀ R19 : List V → M → Prop, (∀ b20 : Bool, ∀ x21 : Int, ∀ m22 : M, (isPt (C.ptr m.nxt 0) ∧ 
 ∃ c23 : C, ((ldC m22 (C.ptr m.nxt 2)) = (some c23)) ∧ isSl c23 ∧ 
 ifB (decide (x21 < (((slLen c23) : Nat) : Int))) (ifB (!(!decide (x18 = 0))) (isPt (C.ptr m.nxt 0) ∧ 
 ∃ c24 : C, ((ldC m22 (C.ptr m.nxt 2)) = (some c24)) ∧ ∃ n25 : Nat, 
 (x21 = ((n25 : Nat) : Int)) ∧ (n25 < (slLen c24)) ∧ ∃ x26, ∃ x27, 
 ∃ x28, ∃ x29, ∃ x30, ∃ x31, ∃ x32, ((ldA m22 (slAt c24 (n25 * 7)) 7) = (some [(Il x26), 
 (Il x27), (Il x28), (Il x29), (Il x30), 
 (Il x31), (Il x32)])) ∧ Wc prog tbl 49 [(V.agg 7 [(Il x26), 
 (Il x27), (Il x28), (Il x29), (Il x30), 
 (Il x31), (Il x32)])] m22 (fun v33 m34 => ∃ x35, 
 (v33 = (V.c (Il x35))) ∧ ifB (decide ((200 : Int) < x35)) (Q (V.c (C.bool false)) m34) (fitsP .i64 (x21 + 1) ∧ 
 R19 [(V.c (C.bool b20)), (V.c (Il (x21 + 1)))] m34))) (fitsP .i64 (x21 + 1) ∧ 
 R19 [(V.c (C.bool b20)), (V.c (Il (x21 + 1)))] m22)) (Q (V.c (C.bool true)) m22)) → 
 R19 [(V.c (C.bool b20)), (V.c (Il x21))] m22) → R19 [(V.c (C.bool b5)), 
 (V.c (Il 0))] m17))) → R4 [(V.c (C.bool b5)), 
 (V.c (Il x6))] m7) → R4 [(V.c (C.bool false)), (V.c (Il 0))] m0))))) : Wc prog tbl 11 [(V.agg 4 [(Il a100), a101, a102, a103])] m Q :=
 wc_eq (n := 1) rfl (by kernel_rfl) (by kernel_rfl) h
theorem w15 {a100 : Int} {a101 : C} {a102 : C} {a103 : C} {m : M} {Q : V → M → Prop} (h :
 (∀ m0 : M, (m0 = (M.new m (AO.cells 4 [(Il a100), a101, a102, a103] false))) → ∃ x1, ∃ c2 : C, 
 ∃ c3 : C, ∃ c4 : C, ((ldA m0 (C.ptr m.nxt 0) 4) = (some [(Il x1), c2, c3, c4])) ∧ 
 Wc prog tbl 60 [(V.agg 4 [(Il x1), c2, c3, c4])] m0 (fun v5 m6 => ∃ b7 : Bool, (v5 = (V.c (C.bool b7))) ∧ 
 ifB b7 (Q (V.c (Il (3 : Int))) m6) (∃ x8, ∃ c9 : C, ∃ c10 : C, ∃ c11 : C, 
 ((ldA m6 (C.ptr m.nxt 0) 4) = (some [(Il x8), c9, c10, c11])) ∧ Wc prog tbl 61 [(V.agg 4 [(Il x8), 
 c9, c10, c11])] m6 (fun v12 m13 => ∃ b14 : Bool, (v12 = (V.c (C.bool b14))) ∧ ifB (!b14) (Q (V.c (Il (1 : Int))) m13) (isPt (C.ptr m.nxt 0) ∧ 
 ∃ c15 : C, ((ldC m13 (C.ptr m.nxt 2)) = (some c15)) ∧ Wc prog tbl 62 [(V.c c15), 
 (V.c (C.fn (Fn.func 63) [] []))] m13 (fun v16 m17 => ∃ b18 : Bool, (v16 = (V.c (C.bool b18))) ∧ 
 ifB (!b18) (Q (V.c (Il (3 : Int))) m17) (Q (V.c (Il 0)) m17)))))))) : Wc prog tbl 15 [(V.agg 4 [(Il a100), a101, a102, a103])] m Q :=
 wc_eq (n := 1) rfl (by kernel_rfl) (by kernel_rfl) h
theorem w27 {a100 : Int} {a101 : C} {a102 : C} {a103 : C} {a200 : Int} {a300 : Int} {a301 : Int} {a302 : Int} {m : M} {Q : V → M → Prop} (h :
 (∀ m0 : M, (m0 = (M.new m (AO.cells 4 [(Il a100), a101, a102, a103] false))) → ∀ m1 : M, (m1 = (M.new m0 (AO.cells 3 [(Il a300), 
 (Il a301), (Il a302)] false))) → ∃ x2, ∃ c3 : C, ∃ c4 : C, ∃ c5 : C, 
 ((ldA m1 (C.ptr m.nxt 0) 4) = (some [(Il x2), c3, c4, c5])) ∧ isPt (C.ptr m.nxt 0) ∧ 
 ∃ c6 : C, ((ldC m1 (C.ptr m.nxt 2)) = (some c6)) ∧ ∃ n7 : Nat, (a200 = ((n7 : Nat) : Int)) ∧ 
 (n7 < (slLen c6)) ∧ isPt (slAt c6 (n7 * 7)) ∧ ∃ x8, ((ldC m1 (ptAdd (slAt c6 (n7 * 7)) 0)) = (some (Il x8))) ∧ 
 ∃ x9, ∃ x10, ∃ x11, ((ldA m1 (C.ptr m0.nxt 0) 3) = (some [(Il x9), 
 (Il x10), (Il x11)])) ∧ isPt (C.ptr m.nxt 0) ∧ ∃ x12, 
 ((ldC m1 (C.ptr m.nxt 0)) = (some (Il x12))) ∧ Wc prog tbl 76 [(V.agg 4 [(Il x2), 
 c3, c4, c5]), (V.c (Il x8)), (V.agg 3 [(Il x9), 
 (Il x10), (Il x11)]), (V.c (Il x12))] m1 (fun v13 m14 => 
 ∃ x15, (v13 = (V.c (Il x15))) ∧ Q (V.c (Il x15)) m14))) : Wc prog tbl 27 [(V.agg 4 [(Il a100), a101, a102, a103]), (V.c (Il a200)), (V.agg 3 [(Il a300), (Il a301), (Il a302)])] m Q :=
 wc_eq (n := 3) rfl (by kernel_rfl) (by kernel_rfl) h
theorem w30 {a100 : Int} {a101 : Int} {m : M} {Q : V → M → Prop} (h :
 (∀ m0 : M, (m0 = (M.new m (AO.cells 2 [(Il a100), (Il a101)] false))) → ∀ m1 : M, 
 (m1 = (M.new m0 (AO.cells 2 [(Il 0), (Il 0)] false))) → isPt (C.ptr m.nxt 0) ∧ 
 ∃ x2, ((ldC m1 (C.ptr m.nxt 0)) = (some (Il x2))) ∧ isPt (C.ptr m.nxt 0) ∧ 
 ∃ x3, ((ldC m1 (C.ptr m.nxt 1)) = (some (Il x3))) ∧ ∃ m4 : M, ((stC m1 (C.ptr m0.nxt 0) 2 [(Il x2), 
 (Il x3)]) = (some m4)) ∧ ∃ x5, ∃ x6, ((ldA m4 (C.ptr m0.nxt 0) 2) = (some [(Il x5), 
 (Il x6)])) ∧ Q (V.agg 2 [(Il x5), (Il x6)]) m4)) : Wc prog tbl 30 [(V.agg 2 [(Il a100), (Il a101)])] m Q :=
 wc_eq (n := 1) rfl (by kernel_rfl) (by kernel_rfl) h
theorem w33 {a100 : Int} {a101 : Int} {a102 : Int} {m : M} {Q : V → M → Prop} (h :
 (∀ m0 : M, (m0 = (M.new m (AO.cells 3 [(Il a100), (Il a101), (Il a102)] false))) → 
 ∀ m1 : M, (m1 = (M.new m0 (AO.cells 3 [(Il 0), (Il 0), (Il 0)] false))) → 
 isPt (C.ptr m.nxt 0) ∧ ∃ x2, ((ldC m1 (C.ptr m.nxt 0)) = (some (Il x2))) ∧ 
 isPt (C.ptr m.nxt 0) ∧ ∃ x3, ((ldC m1 (C.ptr m.nxt 1)) = (some (Il x3))) ∧ 
 isPt (C.ptr m.nxt 0) ∧ ∃ x4, ((ldC m1 (C.ptr m.nxt 2)) = (some (Il x4))) ∧ 
 ∃ m5 : M, ((stC m1 (C.ptr m0.nxt 0) 3 [(Il x2), (Il x3), (Il x4)]) = (some m5)) ∧ 
 ∃ x6, ∃ x7, ∃ x8, ((ldA m5 (C.ptr m0.nxt 0) 3) = (some [(Il x6), 
 (Il x7), (Il x8)])) ∧ Q (V.agg 3 [(Il x6), 
 (Il x7), (Il x8)]) m5)) : Wc prog tbl 33 [(V.agg 3 [(Il a100), (Il a101), (Il a102)])] m Q :=
 wc_eq (n := 1) rfl (by kernel_rfl) (by kernel_rfl) h
theorem w48 {a100 : Int} {a101 : Int} {a102 : Int} {a103 : Int} {a104 : Int} {a105 : Int} {a106 : Int} {a200 : Int} {m : M} {Q : V → M → Prop} (h :
 (∀ m0 : M, (m0 = (M.new m (AO.cells 7 [(Il a100), (Il a101), (Il a102), 
 (Il a103), (Il a104), (Il a105), (Il a106)] false))) → 
 ∀ m1 : M, (m1 = (M.new m0 (AO.cells 3 [(Il 0), (Il 0), (Il 0)] false))) → 
 ∀ m2 : M, (m2 = (M.new m1 (AO.cells 3 [(Il 0), (Il 0), 
 (Il 0)] false))) → isPt (C.ptr m.nxt 0) ∧ isPt (C.ptr m.nxt 1) ∧ ∃ x3, 
 ((ldC m2 (C.ptr m.nxt 1)) = (some (Il x3))) ∧ isPt (C.ptr m.nxt 0) ∧ ∃ x4, 
 ∃ x5, ((ldA m2 (C.ptr m.nxt 1) 2) = (some [(Il x4), (Il x5)])) ∧ 
 Wc prog tbl 96 [(V.agg 2 [(Il x4), (Il x5)])] m2 (fun v6 m7 => 
 ∃ x8, (v6 = (V.c (Il x8))) ∧ ((ldC m7 (C.ptr m.nxt 1)) = (some (Il x3))) ∧ 
 ((0 : Int) ≤ a200) ∧ ((0 : Int) < x8) ∧ fitsP .i64 (a200 % x8) ∧ fitsP .i64 (x3 + (a200 % x8)) ∧ 
 isPt (C.ptr m.nxt 0) ∧ ∃ x9, ∃ x10, ((ldA m7 (C.ptr m.nxt 1) 2) = (some [(Il x9), 
 (Il x10)])) ∧ ((ldA m2 (C.ptr m.nxt 1) 2) = (some [(Il x9), 
 (Il x10)])) ∧ Wc prog tbl 96 [(V.agg 2 [(Il x9), 
 (Il x10)])] m7 (fun v11 m12 => ∃ x13, (v11 = (V.c (Il x13))) ∧ 
 ((ldC m12 (C.ptr m.nxt 1)) = (some (Il x3))) ∧ ((0 : Int) ≤ a200) ∧ 
 ((0 : Int) < x13) ∧ fitsP .i64 (a200 / x13) ∧ isPt (C.ptr m1.nxt 0) ∧ 
 ∃ m14 : M, ((stC m12 (C.ptr m1.nxt 0) 1 [(Il (x3 + (a200 % x8)))]) = (some m14)) ∧ 
 isPt (C.ptr m.nxt 0) ∧ isPt (C.ptr m.nxt 3) ∧ ∃ x15, ((ldC m14 (C.ptr m.nxt 3)) = (some (Il x15))) ∧ 
 isPt (C.ptr m.nxt 0) ∧ ∃ x16, ∃ x17, ((ldA m14 (C.ptr m.nxt 3) 2) = (some [(Il x16), 
 (Il x17)])) ∧ Wc prog tbl 96 [(V.agg 2 [(Il x16), 
 (Il x17)])] m14 (fun v18 m19 => ∃ x20, (v18 = (V.c (Il x20))) ∧ 
 ((ldC m19 (C.ptr m.nxt 3)) = (some (Il x15))) ∧ ((0 : Int) ≤ (a200 / x13)) ∧ 
 ((0 : Int) < x20) ∧ fitsP .i64 ((a200 / x13) % x20) ∧ fitsP .i64 (x15 + ((a200 / x13) % x20)) ∧ 
 isPt (C.ptr m.nxt 0) ∧ ∃ x21, ∃ x22, ((ldA m19 (C.ptr m.nxt 3) 2) = (some [(Il x21), 
 (Il x22)])) ∧ ((ldA m14 (C.ptr m.nxt 3) 2) = (some [(Il x21), 
 (Il x22)])) ∧ Wc prog tbl 96 [(V.agg 2 [(Il x21), 
 (Il x22)])] m19 (fun v23 m24 => ∃ x25, (v23 = (V.c (Il x25))) ∧ 
 ((ldC m24 (C.ptr m.nxt 3)) = (some (Il x15))) ∧ ((0 : Int) ≤ (a200 / x13)) ∧ 
 ((0 : Int) < x25) ∧ fitsP .i64 ((a200 / x13) / x25) ∧ isPt (C.ptr m1.nxt 0) ∧ 
 ∃ m26 : M, ((stC m24 (C.ptr m1.nxt 1) 1 [(Il (x15 + ((a200 / x13) % x20)))]) = (some m26)) ∧ 
 isPt (C.ptr m.nxt 0) ∧ isPt (C.ptr m.nxt 5) ∧ ∃ x27, ((ldC m26 (C.ptr m.nxt 5)) = (some (Il x27))) ∧ 
 fitsP .i64 (x27 + ((a200 / x13) / x25)) ∧ isPt (C.ptr m1.nxt 0) ∧ 
 ∃ m28 : M, ((stC m26 (C.ptr m1.nxt 2) 1 [(Il (x27 + ((a200 / x13) / x25)))]) = (some m28)) ∧ 
 ∃ x29, ∃ x30, ∃ x31, ((ldA m28 (C.ptr m1.nxt 0) 3) = (some [(Il x29), 
 (Il x30), (Il x31)])) ∧ ∃ m32 : M, ((stC m28 (C.ptr m0.nxt 0) 3 [(Il x29), 
 (Il x30), (Il x31)]) = (some m32)) ∧ ∃ x33, 
 ∃ x34, ∃ x35, ((ldA m32 (C.ptr m0.nxt 0) 3) = (some [(Il x33), 
 (Il x34), (Il x35)])) ∧ Q (V.agg 3 [(Il x33), 
 (Il x34), (Il x35)]) m32)))))) : Wc prog tbl 48 [(V.agg 7 [(Il a100), (Il a101), (Il a102), (Il a103), (Il a104), (Il a105), (Il a106)]), (V.c (Il a200))] m Q :=
 wc_eq (n := 2) rfl (by kernel_rfl) (by kernel_rfl) h
theorem w51 {a100 : Int} {a101 : C} {a102 : C} {a103 : C} {m : M} {Q : V → M → Prop} (h :
 (∀ m0 : M, (m0 = (M.new m (AO.cells 4 [(Il a100), a101, a102, a103] false))) → isPt (C.ptr m.nxt 0) ∧ 
 ∃ c1 : C, ((ldC m0 (C.ptr m.nxt 3)) = (some c1)) ∧ isSl c1 ∧ ((0 : Int) ≤ (1 : Int)) ∧ ((0 : Int) ≤ (wrapZ .u64 (((slLen c1) : Nat) : Int))) ∧ 
 ((wrapZ .u64 (((slLen c1) : Nat) : Int)) ≤ (64 : Int)) ∧ fitsP .i64 ((1 : Int) * ((2 : Int) ^ (Int.toNat (wrapZ .u64 (((slLen c1) : Nat) : Int))))) ∧ 
 fitsP .i64 (((1 : Int) * ((2 : Int) ^ (Int.toNat (wrapZ .u64 (((slLen c1) : Nat) : Int))))) - (1 : Int)) ∧ 
 Q (V.c (Il (((1 : Int) * ((2 : Int) ^ (Int.toNat (wrapZ .u64 (((slLen c1) : Nat) : Int))))) - (1 : Int)))) m0)) : Wc prog tbl 51 [(V.agg 4 [(Il a100), a101, a102, a103])] m Q :=
 wc_eq (n := 1) rfl (by kernel_rfl) (by kernel_rfl) h
theorem w62 {a100 : C} {a200 : C} {m : M} {Q : V → M → Prop} (h :
 (∀ m0 : M, (m0 = (M.new m (AO.cells 1 [a200] false))) → Wc prog tbl 108 [(V.c a100), (V.c (C.fn (Fn.func 109) [] [(W.c (C0.ptr m.nxt 0))]))] m0 (fun v1 m2 => 
 ∃ b3 : Bool, (v1 = (V.c (C.bool b3))) ∧ Q (V.c (C.bool (!b3))) m2))) : Wc prog tbl 62 [(V.c a100), (V.c a200)] m Q :=
 wc_eq (n := 2) rfl (by kernel_rfl) (by kernel_rfl) h
theorem w65  {m : M} {Q : V → M → Prop} (h :
 (∀ m0 : M, (m0 = (M.new m (AO.cells 2 [(Il 0), (Il 0)] false))) → 
 ∃ m1 : M, ((stC m0 (C.ptr m.nxt 0) 2 [(Il (1099511627776 : Int)), (Il (-1099511627776 : Int))]) = (some m1)) ∧ 
 ∃ x2, ∃ x3, ((ldA m1 (C.ptr m.nxt 0) 2) = (some [(Il x2), (Il x3)])) ∧ 
 Q (V.agg 2 [(Il x2), (Il x3)]) m1)) : Wc prog tbl 65 [] m Q :=
 wc_eq (n := 0) rfl (by kernel_rfl) (by kernel_rfl) h
theorem w68 {a100 : Int} {a101 : C} {a102 : C} {a103 : C} {a200 : Int} {a300 : Bool} {m : M} {Q : V → M → Prop} (h :
 (∀ m0 : M, (m0 = (M.new m (AO.cells 4 [(Il a100), a101, a102, a103] false))) → ∀ m1 : M, (m1 = (M.new m0 (AO.cells 5 [(Il 0), 
 C.sl0, C.sl0, C.sl0, C.map0] false))) → ∃ x2, ∃ c3 : C, ∃ c4 : C, ∃ c5 : C, ((ldA m1 (C.ptr m.nxt 0) 4) = (some [(Il x2), 
 c3, c4, c5])) ∧ Wc prog tbl 15 [(V.agg 4 [(Il x2), c3, c4, c5])] m1 (fun v6 m7 => 
 ∃ x8, (v6 = (V.c (Il x8))) ∧ ifB (!decide (x8 = 0)) (∃ m9 : M, ((stC m7 (C.ptr m0.nxt 0) 5 [(Il 0), 
 C.sl0, C.sl0, C.sl0, C.map0]) = (some m9)) ∧ ∃ x10, ∃ c11 : C, ∃ c12 : C, 
 ∃ c13 : C, ∃ c14 : C, ((ldA m9 (C.ptr m0.nxt 0) 5) = (some [(Il x10), 
 c11, c12, c13, c14])) ∧ Q (V.tup [(U.agg 5 [(Il x10), c11, c12, c13, 
 c14]), (U.c (Il x8))]) m9) (∃ x15, ∃ c16 : C, ∃ c17 : C, 
 ∃ c18 : C, ((ldA m7 (C.ptr m.nxt 0) 4) = (some [(Il x15), c16, c17, 
 c18])) ∧ Wc prog tbl 111 [(V.agg 4 [(Il x15), c16, c17, c18]), (V.c (Il a200))] m7 (fun v19 m20 => 
 ∃ b21 : Bool, (v19 = (V.c (C.bool b21))) ∧ ifB (!b21) (∃ m22 : M, ((stC m20 (C.ptr m0.nxt 0) 5 [(Il 0), 
 C.sl0, C.sl0, C.sl0, C.map0]) = (some m22)) ∧ ∃ x23, ∃ c24 : C, 
 ∃ c25 : C, ∃ c26 : C, ∃ c27 : C, ((ldA m22 (C.ptr m0.nxt 0) 5) = (some [(Il x23), 
 c24, c25, c26, c27])) ∧ Q (V.tup [(U.agg 5 [(Il x23), c24, c25, 
 c26, c27]), (U.c (Il (2 : Int)))]) m22) (ifB (!a300) (∃ m28 : M, 
 ((stC m20 (C.ptr m0.nxt 0) 5 [(Il 0), C.sl0, C.sl0, C.sl0, 
 C.map0]) = (some m28)) ∧ ∃ x29, ∃ c30 : C, ∃ c31 : C, ∃ c32 : C, 
 ∃ c33 : C, ((ldA m28 (C.ptr m0.nxt 0) 5) = (some [(Il x29), 
 c30, c31, c32, c33])) ∧ Q (V.tup [(U.agg 5 [(Il x29), c30, c31, 
 c32, c33]), (U.c (Il (2 : Int)))]) m28) (∃ x34, 
 ∃ c35 : C, ∃ c36 : C, ∃ c37 : C, ((ldA m20 (C.ptr m.nxt 0) 4) = (some [(Il x34), 
 c35, c36, c37])) ∧ Wc prog tbl 58 [(V.agg 4 [(Il x34), c35, c36, 
 c37])] m20 (fun v38 m39 => ∃ x40, ∃ c41 : C, ∃ c42 : C, ∃ c43 : C, 
 ∃ c44 : C, ∃ x45, (v38 = (V.tup [(U.agg 5 [(Il x40), 
 c41, c42, c43, c44]), (U.c (Il x45))])) ∧ ∃ m46 : M, ((stC m39 (C.ptr m0.nxt 0) 5 [(Il x40), 
 c41, c42, c43, c44]) = (some m46)) ∧ ∃ x47, ∃ c48 : C, ∃ c49 : C, 
 ∃ c50 : C, ∃ c51 : C, ((ldA m46 (C.ptr m0.nxt 0) 5) = (some [(Il x47), 
 c48, c49, c50, c51])) ∧ Q (V.tup [(U.agg 5 [(Il x47), c48, c49, 
 c50, c51]), (U.c (Il x45))]) m46)))))))) : Wc prog tbl 68 [(V.agg 4 [(Il a100), a101, a102, a103]), (V.c (Il a200)), (V.c (C.bool a300))] m Q :=
 wc_eq (n := 3) rfl (by kernel_rfl) (by kernel_rfl) h
theorem w72 {a100 : Int} {a101 : Int} {a102 : Int} {a103 : Int} {a104 : Int} {a105 : Int} {a106 : Int} {a107 : Int} {a108 : Int} {a109 : Int} {a110 : Int} {a111 : Int} {a112 : Int} {a113 : Int} {a114 : Int} {a115 : Int} {a200 : Int} {m : M} {Q : V → M → Prop} (h :
 (∀ m0 : M, (m0 = (M.new m (AO.cells 16 [(Il a100), (Il a101), (Il a102), 
 (Il a103), (Il a104), (Il a105), (Il a106), 
 (Il a107), (Il a108), (Il a109), (Il a110), 
 (Il a111), (Il a112), (Il a113), (Il a114), 
 (Il a115)] false))) → isPt (C.ptr m.nxt 0) ∧ isPt (C.ptr m.nxt 0) ∧ ∃ x1, 
 ((ldC m0 (C.ptr m.nxt 2)) = (some (Il x1))) ∧ isPt (C.ptr m.nxt 0) ∧ isPt (C.ptr m.nxt 3) ∧ 
 ∃ n2 : Nat, (a200 = ((n2 : Nat) : Int)) ∧ (n2 < 13) ∧ ∃ x3, ((ldC m0 (C.ptr m.nxt (3 + (n2 * 1)))) = (some (Il x3))) ∧ 
 fitsP .i64 (x1 + x3) ∧ Q (V.c (Il (Min.min (x1 + x3) (100 : Int)))) m0)) : Wc prog tbl 72 [(V.agg 16 [(Il a100), (Il a101), (Il a102), (Il a103), (Il a104), (Il a105), (Il a106), (Il a107), (Il a108), (Il a109), (Il a110), (Il a111), (Il a112), (Il a113), (Il a114), (Il a115)]), (V.c (Il a200))] m Q :=
 wc_eq (n := 2) rfl (by kernel_rfl) (by kernel_rfl) h
theorem w75 {a100 : Int} {a101 : C} {a102 : C} {a103 : C} {a200 : Int} {a300 : Int} {a301 : Int} {a302 : Int} {a303 : Int} {a304 : Int} {a305 : Int} {a306 : Int} {a307 : Int} {a308 : Int} {a309 : Int} {a310 : Int} {a311 : Int} {a312 : Int} {a313 : Int} {a314 : Int} {a315 : Int} {m : M} {Q : V → M → Prop} (h :
 (∀ m0 : M, (m0 = (M.new m (AO.cells 4 [(Il a100), a101, a102, a103] false))) → ∀ m1 : M, (m1 = (M.new m0 (AO.cells 1 [(Il a200)] false))) → 
 ∀ m2 : M, (m2 = (M.new m1 (AO.cells 16 [(Il a300), (Il a301), (Il a302), 
 (Il a303), (Il a304), (Il a305), (Il a306), 
 (Il a307), (Il a308), (Il a309), (Il a310), 
 (Il a311), (Il a312), (Il a313), (Il a314), 
 (Il a315)] false))) → isPt (C.ptr m.nxt 0) ∧ ∃ c3 : C, ((ldC m2 (C.ptr m.nxt 3)) = (some c3)) ∧ 
 Wc prog tbl 106 [(V.c c3), (V.c (C.fn (Fn.func 117) [] [(W.c (C0.ptr m0.nxt 0)), (W.c (C0.ptr m1.nxt 0))]))] m2 (fun v4 m5 => 
 ∃ b6 : Bool, (v4 = (V.c (C.bool b6))) ∧ Q (V.c (C.bool b6)) m5))) : Wc prog tbl 75 [(V.agg 4 [(Il a100), a101, a102, a103]), (V.c (Il a200)), (V.agg 16 [(Il a300), (Il a301), (Il a302), (Il a303), (Il a304), (Il a305), (Il a306), (Il a307), (Il a308), (Il a309), (Il a310), (Il a311), (Il a312), (Il a313), (Il a314), (Il a315)])] m Q :=
 wc_eq (n := 3) rfl (by kernel_rfl) (by kernel_rfl) h
theorem w78 {a100 : C} {m : M} {Q : V → M → Prop} (h :
 (Wc prog tbl 118 [(V.c C.sl0), (V.c a100)] m (fun v0 m1 => ∃ c2 : C, (v0 = (V.c c2)) ∧ Q (V.c c2) m1))) : Wc prog tbl 78 [(V.c a100)] m Q :=
 wc_eq (n := 1) rfl (by kernel_rfl) (by kernel_rfl) h
theorem w81 {a100 : Int} {a200 : Int} {m : M} {Q : V → M → Prop} (h :
 (Wc prog tbl 121 [(V.c (Il a100))] m (fun v0 m1 => ∃ b2 : Bool, (v0 = (V.c (C.bool b2))) ∧ Wc prog tbl 121 [(V.c (Il a200))] m1 (fun v3 m4 => 
 ∃ b5 : Bool, (v3 = (V.c (C.bool b5))) ∧ ifB b2 (ifB b5 (Q (V.c (Il 0)) m4) (Q (V.c (Il (-1 : Int))) m4)) (ifB b5 (Q (V.c (Il (1 : Int))) m4) (ifB (decide (a100 < a200)) (Q (V.c (Il (-1 : Int))) m4) (ifB (decide (a200 < a100)) (Q (V.c (Il (1 : Int))) m4) (Q (V.c (Il 0)) m4)))))))) : Wc prog tbl 81 [(V.c (Il a100)), (V.c (Il a200))] m Q :=
 wc_eq (n := 2) rfl (by kernel_rfl) (by kernel_rfl) h
theorem w84 {a100 : Int} {m : M} {Q : V → M → Prop} (h :
 (Wc prog tbl 112 [(V.agg 2 [(Il 0), (Il (100 : Int))]), (V.c (Il a100))] m (fun v0 m1 => 
 ∃ b2 : Bool, (v0 = (V.c (C.bool b2))) ∧ Q (V.c (C.bool b2)) m1))) : Wc prog tbl 84 [(V.c (Il a100))] m Q :=
 wc_eq (n := 1) rfl (by kernel_rfl) (by kernel_rfl) h
theorem w103 {a100 : C} {a200 : C} {m : M} {Q : V → M → Prop} (h :
 (∀ m0 : M, (m0 = (M.new m (AO.cells 1 [a200] false))) → Wc prog tbl 130 [(V.c a100), (V.c (C.fn (Fn.func 131) [] [(W.c (C0.ptr m.nxt 0))]))] m0 (fun v1 m2 => 
 ∃ b3 : Bool, (v1 = (V.c (C.bool b3))) ∧ Q (V.c (C.bool (!b3))) m2))) : Wc prog tbl 103 [(V.c a100), (V.c a200)] m Q :=
 wc_eq (n := 2) rfl (by kernel_rfl) (by kernel_rfl) h
theorem w106 {a100 : C} {a200 : C} {m : M} {Q : V → M → Prop} (h :
 (∀ m0 : M, (m0 = (M.new m (AO.cells 1 [a200] false))) → Wc prog tbl 134 [(V.c a100), (V.c (C.fn (Fn.func 135) [] [(W.c (C0.ptr m.nxt 0))]))] m0 (fun v1 m2 => 
 ∃ b3 : Bool, (v1 = (V.c (C.bool b3))) ∧ Q (V.c (C.bool (!b3))) m2))) : Wc prog tbl 106 [(V.c a100), (V.c a200)] m Q :=
 wc_eq (n := 2) rfl (by kernel_rfl) (by kernel_rfl) h
theorem w110 {a100 : Int} {a101 : Int} {m : M} {Q : V → M → Prop} (h :
 (∀ m0 : M, (m0 = (M.new m (AO.cells 2 [(Il a100), (Il a101)] false))) → isPt (C.ptr m.nxt 0) ∧ 
 ∃ x1, ((ldC m0 (C.ptr m.nxt 1)) = (some (Il x1))) ∧ isPt (C.ptr m.nxt 0) ∧ 
 ∃ x2, ((ldC m0 (C.ptr m.nxt 0)) = (some (Il x2))) ∧ fitsP .i64 (x1 - x2) ∧ 
 fitsP .i64 ((x1 - x2) + (1 : Int)) ∧ Q (V.c (Il ((x1 - x2) + (1 : Int)))) m0)) : Wc prog tbl 110 [(V.agg 2 [(Il a100), (Il a101)])] m Q :=
 wc_eq (n := 1) rfl (by kernel_rfl) (by kernel_rfl) h
theorem w116 {a100 : Int} {a101 : C} {a102 : C} {a103 : C} {a200 : Int} {a201 : Int} {a202 : Int} {a203 : Int} {m : M} {Q : V → M → Prop} (h :
 (∀ m0 : M, (m0 = (M.new m (AO.cells 4 [(Il a100), a101, a102, a103] false))) → ∀ m1 : M, (m1 = (M.new m0 (AO.cells 4 [(Il a200), 
 (Il a201), (Il a202), (Il a203)] false))) → ∀ m2 : M, 
 (m2 = (M.new m1 (AO.cells 13 [(Il 0), (Il 0), (Il 0), 
 (Il 0), (Il 0), (Il 0), (Il 0), 
 (Il 0), (Il 0), (Il 0), (Il 0), 
 (Il 0), (Il 0)] false))) → ∀ m3 : M, (m3 = (M.new m2 (AO.cells 13 [(Il 0), 
 (Il 0), (Il 0), (Il 0), (Il 0), 
 (Il 0), (Il 0), (Il 0), (Il 0), 
 (Il 0), (Il 0), (Il 0), (Il 0)] false))) → 
 ∀ R4 : List V → M → Prop, (∀ x5 : Int, ∀ x6 : Int, ∀ x7 : Int, ∀ m8 : M, (ifB (decide (x7 < 13)) (isPt (C.ptr m0.nxt 0) ∧ 
 isPt (C.ptr m0.nxt 0) ∧ ∃ x9, ((ldC m8 (C.ptr m0.nxt 0)) = (some (Il x9))) ∧ 
 ifB (decide (x7 = x9)) (isPt (C.ptr m0.nxt 0) ∧ isPt (C.ptr m0.nxt 0) ∧ ∃ x10, 
 ((ldC m8 (C.ptr m0.nxt 1)) = (some (Il x10))) ∧ isPt (C.ptr m2.nxt 0) ∧ 
 ∃ n11 : Nat, (x7 = ((n11 : Nat) : Int)) ∧ (n11 < 13) ∧ ∃ m12 : M, ((stC m8 (C.ptr m2.nxt (0 + (n11 * 1))) 1 [(Il x10)]) = (some m12)) ∧ 
 fitsP .i64 (x7 + 1) ∧ R4 [(V.c (Il x10)), (V.c (Il x10)), 
 (V.c (Il (x7 + 1)))] m12) (isPt (C.ptr m.nxt 0) ∧ 
 ∃ x13, ((ldC m8 (C.ptr m.nxt 0)) = (some (Il x13))) ∧ 
 ifB (decide (x7 ≤ x13)) (isPt (C.ptr m.nxt 0) ∧ ∃ c14 : C, ((ldC m8 (C.ptr m.nxt 1)) = (some c14)) ∧ 
 isPt (C.ptr m0.nxt 0) ∧ ∃ x15, ((ldC m8 (C.ptr m0.nxt 3)) = (some (Il x15))) ∧ 
 ∃ n16 : Nat, (x15 = ((n16 : Nat) : Int)) ∧ (n16 < (slLen c14)) ∧ ∃ c17 : C, 
 ((ldC m8 (slAt c14 (n16 * 1))) = (some c17)) ∧ ∃ n18 : Nat, (x7 = ((n18 : Nat) : Int)) ∧ 
 (n18 < (slLen c17)) ∧ ∃ x19, ((ldC m8 (slAt c17 (n18 * 1))) = (some (Il x19))) ∧ 
 ((0 : Int) ≤ x5) ∧ ((0 : Int) ≤ x19) ∧ fitsP .i64 (x5 * x19) ∧ ((0 : Int) ≤ (x5 * x19)) ∧ 
 ((0 : Int) < (100 : Int)) ∧ fitsP .i64 ((x5 * x19) / (100 : Int)) ∧ 
 fitsP .i64 (x5 - ((x5 * x19) / (100 : Int))) ∧ isPt (C.ptr m2.nxt 0) ∧ 
 ∃ n20 : Nat, (x7 = ((n20 : Nat) : Int)) ∧ (n20 < 13) ∧ ∃ m21 : M, ((stC m8 (C.ptr m2.nxt (0 + (n20 * 1))) 1 [(Il (x5 - ((x5 * x19) / (100 : Int))))]) = (some m21)) ∧ 
 fitsP .i64 (x7 + 1) ∧ R4 [(V.c (Il (x5 - ((x5 * x19) / (100 : Int))))), 
 (V.c (Il (x5 - ((x5 * x19) / (100 : Int))))), (V.c (Il (x7 + 1)))] m21) (isPt (C.ptr m2.nxt 0) ∧ 
 ∃ n22 : Nat, (x7 = ((n22 : Nat) : Int)) ∧ (n22 < 13) ∧ ∃ m23 : M, ((stC m8 (C.ptr m2.nxt (0 + (n22 * 1))) 1 [(Il x5)]) = (some m23)) ∧ 
 fitsP .i64 (x7 + 1) ∧ R4 [(V.c (Il x5)), (V.c (Il x5)), 
 (V.c (Il (x7 + 1)))] m23))) (∃ x24, 
 ∃ x25, ∃ x26, ∃ x27, ∃ x28, ∃ x29, ∃ x30, ∃ x31, 
 ∃ x32, ∃ x33, ∃ x34, ∃ x35, ∃ x36, ((ldA m8 (C.ptr m2.nxt 0) 13) = (some [(Il x24), 
 (Il x25), (Il x26), (Il x27), (Il x28), 
 (Il x29), (Il x30), (Il x31), (Il x32), 
 (Il x33), (Il x34), (Il x35), (Il x36)])) ∧ 
 ∃ m37 : M, ((stC m8 (C.ptr m1.nxt 0) 13 [(Il x24), (Il x25), 
 (Il x26), (Il x27), (Il x28), (Il x29), 
 (Il x30), (Il x31), (Il x32), (Il x33), 
 (Il x34), (Il x35), (Il x36)]) = (some m37)) ∧ 
 ∃ x38, ∃ x39, ∃ x40, ∃ x41, ∃ x42, ∃ x43, 
 ∃ x44, ∃ x45, ∃ x46, ∃ x47, ∃ x48, ∃ x49, 
 ∃ x50, ((ldA m37 (C.ptr m1.nxt 0) 13) = (some [(Il x38), 
 (Il x39), (Il x40), (Il x41), (Il x42), 
 (Il x43), (Il x44), (Il x45), (Il x46), 
 (Il x47), (Il x48), (Il x49), (Il x50)])) ∧ 
 Q (V.agg 13 [(Il x38), (Il x39), (Il x40), 
 (Il x41), (Il x42), (Il x43), (Il x44), 
 (Il x45), (Il x46), (Il x47), (Il x48), 
 (Il x49), (Il x50)]) m37)) → 
 R4 [(V.c (Il x5)), (V.c (Il x6)), (V.c (Il x7))] m8) → 
 R4 [(V.c (Il 0)), (V.c (Il 0)), (V.c (Il 0))] m3)) : Wc prog tbl 116 [(V.agg 4 [(Il a100), a101, a102, a103]), (V.agg 4 [(Il a200), (Il a201), (Il a202), (Il a203)])] m Q :=
 wc_eq (n := 2) rfl (by kernel_rfl) (by kernel_rfl) h
theorem w121 {a100 : Int} {m : M} {Q : V → M → Prop} (h :
 (Q (V.c (C.bool (!decide (a100 = a100)))) m)) : Wc prog tbl 121 [(V.c (Il a100))] m Q :=
 wc_eq (n := 1) rfl (by kernel_rfl) (by kernel_rfl) h
theorem w125 {a100 : Int} {a101 : Int} {a102 : Int} {a103 : Int} {a104 : Int} {a105 : Int} {a106 : Int} {a200 : Int} {a300 : Int} {m : M} {Q : V → M → Prop} (h :
 (∀ m0 : M, (m0 = (M.new m (AO.cells 7 [(Il a100), (Il a101), (Il a102), 
 (Il a103), (Il a104), (Il a105), (Il a106)] false))) → 
 ∀ m1 : M, (m1 = (M.new m0 (AO.cells 4 [(Il 0), (Il 0), (Il 0), 
 (Il 0)] false))) → isPt (C.ptr m.nxt 0) ∧ ∃ x2, ((ldC m1 (C.ptr m.nxt 0)) = (some (Il x2))) ∧ 
 ∃ m3 : M, ((stC m1 (C.ptr m0.nxt 0) 4 [(Il a200), (Il a300), (Il 0), 
 (Il x2)]) = (some m3)) ∧ ∃ x4, ∃ x5, ∃ x6, ∃ x7, 
 ((ldA m3 (C.ptr m0.nxt 0) 4) = (some [(Il x4), (Il x5), 
 (Il x6), (Il x7)])) ∧ Q (V.agg 4 [(Il x4), (Il x5), 
 (Il x6), (Il x7)]) m3)) : Wc prog tbl 125 [(V.agg 7 [(Il a100), (Il a101), (Il a102), (Il a103), (Il a104), (Il a105), (Il a106)]), (V.c (Il a200)), (V.c (Il a300))] m Q :=
 wc_eq (n := 3) rfl (by kernel_rfl) (by kernel_rfl) h
theorem w132 {a100 : C} {a200 : C} {m : M} {Q : V → M → Prop} (h :
 (∀ m0 : M, (m0 = (M.new m (AO.cells 1 [a200] false))) → Wc prog tbl 143 [(V.c a100), (V.c (C.fn (Fn.func 144) [] [(W.c (C0.ptr m.nxt 0))]))] m0 (fun v1 m2 => 
 ∃ b3 : Bool, (v1 = (V.c (C.bool b3))) ∧ Q (V.c (C.bool (!b3))) m2))) : Wc prog tbl 132 [(V.c a100), (V.c a200)] m Q :=
 wc_eq (n := 2) rfl (by kernel_rfl) (by kernel_rfl) h
theorem w136 {a100 : C} {a200 : C} {m : M} {Q : V → M → Prop} (h :
 (isSl a100 ∧ ∀ R0 : List V → M → Prop, (∀ x1 : Int, ∀ x2 : Int, ∀ m3 : M, (ifB (decide (x2 < (((slLen a100) : Nat) : Int))) (∃ n4 : Nat, 
 (x2 = ((n4 : Nat) : Int)) ∧ (n4 < (slLen a100)) ∧ ∃ x5, ∃ x6, ∃ x7, ∃ x8, 
 ∃ x9, ∃ x10, ∃ x11, ((ldA m3 (slAt a100 (n4 * 7)) 7) = (some [(Il x5), 
 (Il x6), (Il x7), (Il x8), (Il x9), 
 (Il x10), (Il x11)])) ∧ callP prog tbl [(V.agg 7 [(Il x5), 
 (Il x6), (Il x7), (Il x8), (Il x9), 
 (Il x10), (Il x11)])] a200 m3 (fun v12 m13 => ∃ b14 : Bool, 
 (v12 = (V.c (C.bool b14))) ∧ ifB b14 (Q (V.c (Il x2)) m13) (fitsP .i64 (x2 + 1) ∧ 
 R0 [(V.c (Il x1)), (V.c (Il (x2 + 1)))] m13))) (Q (V.c (Il (-1 : Int))) m3)) → 
 R0 [(V.c (Il x1)), (V.c (Il x2))] m3) → R0 [(V.c (Il 0)), 
 (V.c (Il 0))] m)) : Wc prog tbl 136 [(V.c a100), (V.c a200)] m Q :=
 wc_eq (n := 2) rfl (by kernel_rfl) (by kernel_rfl) h
theorem w143 {a100 : C} {a200 : C} {m : M} {Q : V → M → Prop} (h :
 (Wc prog tbl 146 [(V.c a100), (V.c a200)] m (fun v0 m1 => ∃ x2, (v0 = (V.c (Il x2))) ∧ Q (V.c (C.bool (decide ((0 : Int) ≤ x2)))) m1))) : Wc prog tbl 143 [(V.c a100), (V.c a200)] m Q :=
 wc_eq (n := 2) rfl (by kernel_rfl) (by kernel_rfl) h
end
end Go.Proofs.YtmlaphekbnanjaaGreat

namespace Go.Proofs.YtmlaphekbnanjaaGreat
open _root_.Go.Proofs.Tryz
open Go.Abs
set_option maxRecDepth 100000
noncomputable section
def Fv_LInt_Bool (f : M) (x : C) (g : List Int → Option (Bool)) : Prop := ∀ (f' m : M) (a0 : List Int) (c0 : C) (r : Bool) (Q : V → M → Prop), Sub f f' → Pre f' m → Sl f' c0 a0 → g a0 = some r → (∀ m', Ext m m' → Q (.c (.bool r)) m') → callP prog tbl [.c c0] x m Q
theorem Fv_LInt_Bool.sub {f m : M} {x : C} {g : List Int → Option (Bool)} (h : Fv_LInt_Bool f x g) (s : Sub f m) : Fv_LInt_Bool m x g := fun f' m' a0 c0 r Q hs => h f' m' a0 c0 r Q (s.trans hs)
end
end Go.Proofs.YtmlaphekbnanjaaGreat

