/- An evaluator of the code of a program, its soundness, what calls ask, memory, and what functions of the program do. Condition: none; a lemma text of this claim. -/
import Derived.Test.YtmlaphekbnanjaaGtF

namespace Go.Proofs.Ytmlaphekbnanjaa
theorem gdi {α : Type} {p A : Prop} {o : Option α} {r : α} (hp : Go.Abs.gd p o = some r) (h : p → o = some r → A) : p ∧ A := have ⟨a, b⟩ := Go.Abs.gd_some hp; ⟨a, h a b⟩
end Go.Proofs.Ytmlaphekbnanjaa

namespace Go.Proofs.Ytmlaphekbnanjaa
open _root_.Go.Proofs.Try
open Go.Abs
set_option maxRecDepth 100000
noncomputable section
structure Rg where
 Lo : Int
 Hi : Int
def ok_Rg (a : Rg) : Prop := (fitsP .i64 a.Lo) ∧ (fitsP .i64 a.Hi)
instance : MK Rg := ⟨fun k => .agg 2 [.int .i64 k.Lo, .int .i64 k.Hi], fun k => fitsP .i64 k.Lo ∧ fitsP .i64 k.Hi ∧ True⟩
instance : MV Rg := ⟨fun k => .agg 2 [.int .i64 k.Lo, .int .i64 k.Hi]⟩
instance : Rp Rg := ⟨2, by omega, fun _ cs a => cs = [.int .i64 a.Lo, .int .i64 a.Hi], fun h => by rw [h]; rfl, fun h _ => h⟩
structure Fld where
 Crop : Int
 Week : Rg
 Damage : Rg
 Old : Rg
def ok_Fld (a : Fld) : Prop := (fitsP .i64 a.Crop) ∧ (ok_Rg a.Week) ∧ (ok_Rg a.Damage) ∧ (ok_Rg a.Old)
instance : MK Fld := ⟨fun k => .agg 7 [.int .i64 k.Crop, .int .i64 k.Week.Lo, .int .i64 k.Week.Hi, .int .i64 k.Damage.Lo, .int .i64 k.Damage.Hi, .int .i64 k.Old.Lo, .int .i64 k.Old.Hi], fun k => fitsP .i64 k.Crop ∧ fitsP .i64 k.Week.Lo ∧ fitsP .i64 k.Week.Hi ∧ fitsP .i64 k.Damage.Lo ∧ fitsP .i64 k.Damage.Hi ∧ fitsP .i64 k.Old.Lo ∧ fitsP .i64 k.Old.Hi ∧ True⟩
instance : MV Fld := ⟨fun k => .agg 7 [.int .i64 k.Crop, .int .i64 k.Week.Lo, .int .i64 k.Week.Hi, .int .i64 k.Damage.Lo, .int .i64 k.Damage.Hi, .int .i64 k.Old.Lo, .int .i64 k.Old.Hi]⟩
instance : Rp Fld := ⟨7, by omega, fun _ cs a => cs = [.int .i64 a.Crop, .int .i64 a.Week.Lo, .int .i64 a.Week.Hi, .int .i64 a.Damage.Lo, .int .i64 a.Damage.Hi, .int .i64 a.Old.Lo, .int .i64 a.Old.Hi], fun h => by rw [h]; rfl, fun h _ => h⟩
theorem rd_Fld {f : M} {x : C} {l : List Fld} (h : Sl f x l) {n : Nat} {a : Fld} (hi : l[n]? = some a) : ∃ _u : Unit, (∀ m, Sub f m → ldA m (slAt x (n * 7)) 7 = some [.int .i64 a.Crop, .int .i64 a.Week.Lo, .int .i64 a.Week.Hi, .int .i64 a.Damage.Lo, .int .i64 a.Damage.Hi, .int .i64 a.Old.Lo, .int .i64 a.Old.Hi] ∧ (∀ j c, ([.int .i64 a.Crop, .int .i64 a.Week.Lo, .int .i64 a.Week.Hi, .int .i64 a.Damage.Lo, .int .i64 a.Damage.Hi, .int .i64 a.Old.Lo, .int .i64 a.Old.Hi] : List C)[j]? = some c → ldC m (ptAdd (slAt x (n * 7)) j) = some c) ∧ ∀ j i, 0 < i → j + i ≤ 7 → ldA m (ptAdd (slAt x (n * 7)) j) i = some ((([.int .i64 a.Crop, .int .i64 a.Week.Lo, .int .i64 a.Week.Hi, .int .i64 a.Damage.Lo, .int .i64 a.Damage.Hi, .int .i64 a.Old.Lo, .int .i64 a.Old.Hi] : List C).drop j).take i)) := by
 obtain ⟨cs, q1, q2⟩ := h.rdP hi
 have q2 : cs = _ := q2
 subst q2
 exact ⟨(), q1⟩
structure Vis where
 Field : Int
 Week : Int
 Seen : Rg
def ok_Vis (a : Vis) : Prop := (fitsP .i64 a.Field) ∧ (fitsP .i64 a.Week) ∧ (ok_Rg a.Seen)
instance : MK Vis := ⟨fun k => .agg 4 [.int .i64 k.Field, .int .i64 k.Week, .int .i64 k.Seen.Lo, .int .i64 k.Seen.Hi], fun k => fitsP .i64 k.Field ∧ fitsP .i64 k.Week ∧ fitsP .i64 k.Seen.Lo ∧ fitsP .i64 k.Seen.Hi ∧ True⟩
instance : MV Vis := ⟨fun k => .agg 4 [.int .i64 k.Field, .int .i64 k.Week, .int .i64 k.Seen.Lo, .int .i64 k.Seen.Hi]⟩
instance : Rp Vis := ⟨4, by omega, fun _ cs a => cs = [.int .i64 a.Field, .int .i64 a.Week, .int .i64 a.Seen.Lo, .int .i64 a.Seen.Hi], fun h => by rw [h]; rfl, fun h _ => h⟩
theorem rd_Vis {f : M} {x : C} {l : List Vis} (h : Sl f x l) {n : Nat} {a : Vis} (hi : l[n]? = some a) : ∃ _u : Unit, (∀ m, Sub f m → ldA m (slAt x (n * 4)) 4 = some [.int .i64 a.Field, .int .i64 a.Week, .int .i64 a.Seen.Lo, .int .i64 a.Seen.Hi] ∧ (∀ j c, ([.int .i64 a.Field, .int .i64 a.Week, .int .i64 a.Seen.Lo, .int .i64 a.Seen.Hi] : List C)[j]? = some c → ldC m (ptAdd (slAt x (n * 4)) j) = some c) ∧ ∀ j i, 0 < i → j + i ≤ 4 → ldA m (ptAdd (slAt x (n * 4)) j) i = some ((([.int .i64 a.Field, .int .i64 a.Week, .int .i64 a.Seen.Lo, .int .i64 a.Seen.Hi] : List C).drop j).take i)) := by
 obtain ⟨cs, q1, q2⟩ := h.rdP hi
 have q2 : cs = _ := q2
 subst q2
 exact ⟨(), q1⟩
structure Ssn where
 Last : Int
 Rules : List (List Int)
 Fields : List Fld
 Visits : List Vis
def ok_Ssn (a : Ssn) : Prop := (fitsP .i64 a.Last) ∧ (a.Rules.length ≤ maxLen ∧ ∀ a0 ∈ a.Rules, a0.length ≤ maxLen ∧ ∀ a1 ∈ a0, fitsP .i64 a1) ∧ (a.Fields.length ≤ maxLen ∧ ∀ a0 ∈ a.Fields, ok_Fld a0) ∧ (a.Visits.length ≤ maxLen ∧ ∀ a0 ∈ a.Visits, ok_Vis a0)
instance : Rp Ssn := ⟨4, by omega, fun f cs a => ∃ c1 c2 c3 : C, cs = [.int .i64 a.Last, c1, c2, c3] ∧ Sl f c1 a.Rules ∧ Sl f c2 a.Fields ∧ Sl f c3 a.Visits, fun h => by obtain ⟨c1, c2, c3, h, _, _, _⟩ := h; rw [h]; rfl, fun h s => by obtain ⟨c1, c2, c3, h, h0, h1, h2⟩ := h; exact ⟨c1, c2, c3, h, h0.subv s, h1.subv s, h2.subv s⟩⟩
structure Trh where
 Week : Int
 Damage : Int
 Old : Int
instance : MK Trh := ⟨fun k => .agg 3 [.int .i64 k.Week, .int .i64 k.Damage, .int .i64 k.Old], fun k => fitsP .i64 k.Week ∧ fitsP .i64 k.Damage ∧ fitsP .i64 k.Old ∧ True⟩
instance : MV Trh := ⟨fun k => .agg 3 [.int .i64 k.Week, .int .i64 k.Damage, .int .i64 k.Old]⟩
instance : Rp Trh := ⟨3, by omega, fun _ cs a => cs = [.int .i64 a.Week, .int .i64 a.Damage, .int .i64 a.Old], fun h => by rw [h]; rfl, fun h _ => h⟩
structure Bnd where
 Week : Rg
 Damage : Rg
 Old : Rg
 Harvest : Rg
instance : MK Bnd := ⟨fun k => .agg 8 [.int .i64 k.Week.Lo, .int .i64 k.Week.Hi, .int .i64 k.Damage.Lo, .int .i64 k.Damage.Hi, .int .i64 k.Old.Lo, .int .i64 k.Old.Hi, .int .i64 k.Harvest.Lo, .int .i64 k.Harvest.Hi], fun k => fitsP .i64 k.Week.Lo ∧ fitsP .i64 k.Week.Hi ∧ fitsP .i64 k.Damage.Lo ∧ fitsP .i64 k.Damage.Hi ∧ fitsP .i64 k.Old.Lo ∧ fitsP .i64 k.Old.Hi ∧ fitsP .i64 k.Harvest.Lo ∧ fitsP .i64 k.Harvest.Hi ∧ True⟩
instance : MV Bnd := ⟨fun k => .agg 8 [.int .i64 k.Week.Lo, .int .i64 k.Week.Hi, .int .i64 k.Damage.Lo, .int .i64 k.Damage.Hi, .int .i64 k.Old.Lo, .int .i64 k.Old.Hi, .int .i64 k.Harvest.Lo, .int .i64 k.Harvest.Hi]⟩
instance : Rp Bnd := ⟨8, by omega, fun _ cs a => cs = [.int .i64 a.Week.Lo, .int .i64 a.Week.Hi, .int .i64 a.Damage.Lo, .int .i64 a.Damage.Hi, .int .i64 a.Old.Lo, .int .i64 a.Old.Hi, .int .i64 a.Harvest.Lo, .int .i64 a.Harvest.Hi], fun h => by rw [h]; rfl, fun h _ => h⟩
theorem rd_Bnd {f : M} {x : C} {l : List Bnd} (h : Sl f x l) {n : Nat} {a : Bnd} (hi : l[n]? = some a) : ∃ _u : Unit, (∀ m, Sub f m → ldA m (slAt x (n * 8)) 8 = some [.int .i64 a.Week.Lo, .int .i64 a.Week.Hi, .int .i64 a.Damage.Lo, .int .i64 a.Damage.Hi, .int .i64 a.Old.Lo, .int .i64 a.Old.Hi, .int .i64 a.Harvest.Lo, .int .i64 a.Harvest.Hi] ∧ (∀ j c, ([.int .i64 a.Week.Lo, .int .i64 a.Week.Hi, .int .i64 a.Damage.Lo, .int .i64 a.Damage.Hi, .int .i64 a.Old.Lo, .int .i64 a.Old.Hi, .int .i64 a.Harvest.Lo, .int .i64 a.Harvest.Hi] : List C)[j]? = some c → ldC m (ptAdd (slAt x (n * 8)) j) = some c) ∧ ∀ j i, 0 < i → j + i ≤ 8 → ldA m (ptAdd (slAt x (n * 8)) j) i = some ((([.int .i64 a.Week.Lo, .int .i64 a.Week.Hi, .int .i64 a.Damage.Lo, .int .i64 a.Damage.Hi, .int .i64 a.Old.Lo, .int .i64 a.Old.Hi, .int .i64 a.Harvest.Lo, .int .i64 a.Harvest.Hi] : List C).drop j).take i)) := by
 obtain ⟨cs, q1, q2⟩ := h.rdP hi
 have q2 : cs = _ := q2
 subst q2
 exact ⟨(), q1⟩
structure Dm where
 d0 : Int
 d1 : Int
 d2 : Int
 d3 : Int
 d4 : Int
 d5 : Int
 d6 : Int
 d7 : Int
 d8 : Int
 d9 : Int
 d10 : Int
 d11 : Int
 d12 : Int
instance : MK Dm := ⟨fun k => .agg 13 [.int .i64 k.d0, .int .i64 k.d1, .int .i64 k.d2, .int .i64 k.d3, .int .i64 k.d4, .int .i64 k.d5, .int .i64 k.d6, .int .i64 k.d7, .int .i64 k.d8, .int .i64 k.d9, .int .i64 k.d10, .int .i64 k.d11, .int .i64 k.d12], fun k => fitsP .i64 k.d0 ∧ fitsP .i64 k.d1 ∧ fitsP .i64 k.d2 ∧ fitsP .i64 k.d3 ∧ fitsP .i64 k.d4 ∧ fitsP .i64 k.d5 ∧ fitsP .i64 k.d6 ∧ fitsP .i64 k.d7 ∧ fitsP .i64 k.d8 ∧ fitsP .i64 k.d9 ∧ fitsP .i64 k.d10 ∧ fitsP .i64 k.d11 ∧ fitsP .i64 k.d12 ∧ True⟩
instance : MV Dm := ⟨fun k => .agg 13 [.int .i64 k.d0, .int .i64 k.d1, .int .i64 k.d2, .int .i64 k.d3, .int .i64 k.d4, .int .i64 k.d5, .int .i64 k.d6, .int .i64 k.d7, .int .i64 k.d8, .int .i64 k.d9, .int .i64 k.d10, .int .i64 k.d11, .int .i64 k.d12]⟩
instance : Rp Dm := ⟨13, by omega, fun _ cs a => cs = [.int .i64 a.d0, .int .i64 a.d1, .int .i64 a.d2, .int .i64 a.d3, .int .i64 a.d4, .int .i64 a.d5, .int .i64 a.d6, .int .i64 a.d7, .int .i64 a.d8, .int .i64 a.d9, .int .i64 a.d10, .int .i64 a.d11, .int .i64 a.d12], fun h => by rw [h]; rfl, fun h _ => h⟩
structure Plt where
 t : Trh
 crop : Int
instance : MK Plt := ⟨fun k => .agg 4 [.int .i64 k.t.Week, .int .i64 k.t.Damage, .int .i64 k.t.Old, .int .i64 k.crop], fun k => fitsP .i64 k.t.Week ∧ fitsP .i64 k.t.Damage ∧ fitsP .i64 k.t.Old ∧ fitsP .i64 k.crop ∧ True⟩
instance : MV Plt := ⟨fun k => .agg 4 [.int .i64 k.t.Week, .int .i64 k.t.Damage, .int .i64 k.t.Old, .int .i64 k.crop]⟩
instance : Rp Plt := ⟨4, by omega, fun _ cs a => cs = [.int .i64 a.t.Week, .int .i64 a.t.Damage, .int .i64 a.t.Old, .int .i64 a.crop], fun h => by rw [h]; rfl, fun h _ => h⟩
structure Crs where
 t : Trh
 d : Dm
instance : MK Crs := ⟨fun k => .agg 16 [.int .i64 k.t.Week, .int .i64 k.t.Damage, .int .i64 k.t.Old, .int .i64 k.d.d0, .int .i64 k.d.d1, .int .i64 k.d.d2, .int .i64 k.d.d3, .int .i64 k.d.d4, .int .i64 k.d.d5, .int .i64 k.d.d6, .int .i64 k.d.d7, .int .i64 k.d.d8, .int .i64 k.d.d9, .int .i64 k.d.d10, .int .i64 k.d.d11, .int .i64 k.d.d12], fun k => fitsP .i64 k.t.Week ∧ fitsP .i64 k.t.Damage ∧ fitsP .i64 k.t.Old ∧ fitsP .i64 k.d.d0 ∧ fitsP .i64 k.d.d1 ∧ fitsP .i64 k.d.d2 ∧ fitsP .i64 k.d.d3 ∧ fitsP .i64 k.d.d4 ∧ fitsP .i64 k.d.d5 ∧ fitsP .i64 k.d.d6 ∧ fitsP .i64 k.d.d7 ∧ fitsP .i64 k.d.d8 ∧ fitsP .i64 k.d.d9 ∧ fitsP .i64 k.d.d10 ∧ fitsP .i64 k.d.d11 ∧ fitsP .i64 k.d.d12 ∧ True⟩
instance : MV Crs := ⟨fun k => .agg 16 [.int .i64 k.t.Week, .int .i64 k.t.Damage, .int .i64 k.t.Old, .int .i64 k.d.d0, .int .i64 k.d.d1, .int .i64 k.d.d2, .int .i64 k.d.d3, .int .i64 k.d.d4, .int .i64 k.d.d5, .int .i64 k.d.d6, .int .i64 k.d.d7, .int .i64 k.d.d8, .int .i64 k.d.d9, .int .i64 k.d.d10, .int .i64 k.d.d11, .int .i64 k.d.d12]⟩
instance : Rp Crs := ⟨16, by omega, fun _ cs a => cs = [.int .i64 a.t.Week, .int .i64 a.t.Damage, .int .i64 a.t.Old, .int .i64 a.d.d0, .int .i64 a.d.d1, .int .i64 a.d.d2, .int .i64 a.d.d3, .int .i64 a.d.d4, .int .i64 a.d.d5, .int .i64 a.d.d6, .int .i64 a.d.d7, .int .i64 a.d.d8, .int .i64 a.d.d9, .int .i64 a.d.d10, .int .i64 a.d.d11, .int .i64 a.d.d12], fun h => by rw [h]; rfl, fun h _ => h⟩
theorem rd_Crs {f : M} {x : C} {l : List Crs} (h : Sl f x l) {n : Nat} {a : Crs} (hi : l[n]? = some a) : ∃ _u : Unit, (∀ m, Sub f m → ldA m (slAt x (n * 16)) 16 = some [.int .i64 a.t.Week, .int .i64 a.t.Damage, .int .i64 a.t.Old, .int .i64 a.d.d0, .int .i64 a.d.d1, .int .i64 a.d.d2, .int .i64 a.d.d3, .int .i64 a.d.d4, .int .i64 a.d.d5, .int .i64 a.d.d6, .int .i64 a.d.d7, .int .i64 a.d.d8, .int .i64 a.d.d9, .int .i64 a.d.d10, .int .i64 a.d.d11, .int .i64 a.d.d12] ∧ (∀ j c, ([.int .i64 a.t.Week, .int .i64 a.t.Damage, .int .i64 a.t.Old, .int .i64 a.d.d0, .int .i64 a.d.d1, .int .i64 a.d.d2, .int .i64 a.d.d3, .int .i64 a.d.d4, .int .i64 a.d.d5, .int .i64 a.d.d6, .int .i64 a.d.d7, .int .i64 a.d.d8, .int .i64 a.d.d9, .int .i64 a.d.d10, .int .i64 a.d.d11, .int .i64 a.d.d12] : List C)[j]? = some c → ldC m (ptAdd (slAt x (n * 16)) j) = some c) ∧ ∀ j i, 0 < i → j + i ≤ 16 → ldA m (ptAdd (slAt x (n * 16)) j) i = some ((([.int .i64 a.t.Week, .int .i64 a.t.Damage, .int .i64 a.t.Old, .int .i64 a.d.d0, .int .i64 a.d.d1, .int .i64 a.d.d2, .int .i64 a.d.d3, .int .i64 a.d.d4, .int .i64 a.d.d5, .int .i64 a.d.d6, .int .i64 a.d.d7, .int .i64 a.d.d8, .int .i64 a.d.d9, .int .i64 a.d.d10, .int .i64 a.d.d11, .int .i64 a.d.d12] : List C).drop j).take i)) := by
 obtain ⟨cs, q1, q2⟩ := h.rdP hi
 have q2 : cs = _ := q2
 subst q2
 exact ⟨(), q1⟩
structure Qn where
 number : Crs → Option (Int)
structure Wk where
 s : Ssn
 damages : Option (Plt → Option (Dm))
def pawake : Option Bool := some true
def prIn (n : Int) (low : Int) (high : Int) : Option (Bool) := (if low ≤ n then (some (decide (n ≤ high))) else (some false))
def prWithin (r : Rg) (low : Int) (high : Int) : Option (Bool) := (if low ≤ r.Lo then (if r.Lo ≤ r.Hi then (some (decide (r.Hi ≤ high))) else (some false)) else (some false))
def prCount (r : Rg) : Option (Int) := (gd (fitsP .i64 (r.Hi - r.Lo)) (gd (fitsP .i64 ((r.Hi - r.Lo) + (1 : Int))) (some ((r.Hi - r.Lo) + (1 : Int)))))
def prIsRule_L0 (s : Ssn) (l : List Int) : Nat → Int → Option (Bool)
 | 0, _ => none
 | d23 + 1, x3 => (if x3 < (l.length : Int) then ((idx l x3).bind fun x25 => ((prIn x25 (0 : Int) (100 : Int)).bind fun r27 => (if r27 = true then (gd (fitsP .i64 (x3 + 1)) (prIsRule_L0 s l d23 (x3 + 1))) else (some false)))) else (gd (fitsP .i64 (s.Last + (1 : Int))) (some (decide ((l.length : Int) = (s.Last + (1 : Int)))))))
def prIsRule (s : Ssn) (l : List Int) : Option (Bool) := (prIsRule_L0 s l (l.length + 1) (0 : Int))
def prMany (fl : Fld) : Option (Int) := ((prCount fl.Week).bind fun r41 => ((prCount fl.Damage).bind fun r47 => (gd ((0 : Int) ≤ r41) (gd ((0 : Int) ≤ r47) (gd (fitsP .i64 (r41 * r47)) ((prCount fl.Old).bind fun r56 => (gd ((0 : Int) ≤ (r41 * r47)) (gd ((0 : Int) ≤ r56) (gd (fitsP .i64 ((r41 * r47) * r56)) (some ((r41 * r47) * r56)))))))))))
def prFault_L3 (s : Ssn) : Nat → Int → Option (Int)
 | 0, _ => none
 | d194 + 1, x90 => (if x90 < (s.Fields.length : Int) then ((idx s.Fields x90).bind fun v196 => ((prMany v196).bind fun r199 => (if (3000 : Int) < r199 then (some (3 : Int)) else (gd (fitsP .i64 (x90 + 1)) (prFault_L3 s d194 (x90 + 1)))))) else (some (0 : Int)))
def prFault_L2 (s : Ssn) : Nat → Int → Int → Option (Int)
 | 0, _, _ => none
 | d149 + 1, x61, x62 => (if x62 < (s.Visits.length : Int) then ((idx s.Visits x62).bind fun v151 => (gd (fitsP .i64 ((s.Fields.length : Int) - (1 : Int))) ((prIn v151.Field (0 : Int) ((s.Fields.length : Int) - (1 : Int))).bind fun r167 => (if r167 = true then ((prIn v151.Week (0 : Int) s.Last).bind fun r175 => (if r175 = true then ((prWithin v151.Seen (0 : Int) (100 : Int)).bind fun r183 => (if r183 = true then (gd (fitsP .i64 (x62 + 1)) (prFault_L2 s d149 x61 (x62 + 1))) else (some (1 : Int)))) else (some (1 : Int)))) else (some (1 : Int)))))) else (prFault_L3 s 1000000 (0 : Int)))
def prFault_L1 (s : Ssn) : Nat → Int → Int → Option (Int)
 | 0, _, _ => none
 | d96 + 1, x24, x25 => (if x25 < (s.Fields.length : Int) then ((idx s.Fields x25).bind fun v98 => (gd (fitsP .i64 ((s.Rules.length : Int) - (1 : Int))) ((prIn v98.Crop (0 : Int) ((s.Rules.length : Int) - (1 : Int))).bind fun r114 => (if r114 = true then ((prWithin v98.Week (0 : Int) s.Last).bind fun r122 => (if r122 = true then ((prWithin v98.Damage (0 : Int) (100 : Int)).bind fun r130 => (if r130 = true then ((prWithin v98.Old (0 : Int) (100 : Int)).bind fun r138 => (if r138 = true then (gd (fitsP .i64 (x25 + 1)) (prFault_L1 s d96 x24 (x25 + 1))) else (some (1 : Int)))) else (some (1 : Int)))) else (some (1 : Int)))) else (some (1 : Int)))))) else (prFault_L2 s 1000000 x24 (0 : Int)))
def prFault_L0 (s : Ssn) : Nat → Int → Int → Option (Int)
 | 0, _, _ => none
 | d79 + 1, x9, x10 => (if x10 < (s.Rules.length : Int) then ((idx s.Rules x10).bind fun v81 => ((prIsRule s v81).bind fun r86 => (if r86 = true then (gd (fitsP .i64 (x10 + 1)) (prFault_L0 s d79 x9 (x10 + 1))) else (some (1 : Int))))) else (prFault_L1 s 1000000 x9 (0 : Int)))
def prFault (s : Ssn) : Option (Int) := (if (12 : Int) < s.Last then (some (3 : Int)) else (if (3 : Int) < (s.Rules.length : Int) then (some (3 : Int)) else (if (3 : Int) < (s.Fields.length : Int) then (some (3 : Int)) else (if (6 : Int) < (s.Visits.length : Int) then (some (3 : Int)) else (if s.Last < (0 : Int) then (some (1 : Int)) else (if (s.Rules.length : Int) = (0 : Int) then (some (1 : Int)) else (if (s.Fields.length : Int) = (0 : Int) then (some (1 : Int)) else (prFault_L0 s 1000000 (0 : Int) (0 : Int)))))))))
def plList (l : List Int) : Option (List Int) := (gd (([] : List Int).length + l.length ≤ 1048576) (some ([] ++ l)))
def plTo (r : Rg) : Option (Rg) := (some r)
def plSeason_L2 (s : Ssn) (y265 : List (List Int)) (y315 : List Fld) : Nat → Int → (List Vis) → Int → Option (Ssn)
 | 0, _, _, _ => none
 | d397 + 1, y393, y394, x60 => (if x60 < (s.Visits.length : Int) then ((idx s.Visits x60).bind fun v399 => ((plTo v399.Seen).bind fun r418 => (gd (y394.length < 1048576) (gd (fitsP .i64 (x60 + 1)) (plSeason_L2 s y265 y315 d397 y393 (y394 ++ [({ Field := v399.Field, Week := v399.Week, Seen := r418 } : Vis)]) (x60 + 1)))))) else (some ({ Last := y393, Rules := y265, Fields := y315, Visits := y394 } : Ssn)))
def plSeason_L1 (s : Ssn) (y265 : List (List Int)) : Nat → Int → (List Fld) → (List Vis) → Int → Option (Ssn)
 | 0, _, _, _, _ => none
 | d321 + 1, y314, y315, y318, x21 => (if x21 < (s.Fields.length : Int) then ((idx s.Fields x21).bind fun v323 => ((plTo v323.Week).bind fun r342 => ((plTo v323.Damage).bind fun r351 => ((plTo v323.Old).bind fun r360 => (gd (y315.length < 1048576) (gd (fitsP .i64 (x21 + 1)) (plSeason_L1 s y265 d321 y314 (y315 ++ [({ Crop := v323.Crop, Week := r342, Damage := r351, Old := r360 } : Fld)]) y318 (x21 + 1)))))))) else (plSeason_L2 s y265 y315 1000000 y314 y318 (0 : Int)))
def plSeason_L0 (s : Ssn) : Nat → Int → (List (List Int)) → (List Fld) → (List Vis) → Int → Option (Ssn)
 | 0, _, _, _, _, _ => none
 | d274 + 1, y264, y265, y268, y271, x6 => (if x6 < (s.Rules.length : Int) then ((idx s.Rules x6).bind fun v276 => ((plList v276).bind fun r281 => (gd (y265.length < 1048576) (gd (fitsP .i64 (x6 + 1)) (plSeason_L0 s d274 y264 (y265 ++ [r281]) y268 y271 (x6 + 1)))))) else (plSeason_L1 s y265 1000000 y264 y268 y271 (0 : Int)))
def plSeason (s : Ssn) : Option (Ssn) := (plSeason_L0 s 1000000 s.Last [] [] [] (0 : Int))
def plInts_L0 (a : List Int) (b : List Int) : Nat → Int → Option (Bool)
 | 0, _ => none
 | d480 + 1, x2 => (if x2 < (a.length : Int) then ((idx a x2).bind fun x482 => ((idx b x2).bind fun x484 => (if x482 = x484 then (gd (fitsP .i64 (x2 + 1)) (plInts_L0 a b d480 (x2 + 1))) else (some false)))) else (some true))
def plInts (a : List Int) (b : List Int) : Option (Bool) := (if (a.length : Int) = (b.length : Int) then (plInts_L0 a b (a.length + 1) (0 : Int)) else (some false))
def plThin_L1 (s : Ssn) (r507 : Int) : Nat → Int → Option (Bool)
 | 0, _ => none
 | d515 + 1, x21 => (if x21 < (s.Fields.length : Int) then (if (!(decide (r507 = 0))) = true then (gd (fitsP .i64 (x21 + 1)) (plThin_L1 s r507 d515 (x21 + 1))) else ((idx s.Fields x21).bind fun v518 => ((prMany v518).bind fun r521 => (if (200 : Int) < r521 then (some false) else (gd (fitsP .i64 (x21 + 1)) (plThin_L1 s r507 d515 (x21 + 1))))))) else (some true))
def plThin_L0 (s : Ssn) : Nat → Bool → Int → Option (Bool)
 | 0, _, _ => none
 | d498 + 1, b5, x6 => (if x6 < (s.Rules.length : Int) then ((idx s.Rules x6).bind fun v500 => (if (20 : Int) < (v500.length : Int) then (some false) else (gd (fitsP .i64 (x6 + 1)) (plThin_L0 s d498 b5 (x6 + 1))))) else ((prFault s).bind fun r507 => (plThin_L1 s r507 1000000 (0 : Int))))
def plThin (s : Ssn) : Option (Bool) := (if (5 : Int) < (s.Rules.length : Int) then (some false) else (if (5 : Int) < (s.Fields.length : Int) then (some false) else (if (9 : Int) < (s.Visits.length : Int) then (some false) else (plThin_L0 s 1000000 false (0 : Int)))))
def plReady (s : Ssn) : Option (Bool) := ((plThin s).bind fun r535 => (if r535 = true then ((prFault s).bind fun r542 => (some (decide (r542 = 0)))) else (some false)))
def plSome_L0 (s : Ssn) (bits : Int) : Nat → Int → (List Vis) → Int → Option (Ssn)
 | 0, _, _, _ => none
 | d652 + 1, y648, y649, x10 => (if x10 < (s.Visits.length : Int) then (gd ((0 : Int) ≤ bits) (gd ((0 : Int) ≤ (wrapZ .u64 x10)) (gd ((wrapZ .u64 x10) ≤ (64 : Int)) (gd (fitsP .i64 (bits / ((2 : Int) ^ (Int.toNat (wrapZ .u64 x10))))) (gd ((0 : Int) ≤ (bits / ((2 : Int) ^ (Int.toNat (wrapZ .u64 x10))))) (gd ((0 : Int) < (2 : Int)) (gd (fitsP .i64 ((bits / ((2 : Int) ^ (Int.toNat (wrapZ .u64 x10)))) % (2 : Int))) (if ((bits / ((2 : Int) ^ (Int.toNat (wrapZ .u64 x10)))) % (2 : Int)) = (1 : Int) then ((idx s.Visits x10).bind fun v662 => (gd (y649.length < 1048576) (gd (fitsP .i64 (x10 + 1)) (plSome_L0 s bits d652 y648 (y649 ++ [v662]) (x10 + 1))))) else (gd (fitsP .i64 (x10 + 1)) (plSome_L0 s bits d652 y648 y649 (x10 + 1))))))))))) else (some ({ Last := y648, Rules := s.Rules, Fields := s.Fields, Visits := y649 } : Ssn)))
def plSome (s : Ssn) (bits : Int) : Option (Ssn) := (plSome_L0 s bits 1000000 s.Last [] (0 : Int))
def phas (r : Rg) (n : Int) : Option (Bool) := (if r.Lo ≤ n then (some (decide (n ≤ r.Hi))) else (some false))
def pcount (r : Rg) : Option (Int) := (gd (fitsP .i64 (r.Hi - r.Lo)) (gd (fitsP .i64 ((r.Hi - r.Lo) + (1 : Int))) (some ((r.Hi - r.Lo) + (1 : Int)))))
def pwithin (r : Rg) (low : Int) (high : Int) : Option (Bool) := (if low ≤ r.Lo then (if r.Lo ≤ r.Hi then (some (decide (r.Hi ≤ high))) else (some false)) else (some false))
def pisHundredths (n : Int) : Option (Bool) := ((phas ({ Lo := (0 : Int), Hi := (100 : Int) } : Rg) n).bind fun r720 => (some r720))
def phasField (s : Ssn) (n : Int) : Option (Bool) := (gd (fitsP .i64 ((s.Fields.length : Int) - (1 : Int))) ((phas ({ Lo := (0 : Int), Hi := ((s.Fields.length : Int) - (1 : Int)) } : Rg) n).bind fun r731 => (some r731)))
def phasWeek (s : Ssn) (n : Int) : Option (Bool) := ((phas ({ Lo := (0 : Int), Hi := s.Last } : Rg) n).bind fun r742 => (some r742))
def ptooMany (s : Ssn) : Option (Bool) := (if (12 : Int) < s.Last then (some true) else (if (3 : Int) < (s.Rules.length : Int) then (some true) else (if (3 : Int) < (s.Fields.length : Int) then (some true) else (some (decide ((6 : Int) < (s.Visits.length : Int)))))))
def peachI1 (x : Int) (passes : Int → Option (Bool)) : Option (Bool) := ((passes x).bind fun r756 => (some (!r756)))
def pindexI_L0 (l : List Int) (p : Int → Option (Bool)) : Nat → Int → Option (Int)
 | 0, _ => none
 | d763 + 1, x2 => (if x2 < (l.length : Int) then ((idx l x2).bind fun x765 => ((p x765).bind fun r767 => (if r767 = true then (some x2) else (gd (fitsP .i64 (x2 + 1)) (pindexI_L0 l p d763 (x2 + 1)))))) else (some (-1 : Int)))
def pindexI (l : List Int) (p : Int → Option (Bool)) : Option (Int) := (pindexI_L0 l p (l.length + 1) (0 : Int))
def pcontainsI (l : List Int) (p : Int → Option (Bool)) : Option (Bool) := ((pindexI l p).bind fun r774 => (some (decide ((0 : Int) ≤ r774))))
def peachI (l : List Int) (passes : Int → Option (Bool)) : Option (Bool) := ((pcontainsI l (fun a788 => peachI1 a788 passes)).bind fun r790 => (some (!r790)))
def peachL1 (x : List Int) (passes : List Int → Option (Bool)) : Option (Bool) := ((passes x).bind fun r795 => (some (!r795)))
def pindexL_L0 (l : List (List Int)) (p : List Int → Option (Bool)) : Nat → Int → Option (Int)
 | 0, _ => none
 | d802 + 1, x2 => (if x2 < (l.length : Int) then ((idx l x2).bind fun v804 => ((p v804).bind fun r809 => (if r809 = true then (some x2) else (gd (fitsP .i64 (x2 + 1)) (pindexL_L0 l p d802 (x2 + 1)))))) else (some (-1 : Int)))
def pindexL (l : List (List Int)) (p : List Int → Option (Bool)) : Option (Int) := (pindexL_L0 l p (l.length + 1) (0 : Int))
def pcontainsL (l : List (List Int)) (p : List Int → Option (Bool)) : Option (Bool) := ((pindexL l p).bind fun r816 => (some (decide ((0 : Int) ≤ r816))))
def peachL (l : List (List Int)) (passes : List Int → Option (Bool)) : Option (Bool) := ((pcontainsL l (fun a830 => peachL1 a830 passes)).bind fun r834 => (some (!r834)))
def peachF1 (x : Fld) (passes : Fld → Option (Bool)) : Option (Bool) := ((passes x).bind fun r844 => (some (!r844)))
def pindexF_L0 (l : List Fld) (p : Fld → Option (Bool)) : Nat → Int → Option (Int)
 | 0, _ => none
 | d852 + 1, x2 => (if x2 < (l.length : Int) then ((idx l x2).bind fun v854 => ((p v854).bind fun r857 => (if r857 = true then (some x2) else (gd (fitsP .i64 (x2 + 1)) (pindexF_L0 l p d852 (x2 + 1)))))) else (some (-1 : Int)))
def pindexF (l : List Fld) (p : Fld → Option (Bool)) : Option (Int) := (pindexF_L0 l p (l.length + 1) (0 : Int))
def pcontainsF (l : List Fld) (p : Fld → Option (Bool)) : Option (Bool) := ((pindexF l p).bind fun r864 => (some (decide ((0 : Int) ≤ r864))))
def peachF (l : List Fld) (passes : Fld → Option (Bool)) : Option (Bool) := ((pcontainsF l (fun a878 => peachF1 a878 passes)).bind fun r880 => (some (!r880)))
def peachV1 (x : Vis) (passes : Vis → Option (Bool)) : Option (Bool) := ((passes x).bind fun r890 => (some (!r890)))
def pindexV_L0 (l : List Vis) (p : Vis → Option (Bool)) : Nat → Int → Option (Int)
 | 0, _ => none
 | d898 + 1, x2 => (if x2 < (l.length : Int) then ((idx l x2).bind fun v900 => ((p v900).bind fun r903 => (if r903 = true then (some x2) else (gd (fitsP .i64 (x2 + 1)) (pindexV_L0 l p d898 (x2 + 1)))))) else (some (-1 : Int)))
def pindexV (l : List Vis) (p : Vis → Option (Bool)) : Option (Int) := (pindexV_L0 l p (l.length + 1) (0 : Int))
def pcontainsV (l : List Vis) (p : Vis → Option (Bool)) : Option (Bool) := ((pindexV l p).bind fun r910 => (some (decide ((0 : Int) ≤ r910))))
def peachV (l : List Vis) (passes : Vis → Option (Bool)) : Option (Bool) := ((pcontainsV l (fun a924 => peachV1 a924 passes)).bind fun r926 => (some (!r926)))
def pvalidRule (s : Ssn) (rule : List Int) : Option (Bool) := (gd (fitsP .i64 (s.Last + (1 : Int))) (if (rule.length : Int) = (s.Last + (1 : Int)) then ((peachI rule (fun a984 => pisHundredths a984)).bind fun r986 => (some r986)) else (some false)))
def pvalidField (s : Ssn) (fl : Fld) : Option (Bool) := (gd (fitsP .i64 ((s.Rules.length : Int) - (1 : Int))) ((phas ({ Lo := (0 : Int), Hi := ((s.Rules.length : Int) - (1 : Int)) } : Rg) fl.Crop).bind fun r1004 => (if r1004 = true then ((pwithin fl.Week (0 : Int) s.Last).bind fun r1012 => (if r1012 = true then ((pwithin fl.Damage (0 : Int) (100 : Int)).bind fun r1020 => (if r1020 = true then ((pwithin fl.Old (0 : Int) (100 : Int)).bind fun r1028 => (some r1028)) else (some false))) else (some false))) else (some false))))
def pvalidVisit (s : Ssn) (v : Vis) : Option (Bool) := ((phasField s v.Field).bind fun r1046 => (if r1046 = true then ((phasWeek s v.Week).bind fun r1054 => (if r1054 = true then ((pwithin v.Seen (0 : Int) (100 : Int)).bind fun r1062 => (some r1062)) else (some false))) else (some false)))
def phasFew (fl : Fld) : Option (Bool) := ((pcount fl.Week).bind fun r1074 => ((pcount fl.Damage).bind fun r1080 => (gd ((0 : Int) ≤ r1074) (gd ((0 : Int) ≤ r1080) (gd (fitsP .i64 (r1074 * r1080)) ((pcount fl.Old).bind fun r1089 => (gd ((0 : Int) ≤ (r1074 * r1080)) (gd ((0 : Int) ≤ r1089) (gd (fitsP .i64 ((r1074 * r1080) * r1089)) (some (decide (((r1074 * r1080) * r1089) ≤ (3000 : Int)))))))))))))
def pvalid (s : Ssn) : Option (Bool) := (if (0 : Int) ≤ s.Last then (if (0 : Int) < (s.Rules.length : Int) then (if (0 : Int) < (s.Fields.length : Int) then ((peachL s.Rules (fun a1140 => pvalidRule s a1140)).bind fun r1144 => (if r1144 = true then ((peachF s.Fields (fun a1151 => pvalidField s a1151)).bind fun r1153 => (if r1153 = true then ((peachV s.Visits (fun a1160 => pvalidVisit s a1160)).bind fun r1162 => (some r1162)) else (some false))) else (some false))) else (some false)) else (some false)) else (some false))
def pcheck (s : Ssn) : Option (Int) := ((ptooMany s).bind fun r1173 => (if r1173 = true then (some (3 : Int)) else ((pvalid s).bind fun r1180 => (if r1180 = true then ((peachF s.Fields (fun a1187 => phasFew a1187)).bind fun r1189 => (if r1189 = true then (some (0 : Int)) else (some (3 : Int)))) else (some (1 : Int))))))
def pgrow_L0 (s : Ssn) (p : Plt) : Nat → Int → Int → Int → Int → Int → Int → Int → Int → Int → Int → Int → Int → Int → Int → Int → Option (Dm)
 | 0, _, _, _, _, _, _, _, _, _, _, _, _, _, _, _ => none
 | d1237 + 1, y1224, y1225, y1226, y1227, y1228, y1229, y1230, y1231, y1232, y1233, y1234, y1235, y1236, x5, x7 => (if x7 < 13 then (if x7 = p.t.Week then (gd (0 ≤ x7 ∧ x7 < 13) (gd (fitsP .i64 (x7 + 1)) (pgrow_L0 s p d1237 (sti x7 0 p.t.Damage y1224) (sti x7 1 p.t.Damage y1225) (sti x7 2 p.t.Damage y1226) (sti x7 3 p.t.Damage y1227) (sti x7 4 p.t.Damage y1228) (sti x7 5 p.t.Damage y1229) (sti x7 6 p.t.Damage y1230) (sti x7 7 p.t.Damage y1231) (sti x7 8 p.t.Damage y1232) (sti x7 9 p.t.Damage y1233) (sti x7 10 p.t.Damage y1234) (sti x7 11 p.t.Damage y1235) (sti x7 12 p.t.Damage y1236) p.t.Damage (x7 + 1)))) else (if x7 ≤ s.Last then ((idx s.Rules p.crop).bind fun v1251 => ((idx v1251 x7).bind fun x1256 => (gd ((0 : Int) ≤ x5) (gd ((0 : Int) ≤ x1256) (gd (fitsP .i64 (x5 * x1256)) (gd ((0 : Int) ≤ (x5 * x1256)) (gd ((0 : Int) < (100 : Int)) (gd (fitsP .i64 ((x5 * x1256) / (100 : Int))) (gd (fitsP .i64 (x5 - ((x5 * x1256) / (100 : Int)))) (gd (0 ≤ x7 ∧ x7 < 13) (gd (fitsP .i64 (x7 + 1)) (pgrow_L0 s p d1237 (sti x7 0 (x5 - ((x5 * x1256) / (100 : Int))) y1224) (sti x7 1 (x5 - ((x5 * x1256) / (100 : Int))) y1225) (sti x7 2 (x5 - ((x5 * x1256) / (100 : Int))) y1226) (sti x7 3 (x5 - ((x5 * x1256) / (100 : Int))) y1227) (sti x7 4 (x5 - ((x5 * x1256) / (100 : Int))) y1228) (sti x7 5 (x5 - ((x5 * x1256) / (100 : Int))) y1229) (sti x7 6 (x5 - ((x5 * x1256) / (100 : Int))) y1230) (sti x7 7 (x5 - ((x5 * x1256) / (100 : Int))) y1231) (sti x7 8 (x5 - ((x5 * x1256) / (100 : Int))) y1232) (sti x7 9 (x5 - ((x5 * x1256) / (100 : Int))) y1233) (sti x7 10 (x5 - ((x5 * x1256) / (100 : Int))) y1234) (sti x7 11 (x5 - ((x5 * x1256) / (100 : Int))) y1235) (sti x7 12 (x5 - ((x5 * x1256) / (100 : Int))) y1236) (x5 - ((x5 * x1256) / (100 : Int))) (x7 + 1))))))))))))) else (gd (0 ≤ x7 ∧ x7 < 13) (gd (fitsP .i64 (x7 + 1)) (pgrow_L0 s p d1237 (sti x7 0 x5 y1224) (sti x7 1 x5 y1225) (sti x7 2 x5 y1226) (sti x7 3 x5 y1227) (sti x7 4 x5 y1228) (sti x7 5 x5 y1229) (sti x7 6 x5 y1230) (sti x7 7 x5 y1231) (sti x7 8 x5 y1232) (sti x7 9 x5 y1233) (sti x7 10 x5 y1234) (sti x7 11 x5 y1235) (sti x7 12 x5 y1236) x5 (x7 + 1)))))) else (some ({ d0 := y1224, d1 := y1225, d2 := y1226, d3 := y1227, d4 := y1228, d5 := y1229, d6 := y1230, d7 := y1231, d8 := y1232, d9 := y1233, d10 := y1234, d11 := y1235, d12 := y1236 } : Dm)))
def pgrow (s : Ssn) (p : Plt) : Option (Dm) := (pgrow_L0 s p (Int.toNat (13 : Int) + 1) (0 : Int) (0 : Int) (0 : Int) (0 : Int) (0 : Int) (0 : Int) (0 : Int) (0 : Int) (0 : Int) (0 : Int) (0 : Int) (0 : Int) (0 : Int) (0 : Int) (0 : Int))
def pharvestD (d : Dm) : Option (Int) := ((idx ([d.d0, d.d1, d.d2, d.d3, d.d4, d.d5, d.d6, d.d7, d.d8, d.d9, d.d10, d.d11, d.d12] : List Int) (12 : Int)).bind fun v1386 => (some v1386))
def pcWeek (c : Crs) : Option (Int) := (some c.t.Week)
def pcDamage (c : Crs) : Option (Int) := (some c.t.Damage)
def pcOld (c : Crs) : Option (Int) := (some c.t.Old)
def pseen (c : Crs) (week : Int) : Option (Int) := ((idx ([c.d.d0, c.d.d1, c.d.d2, c.d.d3, c.d.d4, c.d.d5, c.d.d6, c.d.d7, c.d.d8, c.d.d9, c.d.d10, c.d.d11, c.d.d12] : List Int) week).bind fun v1408 => (gd (fitsP .i64 (c.t.Old + v1408)) (some (min (c.t.Old + v1408) (100 : Int)))))
def pallows1 (v : Vis) (field : Int) (c : Crs) : Option (Bool) := (if v.Field = field then ((pseen c v.Week).bind fun r1457 => ((phas v.Seen r1457).bind fun r1463 => (some r1463))) else (some true))
def pallows (s : Ssn) (field : Int) (c : Crs) : Option (Bool) := ((peachV s.Visits (fun a1498 => pallows1 a1498 field c)).bind fun r1500 => (some r1500))
def pnumbersI_L0 (r : Rg) (r1547 : Int) : Nat → Int → Option (List Int)
 | 0, _ => none
 | d1558 + 1, x6 => (if x6 < r1547 then (gd (fitsP .i64 (r.Lo + x6)) (((gd (fitsP .i64 (x6 + 1)) (pnumbersI_L0 r r1547 d1558 (x6 + 1)))).bind fun r1561 => some ((r.Lo + x6) :: r1561))) else (some []))
def pnumbersI (r : Rg) : Option (List Int) := ((pcount r).bind fun r1547 => (pnumbersI_L0 r r1547 (Int.toNat r1547 + 1) (0 : Int)))
def pnumbers (r : Rg) : Option (List Int) := ((pnumbersI r).bind fun l1584 => (some l1584))
def pplant (fl : Fld) (week : Int) (damage : Int) : Option (Plt) := (some ({ t := ({ Week := week, Damage := damage, Old := (0 : Int) } : Trh), crop := fl.Crop } : Plt))
def popen_L1_xret (s : Ssn) (_w1682 : Option (Plt → Option (Dm))) : Option (Wk) := (some ({ s := ({ Last := (0 : Int), Rules := [], Fields := [], Visits := [] } : Ssn), damages := none } : Wk))
def popen_L2 (s : Ssn) (v1644 : Fld) (a1688 : Int) (K_X1 : (Option (Plt → Option (Dm))) → Option (Wk)) : List Int → (Option (Plt → Option (Dm))) → Option (Wk)
 | [], w1755 => (K_X1 w1755)
 | a1758 :: q1759, w1755 => ((pplant v1644 a1688 a1758).bind fun r1784 => ((pgrow s r1784).bind fun r1823 => (gd (MK.fit r1784) ((mset w1755 r1784 r1823).bind fun w1838 => ((popen_L2 s v1644 a1688 K_X1 q1759) w1838)))))
def popen_L1 (s : Ssn) (x11 : Int) (v1644 : Fld) (K_R10 : (Option (Plt → Option (Dm))) → Int → Option (Wk)) : List Int → (Option (Plt → Option (Dm))) → Option (Wk)
 | [], w1682 => (gd (fitsP .i64 (x11 + 1)) (K_R10 w1682 (x11 + 1)))
 | a1688 :: q1689, w1682 => ((pnumbers v1644.Damage).bind fun r1735 => (popen_L2 s v1644 a1688 ((popen_L1 s x11 v1644 K_R10 q1689)) r1735 w1682))
def popen_L0 (s : Ssn) : Nat → (Option (Plt → Option (Dm))) → Int → Option (Wk)
 | 0, _, _ => none
 | d1642 + 1, w1641, x11 => (if x11 < (s.Fields.length : Int) then ((idx s.Fields x11).bind fun v1644 => ((pnumbers v1644.Week).bind fun r1665 => (popen_L1 s x11 v1644 (popen_L0 s d1642) r1665 w1641))) else (some ({ s := s, damages := w1641 } : Wk)))
def popen (s : Ssn) : Option (Wk) := (popen_L0 s (s.Fields.length + 1) (some fun _ => none : Option (Plt → Option (Dm))) (0 : Int))
def pchoicesI_L0_xret : Option (List Crs) := (some [])
def pchoicesI_L1_xret : Option (List Crs) := (pchoicesI_L0_xret)
def pchoicesI_L2_xret : Option (List Crs) := (pchoicesI_L1_xret)
def pchoicesI_L2 (a1902 : Int) (a1963 : Int) (K_X1 : Option (List Crs)) : List Int → Option (List Crs)
 | [] => (K_X1)
 | a2084 :: q2085 => ((((pchoicesI_L2 a1902 a1963 K_X1 q2085))).bind fun r2110 => some (({ t := ({ Week := a1902, Damage := a1963, Old := a2084 } : Trh), d := ({ d0 := (0 : Int), d1 := (0 : Int), d2 := (0 : Int), d3 := (0 : Int), d4 := (0 : Int), d5 := (0 : Int), d6 := (0 : Int), d7 := (0 : Int), d8 := (0 : Int), d9 := (0 : Int), d10 := (0 : Int), d11 := (0 : Int), d12 := (0 : Int) } : Dm) } : Crs) :: r2110))
def pchoicesI_L3_xret : Option (List Crs) := (pchoicesI_L1_xret)
def pchoicesI_L3 (a1902 : Int) (a1963 : Int) (w2033 : Dm) (K_X1 : Option (List Crs)) : List Int → Option (List Crs)
 | [] => (K_X1)
 | a2191 :: q2192 => ((((pchoicesI_L3 a1902 a1963 w2033 K_X1 q2192))).bind fun r2217 => some (({ t := ({ Week := a1902, Damage := a1963, Old := a2191 } : Trh), d := w2033 } : Crs) :: r2217))
def pchoicesI_L1 (fl : Fld) (w : Wk) (a1902 : Int) (K_X0 : Option (List Crs)) : List Int → Option (List Crs)
 | [] => (K_X0)
 | a1963 :: q1964 => ((pplant fl a1902 a1963).bind fun r2019 => (gd (MK.fit r2019) (mcase (mget w.damages r2019) ((pnumbers fl.Old).bind fun r2055 => (pchoicesI_L2 a1902 a1963 ((pchoicesI_L1 fl w a1902 K_X0 q1964)) r2055)) fun w2033 => ((pnumbers fl.Old).bind fun r2162 => (pchoicesI_L3 a1902 a1963 w2033 ((pchoicesI_L1 fl w a1902 K_X0 q1964)) r2162)))))
def pchoicesI_L0 (fl : Fld) (w : Wk) : List Int → Option (List Crs)
 | [] => (some [])
 | a1902 :: q1903 => ((pnumbers fl.Damage).bind fun r1940 => (pchoicesI_L1 fl w a1902 ((pchoicesI_L0 fl w q1903)) r1940))
def pchoicesI (fl : Fld) (w : Wk) : Option (List Crs) := ((pnumbers fl.Week).bind fun r1883 => (pchoicesI_L0 fl w r1883))
def pchoices (w : Wk) (fl : Fld) : Option (List Crs) := ((pchoicesI fl w).bind fun l2276 => (some l2276))
def ptruthsI_L0_xret : Option (List Crs) := (some [])
def ptruthsI_L0 (w : Wk) (field : Int) : List Crs → Option (List Crs)
 | [] => (some [])
 | a2307 :: q2308 => ((pallows w.s field a2307).bind fun r2345 => (if r2345 = true then ((((ptruthsI_L0 w field q2308))).bind fun r2355 => some (a2307 :: r2355)) else ((ptruthsI_L0 w field q2308))))
def ptruthsI (w : Wk) (field : Int) : Option (List Crs) := ((idx w.s.Fields field).bind fun v2285 => ((pchoices w v2285).bind fun r2288 => (ptruthsI_L0 w field r2288)))
def ptruths (w : Wk) (field : Int) : Option (List Crs) := ((ptruthsI w field).bind fun l2398 => (some l2398))
def phasTruthOf_L0_xret (y2423 : Bool) : Option (Bool) := (some y2423)
def phasTruthOf_L0 : List Crs → Bool → Option (Bool)
 | [], y2423 => (some false)
 | _ :: _, y2423 => (phasTruthOf_L0_xret true)
def phasTruthOf (w : Wk) (field : Int) : Option (Bool) := ((ptruths w field).bind fun r2412 => (phasTruthOf_L0 r2412 false))
def phasTruth_L0 (w : Wk) : Nat → Int → Option (Bool)
 | 0, _ => none
 | d2474 + 1, x4 => (if x4 < (w.s.Fields.length : Int) then ((phasTruthOf w x4).bind fun r2476 => (if r2476 = true then (gd (fitsP .i64 (x4 + 1)) (phasTruth_L0 w d2474 (x4 + 1))) else (some false))) else (some true))
def phasTruth (w : Wk) : Option (Bool) := (phasTruth_L0 w (w.s.Fields.length + 1) (0 : Int))
def pwth (w : Wk) (visits : List Vis) : Option (Wk) := (some ({ s := ({ Last := w.s.Last, Rules := w.s.Rules, Fields := w.s.Fields, Visits := visits } : Ssn), damages := w.damages } : Wk))
def popenTrue (s : Ssn) : Option (Wk × Int) := ((pcheck s).bind fun r2518 => (if r2518 = 0 then ((popen s).bind fun r2532 => ((phasTruth r2532).bind fun r2562 => (if r2562 = true then (some (r2532, (0 : Int))) else (some (({ s := ({ Last := (0 : Int), Rules := [], Fields := [], Visits := [] } : Ssn), damages := none } : Wk), (11 : Int)))))) else (some (({ s := ({ Last := (0 : Int), Rules := [], Fields := [], Visits := [] } : Ssn), damages := none } : Wk), r2518))))
def popenAsked (s : Ssn) (field : Int) (known : Bool) : Option (Wk × Int) := ((pcheck s).bind fun r2596 => (if r2596 = 0 then ((phasField s field).bind fun r2610 => (if r2610 = true then (if known = true then ((popenTrue s).bind fun r2631 => (some (r2631.1, r2631.2))) else (some (({ s := ({ Last := (0 : Int), Rules := [], Fields := [], Visits := [] } : Ssn), damages := none } : Wk), (2 : Int)))) else (some (({ s := ({ Last := (0 : Int), Rules := [], Fields := [], Visits := [] } : Ssn), damages := none } : Wk), (2 : Int))))) else (some (({ s := ({ Last := (0 : Int), Rules := [], Fields := [], Visits := [] } : Ssn), damages := none } : Wk), r2596))))
def pminimum_L0 (l : List Int) : Nat → Int → Int → Option (Int)
 | 0, _, _ => none
 | d2673 + 1, x3, x4 => (if x4 < (l.length : Int) then ((idx l x4).bind fun x2675 => (if x2675 < x3 then (gd (fitsP .i64 (x4 + 1)) (pminimum_L0 l d2673 x2675 (x4 + 1))) else (gd (fitsP .i64 (x4 + 1)) (pminimum_L0 l d2673 x3 (x4 + 1))))) else (some x3))
def pminimum (l : List Int) : Option (Int) := (if (l.length : Int) = (0 : Int) then (some (0 : Int)) else ((idx l (0 : Int)).bind fun x2669 => (pminimum_L0 l (l.length + 1) x2669 (0 : Int))))
def psMax_L0 (l : List Int) : Nat → Int → Int → Option (Int)
 | 0, _, _ => none
 | d2685 + 1, x3, x4 => (if x4 < (l.length : Int) then ((idx l x4).bind fun x2687 => (gd (fitsP .i64 (x4 + 1)) (psMax_L0 l d2685 (max x3 x2687) (x4 + 1)))) else (some x3))
def psMax (l : List Int) : Option (Int) := (if (l.length : Int) < (1 : Int) then none else ((idx l (0 : Int)).bind fun x2681 => (psMax_L0 l (((l.length : Int) - (1 : Int)).toNat + 1) x2681 (1 : Int))))
def pspan_L0 (q : Qn) : List Crs → (List Int) → Option (Rg)
 | [], y2731 => ((pminimum y2731).bind fun r2827 => ((psMax y2731).bind fun r2837 => (some ({ Lo := r2827, Hi := r2837 } : Rg))))
 | a2735 :: q2736, y2731 => ((q.number a2735).bind fun r2779 => (gd (y2731.length < 1048576) ((pspan_L0 q q2736) (y2731 ++ [r2779]))))
def pspan (w : Wk) (field : Int) (q : Qn) : Option (Rg) := ((ptruths w field).bind fun r2716 => (pspan_L0 q r2716 []))
def pbound (w : Wk) (field : Int) : Option (Bnd) := ((pspan w field ({ number := (fun a2867 => pcWeek a2867) } : Qn)).bind fun r2869 => ((pspan w field ({ number := (fun a2876 => pcDamage a2876) } : Qn)).bind fun r2878 => ((pspan w field ({ number := (fun a2885 => pcOld a2885) } : Qn)).bind fun r2887 => ((pspan w field ({ number := (fun a2894 => pharvestD a2894.d) } : Qn)).bind fun r2896 => (some ({ Week := r2869, Damage := r2878, Old := r2887, Harvest := r2896 } : Bnd))))))
def pBounds_L0 (r2914 : Wk × Int) : Nat → (List Bnd) → Int → Option (List Bnd × Int)
 | 0, _, _ => none
 | d2946 + 1, l2944, x18 => (if x18 < (r2914.1.s.Fields.length : Int) then ((pbound r2914.1 x18).bind fun r2948 => (gd (l2944.length < 1048576) (gd (fitsP .i64 (x18 + 1)) (pBounds_L0 r2914 d2946 (l2944 ++ [r2948]) (x18 + 1))))) else (some (l2944, (0 : Int))))
def pBounds (s : Ssn) : Option (List Bnd × Int) := ((popenTrue s).bind fun r2914 => (if r2914.2 = (0 : Int) then (pBounds_L0 r2914 (r2914.1.s.Fields.length + 1) [] (0 : Int)) else (some ([], r2914.2))))
def pseen1 (c : Crs) (week : Int) : Option (Int) := ((pseen c week).bind fun r2978 => (some r2978))
def pSeen (s : Ssn) (field : Int) (week : Int) : Option (Rg × Int) := ((phasWeek s week).bind fun r3011 => ((popenAsked s field r3011).bind fun r3020 => (if r3020.2 = (0 : Int) then ((pspan r3020.1 field ({ number := (fun a3069 => pseen1 a3069 week) } : Qn)).bind fun r3071 => (some (r3071, (0 : Int)))) else (some (({ Lo := (0 : Int), Hi := (0 : Int) } : Rg), r3020.2)))))
def pappendSeq_L0 : List Crs → (List Crs) → Option (List Crs)
 | [], y3091 => (some y3091)
 | a3095 :: q3096, y3091 => (gd (y3091.length < 1048576) ((pappendSeq_L0 q3096) (y3091 ++ [a3095])))
def pappendSeq (seq : List Crs) : Option (List Crs) := (pappendSeq_L0 seq [])
def pcollect (seq : List Crs) : Option (List Crs) := ((pappendSeq seq).bind fun r3158 => (some r3158))
def pdecides_L0 (all : List Crs) (week : Int) (limit : Int) : Nat → (Option (Int → Option (Bool))) → Int → Option (Bool)
 | 0, _, _ => none
 | d3761 + 1, w3760, x3 => (if x3 < (all.length : Int) then ((idx all x3).bind fun v3763 => ((pharvestD v3763.d).bind fun r3778 => ((pseen v3763 week).bind fun r3785 => (gd (MK.fit r3785) (mcase (mget w3760 r3785) ((pseen v3763 week).bind fun r3795 => (gd (MK.fit r3795) ((mset w3760 r3795 (decide (limit < r3778))).bind fun w3803 => (gd (fitsP .i64 (x3 + 1)) (pdecides_L0 all week limit d3761 w3803 (x3 + 1)))))) fun w3794 => (if (w3794 == (decide (limit < r3778))) = true then ((pseen v3763 week).bind fun r3813 => (gd (MK.fit r3813) ((mset w3760 r3813 (decide (limit < r3778))).bind fun w3821 => (gd (fitsP .i64 (x3 + 1)) (pdecides_L0 all week limit d3761 w3821 (x3 + 1)))))) else (some false))))))) else (some true))
def pdecides (all : List Crs) (week : Int) (limit : Int) : Option (Bool) := (pdecides_L0 all week limit (all.length + 1) (some fun _ => none : Option (Int → Option (Bool))) (0 : Int))
def pDecides_L0 (s : Ssn) (limit : Int) (r3887 : List Crs) : Nat → (List Int) → Int → Option (List Int × Int)
 | 0, _, _ => none
 | d3902 + 1, l3900, x33 => (if x33 < (s.Last + (1 : Int)) then ((pdecides r3887 x33 limit).bind fun r3904 => (if r3904 = true then (gd (l3900.length < 1048576) (gd (fitsP .i64 (x33 + 1)) (pDecides_L0 s limit r3887 d3902 (l3900 ++ [x33]) (x33 + 1)))) else (gd (fitsP .i64 (x33 + 1)) (pDecides_L0 s limit r3887 d3902 l3900 (x33 + 1))))) else (some (l3900, (0 : Int))))
def pDecides (s : Ssn) (field : Int) (limit : Int) : Option (List Int × Int) := ((pisHundredths limit).bind fun r3842 => ((popenAsked s field r3842).bind fun r3849 => (if r3849.2 = (0 : Int) then ((ptruths r3849.1 field).bind fun r3877 => ((pcollect r3877).bind fun r3887 => (gd (fitsP .i64 (s.Last + (1 : Int))) (pDecides_L0 s limit r3887 (Int.toNat (s.Last + (1 : Int)) + 1) [] (0 : Int))))) else (some ([], r3849.2)))))
def pFirst_L0 (s : Ssn) (r3943 : Wk) : Nat → Int → Option (Int × Int)
 | 0, _ => none
 | d3973 + 1, x25 => (if x25 < (s.Visits.length : Int) then (gd (fitsP .i64 (x25 + 1)) (gd (0 ≤ (0 : Int) ∧ (0 : Int) ≤ (x25 + 1) ∧ (x25 + 1) ≤ (s.Visits.length : Int)) ((pwth r3943 ((s.Visits.take (Int.toNat (x25 + 1))).drop (Int.toNat (0 : Int)))).bind fun r3980 => ((phasTruth r3980).bind fun r3996 => (if r3996 = true then (gd (fitsP .i64 (x25 + 1)) (pFirst_L0 s r3943 d3973 (x25 + 1))) else (some (x25, (0 : Int)))))))) else (some ((0 : Int), (7 : Int))))
def pFirst (s : Ssn) : Option (Int × Int) := ((pcheck s).bind fun r3936 => (if r3936 = 0 then ((popen s).bind fun r3943 => (pFirst_L0 s r3943 (s.Visits.length + 1) (0 : Int))) else (some ((0 : Int), r3936))))
def pGrowthFirst (s : Ssn) : Option (Bool) := ((plReady s).bind fun r4139 => (if r4139 = true then ((plSeason s).bind fun r4152 => ((pFirst r4152).bind fun r4165 => (if r4165.2 = (0 : Int) then (gd (fitsP .i64 ((s.Visits.length : Int) - (1 : Int))) ((prIn r4165.1 (0 : Int) ((s.Visits.length : Int) - (1 : Int))).bind fun r4203 => (if r4203 = true then (gd ((0 : Int) ≤ (1 : Int)) (gd ((0 : Int) ≤ (wrapZ .u64 r4165.1)) (gd ((wrapZ .u64 r4165.1) ≤ (64 : Int)) (gd (fitsP .i64 ((1 : Int) * ((2 : Int) ^ (Int.toNat (wrapZ .u64 r4165.1))))) (gd (fitsP .i64 (((1 : Int) * ((2 : Int) ^ (Int.toNat (wrapZ .u64 r4165.1)))) - (1 : Int))) ((plSome s (((1 : Int) * ((2 : Int) ^ (Int.toNat (wrapZ .u64 r4165.1)))) - (1 : Int))).bind fun r4215 => ((plSeason r4215).bind fun r4228 => ((pBounds r4228).bind fun r4241 => (gd ((0 : Int) ≤ (2 : Int)) (gd ((0 : Int) ≤ (wrapZ .u64 r4165.1)) (gd ((wrapZ .u64 r4165.1) ≤ (64 : Int)) (gd (fitsP .i64 ((2 : Int) * ((2 : Int) ^ (Int.toNat (wrapZ .u64 r4165.1))))) (gd (fitsP .i64 (((2 : Int) * ((2 : Int) ^ (Int.toNat (wrapZ .u64 r4165.1)))) - (1 : Int))) ((plSome s (((2 : Int) * ((2 : Int) ^ (Int.toNat (wrapZ .u64 r4165.1)))) - (1 : Int))).bind fun r4255 => ((plSeason r4255).bind fun r4268 => ((pBounds r4268).bind fun r4281 => (if r4241.2 = (0 : Int) then (if r4281.2 = (11 : Int) then ((pawake).bind fun r4292 => (some r4292)) else (some false)) else (some false)))))))))))))))))) else (some false)))) else ((plSeason s).bind fun r4172 => ((pBounds r4172).bind fun r4185 => (if r4165.2 = (7 : Int) then (if r4185.2 = (0 : Int) then ((pawake).bind fun r4196 => (some r4196)) else (some false)) else (some false))))))) else ((pawake).bind fun r4146 => (some r4146))))
def pGrowthApart_L0 (s : Ssn) (which : Int) (week : Int) (limit : Int) : Nat → Int → (List Vis) → Int → Option (Bool)
 | 0, _, _, _ => none
 | d5025 + 1, y5021, y5022, x21 => (if x21 < (s.Visits.length : Int) then ((idx s.Visits x21).bind fun v5027 => (if v5027.Field = ((wrapZ .i64 which) % (s.Fields.length : Int)) then ((idx s.Visits x21).bind fun v5031 => (gd (y5022.length < 1048576) (gd (fitsP .i64 (x21 + 1)) (pGrowthApart_L0 s which week limit d5025 y5021 (y5022 ++ [v5031]) (x21 + 1))))) else (gd (fitsP .i64 (x21 + 1)) (pGrowthApart_L0 s which week limit d5025 y5021 y5022 (x21 + 1))))) else ((plSeason s).bind fun r5053 => ((pBounds r5053).bind fun r5067 => ((plSeason ({ Last := y5021, Rules := s.Rules, Fields := s.Fields, Visits := y5022 } : Ssn)).bind fun r5083 => ((pBounds r5083).bind fun r5098 => (if r5067.2 = (0 : Int) then ((plSeason s).bind fun r5119 => ((pSeen r5119 ((wrapZ .i64 which) % (s.Fields.length : Int)) ((wrapZ .i64 week) % (s.Last + (1 : Int)))).bind fun r5134 => ((plSeason ({ Last := y5021, Rules := s.Rules, Fields := s.Fields, Visits := y5022 } : Ssn)).bind fun r5158 => ((pSeen r5158 ((wrapZ .i64 which) % (s.Fields.length : Int)) ((wrapZ .i64 week) % (s.Last + (1 : Int)))).bind fun r5174 => ((plSeason s).bind fun r5201 => ((pDecides r5201 ((wrapZ .i64 which) % (s.Fields.length : Int)) ((wrapZ .i64 limit) % (101 : Int))).bind fun r5218 => ((plSeason ({ Last := y5021, Rules := s.Rules, Fields := s.Fields, Visits := y5022 } : Ssn)).bind fun r5231 => ((pDecides r5231 ((wrapZ .i64 which) % (s.Fields.length : Int)) ((wrapZ .i64 limit) % (101 : Int))).bind fun r5248 => (if r5098.2 = (0 : Int) then (if (r5067.1.length : Int) = (s.Fields.length : Int) then (if (r5098.1.length : Int) = (r5067.1.length : Int) then ((idx r5067.1 ((wrapZ .i64 which) % (s.Fields.length : Int))).bind fun v5264 => ((idx r5098.1 ((wrapZ .i64 which) % (s.Fields.length : Int))).bind fun v5267 => (gd (fitsP .i64 v5264.Week.Lo) (gd (fitsP .i64 v5267.Week.Lo) (gd (fitsP .i64 v5264.Week.Hi) (gd (fitsP .i64 v5267.Week.Hi) (gd (fitsP .i64 v5264.Damage.Lo) (gd (fitsP .i64 v5267.Damage.Lo) (gd (fitsP .i64 v5264.Damage.Hi) (gd (fitsP .i64 v5267.Damage.Hi) (gd (fitsP .i64 v5264.Old.Lo) (gd (fitsP .i64 v5267.Old.Lo) (gd (fitsP .i64 v5264.Old.Hi) (gd (fitsP .i64 v5267.Old.Hi) (gd (fitsP .i64 v5264.Harvest.Lo) (gd (fitsP .i64 v5267.Harvest.Lo) (gd (fitsP .i64 v5264.Harvest.Hi) (gd (fitsP .i64 v5267.Harvest.Hi) (if ((decide (v5264.Week.Lo = v5267.Week.Lo)) && ((decide (v5264.Week.Hi = v5267.Week.Hi)) && ((decide (v5264.Damage.Lo = v5267.Damage.Lo)) && ((decide (v5264.Damage.Hi = v5267.Damage.Hi)) && ((decide (v5264.Old.Lo = v5267.Old.Lo)) && ((decide (v5264.Old.Hi = v5267.Old.Hi)) && ((decide (v5264.Harvest.Lo = v5267.Harvest.Lo)) && (decide (v5264.Harvest.Hi = v5267.Harvest.Hi))))))))) = true then (if r5134.2 = (0 : Int) then (if r5174.2 = (0 : Int) then (gd (fitsP .i64 r5134.1.Lo) (gd (fitsP .i64 r5174.1.Lo) (gd (fitsP .i64 r5134.1.Hi) (gd (fitsP .i64 r5174.1.Hi) (if ((decide (r5134.1.Lo = r5174.1.Lo)) && (decide (r5134.1.Hi = r5174.1.Hi))) = true then (if r5218.2 = (0 : Int) then (if r5248.2 = (0 : Int) then ((plInts r5218.1 r5248.1).bind fun r5296 => (if r5296 = true then ((pawake).bind fun r5307 => (some r5307)) else (some false))) else (some false)) else (some false)) else (some false)))))) else (some false)) else (some false)) else (some false)))))))))))))))))))) else (some false)) else (some false)) else (some false)))))))))) else (if r5067.2 = (11 : Int) then ((pawake).bind fun r5111 => (some r5111)) else (some false))))))))
def pGrowthApart (s : Ssn) (which : Int) (week : Int) (limit : Int) : Option (Bool) := ((plReady s).bind fun r4977 => (if r4977 = true then (gd ((0 : Int) ≤ (wrapZ .i64 which)) (gd ((0 : Int) < (s.Fields.length : Int)) (gd (fitsP .i64 ((wrapZ .i64 which) % (s.Fields.length : Int))) (gd (fitsP .i64 (s.Last + (1 : Int))) (gd ((0 : Int) ≤ (wrapZ .i64 week)) (gd ((0 : Int) < (s.Last + (1 : Int))) (gd (fitsP .i64 ((wrapZ .i64 week) % (s.Last + (1 : Int)))) (gd ((0 : Int) ≤ (wrapZ .i64 limit)) (gd ((0 : Int) < (101 : Int)) (gd (fitsP .i64 ((wrapZ .i64 limit) % (101 : Int))) (pGrowthApart_L0 s which week limit 1000000 s.Last [] (0 : Int)))))))))))) else ((pawake).bind fun r4984 => (some r4984))))
end
end Go.Proofs.Ytmlaphekbnanjaa

namespace Go.Proofs.Ytmlaphekbnanjaa
open _root_.Go.Proofs.Try
open Go.Abs
set_option maxRecDepth 100000
noncomputable section
theorem c113 {a100 : Int} {b0 : Nat} {m : M} {Q : V → M → Prop} (h :
 (∃ c0 : C, ((ldC m (C.ptr b0 0)) = (some c0)) ∧ callP prog tbl [(V.c (Il a100))] c0 m (fun v1 m2 => 
 ∃ b3 : Bool, (v1 = (V.c (C.bool b3))) ∧ Q (V.c (C.bool (!b3))) m2))) : Wc prog tbl 113 [.c (Il a100), .c (.ptr b0 0)] m Q :=
 wc_eq (n := 2) rfl (by kernel_rfl) (by kernel_rfl) h
theorem c105 {a100 : C} {b0 : Nat} {m : M} {Q : V → M → Prop} (h :
 (∃ c0 : C, ((ldC m (C.ptr b0 0)) = (some c0)) ∧ callP prog tbl [(V.c a100)] c0 m (fun v1 m2 => ∃ b3 : Bool, 
 (v1 = (V.c (C.bool b3))) ∧ Q (V.c (C.bool (!b3))) m2))) : Wc prog tbl 105 [.c (a100), .c (.ptr b0 0)] m Q :=
 wc_eq (n := 2) rfl (by kernel_rfl) (by kernel_rfl) h
theorem c92 {a100 : Int} {a101 : Int} {a102 : Int} {a103 : Int} {a104 : Int} {a105 : Int} {a106 : Int} {b0 : Nat} {m : M} {Q : V → M → Prop} (h :
 (∀ m0 : M, (m0 = (M.new m (AO.cells 7 [(Il a100), (Il a101), (Il a102), 
 (Il a103), (Il a104), (Il a105), (Il a106)] false))) → 
 ∃ c1 : C, ((ldC m0 (C.ptr b0 0)) = (some c1)) ∧ ∃ x2, ∃ x3, ∃ x4, ∃ x5, 
 ∃ x6, ∃ x7, ∃ x8, ((ldA m0 (C.ptr m.nxt 0) 7) = (some [(Il x2), 
 (Il x3), (Il x4), (Il x5), (Il x6), 
 (Il x7), (Il x8)])) ∧ callP prog tbl [(V.agg 7 [(Il x2), 
 (Il x3), (Il x4), (Il x5), (Il x6), 
 (Il x7), (Il x8)])] c1 m0 (fun v9 m10 => ∃ b11 : Bool, (v9 = (V.c (C.bool b11))) ∧ 
 Q (V.c (C.bool (!b11))) m10))) : Wc prog tbl 92 [.agg 7 [Il a100, Il a101, Il a102, Il a103, Il a104, Il a105, Il a106], .c (.ptr b0 0)] m Q :=
 wc_eq (n := 2) rfl (by kernel_rfl) (by kernel_rfl) h
theorem c103 {a100 : Int} {a101 : Int} {a102 : Int} {a103 : Int} {b0 : Nat} {m : M} {Q : V → M → Prop} (h :
 (∀ m0 : M, (m0 = (M.new m (AO.cells 4 [(Il a100), (Il a101), (Il a102), 
 (Il a103)] false))) → ∃ c1 : C, ((ldC m0 (C.ptr b0 0)) = (some c1)) ∧ ∃ x2, 
 ∃ x3, ∃ x4, ∃ x5, ((ldA m0 (C.ptr m.nxt 0) 4) = (some [(Il x2), 
 (Il x3), (Il x4), (Il x5)])) ∧ callP prog tbl [(V.agg 4 [(Il x2), 
 (Il x3), (Il x4), (Il x5)])] c1 m0 (fun v6 m7 => 
 ∃ b8 : Bool, (v6 = (V.c (C.bool b8))) ∧ Q (V.c (C.bool (!b8))) m7))) : Wc prog tbl 103 [.agg 4 [Il a100, Il a101, Il a102, Il a103], .c (.ptr b0 0)] m Q :=
 wc_eq (n := 2) rfl (by kernel_rfl) (by kernel_rfl) h
theorem c82 {a100 : Int} {a101 : Int} {a102 : Int} {a103 : Int} {b0 : Nat} {b1 : Nat} {m : M} {Q : V → M → Prop} (h :
 (∀ m0 : M, (m0 = (M.new m (AO.cells 4 [(Il a100), (Il a101), (Il a102), 
 (Il a103)] false))) → isPt (C.ptr m.nxt 0) ∧ ∃ x1, ((ldC m0 (C.ptr m.nxt 0)) = (some (Il x1))) ∧ 
 ∃ x2, ((ldC m0 (C.ptr b0 0)) = (some (Il x2))) ∧ ifB (!decide (x1 = x2)) (Q (V.c (C.bool true)) m0) (isPt (C.ptr m.nxt 0) ∧ 
 ∃ x3, ∃ x4, ((ldA m0 (C.ptr m.nxt 2) 2) = (some [(Il x3), (Il x4)])) ∧ 
 ∃ x5, ∃ x6, ∃ x7, ∃ x8, ∃ x9, ∃ x10, ∃ x11, ∃ x12, 
 ∃ x13, ∃ x14, ∃ x15, ∃ x16, ∃ x17, ∃ x18, ∃ x19, 
 ∃ x20, ((ldA m0 (C.ptr b1 0) 16) = (some [(Il x5), 
 (Il x6), (Il x7), (Il x8), (Il x9), 
 (Il x10), (Il x11), (Il x12), (Il x13), 
 (Il x14), (Il x15), (Il x16), (Il x17), 
 (Il x18), (Il x19), (Il x20)])) ∧ 
 isPt (C.ptr m.nxt 0) ∧ ∃ x21, ((ldC m0 (C.ptr m.nxt 1)) = (some (Il x21))) ∧ 
 Wc prog tbl 32 [(V.agg 16 [(Il x5), (Il x6), (Il x7), 
 (Il x8), (Il x9), (Il x10), (Il x11), 
 (Il x12), (Il x13), (Il x14), (Il x15), 
 (Il x16), (Il x17), (Il x18), (Il x19), 
 (Il x20)]), (V.c (Il x21))] m0 (fun v22 m23 => 
 ∃ x24, (v22 = (V.c (Il x24))) ∧ ((ldA m23 (C.ptr m.nxt 2) 2) = (some [(Il x3), 
 (Il x4)])) ∧ Wc prog tbl 65 [(V.agg 2 [(Il x3), 
 (Il x4)]), (V.c (Il x24))] m23 (fun v25 m26 => 
 ∃ b27 : Bool, (v25 = (V.c (C.bool b27))) ∧ Q (V.c (C.bool b27)) m26))))) : Wc prog tbl 82 [.agg 4 [Il a100, Il a101, Il a102, Il a103], .c (.ptr b0 0), .c (.ptr b1 0)] m Q :=
 wc_eq (n := 3) rfl (by kernel_rfl) (by kernel_rfl) h
theorem c100 {a100 : C} {b0 : Nat} {m : M} {Q : V → M → Prop} (h :
 (∃ x0, ∃ x1, ((ldA m (C.ptr b0 0) 2) = (some [(Il x0), (Il x1)])) ∧ 
 Wc prog tbl 93 [(V.agg 2 [(Il x0), (Il x1)])] m (fun v2 m3 => ∃ x4, 
 (v2 = (V.c (Il x4))) ∧ ∀ R5 : List V → M → Prop, (∀ x6 : Int, ∀ m7 : M, (ifB (decide (x6 < x4)) (isPt (C.ptr b0 0) ∧ 
 ∃ x8, ((ldC m7 (C.ptr b0 0)) = (some (Il x8))) ∧ fitsP .i64 (x8 + x6) ∧ 
 callP prog tbl [(V.c (Il (x8 + x6)))] a100 m7 (fun v9 m10 => ∃ b11 : Bool, 
 (v9 = (V.c (C.bool b11))) ∧ ifB (!b11) (Q (V.tup []) m10) (fitsP .i64 (x6 + 1) ∧ 
 R5 [(V.c (Il (x6 + 1)))] m10))) (Q (V.tup []) m7)) → 
 R5 [(V.c (Il x6))] m7) → R5 [(V.c (Il 0))] m3))) : Wc prog tbl 100 [.c (a100), .c (.ptr b0 0)] m Q :=
 wc_eq (n := 2) rfl (by kernel_rfl) (by kernel_rfl) h
theorem c97 {a100 : C} {b0 : Nat} {b1 : Nat} {m : M} {Q : V → M → Prop} (h :
 (∀ m0 : M, (m0 = (M.new m (AO.cells 1 [a100] false))) → isPt (C.ptr b0 0) ∧ ∃ x1, ∃ x2, ((ldA m0 (C.ptr b0 1) 2) = (some [(Il x1), 
 (Il x2)])) ∧ Wc prog tbl 76 [(V.agg 2 [(Il x1), (Il x2)])] m0 (fun v3 m4 => 
 ∃ c5 : C, (v3 = (V.c c5)) ∧ rangeP prog tbl c5 m4 (fun l6 m7 R8 R9 => ∃ x10, (l6 = [(V.c (Il x10))]) ∧ 
 ∀ m11 : M, (m11 = (M.new m7 (AO.cells 1 [(Il 0)] false))) → ∃ m12 : M, 
 ((stC m11 (C.ptr m7.nxt 0) 1 [(Il x10)]) = (some m12)) ∧ R8 m12 (fun m13 => 
 isPt (C.ptr b0 0) ∧ ∃ x14, ∃ x15, ((ldA m13 (C.ptr b0 3) 2) = (some [(Il x14), 
 (Il x15)])) ∧ Wc prog tbl 76 [(V.agg 2 [(Il x14), 
 (Il x15)])] m13 (fun v16 m17 => ∃ c18 : C, (v16 = (V.c c18)) ∧ 
 rangeP prog tbl c18 m17 (fun l19 m20 R21 R22 => ∃ x23, (l19 = [(V.c (Il x23))]) ∧ 
 ∀ m24 : M, (m24 = (M.new m20 (AO.cells 1 [(Il 0)] false))) → 
 ∃ m25 : M, ((stC m24 (C.ptr m20.nxt 0) 1 [(Il x23)]) = (some m25)) ∧ 
 R21 m25 (fun m26 => ∀ m27 : M, (m27 = (mGrow m26 1)) → isPt (C.ptr b1 0) ∧ 
 ∃ c28 : C, ((ldC m27 (C.ptr b1 4)) = (some c28)) ∧ ∃ x29, ∃ x30, 
 ∃ x31, ∃ x32, ∃ x33, ∃ x34, ∃ x35, ((ldA m27 (C.ptr b0 0) 7) = (some [(Il x29), 
 (Il x30), (Il x31), (Il x32), (Il x33), 
 (Il x34), (Il x35)])) ∧ ∃ x36, ((ldC m27 (C.ptr m7.nxt 0)) = (some (Il x36))) ∧ 
 ∃ x37, ((ldC m27 (C.ptr m20.nxt 0)) = (some (Il x37))) ∧ 
 Wc prog tbl 77 [(V.agg 7 [(Il x29), (Il x30), 
 (Il x31), (Il x32), (Il x33), (Il x34), 
 (Il x35)]), (V.c (Il x36)), (V.c (Il x37))] m27 (fun v38 m39 => 
 ∃ x40, ∃ x41, ∃ x42, ∃ x43, (v38 = (V.agg 4 [(Il x40), 
 (Il x41), (Il x42), (Il x43)])) ∧ 
 (ifB (cmC c28) ((ldC m39 (C.ptr b1 4)) = (some c28)) False) ∧ ∃ y44 : Option U, 
 ((lkM prog 138 m39 c28 (V.agg 4 [(Il x40), (Il x41), 
 (Il x42), (Il x43)])) = (some y44)) ∧ ((y44 = Option.none) → 
 ∀ m45 : M, (m45 = (M.set m39 (m26.nxt + 0) (AO.cells 13 [(Il 0), 
 (Il 0), (Il 0), (Il 0), 
 (Il 0), (Il 0), (Il 0), 
 (Il 0), (Il 0), (Il 0), 
 (Il 0), (Il 0), (Il 0)] false))) → 
 (∃ y46 : Option U, ((lkM prog 138 m45 c28 (V.agg 4 [(Il x40), 
 (Il x41), (Il x42), (Il x43)])) = (some y46)) ∧ 
 (optB y46 ((some (V.agg 13 [(Il 0), (Il 0), 
 (Il 0), (Il 0), (Il 0), 
 (Il 0), (Il 0), (Il 0), 
 (Il 0), (Il 0), (Il 0), 
 (Il 0), (Il 0)])) = (some (V.agg 13 [(Il 0), 
 (Il 0), (Il 0), (Il 0), 
 (Il 0), (Il 0), (Il 0), 
 (Il 0), (Il 0), (Il 0), 
 (Il 0), (Il 0), (Il 0)]))) fun u47 => 
 (some (uV u47)) = (some (V.agg 13 [(Il 0), 
 (Il 0), (Il 0), (Il 0), 
 (Il 0), (Il 0), (Il 0), 
 (Il 0), (Il 0), (Il 0), 
 (Il 0), (Il 0), (Il 0)]))) ∧ 
 true = true) ∧ ((ldC m45 (C.ptr m20.nxt 0)) = (some (Il x37))) ∧ 
 ((ldC m45 (C.ptr m7.nxt 0)) = (some (Il x36))) ∧ ((ldA m45 (C.ptr b0 0) 7) = (some [(Il x29), 
 (Il x30), (Il x31), (Il x32), (Il x33), 
 (Il x34), (Il x35)])) ∧ (ifB (cmC c28) ((ldC m45 (C.ptr b1 4)) = (some c28)) False) ∧ 
 ∃ m48 : M, ((stC m45 (C.ptr (m26.nxt + 0) 0) 13 [(Il 0), 
 (Il 0), (Il 0), (Il 0), 
 (Il 0), (Il 0), (Il 0), 
 (Il 0), (Il 0), (Il 0), 
 (Il 0), (Il 0), (Il 0)]) = (some m48)) ∧ 
 isPt (C.ptr b0 0) ∧ ∃ x49, ∃ x50, ((ldA m48 (C.ptr b0 5) 2) = (some [(Il x49), 
 (Il x50)])) ∧ Wc prog tbl 76 [(V.agg 2 [(Il x49), 
 (Il x50)])] m48 (fun v51 m52 => ∃ c53 : C, (v51 = (V.c c53)) ∧ 
 rangeP prog tbl c53 m52 (fun l54 m55 R56 R57 => ∃ x58, (l54 = [(V.c (Il x58))]) ∧ 
 R56 m55 (fun m59 => ∃ c60 : C, ((ldC m59 (C.ptr m.nxt 0)) = (some c60)) ∧ 
 ∃ x61, ((ldC m59 (C.ptr m7.nxt 0)) = (some (Il x61))) ∧ 
 ∃ x62, ((ldC m59 (C.ptr m20.nxt 0)) = (some (Il x62))) ∧ 
 ∃ x63, ∃ x64, ∃ x65, ∃ x66, ∃ x67, ∃ x68, 
 ∃ x69, ∃ x70, ∃ x71, ∃ x72, ∃ x73, ∃ x74, 
 ∃ x75, ((ldA m59 (C.ptr (m26.nxt + 0) 0) 13) = (some [(Il x63), 
 (Il x64), (Il x65), (Il x66), (Il x67), 
 (Il x68), (Il x69), (Il x70), (Il x71), 
 (Il x72), (Il x73), (Il x74), (Il x75)])) ∧ 
 callP prog tbl [(V.agg 16 [(Il x61), (Il x62), 
 (Il x58), (Il x63), (Il x64), (Il x65), 
 (Il x66), (Il x67), (Il x68), (Il x69), 
 (Il x70), (Il x71), (Il x72), (Il x73), 
 (Il x74), (Il x75)])] c60 m59 (fun v76 m77 => ∃ b78 : Bool, 
 (v76 = (V.c (C.bool b78))) ∧ ifB (!b78) (R57 Ex.ret m77) (R57 Ex.nrm m77)))) (After.mk (fun m79 => 
 R22 Ex.nrm m79) [] (fun m80 => R22 Ex.ret m80)))) ∧ ∀ u81 : U, 
 (y44 = (some u81)) → ∃ x82, ∃ x83, ∃ x84, ∃ x85, 
 ∃ x86, ∃ x87, ∃ x88, ∃ x89, ∃ x90, ∃ x91, 
 ∃ x92, ∃ x93, ∃ x94, (u81 = (U.agg 13 [(Il x82), 
 (Il x83), (Il x84), (Il x85), (Il x86), 
 (Il x87), (Il x88), (Il x89), (Il x90), 
 (Il x91), (Il x92), (Il x93), (Il x94)])) ∧ 
 ∀ m95 : M, (m95 = (M.set m39 (m26.nxt + 0) (AO.cells 13 [(Il 0), 
 (Il 0), (Il 0), (Il 0), 
 (Il 0), (Il 0), (Il 0), 
 (Il 0), (Il 0), (Il 0), 
 (Il 0), (Il 0), (Il 0)] false))) → 
 (∃ y96 : Option U, ((lkM prog 138 m95 c28 (V.agg 4 [(Il x40), 
 (Il x41), (Il x42), (Il x43)])) = (some y96)) ∧ 
 (optB y96 ((some (V.agg 13 [(Il 0), (Il 0), 
 (Il 0), (Il 0), (Il 0), 
 (Il 0), (Il 0), (Il 0), 
 (Il 0), (Il 0), (Il 0), 
 (Il 0), (Il 0)])) = (some (V.agg 13 [(Il x82), 
 (Il x83), (Il x84), (Il x85), (Il x86), 
 (Il x87), (Il x88), (Il x89), (Il x90), 
 (Il x91), (Il x92), (Il x93), (Il x94)]))) fun u97 => 
 (some (uV u97)) = (some (V.agg 13 [(Il x82), (Il x83), 
 (Il x84), (Il x85), (Il x86), (Il x87), 
 (Il x88), (Il x89), (Il x90), (Il x91), 
 (Il x92), (Il x93), (Il x94)]))) ∧ 
 true = true) ∧ ((ldC m95 (C.ptr m20.nxt 0)) = (some (Il x37))) ∧ 
 ((ldC m95 (C.ptr m7.nxt 0)) = (some (Il x36))) ∧ ((ldA m95 (C.ptr b0 0) 7) = (some [(Il x29), 
 (Il x30), (Il x31), (Il x32), (Il x33), 
 (Il x34), (Il x35)])) ∧ (ifB (cmC c28) ((ldC m95 (C.ptr b1 4)) = (some c28)) False) ∧ 
 ∃ m98 : M, ((stC m95 (C.ptr (m26.nxt + 0) 0) 13 [(Il x82), 
 (Il x83), (Il x84), (Il x85), (Il x86), 
 (Il x87), (Il x88), (Il x89), (Il x90), 
 (Il x91), (Il x92), (Il x93), (Il x94)]) = (some m98)) ∧ 
 isPt (C.ptr b0 0) ∧ ∃ x99, ∃ x100, ((ldA m98 (C.ptr b0 5) 2) = (some [(Il x99), 
 (Il x100)])) ∧ Wc prog tbl 76 [(V.agg 2 [(Il x99), 
 (Il x100)])] m98 (fun v101 m102 => ∃ c103 : C, (v101 = (V.c c103)) ∧ 
 rangeP prog tbl c103 m102 (fun l104 m105 R106 R107 => ∃ x108, (l104 = [(V.c (Il x108))]) ∧ 
 R106 m105 (fun m109 => ∃ c110 : C, ((ldC m109 (C.ptr m.nxt 0)) = (some c110)) ∧ 
 ∃ x111, ((ldC m109 (C.ptr m7.nxt 0)) = (some (Il x111))) ∧ 
 ∃ x112, ((ldC m109 (C.ptr m20.nxt 0)) = (some (Il x112))) ∧ 
 ∃ x113, ∃ x114, ∃ x115, ∃ x116, ∃ x117, ∃ x118, 
 ∃ x119, ∃ x120, ∃ x121, ∃ x122, ∃ x123, ∃ x124, 
 ∃ x125, ((ldA m109 (C.ptr (m26.nxt + 0) 0) 13) = (some [(Il x113), 
 (Il x114), (Il x115), (Il x116), 
 (Il x117), (Il x118), (Il x119), 
 (Il x120), (Il x121), (Il x122), 
 (Il x123), (Il x124), (Il x125)])) ∧ 
 callP prog tbl [(V.agg 16 [(Il x111), (Il x112), 
 (Il x108), (Il x113), (Il x114), 
 (Il x115), (Il x116), (Il x117), 
 (Il x118), (Il x119), (Il x120), 
 (Il x121), (Il x122), (Il x123), 
 (Il x124), (Il x125)])] c110 m109 (fun v126 m127 => 
 ∃ b128 : Bool, (v126 = (V.c (C.bool b128))) ∧ ifB (!b128) (R107 Ex.ret m127) (R107 Ex.nrm m127)))) (After.mk (fun m129 => 
 R22 Ex.nrm m129) [] (fun m130 => R22 Ex.ret m130)))))) (After.mk (fun m131 => 
 R9 Ex.nrm m131) [] (fun m132 => R9 Ex.ret m132))))) (After.mk (fun m133 => 
 Q (V.tup []) m133) [] (fun m134 => Q (V.tup []) m134))))) : Wc prog tbl 97 [.c (a100), .c (.ptr b0 0), .c (.ptr b1 0)] m Q :=
 wc_eq (n := 3) rfl (by kernel_rfl) (by kernel_rfl) h
theorem c71 {a100 : C} {b0 : Nat} {b1 : Nat} {m : M} {Q : V → M → Prop} (h :
 (∀ m0 : M, (m0 = (M.new m (AO.cells 1 [a100] false))) → ∃ x1, ∃ c2 : C, ∃ c3 : C, ∃ c4 : C, ∃ c5 : C, 
 ((ldA m0 (C.ptr b0 0) 5) = (some [(Il x1), c2, c3, c4, c5])) ∧ isPt (C.ptr b0 0) ∧ 
 isPt (C.ptr b0 0) ∧ ∃ c6 : C, ((ldC m0 (C.ptr b0 2)) = (some c6)) ∧ ∃ x7, ((ldC m0 (C.ptr b1 0)) = (some (Il x7))) ∧ 
 ∃ n8 : Nat, (x7 = ((n8 : Nat) : Int)) ∧ (n8 < (slLen c6)) ∧ ∃ x9, ∃ x10, ∃ x11, 
 ∃ x12, ∃ x13, ∃ x14, ∃ x15, ((ldA m0 (slAt c6 (n8 * 7)) 7) = (some [(Il x9), 
 (Il x10), (Il x11), (Il x12), (Il x13), 
 (Il x14), (Il x15)])) ∧ Wc prog tbl 72 [(V.agg 5 [(Il x1), 
 c2, c3, c4, c5]), (V.agg 7 [(Il x9), (Il x10), (Il x11), 
 (Il x12), (Il x13), (Il x14), (Il x15)])] m0 (fun v16 m17 => 
 ∃ c18 : C, (v16 = (V.c c18)) ∧ rangeP prog tbl c18 m17 (fun l19 m20 R21 R22 => 
 ∃ x23, ∃ x24, ∃ x25, ∃ x26, ∃ x27, ∃ x28, 
 ∃ x29, ∃ x30, ∃ x31, ∃ x32, ∃ x33, ∃ x34, 
 ∃ x35, ∃ x36, ∃ x37, ∃ x38, (l19 = [(V.agg 16 [(Il x23), 
 (Il x24), (Il x25), (Il x26), (Il x27), 
 (Il x28), (Il x29), (Il x30), (Il x31), 
 (Il x32), (Il x33), (Il x34), (Il x35), 
 (Il x36), (Il x37), (Il x38)])]) ∧ 
 ∀ m39 : M, (m39 = (M.new m20 (AO.cells 16 [(Il 0), (Il 0), 
 (Il 0), (Il 0), (Il 0), 
 (Il 0), (Il 0), (Il 0), 
 (Il 0), (Il 0), (Il 0), 
 (Il 0), (Il 0), (Il 0), 
 (Il 0), (Il 0)] false))) → ∃ m40 : M, 
 ((stC m39 (C.ptr m20.nxt 0) 16 [(Il x23), (Il x24), 
 (Il x25), (Il x26), (Il x27), (Il x28), 
 (Il x29), (Il x30), (Il x31), (Il x32), 
 (Il x33), (Il x34), (Il x35), (Il x36), 
 (Il x37), (Il x38)]) = (some m40)) ∧ R21 m40 (fun m41 => 
 isPt (C.ptr b0 0) ∧ ∃ x42, ∃ c43 : C, ∃ c44 : C, ∃ c45 : C, ((ldA m41 (C.ptr b0 0) 4) = (some [(Il x42), 
 c43, c44, c45])) ∧ ∃ x46, ((ldC m41 (C.ptr b1 0)) = (some (Il x46))) ∧ 
 ∃ x47, ∃ x48, ∃ x49, ∃ x50, ∃ x51, ∃ x52, 
 ∃ x53, ∃ x54, ∃ x55, ∃ x56, ∃ x57, ∃ x58, 
 ∃ x59, ∃ x60, ∃ x61, ∃ x62, ((ldA m41 (C.ptr m20.nxt 0) 16) = (some [(Il x47), 
 (Il x48), (Il x49), (Il x50), (Il x51), 
 (Il x52), (Il x53), (Il x54), (Il x55), 
 (Il x56), (Il x57), (Il x58), (Il x59), 
 (Il x60), (Il x61), (Il x62)])) ∧ 
 Wc prog tbl 49 [(V.agg 4 [(Il x42), c43, c44, c45]), (V.c (Il x46)), 
 (V.agg 16 [(Il x47), (Il x48), (Il x49), 
 (Il x50), (Il x51), (Il x52), (Il x53), 
 (Il x54), (Il x55), (Il x56), (Il x57), 
 (Il x58), (Il x59), (Il x60), (Il x61), 
 (Il x62)])] m41 (fun v63 m64 => ∃ b65 : Bool, (v63 = (V.c (C.bool b65))) ∧ 
 ifB b65 (∃ c66 : C, ((ldC m64 (C.ptr m.nxt 0)) = (some c66)) ∧ ∃ x67, 
 ∃ x68, ∃ x69, ∃ x70, ∃ x71, ∃ x72, ∃ x73, 
 ∃ x74, ∃ x75, ∃ x76, ∃ x77, ∃ x78, ∃ x79, 
 ∃ x80, ∃ x81, ∃ x82, ((ldA m64 (C.ptr m20.nxt 0) 16) = (some [(Il x67), 
 (Il x68), (Il x69), (Il x70), (Il x71), 
 (Il x72), (Il x73), (Il x74), (Il x75), 
 (Il x76), (Il x77), (Il x78), (Il x79), 
 (Il x80), (Il x81), (Il x82)])) ∧ 
 callP prog tbl [(V.agg 16 [(Il x67), (Il x68), 
 (Il x69), (Il x70), (Il x71), (Il x72), 
 (Il x73), (Il x74), (Il x75), (Il x76), 
 (Il x77), (Il x78), (Il x79), (Il x80), 
 (Il x81), (Il x82)])] c66 m64 (fun v83 m84 => ∃ b85 : Bool, 
 (v83 = (V.c (C.bool b85))) ∧ ifB (!b85) (R22 Ex.ret m84) (R22 Ex.nrm m84))) (R22 Ex.nrm m64)))) (After.mk (fun m86 => 
 Q (V.tup []) m86) [] (fun m87 => Q (V.tup []) m87))))) : Wc prog tbl 71 [.c (a100), .c (.ptr b0 0), .c (.ptr b1 0)] m Q :=
 wc_eq (n := 3) rfl (by kernel_rfl) (by kernel_rfl) h
theorem c31 {a100 : Int} {a101 : Int} {a102 : Int} {a103 : Int} {a104 : Int} {a105 : Int} {a106 : Int} {a107 : Int} {a108 : Int} {a109 : Int} {a110 : Int} {a111 : Int} {a112 : Int} {a113 : Int} {a114 : Int} {a115 : Int} {b0 : Nat} {m : M} {Q : V → M → Prop} (h :
 (∀ m0 : M, (m0 = (M.new m (AO.cells 16 [(Il a100), (Il a101), (Il a102), 
 (Il a103), (Il a104), (Il a105), (Il a106), 
 (Il a107), (Il a108), (Il a109), (Il a110), 
 (Il a111), (Il a112), (Il a113), (Il a114), 
 (Il a115)] false))) → ∃ x1, ∃ x2, ∃ x3, ∃ x4, ∃ x5, 
 ∃ x6, ∃ x7, ∃ x8, ∃ x9, ∃ x10, ∃ x11, ∃ x12, ∃ x13, 
 ∃ x14, ∃ x15, ∃ x16, ((ldA m0 (C.ptr m.nxt 0) 16) = (some [(Il x1), 
 (Il x2), (Il x3), (Il x4), (Il x5), 
 (Il x6), (Il x7), (Il x8), (Il x9), 
 (Il x10), (Il x11), (Il x12), (Il x13), 
 (Il x14), (Il x15), (Il x16)])) ∧ ∃ x17, 
 ((ldC m0 (C.ptr b0 0)) = (some (Il x17))) ∧ Wc prog tbl 32 [(V.agg 16 [(Il x1), 
 (Il x2), (Il x3), (Il x4), (Il x5), 
 (Il x6), (Il x7), (Il x8), (Il x9), 
 (Il x10), (Il x11), (Il x12), (Il x13), 
 (Il x14), (Il x15), (Il x16)]), (V.c (Il x17))] m0 (fun v18 m19 => 
 ∃ x20, (v18 = (V.c (Il x20))) ∧ Q (V.c (Il x20)) m19))) : Wc prog tbl 31 [.agg 16 [Il a100, Il a101, Il a102, Il a103, Il a104, Il a105, Il a106, Il a107, Il a108, Il a109, Il a110, Il a111, Il a112, Il a113, Il a114, Il a115], .c (.ptr b0 0)] m Q :=
 wc_eq (n := 2) rfl (by kernel_rfl) (by kernel_rfl) h
end
end Go.Proofs.Ytmlaphekbnanjaa

namespace Go.Proofs.Ytmlaphekbnanjaa
open _root_.Go.Proofs.Try
open Go.Abs
set_option maxRecDepth 100000
noncomputable section
theorem w8 {a100 : Int} {a101 : C} {a102 : C} {a103 : C} {a200 : Int} {a300 : Int} {a400 : Int} {m : M} {Q : V → M → Prop} (h :
 (∀ m0 : M, (m0 = (M.new m (AO.cells 4 [(Il a100), a101, a102, a103] false))) → ∃ x1, ∃ c2 : C, 
 ∃ c3 : C, ∃ c4 : C, ((ldA m0 (C.ptr m.nxt 0) 4) = (some [(Il x1), c2, c3, c4])) ∧ 
 Wc prog tbl 22 [(V.agg 4 [(Il x1), c2, c3, c4])] m0 (fun v5 m6 => ∃ b7 : Bool, (v5 = (V.c (C.bool b7))) ∧ 
 ifB (!b7) (Wc prog tbl 21 [] m6 (fun v8 m9 => ∃ b10 : Bool, (v8 = (V.c (C.bool b10))) ∧ Q (V.c (C.bool b10)) m9)) (isPt (C.ptr m.nxt 0) ∧ 
 ∃ c11 : C, ((ldC m6 (C.ptr m.nxt 2)) = (some c11)) ∧ isSl c11 ∧ ((0 : Int) ≤ (wrapZ .i64 a200)) ∧ 
 ((0 : Int) < (((slLen c11) : Nat) : Int)) ∧ fitsP .i64 ((wrapZ .i64 a200) % (((slLen c11) : Nat) : Int)) ∧ 
 isPt (C.ptr m.nxt 0) ∧ ∃ x12, ((ldC m6 (C.ptr m.nxt 0)) = (some (Il x12))) ∧ 
 fitsP .i64 (x12 + 1) ∧ ((0 : Int) ≤ (wrapZ .i64 a300)) ∧ ((0 : Int) < (x12 + 1)) ∧ 
 fitsP .i64 ((wrapZ .i64 a300) % (x12 + 1)) ∧ ((0 : Int) ≤ (wrapZ .i64 a400)) ∧ 
 ((0 : Int) < (101 : Int)) ∧ fitsP .i64 ((wrapZ .i64 a400) % (101 : Int)) ∧ 
 ∃ x13, ∃ c14 : C, ∃ c15 : C, ∃ c16 : C, ((ldA m6 (C.ptr m.nxt 0) 4) = (some [(Il x13), 
 c14, c15, c16])) ∧ ∀ m17 : M, (m17 = (M.new m6 (AO.cells 4 [(Il 0), 
 C.sl0, C.sl0, C.sl0] false))) → ∃ m18 : M, ((stC m17 (C.ptr m6.nxt 0) 4 [(Il x13), 
 c14, c15, c16]) = (some m18)) ∧ isPt (C.ptr m6.nxt 0) ∧ ∃ m19 : M, 
 ((stC m18 (C.ptr m6.nxt 3) 1 [C.sl0]) = (some m19)) ∧ ∀ R20 : List V → 
 M → Prop, (∀ x21 : Int, ∀ m22 : M, (isPt (C.ptr m.nxt 0) ∧ ∃ c23 : C, ((ldC m22 (C.ptr m.nxt 3)) = (some c23)) ∧ 
 isSl c23 ∧ ifB (decide (x21 < (((slLen c23) : Nat) : Int))) (isPt (C.ptr m.nxt 0) ∧ 
 ∃ c24 : C, ((ldC m22 (C.ptr m.nxt 3)) = (some c24)) ∧ ∃ n25 : Nat, 
 (x21 = ((n25 : Nat) : Int)) ∧ (n25 < (slLen c24)) ∧ isPt (slAt c24 (n25 * 4)) ∧ 
 ∃ x26, ((ldC m22 (ptAdd (slAt c24 (n25 * 4)) 0)) = (some (Il x26))) ∧ 
 ifB (decide (x26 = ((wrapZ .i64 a200) % (((slLen c11) : Nat) : Int)))) (isPt (C.ptr m6.nxt 0) ∧ 
 ∃ c27 : C, ((ldC m22 (C.ptr m6.nxt 3)) = (some c27)) ∧ isPt (C.ptr m.nxt 0) ∧ 
 ∃ c28 : C, ((ldC m22 (C.ptr m.nxt 3)) = (some c28)) ∧ ∃ n29 : Nat, 
 (x21 = ((n29 : Nat) : Int)) ∧ (n29 < (slLen c28)) ∧ ∃ x30, ∃ x31, 
 ∃ x32, ∃ x33, ((ldA m22 (slAt c28 (n29 * 4)) 4) = (some [(Il x30), 
 (Il x31), (Il x32), (Il x33)])) ∧ 
 ∀ m34 : M, (m34 = (M.new m22 (AO.cells 4 [(Il x30), (Il x31), 
 (Il x32), (Il x33)] false))) → (ifB (cmC c27) ((ldC m34 (C.ptr m6.nxt 3)) = (some c27)) False) ∧ 
 ∃ c35 : C, ∃ m36 : M, (ApR prog 57 m34 c27 (C.sl m22.nxt 0 1 0 (some 1)) c35 m36) ∧ 
 isPt (C.ptr m6.nxt 0) ∧ ∃ m37 : M, ((stC m36 (C.ptr m6.nxt 3) 1 [c35]) = (some m37)) ∧ 
 fitsP .i64 (x21 + 1) ∧ R20 [(V.c (Il (x21 + 1)))] m37) (fitsP .i64 (x21 + 1) ∧ 
 R20 [(V.c (Il (x21 + 1)))] m22)) (∃ x38, 
 ∃ c39 : C, ∃ c40 : C, ∃ c41 : C, ((ldA m22 (C.ptr m.nxt 0) 4) = (some [(Il x38), 
 c39, c40, c41])) ∧ Wc prog tbl 23 [(V.agg 4 [(Il x38), c39, c40, 
 c41])] m22 (fun v42 m43 => ∃ x44, ∃ c45 : C, ∃ c46 : C, ∃ c47 : C, 
 (v42 = (V.agg 4 [(Il x44), c45, c46, c47])) ∧ Wc prog tbl 17 [(V.agg 4 [(Il x44), 
 c45, c46, c47])] m43 (fun v48 m49 => ∃ c50 : C, ∃ x51, (v48 = (V.tup [(U.c c50), 
 (U.c (Il x51))])) ∧ ∃ x52, ∃ c53 : C, ∃ c54 : C, ∃ c55 : C, 
 ((ldA m49 (C.ptr m6.nxt 0) 4) = (some [(Il x52), c53, 
 c54, c55])) ∧ Wc prog tbl 23 [(V.agg 4 [(Il x52), c53, c54, c55])] m49 (fun v56 m57 => 
 ∃ x58, ∃ c59 : C, ∃ c60 : C, ∃ c61 : C, (v56 = (V.agg 4 [(Il x58), 
 c59, c60, c61])) ∧ Wc prog tbl 17 [(V.agg 4 [(Il x58), c59, c60, 
 c61])] m57 (fun v62 m63 => ∃ c64 : C, ∃ x65, (v62 = (V.tup [(U.c c64), 
 (U.c (Il x65))])) ∧ ifB (!decide (x51 = 0)) (ifB (decide (x51 = 11)) (Wc prog tbl 21 [] m63 (fun v66 m67 => 
 ∃ b68 : Bool, (v66 = (V.c (C.bool b68))) ∧ Q (V.c (C.bool b68)) m67)) (Q (V.c (C.bool false)) m63)) (∃ x69, 
 ∃ c70 : C, ∃ c71 : C, ∃ c72 : C, ((ldA m63 (C.ptr m.nxt 0) 4) = (some [(Il x69), 
 c70, c71, c72])) ∧ Wc prog tbl 23 [(V.agg 4 [(Il x69), c70, c71, 
 c72])] m63 (fun v73 m74 => ∃ x75, ∃ c76 : C, ∃ c77 : C, ∃ c78 : C, 
 (v73 = (V.agg 4 [(Il x75), c76, c77, c78])) ∧ Wc prog tbl 9 [(V.agg 4 [(Il x75), 
 c76, c77, c78]), (V.c (Il ((wrapZ .i64 a200) % (((slLen c11) : Nat) : Int)))), 
 (V.c (Il ((wrapZ .i64 a300) % (x12 + 1))))] m74 (fun v79 m80 => 
 ∃ x81, ∃ x82, ∃ x83, (v79 = (V.tup [(U.agg 2 [(Il x81), 
 (Il x82)]), (U.c (Il x83))])) ∧ ∀ m84 : M, (m84 = (M.new m80 (AO.cells 2 [(Il 0), 
 (Il 0)] false))) → ∃ m85 : M, ((stC m84 (C.ptr m80.nxt 0) 2 [(Il x81), 
 (Il x82)]) = (some m85)) ∧ ∃ x86, ∃ c87 : C, ∃ c88 : C, 
 ∃ c89 : C, ((ldA m85 (C.ptr m6.nxt 0) 4) = (some [(Il x86), 
 c87, c88, c89])) ∧ Wc prog tbl 23 [(V.agg 4 [(Il x86), c87, c88, 
 c89])] m85 (fun v90 m91 => ∃ x92, ∃ c93 : C, ∃ c94 : C, ∃ c95 : C, 
 (v90 = (V.agg 4 [(Il x92), c93, c94, c95])) ∧ Wc prog tbl 9 [(V.agg 4 [(Il x92), 
 c93, c94, c95]), (V.c (Il ((wrapZ .i64 a200) % (((slLen c11) : Nat) : Int)))), 
 (V.c (Il ((wrapZ .i64 a300) % (x12 + 1))))] m91 (fun v96 m97 => 
 ∃ x98, ∃ x99, ∃ x100, (v96 = (V.tup [(U.agg 2 [(Il x98), 
 (Il x99)]), (U.c (Il x100))])) ∧ ∀ m101 : M, (m101 = (M.new m97 (AO.cells 2 [(Il 0), 
 (Il 0)] false))) → ∃ m102 : M, ((stC m101 (C.ptr m97.nxt 0) 2 [(Il x98), 
 (Il x99)]) = (some m102)) ∧ ∃ x103, ∃ c104 : C, 
 ∃ c105 : C, ∃ c106 : C, ((ldA m102 (C.ptr m.nxt 0) 4) = (some [(Il x103), 
 c104, c105, c106])) ∧ Wc prog tbl 23 [(V.agg 4 [(Il x103), c104, 
 c105, c106])] m102 (fun v107 m108 => ∃ x109, ∃ c110 : C, ∃ c111 : C, 
 ∃ c112 : C, (v107 = (V.agg 4 [(Il x109), c110, c111, c112])) ∧ 
 Wc prog tbl 18 [(V.agg 4 [(Il x109), c110, c111, c112]), (V.c (Il ((wrapZ .i64 a200) % (((slLen c11) : Nat) : Int)))), 
 (V.c (Il ((wrapZ .i64 a400) % (101 : Int))))] m108 (fun v113 m114 => 
 ∃ c115 : C, ∃ x116, (v113 = (V.tup [(U.c c115), (U.c (Il x116))])) ∧ 
 ∃ x117, ∃ c118 : C, ∃ c119 : C, ∃ c120 : C, ((ldA m114 (C.ptr m6.nxt 0) 4) = (some [(Il x117), 
 c118, c119, c120])) ∧ Wc prog tbl 23 [(V.agg 4 [(Il x117), c118, 
 c119, c120])] m114 (fun v121 m122 => ∃ x123, ∃ c124 : C, ∃ c125 : C, 
 ∃ c126 : C, (v121 = (V.agg 4 [(Il x123), c124, c125, c126])) ∧ 
 Wc prog tbl 18 [(V.agg 4 [(Il x123), c124, c125, c126]), (V.c (Il ((wrapZ .i64 a200) % (((slLen c11) : Nat) : Int)))), 
 (V.c (Il ((wrapZ .i64 a400) % (101 : Int))))] m122 (fun v127 m128 => 
 ∃ c129 : C, ∃ x130, (v127 = (V.tup [(U.c c129), (U.c (Il x130))])) ∧ 
 ifB (decide (x65 = 0)) (isSl c50 ∧ isPt (C.ptr m.nxt 0) ∧ ∃ c131 : C, 
 ((ldC m128 (C.ptr m.nxt 2)) = (some c131)) ∧ isSl c131 ∧ ifB (decide ((((slLen c50) : Nat) : Int) = (((slLen c131) : Nat) : Int))) (isSl c64 ∧ 
 isSl c50 ∧ ifB (decide ((((slLen c64) : Nat) : Int) = (((slLen c50) : Nat) : Int))) (∃ n132 : Nat, 
 (((wrapZ .i64 a200) % (((slLen c11) : Nat) : Int)) = ((n132 : Nat) : Int)) ∧ 
 (n132 < (slLen c50)) ∧ ∃ x133, ∃ x134, ∃ x135, ∃ x136, 
 ∃ x137, ∃ x138, ∃ x139, ∃ x140, ((ldA m128 (slAt c50 (n132 * 8)) 8) = (some [(Il x133), 
 (Il x134), (Il x135), (Il x136), 
 (Il x137), (Il x138), (Il x139), 
 (Il x140)])) ∧ ∃ n141 : Nat, (((wrapZ .i64 a200) % (((slLen c11) : Nat) : Int)) = ((n141 : Nat) : Int)) ∧ 
 (n141 < (slLen c64)) ∧ ∃ x142, ∃ x143, ∃ x144, ∃ x145, 
 ∃ x146, ∃ x147, ∃ x148, ∃ x149, ((ldA m128 (slAt c64 (n141 * 8)) 8) = (some [(Il x142), 
 (Il x143), (Il x144), (Il x145), 
 (Il x146), (Il x147), (Il x148), 
 (Il x149)])) ∧ fitsP .i64 x133 ∧ fitsP .i64 x142 ∧ 
 fitsP .i64 x134 ∧ fitsP .i64 x143 ∧ fitsP .i64 x135 ∧ 
 fitsP .i64 x144 ∧ fitsP .i64 x136 ∧ fitsP .i64 x145 ∧ 
 fitsP .i64 x137 ∧ fitsP .i64 x146 ∧ fitsP .i64 x138 ∧ 
 fitsP .i64 x147 ∧ fitsP .i64 x139 ∧ fitsP .i64 x148 ∧ 
 fitsP .i64 x140 ∧ fitsP .i64 x149 ∧ ifB ((decide (x133 = x142)) && ((decide (x134 = x143)) && ((decide (x135 = x144)) && ((decide (x136 = x145)) && ((decide (x137 = x146)) && ((decide (x138 = x147)) && ((decide (x139 = x148)) && (decide (x140 = x149))))))))) (ifB (decide (x83 = 0)) (ifB (decide (x100 = 0)) (∃ x150, 
 ∃ x151, ((ldA m128 (C.ptr m80.nxt 0) 2) = (some [(Il x150), 
 (Il x151)])) ∧ ∃ x152, ∃ x153, ((ldA m128 (C.ptr m97.nxt 0) 2) = (some [(Il x152), 
 (Il x153)])) ∧ fitsP .i64 x150 ∧ fitsP .i64 x152 ∧ 
 fitsP .i64 x151 ∧ fitsP .i64 x153 ∧ ifB ((decide (x150 = x152)) && (decide (x151 = x153))) (ifB (decide (x116 = 0)) (ifB (decide (x130 = 0)) (Wc prog tbl 27 [(V.c c115), 
 (V.c c129)] m128 (fun v154 m155 => ∃ b156 : Bool, (v154 = (V.c (C.bool b156))) ∧ 
 ifB b156 (Wc prog tbl 21 [] m155 (fun v157 m158 => ∃ b159 : Bool, (v157 = (V.c (C.bool b159))) ∧ 
 Q (V.c (C.bool b159)) m158)) (Q (V.c (C.bool false)) m155))) (Q (V.c (C.bool false)) m128)) (Q (V.c (C.bool false)) m128)) (Q (V.c (C.bool false)) m128)) (Q (V.c (C.bool false)) m128)) (Q (V.c (C.bool false)) m128)) (Q (V.c (C.bool false)) m128)) (Q (V.c (C.bool false)) m128)) (Q (V.c (C.bool false)) m128)) (Q (V.c (C.bool false)) m128)))))))))))))))) → 
 R20 [(V.c (Il x21))] m22) → R20 [(V.c (Il 0))] m19)))) : Wc prog tbl 8 [(V.agg 4 [(Il a100), a101, a102, a103]), (V.c (C.int .u8 a200)), (V.c (C.int .u8 a300)), (V.c (C.int .u8 a400))] m Q :=
 wc_eq (n := 4) rfl (by kernel_rfl) (by kernel_rfl) h
theorem w23 {a100 : Int} {a101 : C} {a102 : C} {a103 : C} {m : M} {Q : V → M → Prop} (h :
 (∀ m0 : M, (m0 = (M.new m (AO.cells 4 [(Il a100), a101, a102, a103] false))) → ∀ m1 : M, (m1 = (M.new m0 (AO.cells 4 [(Il 0), 
 C.sl0, C.sl0, C.sl0] false))) → isPt (C.ptr m.nxt 0) ∧ ∃ x2, ((ldC m1 (C.ptr m.nxt 0)) = (some (Il x2))) ∧ 
 ∀ m3 : M, (m3 = (M.new m1 (AO.cells 4 [(Il 0), C.sl0, C.sl0, C.sl0] false))) → 
 ∃ m4 : M, ((stC m3 (C.ptr m1.nxt 0) 4 [(Il x2), C.sl0, C.sl0, C.sl0]) = (some m4)) ∧ 
 ∀ R5 : List V → M → Prop, (∀ x6 : Int, ∀ m7 : M, (isPt (C.ptr m.nxt 0) ∧ ∃ c8 : C, ((ldC m7 (C.ptr m.nxt 1)) = (some c8)) ∧ 
 isSl c8 ∧ ifB (decide (x6 < (((slLen c8) : Nat) : Int))) (isPt (C.ptr m1.nxt 0) ∧ ∃ c9 : C, 
 ((ldC m7 (C.ptr m1.nxt 1)) = (some c9)) ∧ isPt (C.ptr m.nxt 0) ∧ ∃ c10 : C, 
 ((ldC m7 (C.ptr m.nxt 1)) = (some c10)) ∧ ∃ n11 : Nat, (x6 = ((n11 : Nat) : Int)) ∧ 
 (n11 < (slLen c10)) ∧ ∃ c12 : C, ((ldC m7 (slAt c10 (n11 * 1))) = (some c12)) ∧ 
 Wc prog tbl 61 [(V.c c12)] m7 (fun v13 m14 => ∃ c15 : C, (v13 = (V.c c15)) ∧ 
 (ifB (cmC c9) ((ldC m14 (C.ptr m1.nxt 1)) = (some c9)) False) ∧ ∀ m16 : M, 
 (m16 = (M.new m14 (AO.cells 1 [c15] false))) → (ifB (cmC c9) ((ldC m16 (C.ptr m1.nxt 1)) = (some c9)) False) ∧ 
 ∃ c17 : C, ∃ m18 : M, (ApR prog 27 m16 c9 (C.sl m14.nxt 0 1 0 (some 1)) c17 m18) ∧ 
 isPt (C.ptr m1.nxt 0) ∧ ∃ m19 : M, ((stC m18 (C.ptr m1.nxt 1) 1 [c17]) = (some m19)) ∧ 
 fitsP .i64 (x6 + 1) ∧ R5 [(V.c (Il (x6 + 1)))] m19)) (∀ R20 : List V → 
 M → Prop, (∀ x21 : Int, ∀ m22 : M, (isPt (C.ptr m.nxt 0) ∧ ∃ c23 : C, ((ldC m22 (C.ptr m.nxt 2)) = (some c23)) ∧ 
 isSl c23 ∧ ifB (decide (x21 < (((slLen c23) : Nat) : Int))) (isPt (C.ptr m.nxt 0) ∧ 
 ∃ c24 : C, ((ldC m22 (C.ptr m.nxt 2)) = (some c24)) ∧ ∃ n25 : Nat, 
 (x21 = ((n25 : Nat) : Int)) ∧ (n25 < (slLen c24)) ∧ ∃ x26, ∃ x27, 
 ∃ x28, ∃ x29, ∃ x30, ∃ x31, ∃ x32, ((ldA m22 (slAt c24 (n25 * 7)) 7) = (some [(Il x26), 
 (Il x27), (Il x28), (Il x29), (Il x30), 
 (Il x31), (Il x32)])) ∧ ∀ m33 : M, (m33 = (M.new m22 (AO.cells 7 [(Il 0), 
 (Il 0), (Il 0), (Il 0), 
 (Il 0), (Il 0), (Il 0)] false))) → 
 ∃ m34 : M, ((stC m33 (C.ptr m22.nxt 0) 7 [(Il x26), (Il x27), 
 (Il x28), (Il x29), (Il x30), (Il x31), 
 (Il x32)]) = (some m34)) ∧ isPt (C.ptr m1.nxt 0) ∧ ∃ c35 : C, 
 ((ldC m34 (C.ptr m1.nxt 2)) = (some c35)) ∧ isPt (C.ptr m22.nxt 0) ∧ 
 ∃ x36, ((ldC m34 (C.ptr m22.nxt 0)) = (some (Il x36))) ∧ 
 isPt (C.ptr m22.nxt 0) ∧ ∃ x37, ∃ x38, ((ldA m34 (C.ptr m22.nxt 1) 2) = (some [(Il x37), 
 (Il x38)])) ∧ Wc prog tbl 62 [(V.agg 2 [(Il x37), 
 (Il x38)])] m34 (fun v39 m40 => ∃ x41, ∃ x42, (v39 = (V.agg 2 [(Il x41), 
 (Il x42)])) ∧ ((ldC m40 (C.ptr m22.nxt 0)) = (some (Il x36))) ∧ 
 (ifB (cmC c35) ((ldC m40 (C.ptr m1.nxt 2)) = (some c35)) False) ∧ isPt (C.ptr m22.nxt 0) ∧ 
 ∃ x43, ∃ x44, ((ldA m40 (C.ptr m22.nxt 3) 2) = (some [(Il x43), 
 (Il x44)])) ∧ ((ldA m34 (C.ptr m22.nxt 3) 2) = (some [(Il x43), 
 (Il x44)])) ∧ Wc prog tbl 62 [(V.agg 2 [(Il x43), 
 (Il x44)])] m40 (fun v45 m46 => ∃ x47, ∃ x48, (v45 = (V.agg 2 [(Il x47), 
 (Il x48)])) ∧ ((ldC m46 (C.ptr m22.nxt 0)) = (some (Il x36))) ∧ 
 (ifB (cmC c35) ((ldC m46 (C.ptr m1.nxt 2)) = (some c35)) False) ∧ isPt (C.ptr m22.nxt 0) ∧ 
 ∃ x49, ∃ x50, ((ldA m46 (C.ptr m22.nxt 5) 2) = (some [(Il x49), 
 (Il x50)])) ∧ ((ldA m40 (C.ptr m22.nxt 5) 2) = (some [(Il x49), 
 (Il x50)])) ∧ ((ldA m34 (C.ptr m22.nxt 5) 2) = (some [(Il x49), 
 (Il x50)])) ∧ Wc prog tbl 62 [(V.agg 2 [(Il x49), 
 (Il x50)])] m46 (fun v51 m52 => ∃ x53, ∃ x54, (v51 = (V.agg 2 [(Il x53), 
 (Il x54)])) ∧ ((ldC m52 (C.ptr m22.nxt 0)) = (some (Il x36))) ∧ 
 (ifB (cmC c35) ((ldC m52 (C.ptr m1.nxt 2)) = (some c35)) False) ∧ ∀ m55 : M, 
 (m55 = (M.new m52 (AO.cells 7 [(Il x36), (Il x41), 
 (Il x42), (Il x47), (Il x48), (Il x53), 
 (Il x54)] false))) → (ifB (cmC c35) ((ldC m55 (C.ptr m1.nxt 2)) = (some c35)) False) ∧ 
 ∃ c56 : C, ∃ m57 : M, (ApR prog 28 m55 c35 (C.sl m52.nxt 0 1 0 (some 1)) c56 m57) ∧ 
 isPt (C.ptr m1.nxt 0) ∧ ∃ m58 : M, ((stC m57 (C.ptr m1.nxt 2) 1 [c56]) = (some m58)) ∧ 
 fitsP .i64 (x21 + 1) ∧ R20 [(V.c (Il (x21 + 1)))] m58)))) (∀ R59 : List V → 
 M → Prop, (∀ x60 : Int, ∀ m61 : M, (isPt (C.ptr m.nxt 0) ∧ ∃ c62 : C, ((ldC m61 (C.ptr m.nxt 3)) = (some c62)) ∧ 
 isSl c62 ∧ ifB (decide (x60 < (((slLen c62) : Nat) : Int))) (isPt (C.ptr m.nxt 0) ∧ 
 ∃ c63 : C, ((ldC m61 (C.ptr m.nxt 3)) = (some c63)) ∧ ∃ n64 : Nat, 
 (x60 = ((n64 : Nat) : Int)) ∧ (n64 < (slLen c63)) ∧ ∃ x65, ∃ x66, 
 ∃ x67, ∃ x68, ((ldA m61 (slAt c63 (n64 * 4)) 4) = (some [(Il x65), 
 (Il x66), (Il x67), (Il x68)])) ∧ 
 ∀ m69 : M, (m69 = (M.new m61 (AO.cells 4 [(Il 0), (Il 0), 
 (Il 0), (Il 0)] false))) → ∃ m70 : M, 
 ((stC m69 (C.ptr m61.nxt 0) 4 [(Il x65), (Il x66), 
 (Il x67), (Il x68)]) = (some m70)) ∧ isPt (C.ptr m1.nxt 0) ∧ 
 ∃ c71 : C, ((ldC m70 (C.ptr m1.nxt 3)) = (some c71)) ∧ isPt (C.ptr m61.nxt 0) ∧ 
 ∃ x72, ((ldC m70 (C.ptr m61.nxt 0)) = (some (Il x72))) ∧ 
 isPt (C.ptr m61.nxt 0) ∧ ∃ x73, ((ldC m70 (C.ptr m61.nxt 1)) = (some (Il x73))) ∧ 
 isPt (C.ptr m61.nxt 0) ∧ ∃ x74, ∃ x75, ((ldA m70 (C.ptr m61.nxt 2) 2) = (some [(Il x74), 
 (Il x75)])) ∧ Wc prog tbl 62 [(V.agg 2 [(Il x74), 
 (Il x75)])] m70 (fun v76 m77 => ∃ x78, ∃ x79, (v76 = (V.agg 2 [(Il x78), 
 (Il x79)])) ∧ ((ldC m77 (C.ptr m61.nxt 1)) = (some (Il x73))) ∧ 
 ((ldC m77 (C.ptr m61.nxt 0)) = (some (Il x72))) ∧ (ifB (cmC c71) ((ldC m77 (C.ptr m1.nxt 3)) = (some c71)) False) ∧ 
 ∀ m80 : M, (m80 = (M.new m77 (AO.cells 4 [(Il x72), (Il x73), 
 (Il x78), (Il x79)] false))) → (ifB (cmC c71) ((ldC m80 (C.ptr m1.nxt 3)) = (some c71)) False) ∧ 
 ∃ c81 : C, ∃ m82 : M, (ApR prog 29 m80 c71 (C.sl m77.nxt 0 1 0 (some 1)) c81 m82) ∧ 
 isPt (C.ptr m1.nxt 0) ∧ ∃ m83 : M, ((stC m82 (C.ptr m1.nxt 3) 1 [c81]) = (some m83)) ∧ 
 fitsP .i64 (x60 + 1) ∧ R59 [(V.c (Il (x60 + 1)))] m83)) (∃ x84, 
 ∃ c85 : C, ∃ c86 : C, ∃ c87 : C, ((ldA m61 (C.ptr m1.nxt 0) 4) = (some [(Il x84), 
 c85, c86, c87])) ∧ ∃ m88 : M, ((stC m61 (C.ptr m0.nxt 0) 4 [(Il x84), 
 c85, c86, c87]) = (some m88)) ∧ ∃ x89, ∃ c90 : C, ∃ c91 : C, 
 ∃ c92 : C, ((ldA m88 (C.ptr m0.nxt 0) 4) = (some [(Il x89), 
 c90, c91, c92])) ∧ Q (V.agg 4 [(Il x89), c90, c91, c92]) m88)) → 
 R59 [(V.c (Il x60))] m61) → R59 [(V.c (Il 0))] m22)) → 
 R20 [(V.c (Il x21))] m22) → R20 [(V.c (Il 0))] m7)) → 
 R5 [(V.c (Il x6))] m7) → R5 [(V.c (Il 0))] m4)) : Wc prog tbl 23 [(V.agg 4 [(Il a100), a101, a102, a103])] m Q :=
 wc_eq (n := 1) rfl (by kernel_rfl) (by kernel_rfl) h
theorem w29 {a100 : Int} {a101 : C} {a102 : C} {a103 : C} {a200 : Int} {m : M} {Q : V → M → Prop} (h :
 (∀ m0 : M, (m0 = (M.new m (AO.cells 4 [(Il a100), a101, a102, a103] false))) → isPt (C.ptr m.nxt 0) ∧ 
 ∃ x1, ((ldC m0 (C.ptr m.nxt 0)) = (some (Il x1))) ∧ Wc prog tbl 65 [(V.agg 2 [(Il 0), 
 (Il x1)]), (V.c (Il a200))] m0 (fun v2 m3 => ∃ b4 : Bool, (v2 = (V.c (C.bool b4))) ∧ 
 Q (V.c (C.bool b4)) m3))) : Wc prog tbl 29 [(V.agg 4 [(Il a100), a101, a102, a103]), (V.c (Il a200))] m Q :=
 wc_eq (n := 2) rfl (by kernel_rfl) (by kernel_rfl) h
theorem w33 {a100 : Int} {m : M} {Q : V → M → Prop} (h :
 (Wc prog tbl 65 [(V.agg 2 [(Il 0), (Il (100 : Int))]), (V.c (Il a100))] m (fun v0 m1 => 
 ∃ b2 : Bool, (v0 = (V.c (C.bool b2))) ∧ Q (V.c (C.bool b2)) m1))) : Wc prog tbl 33 [(V.c (Il a100))] m Q :=
 wc_eq (n := 1) rfl (by kernel_rfl) (by kernel_rfl) h
theorem w40 {a100 : Int} {a101 : C} {a102 : C} {a103 : C} {a104 : C} {a200 : Int} {m : M} {Q : V → M → Prop} (h :
 (∀ m0 : M, (m0 = (M.new m (AO.cells 5 [(Il a100), a101, a102, a103, a104] false))) → ∀ m1 : M, 
 (m1 = (M.new m0 (AO.cells 1 [(Il a200)] false))) → Q (V.c (C.fn (Fn.func 71) [] [(W.c (C0.ptr m.nxt 0)), 
 (W.c (C0.ptr m0.nxt 0))])) m1)) : Wc prog tbl 40 [(V.agg 5 [(Il a100), a101, a102, a103, a104]), (V.c (Il a200))] m Q :=
 wc_eq (n := 2) rfl (by kernel_rfl) (by kernel_rfl) h
theorem w46 {a100 : Int} {a101 : C} {a102 : C} {a103 : C} {m : M} {Q : V → M → Prop} (h :
 (∀ m0 : M, (m0 = (M.new m (AO.cells 4 [(Il a100), a101, a102, a103] false))) → ∀ m1 : M, (m1 = (M.new m0 (AO.cells 5 [(Il 0), 
 C.sl0, C.sl0, C.sl0, C.map0] false))) → ∃ x2, ∃ c3 : C, ∃ c4 : C, ∃ c5 : C, ((ldA m1 (C.ptr m.nxt 0) 4) = (some [(Il x2), 
 c3, c4, c5])) ∧ ∀ m6 : M, (m6 = (M.new m1 (AO.map [] 0))) → ∀ m7 : M, (m7 = (M.new m6 (AO.cells 5 [(Il 0), 
 C.sl0, C.sl0, C.sl0, C.map0] false))) → ∃ m8 : M, ((stC m7 (C.ptr m6.nxt 0) 5 [(Il x2), 
 c3, c4, c5, (C.map m1.nxt)]) = (some m8)) ∧ isPt (C.ptr m.nxt 0) ∧ ∃ c9 : C, 
 ((ldC m8 (C.ptr m.nxt 2)) = (some c9)) ∧ isSl c9 ∧ ∀ R10 : List V → M → Prop, 
 (∀ x11 : Int, ∀ m12 : M, (ifB (decide (x11 < (((slLen c9) : Nat) : Int))) (∃ n13 : Nat, 
 (x11 = ((n13 : Nat) : Int)) ∧ (n13 < (slLen c9)) ∧ ∃ x14, ∃ x15, 
 ∃ x16, ∃ x17, ∃ x18, ∃ x19, ∃ x20, ((ldA m12 (slAt c9 (n13 * 7)) 7) = (some [(Il x14), 
 (Il x15), (Il x16), (Il x17), (Il x18), 
 (Il x19), (Il x20)])) ∧ ∀ m21 : M, (m21 = (M.new m12 (AO.cells 7 [(Il 0), 
 (Il 0), (Il 0), (Il 0), 
 (Il 0), (Il 0), (Il 0)] false))) → 
 ∃ m22 : M, ((stC m21 (C.ptr m12.nxt 0) 7 [(Il x14), (Il x15), 
 (Il x16), (Il x17), (Il x18), (Il x19), 
 (Il x20)]) = (some m22)) ∧ isPt (C.ptr m12.nxt 0) ∧ 
 ∃ x23, ∃ x24, ((ldA m22 (C.ptr m12.nxt 1) 2) = (some [(Il x23), 
 (Il x24)])) ∧ Wc prog tbl 76 [(V.agg 2 [(Il x23), 
 (Il x24)])] m22 (fun v25 m26 => ∃ c27 : C, (v25 = (V.c c27)) ∧ 
 rangeP prog tbl c27 m26 (fun l28 m29 R30 R31 => ∃ x32, (l28 = [(V.c (Il x32))]) ∧ 
 ∀ m33 : M, (m33 = (M.new m29 (AO.cells 1 [(Il 0)] false))) → 
 ∃ m34 : M, ((stC m33 (C.ptr m29.nxt 0) 1 [(Il x32)]) = (some m34)) ∧ 
 R30 m34 (fun m35 => isPt (C.ptr m12.nxt 0) ∧ ∃ x36, ∃ x37, 
 ((ldA m35 (C.ptr m12.nxt 3) 2) = (some [(Il x36), (Il x37)])) ∧ 
 Wc prog tbl 76 [(V.agg 2 [(Il x36), (Il x37)])] m35 (fun v38 m39 => 
 ∃ c40 : C, (v38 = (V.c c40)) ∧ rangeP prog tbl c40 m39 (fun l41 m42 R43 R44 => 
 ∃ x45, (l41 = [(V.c (Il x45))]) ∧ R43 m42 (fun m46 => 
 ∃ x47, ∃ x48, ∃ x49, ∃ x50, ∃ x51, ∃ x52, 
 ∃ x53, ((ldA m46 (C.ptr m12.nxt 0) 7) = (some [(Il x47), 
 (Il x48), (Il x49), (Il x50), (Il x51), 
 (Il x52), (Il x53)])) ∧ ∃ x54, ((ldC m46 (C.ptr m29.nxt 0)) = (some (Il x54))) ∧ 
 Wc prog tbl 77 [(V.agg 7 [(Il x47), (Il x48), 
 (Il x49), (Il x50), (Il x51), (Il x52), 
 (Il x53)]), (V.c (Il x54)), (V.c (Il x45))] m46 (fun v55 m56 => 
 ∃ x57, ∃ x58, ∃ x59, ∃ x60, (v55 = (V.agg 4 [(Il x57), 
 (Il x58), (Il x59), (Il x60)])) ∧ 
 ∀ m61 : M, (m61 = (M.new m56 (AO.cells 4 [(Il 0), (Il 0), 
 (Il 0), (Il 0)] false))) → ∃ m62 : M, 
 ((stC m61 (C.ptr m56.nxt 0) 4 [(Il x57), (Il x58), 
 (Il x59), (Il x60)]) = (some m62)) ∧ isPt (C.ptr m6.nxt 0) ∧ 
 ∃ c63 : C, ((ldC m62 (C.ptr m6.nxt 4)) = (some c63)) ∧ ∃ x64, 
 ∃ x65, ∃ x66, ∃ x67, ((ldA m62 (C.ptr m56.nxt 0) 4) = (some [(Il x64), 
 (Il x65), (Il x66), (Il x67)])) ∧ 
 ∃ x68, ∃ c69 : C, ∃ c70 : C, ∃ c71 : C, ((ldA m62 (C.ptr m.nxt 0) 4) = (some [(Il x68), 
 c69, c70, c71])) ∧ ∃ x72, ∃ x73, ∃ x74, ∃ x75, ((ldA m62 (C.ptr m56.nxt 0) 4) = (some [(Il x72), 
 (Il x73), (Il x74), (Il x75)])) ∧ 
 Wc prog tbl 78 [(V.agg 4 [(Il x68), c69, c70, c71]), (V.agg 4 [(Il x72), 
 (Il x73), (Il x74), (Il x75)])] m62 (fun v76 m77 => 
 ∃ x78, ∃ x79, ∃ x80, ∃ x81, ∃ x82, ∃ x83, 
 ∃ x84, ∃ x85, ∃ x86, ∃ x87, ∃ x88, ∃ x89, 
 ∃ x90, (v76 = (V.agg 13 [(Il x78), (Il x79), 
 (Il x80), (Il x81), (Il x82), (Il x83), 
 (Il x84), (Il x85), (Il x86), (Il x87), 
 (Il x88), (Il x89), (Il x90)])) ∧ 
 ((ldA m77 (C.ptr m56.nxt 0) 4) = (some [(Il x64), (Il x65), 
 (Il x66), (Il x67)])) ∧ (ifB (cmC c63) ((ldC m77 (C.ptr m6.nxt 4)) = (some c63)) False) ∧ 
 ∃ m91 : M, ((upM prog 138 m77 c63 (V.agg 4 [(Il x64), (Il x65), 
 (Il x66), (Il x67)]) (V.agg 13 [(Il x78), 
 (Il x79), (Il x80), (Il x81), (Il x82), 
 (Il x83), (Il x84), (Il x85), (Il x86), 
 (Il x87), (Il x88), (Il x89), (Il x90)])) = (some m91)) ∧ 
 R44 Ex.nrm m91)))) (After.mk (fun m92 => 
 R31 Ex.nrm m92) [] (fun m93 => R31 Ex.ret m93))))) (After.mk (fun m94 => 
 fitsP .i64 (x11 + 1) ∧ R10 [(V.c (Il (x11 + 1)))] m94) [] (fun m95 => 
 ∃ x96, ∃ c97 : C, ∃ c98 : C, ∃ c99 : C, ∃ c100 : C, ((ldA m95 (C.ptr m0.nxt 0) 5) = (some [(Il x96), 
 c97, c98, c99, c100])) ∧ Q (V.agg 5 [(Il x96), c97, c98, c99, 
 c100]) m95)))) (∃ x101, ∃ c102 : C, ∃ c103 : C, 
 ∃ c104 : C, ∃ c105 : C, ((ldA m12 (C.ptr m6.nxt 0) 5) = (some [(Il x101), 
 c102, c103, c104, c105])) ∧ ∃ m106 : M, ((stC m12 (C.ptr m0.nxt 0) 5 [(Il x101), 
 c102, c103, c104, c105]) = (some m106)) ∧ ∃ x107, ∃ c108 : C, 
 ∃ c109 : C, ∃ c110 : C, ∃ c111 : C, ((ldA m106 (C.ptr m0.nxt 0) 5) = (some [(Il x107), 
 c108, c109, c110, c111])) ∧ Q (V.agg 5 [(Il x107), c108, c109, 
 c110, c111]) m106)) → R10 [(V.c (Il x11))] m12) → 
 R10 [(V.c (Il 0))] m8)) : Wc prog tbl 46 [(V.agg 4 [(Il a100), a101, a102, a103])] m Q :=
 wc_eq (n := 1) rfl (by kernel_rfl) (by kernel_rfl) h
theorem w49 {a100 : Int} {a101 : C} {a102 : C} {a103 : C} {a200 : Int} {a300 : Int} {a301 : Int} {a302 : Int} {a303 : Int} {a304 : Int} {a305 : Int} {a306 : Int} {a307 : Int} {a308 : Int} {a309 : Int} {a310 : Int} {a311 : Int} {a312 : Int} {a313 : Int} {a314 : Int} {a315 : Int} {m : M} {Q : V → M → Prop} (h :
 (∀ m0 : M, (m0 = (M.new m (AO.cells 4 [(Il a100), a101, a102, a103] false))) → ∀ m1 : M, (m1 = (M.new m0 (AO.cells 1 [(Il a200)] false))) → 
 ∀ m2 : M, (m2 = (M.new m1 (AO.cells 16 [(Il a300), (Il a301), (Il a302), 
 (Il a303), (Il a304), (Il a305), (Il a306), 
 (Il a307), (Il a308), (Il a309), (Il a310), 
 (Il a311), (Il a312), (Il a313), (Il a314), 
 (Il a315)] false))) → isPt (C.ptr m.nxt 0) ∧ ∃ c3 : C, ((ldC m2 (C.ptr m.nxt 3)) = (some c3)) ∧ 
 Wc prog tbl 81 [(V.c c3), (V.c (C.fn (Fn.func 82) [] [(W.c (C0.ptr m0.nxt 0)), (W.c (C0.ptr m1.nxt 0))]))] m2 (fun v4 m5 => 
 ∃ b6 : Bool, (v4 = (V.c (C.bool b6))) ∧ Q (V.c (C.bool b6)) m5))) : Wc prog tbl 49 [(V.agg 4 [(Il a100), a101, a102, a103]), (V.c (Il a200)), (V.agg 16 [(Il a300), (Il a301), (Il a302), (Il a303), (Il a304), (Il a305), (Il a306), (Il a307), (Il a308), (Il a309), (Il a310), (Il a311), (Il a312), (Il a313), (Il a314), (Il a315)])] m Q :=
 wc_eq (n := 3) rfl (by kernel_rfl) (by kernel_rfl) h
theorem w52 {a100 : C} {a200 : Int} {a300 : Int} {m : M} {Q : V → M → Prop} (h :
 (∀ m0 : M, (m0 = (M.new m (AO.map [] 0))) → isSl a100 ∧ ∀ R1 : List V → M → Prop, (∀ b2 : Bool, ∀ x3 : Int, 
 ∀ m4 : M, (ifB (decide (x3 < (((slLen a100) : Nat) : Int))) (∃ n5 : Nat, (x3 = ((n5 : Nat) : Int)) ∧ 
 (n5 < (slLen a100)) ∧ ∃ x6, ∃ x7, ∃ x8, ∃ x9, ∃ x10, ∃ x11, 
 ∃ x12, ∃ x13, ∃ x14, ∃ x15, ∃ x16, ∃ x17, ∃ x18, 
 ∃ x19, ∃ x20, ∃ x21, ((ldA m4 (slAt a100 (n5 * 16)) 16) = (some [(Il x6), 
 (Il x7), (Il x8), (Il x9), (Il x10), 
 (Il x11), (Il x12), (Il x13), (Il x14), 
 (Il x15), (Il x16), (Il x17), (Il x18), 
 (Il x19), (Il x20), (Il x21)])) ∧ 
 ∀ m22 : M, (m22 = (M.new m4 (AO.cells 16 [(Il 0), (Il 0), 
 (Il 0), (Il 0), (Il 0), 
 (Il 0), (Il 0), (Il 0), 
 (Il 0), (Il 0), (Il 0), 
 (Il 0), (Il 0), (Il 0), 
 (Il 0), (Il 0)] false))) → ∃ m23 : M, 
 ((stC m22 (C.ptr m4.nxt 0) 16 [(Il x6), (Il x7), 
 (Il x8), (Il x9), (Il x10), (Il x11), 
 (Il x12), (Il x13), (Il x14), (Il x15), 
 (Il x16), (Il x17), (Il x18), (Il x19), 
 (Il x20), (Il x21)]) = (some m23)) ∧ isPt (C.ptr m4.nxt 0) ∧ 
 ∃ x24, ∃ x25, ∃ x26, ∃ x27, ∃ x28, ∃ x29, 
 ∃ x30, ∃ x31, ∃ x32, ∃ x33, ∃ x34, ∃ x35, 
 ∃ x36, ((ldA m23 (C.ptr m4.nxt 3) 13) = (some [(Il x24), 
 (Il x25), (Il x26), (Il x27), (Il x28), 
 (Il x29), (Il x30), (Il x31), (Il x32), 
 (Il x33), (Il x34), (Il x35), (Il x36)])) ∧ 
 Wc prog tbl 36 [(V.agg 13 [(Il x24), (Il x25), 
 (Il x26), (Il x27), (Il x28), (Il x29), 
 (Il x30), (Il x31), (Il x32), (Il x33), 
 (Il x34), (Il x35), (Il x36)])] m23 (fun v37 m38 => 
 ∃ x39, (v37 = (V.c (Il x39))) ∧ ∃ x40, ∃ x41, 
 ∃ x42, ∃ x43, ∃ x44, ∃ x45, ∃ x46, ∃ x47, 
 ∃ x48, ∃ x49, ∃ x50, ∃ x51, ∃ x52, ∃ x53, 
 ∃ x54, ∃ x55, ((ldA m38 (C.ptr m4.nxt 0) 16) = (some [(Il x40), 
 (Il x41), (Il x42), (Il x43), (Il x44), 
 (Il x45), (Il x46), (Il x47), (Il x48), 
 (Il x49), (Il x50), (Il x51), (Il x52), 
 (Il x53), (Il x54), (Il x55)])) ∧ 
 Wc prog tbl 32 [(V.agg 16 [(Il x40), (Il x41), 
 (Il x42), (Il x43), (Il x44), (Il x45), 
 (Il x46), (Il x47), (Il x48), (Il x49), 
 (Il x50), (Il x51), (Il x52), (Il x53), 
 (Il x54), (Il x55)]), (V.c (Il a200))] m38 (fun v56 m57 => 
 ∃ x58, (v56 = (V.c (Il x58))) ∧ ∃ y59 : Option U, ((lkM prog 3 m57 (C.map m.nxt) (V.c (Il x58))) = (some y59)) ∧ 
 ((y59 = Option.none) → ∃ x60, ∃ x61, ∃ x62, ∃ x63, 
 ∃ x64, ∃ x65, ∃ x66, ∃ x67, ∃ x68, ∃ x69, 
 ∃ x70, ∃ x71, ∃ x72, ∃ x73, ∃ x74, ∃ x75, 
 ((ldA m57 (C.ptr m4.nxt 0) 16) = (some [(Il x60), (Il x61), 
 (Il x62), (Il x63), (Il x64), (Il x65), 
 (Il x66), (Il x67), (Il x68), (Il x69), 
 (Il x70), (Il x71), (Il x72), (Il x73), 
 (Il x74), (Il x75)])) ∧ Wc prog tbl 32 [(V.agg 16 [(Il x60), 
 (Il x61), (Il x62), (Il x63), (Il x64), 
 (Il x65), (Il x66), (Il x67), (Il x68), 
 (Il x69), (Il x70), (Il x71), (Il x72), 
 (Il x73), (Il x74), (Il x75)]), 
 (V.c (Il a200))] m57 (fun v76 m77 => ∃ x78, (v76 = (V.c (Il x78))) ∧ 
 ∃ m79 : M, ((upM prog 3 m77 (C.map m.nxt) (V.c (Il x78)) (V.c (C.bool (decide (a300 < x39))))) = (some m79)) ∧ 
 fitsP .i64 (x3 + 1) ∧ R1 [(V.c (C.bool b2)), (V.c (Il (x3 + 1)))] m79)) ∧ 
 ∀ u80 : U, (y59 = (some u80)) → ∃ b81 : Bool, (u80 = (U.c (C.bool b81))) ∧ 
 ifB (!(b81 == (decide (a300 < x39)))) (Q (V.c (C.bool false)) m57) (∃ x82, 
 ∃ x83, ∃ x84, ∃ x85, ∃ x86, ∃ x87, ∃ x88, 
 ∃ x89, ∃ x90, ∃ x91, ∃ x92, ∃ x93, ∃ x94, 
 ∃ x95, ∃ x96, ∃ x97, ((ldA m57 (C.ptr m4.nxt 0) 16) = (some [(Il x82), 
 (Il x83), (Il x84), (Il x85), (Il x86), 
 (Il x87), (Il x88), (Il x89), (Il x90), 
 (Il x91), (Il x92), (Il x93), (Il x94), 
 (Il x95), (Il x96), (Il x97)])) ∧ 
 Wc prog tbl 32 [(V.agg 16 [(Il x82), (Il x83), 
 (Il x84), (Il x85), (Il x86), (Il x87), 
 (Il x88), (Il x89), (Il x90), (Il x91), 
 (Il x92), (Il x93), (Il x94), (Il x95), 
 (Il x96), (Il x97)]), (V.c (Il a200))] m57 (fun v98 m99 => 
 ∃ x100, (v98 = (V.c (Il x100))) ∧ ∃ m101 : M, ((upM prog 3 m99 (C.map m.nxt) (V.c (Il x100)) (V.c (C.bool (decide (a300 < x39))))) = (some m101)) ∧ 
 fitsP .i64 (x3 + 1) ∧ R1 [(V.c (C.bool b2)), (V.c (Il (x3 + 1)))] m101))))) (Q (V.c (C.bool true)) m4)) → 
 R1 [(V.c (C.bool b2)), (V.c (Il x3))] m4) → R1 [(V.c (C.bool false)), (V.c (Il 0))] m0)) : Wc prog tbl 52 [(V.c a100), (V.c (Il a200)), (V.c (Il a300))] m Q :=
 wc_eq (n := 3) rfl (by kernel_rfl) (by kernel_rfl) h
theorem w55 {a100 : Int} {a101 : C} {a102 : C} {a103 : C} {m : M} {Q : V → M → Prop} (h :
 (∀ m0 : M, (m0 = (M.new m (AO.cells 4 [(Il a100), a101, a102, a103] false))) → isPt (C.ptr m.nxt 0) ∧ 
 ∃ x1, ((ldC m0 (C.ptr m.nxt 0)) = (some (Il x1))) ∧ ifB (decide ((12 : Int) < x1)) (Q (V.c (C.bool true)) m0) (isPt (C.ptr m.nxt 0) ∧ 
 ∃ c2 : C, ((ldC m0 (C.ptr m.nxt 1)) = (some c2)) ∧ isSl c2 ∧ ifB (decide ((3 : Int) < (((slLen c2) : Nat) : Int))) (Q (V.c (C.bool true)) m0) (isPt (C.ptr m.nxt 0) ∧ 
 ∃ c3 : C, ((ldC m0 (C.ptr m.nxt 2)) = (some c3)) ∧ isSl c3 ∧ ifB (decide ((3 : Int) < (((slLen c3) : Nat) : Int))) (Q (V.c (C.bool true)) m0) (isPt (C.ptr m.nxt 0) ∧ 
 ∃ c4 : C, ((ldC m0 (C.ptr m.nxt 3)) = (some c4)) ∧ isSl c4 ∧ Q (V.c (C.bool (decide ((6 : Int) < (((slLen c4) : Nat) : Int))))) m0))))) : Wc prog tbl 55 [(V.agg 4 [(Il a100), a101, a102, a103])] m Q :=
 wc_eq (n := 1) rfl (by kernel_rfl) (by kernel_rfl) h
theorem w58 {a100 : Int} {a101 : Int} {a102 : Int} {a103 : Int} {a104 : Int} {a105 : Int} {a106 : Int} {m : M} {Q : V → M → Prop} (h :
 (∀ m0 : M, (m0 = (M.new m (AO.cells 7 [(Il a100), (Il a101), (Il a102), 
 (Il a103), (Il a104), (Il a105), (Il a106)] false))) → 
 isPt (C.ptr m.nxt 0) ∧ ∃ x1, ∃ x2, ((ldA m0 (C.ptr m.nxt 1) 2) = (some [(Il x1), 
 (Il x2)])) ∧ Wc prog tbl 93 [(V.agg 2 [(Il x1), (Il x2)])] m0 (fun v3 m4 => 
 ∃ x5, (v3 = (V.c (Il x5))) ∧ isPt (C.ptr m.nxt 0) ∧ ∃ x6, ∃ x7, 
 ((ldA m4 (C.ptr m.nxt 3) 2) = (some [(Il x6), (Il x7)])) ∧ 
 ((ldA m0 (C.ptr m.nxt 3) 2) = (some [(Il x6), (Il x7)])) ∧ 
 Wc prog tbl 93 [(V.agg 2 [(Il x6), (Il x7)])] m4 (fun v8 m9 => 
 ∃ x10, (v8 = (V.c (Il x10))) ∧ ((0 : Int) ≤ x5) ∧ ((0 : Int) ≤ x10) ∧ 
 fitsP .i64 (x5 * x10) ∧ isPt (C.ptr m.nxt 0) ∧ ∃ x11, ∃ x12, 
 ((ldA m9 (C.ptr m.nxt 5) 2) = (some [(Il x11), (Il x12)])) ∧ 
 ((ldA m4 (C.ptr m.nxt 5) 2) = (some [(Il x11), (Il x12)])) ∧ 
 ((ldA m0 (C.ptr m.nxt 5) 2) = (some [(Il x11), (Il x12)])) ∧ 
 Wc prog tbl 93 [(V.agg 2 [(Il x11), (Il x12)])] m9 (fun v13 m14 => 
 ∃ x15, (v13 = (V.c (Il x15))) ∧ ((0 : Int) ≤ (x5 * x10)) ∧ 
 ((0 : Int) ≤ x15) ∧ fitsP .i64 ((x5 * x10) * x15) ∧ Q (V.c (C.bool (decide (((x5 * x10) * x15) ≤ (3000 : Int))))) m14))))) : Wc prog tbl 58 [(V.agg 7 [(Il a100), (Il a101), (Il a102), (Il a103), (Il a104), (Il a105), (Il a106)])] m Q :=
 wc_eq (n := 1) rfl (by kernel_rfl) (by kernel_rfl) h
theorem w61 {a100 : C} {m : M} {Q : V → M → Prop} (h :
 (∃ c0 : C, ∃ m1 : M, (ApR prog 39 m C.sl0 a100 c0 m1) ∧ Q (V.c c0) m1)) : Wc prog tbl 61 [(V.c a100)] m Q :=
 wc_eq (n := 1) rfl (by kernel_rfl) (by kernel_rfl) h
theorem w64 {a100 : Int} {a101 : C} {a102 : C} {a103 : C} {a200 : Int} {m : M} {Q : V → M → Prop} (h :
 (∀ m0 : M, (m0 = (M.new m (AO.cells 4 [(Il a100), a101, a102, a103] false))) → isPt (C.ptr m.nxt 0) ∧ 
 ∃ c1 : C, ((ldC m0 (C.ptr m.nxt 2)) = (some c1)) ∧ isSl c1 ∧ fitsP .i64 ((((slLen c1) : Nat) : Int) - (1 : Int)) ∧ 
 Wc prog tbl 65 [(V.agg 2 [(Il 0), (Il ((((slLen c1) : Nat) : Int) - (1 : Int)))]), 
 (V.c (Il a200))] m0 (fun v2 m3 => ∃ b4 : Bool, (v2 = (V.c (C.bool b4))) ∧ Q (V.c (C.bool b4)) m3))) : Wc prog tbl 64 [(V.agg 4 [(Il a100), a101, a102, a103]), (V.c (Il a200))] m Q :=
 wc_eq (n := 2) rfl (by kernel_rfl) (by kernel_rfl) h
theorem w67 {a100 : C} {m : M} {Q : V → M → Prop} (h :
 (isSl a100 ∧ ifB (decide ((((slLen a100) : Nat) : Int) < (1 : Int))) False (∃ n0 : Nat, ((0 : Int) = ((n0 : Nat) : Int)) ∧ 
 (n0 < (slLen a100)) ∧ ∃ x1, ((ldC m (slAt a100 (n0 * 1))) = (some (Il x1))) ∧ 
 ∀ R2 : List V → M → Prop, (∀ x3 : Int, ∀ x4 : Int, ∀ m5 : M, (isSl a100 ∧ ifB (decide (x4 < (((slLen a100) : Nat) : Int))) (∃ n6 : Nat, 
 (x4 = ((n6 : Nat) : Int)) ∧ (n6 < (slLen a100)) ∧ ∃ x7, ((ldC m5 (slAt a100 (n6 * 1))) = (some (Il x7))) ∧ 
 fitsP .i64 (x4 + 1) ∧ R2 [(V.c (Il (Max.max x3 x7))), (V.c (Il (x4 + 1)))] m5) (Q (V.c (Il x3)) m5)) → 
 R2 [(V.c (Il x3)), (V.c (Il x4))] m5) → R2 [(V.c (Il x1)), 
 (V.c (Il (1 : Int)))] m))) : Wc prog tbl 67 [(V.c a100)] m Q :=
 wc_eq (n := 1) rfl (by kernel_rfl) (by kernel_rfl) h
theorem w72 {a100 : Int} {a101 : C} {a102 : C} {a103 : C} {a104 : C} {a200 : Int} {a201 : Int} {a202 : Int} {a203 : Int} {a204 : Int} {a205 : Int} {a206 : Int} {m : M} {Q : V → M → Prop} (h :
 (∀ m0 : M, (m0 = (M.new m (AO.cells 5 [(Il a100), a101, a102, a103, a104] false))) → ∀ m1 : M, 
 (m1 = (M.new m0 (AO.cells 7 [(Il a200), (Il a201), (Il a202), 
 (Il a203), (Il a204), (Il a205), (Il a206)] false))) → 
 Q (V.c (C.fn (Fn.func 97) [] [(W.c (C0.ptr m0.nxt 0)), (W.c (C0.ptr m.nxt 0))])) m1)) : Wc prog tbl 72 [(V.agg 5 [(Il a100), a101, a102, a103, a104]), (V.agg 7 [(Il a200), (Il a201), (Il a202), (Il a203), (Il a204), (Il a205), (Il a206)])] m Q :=
 wc_eq (n := 2) rfl (by kernel_rfl) (by kernel_rfl) h
theorem w78 {a100 : Int} {a101 : C} {a102 : C} {a103 : C} {a200 : Int} {a201 : Int} {a202 : Int} {a203 : Int} {m : M} {Q : V → M → Prop} (h :
 (∀ m0 : M, (m0 = (M.new m (AO.cells 4 [(Il a100), a101, a102, a103] false))) → ∀ m1 : M, (m1 = (M.new m0 (AO.cells 4 [(Il a200), 
 (Il a201), (Il a202), (Il a203)] false))) → ∀ m2 : M, 
 (m2 = (M.new m1 (AO.cells 13 [(Il 0), (Il 0), (Il 0), 
 (Il 0), (Il 0), (Il 0), (Il 0), 
 (Il 0), (Il 0), (Il 0), (Il 0), 
 (Il 0), (Il 0)] false))) → ∀ m3 : M, (m3 = (M.new m2 (AO.cells 13 [(Il 0), 
 (Il 0), (Il 0), (Il 0), (Il 0), 
 (Il 0), (Il 0), (Il 0), (Il 0), 
 (Il 0), (Il 0), (Il 0), (Il 0)] false))) → 
 ∀ R4 : List V → M → Prop, (∀ x5 : Int, ∀ x6 : Int, ∀ x7 : Int, ∀ m8 : M, (ifB (decide (x7 < 13)) (isPt (C.ptr m0.nxt 0) ∧ 
 isPt (C.ptr m0.nxt 0) ∧ ∃ x9, ((ldC m8 (C.ptr m0.nxt 0)) = (some (Il x9))) ∧ 
 ifB (decide (x7 = x9)) (isPt (C.ptr m0.nxt 0) ∧ isPt (C.ptr m0.nxt 0) ∧ ∃ x10, 
 ((ldC m8 (C.ptr m0.nxt 1)) = (some (Il x10))) ∧ isPt (C.ptr m2.nxt 0) ∧ 
 ∃ n11 : Nat, (x7 = ((n11 : Nat) : Int)) ∧ (n11 < 13) ∧ ∃ m12 : M, ((stC m8 (C.ptr m2.nxt (0 + (n11 * 1))) 1 [(Il x10)]) = (some m12)) ∧ 
 fitsP .i64 (x7 + 1) ∧ R4 [(V.c (Il x10)), (V.c (Il x10)), 
 (V.c (Il (x7 + 1)))] m12) (isPt (C.ptr m.nxt 0) ∧ 
 ∃ x13, ((ldC m8 (C.ptr m.nxt 0)) = (some (Il x13))) ∧ 
 ifB (decide (x7 ≤ x13)) (isPt (C.ptr m.nxt 0) ∧ ∃ c14 : C, ((ldC m8 (C.ptr m.nxt 1)) = (some c14)) ∧ 
 isPt (C.ptr m0.nxt 0) ∧ ∃ x15, ((ldC m8 (C.ptr m0.nxt 3)) = (some (Il x15))) ∧ 
 ∃ n16 : Nat, (x15 = ((n16 : Nat) : Int)) ∧ (n16 < (slLen c14)) ∧ ∃ c17 : C, 
 ((ldC m8 (slAt c14 (n16 * 1))) = (some c17)) ∧ ∃ n18 : Nat, (x7 = ((n18 : Nat) : Int)) ∧ 
 (n18 < (slLen c17)) ∧ ∃ x19, ((ldC m8 (slAt c17 (n18 * 1))) = (some (Il x19))) ∧ 
 ((0 : Int) ≤ x5) ∧ ((0 : Int) ≤ x19) ∧ fitsP .i64 (x5 * x19) ∧ ((0 : Int) ≤ (x5 * x19)) ∧ 
 ((0 : Int) < (100 : Int)) ∧ fitsP .i64 ((x5 * x19) / (100 : Int)) ∧ 
 fitsP .i64 (x5 - ((x5 * x19) / (100 : Int))) ∧ isPt (C.ptr m2.nxt 0) ∧ 
 ∃ n20 : Nat, (x7 = ((n20 : Nat) : Int)) ∧ (n20 < 13) ∧ ∃ m21 : M, ((stC m8 (C.ptr m2.nxt (0 + (n20 * 1))) 1 [(Il (x5 - ((x5 * x19) / (100 : Int))))]) = (some m21)) ∧ 
 fitsP .i64 (x7 + 1) ∧ R4 [(V.c (Il (x5 - ((x5 * x19) / (100 : Int))))), 
 (V.c (Il (x5 - ((x5 * x19) / (100 : Int))))), (V.c (Il (x7 + 1)))] m21) (isPt (C.ptr m2.nxt 0) ∧ 
 ∃ n22 : Nat, (x7 = ((n22 : Nat) : Int)) ∧ (n22 < 13) ∧ ∃ m23 : M, ((stC m8 (C.ptr m2.nxt (0 + (n22 * 1))) 1 [(Il x5)]) = (some m23)) ∧ 
 fitsP .i64 (x7 + 1) ∧ R4 [(V.c (Il x5)), (V.c (Il x5)), 
 (V.c (Il (x7 + 1)))] m23))) (∃ x24, 
 ∃ x25, ∃ x26, ∃ x27, ∃ x28, ∃ x29, ∃ x30, ∃ x31, 
 ∃ x32, ∃ x33, ∃ x34, ∃ x35, ∃ x36, ((ldA m8 (C.ptr m2.nxt 0) 13) = (some [(Il x24), 
 (Il x25), (Il x26), (Il x27), (Il x28), 
 (Il x29), (Il x30), (Il x31), (Il x32), 
 (Il x33), (Il x34), (Il x35), (Il x36)])) ∧ 
 ∃ m37 : M, ((stC m8 (C.ptr m1.nxt 0) 13 [(Il x24), (Il x25), 
 (Il x26), (Il x27), (Il x28), (Il x29), 
 (Il x30), (Il x31), (Il x32), (Il x33), 
 (Il x34), (Il x35), (Il x36)]) = (some m37)) ∧ 
 ∃ x38, ∃ x39, ∃ x40, ∃ x41, ∃ x42, ∃ x43, 
 ∃ x44, ∃ x45, ∃ x46, ∃ x47, ∃ x48, ∃ x49, 
 ∃ x50, ((ldA m37 (C.ptr m1.nxt 0) 13) = (some [(Il x38), 
 (Il x39), (Il x40), (Il x41), (Il x42), 
 (Il x43), (Il x44), (Il x45), (Il x46), 
 (Il x47), (Il x48), (Il x49), (Il x50)])) ∧ 
 Q (V.agg 13 [(Il x38), (Il x39), (Il x40), 
 (Il x41), (Il x42), (Il x43), (Il x44), 
 (Il x45), (Il x46), (Il x47), (Il x48), 
 (Il x49), (Il x50)]) m37)) → 
 R4 [(V.c (Il x5)), (V.c (Il x6)), (V.c (Il x7))] m8) → 
 R4 [(V.c (Il 0)), (V.c (Il 0)), (V.c (Il 0))] m3)) : Wc prog tbl 78 [(V.agg 4 [(Il a100), a101, a102, a103]), (V.agg 4 [(Il a200), (Il a201), (Il a202), (Il a203)])] m Q :=
 wc_eq (n := 2) rfl (by kernel_rfl) (by kernel_rfl) h
theorem w81 {a100 : C} {a200 : C} {m : M} {Q : V → M → Prop} (h :
 (∀ m0 : M, (m0 = (M.new m (AO.cells 1 [a200] false))) → Wc prog tbl 102 [(V.c a100), (V.c (C.fn (Fn.func 103) [] [(W.c (C0.ptr m.nxt 0))]))] m0 (fun v1 m2 => 
 ∃ b3 : Bool, (v1 = (V.c (C.bool b3))) ∧ Q (V.c (C.bool (!b3))) m2))) : Wc prog tbl 81 [(V.c a100), (V.c a200)] m Q :=
 wc_eq (n := 2) rfl (by kernel_rfl) (by kernel_rfl) h
theorem w85 {a100 : Int} {a101 : Int} {a102 : Int} {a103 : Int} {a104 : Int} {a105 : Int} {a106 : Int} {a107 : Int} {a108 : Int} {a109 : Int} {a110 : Int} {a111 : Int} {a112 : Int} {a113 : Int} {a114 : Int} {a115 : Int} {m : M} {Q : V → M → Prop} (h :
 (∀ m0 : M, (m0 = (M.new m (AO.cells 16 [(Il a100), (Il a101), (Il a102), 
 (Il a103), (Il a104), (Il a105), (Il a106), 
 (Il a107), (Il a108), (Il a109), (Il a110), 
 (Il a111), (Il a112), (Il a113), (Il a114), 
 (Il a115)] false))) → isPt (C.ptr m.nxt 0) ∧ isPt (C.ptr m.nxt 0) ∧ ∃ x1, 
 ((ldC m0 (C.ptr m.nxt 2)) = (some (Il x1))) ∧ Q (V.c (Il x1)) m0)) : Wc prog tbl 85 [(V.agg 16 [(Il a100), (Il a101), (Il a102), (Il a103), (Il a104), (Il a105), (Il a106), (Il a107), (Il a108), (Il a109), (Il a110), (Il a111), (Il a112), (Il a113), (Il a114), (Il a115)])] m Q :=
 wc_eq (n := 1) rfl (by kernel_rfl) (by kernel_rfl) h
theorem w88 {a100 : Int} {a101 : C} {a102 : C} {a103 : C} {a200 : C} {m : M} {Q : V → M → Prop} (h :
 (∀ m0 : M, (m0 = (M.new m (AO.cells 4 [(Il a100), a101, a102, a103] false))) → isSl a200 ∧ isPt (C.ptr m.nxt 0) ∧ 
 ∃ x1, ((ldC m0 (C.ptr m.nxt 0)) = (some (Il x1))) ∧ fitsP .i64 (x1 + 1) ∧ 
 ifB (decide ((((slLen a200) : Nat) : Int) = (x1 + 1))) (Wc prog tbl 106 [(V.c a200), (V.c (C.fn (Fn.func 33) [] []))] m0 (fun v2 m3 => 
 ∃ b4 : Bool, (v2 = (V.c (C.bool b4))) ∧ Q (V.c (C.bool b4)) m3)) (Q (V.c (C.bool false)) m0))) : Wc prog tbl 88 [(V.agg 4 [(Il a100), a101, a102, a103]), (V.c a200)] m Q :=
 wc_eq (n := 2) rfl (by kernel_rfl) (by kernel_rfl) h
theorem w91 {a100 : C} {a200 : C} {m : M} {Q : V → M → Prop} (h :
 (Wc prog tbl 108 [(V.c a100), (V.c a200)] m (fun v0 m1 => ∃ x2, (v0 = (V.c (Il x2))) ∧ Q (V.c (C.bool (decide ((0 : Int) ≤ x2)))) m1))) : Wc prog tbl 91 [(V.c a100), (V.c a200)] m Q :=
 wc_eq (n := 2) rfl (by kernel_rfl) (by kernel_rfl) h
theorem w95 {a100 : Int} {a101 : C} {a102 : C} {a103 : C} {a200 : C} {m : M} {Q : V → M → Prop} (h :
 (∀ m0 : M, (m0 = (M.new m (AO.cells 4 [(Il a100), a101, a102, a103] false))) → ∀ R1 : List V → 
 M → Prop, (∀ b2 : Bool, ∀ x3 : Int, ∀ m4 : M, (isSl a200 ∧ ifB (decide (x3 < (((slLen a200) : Nat) : Int))) (∃ n5 : Nat, 
 (x3 = ((n5 : Nat) : Int)) ∧ (n5 < (slLen a200)) ∧ ∃ x6, ((ldC m4 (slAt a200 (n5 * 1))) = (some (Il x6))) ∧ 
 Wc prog tbl 25 [(V.c (Il x6)), (V.c (Il 0)), (V.c (Il (100 : Int)))] m4 (fun v7 m8 => 
 ∃ b9 : Bool, (v7 = (V.c (C.bool b9))) ∧ ifB (!b9) (Q (V.c (C.bool false)) m8) (fitsP .i64 (x3 + 1) ∧ 
 R1 [(V.c (C.bool b2)), (V.c (Il (x3 + 1)))] m8))) (isSl a200 ∧ 
 isPt (C.ptr m.nxt 0) ∧ ∃ x10, ((ldC m4 (C.ptr m.nxt 0)) = (some (Il x10))) ∧ 
 fitsP .i64 (x10 + 1) ∧ Q (V.c (C.bool (decide ((((slLen a200) : Nat) : Int) = (x10 + 1))))) m4)) → 
 R1 [(V.c (C.bool b2)), (V.c (Il x3))] m4) → R1 [(V.c (C.bool false)), (V.c (Il 0))] m0)) : Wc prog tbl 95 [(V.agg 4 [(Il a100), a101, a102, a103]), (V.c a200)] m Q :=
 wc_eq (n := 2) rfl (by kernel_rfl) (by kernel_rfl) h
theorem w102 {a100 : C} {a200 : C} {m : M} {Q : V → M → Prop} (h :
 (Wc prog tbl 110 [(V.c a100), (V.c a200)] m (fun v0 m1 => ∃ x2, (v0 = (V.c (Il x2))) ∧ Q (V.c (C.bool (decide ((0 : Int) ≤ x2)))) m1))) : Wc prog tbl 102 [(V.c a100), (V.c a200)] m Q :=
 wc_eq (n := 2) rfl (by kernel_rfl) (by kernel_rfl) h
theorem w107 {a100 : Int} {a101 : Int} {a200 : Int} {a300 : Int} {m : M} {Q : V → M → Prop} (h :
 (∀ m0 : M, (m0 = (M.new m (AO.cells 2 [(Il a100), (Il a101)] false))) → isPt (C.ptr m.nxt 0) ∧ 
 ∃ x1, ((ldC m0 (C.ptr m.nxt 0)) = (some (Il x1))) ∧ ifB (decide (a200 ≤ x1)) (isPt (C.ptr m.nxt 0) ∧ 
 ∃ x2, ((ldC m0 (C.ptr m.nxt 0)) = (some (Il x2))) ∧ isPt (C.ptr m.nxt 0) ∧ 
 ∃ x3, ((ldC m0 (C.ptr m.nxt 1)) = (some (Il x3))) ∧ ifB (decide (x2 ≤ x3)) (isPt (C.ptr m.nxt 0) ∧ 
 ∃ x4, ((ldC m0 (C.ptr m.nxt 1)) = (some (Il x4))) ∧ Q (V.c (C.bool (decide (x4 ≤ a300)))) m0) (Q (V.c (C.bool false)) m0)) (Q (V.c (C.bool false)) m0))) : Wc prog tbl 107 [(V.agg 2 [(Il a100), (Il a101)]), (V.c (Il a200)), (V.c (Il a300))] m Q :=
 wc_eq (n := 3) rfl (by kernel_rfl) (by kernel_rfl) h
theorem w110 {a100 : C} {a200 : C} {m : M} {Q : V → M → Prop} (h :
 (isSl a100 ∧ ∀ R0 : List V → M → Prop, (∀ x1 : Int, ∀ x2 : Int, ∀ m3 : M, (ifB (decide (x2 < (((slLen a100) : Nat) : Int))) (∃ n4 : Nat, 
 (x2 = ((n4 : Nat) : Int)) ∧ (n4 < (slLen a100)) ∧ ∃ x5, ∃ x6, ∃ x7, ∃ x8, 
 ((ldA m3 (slAt a100 (n4 * 4)) 4) = (some [(Il x5), (Il x6), 
 (Il x7), (Il x8)])) ∧ callP prog tbl [(V.agg 4 [(Il x5), 
 (Il x6), (Il x7), (Il x8)])] a200 m3 (fun v9 m10 => 
 ∃ b11 : Bool, (v9 = (V.c (C.bool b11))) ∧ ifB b11 (Q (V.c (Il x2)) m10) (fitsP .i64 (x2 + 1) ∧ 
 R0 [(V.c (Il x1)), (V.c (Il (x2 + 1)))] m10))) (Q (V.c (Il (-1 : Int))) m3)) → 
 R0 [(V.c (Il x1)), (V.c (Il x2))] m3) → R0 [(V.c (Il 0)), 
 (V.c (Il 0))] m)) : Wc prog tbl 110 [(V.c a100), (V.c a200)] m Q :=
 wc_eq (n := 2) rfl (by kernel_rfl) (by kernel_rfl) h
theorem w114 {a100 : C} {a200 : C} {m : M} {Q : V → M → Prop} (h :
 (isSl a100 ∧ ∀ R0 : List V → M → Prop, (∀ x1 : Int, ∀ x2 : Int, ∀ m3 : M, (ifB (decide (x2 < (((slLen a100) : Nat) : Int))) (∃ n4 : Nat, 
 (x2 = ((n4 : Nat) : Int)) ∧ (n4 < (slLen a100)) ∧ ∃ x5, ((ldC m3 (slAt a100 (n4 * 1))) = (some (Il x5))) ∧ 
 callP prog tbl [(V.c (Il x5))] a200 m3 (fun v6 m7 => ∃ b8 : Bool, (v6 = (V.c (C.bool b8))) ∧ 
 ifB b8 (Q (V.c (Il x2)) m7) (fitsP .i64 (x2 + 1) ∧ R0 [(V.c (Il x1)), 
 (V.c (Il (x2 + 1)))] m7))) (Q (V.c (Il (-1 : Int))) m3)) → 
 R0 [(V.c (Il x1)), (V.c (Il x2))] m3) → R0 [(V.c (Il 0)), 
 (V.c (Il 0))] m)) : Wc prog tbl 114 [(V.c a100), (V.c a200)] m Q :=
 wc_eq (n := 2) rfl (by kernel_rfl) (by kernel_rfl) h
end
end Go.Proofs.Ytmlaphekbnanjaa

namespace Go.Proofs.Ytmlaphekbnanjaa
open _root_.Go.Proofs.Try
open Go.Abs
set_option maxRecDepth 100000
noncomputable section
theorem w9 {a100 : Int} {a101 : C} {a102 : C} {a103 : C} {a200 : Int} {a300 : Int} {m : M} {Q : V → M → Prop} (h :
 (∀ m0 : M, (m0 = (M.new m (AO.cells 4 [(Il a100), a101, a102, a103] false))) → ∀ m1 : M, (m1 = (M.new m0 (AO.cells 1 [(Il a300)] false))) → 
 ∀ m2 : M, (m2 = (M.new m1 (AO.cells 2 [(Il 0), (Il 0)] false))) → 
 ∀ m3 : M, (m3 = (mGrow m2 1)) → ∃ x4, ∃ c5 : C, ∃ c6 : C, ∃ c7 : C, ((ldA m3 (C.ptr m.nxt 0) 4) = (some [(Il x4), 
 c5, c6, c7])) ∧ ∃ x8, ∃ c9 : C, ∃ c10 : C, ∃ c11 : C, ((ldA m3 (C.ptr m.nxt 0) 4) = (some [(Il x8), 
 c9, c10, c11])) ∧ ∃ x12, ((ldC m3 (C.ptr m0.nxt 0)) = (some (Il x12))) ∧ 
 Wc prog tbl 29 [(V.agg 4 [(Il x8), c9, c10, c11]), (V.c (Il x12))] m3 (fun v13 m14 => 
 ∃ b15 : Bool, (v13 = (V.c (C.bool b15))) ∧ (ifB (allS cmC [(Il x4), 
 c5, c6, c7]) ((ldA m14 (C.ptr m.nxt 0) 4) = (some [(Il x4), 
 c5, c6, c7])) False) ∧ Wc prog tbl 28 [(V.agg 4 [(Il x4), c5, 
 c6, c7]), (V.c (Il a200)), (V.c (C.bool b15))] m14 (fun v16 m17 => 
 ∃ x18, ∃ c19 : C, ∃ c20 : C, ∃ c21 : C, ∃ c22 : C, ∃ x23, (v16 = (V.tup [(U.agg 5 [(Il x18), 
 c19, c20, c21, c22]), (U.c (Il x23))])) ∧ ∀ m24 : M, (m24 = (M.set m17 (m2.nxt + 0) (AO.cells 5 [(Il 0), 
 C.sl0, C.sl0, C.sl0, C.map0] false))) → ((ldC m24 (C.ptr m0.nxt 0)) = (some (Il x12))) ∧ 
 (ifB (allS cmC [(Il x8), c9, c10, c11]) ((ldA m24 (C.ptr m.nxt 0) 4) = (some [(Il x8), 
 c9, c10, c11])) False) ∧ (ifB (allS cmC [(Il x4), c5, c6, c7]) ((ldA m24 (C.ptr m.nxt 0) 4) = (some [(Il x4), 
 c5, c6, c7])) False) ∧ ∃ m25 : M, ((stC m24 (C.ptr (m2.nxt + 0) 0) 5 [(Il x18), 
 c19, c20, c21, c22]) = (some m25)) ∧ ifB (!decide (x23 = 0)) (∃ m26 : M, 
 ((stC m25 (C.ptr m1.nxt 0) 2 [(Il 0), (Il 0)]) = (some m26)) ∧ 
 ∃ x27, ∃ x28, ((ldA m26 (C.ptr m1.nxt 0) 2) = (some [(Il x27), 
 (Il x28)])) ∧ Q (V.tup [(U.agg 2 [(Il x27), (Il x28)]), 
 (U.c (Il x23))]) m26) (∃ x29, ∃ c30 : C, ∃ c31 : C, 
 ∃ c32 : C, ∃ c33 : C, ((ldA m25 (C.ptr (m2.nxt + 0) 0) 5) = (some [(Il x29), 
 c30, c31, c32, c33])) ∧ Wc prog tbl 30 [(V.agg 5 [(Il x29), c30, 
 c31, c32, c33]), (V.c (Il a200)), (V.agg 1 [(C.fn (Fn.func 31) [] [(W.c (C0.ptr m0.nxt 0))])])] m25 (fun v34 m35 => 
 ∃ x36, ∃ x37, (v34 = (V.agg 2 [(Il x36), (Il x37)])) ∧ 
 ∃ m38 : M, ((stC m35 (C.ptr m1.nxt 0) 2 [(Il x36), (Il x37)]) = (some m38)) ∧ 
 ∃ x39, ∃ x40, ((ldA m38 (C.ptr m1.nxt 0) 2) = (some [(Il x39), 
 (Il x40)])) ∧ Q (V.tup [(U.agg 2 [(Il x39), (Il x40)]), 
 (U.c (Il 0))]) m38)))))) : Wc prog tbl 9 [(V.agg 4 [(Il a100), a101, a102, a103]), (V.c (Il a200)), (V.c (Il a300))] m Q :=
 wc_eq (n := 3) rfl (by kernel_rfl) (by kernel_rfl) h
theorem w17 {a100 : Int} {a101 : C} {a102 : C} {a103 : C} {m : M} {Q : V → M → Prop} (h :
 (∀ m0 : M, (m0 = (M.new m (AO.cells 4 [(Il a100), a101, a102, a103] false))) → ∃ x1, ∃ c2 : C, 
 ∃ c3 : C, ∃ c4 : C, ((ldA m0 (C.ptr m.nxt 0) 4) = (some [(Il x1), c2, c3, c4])) ∧ 
 Wc prog tbl 50 [(V.agg 4 [(Il x1), c2, c3, c4])] m0 (fun v5 m6 => ∃ x7, ∃ c8 : C, 
 ∃ c9 : C, ∃ c10 : C, ∃ c11 : C, ∃ x12, (v5 = (V.tup [(U.agg 5 [(Il x7), 
 c8, c9, c10, c11]), (U.c (Il x12))])) ∧ ∀ m13 : M, (m13 = (M.new m6 (AO.cells 5 [(Il 0), 
 C.sl0, C.sl0, C.sl0, C.map0] false))) → ∃ m14 : M, ((stC m13 (C.ptr m6.nxt 0) 5 [(Il x7), 
 c8, c9, c10, c11]) = (some m14)) ∧ ifB (!decide (x12 = 0)) (Q (V.tup [(U.c C.sl0), 
 (U.c (Il x12))]) m14) (isPt (C.ptr m6.nxt 0) ∧ isPt (C.ptr m6.nxt 0) ∧ 
 ∃ c15 : C, ((ldC m14 (C.ptr m6.nxt 2)) = (some c15)) ∧ isSl c15 ∧ ∀ R16 : List V → 
 M → Prop, (∀ c17 : C, ∀ x18 : Int, ∀ m19 : M, (ifB (decide (x18 < (((slLen c15) : Nat) : Int))) (∃ x20, 
 ∃ c21 : C, ∃ c22 : C, ∃ c23 : C, ∃ c24 : C, ((ldA m19 (C.ptr m6.nxt 0) 5) = (some [(Il x20), 
 c21, c22, c23, c24])) ∧ Wc prog tbl 51 [(V.agg 5 [(Il x20), c21, 
 c22, c23, c24]), (V.c (Il x18))] m19 (fun v25 m26 => ∃ x27, 
 ∃ x28, ∃ x29, ∃ x30, ∃ x31, ∃ x32, ∃ x33, 
 ∃ x34, (v25 = (V.agg 8 [(Il x27), (Il x28), 
 (Il x29), (Il x30), (Il x31), (Il x32), 
 (Il x33), (Il x34)])) ∧ ∀ m35 : M, (m35 = (M.new m26 (AO.cells 8 [(Il x27), 
 (Il x28), (Il x29), (Il x30), (Il x31), 
 (Il x32), (Il x33), (Il x34)] false))) → 
 ∃ c36 : C, ∃ m37 : M, (ApR prog 47 m35 c17 (C.sl m26.nxt 0 1 0 (some 1)) c36 m37) ∧ 
 fitsP .i64 (x18 + 1) ∧ R16 [(V.c c36), (V.c (Il (x18 + 1)))] m37)) (Q (V.tup [(U.c c17), 
 (U.c (Il 0))]) m19)) → R16 [(V.c c17), (V.c (Il x18))] m19) → 
 R16 [(V.c C.sl0), (V.c (Il 0))] m14)))) : Wc prog tbl 17 [(V.agg 4 [(Il a100), a101, a102, a103])] m Q :=
 wc_eq (n := 1) rfl (by kernel_rfl) (by kernel_rfl) h
theorem w20 {a100 : Int} {a101 : C} {a102 : C} {a103 : C} {m : M} {Q : V → M → Prop} (h :
 (∀ m0 : M, (m0 = (M.new m (AO.cells 4 [(Il a100), a101, a102, a103] false))) → ∃ x1, ∃ c2 : C, 
 ∃ c3 : C, ∃ c4 : C, ((ldA m0 (C.ptr m.nxt 0) 4) = (some [(Il x1), c2, c3, c4])) ∧ 
 Wc prog tbl 55 [(V.agg 4 [(Il x1), c2, c3, c4])] m0 (fun v5 m6 => ∃ b7 : Bool, (v5 = (V.c (C.bool b7))) ∧ 
 ifB b7 (Q (V.c (Il (3 : Int))) m6) (∃ x8, ∃ c9 : C, ∃ c10 : C, ∃ c11 : C, 
 ((ldA m6 (C.ptr m.nxt 0) 4) = (some [(Il x8), c9, c10, c11])) ∧ Wc prog tbl 56 [(V.agg 4 [(Il x8), 
 c9, c10, c11])] m6 (fun v12 m13 => ∃ b14 : Bool, (v12 = (V.c (C.bool b14))) ∧ ifB (!b14) (Q (V.c (Il (1 : Int))) m13) (isPt (C.ptr m.nxt 0) ∧ 
 ∃ c15 : C, ((ldC m13 (C.ptr m.nxt 2)) = (some c15)) ∧ Wc prog tbl 57 [(V.c c15), 
 (V.c (C.fn (Fn.func 58) [] []))] m13 (fun v16 m17 => ∃ b18 : Bool, (v16 = (V.c (C.bool b18))) ∧ 
 ifB (!b18) (Q (V.c (Il (3 : Int))) m17) (Q (V.c (Il 0)) m17)))))))) : Wc prog tbl 20 [(V.agg 4 [(Il a100), a101, a102, a103])] m Q :=
 wc_eq (n := 1) rfl (by kernel_rfl) (by kernel_rfl) h
theorem w27 {a100 : C} {a200 : C} {m : M} {Q : V → M → Prop} (h :
 (isSl a100 ∧ isSl a200 ∧ ifB (!decide ((((slLen a100) : Nat) : Int) = (((slLen a200) : Nat) : Int))) (Q (V.c (C.bool false)) m) (∀ R0 : List V → 
 M → Prop, (∀ b1 : Bool, ∀ x2 : Int, ∀ m3 : M, (isSl a100 ∧ ifB (decide (x2 < (((slLen a100) : Nat) : Int))) (∃ n4 : Nat, 
 (x2 = ((n4 : Nat) : Int)) ∧ (n4 < (slLen a100)) ∧ ∃ x5, ((ldC m3 (slAt a100 (n4 * 1))) = (some (Il x5))) ∧ 
 ∃ n6 : Nat, (x2 = ((n6 : Nat) : Int)) ∧ (n6 < (slLen a200)) ∧ ∃ x7, ((ldC m3 (slAt a200 (n6 * 1))) = (some (Il x7))) ∧ 
 ifB (!decide (x5 = x7)) (Q (V.c (C.bool false)) m3) (fitsP .i64 (x2 + 1) ∧ 
 R0 [(V.c (C.bool b1)), (V.c (Il (x2 + 1)))] m3)) (Q (V.c (C.bool true)) m3)) → 
 R0 [(V.c (C.bool b1)), (V.c (Il x2))] m3) → R0 [(V.c (C.bool false)), (V.c (Il 0))] m))) : Wc prog tbl 27 [(V.c a100), (V.c a200)] m Q :=
 wc_eq (n := 2) rfl (by kernel_rfl) (by kernel_rfl) h
theorem w30 {a100 : Int} {a101 : C} {a102 : C} {a103 : C} {a104 : C} {a200 : Int} {a300 : C} {m : M} {Q : V → M → Prop} (h :
 (∀ m0 : M, (m0 = (M.new m (AO.cells 5 [(Il a100), a101, a102, a103, a104] false))) → ∀ m1 : M, 
 (m1 = (M.new m0 (AO.cells 1 [a300] false))) → ∀ m2 : M, (m2 = (M.new m1 (AO.cells 2 [(Il 0), 
 (Il 0)] false))) → ∀ m3 : M, (m3 = (M.new m2 (AO.cells 1 [C.sl0] false))) → 
 ∃ x4, ∃ c5 : C, ∃ c6 : C, ∃ c7 : C, ∃ c8 : C, ((ldA m3 (C.ptr m.nxt 0) 5) = (some [(Il x4), 
 c5, c6, c7, c8])) ∧ Wc prog tbl 40 [(V.agg 5 [(Il x4), c5, c6, c7, c8]), (V.c (Il a200))] m3 (fun v9 m10 => 
 ∃ c11 : C, (v9 = (V.c c11)) ∧ rangeP prog tbl c11 m10 (fun l12 m13 R14 R15 => ∃ x16, 
 ∃ x17, ∃ x18, ∃ x19, ∃ x20, ∃ x21, ∃ x22, ∃ x23, 
 ∃ x24, ∃ x25, ∃ x26, ∃ x27, ∃ x28, ∃ x29, 
 ∃ x30, ∃ x31, (l12 = [(V.agg 16 [(Il x16), (Il x17), 
 (Il x18), (Il x19), (Il x20), (Il x21), 
 (Il x22), (Il x23), (Il x24), (Il x25), 
 (Il x26), (Il x27), (Il x28), (Il x29), 
 (Il x30), (Il x31)])]) ∧ ∀ m32 : M, (m32 = (M.new m13 (AO.cells 16 [(Il 0), 
 (Il 0), (Il 0), (Il 0), 
 (Il 0), (Il 0), (Il 0), 
 (Il 0), (Il 0), (Il 0), 
 (Il 0), (Il 0), (Il 0), 
 (Il 0), (Il 0), (Il 0)] false))) → 
 ∃ m33 : M, ((stC m32 (C.ptr m13.nxt 0) 16 [(Il x16), (Il x17), 
 (Il x18), (Il x19), (Il x20), (Il x21), 
 (Il x22), (Il x23), (Il x24), (Il x25), 
 (Il x26), (Il x27), (Il x28), (Il x29), 
 (Il x30), (Il x31)]) = (some m33)) ∧ R14 m33 (fun m34 => 
 ∃ c35 : C, ((ldC m34 (C.ptr m2.nxt 0)) = (some c35)) ∧ isPt (C.ptr m0.nxt 0) ∧ 
 ∃ c36 : C, ((ldC m34 (C.ptr m0.nxt 0)) = (some c36)) ∧ ∃ x37, 
 ∃ x38, ∃ x39, ∃ x40, ∃ x41, ∃ x42, ∃ x43, 
 ∃ x44, ∃ x45, ∃ x46, ∃ x47, ∃ x48, ∃ x49, 
 ∃ x50, ∃ x51, ∃ x52, ((ldA m34 (C.ptr m13.nxt 0) 16) = (some [(Il x37), 
 (Il x38), (Il x39), (Il x40), (Il x41), 
 (Il x42), (Il x43), (Il x44), (Il x45), 
 (Il x46), (Il x47), (Il x48), (Il x49), 
 (Il x50), (Il x51), (Il x52)])) ∧ 
 callP prog tbl [(V.agg 16 [(Il x37), (Il x38), 
 (Il x39), (Il x40), (Il x41), (Il x42), 
 (Il x43), (Il x44), (Il x45), (Il x46), 
 (Il x47), (Il x48), (Il x49), (Il x50), 
 (Il x51), (Il x52)])] c36 m34 (fun v53 m54 => ∃ x55, 
 (v53 = (V.c (Il x55))) ∧ (ifB (cmC c35) ((ldC m54 (C.ptr m2.nxt 0)) = (some c35)) False) ∧ 
 ∀ m56 : M, (m56 = (M.new m54 (AO.cells 1 [(Il x55)] false))) → 
 (ifB (cmC c35) ((ldC m56 (C.ptr m2.nxt 0)) = (some c35)) False) ∧ ∃ c57 : C, 
 ∃ m58 : M, (ApR prog 39 m56 c35 (C.sl m54.nxt 0 1 0 (some 1)) c57 m58) ∧ 
 ∃ m59 : M, ((stC m58 (C.ptr m2.nxt 0) 1 [c57]) = (some m59)) ∧ R15 Ex.nrm m59))) (After.mk (fun m60 => 
 ∃ c61 : C, ((ldC m60 (C.ptr m2.nxt 0)) = (some c61)) ∧ Wc prog tbl 66 [(V.c c61)] m60 (fun v62 m63 => 
 ∃ x64, (v62 = (V.c (Il x64))) ∧ ∃ c65 : C, ((ldC m63 (C.ptr m2.nxt 0)) = (some c65)) ∧ 
 (ifB (cmC c65) ((ldC m60 (C.ptr m2.nxt 0)) = (some c65)) False) ∧ Wc prog tbl 67 [(V.c c65)] m63 (fun v66 m67 => 
 ∃ x68, (v66 = (V.c (Il x68))) ∧ ∃ m69 : M, ((stC m67 (C.ptr m1.nxt 0) 2 [(Il x64), 
 (Il x68)]) = (some m69)) ∧ ∃ x70, ∃ x71, 
 ((ldA m69 (C.ptr m1.nxt 0) 2) = (some [(Il x70), (Il x71)])) ∧ 
 Q (V.agg 2 [(Il x70), (Il x71)]) m69))) [] (fun m72 => 
 ∃ x73, ∃ x74, ((ldA m72 (C.ptr m1.nxt 0) 2) = (some [(Il x73), 
 (Il x74)])) ∧ Q (V.agg 2 [(Il x73), (Il x74)]) m72))))) : Wc prog tbl 30 [(V.agg 5 [(Il a100), a101, a102, a103, a104]), (V.c (Il a200)), (V.agg 1 [a300])] m Q :=
 wc_eq (n := 3) rfl (by kernel_rfl) (by kernel_rfl) h
theorem w50 {a100 : Int} {a101 : C} {a102 : C} {a103 : C} {m : M} {Q : V → M → Prop} (h :
 (∀ m0 : M, (m0 = (M.new m (AO.cells 4 [(Il a100), a101, a102, a103] false))) → ∀ m1 : M, (m1 = (M.new m0 (AO.cells 5 [(Il 0), 
 C.sl0, C.sl0, C.sl0, C.map0] false))) → ∃ x2, ∃ c3 : C, ∃ c4 : C, ∃ c5 : C, ((ldA m1 (C.ptr m.nxt 0) 4) = (some [(Il x2), 
 c3, c4, c5])) ∧ Wc prog tbl 20 [(V.agg 4 [(Il x2), c3, c4, c5])] m1 (fun v6 m7 => 
 ∃ x8, (v6 = (V.c (Il x8))) ∧ ifB (!decide (x8 = 0)) (∃ m9 : M, ((stC m7 (C.ptr m0.nxt 0) 5 [(Il 0), 
 C.sl0, C.sl0, C.sl0, C.map0]) = (some m9)) ∧ ∃ x10, ∃ c11 : C, ∃ c12 : C, 
 ∃ c13 : C, ∃ c14 : C, ((ldA m9 (C.ptr m0.nxt 0) 5) = (some [(Il x10), 
 c11, c12, c13, c14])) ∧ Q (V.tup [(U.agg 5 [(Il x10), c11, c12, c13, 
 c14]), (U.c (Il x8))]) m9) (∃ x15, ∃ c16 : C, ∃ c17 : C, 
 ∃ c18 : C, ((ldA m7 (C.ptr m.nxt 0) 4) = (some [(Il x15), c16, c17, 
 c18])) ∧ Wc prog tbl 46 [(V.agg 4 [(Il x15), c16, c17, c18])] m7 (fun v19 m20 => 
 ∃ x21, ∃ c22 : C, ∃ c23 : C, ∃ c24 : C, ∃ c25 : C, (v19 = (V.agg 5 [(Il x21), 
 c22, c23, c24, c25])) ∧ ∀ m26 : M, (m26 = (M.new m20 (AO.cells 5 [(Il 0), 
 C.sl0, C.sl0, C.sl0, C.map0] false))) → ∃ m27 : M, ((stC m26 (C.ptr m20.nxt 0) 5 [(Il x21), 
 c22, c23, c24, c25]) = (some m27)) ∧ ∃ x28, ∃ c29 : C, ∃ c30 : C, 
 ∃ c31 : C, ∃ c32 : C, ((ldA m27 (C.ptr m20.nxt 0) 5) = (some [(Il x28), 
 c29, c30, c31, c32])) ∧ Wc prog tbl 54 [(V.agg 5 [(Il x28), c29, 
 c30, c31, c32])] m27 (fun v33 m34 => ∃ b35 : Bool, (v33 = (V.c (C.bool b35))) ∧ 
 ifB (!b35) (∃ m36 : M, ((stC m34 (C.ptr m0.nxt 0) 5 [(Il 0), 
 C.sl0, C.sl0, C.sl0, C.map0]) = (some m36)) ∧ ∃ x37, ∃ c38 : C, 
 ∃ c39 : C, ∃ c40 : C, ∃ c41 : C, ((ldA m36 (C.ptr m0.nxt 0) 5) = (some [(Il x37), 
 c38, c39, c40, c41])) ∧ Q (V.tup [(U.agg 5 [(Il x37), c38, c39, 
 c40, c41]), (U.c (Il (11 : Int)))]) m36) (∃ x42, 
 ∃ c43 : C, ∃ c44 : C, ∃ c45 : C, ∃ c46 : C, ((ldA m34 (C.ptr m20.nxt 0) 5) = (some [(Il x42), 
 c43, c44, c45, c46])) ∧ ∃ m47 : M, ((stC m34 (C.ptr m0.nxt 0) 5 [(Il x42), 
 c43, c44, c45, c46]) = (some m47)) ∧ ∃ x48, ∃ c49 : C, ∃ c50 : C, 
 ∃ c51 : C, ∃ c52 : C, ((ldA m47 (C.ptr m0.nxt 0) 5) = (some [(Il x48), 
 c49, c50, c51, c52])) ∧ Q (V.tup [(U.agg 5 [(Il x48), c49, c50, 
 c51, c52]), (U.c (Il 0))]) m47))))))) : Wc prog tbl 50 [(V.agg 4 [(Il a100), a101, a102, a103])] m Q :=
 wc_eq (n := 1) rfl (by kernel_rfl) (by kernel_rfl) h
theorem w56 {a100 : Int} {a101 : C} {a102 : C} {a103 : C} {m : M} {Q : V → M → Prop} (h :
 (∀ m0 : M, (m0 = (M.new m (AO.cells 4 [(Il a100), a101, a102, a103] false))) → isPt (C.ptr m.nxt 0) ∧ 
 ∃ x1, ((ldC m0 (C.ptr m.nxt 0)) = (some (Il x1))) ∧ ifB (decide ((0 : Int) ≤ x1)) (isPt (C.ptr m.nxt 0) ∧ 
 ∃ c2 : C, ((ldC m0 (C.ptr m.nxt 1)) = (some c2)) ∧ isSl c2 ∧ ifB (decide ((0 : Int) < (((slLen c2) : Nat) : Int))) (isPt (C.ptr m.nxt 0) ∧ 
 ∃ c3 : C, ((ldC m0 (C.ptr m.nxt 2)) = (some c3)) ∧ isSl c3 ∧ ifB (decide ((0 : Int) < (((slLen c3) : Nat) : Int))) (isPt (C.ptr m.nxt 0) ∧ 
 ∃ c4 : C, ((ldC m0 (C.ptr m.nxt 1)) = (some c4)) ∧ ∃ x5, ∃ c6 : C, ∃ c7 : C, 
 ∃ c8 : C, ((ldA m0 (C.ptr m.nxt 0) 4) = (some [(Il x5), c6, 
 c7, c8])) ∧ optB (mapO vW [(V.agg 4 [(Il x5), c6, c7, c8])]) False fun l9 => 
 Wc prog tbl 87 [(V.c c4), (V.c (C.fn (Fn.func 88) l9 []))] m0 (fun v10 m11 => ∃ b12 : Bool, 
 (v10 = (V.c (C.bool b12))) ∧ ifB b12 (isPt (C.ptr m.nxt 0) ∧ ∃ c13 : C, ((ldC m11 (C.ptr m.nxt 2)) = (some c13)) ∧ 
 ∃ x14, ∃ c15 : C, ∃ c16 : C, ∃ c17 : C, ((ldA m11 (C.ptr m.nxt 0) 4) = (some [(Il x14), 
 c15, c16, c17])) ∧ optB (mapO vW [(V.agg 4 [(Il x14), c15, c16, 
 c17])]) False fun l18 => Wc prog tbl 57 [(V.c c13), (V.c (C.fn (Fn.func 89) l18 []))] m11 (fun v19 m20 => 
 ∃ b21 : Bool, (v19 = (V.c (C.bool b21))) ∧ ifB b21 (isPt (C.ptr m.nxt 0) ∧ 
 ∃ c22 : C, ((ldC m20 (C.ptr m.nxt 3)) = (some c22)) ∧ ∃ x23, 
 ∃ c24 : C, ∃ c25 : C, ∃ c26 : C, ((ldA m20 (C.ptr m.nxt 0) 4) = (some [(Il x23), 
 c24, c25, c26])) ∧ optB (mapO vW [(V.agg 4 [(Il x23), c24, c25, 
 c26])]) False fun l27 => Wc prog tbl 81 [(V.c c22), (V.c (C.fn (Fn.func 90) l27 []))] m20 (fun v28 m29 => 
 ∃ b30 : Bool, (v28 = (V.c (C.bool b30))) ∧ Q (V.c (C.bool b30)) m29)) (Q (V.c (C.bool false)) m20))) (Q (V.c (C.bool false)) m11))) (Q (V.c (C.bool false)) m0)) (Q (V.c (C.bool false)) m0)) (Q (V.c (C.bool false)) m0))) : Wc prog tbl 56 [(V.agg 4 [(Il a100), a101, a102, a103])] m Q :=
 wc_eq (n := 1) rfl (by kernel_rfl) (by kernel_rfl) h
theorem w59 {a100 : Int} {a101 : C} {a102 : C} {a103 : C} {m : M} {Q : V → M → Prop} (h :
 (∀ m0 : M, (m0 = (M.new m (AO.cells 4 [(Il a100), a101, a102, a103] false))) → isPt (C.ptr m.nxt 0) ∧ 
 ∃ c1 : C, ((ldC m0 (C.ptr m.nxt 1)) = (some c1)) ∧ isSl c1 ∧ ifB (decide ((5 : Int) < (((slLen c1) : Nat) : Int))) (Q (V.c (C.bool false)) m0) (isPt (C.ptr m.nxt 0) ∧ 
 ∃ c2 : C, ((ldC m0 (C.ptr m.nxt 2)) = (some c2)) ∧ isSl c2 ∧ ifB (decide ((5 : Int) < (((slLen c2) : Nat) : Int))) (Q (V.c (C.bool false)) m0) (isPt (C.ptr m.nxt 0) ∧ 
 ∃ c3 : C, ((ldC m0 (C.ptr m.nxt 3)) = (some c3)) ∧ isSl c3 ∧ ifB (decide ((9 : Int) < (((slLen c3) : Nat) : Int))) (Q (V.c (C.bool false)) m0) (∀ R4 : List V → 
 M → Prop, (∀ b5 : Bool, ∀ x6 : Int, ∀ m7 : M, (isPt (C.ptr m.nxt 0) ∧ ∃ c8 : C, ((ldC m7 (C.ptr m.nxt 1)) = (some c8)) ∧ 
 isSl c8 ∧ ifB (decide (x6 < (((slLen c8) : Nat) : Int))) (isPt (C.ptr m.nxt 0) ∧ 
 ∃ c9 : C, ((ldC m7 (C.ptr m.nxt 1)) = (some c9)) ∧ ∃ n10 : Nat, (x6 = ((n10 : Nat) : Int)) ∧ 
 (n10 < (slLen c9)) ∧ ∃ c11 : C, ((ldC m7 (slAt c9 (n10 * 1))) = (some c11)) ∧ 
 isSl c11 ∧ ifB (decide ((20 : Int) < (((slLen c11) : Nat) : Int))) (Q (V.c (C.bool false)) m7) (fitsP .i64 (x6 + 1) ∧ 
 R4 [(V.c (C.bool b5)), (V.c (Il (x6 + 1)))] m7)) (∃ x12, 
 ∃ c13 : C, ∃ c14 : C, ∃ c15 : C, ((ldA m7 (C.ptr m.nxt 0) 4) = (some [(Il x12), 
 c13, c14, c15])) ∧ Wc prog tbl 60 [(V.agg 4 [(Il x12), c13, c14, 
 c15])] m7 (fun v16 m17 => ∃ x18, (v16 = (V.c (Il x18))) ∧ 
 ∀ R19 : List V → M → Prop, (∀ b20 : Bool, ∀ x21 : Int, ∀ m22 : M, (isPt (C.ptr m.nxt 0) ∧ 
 ∃ c23 : C, ((ldC m22 (C.ptr m.nxt 2)) = (some c23)) ∧ isSl c23 ∧ 
 ifB (decide (x21 < (((slLen c23) : Nat) : Int))) (ifB (!(!decide (x18 = 0))) (isPt (C.ptr m.nxt 0) ∧ 
 ∃ c24 : C, ((ldC m22 (C.ptr m.nxt 2)) = (some c24)) ∧ ∃ n25 : Nat, 
 (x21 = ((n25 : Nat) : Int)) ∧ (n25 < (slLen c24)) ∧ ∃ x26, ∃ x27, 
 ∃ x28, ∃ x29, ∃ x30, ∃ x31, ∃ x32, ((ldA m22 (slAt c24 (n25 * 7)) 7) = (some [(Il x26), 
 (Il x27), (Il x28), (Il x29), (Il x30), 
 (Il x31), (Il x32)])) ∧ Wc prog tbl 94 [(V.agg 7 [(Il x26), 
 (Il x27), (Il x28), (Il x29), (Il x30), 
 (Il x31), (Il x32)])] m22 (fun v33 m34 => ∃ x35, 
 (v33 = (V.c (Il x35))) ∧ ifB (decide ((200 : Int) < x35)) (Q (V.c (C.bool false)) m34) (fitsP .i64 (x21 + 1) ∧ 
 R19 [(V.c (C.bool b20)), (V.c (Il (x21 + 1)))] m34))) (fitsP .i64 (x21 + 1) ∧ 
 R19 [(V.c (C.bool b20)), (V.c (Il (x21 + 1)))] m22)) (Q (V.c (C.bool true)) m22)) → 
 R19 [(V.c (C.bool b20)), (V.c (Il x21))] m22) → R19 [(V.c (C.bool b5)), 
 (V.c (Il 0))] m17))) → R4 [(V.c (C.bool b5)), 
 (V.c (Il x6))] m7) → R4 [(V.c (C.bool false)), (V.c (Il 0))] m0))))) : Wc prog tbl 59 [(V.agg 4 [(Il a100), a101, a102, a103])] m Q :=
 wc_eq (n := 1) rfl (by kernel_rfl) (by kernel_rfl) h
theorem w62 {a100 : Int} {a101 : Int} {m : M} {Q : V → M → Prop} (h :
 (∀ m0 : M, (m0 = (M.new m (AO.cells 2 [(Il a100), (Il a101)] false))) → ∀ m1 : M, 
 (m1 = (M.new m0 (AO.cells 2 [(Il 0), (Il 0)] false))) → isPt (C.ptr m.nxt 0) ∧ 
 ∃ x2, ((ldC m1 (C.ptr m.nxt 0)) = (some (Il x2))) ∧ isPt (C.ptr m.nxt 0) ∧ 
 ∃ x3, ((ldC m1 (C.ptr m.nxt 1)) = (some (Il x3))) ∧ ∃ m4 : M, ((stC m1 (C.ptr m0.nxt 0) 2 [(Il x2), 
 (Il x3)]) = (some m4)) ∧ ∃ x5, ∃ x6, ((ldA m4 (C.ptr m0.nxt 0) 2) = (some [(Il x5), 
 (Il x6)])) ∧ Q (V.agg 2 [(Il x5), (Il x6)]) m4)) : Wc prog tbl 62 [(V.agg 2 [(Il a100), (Il a101)])] m Q :=
 wc_eq (n := 1) rfl (by kernel_rfl) (by kernel_rfl) h
theorem w65 {a100 : Int} {a101 : Int} {a200 : Int} {m : M} {Q : V → M → Prop} (h :
 (∀ m0 : M, (m0 = (M.new m (AO.cells 2 [(Il a100), (Il a101)] false))) → isPt (C.ptr m.nxt 0) ∧ 
 ∃ x1, ((ldC m0 (C.ptr m.nxt 0)) = (some (Il x1))) ∧ ifB (decide (x1 ≤ a200)) (isPt (C.ptr m.nxt 0) ∧ 
 ∃ x2, ((ldC m0 (C.ptr m.nxt 1)) = (some (Il x2))) ∧ Q (V.c (C.bool (decide (a200 ≤ x2)))) m0) (Q (V.c (C.bool false)) m0))) : Wc prog tbl 65 [(V.agg 2 [(Il a100), (Il a101)]), (V.c (Il a200))] m Q :=
 wc_eq (n := 2) rfl (by kernel_rfl) (by kernel_rfl) h
theorem w76 {a100 : Int} {a101 : Int} {m : M} {Q : V → M → Prop} (h :
 (∀ m0 : M, (m0 = (M.new m (AO.cells 2 [(Il a100), (Il a101)] false))) → Q (V.c (C.fn (Fn.func 100) [] [(W.c (C0.ptr m.nxt 0))])) m0)) : Wc prog tbl 76 [(V.agg 2 [(Il a100), (Il a101)])] m Q :=
 wc_eq (n := 1) rfl (by kernel_rfl) (by kernel_rfl) h
theorem w83 {a100 : Int} {a101 : Int} {a102 : Int} {a103 : Int} {a104 : Int} {a105 : Int} {a106 : Int} {a107 : Int} {a108 : Int} {a109 : Int} {a110 : Int} {a111 : Int} {a112 : Int} {a113 : Int} {a114 : Int} {a115 : Int} {m : M} {Q : V → M → Prop} (h :
 (∀ m0 : M, (m0 = (M.new m (AO.cells 16 [(Il a100), (Il a101), (Il a102), 
 (Il a103), (Il a104), (Il a105), (Il a106), 
 (Il a107), (Il a108), (Il a109), (Il a110), 
 (Il a111), (Il a112), (Il a113), (Il a114), 
 (Il a115)] false))) → isPt (C.ptr m.nxt 0) ∧ isPt (C.ptr m.nxt 0) ∧ ∃ x1, 
 ((ldC m0 (C.ptr m.nxt 0)) = (some (Il x1))) ∧ Q (V.c (Il x1)) m0)) : Wc prog tbl 83 [(V.agg 16 [(Il a100), (Il a101), (Il a102), (Il a103), (Il a104), (Il a105), (Il a106), (Il a107), (Il a108), (Il a109), (Il a110), (Il a111), (Il a112), (Il a113), (Il a114), (Il a115)])] m Q :=
 wc_eq (n := 1) rfl (by kernel_rfl) (by kernel_rfl) h
theorem w86 {a100 : Int} {a101 : C} {a102 : C} {a103 : C} {a104 : C} {a200 : Int} {m : M} {Q : V → M → Prop} (h :
 (∀ m0 : M, (m0 = (M.new m (AO.cells 5 [(Il a100), a101, a102, a103, a104] false))) → ∀ m1 : M, 
 (m1 = (M.new m0 (AO.cells 1 [(C.bool false)] false))) → ∃ x2, ∃ c3 : C, ∃ c4 : C, ∃ c5 : C, ∃ c6 : C, 
 ((ldA m1 (C.ptr m.nxt 0) 5) = (some [(Il x2), c3, c4, c5, c6])) ∧ Wc prog tbl 40 [(V.agg 5 [(Il x2), 
 c3, c4, c5, c6]), (V.c (Il a200))] m1 (fun v7 m8 => ∃ c9 : C, (v7 = (V.c c9)) ∧ 
 rangeP prog tbl c9 m8 (fun l10 m11 R12 R13 => ∃ x14, ∃ x15, ∃ x16, ∃ x17, 
 ∃ x18, ∃ x19, ∃ x20, ∃ x21, ∃ x22, ∃ x23, ∃ x24, 
 ∃ x25, ∃ x26, ∃ x27, ∃ x28, ∃ x29, (l10 = [(V.agg 16 [(Il x14), 
 (Il x15), (Il x16), (Il x17), (Il x18), 
 (Il x19), (Il x20), (Il x21), (Il x22), 
 (Il x23), (Il x24), (Il x25), (Il x26), 
 (Il x27), (Il x28), (Il x29)])]) ∧ 
 R12 m11 (fun m30 => ∃ m31 : M, ((stC m30 (C.ptr m0.nxt 0) 1 [(C.bool true)]) = (some m31)) ∧ 
 R13 Ex.ret m31)) (After.mk (fun m32 => ∃ m33 : M, ((stC m32 (C.ptr m0.nxt 0) 1 [(C.bool false)]) = (some m33)) ∧ 
 ∃ b34 : Bool, ((ldC m33 (C.ptr m0.nxt 0)) = (some (C.bool b34))) ∧ Q (V.c (C.bool b34)) m33) [] (fun m35 => 
 ∃ b36 : Bool, ((ldC m35 (C.ptr m0.nxt 0)) = (some (C.bool b36))) ∧ Q (V.c (C.bool b36)) m35))))) : Wc prog tbl 86 [(V.agg 5 [(Il a100), a101, a102, a103, a104]), (V.c (Il a200))] m Q :=
 wc_eq (n := 2) rfl (by kernel_rfl) (by kernel_rfl) h
theorem w89 {a100 : Int} {a101 : C} {a102 : C} {a103 : C} {a200 : Int} {a201 : Int} {a202 : Int} {a203 : Int} {a204 : Int} {a205 : Int} {a206 : Int} {m : M} {Q : V → M → Prop} (h :
 (∀ m0 : M, (m0 = (M.new m (AO.cells 4 [(Il a100), a101, a102, a103] false))) → ∀ m1 : M, (m1 = (M.new m0 (AO.cells 7 [(Il a200), 
 (Il a201), (Il a202), (Il a203), (Il a204), 
 (Il a205), (Il a206)] false))) → isPt (C.ptr m.nxt 0) ∧ ∃ c2 : C, 
 ((ldC m1 (C.ptr m.nxt 1)) = (some c2)) ∧ isSl c2 ∧ fitsP .i64 ((((slLen c2) : Nat) : Int) - (1 : Int)) ∧ 
 isPt (C.ptr m0.nxt 0) ∧ ∃ x3, ((ldC m1 (C.ptr m0.nxt 0)) = (some (Il x3))) ∧ 
 Wc prog tbl 65 [(V.agg 2 [(Il 0), (Il ((((slLen c2) : Nat) : Int) - (1 : Int)))]), 
 (V.c (Il x3))] m1 (fun v4 m5 => ∃ b6 : Bool, (v4 = (V.c (C.bool b6))) ∧ ifB b6 (isPt (C.ptr m0.nxt 0) ∧ 
 ∃ x7, ∃ x8, ((ldA m5 (C.ptr m0.nxt 1) 2) = (some [(Il x7), 
 (Il x8)])) ∧ isPt (C.ptr m.nxt 0) ∧ ∃ x9, ((ldC m5 (C.ptr m.nxt 0)) = (some (Il x9))) ∧ 
 Wc prog tbl 107 [(V.agg 2 [(Il x7), (Il x8)]), (V.c (Il 0)), 
 (V.c (Il x9))] m5 (fun v10 m11 => ∃ b12 : Bool, (v10 = (V.c (C.bool b12))) ∧ 
 ifB b12 (isPt (C.ptr m0.nxt 0) ∧ ∃ x13, ∃ x14, ((ldA m11 (C.ptr m0.nxt 3) 2) = (some [(Il x13), 
 (Il x14)])) ∧ Wc prog tbl 107 [(V.agg 2 [(Il x13), 
 (Il x14)]), (V.c (Il 0)), (V.c (Il (100 : Int)))] m11 (fun v15 m16 => 
 ∃ b17 : Bool, (v15 = (V.c (C.bool b17))) ∧ ifB b17 (isPt (C.ptr m0.nxt 0) ∧ 
 ∃ x18, ∃ x19, ((ldA m16 (C.ptr m0.nxt 5) 2) = (some [(Il x18), 
 (Il x19)])) ∧ Wc prog tbl 107 [(V.agg 2 [(Il x18), 
 (Il x19)]), (V.c (Il 0)), (V.c (Il (100 : Int)))] m16 (fun v20 m21 => 
 ∃ b22 : Bool, (v20 = (V.c (C.bool b22))) ∧ Q (V.c (C.bool b22)) m21)) (Q (V.c (C.bool false)) m16))) (Q (V.c (C.bool false)) m11))) (Q (V.c (C.bool false)) m5)))) : Wc prog tbl 89 [(V.agg 4 [(Il a100), a101, a102, a103]), (V.agg 7 [(Il a200), (Il a201), (Il a202), (Il a203), (Il a204), (Il a205), (Il a206)])] m Q :=
 wc_eq (n := 2) rfl (by kernel_rfl) (by kernel_rfl) h
theorem w93 {a100 : Int} {a101 : Int} {m : M} {Q : V → M → Prop} (h :
 (∀ m0 : M, (m0 = (M.new m (AO.cells 2 [(Il a100), (Il a101)] false))) → isPt (C.ptr m.nxt 0) ∧ 
 ∃ x1, ((ldC m0 (C.ptr m.nxt 1)) = (some (Il x1))) ∧ isPt (C.ptr m.nxt 0) ∧ 
 ∃ x2, ((ldC m0 (C.ptr m.nxt 0)) = (some (Il x2))) ∧ fitsP .i64 (x1 - x2) ∧ 
 fitsP .i64 ((x1 - x2) + (1 : Int)) ∧ Q (V.c (Il ((x1 - x2) + (1 : Int)))) m0)) : Wc prog tbl 93 [(V.agg 2 [(Il a100), (Il a101)])] m Q :=
 wc_eq (n := 1) rfl (by kernel_rfl) (by kernel_rfl) h
theorem w96 {a100 : Int} {a101 : Int} {a200 : Int} {a300 : Int} {m : M} {Q : V → M → Prop} (h :
 (∀ m0 : M, (m0 = (M.new m (AO.cells 2 [(Il a100), (Il a101)] false))) → isPt (C.ptr m.nxt 0) ∧ 
 ∃ x1, ((ldC m0 (C.ptr m.nxt 0)) = (some (Il x1))) ∧ ifB (decide (a200 ≤ x1)) (isPt (C.ptr m.nxt 0) ∧ 
 ∃ x2, ((ldC m0 (C.ptr m.nxt 0)) = (some (Il x2))) ∧ isPt (C.ptr m.nxt 0) ∧ 
 ∃ x3, ((ldC m0 (C.ptr m.nxt 1)) = (some (Il x3))) ∧ ifB (decide (x2 ≤ x3)) (isPt (C.ptr m.nxt 0) ∧ 
 ∃ x4, ((ldC m0 (C.ptr m.nxt 1)) = (some (Il x4))) ∧ Q (V.c (C.bool (decide (x4 ≤ a300)))) m0) (Q (V.c (C.bool false)) m0)) (Q (V.c (C.bool false)) m0))) : Wc prog tbl 96 [(V.agg 2 [(Il a100), (Il a101)]), (V.c (Il a200)), (V.c (Il a300))] m Q :=
 wc_eq (n := 3) rfl (by kernel_rfl) (by kernel_rfl) h
theorem w104 {a100 : C} {a200 : C} {m : M} {Q : V → M → Prop} (h :
 (Wc prog tbl 111 [(V.c a100), (V.c a200)] m (fun v0 m1 => ∃ x2, (v0 = (V.c (Il x2))) ∧ Q (V.c (C.bool (decide ((0 : Int) ≤ x2)))) m1))) : Wc prog tbl 104 [(V.c a100), (V.c a200)] m Q :=
 wc_eq (n := 2) rfl (by kernel_rfl) (by kernel_rfl) h
theorem w108 {a100 : C} {a200 : C} {m : M} {Q : V → M → Prop} (h :
 (isSl a100 ∧ ∀ R0 : List V → M → Prop, (∀ x1 : Int, ∀ x2 : Int, ∀ m3 : M, (ifB (decide (x2 < (((slLen a100) : Nat) : Int))) (∃ n4 : Nat, 
 (x2 = ((n4 : Nat) : Int)) ∧ (n4 < (slLen a100)) ∧ ∃ x5, ∃ x6, ∃ x7, ∃ x8, 
 ∃ x9, ∃ x10, ∃ x11, ((ldA m3 (slAt a100 (n4 * 7)) 7) = (some [(Il x5), 
 (Il x6), (Il x7), (Il x8), (Il x9), 
 (Il x10), (Il x11)])) ∧ callP prog tbl [(V.agg 7 [(Il x5), 
 (Il x6), (Il x7), (Il x8), (Il x9), 
 (Il x10), (Il x11)])] a200 m3 (fun v12 m13 => ∃ b14 : Bool, 
 (v12 = (V.c (C.bool b14))) ∧ ifB b14 (Q (V.c (Il x2)) m13) (fitsP .i64 (x2 + 1) ∧ 
 R0 [(V.c (Il x1)), (V.c (Il (x2 + 1)))] m13))) (Q (V.c (Il (-1 : Int))) m3)) → 
 R0 [(V.c (Il x1)), (V.c (Il x2))] m3) → R0 [(V.c (Il 0)), 
 (V.c (Il 0))] m)) : Wc prog tbl 108 [(V.c a100), (V.c a200)] m Q :=
 wc_eq (n := 2) rfl (by kernel_rfl) (by kernel_rfl) h
theorem w111 {a100 : C} {a200 : C} {m : M} {Q : V → M → Prop} (h :
 (isSl a100 ∧ ∀ R0 : List V → M → Prop, (∀ x1 : Int, ∀ x2 : Int, ∀ m3 : M, (ifB (decide (x2 < (((slLen a100) : Nat) : Int))) (∃ n4 : Nat, 
 (x2 = ((n4 : Nat) : Int)) ∧ (n4 < (slLen a100)) ∧ ∃ c5 : C, ((ldC m3 (slAt a100 (n4 * 1))) = (some c5)) ∧ 
 callP prog tbl [(V.c c5)] a200 m3 (fun v6 m7 => ∃ b8 : Bool, (v6 = (V.c (C.bool b8))) ∧ ifB b8 (Q (V.c (Il x2)) m7) (fitsP .i64 (x2 + 1) ∧ 
 R0 [(V.c (Il x1)), (V.c (Il (x2 + 1)))] m7))) (Q (V.c (Il (-1 : Int))) m3)) → 
 R0 [(V.c (Il x1)), (V.c (Il x2))] m3) → R0 [(V.c (Il 0)), 
 (V.c (Il 0))] m)) : Wc prog tbl 111 [(V.c a100), (V.c a200)] m Q :=
 wc_eq (n := 2) rfl (by kernel_rfl) (by kernel_rfl) h
end
end Go.Proofs.Ytmlaphekbnanjaa

namespace Go.Proofs.Ytmlaphekbnanjaa
open _root_.Go.Proofs.Try
open Go.Abs
set_option maxRecDepth 100000
noncomputable section
theorem w18 {a100 : Int} {a101 : C} {a102 : C} {a103 : C} {a200 : Int} {a300 : Int} {m : M} {Q : V → M → Prop} (h :
 (∀ m0 : M, (m0 = (M.new m (AO.cells 4 [(Il a100), a101, a102, a103] false))) → ∀ m1 : M, (m1 = (mGrow m0 1)) → 
 ∃ x2, ∃ c3 : C, ∃ c4 : C, ∃ c5 : C, ((ldA m1 (C.ptr m.nxt 0) 4) = (some [(Il x2), 
 c3, c4, c5])) ∧ Wc prog tbl 33 [(V.c (Il a300))] m1 (fun v6 m7 => ∃ b8 : Bool, 
 (v6 = (V.c (C.bool b8))) ∧ (ifB (allS cmC [(Il x2), c3, c4, c5]) ((ldA m7 (C.ptr m.nxt 0) 4) = (some [(Il x2), 
 c3, c4, c5])) False) ∧ Wc prog tbl 28 [(V.agg 4 [(Il x2), c3, c4, c5]), (V.c (Il a200)), 
 (V.c (C.bool b8))] m7 (fun v9 m10 => ∃ x11, ∃ c12 : C, ∃ c13 : C, ∃ c14 : C, ∃ c15 : C, 
 ∃ x16, (v9 = (V.tup [(U.agg 5 [(Il x11), c12, c13, c14, c15]), 
 (U.c (Il x16))])) ∧ ∀ m17 : M, (m17 = (M.set m10 (m0.nxt + 0) (AO.cells 5 [(Il 0), 
 C.sl0, C.sl0, C.sl0, C.map0] false))) → (ifB (allS cmC [(Il x2), 
 c3, c4, c5]) ((ldA m17 (C.ptr m.nxt 0) 4) = (some [(Il x2), 
 c3, c4, c5])) False) ∧ ∃ m18 : M, ((stC m17 (C.ptr (m0.nxt + 0) 0) 5 [(Il x11), 
 c12, c13, c14, c15]) = (some m18)) ∧ ifB (!decide (x16 = 0)) (Q (V.tup [(U.c C.sl0), 
 (U.c (Il x16))]) m18) (∃ x19, ∃ c20 : C, ∃ c21 : C, ∃ c22 : C, 
 ∃ c23 : C, ((ldA m18 (C.ptr (m0.nxt + 0) 0) 5) = (some [(Il x19), 
 c20, c21, c22, c23])) ∧ Wc prog tbl 40 [(V.agg 5 [(Il x19), c20, 
 c21, c22, c23]), (V.c (Il a200))] m18 (fun v24 m25 => ∃ c26 : C, 
 (v24 = (V.c c26)) ∧ Wc prog tbl 39 [(V.c c26)] m25 (fun v27 m28 => ∃ c29 : C, 
 (v27 = (V.c c29)) ∧ isPt (C.ptr m.nxt 0) ∧ ∃ x30, ((ldC m28 (C.ptr m.nxt 0)) = (some (Il x30))) ∧ 
 fitsP .i64 (x30 + 1) ∧ ∀ R31 : List V → M → Prop, (∀ c32 : C, 
 ∀ x33 : Int, ∀ m34 : M, (ifB (decide (x33 < (x30 + 1))) (Wc prog tbl 52 [(V.c c29), 
 (V.c (Il x33)), (V.c (Il a300))] m34 (fun v35 m36 => 
 ∃ b37 : Bool, (v35 = (V.c (C.bool b37))) ∧ ifB b37 (∀ m38 : M, (m38 = (M.new m36 (AO.cells 1 [(Il x33)] false))) → 
 ∃ c39 : C, ∃ m40 : M, (ApR prog 39 m38 c32 (C.sl m36.nxt 0 1 0 (some 1)) c39 m40) ∧ 
 fitsP .i64 (x33 + 1) ∧ R31 [(V.c c39), (V.c (Il (x33 + 1)))] m40) (fitsP .i64 (x33 + 1) ∧ 
 R31 [(V.c c32), (V.c (Il (x33 + 1)))] m36))) (Q (V.tup [(U.c c32), 
 (U.c (Il 0))]) m34)) → R31 [(V.c c32), (V.c (Il x33))] m34) → 
 R31 [(V.c C.sl0), (V.c (Il 0))] m28))))))) : Wc prog tbl 18 [(V.agg 4 [(Il a100), a101, a102, a103]), (V.c (Il a200)), (V.c (Il a300))] m Q :=
 wc_eq (n := 3) rfl (by kernel_rfl) (by kernel_rfl) h
theorem w22 {a100 : Int} {a101 : C} {a102 : C} {a103 : C} {m : M} {Q : V → M → Prop} (h :
 (∀ m0 : M, (m0 = (M.new m (AO.cells 4 [(Il a100), a101, a102, a103] false))) → ∃ x1, ∃ c2 : C, 
 ∃ c3 : C, ∃ c4 : C, ((ldA m0 (C.ptr m.nxt 0) 4) = (some [(Il x1), c2, c3, c4])) ∧ 
 Wc prog tbl 59 [(V.agg 4 [(Il x1), c2, c3, c4])] m0 (fun v5 m6 => ∃ b7 : Bool, (v5 = (V.c (C.bool b7))) ∧ 
 ifB b7 (∃ x8, ∃ c9 : C, ∃ c10 : C, ∃ c11 : C, ((ldA m6 (C.ptr m.nxt 0) 4) = (some [(Il x8), 
 c9, c10, c11])) ∧ Wc prog tbl 60 [(V.agg 4 [(Il x8), c9, c10, c11])] m6 (fun v12 m13 => 
 ∃ x14, (v12 = (V.c (Il x14))) ∧ Q (V.c (C.bool (decide (x14 = 0)))) m13)) (Q (V.c (C.bool false)) m6)))) : Wc prog tbl 22 [(V.agg 4 [(Il a100), a101, a102, a103])] m Q :=
 wc_eq (n := 1) rfl (by kernel_rfl) (by kernel_rfl) h
theorem w25 {a100 : Int} {a200 : Int} {a300 : Int} {m : M} {Q : V → M → Prop} (h :
 (ifB (decide (a200 ≤ a100)) (Q (V.c (C.bool (decide (a100 ≤ a300)))) m) (Q (V.c (C.bool false)) m))) : Wc prog tbl 25 [(V.c (Il a100)), (V.c (Il a200)), (V.c (Il a300))] m Q :=
 wc_eq (n := 3) rfl (by kernel_rfl) (by kernel_rfl) h
theorem w28 {a100 : Int} {a101 : C} {a102 : C} {a103 : C} {a200 : Int} {a300 : Bool} {m : M} {Q : V → M → Prop} (h :
 (∀ m0 : M, (m0 = (M.new m (AO.cells 4 [(Il a100), a101, a102, a103] false))) → ∀ m1 : M, (m1 = (M.new m0 (AO.cells 5 [(Il 0), 
 C.sl0, C.sl0, C.sl0, C.map0] false))) → ∃ x2, ∃ c3 : C, ∃ c4 : C, ∃ c5 : C, ((ldA m1 (C.ptr m.nxt 0) 4) = (some [(Il x2), 
 c3, c4, c5])) ∧ Wc prog tbl 20 [(V.agg 4 [(Il x2), c3, c4, c5])] m1 (fun v6 m7 => 
 ∃ x8, (v6 = (V.c (Il x8))) ∧ ifB (!decide (x8 = 0)) (∃ m9 : M, ((stC m7 (C.ptr m0.nxt 0) 5 [(Il 0), 
 C.sl0, C.sl0, C.sl0, C.map0]) = (some m9)) ∧ ∃ x10, ∃ c11 : C, ∃ c12 : C, 
 ∃ c13 : C, ∃ c14 : C, ((ldA m9 (C.ptr m0.nxt 0) 5) = (some [(Il x10), 
 c11, c12, c13, c14])) ∧ Q (V.tup [(U.agg 5 [(Il x10), c11, c12, c13, 
 c14]), (U.c (Il x8))]) m9) (∃ x15, ∃ c16 : C, ∃ c17 : C, 
 ∃ c18 : C, ((ldA m7 (C.ptr m.nxt 0) 4) = (some [(Il x15), c16, c17, 
 c18])) ∧ Wc prog tbl 64 [(V.agg 4 [(Il x15), c16, c17, c18]), (V.c (Il a200))] m7 (fun v19 m20 => 
 ∃ b21 : Bool, (v19 = (V.c (C.bool b21))) ∧ ifB (!b21) (∃ m22 : M, ((stC m20 (C.ptr m0.nxt 0) 5 [(Il 0), 
 C.sl0, C.sl0, C.sl0, C.map0]) = (some m22)) ∧ ∃ x23, ∃ c24 : C, 
 ∃ c25 : C, ∃ c26 : C, ∃ c27 : C, ((ldA m22 (C.ptr m0.nxt 0) 5) = (some [(Il x23), 
 c24, c25, c26, c27])) ∧ Q (V.tup [(U.agg 5 [(Il x23), c24, c25, 
 c26, c27]), (U.c (Il (2 : Int)))]) m22) (ifB (!a300) (∃ m28 : M, 
 ((stC m20 (C.ptr m0.nxt 0) 5 [(Il 0), C.sl0, C.sl0, C.sl0, 
 C.map0]) = (some m28)) ∧ ∃ x29, ∃ c30 : C, ∃ c31 : C, ∃ c32 : C, 
 ∃ c33 : C, ((ldA m28 (C.ptr m0.nxt 0) 5) = (some [(Il x29), 
 c30, c31, c32, c33])) ∧ Q (V.tup [(U.agg 5 [(Il x29), c30, c31, 
 c32, c33]), (U.c (Il (2 : Int)))]) m28) (∃ x34, 
 ∃ c35 : C, ∃ c36 : C, ∃ c37 : C, ((ldA m20 (C.ptr m.nxt 0) 4) = (some [(Il x34), 
 c35, c36, c37])) ∧ Wc prog tbl 50 [(V.agg 4 [(Il x34), c35, c36, 
 c37])] m20 (fun v38 m39 => ∃ x40, ∃ c41 : C, ∃ c42 : C, ∃ c43 : C, 
 ∃ c44 : C, ∃ x45, (v38 = (V.tup [(U.agg 5 [(Il x40), 
 c41, c42, c43, c44]), (U.c (Il x45))])) ∧ ∃ m46 : M, ((stC m39 (C.ptr m0.nxt 0) 5 [(Il x40), 
 c41, c42, c43, c44]) = (some m46)) ∧ ∃ x47, ∃ c48 : C, ∃ c49 : C, 
 ∃ c50 : C, ∃ c51 : C, ((ldA m46 (C.ptr m0.nxt 0) 5) = (some [(Il x47), 
 c48, c49, c50, c51])) ∧ Q (V.tup [(U.agg 5 [(Il x47), c48, c49, 
 c50, c51]), (U.c (Il x45))]) m46)))))))) : Wc prog tbl 28 [(V.agg 4 [(Il a100), a101, a102, a103]), (V.c (Il a200)), (V.c (C.bool a300))] m Q :=
 wc_eq (n := 3) rfl (by kernel_rfl) (by kernel_rfl) h
theorem w39 {a100 : C} {m : M} {Q : V → M → Prop} (h :
 (Wc prog tbl 70 [(V.c C.sl0), (V.c a100)] m (fun v0 m1 => ∃ c2 : C, (v0 = (V.c c2)) ∧ Q (V.c c2) m1))) : Wc prog tbl 39 [(V.c a100)] m Q :=
 wc_eq (n := 1) rfl (by kernel_rfl) (by kernel_rfl) h
theorem w51 {a100 : Int} {a101 : C} {a102 : C} {a103 : C} {a104 : C} {a200 : Int} {m : M} {Q : V → M → Prop} (h :
 (∀ m0 : M, (m0 = (M.new m (AO.cells 5 [(Il a100), a101, a102, a103, a104] false))) → ∀ m1 : M, 
 (m1 = (M.new m0 (AO.cells 8 [(Il 0), (Il 0), (Il 0), 
 (Il 0), (Il 0), (Il 0), (Il 0), 
 (Il 0)] false))) → ∃ x2, ∃ c3 : C, ∃ c4 : C, ∃ c5 : C, ∃ c6 : C, 
 ((ldA m1 (C.ptr m.nxt 0) 5) = (some [(Il x2), c3, c4, c5, c6])) ∧ Wc prog tbl 30 [(V.agg 5 [(Il x2), 
 c3, c4, c5, c6]), (V.c (Il a200)), (V.agg 1 [(C.fn (Fn.func 83) [] [])])] m1 (fun v7 m8 => 
 ∃ x9, ∃ x10, (v7 = (V.agg 2 [(Il x9), (Il x10)])) ∧ 
 ∃ x11, ∃ c12 : C, ∃ c13 : C, ∃ c14 : C, ∃ c15 : C, ((ldA m8 (C.ptr m.nxt 0) 5) = (some [(Il x11), 
 c12, c13, c14, c15])) ∧ (ifB (allS cmC [(Il x11), c12, c13, c14, c15]) ((ldA m1 (C.ptr m.nxt 0) 5) = (some [(Il x11), 
 c12, c13, c14, c15])) False) ∧ Wc prog tbl 30 [(V.agg 5 [(Il x11), 
 c12, c13, c14, c15]), (V.c (Il a200)), (V.agg 1 [(C.fn (Fn.func 84) [] [])])] m8 (fun v16 m17 => 
 ∃ x18, ∃ x19, (v16 = (V.agg 2 [(Il x18), (Il x19)])) ∧ 
 ∃ x20, ∃ c21 : C, ∃ c22 : C, ∃ c23 : C, ∃ c24 : C, ((ldA m17 (C.ptr m.nxt 0) 5) = (some [(Il x20), 
 c21, c22, c23, c24])) ∧ (ifB (allS cmC [(Il x20), c21, c22, c23, 
 c24]) ((ldA m8 (C.ptr m.nxt 0) 5) = (some [(Il x20), 
 c21, c22, c23, c24])) False) ∧ (ifB (allS cmC [(Il x20), c21, 
 c22, c23, c24]) ((ldA m1 (C.ptr m.nxt 0) 5) = (some [(Il x20), 
 c21, c22, c23, c24])) False) ∧ Wc prog tbl 30 [(V.agg 5 [(Il x20), 
 c21, c22, c23, c24]), (V.c (Il a200)), (V.agg 1 [(C.fn (Fn.func 85) [] [])])] m17 (fun v25 m26 => 
 ∃ x27, ∃ x28, (v25 = (V.agg 2 [(Il x27), (Il x28)])) ∧ 
 ∃ x29, ∃ c30 : C, ∃ c31 : C, ∃ c32 : C, ∃ c33 : C, ((ldA m26 (C.ptr m.nxt 0) 5) = (some [(Il x29), 
 c30, c31, c32, c33])) ∧ (ifB (allS cmC [(Il x29), c30, c31, c32, 
 c33]) ((ldA m17 (C.ptr m.nxt 0) 5) = (some [(Il x29), 
 c30, c31, c32, c33])) False) ∧ (ifB (allS cmC [(Il x29), c30, 
 c31, c32, c33]) ((ldA m8 (C.ptr m.nxt 0) 5) = (some [(Il x29), 
 c30, c31, c32, c33])) False) ∧ (ifB (allS cmC [(Il x29), c30, 
 c31, c32, c33]) ((ldA m1 (C.ptr m.nxt 0) 5) = (some [(Il x29), 
 c30, c31, c32, c33])) False) ∧ Wc prog tbl 30 [(V.agg 5 [(Il x29), 
 c30, c31, c32, c33]), (V.c (Il a200)), (V.agg 1 [(C.fn (Fn.methodOf 89 "hailstone/growth.harvest") [] [])])] m26 (fun v34 m35 => 
 ∃ x36, ∃ x37, (v34 = (V.agg 2 [(Il x36), (Il x37)])) ∧ 
 ∃ m38 : M, ((stC m35 (C.ptr m0.nxt 0) 8 [(Il x9), (Il x10), 
 (Il x18), (Il x19), (Il x27), (Il x28), 
 (Il x36), (Il x37)]) = (some m38)) ∧ ∃ x39, 
 ∃ x40, ∃ x41, ∃ x42, ∃ x43, ∃ x44, ∃ x45, 
 ∃ x46, ((ldA m38 (C.ptr m0.nxt 0) 8) = (some [(Il x39), 
 (Il x40), (Il x41), (Il x42), (Il x43), 
 (Il x44), (Il x45), (Il x46)])) ∧ 
 Q (V.agg 8 [(Il x39), (Il x40), (Il x41), 
 (Il x42), (Il x43), (Il x44), (Il x45), 
 (Il x46)]) m38)))))) : Wc prog tbl 51 [(V.agg 5 [(Il a100), a101, a102, a103, a104]), (V.c (Il a200))] m Q :=
 wc_eq (n := 2) rfl (by kernel_rfl) (by kernel_rfl) h
theorem w54 {a100 : Int} {a101 : C} {a102 : C} {a103 : C} {a104 : C} {m : M} {Q : V → M → Prop} (h :
 (∀ m0 : M, (m0 = (M.new m (AO.cells 5 [(Il a100), a101, a102, a103, a104] false))) → isPt (C.ptr m.nxt 0) ∧ 
 isPt (C.ptr m.nxt 0) ∧ ∃ c1 : C, ((ldC m0 (C.ptr m.nxt 2)) = (some c1)) ∧ isSl c1 ∧ ∀ R2 : List V → 
 M → Prop, (∀ b3 : Bool, ∀ x4 : Int, ∀ m5 : M, (ifB (decide (x4 < (((slLen c1) : Nat) : Int))) (∃ x6, 
 ∃ c7 : C, ∃ c8 : C, ∃ c9 : C, ∃ c10 : C, ((ldA m5 (C.ptr m.nxt 0) 5) = (some [(Il x6), 
 c7, c8, c9, c10])) ∧ Wc prog tbl 86 [(V.agg 5 [(Il x6), c7, c8, c9, 
 c10]), (V.c (Il x4))] m5 (fun v11 m12 => ∃ b13 : Bool, (v11 = (V.c (C.bool b13))) ∧ 
 ifB (!b13) (Q (V.c (C.bool false)) m12) (fitsP .i64 (x4 + 1) ∧ R2 [(V.c (C.bool b3)), 
 (V.c (Il (x4 + 1)))] m12))) (Q (V.c (C.bool true)) m5)) → 
 R2 [(V.c (C.bool b3)), (V.c (Il x4))] m5) → R2 [(V.c (C.bool false)), (V.c (Il 0))] m0)) : Wc prog tbl 54 [(V.agg 5 [(Il a100), a101, a102, a103, a104])] m Q :=
 wc_eq (n := 1) rfl (by kernel_rfl) (by kernel_rfl) h
theorem w57 {a100 : C} {a200 : C} {m : M} {Q : V → M → Prop} (h :
 (∀ m0 : M, (m0 = (M.new m (AO.cells 1 [a200] false))) → Wc prog tbl 91 [(V.c a100), (V.c (C.fn (Fn.func 92) [] [(W.c (C0.ptr m.nxt 0))]))] m0 (fun v1 m2 => 
 ∃ b3 : Bool, (v1 = (V.c (C.bool b3))) ∧ Q (V.c (C.bool (!b3))) m2))) : Wc prog tbl 57 [(V.c a100), (V.c a200)] m Q :=
 wc_eq (n := 2) rfl (by kernel_rfl) (by kernel_rfl) h
theorem w60 {a100 : Int} {a101 : C} {a102 : C} {a103 : C} {m : M} {Q : V → M → Prop} (h :
 (∀ m0 : M, (m0 = (M.new m (AO.cells 4 [(Il a100), a101, a102, a103] false))) → isPt (C.ptr m.nxt 0) ∧ 
 ∃ x1, ((ldC m0 (C.ptr m.nxt 0)) = (some (Il x1))) ∧ ifB (decide ((12 : Int) < x1)) (Q (V.c (Il (3 : Int))) m0) (isPt (C.ptr m.nxt 0) ∧ 
 ∃ c2 : C, ((ldC m0 (C.ptr m.nxt 1)) = (some c2)) ∧ isSl c2 ∧ ifB (decide ((3 : Int) < (((slLen c2) : Nat) : Int))) (Q (V.c (Il (3 : Int))) m0) (isPt (C.ptr m.nxt 0) ∧ 
 ∃ c3 : C, ((ldC m0 (C.ptr m.nxt 2)) = (some c3)) ∧ isSl c3 ∧ ifB (decide ((3 : Int) < (((slLen c3) : Nat) : Int))) (Q (V.c (Il (3 : Int))) m0) (isPt (C.ptr m.nxt 0) ∧ 
 ∃ c4 : C, ((ldC m0 (C.ptr m.nxt 3)) = (some c4)) ∧ isSl c4 ∧ ifB (decide ((6 : Int) < (((slLen c4) : Nat) : Int))) (Q (V.c (Il (3 : Int))) m0) (isPt (C.ptr m.nxt 0) ∧ 
 ∃ x5, ((ldC m0 (C.ptr m.nxt 0)) = (some (Il x5))) ∧ ifB (decide (x5 < 0)) (Q (V.c (Il (1 : Int))) m0) (isPt (C.ptr m.nxt 0) ∧ 
 ∃ c6 : C, ((ldC m0 (C.ptr m.nxt 1)) = (some c6)) ∧ isSl c6 ∧ ifB (decide ((((slLen c6) : Nat) : Int) = (0 : Int))) (Q (V.c (Il (1 : Int))) m0) (isPt (C.ptr m.nxt 0) ∧ 
 ∃ c7 : C, ((ldC m0 (C.ptr m.nxt 2)) = (some c7)) ∧ isSl c7 ∧ ifB (decide ((((slLen c7) : Nat) : Int) = (0 : Int))) (Q (V.c (Il (1 : Int))) m0) (∀ R8 : List V → 
 M → Prop, (∀ x9 : Int, ∀ x10 : Int, ∀ m11 : M, (isPt (C.ptr m.nxt 0) ∧ 
 ∃ c12 : C, ((ldC m11 (C.ptr m.nxt 1)) = (some c12)) ∧ isSl c12 ∧ 
 ifB (decide (x10 < (((slLen c12) : Nat) : Int))) (∃ x13, ∃ c14 : C, ∃ c15 : C, 
 ∃ c16 : C, ((ldA m11 (C.ptr m.nxt 0) 4) = (some [(Il x13), 
 c14, c15, c16])) ∧ isPt (C.ptr m.nxt 0) ∧ ∃ c17 : C, ((ldC m11 (C.ptr m.nxt 1)) = (some c17)) ∧ 
 ∃ n18 : Nat, (x10 = ((n18 : Nat) : Int)) ∧ (n18 < (slLen c17)) ∧ ∃ c19 : C, 
 ((ldC m11 (slAt c17 (n18 * 1))) = (some c19)) ∧ Wc prog tbl 95 [(V.agg 4 [(Il x13), 
 c14, c15, c16]), (V.c c19)] m11 (fun v20 m21 => ∃ b22 : Bool, (v20 = (V.c (C.bool b22))) ∧ 
 ifB (!b22) (Q (V.c (Il (1 : Int))) m21) (fitsP .i64 (x10 + 1) ∧ 
 R8 [(V.c (Il x9)), (V.c (Il (x10 + 1)))] m21))) (∀ R23 : List V → 
 M → Prop, (∀ x24 : Int, ∀ x25 : Int, ∀ m26 : M, (isPt (C.ptr m.nxt 0) ∧ 
 ∃ c27 : C, ((ldC m26 (C.ptr m.nxt 2)) = (some c27)) ∧ isSl c27 ∧ 
 ifB (decide (x25 < (((slLen c27) : Nat) : Int))) (isPt (C.ptr m.nxt 0) ∧ ∃ c28 : C, 
 ((ldC m26 (C.ptr m.nxt 2)) = (some c28)) ∧ ∃ n29 : Nat, (x25 = ((n29 : Nat) : Int)) ∧ 
 (n29 < (slLen c28)) ∧ ∃ x30, ∃ x31, ∃ x32, ∃ x33, 
 ∃ x34, ∃ x35, ∃ x36, ((ldA m26 (slAt c28 (n29 * 7)) 7) = (some [(Il x30), 
 (Il x31), (Il x32), (Il x33), (Il x34), 
 (Il x35), (Il x36)])) ∧ ∀ m37 : M, (m37 = (M.new m26 (AO.cells 7 [(Il 0), 
 (Il 0), (Il 0), (Il 0), 
 (Il 0), (Il 0), (Il 0)] false))) → 
 ∃ m38 : M, ((stC m37 (C.ptr m26.nxt 0) 7 [(Il x30), (Il x31), 
 (Il x32), (Il x33), (Il x34), (Il x35), 
 (Il x36)]) = (some m38)) ∧ isPt (C.ptr m26.nxt 0) ∧ 
 ∃ x39, ((ldC m38 (C.ptr m26.nxt 0)) = (some (Il x39))) ∧ 
 isPt (C.ptr m.nxt 0) ∧ ∃ c40 : C, ((ldC m38 (C.ptr m.nxt 1)) = (some c40)) ∧ 
 isSl c40 ∧ fitsP .i64 ((((slLen c40) : Nat) : Int) - (1 : Int)) ∧ Wc prog tbl 25 [(V.c (Il x39)), 
 (V.c (Il 0)), (V.c (Il ((((slLen c40) : Nat) : Int) - (1 : Int))))] m38 (fun v41 m42 => 
 ∃ b43 : Bool, (v41 = (V.c (C.bool b43))) ∧ ifB (!b43) (Q (V.c (Il (1 : Int))) m42) (isPt (C.ptr m26.nxt 0) ∧ 
 ∃ x44, ∃ x45, ((ldA m42 (C.ptr m26.nxt 1) 2) = (some [(Il x44), 
 (Il x45)])) ∧ isPt (C.ptr m.nxt 0) ∧ ∃ x46, ((ldC m42 (C.ptr m.nxt 0)) = (some (Il x46))) ∧ 
 Wc prog tbl 96 [(V.agg 2 [(Il x44), (Il x45)]), 
 (V.c (Il 0)), (V.c (Il x46))] m42 (fun v47 m48 => 
 ∃ b49 : Bool, (v47 = (V.c (C.bool b49))) ∧ ifB (!b49) (Q (V.c (Il (1 : Int))) m48) (isPt (C.ptr m26.nxt 0) ∧ 
 ∃ x50, ∃ x51, ((ldA m48 (C.ptr m26.nxt 3) 2) = (some [(Il x50), 
 (Il x51)])) ∧ Wc prog tbl 96 [(V.agg 2 [(Il x50), 
 (Il x51)]), (V.c (Il 0)), (V.c (Il (100 : Int)))] m48 (fun v52 m53 => 
 ∃ b54 : Bool, (v52 = (V.c (C.bool b54))) ∧ ifB (!b54) (Q (V.c (Il (1 : Int))) m53) (isPt (C.ptr m26.nxt 0) ∧ 
 ∃ x55, ∃ x56, ((ldA m53 (C.ptr m26.nxt 5) 2) = (some [(Il x55), 
 (Il x56)])) ∧ Wc prog tbl 96 [(V.agg 2 [(Il x55), 
 (Il x56)]), (V.c (Il 0)), (V.c (Il (100 : Int)))] m53 (fun v57 m58 => 
 ∃ b59 : Bool, (v57 = (V.c (C.bool b59))) ∧ ifB (!b59) (Q (V.c (Il (1 : Int))) m58) (fitsP .i64 (x25 + 1) ∧ 
 R23 [(V.c (Il x24)), (V.c (Il (x25 + 1)))] m58))))))))) (∀ R60 : List V → 
 M → Prop, (∀ x61 : Int, ∀ x62 : Int, ∀ m63 : M, (isPt (C.ptr m.nxt 0) ∧ 
 ∃ c64 : C, ((ldC m63 (C.ptr m.nxt 3)) = (some c64)) ∧ isSl c64 ∧ 
 ifB (decide (x62 < (((slLen c64) : Nat) : Int))) (isPt (C.ptr m.nxt 0) ∧ ∃ c65 : C, 
 ((ldC m63 (C.ptr m.nxt 3)) = (some c65)) ∧ ∃ n66 : Nat, (x62 = ((n66 : Nat) : Int)) ∧ 
 (n66 < (slLen c65)) ∧ ∃ x67, ∃ x68, ∃ x69, ∃ x70, 
 ((ldA m63 (slAt c65 (n66 * 4)) 4) = (some [(Il x67), (Il x68), 
 (Il x69), (Il x70)])) ∧ ∀ m71 : M, (m71 = (M.new m63 (AO.cells 4 [(Il 0), 
 (Il 0), (Il 0), (Il 0)] false))) → 
 ∃ m72 : M, ((stC m71 (C.ptr m63.nxt 0) 4 [(Il x67), (Il x68), 
 (Il x69), (Il x70)]) = (some m72)) ∧ isPt (C.ptr m63.nxt 0) ∧ 
 ∃ x73, ((ldC m72 (C.ptr m63.nxt 0)) = (some (Il x73))) ∧ 
 isPt (C.ptr m.nxt 0) ∧ ∃ c74 : C, ((ldC m72 (C.ptr m.nxt 2)) = (some c74)) ∧ 
 isSl c74 ∧ fitsP .i64 ((((slLen c74) : Nat) : Int) - (1 : Int)) ∧ Wc prog tbl 25 [(V.c (Il x73)), 
 (V.c (Il 0)), (V.c (Il ((((slLen c74) : Nat) : Int) - (1 : Int))))] m72 (fun v75 m76 => 
 ∃ b77 : Bool, (v75 = (V.c (C.bool b77))) ∧ ifB (!b77) (Q (V.c (Il (1 : Int))) m76) (isPt (C.ptr m63.nxt 0) ∧ 
 ∃ x78, ((ldC m76 (C.ptr m63.nxt 1)) = (some (Il x78))) ∧ 
 isPt (C.ptr m.nxt 0) ∧ ∃ x79, ((ldC m76 (C.ptr m.nxt 0)) = (some (Il x79))) ∧ 
 Wc prog tbl 25 [(V.c (Il x78)), (V.c (Il 0)), 
 (V.c (Il x79))] m76 (fun v80 m81 => ∃ b82 : Bool, (v80 = (V.c (C.bool b82))) ∧ 
 ifB (!b82) (Q (V.c (Il (1 : Int))) m81) (isPt (C.ptr m63.nxt 0) ∧ 
 ∃ x83, ∃ x84, ((ldA m81 (C.ptr m63.nxt 2) 2) = (some [(Il x83), 
 (Il x84)])) ∧ Wc prog tbl 96 [(V.agg 2 [(Il x83), 
 (Il x84)]), (V.c (Il 0)), (V.c (Il (100 : Int)))] m81 (fun v85 m86 => 
 ∃ b87 : Bool, (v85 = (V.c (C.bool b87))) ∧ ifB (!b87) (Q (V.c (Il (1 : Int))) m86) (fitsP .i64 (x62 + 1) ∧ 
 R60 [(V.c (Il x61)), (V.c (Il (x62 + 1)))] m86))))))) (∀ R88 : List V → 
 M → Prop, (∀ x89 : Int, ∀ x90 : Int, ∀ m91 : M, (isPt (C.ptr m.nxt 0) ∧ 
 ∃ c92 : C, ((ldC m91 (C.ptr m.nxt 2)) = (some c92)) ∧ isSl c92 ∧ 
 ifB (decide (x90 < (((slLen c92) : Nat) : Int))) (isPt (C.ptr m.nxt 0) ∧ ∃ c93 : C, 
 ((ldC m91 (C.ptr m.nxt 2)) = (some c93)) ∧ ∃ n94 : Nat, (x90 = ((n94 : Nat) : Int)) ∧ 
 (n94 < (slLen c93)) ∧ ∃ x95, ∃ x96, ∃ x97, ∃ x98, 
 ∃ x99, ∃ x100, ∃ x101, ((ldA m91 (slAt c93 (n94 * 7)) 7) = (some [(Il x95), 
 (Il x96), (Il x97), (Il x98), (Il x99), 
 (Il x100), (Il x101)])) ∧ Wc prog tbl 94 [(V.agg 7 [(Il x95), 
 (Il x96), (Il x97), (Il x98), (Il x99), 
 (Il x100), (Il x101)])] m91 (fun v102 m103 => ∃ x104, 
 (v102 = (V.c (Il x104))) ∧ ifB (decide ((3000 : Int) < x104)) (Q (V.c (Il (3 : Int))) m103) (fitsP .i64 (x90 + 1) ∧ 
 R88 [(V.c (Il x89)), (V.c (Il (x90 + 1)))] m103))) (Q (V.c (Il 0)) m91)) → 
 R88 [(V.c (Il x89)), (V.c (Il x90))] m91) → 
 R88 [(V.c (Il x61)), (V.c (Il 0))] m63)) → 
 R60 [(V.c (Il x61)), (V.c (Il x62))] m63) → 
 R60 [(V.c (Il x24)), (V.c (Il 0))] m26)) → 
 R23 [(V.c (Il x24)), (V.c (Il x25))] m26) → 
 R23 [(V.c (Il x9)), (V.c (Il 0))] m11)) → 
 R8 [(V.c (Il x9)), (V.c (Il x10))] m11) → 
 R8 [(V.c (Il 0)), (V.c (Il 0))] m0))))))))) : Wc prog tbl 60 [(V.agg 4 [(Il a100), a101, a102, a103])] m Q :=
 wc_eq (n := 1) rfl (by kernel_rfl) (by kernel_rfl) h
theorem w66 {a100 : C} {m : M} {Q : V → M → Prop} (h :
 (isSl a100 ∧ ifB (decide ((((slLen a100) : Nat) : Int) = (0 : Int))) (Q (V.c (Il 0)) m) (∃ n0 : Nat, 
 ((0 : Int) = ((n0 : Nat) : Int)) ∧ (n0 < (slLen a100)) ∧ ∃ x1, ((ldC m (slAt a100 (n0 * 1))) = (some (Il x1))) ∧ 
 isSl a100 ∧ ∀ R2 : List V → M → Prop, (∀ x3 : Int, ∀ x4 : Int, ∀ m5 : M, (ifB (decide (x4 < (((slLen a100) : Nat) : Int))) (∃ n6 : Nat, 
 (x4 = ((n6 : Nat) : Int)) ∧ (n6 < (slLen a100)) ∧ ∃ x7, ((ldC m5 (slAt a100 (n6 * 1))) = (some (Il x7))) ∧ 
 ifB (decide (x7 < x3)) (fitsP .i64 (x4 + 1) ∧ R2 [(V.c (Il x7)), 
 (V.c (Il (x4 + 1)))] m5) (fitsP .i64 (x4 + 1) ∧ 
 R2 [(V.c (Il x3)), (V.c (Il (x4 + 1)))] m5)) (Q (V.c (Il x3)) m5)) → 
 R2 [(V.c (Il x3)), (V.c (Il x4))] m5) → R2 [(V.c (Il x1)), 
 (V.c (Il 0))] m))) : Wc prog tbl 66 [(V.c a100)] m Q :=
 wc_eq (n := 1) rfl (by kernel_rfl) (by kernel_rfl) h
theorem w70 {a100 : C} {a200 : C} {m : M} {Q : V → M → Prop} (h :
 (∀ m0 : M, (m0 = (M.new m (AO.cells 1 [a100] false))) → rangeP prog tbl a200 m0 (fun l1 m2 R3 R4 => ∃ x5, 
 ∃ x6, ∃ x7, ∃ x8, ∃ x9, ∃ x10, ∃ x11, ∃ x12, ∃ x13, 
 ∃ x14, ∃ x15, ∃ x16, ∃ x17, ∃ x18, ∃ x19, ∃ x20, 
 (l1 = [(V.agg 16 [(Il x5), (Il x6), (Il x7), 
 (Il x8), (Il x9), (Il x10), (Il x11), 
 (Il x12), (Il x13), (Il x14), (Il x15), 
 (Il x16), (Il x17), (Il x18), (Il x19), 
 (Il x20)])]) ∧ ∀ m21 : M, (m21 = (M.new m2 (AO.cells 16 [(Il 0), 
 (Il 0), (Il 0), (Il 0), 
 (Il 0), (Il 0), (Il 0), 
 (Il 0), (Il 0), (Il 0), 
 (Il 0), (Il 0), (Il 0), 
 (Il 0), (Il 0), (Il 0)] false))) → 
 ∃ m22 : M, ((stC m21 (C.ptr m2.nxt 0) 16 [(Il x5), (Il x6), 
 (Il x7), (Il x8), (Il x9), (Il x10), 
 (Il x11), (Il x12), (Il x13), (Il x14), 
 (Il x15), (Il x16), (Il x17), (Il x18), 
 (Il x19), (Il x20)]) = (some m22)) ∧ R3 m22 (fun m23 => 
 ∃ c24 : C, ((ldC m23 (C.ptr m.nxt 0)) = (some c24)) ∧ ∃ x25, ∃ x26, 
 ∃ x27, ∃ x28, ∃ x29, ∃ x30, ∃ x31, ∃ x32, 
 ∃ x33, ∃ x34, ∃ x35, ∃ x36, ∃ x37, ∃ x38, 
 ∃ x39, ∃ x40, ((ldA m23 (C.ptr m2.nxt 0) 16) = (some [(Il x25), 
 (Il x26), (Il x27), (Il x28), (Il x29), 
 (Il x30), (Il x31), (Il x32), (Il x33), 
 (Il x34), (Il x35), (Il x36), (Il x37), 
 (Il x38), (Il x39), (Il x40)])) ∧ 
 ∀ m41 : M, (m41 = (M.new m23 (AO.cells 16 [(Il x25), (Il x26), 
 (Il x27), (Il x28), (Il x29), (Il x30), 
 (Il x31), (Il x32), (Il x33), (Il x34), 
 (Il x35), (Il x36), (Il x37), (Il x38), 
 (Il x39), (Il x40)] false))) → ∃ c42 : C, ∃ m43 : M, 
 (ApR prog 99 m41 c24 (C.sl m23.nxt 0 1 0 (some 1)) c42 m43) ∧ ∃ m44 : M, 
 ((stC m43 (C.ptr m.nxt 0) 1 [c42]) = (some m44)) ∧ R4 Ex.nrm m44)) (After.mk (fun m45 => 
 ∃ c46 : C, ((ldC m45 (C.ptr m.nxt 0)) = (some c46)) ∧ Q (V.c c46) m45) [] (fun m47 => Q (V.c C.sl0) m47)))) : Wc prog tbl 70 [(V.c a100), (V.c a200)] m Q :=
 wc_eq (n := 2) rfl (by kernel_rfl) (by kernel_rfl) h
theorem w77 {a100 : Int} {a101 : Int} {a102 : Int} {a103 : Int} {a104 : Int} {a105 : Int} {a106 : Int} {a200 : Int} {a300 : Int} {m : M} {Q : V → M → Prop} (h :
 (∀ m0 : M, (m0 = (M.new m (AO.cells 7 [(Il a100), (Il a101), (Il a102), 
 (Il a103), (Il a104), (Il a105), (Il a106)] false))) → 
 ∀ m1 : M, (m1 = (M.new m0 (AO.cells 4 [(Il 0), (Il 0), (Il 0), 
 (Il 0)] false))) → isPt (C.ptr m.nxt 0) ∧ ∃ x2, ((ldC m1 (C.ptr m.nxt 0)) = (some (Il x2))) ∧ 
 ∃ m3 : M, ((stC m1 (C.ptr m0.nxt 0) 4 [(Il a200), (Il a300), (Il 0), 
 (Il x2)]) = (some m3)) ∧ ∃ x4, ∃ x5, ∃ x6, ∃ x7, 
 ((ldA m3 (C.ptr m0.nxt 0) 4) = (some [(Il x4), (Il x5), 
 (Il x6), (Il x7)])) ∧ Q (V.agg 4 [(Il x4), (Il x5), 
 (Il x6), (Il x7)]) m3)) : Wc prog tbl 77 [(V.agg 7 [(Il a100), (Il a101), (Il a102), (Il a103), (Il a104), (Il a105), (Il a106)]), (V.c (Il a200)), (V.c (Il a300))] m Q :=
 wc_eq (n := 3) rfl (by kernel_rfl) (by kernel_rfl) h
theorem w84 {a100 : Int} {a101 : Int} {a102 : Int} {a103 : Int} {a104 : Int} {a105 : Int} {a106 : Int} {a107 : Int} {a108 : Int} {a109 : Int} {a110 : Int} {a111 : Int} {a112 : Int} {a113 : Int} {a114 : Int} {a115 : Int} {m : M} {Q : V → M → Prop} (h :
 (∀ m0 : M, (m0 = (M.new m (AO.cells 16 [(Il a100), (Il a101), (Il a102), 
 (Il a103), (Il a104), (Il a105), (Il a106), 
 (Il a107), (Il a108), (Il a109), (Il a110), 
 (Il a111), (Il a112), (Il a113), (Il a114), 
 (Il a115)] false))) → isPt (C.ptr m.nxt 0) ∧ isPt (C.ptr m.nxt 0) ∧ ∃ x1, 
 ((ldC m0 (C.ptr m.nxt 1)) = (some (Il x1))) ∧ Q (V.c (Il x1)) m0)) : Wc prog tbl 84 [(V.agg 16 [(Il a100), (Il a101), (Il a102), (Il a103), (Il a104), (Il a105), (Il a106), (Il a107), (Il a108), (Il a109), (Il a110), (Il a111), (Il a112), (Il a113), (Il a114), (Il a115)])] m Q :=
 wc_eq (n := 1) rfl (by kernel_rfl) (by kernel_rfl) h
theorem w87 {a100 : C} {a200 : C} {m : M} {Q : V → M → Prop} (h :
 (∀ m0 : M, (m0 = (M.new m (AO.cells 1 [a200] false))) → Wc prog tbl 104 [(V.c a100), (V.c (C.fn (Fn.func 105) [] [(W.c (C0.ptr m.nxt 0))]))] m0 (fun v1 m2 => 
 ∃ b3 : Bool, (v1 = (V.c (C.bool b3))) ∧ Q (V.c (C.bool (!b3))) m2))) : Wc prog tbl 87 [(V.c a100), (V.c a200)] m Q :=
 wc_eq (n := 2) rfl (by kernel_rfl) (by kernel_rfl) h
theorem w90 {a100 : Int} {a101 : C} {a102 : C} {a103 : C} {a200 : Int} {a201 : Int} {a202 : Int} {a203 : Int} {m : M} {Q : V → M → Prop} (h :
 (∀ m0 : M, (m0 = (M.new m (AO.cells 4 [(Il a100), a101, a102, a103] false))) → ∀ m1 : M, (m1 = (M.new m0 (AO.cells 4 [(Il a200), 
 (Il a201), (Il a202), (Il a203)] false))) → ∃ x2, 
 ∃ c3 : C, ∃ c4 : C, ∃ c5 : C, ((ldA m1 (C.ptr m.nxt 0) 4) = (some [(Il x2), 
 c3, c4, c5])) ∧ isPt (C.ptr m0.nxt 0) ∧ ∃ x6, ((ldC m1 (C.ptr m0.nxt 0)) = (some (Il x6))) ∧ 
 Wc prog tbl 64 [(V.agg 4 [(Il x2), c3, c4, c5]), (V.c (Il x6))] m1 (fun v7 m8 => 
 ∃ b9 : Bool, (v7 = (V.c (C.bool b9))) ∧ ifB b9 (∃ x10, ∃ c11 : C, ∃ c12 : C, ∃ c13 : C, 
 ((ldA m8 (C.ptr m.nxt 0) 4) = (some [(Il x10), c11, c12, c13])) ∧ 
 isPt (C.ptr m0.nxt 0) ∧ ∃ x14, ((ldC m8 (C.ptr m0.nxt 1)) = (some (Il x14))) ∧ 
 Wc prog tbl 29 [(V.agg 4 [(Il x10), c11, c12, c13]), (V.c (Il x14))] m8 (fun v15 m16 => 
 ∃ b17 : Bool, (v15 = (V.c (C.bool b17))) ∧ ifB b17 (isPt (C.ptr m0.nxt 0) ∧ 
 ∃ x18, ∃ x19, ((ldA m16 (C.ptr m0.nxt 2) 2) = (some [(Il x18), 
 (Il x19)])) ∧ Wc prog tbl 107 [(V.agg 2 [(Il x18), 
 (Il x19)]), (V.c (Il 0)), (V.c (Il (100 : Int)))] m16 (fun v20 m21 => 
 ∃ b22 : Bool, (v20 = (V.c (C.bool b22))) ∧ Q (V.c (C.bool b22)) m21)) (Q (V.c (C.bool false)) m16))) (Q (V.c (C.bool false)) m8)))) : Wc prog tbl 90 [(V.agg 4 [(Il a100), a101, a102, a103]), (V.agg 4 [(Il a200), (Il a201), (Il a202), (Il a203)])] m Q :=
 wc_eq (n := 2) rfl (by kernel_rfl) (by kernel_rfl) h
theorem w94 {a100 : Int} {a101 : Int} {a102 : Int} {a103 : Int} {a104 : Int} {a105 : Int} {a106 : Int} {m : M} {Q : V → M → Prop} (h :
 (∀ m0 : M, (m0 = (M.new m (AO.cells 7 [(Il a100), (Il a101), (Il a102), 
 (Il a103), (Il a104), (Il a105), (Il a106)] false))) → 
 isPt (C.ptr m.nxt 0) ∧ ∃ x1, ∃ x2, ((ldA m0 (C.ptr m.nxt 1) 2) = (some [(Il x1), 
 (Il x2)])) ∧ Wc prog tbl 109 [(V.agg 2 [(Il x1), (Il x2)])] m0 (fun v3 m4 => 
 ∃ x5, (v3 = (V.c (Il x5))) ∧ isPt (C.ptr m.nxt 0) ∧ ∃ x6, ∃ x7, 
 ((ldA m4 (C.ptr m.nxt 3) 2) = (some [(Il x6), (Il x7)])) ∧ 
 ((ldA m0 (C.ptr m.nxt 3) 2) = (some [(Il x6), (Il x7)])) ∧ 
 Wc prog tbl 109 [(V.agg 2 [(Il x6), (Il x7)])] m4 (fun v8 m9 => 
 ∃ x10, (v8 = (V.c (Il x10))) ∧ ((0 : Int) ≤ x5) ∧ ((0 : Int) ≤ x10) ∧ 
 fitsP .i64 (x5 * x10) ∧ isPt (C.ptr m.nxt 0) ∧ ∃ x11, ∃ x12, 
 ((ldA m9 (C.ptr m.nxt 5) 2) = (some [(Il x11), (Il x12)])) ∧ 
 ((ldA m4 (C.ptr m.nxt 5) 2) = (some [(Il x11), (Il x12)])) ∧ 
 ((ldA m0 (C.ptr m.nxt 5) 2) = (some [(Il x11), (Il x12)])) ∧ 
 Wc prog tbl 109 [(V.agg 2 [(Il x11), (Il x12)])] m9 (fun v13 m14 => 
 ∃ x15, (v13 = (V.c (Il x15))) ∧ ((0 : Int) ≤ (x5 * x10)) ∧ 
 ((0 : Int) ≤ x15) ∧ fitsP .i64 ((x5 * x10) * x15) ∧ Q (V.c (Il ((x5 * x10) * x15))) m14))))) : Wc prog tbl 94 [(V.agg 7 [(Il a100), (Il a101), (Il a102), (Il a103), (Il a104), (Il a105), (Il a106)])] m Q :=
 wc_eq (n := 1) rfl (by kernel_rfl) (by kernel_rfl) h
theorem w106 {a100 : C} {a200 : C} {m : M} {Q : V → M → Prop} (h :
 (∀ m0 : M, (m0 = (M.new m (AO.cells 1 [a200] false))) → Wc prog tbl 112 [(V.c a100), (V.c (C.fn (Fn.func 113) [] [(W.c (C0.ptr m.nxt 0))]))] m0 (fun v1 m2 => 
 ∃ b3 : Bool, (v1 = (V.c (C.bool b3))) ∧ Q (V.c (C.bool (!b3))) m2))) : Wc prog tbl 106 [(V.c a100), (V.c a200)] m Q :=
 wc_eq (n := 2) rfl (by kernel_rfl) (by kernel_rfl) h
theorem w109 {a100 : Int} {a101 : Int} {m : M} {Q : V → M → Prop} (h :
 (∀ m0 : M, (m0 = (M.new m (AO.cells 2 [(Il a100), (Il a101)] false))) → isPt (C.ptr m.nxt 0) ∧ 
 ∃ x1, ((ldC m0 (C.ptr m.nxt 1)) = (some (Il x1))) ∧ isPt (C.ptr m.nxt 0) ∧ 
 ∃ x2, ((ldC m0 (C.ptr m.nxt 0)) = (some (Il x2))) ∧ fitsP .i64 (x1 - x2) ∧ 
 fitsP .i64 ((x1 - x2) + (1 : Int)) ∧ Q (V.c (Il ((x1 - x2) + (1 : Int)))) m0)) : Wc prog tbl 109 [(V.agg 2 [(Il a100), (Il a101)])] m Q :=
 wc_eq (n := 1) rfl (by kernel_rfl) (by kernel_rfl) h
theorem w112 {a100 : C} {a200 : C} {m : M} {Q : V → M → Prop} (h :
 (Wc prog tbl 114 [(V.c a100), (V.c a200)] m (fun v0 m1 => ∃ x2, (v0 = (V.c (Il x2))) ∧ Q (V.c (C.bool (decide ((0 : Int) ≤ x2)))) m1))) : Wc prog tbl 112 [(V.c a100), (V.c a200)] m Q :=
 wc_eq (n := 2) rfl (by kernel_rfl) (by kernel_rfl) h
end
end Go.Proofs.Ytmlaphekbnanjaa

namespace Go.Proofs.Ytmlaphekbnanjaa
open _root_.Go.Proofs.Try
open Go.Abs
set_option maxRecDepth 100000
noncomputable section
theorem w32 {a100 : Int} {a101 : Int} {a102 : Int} {a103 : Int} {a104 : Int} {a105 : Int} {a106 : Int} {a107 : Int} {a108 : Int} {a109 : Int} {a110 : Int} {a111 : Int} {a112 : Int} {a113 : Int} {a114 : Int} {a115 : Int} {a200 : Int} {m : M} {Q : V → M → Prop} (h :
 (∀ m0 : M, (m0 = (M.new m (AO.cells 16 [(Il a100), (Il a101), (Il a102), 
 (Il a103), (Il a104), (Il a105), (Il a106), 
 (Il a107), (Il a108), (Il a109), (Il a110), 
 (Il a111), (Il a112), (Il a113), (Il a114), 
 (Il a115)] false))) → isPt (C.ptr m.nxt 0) ∧ isPt (C.ptr m.nxt 0) ∧ ∃ x1, 
 ((ldC m0 (C.ptr m.nxt 2)) = (some (Il x1))) ∧ isPt (C.ptr m.nxt 0) ∧ isPt (C.ptr m.nxt 3) ∧ 
 ∃ n2 : Nat, (a200 = ((n2 : Nat) : Int)) ∧ (n2 < 13) ∧ ∃ x3, ((ldC m0 (C.ptr m.nxt (3 + (n2 * 1)))) = (some (Il x3))) ∧ 
 fitsP .i64 (x1 + x3) ∧ Q (V.c (Il (Min.min (x1 + x3) (100 : Int)))) m0)) : Wc prog tbl 32 [(V.agg 16 [(Il a100), (Il a101), (Il a102), (Il a103), (Il a104), (Il a105), (Il a106), (Il a107), (Il a108), (Il a109), (Il a110), (Il a111), (Il a112), (Il a113), (Il a114), (Il a115)]), (V.c (Il a200))] m Q :=
 wc_eq (n := 2) rfl (by kernel_rfl) (by kernel_rfl) h
theorem w36 {a100 : Int} {a101 : Int} {a102 : Int} {a103 : Int} {a104 : Int} {a105 : Int} {a106 : Int} {a107 : Int} {a108 : Int} {a109 : Int} {a110 : Int} {a111 : Int} {a112 : Int} {m : M} {Q : V → M → Prop} (h :
 (∀ m0 : M, (m0 = (M.new m (AO.cells 13 [(Il a100), (Il a101), (Il a102), 
 (Il a103), (Il a104), (Il a105), (Il a106), 
 (Il a107), (Il a108), (Il a109), (Il a110), 
 (Il a111), (Il a112)] false))) → isPt (C.ptr m.nxt 0) ∧ ∃ n1 : Nat, 
 ((12 : Int) = ((n1 : Nat) : Int)) ∧ (n1 < 13) ∧ ∃ x2, ((ldC m0 (C.ptr m.nxt (0 + (n1 * 1)))) = (some (Il x2))) ∧ 
 Q (V.c (Il x2)) m0)) : Wc prog tbl 36 [(V.agg 13 [(Il a100), (Il a101), (Il a102), (Il a103), (Il a104), (Il a105), (Il a106), (Il a107), (Il a108), (Il a109), (Il a110), (Il a111), (Il a112)])] m Q :=
 wc_eq (n := 1) rfl (by kernel_rfl) (by kernel_rfl) h
end
end Go.Proofs.Ytmlaphekbnanjaa

namespace Go.Proofs.Ytmlaphekbnanjaa
open _root_.Go.Proofs.Try
open Go.Abs
set_option maxRecDepth 100000
noncomputable section
def Fv_LInt_Bool (f : M) (x : C) (g : List Int → Option (Bool)) : Prop := ∀ (f' m : M) (a0 : List Int) (c0 : C) (r : Bool) (Q : V → M → Prop), Sub f f' → Pre f' m → Sl f' c0 a0 → g a0 = some r → (∀ m', Ext m m' → Q (.c (.bool r)) m') → callP prog tbl [.c c0] x m Q
theorem Fv_LInt_Bool.sub {f m : M} {x : C} {g : List Int → Option (Bool)} (h : Fv_LInt_Bool f x g) (s : Sub f m) : Fv_LInt_Bool m x g := fun f' m' a0 c0 r Q hs => h f' m' a0 c0 r Q (s.trans hs)
end
end Go.Proofs.Ytmlaphekbnanjaa

