/- An evaluator of the code of a program, its soundness, what calls ask, memory, and what functions of the program do. Condition: none; a lemma text of this claim. -/
import Derived.Test.YtmlaphekbnanjaaGtF

namespace Go.Proofs.Ytmlaphekbnanjaa
theorem gdi {α : Type} {p A : Prop} {o : Option α} {r : α} (hp : Go.Abs.gd p o = some r) (h : p → o = some r → A) : p ∧ A := have ⟨a, b⟩ := Go.Abs.gd_some hp; ⟨a, h a b⟩
end Go.Proofs.Ytmlaphekbnanjaa

namespace Go.Proofs.Ytmlaphekbnanjaa
open _root_.Go.Proofs.Try
open Go.Abs
set_option maxRecDepth 100000
noncomputable section
structure Rg where
 Lo : Int
 Hi : Int
def ok_Rg (a : Rg) : Prop := (fitsP .i64 a.Lo) ∧ (fitsP .i64 a.Hi)
instance : MK Rg := ⟨fun k => .agg 2 [.int .i64 k.Lo, .int .i64 k.Hi], fun k => fitsP .i64 k.Lo ∧ fitsP .i64 k.Hi ∧ True⟩
instance : MV Rg := ⟨fun k => .agg 2 [.int .i64 k.Lo, .int .i64 k.Hi]⟩
instance : Rp Rg := ⟨2, by omega, fun _ cs a => cs = [.int .i64 a.Lo, .int .i64 a.Hi], fun h => by rw [h]; rfl, fun h _ => h⟩
structure Fld where
 Crop : Int
 Week : Rg
 Damage : Rg
 Old : Rg
def ok_Fld (a : Fld) : Prop := (fitsP .i64 a.Crop) ∧ (ok_Rg a.Week) ∧ (ok_Rg a.Damage) ∧ (ok_Rg a.Old)
instance : MK Fld := ⟨fun k => .agg 7 [.int .i64 k.Crop, .int .i64 k.Week.Lo, .int .i64 k.Week.Hi, .int .i64 k.Damage.Lo, .int .i64 k.Damage.Hi, .int .i64 k.Old.Lo, .int .i64 k.Old.Hi], fun k => fitsP .i64 k.Crop ∧ fitsP .i64 k.Week.Lo ∧ fitsP .i64 k.Week.Hi ∧ fitsP .i64 k.Damage.Lo ∧ fitsP .i64 k.Damage.Hi ∧ fitsP .i64 k.Old.Lo ∧ fitsP .i64 k.Old.Hi ∧ True⟩
instance : MV Fld := ⟨fun k => .agg 7 [.int .i64 k.Crop, .int .i64 k.Week.Lo, .int .i64 k.Week.Hi, .int .i64 k.Damage.Lo, .int .i64 k.Damage.Hi, .int .i64 k.Old.Lo, .int .i64 k.Old.Hi]⟩
instance : Rp Fld := ⟨7, by omega, fun _ cs a => cs = [.int .i64 a.Crop, .int .i64 a.Week.Lo, .int .i64 a.Week.Hi, .int .i64 a.Damage.Lo, .int .i64 a.Damage.Hi, .int .i64 a.Old.Lo, .int .i64 a.Old.Hi], fun h => by rw [h]; rfl, fun h _ => h⟩
theorem rd_Fld {f : M} {x : C} {l : List Fld} (h : Sl f x l) {n : Nat} {a : Fld} (hi : l[n]? = some a) : ∃ _u : Unit, (∀ m, Sub f m → ldA m (slAt x (n * 7)) 7 = some [.int .i64 a.Crop, .int .i64 a.Week.Lo, .int .i64 a.Week.Hi, .int .i64 a.Damage.Lo, .int .i64 a.Damage.Hi, .int .i64 a.Old.Lo, .int .i64 a.Old.Hi] ∧ (∀ j c, ([.int .i64 a.Crop, .int .i64 a.Week.Lo, .int .i64 a.Week.Hi, .int .i64 a.Damage.Lo, .int .i64 a.Damage.Hi, .int .i64 a.Old.Lo, .int .i64 a.Old.Hi] : List C)[j]? = some c → ldC m (ptAdd (slAt x (n * 7)) j) = some c) ∧ ∀ j i, 0 < i → j + i ≤ 7 → ldA m (ptAdd (slAt x (n * 7)) j) i = some ((([.int .i64 a.Crop, .int .i64 a.Week.Lo, .int .i64 a.Week.Hi, .int .i64 a.Damage.Lo, .int .i64 a.Damage.Hi, .int .i64 a.Old.Lo, .int .i64 a.Old.Hi] : List C).drop j).take i)) := by
 obtain ⟨cs, q1, q2⟩ := h.rdP hi
 have q2 : cs = _ := q2
 subst q2
 exact ⟨(), q1⟩
structure Vis where
 Field : Int
 Week : Int
 Seen : Rg
def ok_Vis (a : Vis) : Prop := (fitsP .i64 a.Field) ∧ (fitsP .i64 a.Week) ∧ (ok_Rg a.Seen)
instance : MK Vis := ⟨fun k => .agg 4 [.int .i64 k.Field, .int .i64 k.Week, .int .i64 k.Seen.Lo, .int .i64 k.Seen.Hi], fun k => fitsP .i64 k.Field ∧ fitsP .i64 k.Week ∧ fitsP .i64 k.Seen.Lo ∧ fitsP .i64 k.Seen.Hi ∧ True⟩
instance : MV Vis := ⟨fun k => .agg 4 [.int .i64 k.Field, .int .i64 k.Week, .int .i64 k.Seen.Lo, .int .i64 k.Seen.Hi]⟩
instance : Rp Vis := ⟨4, by omega, fun _ cs a => cs = [.int .i64 a.Field, .int .i64 a.Week, .int .i64 a.Seen.Lo, .int .i64 a.Seen.Hi], fun h => by rw [h]; rfl, fun h _ => h⟩
theorem rd_Vis {f : M} {x : C} {l : List Vis} (h : Sl f x l) {n : Nat} {a : Vis} (hi : l[n]? = some a) : ∃ _u : Unit, (∀ m, Sub f m → ldA m (slAt x (n * 4)) 4 = some [.int .i64 a.Field, .int .i64 a.Week, .int .i64 a.Seen.Lo, .int .i64 a.Seen.Hi] ∧ (∀ j c, ([.int .i64 a.Field, .int .i64 a.Week, .int .i64 a.Seen.Lo, .int .i64 a.Seen.Hi] : List C)[j]? = some c → ldC m (ptAdd (slAt x (n * 4)) j) = some c) ∧ ∀ j i, 0 < i → j + i ≤ 4 → ldA m (ptAdd (slAt x (n * 4)) j) i = some ((([.int .i64 a.Field, .int .i64 a.Week, .int .i64 a.Seen.Lo, .int .i64 a.Seen.Hi] : List C).drop j).take i)) := by
 obtain ⟨cs, q1, q2⟩ := h.rdP hi
 have q2 : cs = _ := q2
 subst q2
 exact ⟨(), q1⟩
structure Ssn where
 Last : Int
 Rules : List (List Int)
 Fields : List Fld
 Visits : List Vis
def ok_Ssn (a : Ssn) : Prop := (fitsP .i64 a.Last) ∧ (a.Rules.length ≤ maxLen ∧ ∀ a0 ∈ a.Rules, a0.length ≤ maxLen ∧ ∀ a1 ∈ a0, fitsP .i64 a1) ∧ (a.Fields.length ≤ maxLen ∧ ∀ a0 ∈ a.Fields, ok_Fld a0) ∧ (a.Visits.length ≤ maxLen ∧ ∀ a0 ∈ a.Visits, ok_Vis a0)
instance : Rp Ssn := ⟨4, by omega, fun f cs a => ∃ c1 c2 c3 : C, cs = [.int .i64 a.Last, c1, c2, c3] ∧ Sl f c1 a.Rules ∧ Sl f c2 a.Fields ∧ Sl f c3 a.Visits, fun h => by obtain ⟨c1, c2, c3, h, _, _, _⟩ := h; rw [h]; rfl, fun h s => by obtain ⟨c1, c2, c3, h, h0, h1, h2⟩ := h; exact ⟨c1, c2, c3, h, h0.subv s, h1.subv s, h2.subv s⟩⟩
structure Trh where
 Week : Int
 Damage : Int
 Old : Int
instance : MK Trh := ⟨fun k => .agg 3 [.int .i64 k.Week, .int .i64 k.Damage, .int .i64 k.Old], fun k => fitsP .i64 k.Week ∧ fitsP .i64 k.Damage ∧ fitsP .i64 k.Old ∧ True⟩
instance : MV Trh := ⟨fun k => .agg 3 [.int .i64 k.Week, .int .i64 k.Damage, .int .i64 k.Old]⟩
instance : Rp Trh := ⟨3, by omega, fun _ cs a => cs = [.int .i64 a.Week, .int .i64 a.Damage, .int .i64 a.Old], fun h => by rw [h]; rfl, fun h _ => h⟩
structure Dm where
 d0 : Int
 d1 : Int
 d2 : Int
 d3 : Int
 d4 : Int
 d5 : Int
 d6 : Int
 d7 : Int
 d8 : Int
 d9 : Int
 d10 : Int
 d11 : Int
 d12 : Int
instance : MK Dm := ⟨fun k => .agg 13 [.int .i64 k.d0, .int .i64 k.d1, .int .i64 k.d2, .int .i64 k.d3, .int .i64 k.d4, .int .i64 k.d5, .int .i64 k.d6, .int .i64 k.d7, .int .i64 k.d8, .int .i64 k.d9, .int .i64 k.d10, .int .i64 k.d11, .int .i64 k.d12], fun k => fitsP .i64 k.d0 ∧ fitsP .i64 k.d1 ∧ fitsP .i64 k.d2 ∧ fitsP .i64 k.d3 ∧ fitsP .i64 k.d4 ∧ fitsP .i64 k.d5 ∧ fitsP .i64 k.d6 ∧ fitsP .i64 k.d7 ∧ fitsP .i64 k.d8 ∧ fitsP .i64 k.d9 ∧ fitsP .i64 k.d10 ∧ fitsP .i64 k.d11 ∧ fitsP .i64 k.d12 ∧ True⟩
instance : MV Dm := ⟨fun k => .agg 13 [.int .i64 k.d0, .int .i64 k.d1, .int .i64 k.d2, .int .i64 k.d3, .int .i64 k.d4, .int .i64 k.d5, .int .i64 k.d6, .int .i64 k.d7, .int .i64 k.d8, .int .i64 k.d9, .int .i64 k.d10, .int .i64 k.d11, .int .i64 k.d12]⟩
instance : Rp Dm := ⟨13, by omega, fun _ cs a => cs = [.int .i64 a.d0, .int .i64 a.d1, .int .i64 a.d2, .int .i64 a.d3, .int .i64 a.d4, .int .i64 a.d5, .int .i64 a.d6, .int .i64 a.d7, .int .i64 a.d8, .int .i64 a.d9, .int .i64 a.d10, .int .i64 a.d11, .int .i64 a.d12], fun h => by rw [h]; rfl, fun h _ => h⟩
theorem rd_Dm {f : M} {x : C} {l : List Dm} (h : Sl f x l) {n : Nat} {a : Dm} (hi : l[n]? = some a) : ∃ _u : Unit, (∀ m, Sub f m → ldA m (slAt x (n * 13)) 13 = some [.int .i64 a.d0, .int .i64 a.d1, .int .i64 a.d2, .int .i64 a.d3, .int .i64 a.d4, .int .i64 a.d5, .int .i64 a.d6, .int .i64 a.d7, .int .i64 a.d8, .int .i64 a.d9, .int .i64 a.d10, .int .i64 a.d11, .int .i64 a.d12] ∧ (∀ j c, ([.int .i64 a.d0, .int .i64 a.d1, .int .i64 a.d2, .int .i64 a.d3, .int .i64 a.d4, .int .i64 a.d5, .int .i64 a.d6, .int .i64 a.d7, .int .i64 a.d8, .int .i64 a.d9, .int .i64 a.d10, .int .i64 a.d11, .int .i64 a.d12] : List C)[j]? = some c → ldC m (ptAdd (slAt x (n * 13)) j) = some c) ∧ ∀ j i, 0 < i → j + i ≤ 13 → ldA m (ptAdd (slAt x (n * 13)) j) i = some ((([.int .i64 a.d0, .int .i64 a.d1, .int .i64 a.d2, .int .i64 a.d3, .int .i64 a.d4, .int .i64 a.d5, .int .i64 a.d6, .int .i64 a.d7, .int .i64 a.d8, .int .i64 a.d9, .int .i64 a.d10, .int .i64 a.d11, .int .i64 a.d12] : List C).drop j).take i)) := by
 obtain ⟨cs, q1, q2⟩ := h.rdP hi
 have q2 : cs = _ := q2
 subst q2
 exact ⟨(), q1⟩
structure Plt where
 t : Trh
 crop : Int
instance : MK Plt := ⟨fun k => .agg 4 [.int .i64 k.t.Week, .int .i64 k.t.Damage, .int .i64 k.t.Old, .int .i64 k.crop], fun k => fitsP .i64 k.t.Week ∧ fitsP .i64 k.t.Damage ∧ fitsP .i64 k.t.Old ∧ fitsP .i64 k.crop ∧ True⟩
instance : MV Plt := ⟨fun k => .agg 4 [.int .i64 k.t.Week, .int .i64 k.t.Damage, .int .i64 k.t.Old, .int .i64 k.crop]⟩
instance : Rp Plt := ⟨4, by omega, fun _ cs a => cs = [.int .i64 a.t.Week, .int .i64 a.t.Damage, .int .i64 a.t.Old, .int .i64 a.crop], fun h => by rw [h]; rfl, fun h _ => h⟩
structure Crs where
 t : Trh
 d : Dm
instance : MK Crs := ⟨fun k => .agg 16 [.int .i64 k.t.Week, .int .i64 k.t.Damage, .int .i64 k.t.Old, .int .i64 k.d.d0, .int .i64 k.d.d1, .int .i64 k.d.d2, .int .i64 k.d.d3, .int .i64 k.d.d4, .int .i64 k.d.d5, .int .i64 k.d.d6, .int .i64 k.d.d7, .int .i64 k.d.d8, .int .i64 k.d.d9, .int .i64 k.d.d10, .int .i64 k.d.d11, .int .i64 k.d.d12], fun k => fitsP .i64 k.t.Week ∧ fitsP .i64 k.t.Damage ∧ fitsP .i64 k.t.Old ∧ fitsP .i64 k.d.d0 ∧ fitsP .i64 k.d.d1 ∧ fitsP .i64 k.d.d2 ∧ fitsP .i64 k.d.d3 ∧ fitsP .i64 k.d.d4 ∧ fitsP .i64 k.d.d5 ∧ fitsP .i64 k.d.d6 ∧ fitsP .i64 k.d.d7 ∧ fitsP .i64 k.d.d8 ∧ fitsP .i64 k.d.d9 ∧ fitsP .i64 k.d.d10 ∧ fitsP .i64 k.d.d11 ∧ fitsP .i64 k.d.d12 ∧ True⟩
instance : MV Crs := ⟨fun k => .agg 16 [.int .i64 k.t.Week, .int .i64 k.t.Damage, .int .i64 k.t.Old, .int .i64 k.d.d0, .int .i64 k.d.d1, .int .i64 k.d.d2, .int .i64 k.d.d3, .int .i64 k.d.d4, .int .i64 k.d.d5, .int .i64 k.d.d6, .int .i64 k.d.d7, .int .i64 k.d.d8, .int .i64 k.d.d9, .int .i64 k.d.d10, .int .i64 k.d.d11, .int .i64 k.d.d12]⟩
instance : Rp Crs := ⟨16, by omega, fun _ cs a => cs = [.int .i64 a.t.Week, .int .i64 a.t.Damage, .int .i64 a.t.Old, .int .i64 a.d.d0, .int .i64 a.d.d1, .int .i64 a.d.d2, .int .i64 a.d.d3, .int .i64 a.d.d4, .int .i64 a.d.d5, .int .i64 a.d.d6, .int .i64 a.d.d7, .int .i64 a.d.d8, .int .i64 a.d.d9, .int .i64 a.d.d10, .int .i64 a.d.d11, .int .i64 a.d.d12], fun h => by rw [h]; rfl, fun h _ => h⟩
theorem rd_Crs {f : M} {x : C} {l : List Crs} (h : Sl f x l) {n : Nat} {a : Crs} (hi : l[n]? = some a) : ∃ _u : Unit, (∀ m, Sub f m → ldA m (slAt x (n * 16)) 16 = some [.int .i64 a.t.Week, .int .i64 a.t.Damage, .int .i64 a.t.Old, .int .i64 a.d.d0, .int .i64 a.d.d1, .int .i64 a.d.d2, .int .i64 a.d.d3, .int .i64 a.d.d4, .int .i64 a.d.d5, .int .i64 a.d.d6, .int .i64 a.d.d7, .int .i64 a.d.d8, .int .i64 a.d.d9, .int .i64 a.d.d10, .int .i64 a.d.d11, .int .i64 a.d.d12] ∧ (∀ j c, ([.int .i64 a.t.Week, .int .i64 a.t.Damage, .int .i64 a.t.Old, .int .i64 a.d.d0, .int .i64 a.d.d1, .int .i64 a.d.d2, .int .i64 a.d.d3, .int .i64 a.d.d4, .int .i64 a.d.d5, .int .i64 a.d.d6, .int .i64 a.d.d7, .int .i64 a.d.d8, .int .i64 a.d.d9, .int .i64 a.d.d10, .int .i64 a.d.d11, .int .i64 a.d.d12] : List C)[j]? = some c → ldC m (ptAdd (slAt x (n * 16)) j) = some c) ∧ ∀ j i, 0 < i → j + i ≤ 16 → ldA m (ptAdd (slAt x (n * 16)) j) i = some ((([.int .i64 a.t.Week, .int .i64 a.t.Damage, .int .i64 a.t.Old, .int .i64 a.d.d0, .int .i64 a.d.d1, .int .i64 a.d.d2, .int .i64 a.d.d3, .int .i64 a.d.d4, .int .i64 a.d.d5, .int .i64 a.d.d6, .int .i64 a.d.d7, .int .i64 a.d.d8, .int .i64 a.d.d9, .int .i64 a.d.d10, .int .i64 a.d.d11, .int .i64 a.d.d12] : List C).drop j).take i)) := by
 obtain ⟨cs, q1, q2⟩ := h.rdP hi
 have q2 : cs = _ := q2
 subst q2
 exact ⟨(), q1⟩
structure Qn where
 number : Crs → Option (Int)
structure Wk where
 s : Ssn
 damages : Option (Plt → Option (Dm))
def pawake : Option Bool := some true
def prIn (n : Int) (low : Int) (high : Int) : Option (Bool) := (if low ≤ n then (some (decide (n ≤ high))) else (some false))
def prWithin (r : Rg) (low : Int) (high : Int) : Option (Bool) := (if low ≤ r.Lo then (if r.Lo ≤ r.Hi then (some (decide (r.Hi ≤ high))) else (some false)) else (some false))
def prCount (r : Rg) : Option (Int) := (gd (fitsP .i64 (r.Hi - r.Lo)) (gd (fitsP .i64 ((r.Hi - r.Lo) + (1 : Int))) (some ((r.Hi - r.Lo) + (1 : Int)))))
def prIsRule_L0 (s : Ssn) (l : List Int) : Nat → Int → Option (Bool)
 | 0, _ => none
 | d23 + 1, x3 => (if x3 < (l.length : Int) then ((idx l x3).bind fun x25 => ((prIn x25 (0 : Int) (100 : Int)).bind fun r27 => (if r27 = true then (gd (fitsP .i64 (x3 + 1)) (prIsRule_L0 s l d23 (x3 + 1))) else (some false)))) else (gd (fitsP .i64 (s.Last + (1 : Int))) (some (decide ((l.length : Int) = (s.Last + (1 : Int)))))))
def prIsRule (s : Ssn) (l : List Int) : Option (Bool) := (prIsRule_L0 s l (l.length + 1) (0 : Int))
def prMany (fl : Fld) : Option (Int) := ((prCount fl.Week).bind fun r41 => ((prCount fl.Damage).bind fun r47 => (gd ((0 : Int) ≤ r41) (gd ((0 : Int) ≤ r47) (gd (fitsP .i64 (r41 * r47)) ((prCount fl.Old).bind fun r56 => (gd ((0 : Int) ≤ (r41 * r47)) (gd ((0 : Int) ≤ r56) (gd (fitsP .i64 ((r41 * r47) * r56)) (some ((r41 * r47) * r56)))))))))))
def prFault_L3 (s : Ssn) : Nat → Int → Option (Int)
 | 0, _ => none
 | d194 + 1, x90 => (if x90 < (s.Fields.length : Int) then ((idx s.Fields x90).bind fun v196 => ((prMany v196).bind fun r199 => (if (3000 : Int) < r199 then (some (3 : Int)) else (gd (fitsP .i64 (x90 + 1)) (prFault_L3 s d194 (x90 + 1)))))) else (some (0 : Int)))
def prFault_L2 (s : Ssn) : Nat → Int → Int → Option (Int)
 | 0, _, _ => none
 | d149 + 1, x61, x62 => (if x62 < (s.Visits.length : Int) then ((idx s.Visits x62).bind fun v151 => (gd (fitsP .i64 ((s.Fields.length : Int) - (1 : Int))) ((prIn v151.Field (0 : Int) ((s.Fields.length : Int) - (1 : Int))).bind fun r167 => (if r167 = true then ((prIn v151.Week (0 : Int) s.Last).bind fun r175 => (if r175 = true then ((prWithin v151.Seen (0 : Int) (100 : Int)).bind fun r183 => (if r183 = true then (gd (fitsP .i64 (x62 + 1)) (prFault_L2 s d149 x61 (x62 + 1))) else (some (1 : Int)))) else (some (1 : Int)))) else (some (1 : Int)))))) else (prFault_L3 s 1000000 (0 : Int)))
def prFault_L1 (s : Ssn) : Nat → Int → Int → Option (Int)
 | 0, _, _ => none
 | d96 + 1, x24, x25 => (if x25 < (s.Fields.length : Int) then ((idx s.Fields x25).bind fun v98 => (gd (fitsP .i64 ((s.Rules.length : Int) - (1 : Int))) ((prIn v98.Crop (0 : Int) ((s.Rules.length : Int) - (1 : Int))).bind fun r114 => (if r114 = true then ((prWithin v98.Week (0 : Int) s.Last).bind fun r122 => (if r122 = true then ((prWithin v98.Damage (0 : Int) (100 : Int)).bind fun r130 => (if r130 = true then ((prWithin v98.Old (0 : Int) (100 : Int)).bind fun r138 => (if r138 = true then (gd (fitsP .i64 (x25 + 1)) (prFault_L1 s d96 x24 (x25 + 1))) else (some (1 : Int)))) else (some (1 : Int)))) else (some (1 : Int)))) else (some (1 : Int)))))) else (prFault_L2 s 1000000 x24 (0 : Int)))
def prFault_L0 (s : Ssn) : Nat → Int → Int → Option (Int)
 | 0, _, _ => none
 | d79 + 1, x9, x10 => (if x10 < (s.Rules.length : Int) then ((idx s.Rules x10).bind fun v81 => ((prIsRule s v81).bind fun r86 => (if r86 = true then (gd (fitsP .i64 (x10 + 1)) (prFault_L0 s d79 x9 (x10 + 1))) else (some (1 : Int))))) else (prFault_L1 s 1000000 x9 (0 : Int)))
def prFault (s : Ssn) : Option (Int) := (if (12 : Int) < s.Last then (some (3 : Int)) else (if (3 : Int) < (s.Rules.length : Int) then (some (3 : Int)) else (if (3 : Int) < (s.Fields.length : Int) then (some (3 : Int)) else (if (6 : Int) < (s.Visits.length : Int) then (some (3 : Int)) else (if s.Last < (0 : Int) then (some (1 : Int)) else (if (s.Rules.length : Int) = (0 : Int) then (some (1 : Int)) else (if (s.Fields.length : Int) = (0 : Int) then (some (1 : Int)) else (prFault_L0 s 1000000 (0 : Int) (0 : Int)))))))))
def plList (l : List Int) : Option (List Int) := (gd (([] : List Int).length + l.length ≤ 1048576) (some ([] ++ l)))
def plTo (r : Rg) : Option (Rg) := (some r)
def plSeason_L2 (s : Ssn) (y265 : List (List Int)) (y315 : List Fld) : Nat → Int → (List Vis) → Int → Option (Ssn)
 | 0, _, _, _ => none
 | d397 + 1, y393, y394, x60 => (if x60 < (s.Visits.length : Int) then ((idx s.Visits x60).bind fun v399 => ((plTo v399.Seen).bind fun r418 => (gd (y394.length < 1048576) (gd (fitsP .i64 (x60 + 1)) (plSeason_L2 s y265 y315 d397 y393 (y394 ++ [({ Field := v399.Field, Week := v399.Week, Seen := r418 } : Vis)]) (x60 + 1)))))) else (some ({ Last := y393, Rules := y265, Fields := y315, Visits := y394 } : Ssn)))
def plSeason_L1 (s : Ssn) (y265 : List (List Int)) : Nat → Int → (List Fld) → (List Vis) → Int → Option (Ssn)
 | 0, _, _, _, _ => none
 | d321 + 1, y314, y315, y318, x21 => (if x21 < (s.Fields.length : Int) then ((idx s.Fields x21).bind fun v323 => ((plTo v323.Week).bind fun r342 => ((plTo v323.Damage).bind fun r351 => ((plTo v323.Old).bind fun r360 => (gd (y315.length < 1048576) (gd (fitsP .i64 (x21 + 1)) (plSeason_L1 s y265 d321 y314 (y315 ++ [({ Crop := v323.Crop, Week := r342, Damage := r351, Old := r360 } : Fld)]) y318 (x21 + 1)))))))) else (plSeason_L2 s y265 y315 1000000 y314 y318 (0 : Int)))
def plSeason_L0 (s : Ssn) : Nat → Int → (List (List Int)) → (List Fld) → (List Vis) → Int → Option (Ssn)
 | 0, _, _, _, _, _ => none
 | d274 + 1, y264, y265, y268, y271, x6 => (if x6 < (s.Rules.length : Int) then ((idx s.Rules x6).bind fun v276 => ((plList v276).bind fun r281 => (gd (y265.length < 1048576) (gd (fitsP .i64 (x6 + 1)) (plSeason_L0 s d274 y264 (y265 ++ [r281]) y268 y271 (x6 + 1)))))) else (plSeason_L1 s y265 1000000 y264 y268 y271 (0 : Int)))
def plSeason (s : Ssn) : Option (Ssn) := (plSeason_L0 s 1000000 s.Last [] [] [] (0 : Int))
def plThin_L1 (s : Ssn) (r507 : Int) : Nat → Int → Option (Bool)
 | 0, _ => none
 | d515 + 1, x21 => (if x21 < (s.Fields.length : Int) then (if (!(decide (r507 = 0))) = true then (gd (fitsP .i64 (x21 + 1)) (plThin_L1 s r507 d515 (x21 + 1))) else ((idx s.Fields x21).bind fun v518 => ((prMany v518).bind fun r521 => (if (200 : Int) < r521 then (some false) else (gd (fitsP .i64 (x21 + 1)) (plThin_L1 s r507 d515 (x21 + 1))))))) else (some true))
def plThin_L0 (s : Ssn) : Nat → Bool → Int → Option (Bool)
 | 0, _, _ => none
 | d498 + 1, b5, x6 => (if x6 < (s.Rules.length : Int) then ((idx s.Rules x6).bind fun v500 => (if (20 : Int) < (v500.length : Int) then (some false) else (gd (fitsP .i64 (x6 + 1)) (plThin_L0 s d498 b5 (x6 + 1))))) else ((prFault s).bind fun r507 => (plThin_L1 s r507 1000000 (0 : Int))))
def plThin (s : Ssn) : Option (Bool) := (if (5 : Int) < (s.Rules.length : Int) then (some false) else (if (5 : Int) < (s.Fields.length : Int) then (some false) else (if (9 : Int) < (s.Visits.length : Int) then (some false) else (plThin_L0 s 1000000 false (0 : Int)))))
def plReady (s : Ssn) : Option (Bool) := ((plThin s).bind fun r535 => (if r535 = true then ((prFault s).bind fun r542 => (some (decide (r542 = 0)))) else (some false)))
def phas (r : Rg) (n : Int) : Option (Bool) := (if r.Lo ≤ n then (some (decide (n ≤ r.Hi))) else (some false))
def pcount (r : Rg) : Option (Int) := (gd (fitsP .i64 (r.Hi - r.Lo)) (gd (fitsP .i64 ((r.Hi - r.Lo) + (1 : Int))) (some ((r.Hi - r.Lo) + (1 : Int)))))
def pwithin (r : Rg) (low : Int) (high : Int) : Option (Bool) := (if low ≤ r.Lo then (if r.Lo ≤ r.Hi then (some (decide (r.Hi ≤ high))) else (some false)) else (some false))
def pisHundredths (n : Int) : Option (Bool) := ((phas ({ Lo := (0 : Int), Hi := (100 : Int) } : Rg) n).bind fun r720 => (some r720))
def phasField (s : Ssn) (n : Int) : Option (Bool) := (gd (fitsP .i64 ((s.Fields.length : Int) - (1 : Int))) ((phas ({ Lo := (0 : Int), Hi := ((s.Fields.length : Int) - (1 : Int)) } : Rg) n).bind fun r731 => (some r731)))
def phasWeek (s : Ssn) (n : Int) : Option (Bool) := ((phas ({ Lo := (0 : Int), Hi := s.Last } : Rg) n).bind fun r742 => (some r742))
def ptooMany (s : Ssn) : Option (Bool) := (if (12 : Int) < s.Last then (some true) else (if (3 : Int) < (s.Rules.length : Int) then (some true) else (if (3 : Int) < (s.Fields.length : Int) then (some true) else (some (decide ((6 : Int) < (s.Visits.length : Int)))))))
def peachI1 (x : Int) (passes : Int → Option (Bool)) : Option (Bool) := ((passes x).bind fun r756 => (some (!r756)))
def pindexI_L0 (l : List Int) (p : Int → Option (Bool)) : Nat → Int → Option (Int)
 | 0, _ => none
 | d763 + 1, x2 => (if x2 < (l.length : Int) then ((idx l x2).bind fun x765 => ((p x765).bind fun r767 => (if r767 = true then (some x2) else (gd (fitsP .i64 (x2 + 1)) (pindexI_L0 l p d763 (x2 + 1)))))) else (some (-1 : Int)))
def pindexI (l : List Int) (p : Int → Option (Bool)) : Option (Int) := (pindexI_L0 l p (l.length + 1) (0 : Int))
def pcontainsI (l : List Int) (p : Int → Option (Bool)) : Option (Bool) := ((pindexI l p).bind fun r774 => (some (decide ((0 : Int) ≤ r774))))
def peachI (l : List Int) (passes : Int → Option (Bool)) : Option (Bool) := ((pcontainsI l (fun a788 => peachI1 a788 passes)).bind fun r790 => (some (!r790)))
def peachL1 (x : List Int) (passes : List Int → Option (Bool)) : Option (Bool) := ((passes x).bind fun r795 => (some (!r795)))
def pindexL_L0 (l : List (List Int)) (p : List Int → Option (Bool)) : Nat → Int → Option (Int)
 | 0, _ => none
 | d802 + 1, x2 => (if x2 < (l.length : Int) then ((idx l x2).bind fun v804 => ((p v804).bind fun r809 => (if r809 = true then (some x2) else (gd (fitsP .i64 (x2 + 1)) (pindexL_L0 l p d802 (x2 + 1)))))) else (some (-1 : Int)))
def pindexL (l : List (List Int)) (p : List Int → Option (Bool)) : Option (Int) := (pindexL_L0 l p (l.length + 1) (0 : Int))
def pcontainsL (l : List (List Int)) (p : List Int → Option (Bool)) : Option (Bool) := ((pindexL l p).bind fun r816 => (some (decide ((0 : Int) ≤ r816))))
def peachL (l : List (List Int)) (passes : List Int → Option (Bool)) : Option (Bool) := ((pcontainsL l (fun a830 => peachL1 a830 passes)).bind fun r834 => (some (!r834)))
def peachF1 (x : Fld) (passes : Fld → Option (Bool)) : Option (Bool) := ((passes x).bind fun r844 => (some (!r844)))
def pindexF_L0 (l : List Fld) (p : Fld → Option (Bool)) : Nat → Int → Option (Int)
 | 0, _ => none
 | d852 + 1, x2 => (if x2 < (l.length : Int) then ((idx l x2).bind fun v854 => ((p v854).bind fun r857 => (if r857 = true then (some x2) else (gd (fitsP .i64 (x2 + 1)) (pindexF_L0 l p d852 (x2 + 1)))))) else (some (-1 : Int)))
def pindexF (l : List Fld) (p : Fld → Option (Bool)) : Option (Int) := (pindexF_L0 l p (l.length + 1) (0 : Int))
def pcontainsF (l : List Fld) (p : Fld → Option (Bool)) : Option (Bool) := ((pindexF l p).bind fun r864 => (some (decide ((0 : Int) ≤ r864))))
def peachF (l : List Fld) (passes : Fld → Option (Bool)) : Option (Bool) := ((pcontainsF l (fun a878 => peachF1 a878 passes)).bind fun r880 => (some (!r880)))
def peachV1 (x : Vis) (passes : Vis → Option (Bool)) : Option (Bool) := ((passes x).bind fun r890 => (some (!r890)))
def pindexV_L0 (l : List Vis) (p : Vis → Option (Bool)) : Nat → Int → Option (Int)
 | 0, _ => none
 | d898 + 1, x2 => (if x2 < (l.length : Int) then ((idx l x2).bind fun v900 => ((p v900).bind fun r903 => (if r903 = true then (some x2) else (gd (fitsP .i64 (x2 + 1)) (pindexV_L0 l p d898 (x2 + 1)))))) else (some (-1 : Int)))
def pindexV (l : List Vis) (p : Vis → Option (Bool)) : Option (Int) := (pindexV_L0 l p (l.length + 1) (0 : Int))
def pcontainsV (l : List Vis) (p : Vis → Option (Bool)) : Option (Bool) := ((pindexV l p).bind fun r910 => (some (decide ((0 : Int) ≤ r910))))
def peachV (l : List Vis) (passes : Vis → Option (Bool)) : Option (Bool) := ((pcontainsV l (fun a924 => peachV1 a924 passes)).bind fun r926 => (some (!r926)))
def peachD1 (x : Dm) (passes : Dm → Option (Bool)) : Option (Bool) := ((passes x).bind fun r936 => (some (!r936)))
def pindexD_L0 (l : List Dm) (p : Dm → Option (Bool)) : Nat → Int → Option (Int)
 | 0, _ => none
 | d944 + 1, x2 => (if x2 < (l.length : Int) then ((idx l x2).bind fun v946 => ((p v946).bind fun r949 => (if r949 = true then (some x2) else (gd (fitsP .i64 (x2 + 1)) (pindexD_L0 l p d944 (x2 + 1)))))) else (some (-1 : Int)))
def pindexD (l : List Dm) (p : Dm → Option (Bool)) : Option (Int) := (pindexD_L0 l p (l.length + 1) (0 : Int))
def pcontainsD (l : List Dm) (p : Dm → Option (Bool)) : Option (Bool) := ((pindexD l p).bind fun r956 => (some (decide ((0 : Int) ≤ r956))))
def peachD (l : List Dm) (passes : Dm → Option (Bool)) : Option (Bool) := ((pcontainsD l (fun a970 => peachD1 a970 passes)).bind fun r972 => (some (!r972)))
def pvalidRule (s : Ssn) (rule : List Int) : Option (Bool) := (gd (fitsP .i64 (s.Last + (1 : Int))) (if (rule.length : Int) = (s.Last + (1 : Int)) then ((peachI rule (fun a984 => pisHundredths a984)).bind fun r986 => (some r986)) else (some false)))
def pvalidField (s : Ssn) (fl : Fld) : Option (Bool) := (gd (fitsP .i64 ((s.Rules.length : Int) - (1 : Int))) ((phas ({ Lo := (0 : Int), Hi := ((s.Rules.length : Int) - (1 : Int)) } : Rg) fl.Crop).bind fun r1004 => (if r1004 = true then ((pwithin fl.Week (0 : Int) s.Last).bind fun r1012 => (if r1012 = true then ((pwithin fl.Damage (0 : Int) (100 : Int)).bind fun r1020 => (if r1020 = true then ((pwithin fl.Old (0 : Int) (100 : Int)).bind fun r1028 => (some r1028)) else (some false))) else (some false))) else (some false))))
def pvalidVisit (s : Ssn) (v : Vis) : Option (Bool) := ((phasField s v.Field).bind fun r1046 => (if r1046 = true then ((phasWeek s v.Week).bind fun r1054 => (if r1054 = true then ((pwithin v.Seen (0 : Int) (100 : Int)).bind fun r1062 => (some r1062)) else (some false))) else (some false)))
def phasFew (fl : Fld) : Option (Bool) := ((pcount fl.Week).bind fun r1074 => ((pcount fl.Damage).bind fun r1080 => (gd ((0 : Int) ≤ r1074) (gd ((0 : Int) ≤ r1080) (gd (fitsP .i64 (r1074 * r1080)) ((pcount fl.Old).bind fun r1089 => (gd ((0 : Int) ≤ (r1074 * r1080)) (gd ((0 : Int) ≤ r1089) (gd (fitsP .i64 ((r1074 * r1080) * r1089)) (some (decide (((r1074 * r1080) * r1089) ≤ (3000 : Int)))))))))))))
def pisChoice (fl : Fld) (t : Trh) : Option (Bool) := ((phas fl.Week t.Week).bind fun r1109 => (if r1109 = true then ((phas fl.Damage t.Damage).bind fun r1117 => (if r1117 = true then ((phas fl.Old t.Old).bind fun r1125 => (some r1125)) else (some false))) else (some false)))
def pvalid (s : Ssn) : Option (Bool) := (if (0 : Int) ≤ s.Last then (if (0 : Int) < (s.Rules.length : Int) then (if (0 : Int) < (s.Fields.length : Int) then ((peachL s.Rules (fun a1140 => pvalidRule s a1140)).bind fun r1144 => (if r1144 = true then ((peachF s.Fields (fun a1151 => pvalidField s a1151)).bind fun r1153 => (if r1153 = true then ((peachV s.Visits (fun a1160 => pvalidVisit s a1160)).bind fun r1162 => (some r1162)) else (some false))) else (some false))) else (some false)) else (some false)) else (some false))
def pcheck (s : Ssn) : Option (Int) := ((ptooMany s).bind fun r1173 => (if r1173 = true then (some (3 : Int)) else ((pvalid s).bind fun r1180 => (if r1180 = true then ((peachF s.Fields (fun a1187 => phasFew a1187)).bind fun r1189 => (if r1189 = true then (some (0 : Int)) else (some (3 : Int)))) else (some (1 : Int))))))
def pgrow_L0 (s : Ssn) (p : Plt) : Nat → Int → Int → Int → Int → Int → Int → Int → Int → Int → Int → Int → Int → Int → Int → Int → Option (Dm)
 | 0, _, _, _, _, _, _, _, _, _, _, _, _, _, _, _ => none
 | d1237 + 1, y1224, y1225, y1226, y1227, y1228, y1229, y1230, y1231, y1232, y1233, y1234, y1235, y1236, x5, x7 => (if x7 < 13 then (if x7 = p.t.Week then (gd (0 ≤ x7 ∧ x7 < 13) (gd (fitsP .i64 (x7 + 1)) (pgrow_L0 s p d1237 (sti x7 0 p.t.Damage y1224) (sti x7 1 p.t.Damage y1225) (sti x7 2 p.t.Damage y1226) (sti x7 3 p.t.Damage y1227) (sti x7 4 p.t.Damage y1228) (sti x7 5 p.t.Damage y1229) (sti x7 6 p.t.Damage y1230) (sti x7 7 p.t.Damage y1231) (sti x7 8 p.t.Damage y1232) (sti x7 9 p.t.Damage y1233) (sti x7 10 p.t.Damage y1234) (sti x7 11 p.t.Damage y1235) (sti x7 12 p.t.Damage y1236) p.t.Damage (x7 + 1)))) else (if x7 ≤ s.Last then ((idx s.Rules p.crop).bind fun v1251 => ((idx v1251 x7).bind fun x1256 => (gd ((0 : Int) ≤ x5) (gd ((0 : Int) ≤ x1256) (gd (fitsP .i64 (x5 * x1256)) (gd ((0 : Int) ≤ (x5 * x1256)) (gd ((0 : Int) < (100 : Int)) (gd (fitsP .i64 ((x5 * x1256) / (100 : Int))) (gd (fitsP .i64 (x5 - ((x5 * x1256) / (100 : Int)))) (gd (0 ≤ x7 ∧ x7 < 13) (gd (fitsP .i64 (x7 + 1)) (pgrow_L0 s p d1237 (sti x7 0 (x5 - ((x5 * x1256) / (100 : Int))) y1224) (sti x7 1 (x5 - ((x5 * x1256) / (100 : Int))) y1225) (sti x7 2 (x5 - ((x5 * x1256) / (100 : Int))) y1226) (sti x7 3 (x5 - ((x5 * x1256) / (100 : Int))) y1227) (sti x7 4 (x5 - ((x5 * x1256) / (100 : Int))) y1228) (sti x7 5 (x5 - ((x5 * x1256) / (100 : Int))) y1229) (sti x7 6 (x5 - ((x5 * x1256) / (100 : Int))) y1230) (sti x7 7 (x5 - ((x5 * x1256) / (100 : Int))) y1231) (sti x7 8 (x5 - ((x5 * x1256) / (100 : Int))) y1232) (sti x7 9 (x5 - ((x5 * x1256) / (100 : Int))) y1233) (sti x7 10 (x5 - ((x5 * x1256) / (100 : Int))) y1234) (sti x7 11 (x5 - ((x5 * x1256) / (100 : Int))) y1235) (sti x7 12 (x5 - ((x5 * x1256) / (100 : Int))) y1236) (x5 - ((x5 * x1256) / (100 : Int))) (x7 + 1))))))))))))) else (gd (0 ≤ x7 ∧ x7 < 13) (gd (fitsP .i64 (x7 + 1)) (pgrow_L0 s p d1237 (sti x7 0 x5 y1224) (sti x7 1 x5 y1225) (sti x7 2 x5 y1226) (sti x7 3 x5 y1227) (sti x7 4 x5 y1228) (sti x7 5 x5 y1229) (sti x7 6 x5 y1230) (sti x7 7 x5 y1231) (sti x7 8 x5 y1232) (sti x7 9 x5 y1233) (sti x7 10 x5 y1234) (sti x7 11 x5 y1235) (sti x7 12 x5 y1236) x5 (x7 + 1)))))) else (some ({ d0 := y1224, d1 := y1225, d2 := y1226, d3 := y1227, d4 := y1228, d5 := y1229, d6 := y1230, d7 := y1231, d8 := y1232, d9 := y1233, d10 := y1234, d11 := y1235, d12 := y1236 } : Dm)))
def pgrow (s : Ssn) (p : Plt) : Option (Dm) := (pgrow_L0 s p (Int.toNat (13 : Int) + 1) (0 : Int) (0 : Int) (0 : Int) (0 : Int) (0 : Int) (0 : Int) (0 : Int) (0 : Int) (0 : Int) (0 : Int) (0 : Int) (0 : Int) (0 : Int) (0 : Int) (0 : Int))
def pfollow (s : Ssn) (field : Int) (t : Trh) : Option (Crs × Bool) := ((pcheck s).bind fun r1311 => (if r1311 = 0 then ((phasField s field).bind fun r1327 => (if r1327 = true then ((idx s.Fields field).bind fun v1343 => ((pisChoice v1343 t).bind fun r1346 => (if r1346 = true then ((idx s.Fields field).bind fun v1362 => ((pgrow s ({ t := t, crop := v1362.Crop } : Plt)).bind fun r1365 => (some (({ t := t, d := r1365 } : Crs), true)))) else (some (({ t := ({ Week := (0 : Int), Damage := (0 : Int), Old := (0 : Int) } : Trh), d := ({ d0 := (0 : Int), d1 := (0 : Int), d2 := (0 : Int), d3 := (0 : Int), d4 := (0 : Int), d5 := (0 : Int), d6 := (0 : Int), d7 := (0 : Int), d8 := (0 : Int), d9 := (0 : Int), d10 := (0 : Int), d11 := (0 : Int), d12 := (0 : Int) } : Dm) } : Crs), false))))) else (some (({ t := ({ Week := (0 : Int), Damage := (0 : Int), Old := (0 : Int) } : Trh), d := ({ d0 := (0 : Int), d1 := (0 : Int), d2 := (0 : Int), d3 := (0 : Int), d4 := (0 : Int), d5 := (0 : Int), d6 := (0 : Int), d7 := (0 : Int), d8 := (0 : Int), d9 := (0 : Int), d10 := (0 : Int), d11 := (0 : Int), d12 := (0 : Int) } : Dm) } : Crs), false)))) else (some (({ t := ({ Week := (0 : Int), Damage := (0 : Int), Old := (0 : Int) } : Trh), d := ({ d0 := (0 : Int), d1 := (0 : Int), d2 := (0 : Int), d3 := (0 : Int), d4 := (0 : Int), d5 := (0 : Int), d6 := (0 : Int), d7 := (0 : Int), d8 := (0 : Int), d9 := (0 : Int), d10 := (0 : Int), d11 := (0 : Int), d12 := (0 : Int) } : Dm) } : Crs), false))))
def pharvestD (d : Dm) : Option (Int) := ((idx ([d.d0, d.d1, d.d2, d.d3, d.d4, d.d5, d.d6, d.d7, d.d8, d.d9, d.d10, d.d11, d.d12] : List Int) (12 : Int)).bind fun v1386 => (some v1386))
def pseen (c : Crs) (week : Int) : Option (Int) := ((idx ([c.d.d0, c.d.d1, c.d.d2, c.d.d3, c.d.d4, c.d.d5, c.d.d6, c.d.d7, c.d.d8, c.d.d9, c.d.d10, c.d.d11, c.d.d12] : List Int) week).bind fun v1408 => (gd (fitsP .i64 (c.t.Old + v1408)) (some (min (c.t.Old + v1408) (100 : Int)))))
def pHarvest (s : Ssn) (field : Int) (t : Trh) : Option (Int) := ((pfollow s field t).bind fun r1421 => (if r1421.2 = true then ((pharvestD r1421.1.d).bind fun r1443 => (some r1443)) else (some (0 : Int))))
def pallows1 (v : Vis) (field : Int) (c : Crs) : Option (Bool) := (if v.Field = field then ((pseen c v.Week).bind fun r1457 => ((phas v.Seen r1457).bind fun r1463 => (some r1463))) else (some true))
def pallows (s : Ssn) (field : Int) (c : Crs) : Option (Bool) := ((peachV s.Visits (fun a1498 => pallows1 a1498 field c)).bind fun r1500 => (some r1500))
def pnumbersI_L0 (r : Rg) (r1547 : Int) : Nat → Int → Option (List Int)
 | 0, _ => none
 | d1558 + 1, x6 => (if x6 < r1547 then (gd (fitsP .i64 (r.Lo + x6)) (((gd (fitsP .i64 (x6 + 1)) (pnumbersI_L0 r r1547 d1558 (x6 + 1)))).bind fun r1561 => some ((r.Lo + x6) :: r1561))) else (some []))
def pnumbersI (r : Rg) : Option (List Int) := ((pcount r).bind fun r1547 => (pnumbersI_L0 r r1547 (Int.toNat r1547 + 1) (0 : Int)))
def pnumbers (r : Rg) : Option (List Int) := ((pnumbersI r).bind fun l1584 => (some l1584))
def pplant (fl : Fld) (week : Int) (damage : Int) : Option (Plt) := (some ({ t := ({ Week := week, Damage := damage, Old := (0 : Int) } : Trh), crop := fl.Crop } : Plt))
def popen_L1_xret (s : Ssn) (_w1682 : Option (Plt → Option (Dm))) : Option (Wk) := (some ({ s := ({ Last := (0 : Int), Rules := [], Fields := [], Visits := [] } : Ssn), damages := none } : Wk))
def popen_L2 (s : Ssn) (v1644 : Fld) (a1688 : Int) (K_X1 : (Option (Plt → Option (Dm))) → Option (Wk)) : List Int → (Option (Plt → Option (Dm))) → Option (Wk)
 | [], w1755 => (K_X1 w1755)
 | a1758 :: q1759, w1755 => ((pplant v1644 a1688 a1758).bind fun r1784 => ((pgrow s r1784).bind fun r1823 => (gd (MK.fit r1784) ((mset w1755 r1784 r1823).bind fun w1838 => ((popen_L2 s v1644 a1688 K_X1 q1759) w1838)))))
def popen_L1 (s : Ssn) (x11 : Int) (v1644 : Fld) (K_R10 : (Option (Plt → Option (Dm))) → Int → Option (Wk)) : List Int → (Option (Plt → Option (Dm))) → Option (Wk)
 | [], w1682 => (gd (fitsP .i64 (x11 + 1)) (K_R10 w1682 (x11 + 1)))
 | a1688 :: q1689, w1682 => ((pnumbers v1644.Damage).bind fun r1735 => (popen_L2 s v1644 a1688 ((popen_L1 s x11 v1644 K_R10 q1689)) r1735 w1682))
def popen_L0 (s : Ssn) : Nat → (Option (Plt → Option (Dm))) → Int → Option (Wk)
 | 0, _, _ => none
 | d1642 + 1, w1641, x11 => (if x11 < (s.Fields.length : Int) then ((idx s.Fields x11).bind fun v1644 => ((pnumbers v1644.Week).bind fun r1665 => (popen_L1 s x11 v1644 (popen_L0 s d1642) r1665 w1641))) else (some ({ s := s, damages := w1641 } : Wk)))
def popen (s : Ssn) : Option (Wk) := (popen_L0 s (s.Fields.length + 1) (some fun _ => none : Option (Plt → Option (Dm))) (0 : Int))
def pchoicesI_L0_xret : Option (List Crs) := (some [])
def pchoicesI_L1_xret : Option (List Crs) := (pchoicesI_L0_xret)
def pchoicesI_L2_xret : Option (List Crs) := (pchoicesI_L1_xret)
def pchoicesI_L2 (a1902 : Int) (a1963 : Int) (K_X1 : Option (List Crs)) : List Int → Option (List Crs)
 | [] => (K_X1)
 | a2084 :: q2085 => ((((pchoicesI_L2 a1902 a1963 K_X1 q2085))).bind fun r2110 => some (({ t := ({ Week := a1902, Damage := a1963, Old := a2084 } : Trh), d := ({ d0 := (0 : Int), d1 := (0 : Int), d2 := (0 : Int), d3 := (0 : Int), d4 := (0 : Int), d5 := (0 : Int), d6 := (0 : Int), d7 := (0 : Int), d8 := (0 : Int), d9 := (0 : Int), d10 := (0 : Int), d11 := (0 : Int), d12 := (0 : Int) } : Dm) } : Crs) :: r2110))
def pchoicesI_L3_xret : Option (List Crs) := (pchoicesI_L1_xret)
def pchoicesI_L3 (a1902 : Int) (a1963 : Int) (w2033 : Dm) (K_X1 : Option (List Crs)) : List Int → Option (List Crs)
 | [] => (K_X1)
 | a2191 :: q2192 => ((((pchoicesI_L3 a1902 a1963 w2033 K_X1 q2192))).bind fun r2217 => some (({ t := ({ Week := a1902, Damage := a1963, Old := a2191 } : Trh), d := w2033 } : Crs) :: r2217))
def pchoicesI_L1 (fl : Fld) (w : Wk) (a1902 : Int) (K_X0 : Option (List Crs)) : List Int → Option (List Crs)
 | [] => (K_X0)
 | a1963 :: q1964 => ((pplant fl a1902 a1963).bind fun r2019 => (gd (MK.fit r2019) (mcase (mget w.damages r2019) ((pnumbers fl.Old).bind fun r2055 => (pchoicesI_L2 a1902 a1963 ((pchoicesI_L1 fl w a1902 K_X0 q1964)) r2055)) fun w2033 => ((pnumbers fl.Old).bind fun r2162 => (pchoicesI_L3 a1902 a1963 w2033 ((pchoicesI_L1 fl w a1902 K_X0 q1964)) r2162)))))
def pchoicesI_L0 (fl : Fld) (w : Wk) : List Int → Option (List Crs)
 | [] => (some [])
 | a1902 :: q1903 => ((pnumbers fl.Damage).bind fun r1940 => (pchoicesI_L1 fl w a1902 ((pchoicesI_L0 fl w q1903)) r1940))
def pchoicesI (fl : Fld) (w : Wk) : Option (List Crs) := ((pnumbers fl.Week).bind fun r1883 => (pchoicesI_L0 fl w r1883))
def pchoices (w : Wk) (fl : Fld) : Option (List Crs) := ((pchoicesI fl w).bind fun l2276 => (some l2276))
def ptruthsI_L0_xret : Option (List Crs) := (some [])
def ptruthsI_L0 (w : Wk) (field : Int) : List Crs → Option (List Crs)
 | [] => (some [])
 | a2307 :: q2308 => ((pallows w.s field a2307).bind fun r2345 => (if r2345 = true then ((((ptruthsI_L0 w field q2308))).bind fun r2355 => some (a2307 :: r2355)) else ((ptruthsI_L0 w field q2308))))
def ptruthsI (w : Wk) (field : Int) : Option (List Crs) := ((idx w.s.Fields field).bind fun v2285 => ((pchoices w v2285).bind fun r2288 => (ptruthsI_L0 w field r2288)))
def ptruths (w : Wk) (field : Int) : Option (List Crs) := ((ptruthsI w field).bind fun l2398 => (some l2398))
def phasTruthOf_L0_xret (y2423 : Bool) : Option (Bool) := (some y2423)
def phasTruthOf_L0 : List Crs → Bool → Option (Bool)
 | [], y2423 => (some false)
 | _ :: _, y2423 => (phasTruthOf_L0_xret true)
def phasTruthOf (w : Wk) (field : Int) : Option (Bool) := ((ptruths w field).bind fun r2412 => (phasTruthOf_L0 r2412 false))
def phasTruth_L0 (w : Wk) : Nat → Int → Option (Bool)
 | 0, _ => none
 | d2474 + 1, x4 => (if x4 < (w.s.Fields.length : Int) then ((phasTruthOf w x4).bind fun r2476 => (if r2476 = true then (gd (fitsP .i64 (x4 + 1)) (phasTruth_L0 w d2474 (x4 + 1))) else (some false))) else (some true))
def phasTruth (w : Wk) : Option (Bool) := (phasTruth_L0 w (w.s.Fields.length + 1) (0 : Int))
def popenTrue (s : Ssn) : Option (Wk × Int) := ((pcheck s).bind fun r2518 => (if r2518 = 0 then ((popen s).bind fun r2532 => ((phasTruth r2532).bind fun r2562 => (if r2562 = true then (some (r2532, (0 : Int))) else (some (({ s := ({ Last := (0 : Int), Rules := [], Fields := [], Visits := [] } : Ssn), damages := none } : Wk), (11 : Int)))))) else (some (({ s := ({ Last := (0 : Int), Rules := [], Fields := [], Visits := [] } : Ssn), damages := none } : Wk), r2518))))
def popenAsked (s : Ssn) (field : Int) (known : Bool) : Option (Wk × Int) := ((pcheck s).bind fun r2596 => (if r2596 = 0 then ((phasField s field).bind fun r2610 => (if r2610 = true then (if known = true then ((popenTrue s).bind fun r2631 => (some (r2631.1, r2631.2))) else (some (({ s := ({ Last := (0 : Int), Rules := [], Fields := [], Visits := [] } : Ssn), damages := none } : Wk), (2 : Int)))) else (some (({ s := ({ Last := (0 : Int), Rules := [], Fields := [], Visits := [] } : Ssn), damages := none } : Wk), (2 : Int))))) else (some (({ s := ({ Last := (0 : Int), Rules := [], Fields := [], Visits := [] } : Ssn), damages := none } : Wk), r2596))))
def pminimum_L0 (l : List Int) : Nat → Int → Int → Option (Int)
 | 0, _, _ => none
 | d2673 + 1, x3, x4 => (if x4 < (l.length : Int) then ((idx l x4).bind fun x2675 => (if x2675 < x3 then (gd (fitsP .i64 (x4 + 1)) (pminimum_L0 l d2673 x2675 (x4 + 1))) else (gd (fitsP .i64 (x4 + 1)) (pminimum_L0 l d2673 x3 (x4 + 1))))) else (some x3))
def pminimum (l : List Int) : Option (Int) := (if (l.length : Int) = (0 : Int) then (some (0 : Int)) else ((idx l (0 : Int)).bind fun x2669 => (pminimum_L0 l (l.length + 1) x2669 (0 : Int))))
def psMax_L0 (l : List Int) : Nat → Int → Int → Option (Int)
 | 0, _, _ => none
 | d2685 + 1, x3, x4 => (if x4 < (l.length : Int) then ((idx l x4).bind fun x2687 => (gd (fitsP .i64 (x4 + 1)) (psMax_L0 l d2685 (max x3 x2687) (x4 + 1)))) else (some x3))
def psMax (l : List Int) : Option (Int) := (if (l.length : Int) < (1 : Int) then none else ((idx l (0 : Int)).bind fun x2681 => (psMax_L0 l (((l.length : Int) - (1 : Int)).toNat + 1) x2681 (1 : Int))))
def pspan_L0 (q : Qn) : List Crs → (List Int) → Option (Rg)
 | [], y2731 => ((pminimum y2731).bind fun r2827 => ((psMax y2731).bind fun r2837 => (some ({ Lo := r2827, Hi := r2837 } : Rg))))
 | a2735 :: q2736, y2731 => ((q.number a2735).bind fun r2779 => (gd (y2731.length < 1048576) ((pspan_L0 q q2736) (y2731 ++ [r2779]))))
def pspan (w : Wk) (field : Int) (q : Qn) : Option (Rg) := ((ptruths w field).bind fun r2716 => (pspan_L0 q r2716 []))
def pseen1 (c : Crs) (week : Int) : Option (Int) := ((pseen c week).bind fun r2978 => (some r2978))
def pSeen (s : Ssn) (field : Int) (week : Int) : Option (Rg × Int) := ((phasWeek s week).bind fun r3011 => ((popenAsked s field r3011).bind fun r3020 => (if r3020.2 = (0 : Int) then ((pspan r3020.1 field ({ number := (fun a3069 => pseen1 a3069 week) } : Qn)).bind fun r3071 => (some (r3071, (0 : Int)))) else (some (({ Lo := (0 : Int), Hi := (0 : Int) } : Rg), r3020.2)))))
def pappendSeq_L0 : List Crs → (List Crs) → Option (List Crs)
 | [], y3091 => (some y3091)
 | a3095 :: q3096, y3091 => (gd (y3091.length < 1048576) ((pappendSeq_L0 q3096) (y3091 ++ [a3095])))
def pappendSeq (seq : List Crs) : Option (List Crs) := (pappendSeq_L0 seq [])
def pcollect (seq : List Crs) : Option (List Crs) := ((pappendSeq seq).bind fun r3158 => (some r3158))
def poutcomes_L0 : List Crs → (List Dm) → (Option (Dm → Option (Bool))) → Option (List Dm)
 | [], y3491, w3496 => (some y3491)
 | a3498 :: q3499, y3491, w3496 => (gd (MK.fit a3498.d) (mcase (mget w3496 a3498.d) (gd (y3491.length < 1048576) (gd (MK.fit a3498.d) ((mset w3496 a3498.d true).bind fun w3571 => ((poutcomes_L0 q3499) (y3491 ++ [a3498.d]) w3571)))) fun w3544 => (if w3544 = true then (gd (MK.fit a3498.d) ((mset w3496 a3498.d true).bind fun w3623 => ((poutcomes_L0 q3499) y3491 w3623))) else (gd (y3491.length < 1048576) (gd (MK.fit a3498.d) ((mset w3496 a3498.d true).bind fun w3610 => ((poutcomes_L0 q3499) (y3491 ++ [a3498.d]) w3610)))))))
def poutcomes (w : Wk) (field : Int) : Option (List Dm) := ((ptruths w field).bind fun r3478 => (poutcomes_L0 r3478 [] (some fun _ => none : Option (Dm → Option (Bool)))))
def pverdict1 (d : Dm) (limit : Int) : Option (Bool) := ((pharvestD d).bind fun r3652 => (some (decide (limit < r3652))))
def pVerdict (s : Ssn) (field : Int) (limit : Int) : Option (Int × Int) := ((pisHundredths limit).bind fun r3677 => ((popenAsked s field r3677).bind fun r3685 => (if r3685.2 = (0 : Int) then ((poutcomes r3685.1 field).bind fun r3716 => ((peachD r3716 (fun a3733 => pverdict1 a3733 limit)).bind fun r3735 => (if r3735 = true then (some ((1 : Int), (0 : Int))) else ((pcontainsD r3716 (fun a3743 => pverdict1 a3743 limit)).bind fun r3745 => (if r3745 = true then (some ((3 : Int), (0 : Int))) else (some ((2 : Int), (0 : Int)))))))) else (some ((0 : Int), r3685.2)))))
def pdecides_L0 (all : List Crs) (week : Int) (limit : Int) : Nat → (Option (Int → Option (Bool))) → Int → Option (Bool)
 | 0, _, _ => none
 | d3761 + 1, w3760, x3 => (if x3 < (all.length : Int) then ((idx all x3).bind fun v3763 => ((pharvestD v3763.d).bind fun r3778 => ((pseen v3763 week).bind fun r3785 => (gd (MK.fit r3785) (mcase (mget w3760 r3785) ((pseen v3763 week).bind fun r3795 => (gd (MK.fit r3795) ((mset w3760 r3795 (decide (limit < r3778))).bind fun w3803 => (gd (fitsP .i64 (x3 + 1)) (pdecides_L0 all week limit d3761 w3803 (x3 + 1)))))) fun w3794 => (if (w3794 == (decide (limit < r3778))) = true then ((pseen v3763 week).bind fun r3813 => (gd (MK.fit r3813) ((mset w3760 r3813 (decide (limit < r3778))).bind fun w3821 => (gd (fitsP .i64 (x3 + 1)) (pdecides_L0 all week limit d3761 w3821 (x3 + 1)))))) else (some false))))))) else (some true))
def pdecides (all : List Crs) (week : Int) (limit : Int) : Option (Bool) := (pdecides_L0 all week limit (all.length + 1) (some fun _ => none : Option (Int → Option (Bool))) (0 : Int))
def pDecides_L0 (s : Ssn) (limit : Int) (r3887 : List Crs) : Nat → (List Int) → Int → Option (List Int × Int)
 | 0, _, _ => none
 | d3902 + 1, l3900, x33 => (if x33 < (s.Last + (1 : Int)) then ((pdecides r3887 x33 limit).bind fun r3904 => (if r3904 = true then (gd (l3900.length < 1048576) (gd (fitsP .i64 (x33 + 1)) (pDecides_L0 s limit r3887 d3902 (l3900 ++ [x33]) (x33 + 1)))) else (gd (fitsP .i64 (x33 + 1)) (pDecides_L0 s limit r3887 d3902 l3900 (x33 + 1))))) else (some (l3900, (0 : Int))))
def pDecides (s : Ssn) (field : Int) (limit : Int) : Option (List Int × Int) := ((pisHundredths limit).bind fun r3842 => ((popenAsked s field r3842).bind fun r3849 => (if r3849.2 = (0 : Int) then ((ptruths r3849.1 field).bind fun r3877 => ((pcollect r3877).bind fun r3887 => (gd (fitsP .i64 (s.Last + (1 : Int))) (pDecides_L0 s limit r3887 (Int.toNat (s.Last + (1 : Int)) + 1) [] (0 : Int))))) else (some ([], r3849.2)))))
end
end Go.Proofs.Ytmlaphekbnanjaa

namespace Go.Proofs.Ytmlaphekbnanjaa
open _root_.Go.Proofs.Try
open Go.Abs
set_option maxRecDepth 100000
noncomputable section
def pGrowthDecided_L0 (s : Ssn) (which : Int) (limit : Int) (sn : Int) (r652 : List Int × Int) : Nat → Bool → Int → Option (Bool)
 | 0, _, _ => none
 | d676 + 1, b321, x324 => (if x324 < (r652.1.length : Int) then ((idx r652.1 x324).bind fun x678 => (if x678 < 0 then (some false) else ((idx r652.1 x324).bind fun x681 => (if s.Last < x681 then (some false) else (if (0 : Int) < x324 then ((idx r652.1 x324).bind fun x685 => (gd (fitsP .i64 (x324 - 1)) ((idx r652.1 (x324 - 1)).bind fun x688 => (if x685 ≤ x688 then (some false) else ((plSeason s).bind fun r698 => ((idx r652.1 x324).bind fun x712 => ((pSeen r698 ((wrapZ .i64 which) % (s.Fields.length : Int)) x712).bind fun r714 => (if r714.2 = (0 : Int) then (if r714.1.Hi < r714.1.Lo then (some false) else (if r714.1.Lo < (0 : Int) then (some false) else (if (100 : Int) < r714.1.Hi then (some false) else (gd (fitsP .i64 (r714.1.Hi - r714.1.Lo)) (gd (fitsP .i64 ((r714.1.Hi - r714.1.Lo) + (1 : Int))) (gd ((0 : Int) ≤ (wrapZ .i64 sn)) (gd ((0 : Int) < ((r714.1.Hi - r714.1.Lo) + (1 : Int))) (gd (fitsP .i64 ((wrapZ .i64 sn) % ((r714.1.Hi - r714.1.Lo) + (1 : Int)))) (gd (fitsP .i64 (r714.1.Lo + ((wrapZ .i64 sn) % ((r714.1.Hi - r714.1.Lo) + (1 : Int))))) (gd (([] : List Vis).length + s.Visits.length ≤ 1048576) ((idx r652.1 x324).bind fun x787 => (gd (([] ++ s.Visits).length + ([({ Field := ((wrapZ .i64 which) % (s.Fields.length : Int)), Week := x787, Seen := ({ Lo := (r714.1.Lo + ((wrapZ .i64 sn) % ((r714.1.Hi - r714.1.Lo) + (1 : Int)))), Hi := (r714.1.Lo + ((wrapZ .i64 sn) % ((r714.1.Hi - r714.1.Lo) + (1 : Int)))) } : Rg) } : Vis)] : List Vis).length ≤ 1048576) ((plSeason ({ Last := s.Last, Rules := s.Rules, Fields := s.Fields, Visits := (([] ++ s.Visits) ++ ([({ Field := ((wrapZ .i64 which) % (s.Fields.length : Int)), Week := x787, Seen := ({ Lo := (r714.1.Lo + ((wrapZ .i64 sn) % ((r714.1.Hi - r714.1.Lo) + (1 : Int)))), Hi := (r714.1.Lo + ((wrapZ .i64 sn) % ((r714.1.Hi - r714.1.Lo) + (1 : Int)))) } : Rg) } : Vis)] : List Vis)) } : Ssn)).bind fun r829 => ((pVerdict r829 ((wrapZ .i64 which) % (s.Fields.length : Int)) ((wrapZ .i64 limit) % (101 : Int))).bind fun r845 => (if r845.2 = (0 : Int) then (if r845.1 = (3 : Int) then (some false) else (gd (fitsP .i64 (x324 + 1)) (pGrowthDecided_L0 s which limit sn r652 d676 b321 (x324 + 1)))) else (if r845.2 = (11 : Int) then (gd (fitsP .i64 (x324 + 1)) (pGrowthDecided_L0 s which limit sn r652 d676 b321 (x324 + 1))) else (some false))))))))))))))))) else (some false))))))))) else ((plSeason s).bind fun r866 => ((idx r652.1 x324).bind fun x880 => ((pSeen r866 ((wrapZ .i64 which) % (s.Fields.length : Int)) x880).bind fun r882 => (if r882.2 = (0 : Int) then (if r882.1.Hi < r882.1.Lo then (some false) else (if r882.1.Lo < (0 : Int) then (some false) else (if (100 : Int) < r882.1.Hi then (some false) else (gd (fitsP .i64 (r882.1.Hi - r882.1.Lo)) (gd (fitsP .i64 ((r882.1.Hi - r882.1.Lo) + (1 : Int))) (gd ((0 : Int) ≤ (wrapZ .i64 sn)) (gd ((0 : Int) < ((r882.1.Hi - r882.1.Lo) + (1 : Int))) (gd (fitsP .i64 ((wrapZ .i64 sn) % ((r882.1.Hi - r882.1.Lo) + (1 : Int)))) (gd (fitsP .i64 (r882.1.Lo + ((wrapZ .i64 sn) % ((r882.1.Hi - r882.1.Lo) + (1 : Int))))) (gd (([] : List Vis).length + s.Visits.length ≤ 1048576) ((idx r652.1 x324).bind fun x955 => (gd (([] ++ s.Visits).length + ([({ Field := ((wrapZ .i64 which) % (s.Fields.length : Int)), Week := x955, Seen := ({ Lo := (r882.1.Lo + ((wrapZ .i64 sn) % ((r882.1.Hi - r882.1.Lo) + (1 : Int)))), Hi := (r882.1.Lo + ((wrapZ .i64 sn) % ((r882.1.Hi - r882.1.Lo) + (1 : Int)))) } : Rg) } : Vis)] : List Vis).length ≤ 1048576) ((plSeason ({ Last := s.Last, Rules := s.Rules, Fields := s.Fields, Visits := (([] ++ s.Visits) ++ ([({ Field := ((wrapZ .i64 which) % (s.Fields.length : Int)), Week := x955, Seen := ({ Lo := (r882.1.Lo + ((wrapZ .i64 sn) % ((r882.1.Hi - r882.1.Lo) + (1 : Int)))), Hi := (r882.1.Lo + ((wrapZ .i64 sn) % ((r882.1.Hi - r882.1.Lo) + (1 : Int)))) } : Rg) } : Vis)] : List Vis)) } : Ssn)).bind fun r997 => ((pVerdict r997 ((wrapZ .i64 which) % (s.Fields.length : Int)) ((wrapZ .i64 limit) % (101 : Int))).bind fun r1013 => (if r1013.2 = (0 : Int) then (if r1013.1 = (3 : Int) then (some false) else (gd (fitsP .i64 (x324 + 1)) (pGrowthDecided_L0 s which limit sn r652 d676 b321 (x324 + 1)))) else (if r1013.2 = (11 : Int) then (gd (fitsP .i64 (x324 + 1)) (pGrowthDecided_L0 s which limit sn r652 d676 b321 (x324 + 1))) else (some false))))))))))))))))) else (some false)))))))))) else ((pawake).bind fun r1027 => (some r1027)))
def pGrowthDecided_L1 (s : Ssn) (which : Int) (limit : Int) (sn : Int) (r652 : List Int × Int) : Nat → Bool → Int → Option (Bool)
 | 0, _, _ => none
 | d1036 + 1, b455, x458 => (if x458 < (r652.1.length : Int) then ((idx r652.1 x458).bind fun x1038 => (if x1038 < 0 then (some false) else ((idx r652.1 x458).bind fun x1041 => (if s.Last < x1041 then (some false) else (if (0 : Int) < x458 then ((idx r652.1 x458).bind fun x1045 => (gd (fitsP .i64 (x458 - 1)) ((idx r652.1 (x458 - 1)).bind fun x1048 => (if x1045 ≤ x1048 then (some false) else ((plSeason s).bind fun r1058 => ((idx r652.1 x458).bind fun x1072 => ((pSeen r1058 ((wrapZ .i64 which) % (s.Fields.length : Int)) x1072).bind fun r1074 => (if r1074.2 = (0 : Int) then (if r1074.1.Hi < r1074.1.Lo then (some false) else (if r1074.1.Lo < (0 : Int) then (some false) else (if (100 : Int) < r1074.1.Hi then (some false) else (gd (fitsP .i64 (r1074.1.Hi - r1074.1.Lo)) (gd (fitsP .i64 ((r1074.1.Hi - r1074.1.Lo) + (1 : Int))) (gd ((0 : Int) ≤ (wrapZ .i64 sn)) (gd ((0 : Int) < ((r1074.1.Hi - r1074.1.Lo) + (1 : Int))) (gd (fitsP .i64 ((wrapZ .i64 sn) % ((r1074.1.Hi - r1074.1.Lo) + (1 : Int)))) (gd (fitsP .i64 (r1074.1.Lo + ((wrapZ .i64 sn) % ((r1074.1.Hi - r1074.1.Lo) + (1 : Int))))) (gd (([] : List Vis).length + s.Visits.length ≤ 1048576) ((idx r652.1 x458).bind fun x1147 => (gd (([] ++ s.Visits).length + ([({ Field := ((wrapZ .i64 which) % (s.Fields.length : Int)), Week := x1147, Seen := ({ Lo := (r1074.1.Lo + ((wrapZ .i64 sn) % ((r1074.1.Hi - r1074.1.Lo) + (1 : Int)))), Hi := (r1074.1.Lo + ((wrapZ .i64 sn) % ((r1074.1.Hi - r1074.1.Lo) + (1 : Int)))) } : Rg) } : Vis)] : List Vis).length ≤ 1048576) ((plSeason ({ Last := s.Last, Rules := s.Rules, Fields := s.Fields, Visits := (([] ++ s.Visits) ++ ([({ Field := ((wrapZ .i64 which) % (s.Fields.length : Int)), Week := x1147, Seen := ({ Lo := (r1074.1.Lo + ((wrapZ .i64 sn) % ((r1074.1.Hi - r1074.1.Lo) + (1 : Int)))), Hi := (r1074.1.Lo + ((wrapZ .i64 sn) % ((r1074.1.Hi - r1074.1.Lo) + (1 : Int)))) } : Rg) } : Vis)] : List Vis)) } : Ssn)).bind fun r1189 => ((pVerdict r1189 ((wrapZ .i64 which) % (s.Fields.length : Int)) ((wrapZ .i64 limit) % (101 : Int))).bind fun r1205 => (if r1205.2 = (0 : Int) then (if r1205.1 = (3 : Int) then (some false) else (gd (fitsP .i64 (x458 + 1)) (pGrowthDecided_L1 s which limit sn r652 d1036 b455 (x458 + 1)))) else (if r1205.2 = (11 : Int) then (gd (fitsP .i64 (x458 + 1)) (pGrowthDecided_L1 s which limit sn r652 d1036 b455 (x458 + 1))) else (some false))))))))))))))))) else (some false))))))))) else ((plSeason s).bind fun r1226 => ((idx r652.1 x458).bind fun x1240 => ((pSeen r1226 ((wrapZ .i64 which) % (s.Fields.length : Int)) x1240).bind fun r1242 => (if r1242.2 = (0 : Int) then (if r1242.1.Hi < r1242.1.Lo then (some false) else (if r1242.1.Lo < (0 : Int) then (some false) else (if (100 : Int) < r1242.1.Hi then (some false) else (gd (fitsP .i64 (r1242.1.Hi - r1242.1.Lo)) (gd (fitsP .i64 ((r1242.1.Hi - r1242.1.Lo) + (1 : Int))) (gd ((0 : Int) ≤ (wrapZ .i64 sn)) (gd ((0 : Int) < ((r1242.1.Hi - r1242.1.Lo) + (1 : Int))) (gd (fitsP .i64 ((wrapZ .i64 sn) % ((r1242.1.Hi - r1242.1.Lo) + (1 : Int)))) (gd (fitsP .i64 (r1242.1.Lo + ((wrapZ .i64 sn) % ((r1242.1.Hi - r1242.1.Lo) + (1 : Int))))) (gd (([] : List Vis).length + s.Visits.length ≤ 1048576) ((idx r652.1 x458).bind fun x1315 => (gd (([] ++ s.Visits).length + ([({ Field := ((wrapZ .i64 which) % (s.Fields.length : Int)), Week := x1315, Seen := ({ Lo := (r1242.1.Lo + ((wrapZ .i64 sn) % ((r1242.1.Hi - r1242.1.Lo) + (1 : Int)))), Hi := (r1242.1.Lo + ((wrapZ .i64 sn) % ((r1242.1.Hi - r1242.1.Lo) + (1 : Int)))) } : Rg) } : Vis)] : List Vis).length ≤ 1048576) ((plSeason ({ Last := s.Last, Rules := s.Rules, Fields := s.Fields, Visits := (([] ++ s.Visits) ++ ([({ Field := ((wrapZ .i64 which) % (s.Fields.length : Int)), Week := x1315, Seen := ({ Lo := (r1242.1.Lo + ((wrapZ .i64 sn) % ((r1242.1.Hi - r1242.1.Lo) + (1 : Int)))), Hi := (r1242.1.Lo + ((wrapZ .i64 sn) % ((r1242.1.Hi - r1242.1.Lo) + (1 : Int)))) } : Rg) } : Vis)] : List Vis)) } : Ssn)).bind fun r1357 => ((pVerdict r1357 ((wrapZ .i64 which) % (s.Fields.length : Int)) ((wrapZ .i64 limit) % (101 : Int))).bind fun r1373 => (if r1373.2 = (0 : Int) then (if r1373.1 = (3 : Int) then (some false) else (gd (fitsP .i64 (x458 + 1)) (pGrowthDecided_L1 s which limit sn r652 d1036 b455 (x458 + 1)))) else (if r1373.2 = (11 : Int) then (gd (fitsP .i64 (x458 + 1)) (pGrowthDecided_L1 s which limit sn r652 d1036 b455 (x458 + 1))) else (some false))))))))))))))))) else (some false)))))))))) else ((pawake).bind fun r1387 => (some r1387)))
def pGrowthDecided (s : Ssn) (which : Int) (limit : Int) (sn : Int) : Option (Bool) := ((plReady s).bind fun r594 => (if r594 = true then (if (5 : Int) < (s.Visits.length : Int) then ((pawake).bind fun r608 => (some r608)) else (gd ((0 : Int) ≤ (wrapZ .i64 which)) (gd ((0 : Int) < (s.Fields.length : Int)) (gd (fitsP .i64 ((wrapZ .i64 which) % (s.Fields.length : Int))) (gd ((0 : Int) ≤ (wrapZ .i64 limit)) (gd ((0 : Int) < (101 : Int)) (gd (fitsP .i64 ((wrapZ .i64 limit) % (101 : Int))) ((plSeason s).bind fun r620 => ((pVerdict r620 ((wrapZ .i64 which) % (s.Fields.length : Int)) ((wrapZ .i64 limit) % (101 : Int))).bind fun r633 => ((plSeason s).bind fun r639 => ((pDecides r639 ((wrapZ .i64 which) % (s.Fields.length : Int)) ((wrapZ .i64 limit) % (101 : Int))).bind fun r652 => (if r633.2 = r652.2 then (if r633.2 = (0 : Int) then (if r633.1 = (3 : Int) then (pGrowthDecided_L1 s which limit sn r652 (r652.1.length + 1) false (0 : Int)) else (gd (fitsP .i64 (s.Last + (1 : Int))) (if (r652.1.length : Int) = (s.Last + (1 : Int)) then (pGrowthDecided_L0 s which limit sn r652 (r652.1.length + 1) false (0 : Int)) else (some false)))) else (if r633.2 = (11 : Int) then ((pawake).bind fun r664 => (some r664)) else (some false))) else (some false))))))))))))) else ((pawake).bind fun r601 => (some r601))))
end
end Go.Proofs.Ytmlaphekbnanjaa

namespace Go.Proofs.Ytmlaphekbnanjaa
open _root_.Go.Proofs.Try
open Go.Abs
set_option maxRecDepth 100000
noncomputable section
theorem w5 {a100 : Int} {a101 : C} {a102 : C} {a103 : C} {a200 : Int} {a300 : Int} {a400 : Int} {m : M} {Q : V → M → Prop} (h :
 (∀ m0 : M, (m0 = (M.new m (AO.cells 4 [(Il a100), a101, a102, a103] false))) → ∃ x1, ∃ c2 : C, 
 ∃ c3 : C, ∃ c4 : C, ((ldA m0 (C.ptr m.nxt 0) 4) = (some [(Il x1), c2, c3, c4])) ∧ 
 Wc prog tbl 22 [(V.agg 4 [(Il x1), c2, c3, c4])] m0 (fun v5 m6 => ∃ b7 : Bool, (v5 = (V.c (C.bool b7))) ∧ 
 ifB (!b7) (Wc prog tbl 21 [] m6 (fun v8 m9 => ∃ b10 : Bool, (v8 = (V.c (C.bool b10))) ∧ Q (V.c (C.bool b10)) m9)) (isPt (C.ptr m.nxt 0) ∧ 
 ∃ c11 : C, ((ldC m6 (C.ptr m.nxt 3)) = (some c11)) ∧ isSl c11 ∧ ifB (decide ((5 : Int) < (((slLen c11) : Nat) : Int))) (Wc prog tbl 21 [] m6 (fun v12 m13 => 
 ∃ b14 : Bool, (v12 = (V.c (C.bool b14))) ∧ Q (V.c (C.bool b14)) m13)) (isPt (C.ptr m.nxt 0) ∧ 
 ∃ c15 : C, ((ldC m6 (C.ptr m.nxt 2)) = (some c15)) ∧ isSl c15 ∧ ((0 : Int) ≤ (wrapZ .i64 a200)) ∧ 
 ((0 : Int) < (((slLen c15) : Nat) : Int)) ∧ fitsP .i64 ((wrapZ .i64 a200) % (((slLen c15) : Nat) : Int)) ∧ 
 ((0 : Int) ≤ (wrapZ .i64 a300)) ∧ ((0 : Int) < (101 : Int)) ∧ fitsP .i64 ((wrapZ .i64 a300) % (101 : Int)) ∧ 
 ∃ x16, ∃ c17 : C, ∃ c18 : C, ∃ c19 : C, ((ldA m6 (C.ptr m.nxt 0) 4) = (some [(Il x16), 
 c17, c18, c19])) ∧ Wc prog tbl 23 [(V.agg 4 [(Il x16), c17, c18, 
 c19])] m6 (fun v20 m21 => ∃ x22, ∃ c23 : C, ∃ c24 : C, ∃ c25 : C, (v20 = (V.agg 4 [(Il x22), 
 c23, c24, c25])) ∧ Wc prog tbl 11 [(V.agg 4 [(Il x22), c23, c24, 
 c25]), (V.c (Il ((wrapZ .i64 a200) % (((slLen c15) : Nat) : Int)))), 
 (V.c (Il ((wrapZ .i64 a300) % (101 : Int))))] m21 (fun v26 m27 => 
 ∃ x28, ∃ x29, (v26 = (V.tup [(U.c (Il x28)), (U.c (Il x29))])) ∧ 
 ∃ x30, ∃ c31 : C, ∃ c32 : C, ∃ c33 : C, ((ldA m27 (C.ptr m.nxt 0) 4) = (some [(Il x30), 
 c31, c32, c33])) ∧ Wc prog tbl 23 [(V.agg 4 [(Il x30), c31, c32, 
 c33])] m27 (fun v34 m35 => ∃ x36, ∃ c37 : C, ∃ c38 : C, ∃ c39 : C, 
 (v34 = (V.agg 4 [(Il x36), c37, c38, c39])) ∧ Wc prog tbl 18 [(V.agg 4 [(Il x36), 
 c37, c38, c39]), (V.c (Il ((wrapZ .i64 a200) % (((slLen c15) : Nat) : Int)))), 
 (V.c (Il ((wrapZ .i64 a300) % (101 : Int))))] m35 (fun v40 m41 => 
 ∃ c42 : C, ∃ x43, (v40 = (V.tup [(U.c c42), (U.c (Il x43))])) ∧ 
 ifB (!decide (x29 = x43)) (Q (V.c (C.bool false)) m41) (ifB (!decide (x29 = 0)) (ifB (!decide (x29 = 11)) (Q (V.c (C.bool false)) m41) (ifB (!decide (x29 = 0)) (Wc prog tbl 21 [] m41 (fun v44 m45 => 
 ∃ b46 : Bool, (v44 = (V.c (C.bool b46))) ∧ Q (V.c (C.bool b46)) m45)) (ifB (!decide (x28 = 3)) (isSl c42 ∧ 
 isPt (C.ptr m.nxt 0) ∧ ∃ x47, ((ldC m41 (C.ptr m.nxt 0)) = (some (Il x47))) ∧ 
 fitsP .i64 (x47 + 1) ∧ ifB (!decide ((((slLen c42) : Nat) : Int) = (x47 + 1))) (Q (V.c (C.bool false)) m41) (∀ R48 : List V → 
 M → Prop, (∀ b49 : Bool, ∀ b50 : Bool, ∀ b51 : Bool, ∀ x52 : Int, ∀ m53 : M, 
 (isSl c42 ∧ ifB (decide (x52 < (((slLen c42) : Nat) : Int))) (∃ n54 : Nat, 
 (x52 = ((n54 : Nat) : Int)) ∧ (n54 < (slLen c42)) ∧ ∃ x55, ((ldC m53 (slAt c42 (n54 * 1))) = (some (Il x55))) ∧ 
 ifB (decide (x55 < 0)) (Q (V.c (C.bool false)) m53) (∃ n56 : Nat, (x52 = ((n56 : Nat) : Int)) ∧ 
 (n56 < (slLen c42)) ∧ ∃ x57, ((ldC m53 (slAt c42 (n56 * 1))) = (some (Il x57))) ∧ 
 isPt (C.ptr m.nxt 0) ∧ ∃ x58, ((ldC m53 (C.ptr m.nxt 0)) = (some (Il x58))) ∧ 
 ifB (decide (x58 < x57)) (Q (V.c (C.bool false)) m53) (ifB (decide ((0 : Int) < x52)) (∃ n59 : Nat, 
 (x52 = ((n59 : Nat) : Int)) ∧ (n59 < (slLen c42)) ∧ ∃ x60, ((ldC m53 (slAt c42 (n59 * 1))) = (some (Il x60))) ∧ 
 fitsP .i64 (x52 - 1) ∧ ∃ n61 : Nat, ((x52 - 1) = ((n61 : Nat) : Int)) ∧ 
 (n61 < (slLen c42)) ∧ ∃ x62, ((ldC m53 (slAt c42 (n61 * 1))) = (some (Il x62))) ∧ 
 ifB (decide (x60 ≤ x62)) (Q (V.c (C.bool false)) m53) (∀ m63 : M, (m63 = (mGrow m53 1)) → 
 ∃ x64, ∃ c65 : C, ∃ c66 : C, ∃ c67 : C, ((ldA m63 (C.ptr m.nxt 0) 4) = (some [(Il x64), 
 c65, c66, c67])) ∧ Wc prog tbl 23 [(V.agg 4 [(Il x64), c65, c66, 
 c67])] m63 (fun v68 m69 => ∃ x70, ∃ c71 : C, ∃ c72 : C, ∃ c73 : C, 
 (v68 = (V.agg 4 [(Il x70), c71, c72, c73])) ∧ ∃ n74 : Nat, (x52 = ((n74 : Nat) : Int)) ∧ 
 (n74 < (slLen c42)) ∧ ∃ x75, ((ldC m69 (slAt c42 (n74 * 1))) = (some (Il x75))) ∧ 
 ((ldC m63 (slAt c42 (n74 * 1))) = (some (Il x75))) ∧ Wc prog tbl 9 [(V.agg 4 [(Il x70), 
 c71, c72, c73]), (V.c (Il ((wrapZ .i64 a200) % (((slLen c15) : Nat) : Int)))), 
 (V.c (Il x75))] m69 (fun v76 m77 => ∃ x78, ∃ x79, 
 ∃ x80, (v76 = (V.tup [(U.agg 2 [(Il x78), (Il x79)]), 
 (U.c (Il x80))])) ∧ ∀ m81 : M, (m81 = (M.set m77 (m53.nxt + 0) (AO.cells 2 [(Il 0), 
 (Il 0)] false))) → ((ldC m81 (slAt c42 (n74 * 1))) = (some (Il x75))) ∧ 
 (ifB (allS cmC [(Il x64), c65, c66, c67]) ((ldA m81 (C.ptr m.nxt 0) 4) = (some [(Il x64), 
 c65, c66, c67])) False) ∧ ∃ m82 : M, ((stC m81 (C.ptr (m53.nxt + 0) 0) 2 [(Il x78), 
 (Il x79)]) = (some m82)) ∧ ifB (!decide (x80 = 0)) (Q (V.c (C.bool false)) m82) (isPt (C.ptr (m53.nxt + 0) 0) ∧ 
 ∃ x83, ((ldC m82 (C.ptr (m53.nxt + 0) 0)) = (some (Il x83))) ∧ 
 isPt (C.ptr (m53.nxt + 0) 0) ∧ ∃ x84, ((ldC m82 (C.ptr (m53.nxt + 0) 1)) = (some (Il x84))) ∧ 
 ifB (decide (x84 < x83)) (Q (V.c (C.bool false)) m82) (isPt (C.ptr (m53.nxt + 0) 0) ∧ 
 ∃ x85, ((ldC m82 (C.ptr (m53.nxt + 0) 0)) = (some (Il x85))) ∧ 
 ifB (decide (x85 < 0)) (Q (V.c (C.bool false)) m82) (isPt (C.ptr (m53.nxt + 0) 0) ∧ 
 ∃ x86, ((ldC m82 (C.ptr (m53.nxt + 0) 1)) = (some (Il x86))) ∧ 
 ifB (decide ((100 : Int) < x86)) (Q (V.c (C.bool false)) m82) (isPt (C.ptr (m53.nxt + 0) 0) ∧ 
 ∃ x87, ((ldC m82 (C.ptr (m53.nxt + 0) 0)) = (some (Il x87))) ∧ 
 isPt (C.ptr (m53.nxt + 0) 0) ∧ ∃ x88, ((ldC m82 (C.ptr (m53.nxt + 0) 1)) = (some (Il x88))) ∧ 
 isPt (C.ptr (m53.nxt + 0) 0) ∧ ∃ x89, ((ldC m82 (C.ptr (m53.nxt + 0) 0)) = (some (Il x89))) ∧ 
 fitsP .i64 (x88 - x89) ∧ fitsP .i64 ((x88 - x89) + (1 : Int)) ∧ 
 ((0 : Int) ≤ (wrapZ .i64 a400)) ∧ ((0 : Int) < ((x88 - x89) + (1 : Int))) ∧ 
 fitsP .i64 ((wrapZ .i64 a400) % ((x88 - x89) + (1 : Int))) ∧ fitsP .i64 (x87 + ((wrapZ .i64 a400) % ((x88 - x89) + (1 : Int)))) ∧ 
 ∃ x90, ∃ c91 : C, ∃ c92 : C, ∃ c93 : C, ((ldA m82 (C.ptr m.nxt 0) 4) = (some [(Il x90), 
 c91, c92, c93])) ∧ ∀ m94 : M, (m94 = (M.new m82 (AO.cells 4 [(Il 0), 
 C.sl0, C.sl0, C.sl0] false))) → ∃ m95 : M, ((stC m94 (C.ptr m82.nxt 0) 4 [(Il x90), 
 c91, c92, c93]) = (some m95)) ∧ ∀ m96 : M, (m96 = (mGrow m95 1)) → ∀ m97 : M, 
 (m97 = (M.new m96 (AO.cells 0 [] false))) → isPt (C.ptr m.nxt 0) ∧ ∃ c98 : C, 
 ((ldC m97 (C.ptr m.nxt 3)) = (some c98)) ∧ (ifB (cmC c98) ((ldC m96 (C.ptr m.nxt 3)) = (some c98)) False) ∧ 
 ∃ c99 : C, ∃ m100 : M, (ApR prog 57 m97 (C.sl m96.nxt 0 0 0 (some 0)) c98 c99 m100) ∧ 
 ∃ n101 : Nat, (x52 = ((n101 : Nat) : Int)) ∧ (n101 < (slLen c42)) ∧ ∃ x102, 
 ((ldC m100 (slAt c42 (n101 * 1))) = (some (Il x102))) ∧ 
 ((ldC m97 (slAt c42 (n101 * 1))) = (some (Il x102))) ∧ 
 ((ldC m96 (slAt c42 (n101 * 1))) = (some (Il x102))) ∧ 
 ∀ m103 : M, (m103 = (M.set m100 (m95.nxt + 0) (AO.cells 4 [(Il ((wrapZ .i64 a200) % (((slLen c15) : Nat) : Int))), 
 (Il x102), (Il (x87 + ((wrapZ .i64 a400) % ((x88 - x89) + (1 : Int))))), 
 (Il (x87 + ((wrapZ .i64 a400) % ((x88 - x89) + (1 : Int)))))] false))) → 
 (ifB (cmC c98) ((ldC m103 (C.ptr m.nxt 3)) = (some c98)) False) ∧ ∃ c104 : C, 
 ∃ m105 : M, (ApR prog 57 m103 c99 (C.sl (m95.nxt + 0) 0 1 0 (some 1)) c104 m105) ∧ 
 isPt (C.ptr m82.nxt 0) ∧ ∃ m106 : M, ((stC m105 (C.ptr m82.nxt 3) 1 [c104]) = (some m106)) ∧ 
 ∃ x107, ∃ c108 : C, ∃ c109 : C, ∃ c110 : C, ((ldA m106 (C.ptr m82.nxt 0) 4) = (some [(Il x107), 
 c108, c109, c110])) ∧ Wc prog tbl 23 [(V.agg 4 [(Il x107), c108, 
 c109, c110])] m106 (fun v111 m112 => ∃ x113, ∃ c114 : C, ∃ c115 : C, 
 ∃ c116 : C, (v111 = (V.agg 4 [(Il x113), c114, c115, c116])) ∧ 
 Wc prog tbl 11 [(V.agg 4 [(Il x113), c114, c115, c116]), (V.c (Il ((wrapZ .i64 a200) % (((slLen c15) : Nat) : Int)))), 
 (V.c (Il ((wrapZ .i64 a300) % (101 : Int))))] m112 (fun v117 m118 => 
 ∃ x119, ∃ x120, (v117 = (V.tup [(U.c (Il x119)), 
 (U.c (Il x120))])) ∧ ifB (!decide (x120 = 0)) (ifB (!decide (x120 = 11)) (Q (V.c (C.bool false)) m118) (ifB (decide (x120 = 0)) (ifB (decide (x119 = 3)) (Q (V.c (C.bool false)) m118) (fitsP .i64 (x52 + 1) ∧ 
 R48 [(V.c (C.bool b49)), (V.c (C.bool b49)), (V.c (C.bool b49)), (V.c (Il (x52 + 1)))] m118)) (fitsP .i64 (x52 + 1) ∧ 
 R48 [(V.c (C.bool b49)), (V.c (C.bool b49)), (V.c (C.bool b49)), (V.c (Il (x52 + 1)))] m118))) (ifB (decide (x120 = 0)) (ifB (decide (x119 = 3)) (Q (V.c (C.bool false)) m118) (fitsP .i64 (x52 + 1) ∧ 
 R48 [(V.c (C.bool b49)), (V.c (C.bool b49)), (V.c (C.bool b49)), (V.c (Il (x52 + 1)))] m118)) (fitsP .i64 (x52 + 1) ∧ 
 R48 [(V.c (C.bool b49)), (V.c (C.bool b49)), (V.c (C.bool b49)), (V.c (Il (x52 + 1)))] m118)))))))))))) (∀ m121 : M, 
 (m121 = (mGrow m53 1)) → ∃ x122, ∃ c123 : C, ∃ c124 : C, ∃ c125 : C, 
 ((ldA m121 (C.ptr m.nxt 0) 4) = (some [(Il x122), c123, 
 c124, c125])) ∧ Wc prog tbl 23 [(V.agg 4 [(Il x122), c123, c124, 
 c125])] m121 (fun v126 m127 => ∃ x128, ∃ c129 : C, ∃ c130 : C, ∃ c131 : C, 
 (v126 = (V.agg 4 [(Il x128), c129, c130, c131])) ∧ ∃ n132 : Nat, 
 (x52 = ((n132 : Nat) : Int)) ∧ (n132 < (slLen c42)) ∧ ∃ x133, ((ldC m127 (slAt c42 (n132 * 1))) = (some (Il x133))) ∧ 
 ((ldC m121 (slAt c42 (n132 * 1))) = (some (Il x133))) ∧ 
 Wc prog tbl 9 [(V.agg 4 [(Il x128), c129, c130, c131]), (V.c (Il ((wrapZ .i64 a200) % (((slLen c15) : Nat) : Int)))), 
 (V.c (Il x133))] m127 (fun v134 m135 => ∃ x136, ∃ x137, 
 ∃ x138, (v134 = (V.tup [(U.agg 2 [(Il x136), (Il x137)]), 
 (U.c (Il x138))])) ∧ ∀ m139 : M, (m139 = (M.set m135 (m53.nxt + 0) (AO.cells 2 [(Il 0), 
 (Il 0)] false))) → ((ldC m139 (slAt c42 (n132 * 1))) = (some (Il x133))) ∧ 
 (ifB (allS cmC [(Il x122), c123, c124, c125]) ((ldA m139 (C.ptr m.nxt 0) 4) = (some [(Il x122), 
 c123, c124, c125])) False) ∧ ∃ m140 : M, ((stC m139 (C.ptr (m53.nxt + 0) 0) 2 [(Il x136), 
 (Il x137)]) = (some m140)) ∧ ifB (!decide (x138 = 0)) (Q (V.c (C.bool false)) m140) (isPt (C.ptr (m53.nxt + 0) 0) ∧ 
 ∃ x141, ((ldC m140 (C.ptr (m53.nxt + 0) 0)) = (some (Il x141))) ∧ 
 isPt (C.ptr (m53.nxt + 0) 0) ∧ ∃ x142, ((ldC m140 (C.ptr (m53.nxt + 0) 1)) = (some (Il x142))) ∧ 
 ifB (decide (x142 < x141)) (Q (V.c (C.bool false)) m140) (isPt (C.ptr (m53.nxt + 0) 0) ∧ 
 ∃ x143, ((ldC m140 (C.ptr (m53.nxt + 0) 0)) = (some (Il x143))) ∧ 
 ifB (decide (x143 < 0)) (Q (V.c (C.bool false)) m140) (isPt (C.ptr (m53.nxt + 0) 0) ∧ 
 ∃ x144, ((ldC m140 (C.ptr (m53.nxt + 0) 1)) = (some (Il x144))) ∧ 
 ifB (decide ((100 : Int) < x144)) (Q (V.c (C.bool false)) m140) (isPt (C.ptr (m53.nxt + 0) 0) ∧ 
 ∃ x145, ((ldC m140 (C.ptr (m53.nxt + 0) 0)) = (some (Il x145))) ∧ 
 isPt (C.ptr (m53.nxt + 0) 0) ∧ ∃ x146, ((ldC m140 (C.ptr (m53.nxt + 0) 1)) = (some (Il x146))) ∧ 
 isPt (C.ptr (m53.nxt + 0) 0) ∧ ∃ x147, ((ldC m140 (C.ptr (m53.nxt + 0) 0)) = (some (Il x147))) ∧ 
 fitsP .i64 (x146 - x147) ∧ fitsP .i64 ((x146 - x147) + (1 : Int)) ∧ 
 ((0 : Int) ≤ (wrapZ .i64 a400)) ∧ ((0 : Int) < ((x146 - x147) + (1 : Int))) ∧ 
 fitsP .i64 ((wrapZ .i64 a400) % ((x146 - x147) + (1 : Int))) ∧ 
 fitsP .i64 (x145 + ((wrapZ .i64 a400) % ((x146 - x147) + (1 : Int)))) ∧ 
 ∃ x148, ∃ c149 : C, ∃ c150 : C, ∃ c151 : C, ((ldA m140 (C.ptr m.nxt 0) 4) = (some [(Il x148), 
 c149, c150, c151])) ∧ ∀ m152 : M, (m152 = (M.new m140 (AO.cells 4 [(Il 0), 
 C.sl0, C.sl0, C.sl0] false))) → ∃ m153 : M, ((stC m152 (C.ptr m140.nxt 0) 4 [(Il x148), 
 c149, c150, c151]) = (some m153)) ∧ ∀ m154 : M, (m154 = (mGrow m153 1)) → 
 ∀ m155 : M, (m155 = (M.new m154 (AO.cells 0 [] false))) → isPt (C.ptr m.nxt 0) ∧ 
 ∃ c156 : C, ((ldC m155 (C.ptr m.nxt 3)) = (some c156)) ∧ (ifB (cmC c156) ((ldC m154 (C.ptr m.nxt 3)) = (some c156)) False) ∧ 
 ∃ c157 : C, ∃ m158 : M, (ApR prog 57 m155 (C.sl m154.nxt 0 0 0 (some 0)) c156 c157 m158) ∧ 
 ∃ n159 : Nat, (x52 = ((n159 : Nat) : Int)) ∧ (n159 < (slLen c42)) ∧ ∃ x160, 
 ((ldC m158 (slAt c42 (n159 * 1))) = (some (Il x160))) ∧ 
 ((ldC m155 (slAt c42 (n159 * 1))) = (some (Il x160))) ∧ 
 ((ldC m154 (slAt c42 (n159 * 1))) = (some (Il x160))) ∧ 
 ∀ m161 : M, (m161 = (M.set m158 (m153.nxt + 0) (AO.cells 4 [(Il ((wrapZ .i64 a200) % (((slLen c15) : Nat) : Int))), 
 (Il x160), (Il (x145 + ((wrapZ .i64 a400) % ((x146 - x147) + (1 : Int))))), 
 (Il (x145 + ((wrapZ .i64 a400) % ((x146 - x147) + (1 : Int)))))] false))) → 
 (ifB (cmC c156) ((ldC m161 (C.ptr m.nxt 3)) = (some c156)) False) ∧ 
 ∃ c162 : C, ∃ m163 : M, (ApR prog 57 m161 c157 (C.sl (m153.nxt + 0) 0 1 0 (some 1)) c162 m163) ∧ 
 isPt (C.ptr m140.nxt 0) ∧ ∃ m164 : M, ((stC m163 (C.ptr m140.nxt 3) 1 [c162]) = (some m164)) ∧ 
 ∃ x165, ∃ c166 : C, ∃ c167 : C, ∃ c168 : C, ((ldA m164 (C.ptr m140.nxt 0) 4) = (some [(Il x165), 
 c166, c167, c168])) ∧ Wc prog tbl 23 [(V.agg 4 [(Il x165), c166, 
 c167, c168])] m164 (fun v169 m170 => ∃ x171, ∃ c172 : C, ∃ c173 : C, 
 ∃ c174 : C, (v169 = (V.agg 4 [(Il x171), c172, c173, c174])) ∧ 
 Wc prog tbl 11 [(V.agg 4 [(Il x171), c172, c173, c174]), (V.c (Il ((wrapZ .i64 a200) % (((slLen c15) : Nat) : Int)))), 
 (V.c (Il ((wrapZ .i64 a300) % (101 : Int))))] m170 (fun v175 m176 => 
 ∃ x177, ∃ x178, (v175 = (V.tup [(U.c (Il x177)), 
 (U.c (Il x178))])) ∧ ifB (!decide (x178 = 0)) (ifB (!decide (x178 = 11)) (Q (V.c (C.bool false)) m176) (ifB (decide (x178 = 0)) (ifB (decide (x177 = 3)) (Q (V.c (C.bool false)) m176) (fitsP .i64 (x52 + 1) ∧ 
 R48 [(V.c (C.bool b49)), (V.c (C.bool b49)), (V.c (C.bool b49)), (V.c (Il (x52 + 1)))] m176)) (fitsP .i64 (x52 + 1) ∧ 
 R48 [(V.c (C.bool b49)), (V.c (C.bool b49)), (V.c (C.bool b49)), (V.c (Il (x52 + 1)))] m176))) (ifB (decide (x178 = 0)) (ifB (decide (x177 = 3)) (Q (V.c (C.bool false)) m176) (fitsP .i64 (x52 + 1) ∧ 
 R48 [(V.c (C.bool b49)), (V.c (C.bool b49)), (V.c (C.bool b49)), (V.c (Il (x52 + 1)))] m176)) (fitsP .i64 (x52 + 1) ∧ 
 R48 [(V.c (C.bool b49)), (V.c (C.bool b49)), (V.c (C.bool b49)), (V.c (Il (x52 + 1)))] m176)))))))))))))) (Wc prog tbl 21 [] m53 (fun v179 m180 => 
 ∃ b181 : Bool, (v179 = (V.c (C.bool b181))) ∧ Q (V.c (C.bool b181)) m180))) → 
 R48 [(V.c (C.bool b49)), (V.c (C.bool b50)), (V.c (C.bool b51)), (V.c (Il x52))] m53) → 
 R48 [(V.c (C.bool false)), (V.c (C.bool false)), (V.c (C.bool false)), (V.c (Il 0))] m41)) (∀ R182 : List V → 
 M → Prop, (∀ b183 : Bool, ∀ b184 : Bool, ∀ b185 : Bool, ∀ x186 : Int, ∀ m187 : M, 
 (isSl c42 ∧ ifB (decide (x186 < (((slLen c42) : Nat) : Int))) (∃ n188 : Nat, 
 (x186 = ((n188 : Nat) : Int)) ∧ (n188 < (slLen c42)) ∧ ∃ x189, ((ldC m187 (slAt c42 (n188 * 1))) = (some (Il x189))) ∧ 
 ifB (decide (x189 < 0)) (Q (V.c (C.bool false)) m187) (∃ n190 : Nat, 
 (x186 = ((n190 : Nat) : Int)) ∧ (n190 < (slLen c42)) ∧ ∃ x191, ((ldC m187 (slAt c42 (n190 * 1))) = (some (Il x191))) ∧ 
 isPt (C.ptr m.nxt 0) ∧ ∃ x192, ((ldC m187 (C.ptr m.nxt 0)) = (some (Il x192))) ∧ 
 ifB (decide (x192 < x191)) (Q (V.c (C.bool false)) m187) (ifB (decide ((0 : Int) < x186)) (∃ n193 : Nat, 
 (x186 = ((n193 : Nat) : Int)) ∧ (n193 < (slLen c42)) ∧ ∃ x194, ((ldC m187 (slAt c42 (n193 * 1))) = (some (Il x194))) ∧ 
 fitsP .i64 (x186 - 1) ∧ ∃ n195 : Nat, ((x186 - 1) = ((n195 : Nat) : Int)) ∧ 
 (n195 < (slLen c42)) ∧ ∃ x196, ((ldC m187 (slAt c42 (n195 * 1))) = (some (Il x196))) ∧ 
 ifB (decide (x194 ≤ x196)) (Q (V.c (C.bool false)) m187) (∀ m197 : M, (m197 = (mGrow m187 1)) → 
 ∃ x198, ∃ c199 : C, ∃ c200 : C, ∃ c201 : C, ((ldA m197 (C.ptr m.nxt 0) 4) = (some [(Il x198), 
 c199, c200, c201])) ∧ Wc prog tbl 23 [(V.agg 4 [(Il x198), c199, 
 c200, c201])] m197 (fun v202 m203 => ∃ x204, ∃ c205 : C, ∃ c206 : C, 
 ∃ c207 : C, (v202 = (V.agg 4 [(Il x204), c205, c206, c207])) ∧ 
 ∃ n208 : Nat, (x186 = ((n208 : Nat) : Int)) ∧ (n208 < (slLen c42)) ∧ ∃ x209, 
 ((ldC m203 (slAt c42 (n208 * 1))) = (some (Il x209))) ∧ 
 ((ldC m197 (slAt c42 (n208 * 1))) = (some (Il x209))) ∧ 
 Wc prog tbl 9 [(V.agg 4 [(Il x204), c205, c206, c207]), (V.c (Il ((wrapZ .i64 a200) % (((slLen c15) : Nat) : Int)))), 
 (V.c (Il x209))] m203 (fun v210 m211 => ∃ x212, ∃ x213, 
 ∃ x214, (v210 = (V.tup [(U.agg 2 [(Il x212), (Il x213)]), 
 (U.c (Il x214))])) ∧ ∀ m215 : M, (m215 = (M.set m211 (m187.nxt + 0) (AO.cells 2 [(Il 0), 
 (Il 0)] false))) → ((ldC m215 (slAt c42 (n208 * 1))) = (some (Il x209))) ∧ 
 (ifB (allS cmC [(Il x198), c199, c200, c201]) ((ldA m215 (C.ptr m.nxt 0) 4) = (some [(Il x198), 
 c199, c200, c201])) False) ∧ ∃ m216 : M, ((stC m215 (C.ptr (m187.nxt + 0) 0) 2 [(Il x212), 
 (Il x213)]) = (some m216)) ∧ ifB (!decide (x214 = 0)) (Q (V.c (C.bool false)) m216) (isPt (C.ptr (m187.nxt + 0) 0) ∧ 
 ∃ x217, ((ldC m216 (C.ptr (m187.nxt + 0) 0)) = (some (Il x217))) ∧ 
 isPt (C.ptr (m187.nxt + 0) 0) ∧ ∃ x218, ((ldC m216 (C.ptr (m187.nxt + 0) 1)) = (some (Il x218))) ∧ 
 ifB (decide (x218 < x217)) (Q (V.c (C.bool false)) m216) (isPt (C.ptr (m187.nxt + 0) 0) ∧ 
 ∃ x219, ((ldC m216 (C.ptr (m187.nxt + 0) 0)) = (some (Il x219))) ∧ 
 ifB (decide (x219 < 0)) (Q (V.c (C.bool false)) m216) (isPt (C.ptr (m187.nxt + 0) 0) ∧ 
 ∃ x220, ((ldC m216 (C.ptr (m187.nxt + 0) 1)) = (some (Il x220))) ∧ 
 ifB (decide ((100 : Int) < x220)) (Q (V.c (C.bool false)) m216) (isPt (C.ptr (m187.nxt + 0) 0) ∧ 
 ∃ x221, ((ldC m216 (C.ptr (m187.nxt + 0) 0)) = (some (Il x221))) ∧ 
 isPt (C.ptr (m187.nxt + 0) 0) ∧ ∃ x222, ((ldC m216 (C.ptr (m187.nxt + 0) 1)) = (some (Il x222))) ∧ 
 isPt (C.ptr (m187.nxt + 0) 0) ∧ ∃ x223, ((ldC m216 (C.ptr (m187.nxt + 0) 0)) = (some (Il x223))) ∧ 
 fitsP .i64 (x222 - x223) ∧ fitsP .i64 ((x222 - x223) + (1 : Int)) ∧ 
 ((0 : Int) ≤ (wrapZ .i64 a400)) ∧ ((0 : Int) < ((x222 - x223) + (1 : Int))) ∧ 
 fitsP .i64 ((wrapZ .i64 a400) % ((x222 - x223) + (1 : Int))) ∧ 
 fitsP .i64 (x221 + ((wrapZ .i64 a400) % ((x222 - x223) + (1 : Int)))) ∧ 
 ∃ x224, ∃ c225 : C, ∃ c226 : C, ∃ c227 : C, ((ldA m216 (C.ptr m.nxt 0) 4) = (some [(Il x224), 
 c225, c226, c227])) ∧ ∀ m228 : M, (m228 = (M.new m216 (AO.cells 4 [(Il 0), 
 C.sl0, C.sl0, C.sl0] false))) → ∃ m229 : M, ((stC m228 (C.ptr m216.nxt 0) 4 [(Il x224), 
 c225, c226, c227]) = (some m229)) ∧ ∀ m230 : M, (m230 = (mGrow m229 1)) → 
 ∀ m231 : M, (m231 = (M.new m230 (AO.cells 0 [] false))) → isPt (C.ptr m.nxt 0) ∧ 
 ∃ c232 : C, ((ldC m231 (C.ptr m.nxt 3)) = (some c232)) ∧ (ifB (cmC c232) ((ldC m230 (C.ptr m.nxt 3)) = (some c232)) False) ∧ 
 ∃ c233 : C, ∃ m234 : M, (ApR prog 57 m231 (C.sl m230.nxt 0 0 0 (some 0)) c232 c233 m234) ∧ 
 ∃ n235 : Nat, (x186 = ((n235 : Nat) : Int)) ∧ (n235 < (slLen c42)) ∧ ∃ x236, 
 ((ldC m234 (slAt c42 (n235 * 1))) = (some (Il x236))) ∧ 
 ((ldC m231 (slAt c42 (n235 * 1))) = (some (Il x236))) ∧ 
 ((ldC m230 (slAt c42 (n235 * 1))) = (some (Il x236))) ∧ 
 ∀ m237 : M, (m237 = (M.set m234 (m229.nxt + 0) (AO.cells 4 [(Il ((wrapZ .i64 a200) % (((slLen c15) : Nat) : Int))), 
 (Il x236), (Il (x221 + ((wrapZ .i64 a400) % ((x222 - x223) + (1 : Int))))), 
 (Il (x221 + ((wrapZ .i64 a400) % ((x222 - x223) + (1 : Int)))))] false))) → 
 (ifB (cmC c232) ((ldC m237 (C.ptr m.nxt 3)) = (some c232)) False) ∧ 
 ∃ c238 : C, ∃ m239 : M, (ApR prog 57 m237 c233 (C.sl (m229.nxt + 0) 0 1 0 (some 1)) c238 m239) ∧ 
 isPt (C.ptr m216.nxt 0) ∧ ∃ m240 : M, ((stC m239 (C.ptr m216.nxt 3) 1 [c238]) = (some m240)) ∧ 
 ∃ x241, ∃ c242 : C, ∃ c243 : C, ∃ c244 : C, ((ldA m240 (C.ptr m216.nxt 0) 4) = (some [(Il x241), 
 c242, c243, c244])) ∧ Wc prog tbl 23 [(V.agg 4 [(Il x241), c242, 
 c243, c244])] m240 (fun v245 m246 => ∃ x247, ∃ c248 : C, ∃ c249 : C, 
 ∃ c250 : C, (v245 = (V.agg 4 [(Il x247), c248, c249, c250])) ∧ 
 Wc prog tbl 11 [(V.agg 4 [(Il x247), c248, c249, c250]), (V.c (Il ((wrapZ .i64 a200) % (((slLen c15) : Nat) : Int)))), 
 (V.c (Il ((wrapZ .i64 a300) % (101 : Int))))] m246 (fun v251 m252 => 
 ∃ x253, ∃ x254, (v251 = (V.tup [(U.c (Il x253)), 
 (U.c (Il x254))])) ∧ ifB (!decide (x254 = 0)) (ifB (!decide (x254 = 11)) (Q (V.c (C.bool false)) m252) (ifB (decide (x254 = 0)) (ifB (decide (x253 = 3)) (Q (V.c (C.bool false)) m252) (fitsP .i64 (x186 + 1) ∧ 
 R182 [(V.c (C.bool b183)), (V.c (C.bool b183)), (V.c (C.bool b183)), (V.c (Il (x186 + 1)))] m252)) (fitsP .i64 (x186 + 1) ∧ 
 R182 [(V.c (C.bool b183)), (V.c (C.bool b183)), (V.c (C.bool b183)), (V.c (Il (x186 + 1)))] m252))) (ifB (decide (x254 = 0)) (ifB (decide (x253 = 3)) (Q (V.c (C.bool false)) m252) (fitsP .i64 (x186 + 1) ∧ 
 R182 [(V.c (C.bool b183)), (V.c (C.bool b183)), (V.c (C.bool b183)), (V.c (Il (x186 + 1)))] m252)) (fitsP .i64 (x186 + 1) ∧ 
 R182 [(V.c (C.bool b183)), (V.c (C.bool b183)), (V.c (C.bool b183)), (V.c (Il (x186 + 1)))] m252)))))))))))) (∀ m255 : M, 
 (m255 = (mGrow m187 1)) → ∃ x256, ∃ c257 : C, ∃ c258 : C, ∃ c259 : C, 
 ((ldA m255 (C.ptr m.nxt 0) 4) = (some [(Il x256), c257, 
 c258, c259])) ∧ Wc prog tbl 23 [(V.agg 4 [(Il x256), c257, c258, 
 c259])] m255 (fun v260 m261 => ∃ x262, ∃ c263 : C, ∃ c264 : C, ∃ c265 : C, 
 (v260 = (V.agg 4 [(Il x262), c263, c264, c265])) ∧ ∃ n266 : Nat, 
 (x186 = ((n266 : Nat) : Int)) ∧ (n266 < (slLen c42)) ∧ ∃ x267, ((ldC m261 (slAt c42 (n266 * 1))) = (some (Il x267))) ∧ 
 ((ldC m255 (slAt c42 (n266 * 1))) = (some (Il x267))) ∧ 
 Wc prog tbl 9 [(V.agg 4 [(Il x262), c263, c264, c265]), (V.c (Il ((wrapZ .i64 a200) % (((slLen c15) : Nat) : Int)))), 
 (V.c (Il x267))] m261 (fun v268 m269 => ∃ x270, ∃ x271, 
 ∃ x272, (v268 = (V.tup [(U.agg 2 [(Il x270), (Il x271)]), 
 (U.c (Il x272))])) ∧ ∀ m273 : M, (m273 = (M.set m269 (m187.nxt + 0) (AO.cells 2 [(Il 0), 
 (Il 0)] false))) → ((ldC m273 (slAt c42 (n266 * 1))) = (some (Il x267))) ∧ 
 (ifB (allS cmC [(Il x256), c257, c258, c259]) ((ldA m273 (C.ptr m.nxt 0) 4) = (some [(Il x256), 
 c257, c258, c259])) False) ∧ ∃ m274 : M, ((stC m273 (C.ptr (m187.nxt + 0) 0) 2 [(Il x270), 
 (Il x271)]) = (some m274)) ∧ ifB (!decide (x272 = 0)) (Q (V.c (C.bool false)) m274) (isPt (C.ptr (m187.nxt + 0) 0) ∧ 
 ∃ x275, ((ldC m274 (C.ptr (m187.nxt + 0) 0)) = (some (Il x275))) ∧ 
 isPt (C.ptr (m187.nxt + 0) 0) ∧ ∃ x276, ((ldC m274 (C.ptr (m187.nxt + 0) 1)) = (some (Il x276))) ∧ 
 ifB (decide (x276 < x275)) (Q (V.c (C.bool false)) m274) (isPt (C.ptr (m187.nxt + 0) 0) ∧ 
 ∃ x277, ((ldC m274 (C.ptr (m187.nxt + 0) 0)) = (some (Il x277))) ∧ 
 ifB (decide (x277 < 0)) (Q (V.c (C.bool false)) m274) (isPt (C.ptr (m187.nxt + 0) 0) ∧ 
 ∃ x278, ((ldC m274 (C.ptr (m187.nxt + 0) 1)) = (some (Il x278))) ∧ 
 ifB (decide ((100 : Int) < x278)) (Q (V.c (C.bool false)) m274) (isPt (C.ptr (m187.nxt + 0) 0) ∧ 
 ∃ x279, ((ldC m274 (C.ptr (m187.nxt + 0) 0)) = (some (Il x279))) ∧ 
 isPt (C.ptr (m187.nxt + 0) 0) ∧ ∃ x280, ((ldC m274 (C.ptr (m187.nxt + 0) 1)) = (some (Il x280))) ∧ 
 isPt (C.ptr (m187.nxt + 0) 0) ∧ ∃ x281, ((ldC m274 (C.ptr (m187.nxt + 0) 0)) = (some (Il x281))) ∧ 
 fitsP .i64 (x280 - x281) ∧ fitsP .i64 ((x280 - x281) + (1 : Int)) ∧ 
 ((0 : Int) ≤ (wrapZ .i64 a400)) ∧ ((0 : Int) < ((x280 - x281) + (1 : Int))) ∧ 
 fitsP .i64 ((wrapZ .i64 a400) % ((x280 - x281) + (1 : Int))) ∧ 
 fitsP .i64 (x279 + ((wrapZ .i64 a400) % ((x280 - x281) + (1 : Int)))) ∧ 
 ∃ x282, ∃ c283 : C, ∃ c284 : C, ∃ c285 : C, ((ldA m274 (C.ptr m.nxt 0) 4) = (some [(Il x282), 
 c283, c284, c285])) ∧ ∀ m286 : M, (m286 = (M.new m274 (AO.cells 4 [(Il 0), 
 C.sl0, C.sl0, C.sl0] false))) → ∃ m287 : M, ((stC m286 (C.ptr m274.nxt 0) 4 [(Il x282), 
 c283, c284, c285]) = (some m287)) ∧ ∀ m288 : M, (m288 = (mGrow m287 1)) → 
 ∀ m289 : M, (m289 = (M.new m288 (AO.cells 0 [] false))) → isPt (C.ptr m.nxt 0) ∧ 
 ∃ c290 : C, ((ldC m289 (C.ptr m.nxt 3)) = (some c290)) ∧ (ifB (cmC c290) ((ldC m288 (C.ptr m.nxt 3)) = (some c290)) False) ∧ 
 ∃ c291 : C, ∃ m292 : M, (ApR prog 57 m289 (C.sl m288.nxt 0 0 0 (some 0)) c290 c291 m292) ∧ 
 ∃ n293 : Nat, (x186 = ((n293 : Nat) : Int)) ∧ (n293 < (slLen c42)) ∧ ∃ x294, 
 ((ldC m292 (slAt c42 (n293 * 1))) = (some (Il x294))) ∧ 
 ((ldC m289 (slAt c42 (n293 * 1))) = (some (Il x294))) ∧ 
 ((ldC m288 (slAt c42 (n293 * 1))) = (some (Il x294))) ∧ 
 ∀ m295 : M, (m295 = (M.set m292 (m287.nxt + 0) (AO.cells 4 [(Il ((wrapZ .i64 a200) % (((slLen c15) : Nat) : Int))), 
 (Il x294), (Il (x279 + ((wrapZ .i64 a400) % ((x280 - x281) + (1 : Int))))), 
 (Il (x279 + ((wrapZ .i64 a400) % ((x280 - x281) + (1 : Int)))))] false))) → 
 (ifB (cmC c290) ((ldC m295 (C.ptr m.nxt 3)) = (some c290)) False) ∧ 
 ∃ c296 : C, ∃ m297 : M, (ApR prog 57 m295 c291 (C.sl (m287.nxt + 0) 0 1 0 (some 1)) c296 m297) ∧ 
 isPt (C.ptr m274.nxt 0) ∧ ∃ m298 : M, ((stC m297 (C.ptr m274.nxt 3) 1 [c296]) = (some m298)) ∧ 
 ∃ x299, ∃ c300 : C, ∃ c301 : C, ∃ c302 : C, ((ldA m298 (C.ptr m274.nxt 0) 4) = (some [(Il x299), 
 c300, c301, c302])) ∧ Wc prog tbl 23 [(V.agg 4 [(Il x299), c300, 
 c301, c302])] m298 (fun v303 m304 => ∃ x305, ∃ c306 : C, ∃ c307 : C, 
 ∃ c308 : C, (v303 = (V.agg 4 [(Il x305), c306, c307, c308])) ∧ 
 Wc prog tbl 11 [(V.agg 4 [(Il x305), c306, c307, c308]), (V.c (Il ((wrapZ .i64 a200) % (((slLen c15) : Nat) : Int)))), 
 (V.c (Il ((wrapZ .i64 a300) % (101 : Int))))] m304 (fun v309 m310 => 
 ∃ x311, ∃ x312, (v309 = (V.tup [(U.c (Il x311)), 
 (U.c (Il x312))])) ∧ ifB (!decide (x312 = 0)) (ifB (!decide (x312 = 11)) (Q (V.c (C.bool false)) m310) (ifB (decide (x312 = 0)) (ifB (decide (x311 = 3)) (Q (V.c (C.bool false)) m310) (fitsP .i64 (x186 + 1) ∧ 
 R182 [(V.c (C.bool b183)), (V.c (C.bool b183)), (V.c (C.bool b183)), (V.c (Il (x186 + 1)))] m310)) (fitsP .i64 (x186 + 1) ∧ 
 R182 [(V.c (C.bool b183)), (V.c (C.bool b183)), (V.c (C.bool b183)), (V.c (Il (x186 + 1)))] m310))) (ifB (decide (x312 = 0)) (ifB (decide (x311 = 3)) (Q (V.c (C.bool false)) m310) (fitsP .i64 (x186 + 1) ∧ 
 R182 [(V.c (C.bool b183)), (V.c (C.bool b183)), (V.c (C.bool b183)), (V.c (Il (x186 + 1)))] m310)) (fitsP .i64 (x186 + 1) ∧ 
 R182 [(V.c (C.bool b183)), (V.c (C.bool b183)), (V.c (C.bool b183)), (V.c (Il (x186 + 1)))] m310)))))))))))))) (Wc prog tbl 21 [] m187 (fun v313 m314 => 
 ∃ b315 : Bool, (v313 = (V.c (C.bool b315))) ∧ Q (V.c (C.bool b315)) m314))) → 
 R182 [(V.c (C.bool b183)), (V.c (C.bool b184)), (V.c (C.bool b185)), (V.c (Il x186))] m187) → 
 R182 [(V.c (C.bool false)), (V.c (C.bool false)), (V.c (C.bool false)), (V.c (Il 0))] m41)))) (ifB (!decide (x29 = 0)) (Wc prog tbl 21 [] m41 (fun v316 m317 => 
 ∃ b318 : Bool, (v316 = (V.c (C.bool b318))) ∧ Q (V.c (C.bool b318)) m317)) (ifB (!decide (x28 = 3)) (isSl c42 ∧ 
 isPt (C.ptr m.nxt 0) ∧ ∃ x319, ((ldC m41 (C.ptr m.nxt 0)) = (some (Il x319))) ∧ 
 fitsP .i64 (x319 + 1) ∧ ifB (!decide ((((slLen c42) : Nat) : Int) = (x319 + 1))) (Q (V.c (C.bool false)) m41) (∀ R320 : List V → 
 M → Prop, (∀ b321 : Bool, ∀ b322 : Bool, ∀ b323 : Bool, ∀ x324 : Int, ∀ m325 : M, 
 (isSl c42 ∧ ifB (decide (x324 < (((slLen c42) : Nat) : Int))) (∃ n326 : Nat, 
 (x324 = ((n326 : Nat) : Int)) ∧ (n326 < (slLen c42)) ∧ ∃ x327, ((ldC m325 (slAt c42 (n326 * 1))) = (some (Il x327))) ∧ 
 ifB (decide (x327 < 0)) (Q (V.c (C.bool false)) m325) (∃ n328 : Nat, 
 (x324 = ((n328 : Nat) : Int)) ∧ (n328 < (slLen c42)) ∧ ∃ x329, ((ldC m325 (slAt c42 (n328 * 1))) = (some (Il x329))) ∧ 
 isPt (C.ptr m.nxt 0) ∧ ∃ x330, ((ldC m325 (C.ptr m.nxt 0)) = (some (Il x330))) ∧ 
 ifB (decide (x330 < x329)) (Q (V.c (C.bool false)) m325) (ifB (decide ((0 : Int) < x324)) (∃ n331 : Nat, 
 (x324 = ((n331 : Nat) : Int)) ∧ (n331 < (slLen c42)) ∧ ∃ x332, ((ldC m325 (slAt c42 (n331 * 1))) = (some (Il x332))) ∧ 
 fitsP .i64 (x324 - 1) ∧ ∃ n333 : Nat, ((x324 - 1) = ((n333 : Nat) : Int)) ∧ 
 (n333 < (slLen c42)) ∧ ∃ x334, ((ldC m325 (slAt c42 (n333 * 1))) = (some (Il x334))) ∧ 
 ifB (decide (x332 ≤ x334)) (Q (V.c (C.bool false)) m325) (∀ m335 : M, (m335 = (mGrow m325 1)) → 
 ∃ x336, ∃ c337 : C, ∃ c338 : C, ∃ c339 : C, ((ldA m335 (C.ptr m.nxt 0) 4) = (some [(Il x336), 
 c337, c338, c339])) ∧ Wc prog tbl 23 [(V.agg 4 [(Il x336), c337, 
 c338, c339])] m335 (fun v340 m341 => ∃ x342, ∃ c343 : C, ∃ c344 : C, 
 ∃ c345 : C, (v340 = (V.agg 4 [(Il x342), c343, c344, c345])) ∧ 
 ∃ n346 : Nat, (x324 = ((n346 : Nat) : Int)) ∧ (n346 < (slLen c42)) ∧ ∃ x347, 
 ((ldC m341 (slAt c42 (n346 * 1))) = (some (Il x347))) ∧ 
 ((ldC m335 (slAt c42 (n346 * 1))) = (some (Il x347))) ∧ 
 Wc prog tbl 9 [(V.agg 4 [(Il x342), c343, c344, c345]), (V.c (Il ((wrapZ .i64 a200) % (((slLen c15) : Nat) : Int)))), 
 (V.c (Il x347))] m341 (fun v348 m349 => ∃ x350, ∃ x351, 
 ∃ x352, (v348 = (V.tup [(U.agg 2 [(Il x350), (Il x351)]), 
 (U.c (Il x352))])) ∧ ∀ m353 : M, (m353 = (M.set m349 (m325.nxt + 0) (AO.cells 2 [(Il 0), 
 (Il 0)] false))) → ((ldC m353 (slAt c42 (n346 * 1))) = (some (Il x347))) ∧ 
 (ifB (allS cmC [(Il x336), c337, c338, c339]) ((ldA m353 (C.ptr m.nxt 0) 4) = (some [(Il x336), 
 c337, c338, c339])) False) ∧ ∃ m354 : M, ((stC m353 (C.ptr (m325.nxt + 0) 0) 2 [(Il x350), 
 (Il x351)]) = (some m354)) ∧ ifB (!decide (x352 = 0)) (Q (V.c (C.bool false)) m354) (isPt (C.ptr (m325.nxt + 0) 0) ∧ 
 ∃ x355, ((ldC m354 (C.ptr (m325.nxt + 0) 0)) = (some (Il x355))) ∧ 
 isPt (C.ptr (m325.nxt + 0) 0) ∧ ∃ x356, ((ldC m354 (C.ptr (m325.nxt + 0) 1)) = (some (Il x356))) ∧ 
 ifB (decide (x356 < x355)) (Q (V.c (C.bool false)) m354) (isPt (C.ptr (m325.nxt + 0) 0) ∧ 
 ∃ x357, ((ldC m354 (C.ptr (m325.nxt + 0) 0)) = (some (Il x357))) ∧ 
 ifB (decide (x357 < 0)) (Q (V.c (C.bool false)) m354) (isPt (C.ptr (m325.nxt + 0) 0) ∧ 
 ∃ x358, ((ldC m354 (C.ptr (m325.nxt + 0) 1)) = (some (Il x358))) ∧ 
 ifB (decide ((100 : Int) < x358)) (Q (V.c (C.bool false)) m354) (isPt (C.ptr (m325.nxt + 0) 0) ∧ 
 ∃ x359, ((ldC m354 (C.ptr (m325.nxt + 0) 0)) = (some (Il x359))) ∧ 
 isPt (C.ptr (m325.nxt + 0) 0) ∧ ∃ x360, ((ldC m354 (C.ptr (m325.nxt + 0) 1)) = (some (Il x360))) ∧ 
 isPt (C.ptr (m325.nxt + 0) 0) ∧ ∃ x361, ((ldC m354 (C.ptr (m325.nxt + 0) 0)) = (some (Il x361))) ∧ 
 fitsP .i64 (x360 - x361) ∧ fitsP .i64 ((x360 - x361) + (1 : Int)) ∧ 
 ((0 : Int) ≤ (wrapZ .i64 a400)) ∧ ((0 : Int) < ((x360 - x361) + (1 : Int))) ∧ 
 fitsP .i64 ((wrapZ .i64 a400) % ((x360 - x361) + (1 : Int))) ∧ 
 fitsP .i64 (x359 + ((wrapZ .i64 a400) % ((x360 - x361) + (1 : Int)))) ∧ 
 ∃ x362, ∃ c363 : C, ∃ c364 : C, ∃ c365 : C, ((ldA m354 (C.ptr m.nxt 0) 4) = (some [(Il x362), 
 c363, c364, c365])) ∧ ∀ m366 : M, (m366 = (M.new m354 (AO.cells 4 [(Il 0), 
 C.sl0, C.sl0, C.sl0] false))) → ∃ m367 : M, ((stC m366 (C.ptr m354.nxt 0) 4 [(Il x362), 
 c363, c364, c365]) = (some m367)) ∧ ∀ m368 : M, (m368 = (mGrow m367 1)) → 
 ∀ m369 : M, (m369 = (M.new m368 (AO.cells 0 [] false))) → isPt (C.ptr m.nxt 0) ∧ 
 ∃ c370 : C, ((ldC m369 (C.ptr m.nxt 3)) = (some c370)) ∧ (ifB (cmC c370) ((ldC m368 (C.ptr m.nxt 3)) = (some c370)) False) ∧ 
 ∃ c371 : C, ∃ m372 : M, (ApR prog 57 m369 (C.sl m368.nxt 0 0 0 (some 0)) c370 c371 m372) ∧ 
 ∃ n373 : Nat, (x324 = ((n373 : Nat) : Int)) ∧ (n373 < (slLen c42)) ∧ ∃ x374, 
 ((ldC m372 (slAt c42 (n373 * 1))) = (some (Il x374))) ∧ 
 ((ldC m369 (slAt c42 (n373 * 1))) = (some (Il x374))) ∧ 
 ((ldC m368 (slAt c42 (n373 * 1))) = (some (Il x374))) ∧ 
 ∀ m375 : M, (m375 = (M.set m372 (m367.nxt + 0) (AO.cells 4 [(Il ((wrapZ .i64 a200) % (((slLen c15) : Nat) : Int))), 
 (Il x374), (Il (x359 + ((wrapZ .i64 a400) % ((x360 - x361) + (1 : Int))))), 
 (Il (x359 + ((wrapZ .i64 a400) % ((x360 - x361) + (1 : Int)))))] false))) → 
 (ifB (cmC c370) ((ldC m375 (C.ptr m.nxt 3)) = (some c370)) False) ∧ 
 ∃ c376 : C, ∃ m377 : M, (ApR prog 57 m375 c371 (C.sl (m367.nxt + 0) 0 1 0 (some 1)) c376 m377) ∧ 
 isPt (C.ptr m354.nxt 0) ∧ ∃ m378 : M, ((stC m377 (C.ptr m354.nxt 3) 1 [c376]) = (some m378)) ∧ 
 ∃ x379, ∃ c380 : C, ∃ c381 : C, ∃ c382 : C, ((ldA m378 (C.ptr m354.nxt 0) 4) = (some [(Il x379), 
 c380, c381, c382])) ∧ Wc prog tbl 23 [(V.agg 4 [(Il x379), c380, 
 c381, c382])] m378 (fun v383 m384 => ∃ x385, ∃ c386 : C, ∃ c387 : C, 
 ∃ c388 : C, (v383 = (V.agg 4 [(Il x385), c386, c387, c388])) ∧ 
 Wc prog tbl 11 [(V.agg 4 [(Il x385), c386, c387, c388]), (V.c (Il ((wrapZ .i64 a200) % (((slLen c15) : Nat) : Int)))), 
 (V.c (Il ((wrapZ .i64 a300) % (101 : Int))))] m384 (fun v389 m390 => 
 ∃ x391, ∃ x392, (v389 = (V.tup [(U.c (Il x391)), 
 (U.c (Il x392))])) ∧ ifB (!decide (x392 = 0)) (ifB (!decide (x392 = 11)) (Q (V.c (C.bool false)) m390) (ifB (decide (x392 = 0)) (ifB (decide (x391 = 3)) (Q (V.c (C.bool false)) m390) (fitsP .i64 (x324 + 1) ∧ 
 R320 [(V.c (C.bool b321)), (V.c (C.bool b321)), (V.c (C.bool b321)), (V.c (Il (x324 + 1)))] m390)) (fitsP .i64 (x324 + 1) ∧ 
 R320 [(V.c (C.bool b321)), (V.c (C.bool b321)), (V.c (C.bool b321)), (V.c (Il (x324 + 1)))] m390))) (ifB (decide (x392 = 0)) (ifB (decide (x391 = 3)) (Q (V.c (C.bool false)) m390) (fitsP .i64 (x324 + 1) ∧ 
 R320 [(V.c (C.bool b321)), (V.c (C.bool b321)), (V.c (C.bool b321)), (V.c (Il (x324 + 1)))] m390)) (fitsP .i64 (x324 + 1) ∧ 
 R320 [(V.c (C.bool b321)), (V.c (C.bool b321)), (V.c (C.bool b321)), (V.c (Il (x324 + 1)))] m390)))))))))))) (∀ m393 : M, 
 (m393 = (mGrow m325 1)) → ∃ x394, ∃ c395 : C, ∃ c396 : C, ∃ c397 : C, 
 ((ldA m393 (C.ptr m.nxt 0) 4) = (some [(Il x394), c395, 
 c396, c397])) ∧ Wc prog tbl 23 [(V.agg 4 [(Il x394), c395, c396, 
 c397])] m393 (fun v398 m399 => ∃ x400, ∃ c401 : C, ∃ c402 : C, ∃ c403 : C, 
 (v398 = (V.agg 4 [(Il x400), c401, c402, c403])) ∧ ∃ n404 : Nat, 
 (x324 = ((n404 : Nat) : Int)) ∧ (n404 < (slLen c42)) ∧ ∃ x405, ((ldC m399 (slAt c42 (n404 * 1))) = (some (Il x405))) ∧ 
 ((ldC m393 (slAt c42 (n404 * 1))) = (some (Il x405))) ∧ 
 Wc prog tbl 9 [(V.agg 4 [(Il x400), c401, c402, c403]), (V.c (Il ((wrapZ .i64 a200) % (((slLen c15) : Nat) : Int)))), 
 (V.c (Il x405))] m399 (fun v406 m407 => ∃ x408, ∃ x409, 
 ∃ x410, (v406 = (V.tup [(U.agg 2 [(Il x408), (Il x409)]), 
 (U.c (Il x410))])) ∧ ∀ m411 : M, (m411 = (M.set m407 (m325.nxt + 0) (AO.cells 2 [(Il 0), 
 (Il 0)] false))) → ((ldC m411 (slAt c42 (n404 * 1))) = (some (Il x405))) ∧ 
 (ifB (allS cmC [(Il x394), c395, c396, c397]) ((ldA m411 (C.ptr m.nxt 0) 4) = (some [(Il x394), 
 c395, c396, c397])) False) ∧ ∃ m412 : M, ((stC m411 (C.ptr (m325.nxt + 0) 0) 2 [(Il x408), 
 (Il x409)]) = (some m412)) ∧ ifB (!decide (x410 = 0)) (Q (V.c (C.bool false)) m412) (isPt (C.ptr (m325.nxt + 0) 0) ∧ 
 ∃ x413, ((ldC m412 (C.ptr (m325.nxt + 0) 0)) = (some (Il x413))) ∧ 
 isPt (C.ptr (m325.nxt + 0) 0) ∧ ∃ x414, ((ldC m412 (C.ptr (m325.nxt + 0) 1)) = (some (Il x414))) ∧ 
 ifB (decide (x414 < x413)) (Q (V.c (C.bool false)) m412) (isPt (C.ptr (m325.nxt + 0) 0) ∧ 
 ∃ x415, ((ldC m412 (C.ptr (m325.nxt + 0) 0)) = (some (Il x415))) ∧ 
 ifB (decide (x415 < 0)) (Q (V.c (C.bool false)) m412) (isPt (C.ptr (m325.nxt + 0) 0) ∧ 
 ∃ x416, ((ldC m412 (C.ptr (m325.nxt + 0) 1)) = (some (Il x416))) ∧ 
 ifB (decide ((100 : Int) < x416)) (Q (V.c (C.bool false)) m412) (isPt (C.ptr (m325.nxt + 0) 0) ∧ 
 ∃ x417, ((ldC m412 (C.ptr (m325.nxt + 0) 0)) = (some (Il x417))) ∧ 
 isPt (C.ptr (m325.nxt + 0) 0) ∧ ∃ x418, ((ldC m412 (C.ptr (m325.nxt + 0) 1)) = (some (Il x418))) ∧ 
 isPt (C.ptr (m325.nxt + 0) 0) ∧ ∃ x419, ((ldC m412 (C.ptr (m325.nxt + 0) 0)) = (some (Il x419))) ∧ 
 fitsP .i64 (x418 - x419) ∧ fitsP .i64 ((x418 - x419) + (1 : Int)) ∧ 
 ((0 : Int) ≤ (wrapZ .i64 a400)) ∧ ((0 : Int) < ((x418 - x419) + (1 : Int))) ∧ 
 fitsP .i64 ((wrapZ .i64 a400) % ((x418 - x419) + (1 : Int))) ∧ 
 fitsP .i64 (x417 + ((wrapZ .i64 a400) % ((x418 - x419) + (1 : Int)))) ∧ 
 ∃ x420, ∃ c421 : C, ∃ c422 : C, ∃ c423 : C, ((ldA m412 (C.ptr m.nxt 0) 4) = (some [(Il x420), 
 c421, c422, c423])) ∧ ∀ m424 : M, (m424 = (M.new m412 (AO.cells 4 [(Il 0), 
 C.sl0, C.sl0, C.sl0] false))) → ∃ m425 : M, ((stC m424 (C.ptr m412.nxt 0) 4 [(Il x420), 
 c421, c422, c423]) = (some m425)) ∧ ∀ m426 : M, (m426 = (mGrow m425 1)) → 
 ∀ m427 : M, (m427 = (M.new m426 (AO.cells 0 [] false))) → isPt (C.ptr m.nxt 0) ∧ 
 ∃ c428 : C, ((ldC m427 (C.ptr m.nxt 3)) = (some c428)) ∧ (ifB (cmC c428) ((ldC m426 (C.ptr m.nxt 3)) = (some c428)) False) ∧ 
 ∃ c429 : C, ∃ m430 : M, (ApR prog 57 m427 (C.sl m426.nxt 0 0 0 (some 0)) c428 c429 m430) ∧ 
 ∃ n431 : Nat, (x324 = ((n431 : Nat) : Int)) ∧ (n431 < (slLen c42)) ∧ ∃ x432, 
 ((ldC m430 (slAt c42 (n431 * 1))) = (some (Il x432))) ∧ 
 ((ldC m427 (slAt c42 (n431 * 1))) = (some (Il x432))) ∧ 
 ((ldC m426 (slAt c42 (n431 * 1))) = (some (Il x432))) ∧ 
 ∀ m433 : M, (m433 = (M.set m430 (m425.nxt + 0) (AO.cells 4 [(Il ((wrapZ .i64 a200) % (((slLen c15) : Nat) : Int))), 
 (Il x432), (Il (x417 + ((wrapZ .i64 a400) % ((x418 - x419) + (1 : Int))))), 
 (Il (x417 + ((wrapZ .i64 a400) % ((x418 - x419) + (1 : Int)))))] false))) → 
 (ifB (cmC c428) ((ldC m433 (C.ptr m.nxt 3)) = (some c428)) False) ∧ 
 ∃ c434 : C, ∃ m435 : M, (ApR prog 57 m433 c429 (C.sl (m425.nxt + 0) 0 1 0 (some 1)) c434 m435) ∧ 
 isPt (C.ptr m412.nxt 0) ∧ ∃ m436 : M, ((stC m435 (C.ptr m412.nxt 3) 1 [c434]) = (some m436)) ∧ 
 ∃ x437, ∃ c438 : C, ∃ c439 : C, ∃ c440 : C, ((ldA m436 (C.ptr m412.nxt 0) 4) = (some [(Il x437), 
 c438, c439, c440])) ∧ Wc prog tbl 23 [(V.agg 4 [(Il x437), c438, 
 c439, c440])] m436 (fun v441 m442 => ∃ x443, ∃ c444 : C, ∃ c445 : C, 
 ∃ c446 : C, (v441 = (V.agg 4 [(Il x443), c444, c445, c446])) ∧ 
 Wc prog tbl 11 [(V.agg 4 [(Il x443), c444, c445, c446]), (V.c (Il ((wrapZ .i64 a200) % (((slLen c15) : Nat) : Int)))), 
 (V.c (Il ((wrapZ .i64 a300) % (101 : Int))))] m442 (fun v447 m448 => 
 ∃ x449, ∃ x450, (v447 = (V.tup [(U.c (Il x449)), 
 (U.c (Il x450))])) ∧ ifB (!decide (x450 = 0)) (ifB (!decide (x450 = 11)) (Q (V.c (C.bool false)) m448) (ifB (decide (x450 = 0)) (ifB (decide (x449 = 3)) (Q (V.c (C.bool false)) m448) (fitsP .i64 (x324 + 1) ∧ 
 R320 [(V.c (C.bool b321)), (V.c (C.bool b321)), (V.c (C.bool b321)), (V.c (Il (x324 + 1)))] m448)) (fitsP .i64 (x324 + 1) ∧ 
 R320 [(V.c (C.bool b321)), (V.c (C.bool b321)), (V.c (C.bool b321)), (V.c (Il (x324 + 1)))] m448))) (ifB (decide (x450 = 0)) (ifB (decide (x449 = 3)) (Q (V.c (C.bool false)) m448) (fitsP .i64 (x324 + 1) ∧ 
 R320 [(V.c (C.bool b321)), (V.c (C.bool b321)), (V.c (C.bool b321)), (V.c (Il (x324 + 1)))] m448)) (fitsP .i64 (x324 + 1) ∧ 
 R320 [(V.c (C.bool b321)), (V.c (C.bool b321)), (V.c (C.bool b321)), (V.c (Il (x324 + 1)))] m448)))))))))))))) (Wc prog tbl 21 [] m325 (fun v451 m452 => 
 ∃ b453 : Bool, (v451 = (V.c (C.bool b453))) ∧ Q (V.c (C.bool b453)) m452))) → 
 R320 [(V.c (C.bool b321)), (V.c (C.bool b322)), (V.c (C.bool b323)), (V.c (Il x324))] m325) → 
 R320 [(V.c (C.bool false)), (V.c (C.bool false)), (V.c (C.bool false)), (V.c (Il 0))] m41)) (∀ R454 : List V → 
 M → Prop, (∀ b455 : Bool, ∀ b456 : Bool, ∀ b457 : Bool, ∀ x458 : Int, ∀ m459 : M, 
 (isSl c42 ∧ ifB (decide (x458 < (((slLen c42) : Nat) : Int))) (∃ n460 : Nat, 
 (x458 = ((n460 : Nat) : Int)) ∧ (n460 < (slLen c42)) ∧ ∃ x461, ((ldC m459 (slAt c42 (n460 * 1))) = (some (Il x461))) ∧ 
 ifB (decide (x461 < 0)) (Q (V.c (C.bool false)) m459) (∃ n462 : Nat, 
 (x458 = ((n462 : Nat) : Int)) ∧ (n462 < (slLen c42)) ∧ ∃ x463, ((ldC m459 (slAt c42 (n462 * 1))) = (some (Il x463))) ∧ 
 isPt (C.ptr m.nxt 0) ∧ ∃ x464, ((ldC m459 (C.ptr m.nxt 0)) = (some (Il x464))) ∧ 
 ifB (decide (x464 < x463)) (Q (V.c (C.bool false)) m459) (ifB (decide ((0 : Int) < x458)) (∃ n465 : Nat, 
 (x458 = ((n465 : Nat) : Int)) ∧ (n465 < (slLen c42)) ∧ ∃ x466, ((ldC m459 (slAt c42 (n465 * 1))) = (some (Il x466))) ∧ 
 fitsP .i64 (x458 - 1) ∧ ∃ n467 : Nat, ((x458 - 1) = ((n467 : Nat) : Int)) ∧ 
 (n467 < (slLen c42)) ∧ ∃ x468, ((ldC m459 (slAt c42 (n467 * 1))) = (some (Il x468))) ∧ 
 ifB (decide (x466 ≤ x468)) (Q (V.c (C.bool false)) m459) (∀ m469 : M, (m469 = (mGrow m459 1)) → 
 ∃ x470, ∃ c471 : C, ∃ c472 : C, ∃ c473 : C, ((ldA m469 (C.ptr m.nxt 0) 4) = (some [(Il x470), 
 c471, c472, c473])) ∧ Wc prog tbl 23 [(V.agg 4 [(Il x470), c471, 
 c472, c473])] m469 (fun v474 m475 => ∃ x476, ∃ c477 : C, ∃ c478 : C, 
 ∃ c479 : C, (v474 = (V.agg 4 [(Il x476), c477, c478, c479])) ∧ 
 ∃ n480 : Nat, (x458 = ((n480 : Nat) : Int)) ∧ (n480 < (slLen c42)) ∧ ∃ x481, 
 ((ldC m475 (slAt c42 (n480 * 1))) = (some (Il x481))) ∧ 
 ((ldC m469 (slAt c42 (n480 * 1))) = (some (Il x481))) ∧ 
 Wc prog tbl 9 [(V.agg 4 [(Il x476), c477, c478, c479]), (V.c (Il ((wrapZ .i64 a200) % (((slLen c15) : Nat) : Int)))), 
 (V.c (Il x481))] m475 (fun v482 m483 => ∃ x484, ∃ x485, 
 ∃ x486, (v482 = (V.tup [(U.agg 2 [(Il x484), (Il x485)]), 
 (U.c (Il x486))])) ∧ ∀ m487 : M, (m487 = (M.set m483 (m459.nxt + 0) (AO.cells 2 [(Il 0), 
 (Il 0)] false))) → ((ldC m487 (slAt c42 (n480 * 1))) = (some (Il x481))) ∧ 
 (ifB (allS cmC [(Il x470), c471, c472, c473]) ((ldA m487 (C.ptr m.nxt 0) 4) = (some [(Il x470), 
 c471, c472, c473])) False) ∧ ∃ m488 : M, ((stC m487 (C.ptr (m459.nxt + 0) 0) 2 [(Il x484), 
 (Il x485)]) = (some m488)) ∧ ifB (!decide (x486 = 0)) (Q (V.c (C.bool false)) m488) (isPt (C.ptr (m459.nxt + 0) 0) ∧ 
 ∃ x489, ((ldC m488 (C.ptr (m459.nxt + 0) 0)) = (some (Il x489))) ∧ 
 isPt (C.ptr (m459.nxt + 0) 0) ∧ ∃ x490, ((ldC m488 (C.ptr (m459.nxt + 0) 1)) = (some (Il x490))) ∧ 
 ifB (decide (x490 < x489)) (Q (V.c (C.bool false)) m488) (isPt (C.ptr (m459.nxt + 0) 0) ∧ 
 ∃ x491, ((ldC m488 (C.ptr (m459.nxt + 0) 0)) = (some (Il x491))) ∧ 
 ifB (decide (x491 < 0)) (Q (V.c (C.bool false)) m488) (isPt (C.ptr (m459.nxt + 0) 0) ∧ 
 ∃ x492, ((ldC m488 (C.ptr (m459.nxt + 0) 1)) = (some (Il x492))) ∧ 
 ifB (decide ((100 : Int) < x492)) (Q (V.c (C.bool false)) m488) (isPt (C.ptr (m459.nxt + 0) 0) ∧ 
 ∃ x493, ((ldC m488 (C.ptr (m459.nxt + 0) 0)) = (some (Il x493))) ∧ 
 isPt (C.ptr (m459.nxt + 0) 0) ∧ ∃ x494, ((ldC m488 (C.ptr (m459.nxt + 0) 1)) = (some (Il x494))) ∧ 
 isPt (C.ptr (m459.nxt + 0) 0) ∧ ∃ x495, ((ldC m488 (C.ptr (m459.nxt + 0) 0)) = (some (Il x495))) ∧ 
 fitsP .i64 (x494 - x495) ∧ fitsP .i64 ((x494 - x495) + (1 : Int)) ∧ 
 ((0 : Int) ≤ (wrapZ .i64 a400)) ∧ ((0 : Int) < ((x494 - x495) + (1 : Int))) ∧ 
 fitsP .i64 ((wrapZ .i64 a400) % ((x494 - x495) + (1 : Int))) ∧ 
 fitsP .i64 (x493 + ((wrapZ .i64 a400) % ((x494 - x495) + (1 : Int)))) ∧ 
 ∃ x496, ∃ c497 : C, ∃ c498 : C, ∃ c499 : C, ((ldA m488 (C.ptr m.nxt 0) 4) = (some [(Il x496), 
 c497, c498, c499])) ∧ ∀ m500 : M, (m500 = (M.new m488 (AO.cells 4 [(Il 0), 
 C.sl0, C.sl0, C.sl0] false))) → ∃ m501 : M, ((stC m500 (C.ptr m488.nxt 0) 4 [(Il x496), 
 c497, c498, c499]) = (some m501)) ∧ ∀ m502 : M, (m502 = (mGrow m501 1)) → 
 ∀ m503 : M, (m503 = (M.new m502 (AO.cells 0 [] false))) → isPt (C.ptr m.nxt 0) ∧ 
 ∃ c504 : C, ((ldC m503 (C.ptr m.nxt 3)) = (some c504)) ∧ (ifB (cmC c504) ((ldC m502 (C.ptr m.nxt 3)) = (some c504)) False) ∧ 
 ∃ c505 : C, ∃ m506 : M, (ApR prog 57 m503 (C.sl m502.nxt 0 0 0 (some 0)) c504 c505 m506) ∧ 
 ∃ n507 : Nat, (x458 = ((n507 : Nat) : Int)) ∧ (n507 < (slLen c42)) ∧ ∃ x508, 
 ((ldC m506 (slAt c42 (n507 * 1))) = (some (Il x508))) ∧ 
 ((ldC m503 (slAt c42 (n507 * 1))) = (some (Il x508))) ∧ 
 ((ldC m502 (slAt c42 (n507 * 1))) = (some (Il x508))) ∧ 
 ∀ m509 : M, (m509 = (M.set m506 (m501.nxt + 0) (AO.cells 4 [(Il ((wrapZ .i64 a200) % (((slLen c15) : Nat) : Int))), 
 (Il x508), (Il (x493 + ((wrapZ .i64 a400) % ((x494 - x495) + (1 : Int))))), 
 (Il (x493 + ((wrapZ .i64 a400) % ((x494 - x495) + (1 : Int)))))] false))) → 
 (ifB (cmC c504) ((ldC m509 (C.ptr m.nxt 3)) = (some c504)) False) ∧ 
 ∃ c510 : C, ∃ m511 : M, (ApR prog 57 m509 c505 (C.sl (m501.nxt + 0) 0 1 0 (some 1)) c510 m511) ∧ 
 isPt (C.ptr m488.nxt 0) ∧ ∃ m512 : M, ((stC m511 (C.ptr m488.nxt 3) 1 [c510]) = (some m512)) ∧ 
 ∃ x513, ∃ c514 : C, ∃ c515 : C, ∃ c516 : C, ((ldA m512 (C.ptr m488.nxt 0) 4) = (some [(Il x513), 
 c514, c515, c516])) ∧ Wc prog tbl 23 [(V.agg 4 [(Il x513), c514, 
 c515, c516])] m512 (fun v517 m518 => ∃ x519, ∃ c520 : C, ∃ c521 : C, 
 ∃ c522 : C, (v517 = (V.agg 4 [(Il x519), c520, c521, c522])) ∧ 
 Wc prog tbl 11 [(V.agg 4 [(Il x519), c520, c521, c522]), (V.c (Il ((wrapZ .i64 a200) % (((slLen c15) : Nat) : Int)))), 
 (V.c (Il ((wrapZ .i64 a300) % (101 : Int))))] m518 (fun v523 m524 => 
 ∃ x525, ∃ x526, (v523 = (V.tup [(U.c (Il x525)), 
 (U.c (Il x526))])) ∧ ifB (!decide (x526 = 0)) (ifB (!decide (x526 = 11)) (Q (V.c (C.bool false)) m524) (ifB (decide (x526 = 0)) (ifB (decide (x525 = 3)) (Q (V.c (C.bool false)) m524) (fitsP .i64 (x458 + 1) ∧ 
 R454 [(V.c (C.bool b455)), (V.c (C.bool b455)), (V.c (C.bool b455)), (V.c (Il (x458 + 1)))] m524)) (fitsP .i64 (x458 + 1) ∧ 
 R454 [(V.c (C.bool b455)), (V.c (C.bool b455)), (V.c (C.bool b455)), (V.c (Il (x458 + 1)))] m524))) (ifB (decide (x526 = 0)) (ifB (decide (x525 = 3)) (Q (V.c (C.bool false)) m524) (fitsP .i64 (x458 + 1) ∧ 
 R454 [(V.c (C.bool b455)), (V.c (C.bool b455)), (V.c (C.bool b455)), (V.c (Il (x458 + 1)))] m524)) (fitsP .i64 (x458 + 1) ∧ 
 R454 [(V.c (C.bool b455)), (V.c (C.bool b455)), (V.c (C.bool b455)), (V.c (Il (x458 + 1)))] m524)))))))))))) (∀ m527 : M, 
 (m527 = (mGrow m459 1)) → ∃ x528, ∃ c529 : C, ∃ c530 : C, ∃ c531 : C, 
 ((ldA m527 (C.ptr m.nxt 0) 4) = (some [(Il x528), c529, 
 c530, c531])) ∧ Wc prog tbl 23 [(V.agg 4 [(Il x528), c529, c530, 
 c531])] m527 (fun v532 m533 => ∃ x534, ∃ c535 : C, ∃ c536 : C, ∃ c537 : C, 
 (v532 = (V.agg 4 [(Il x534), c535, c536, c537])) ∧ ∃ n538 : Nat, 
 (x458 = ((n538 : Nat) : Int)) ∧ (n538 < (slLen c42)) ∧ ∃ x539, ((ldC m533 (slAt c42 (n538 * 1))) = (some (Il x539))) ∧ 
 ((ldC m527 (slAt c42 (n538 * 1))) = (some (Il x539))) ∧ 
 Wc prog tbl 9 [(V.agg 4 [(Il x534), c535, c536, c537]), (V.c (Il ((wrapZ .i64 a200) % (((slLen c15) : Nat) : Int)))), 
 (V.c (Il x539))] m533 (fun v540 m541 => ∃ x542, ∃ x543, 
 ∃ x544, (v540 = (V.tup [(U.agg 2 [(Il x542), (Il x543)]), 
 (U.c (Il x544))])) ∧ ∀ m545 : M, (m545 = (M.set m541 (m459.nxt + 0) (AO.cells 2 [(Il 0), 
 (Il 0)] false))) → ((ldC m545 (slAt c42 (n538 * 1))) = (some (Il x539))) ∧ 
 (ifB (allS cmC [(Il x528), c529, c530, c531]) ((ldA m545 (C.ptr m.nxt 0) 4) = (some [(Il x528), 
 c529, c530, c531])) False) ∧ ∃ m546 : M, ((stC m545 (C.ptr (m459.nxt + 0) 0) 2 [(Il x542), 
 (Il x543)]) = (some m546)) ∧ ifB (!decide (x544 = 0)) (Q (V.c (C.bool false)) m546) (isPt (C.ptr (m459.nxt + 0) 0) ∧ 
 ∃ x547, ((ldC m546 (C.ptr (m459.nxt + 0) 0)) = (some (Il x547))) ∧ 
 isPt (C.ptr (m459.nxt + 0) 0) ∧ ∃ x548, ((ldC m546 (C.ptr (m459.nxt + 0) 1)) = (some (Il x548))) ∧ 
 ifB (decide (x548 < x547)) (Q (V.c (C.bool false)) m546) (isPt (C.ptr (m459.nxt + 0) 0) ∧ 
 ∃ x549, ((ldC m546 (C.ptr (m459.nxt + 0) 0)) = (some (Il x549))) ∧ 
 ifB (decide (x549 < 0)) (Q (V.c (C.bool false)) m546) (isPt (C.ptr (m459.nxt + 0) 0) ∧ 
 ∃ x550, ((ldC m546 (C.ptr (m459.nxt + 0) 1)) = (some (Il x550))) ∧ 
 ifB (decide ((100 : Int) < x550)) (Q (V.c (C.bool false)) m546) (isPt (C.ptr (m459.nxt + 0) 0) ∧ 
 ∃ x551, ((ldC m546 (C.ptr (m459.nxt + 0) 0)) = (some (Il x551))) ∧ 
 isPt (C.ptr (m459.nxt + 0) 0) ∧ ∃ x552, ((ldC m546 (C.ptr (m459.nxt + 0) 1)) = (some (Il x552))) ∧ 
 isPt (C.ptr (m459.nxt + 0) 0) ∧ ∃ x553, ((ldC m546 (C.ptr (m459.nxt + 0) 0)) = (some (Il x553))) ∧ 
 fitsP .i64 (x552 - x553) ∧ fitsP .i64 ((x552 - x553) + (1 : Int)) ∧ 
 ((0 : Int) ≤ (wrapZ .i64 a400)) ∧ ((0 : Int) < ((x552 - x553) + (1 : Int))) ∧ 
 fitsP .i64 ((wrapZ .i64 a400) % ((x552 - x553) + (1 : Int))) ∧ 
 fitsP .i64 (x551 + ((wrapZ .i64 a400) % ((x552 - x553) + (1 : Int)))) ∧ 
 ∃ x554, ∃ c555 : C, ∃ c556 : C, ∃ c557 : C, ((ldA m546 (C.ptr m.nxt 0) 4) = (some [(Il x554), 
 c555, c556, c557])) ∧ ∀ m558 : M, (m558 = (M.new m546 (AO.cells 4 [(Il 0), 
 C.sl0, C.sl0, C.sl0] false))) → ∃ m559 : M, ((stC m558 (C.ptr m546.nxt 0) 4 [(Il x554), 
 c555, c556, c557]) = (some m559)) ∧ ∀ m560 : M, (m560 = (mGrow m559 1)) → 
 ∀ m561 : M, (m561 = (M.new m560 (AO.cells 0 [] false))) → isPt (C.ptr m.nxt 0) ∧ 
 ∃ c562 : C, ((ldC m561 (C.ptr m.nxt 3)) = (some c562)) ∧ (ifB (cmC c562) ((ldC m560 (C.ptr m.nxt 3)) = (some c562)) False) ∧ 
 ∃ c563 : C, ∃ m564 : M, (ApR prog 57 m561 (C.sl m560.nxt 0 0 0 (some 0)) c562 c563 m564) ∧ 
 ∃ n565 : Nat, (x458 = ((n565 : Nat) : Int)) ∧ (n565 < (slLen c42)) ∧ ∃ x566, 
 ((ldC m564 (slAt c42 (n565 * 1))) = (some (Il x566))) ∧ 
 ((ldC m561 (slAt c42 (n565 * 1))) = (some (Il x566))) ∧ 
 ((ldC m560 (slAt c42 (n565 * 1))) = (some (Il x566))) ∧ 
 ∀ m567 : M, (m567 = (M.set m564 (m559.nxt + 0) (AO.cells 4 [(Il ((wrapZ .i64 a200) % (((slLen c15) : Nat) : Int))), 
 (Il x566), (Il (x551 + ((wrapZ .i64 a400) % ((x552 - x553) + (1 : Int))))), 
 (Il (x551 + ((wrapZ .i64 a400) % ((x552 - x553) + (1 : Int)))))] false))) → 
 (ifB (cmC c562) ((ldC m567 (C.ptr m.nxt 3)) = (some c562)) False) ∧ 
 ∃ c568 : C, ∃ m569 : M, (ApR prog 57 m567 c563 (C.sl (m559.nxt + 0) 0 1 0 (some 1)) c568 m569) ∧ 
 isPt (C.ptr m546.nxt 0) ∧ ∃ m570 : M, ((stC m569 (C.ptr m546.nxt 3) 1 [c568]) = (some m570)) ∧ 
 ∃ x571, ∃ c572 : C, ∃ c573 : C, ∃ c574 : C, ((ldA m570 (C.ptr m546.nxt 0) 4) = (some [(Il x571), 
 c572, c573, c574])) ∧ Wc prog tbl 23 [(V.agg 4 [(Il x571), c572, 
 c573, c574])] m570 (fun v575 m576 => ∃ x577, ∃ c578 : C, ∃ c579 : C, 
 ∃ c580 : C, (v575 = (V.agg 4 [(Il x577), c578, c579, c580])) ∧ 
 Wc prog tbl 11 [(V.agg 4 [(Il x577), c578, c579, c580]), (V.c (Il ((wrapZ .i64 a200) % (((slLen c15) : Nat) : Int)))), 
 (V.c (Il ((wrapZ .i64 a300) % (101 : Int))))] m576 (fun v581 m582 => 
 ∃ x583, ∃ x584, (v581 = (V.tup [(U.c (Il x583)), 
 (U.c (Il x584))])) ∧ ifB (!decide (x584 = 0)) (ifB (!decide (x584 = 11)) (Q (V.c (C.bool false)) m582) (ifB (decide (x584 = 0)) (ifB (decide (x583 = 3)) (Q (V.c (C.bool false)) m582) (fitsP .i64 (x458 + 1) ∧ 
 R454 [(V.c (C.bool b455)), (V.c (C.bool b455)), (V.c (C.bool b455)), (V.c (Il (x458 + 1)))] m582)) (fitsP .i64 (x458 + 1) ∧ 
 R454 [(V.c (C.bool b455)), (V.c (C.bool b455)), (V.c (C.bool b455)), (V.c (Il (x458 + 1)))] m582))) (ifB (decide (x584 = 0)) (ifB (decide (x583 = 3)) (Q (V.c (C.bool false)) m582) (fitsP .i64 (x458 + 1) ∧ 
 R454 [(V.c (C.bool b455)), (V.c (C.bool b455)), (V.c (C.bool b455)), (V.c (Il (x458 + 1)))] m582)) (fitsP .i64 (x458 + 1) ∧ 
 R454 [(V.c (C.bool b455)), (V.c (C.bool b455)), (V.c (C.bool b455)), (V.c (Il (x458 + 1)))] m582)))))))))))))) (Wc prog tbl 21 [] m459 (fun v585 m586 => 
 ∃ b587 : Bool, (v585 = (V.c (C.bool b587))) ∧ Q (V.c (C.bool b587)) m586))) → 
 R454 [(V.c (C.bool b455)), (V.c (C.bool b456)), (V.c (C.bool b457)), (V.c (Il x458))] m459) → 
 R454 [(V.c (C.bool false)), (V.c (C.bool false)), (V.c (C.bool false)), (V.c (Il 0))] m41))))))))))))) : Wc prog tbl 5 [(V.agg 4 [(Il a100), a101, a102, a103]), (V.c (C.int .u8 a200)), (V.c (C.int .u8 a300)), (V.c (C.int .u8 a400))] m Q :=
 wc_eq (n := 4) rfl (by kernel_rfl) (by kernel_rfl) h
end
end Go.Proofs.Ytmlaphekbnanjaa

namespace Go.Proofs.Ytmlaphekbnanjaa
open _root_.Go.Proofs.Try
open Go.Abs
set_option maxRecDepth 100000
noncomputable section
theorem c113 {a100 : Int} {b0 : Nat} {m : M} {Q : V → M → Prop} (h :
 (∃ c0 : C, ((ldC m (C.ptr b0 0)) = (some c0)) ∧ callP prog tbl [(V.c (Il a100))] c0 m (fun v1 m2 => 
 ∃ b3 : Bool, (v1 = (V.c (C.bool b3))) ∧ Q (V.c (C.bool (!b3))) m2))) : Wc prog tbl 113 [.c (Il a100), .c (.ptr b0 0)] m Q :=
 wc_eq (n := 2) rfl (by kernel_rfl) (by kernel_rfl) h
theorem c105 {a100 : C} {b0 : Nat} {m : M} {Q : V → M → Prop} (h :
 (∃ c0 : C, ((ldC m (C.ptr b0 0)) = (some c0)) ∧ callP prog tbl [(V.c a100)] c0 m (fun v1 m2 => ∃ b3 : Bool, 
 (v1 = (V.c (C.bool b3))) ∧ Q (V.c (C.bool (!b3))) m2))) : Wc prog tbl 105 [.c (a100), .c (.ptr b0 0)] m Q :=
 wc_eq (n := 2) rfl (by kernel_rfl) (by kernel_rfl) h
theorem c92 {a100 : Int} {a101 : Int} {a102 : Int} {a103 : Int} {a104 : Int} {a105 : Int} {a106 : Int} {b0 : Nat} {m : M} {Q : V → M → Prop} (h :
 (∀ m0 : M, (m0 = (M.new m (AO.cells 7 [(Il a100), (Il a101), (Il a102), 
 (Il a103), (Il a104), (Il a105), (Il a106)] false))) → 
 ∃ c1 : C, ((ldC m0 (C.ptr b0 0)) = (some c1)) ∧ ∃ x2, ∃ x3, ∃ x4, ∃ x5, 
 ∃ x6, ∃ x7, ∃ x8, ((ldA m0 (C.ptr m.nxt 0) 7) = (some [(Il x2), 
 (Il x3), (Il x4), (Il x5), (Il x6), 
 (Il x7), (Il x8)])) ∧ callP prog tbl [(V.agg 7 [(Il x2), 
 (Il x3), (Il x4), (Il x5), (Il x6), 
 (Il x7), (Il x8)])] c1 m0 (fun v9 m10 => ∃ b11 : Bool, (v9 = (V.c (C.bool b11))) ∧ 
 Q (V.c (C.bool (!b11))) m10))) : Wc prog tbl 92 [.agg 7 [Il a100, Il a101, Il a102, Il a103, Il a104, Il a105, Il a106], .c (.ptr b0 0)] m Q :=
 wc_eq (n := 2) rfl (by kernel_rfl) (by kernel_rfl) h
theorem c103 {a100 : Int} {a101 : Int} {a102 : Int} {a103 : Int} {b0 : Nat} {m : M} {Q : V → M → Prop} (h :
 (∀ m0 : M, (m0 = (M.new m (AO.cells 4 [(Il a100), (Il a101), (Il a102), 
 (Il a103)] false))) → ∃ c1 : C, ((ldC m0 (C.ptr b0 0)) = (some c1)) ∧ ∃ x2, 
 ∃ x3, ∃ x4, ∃ x5, ((ldA m0 (C.ptr m.nxt 0) 4) = (some [(Il x2), 
 (Il x3), (Il x4), (Il x5)])) ∧ callP prog tbl [(V.agg 4 [(Il x2), 
 (Il x3), (Il x4), (Il x5)])] c1 m0 (fun v6 m7 => 
 ∃ b8 : Bool, (v6 = (V.c (C.bool b8))) ∧ Q (V.c (C.bool (!b8))) m7))) : Wc prog tbl 103 [.agg 4 [Il a100, Il a101, Il a102, Il a103], .c (.ptr b0 0)] m Q :=
 wc_eq (n := 2) rfl (by kernel_rfl) (by kernel_rfl) h
theorem c68 {a100 : Int} {a101 : Int} {a102 : Int} {a103 : Int} {a104 : Int} {a105 : Int} {a106 : Int} {a107 : Int} {a108 : Int} {a109 : Int} {a110 : Int} {a111 : Int} {a112 : Int} {b0 : Nat} {m : M} {Q : V → M → Prop} (h :
 (∀ m0 : M, (m0 = (M.new m (AO.cells 13 [(Il a100), (Il a101), (Il a102), 
 (Il a103), (Il a104), (Il a105), (Il a106), 
 (Il a107), (Il a108), (Il a109), (Il a110), 
 (Il a111), (Il a112)] false))) → ∃ c1 : C, ((ldC m0 (C.ptr b0 0)) = (some c1)) ∧ 
 ∃ x2, ∃ x3, ∃ x4, ∃ x5, ∃ x6, ∃ x7, ∃ x8, ∃ x9, 
 ∃ x10, ∃ x11, ∃ x12, ∃ x13, ∃ x14, ((ldA m0 (C.ptr m.nxt 0) 13) = (some [(Il x2), 
 (Il x3), (Il x4), (Il x5), (Il x6), 
 (Il x7), (Il x8), (Il x9), (Il x10), 
 (Il x11), (Il x12), (Il x13), (Il x14)])) ∧ 
 callP prog tbl [(V.agg 13 [(Il x2), (Il x3), (Il x4), 
 (Il x5), (Il x6), (Il x7), (Il x8), 
 (Il x9), (Il x10), (Il x11), (Il x12), 
 (Il x13), (Il x14)])] c1 m0 (fun v15 m16 => ∃ b17 : Bool, 
 (v15 = (V.c (C.bool b17))) ∧ Q (V.c (C.bool (!b17))) m16))) : Wc prog tbl 68 [.agg 13 [Il a100, Il a101, Il a102, Il a103, Il a104, Il a105, Il a106, Il a107, Il a108, Il a109, Il a110, Il a111, Il a112], .c (.ptr b0 0)] m Q :=
 wc_eq (n := 2) rfl (by kernel_rfl) (by kernel_rfl) h
theorem c82 {a100 : Int} {a101 : Int} {a102 : Int} {a103 : Int} {b0 : Nat} {b1 : Nat} {m : M} {Q : V → M → Prop} (h :
 (∀ m0 : M, (m0 = (M.new m (AO.cells 4 [(Il a100), (Il a101), (Il a102), 
 (Il a103)] false))) → isPt (C.ptr m.nxt 0) ∧ ∃ x1, ((ldC m0 (C.ptr m.nxt 0)) = (some (Il x1))) ∧ 
 ∃ x2, ((ldC m0 (C.ptr b0 0)) = (some (Il x2))) ∧ ifB (!decide (x1 = x2)) (Q (V.c (C.bool true)) m0) (isPt (C.ptr m.nxt 0) ∧ 
 ∃ x3, ∃ x4, ((ldA m0 (C.ptr m.nxt 2) 2) = (some [(Il x3), (Il x4)])) ∧ 
 ∃ x5, ∃ x6, ∃ x7, ∃ x8, ∃ x9, ∃ x10, ∃ x11, ∃ x12, 
 ∃ x13, ∃ x14, ∃ x15, ∃ x16, ∃ x17, ∃ x18, ∃ x19, 
 ∃ x20, ((ldA m0 (C.ptr b1 0) 16) = (some [(Il x5), 
 (Il x6), (Il x7), (Il x8), (Il x9), 
 (Il x10), (Il x11), (Il x12), (Il x13), 
 (Il x14), (Il x15), (Il x16), (Il x17), 
 (Il x18), (Il x19), (Il x20)])) ∧ 
 isPt (C.ptr m.nxt 0) ∧ ∃ x21, ((ldC m0 (C.ptr m.nxt 1)) = (some (Il x21))) ∧ 
 Wc prog tbl 32 [(V.agg 16 [(Il x5), (Il x6), (Il x7), 
 (Il x8), (Il x9), (Il x10), (Il x11), 
 (Il x12), (Il x13), (Il x14), (Il x15), 
 (Il x16), (Il x17), (Il x18), (Il x19), 
 (Il x20)]), (V.c (Il x21))] m0 (fun v22 m23 => 
 ∃ x24, (v22 = (V.c (Il x24))) ∧ ((ldA m23 (C.ptr m.nxt 2) 2) = (some [(Il x3), 
 (Il x4)])) ∧ Wc prog tbl 65 [(V.agg 2 [(Il x3), 
 (Il x4)]), (V.c (Il x24))] m23 (fun v25 m26 => 
 ∃ b27 : Bool, (v25 = (V.c (C.bool b27))) ∧ Q (V.c (C.bool b27)) m26))))) : Wc prog tbl 82 [.agg 4 [Il a100, Il a101, Il a102, Il a103], .c (.ptr b0 0), .c (.ptr b1 0)] m Q :=
 wc_eq (n := 3) rfl (by kernel_rfl) (by kernel_rfl) h
theorem c100 {a100 : C} {b0 : Nat} {m : M} {Q : V → M → Prop} (h :
 (∃ x0, ∃ x1, ((ldA m (C.ptr b0 0) 2) = (some [(Il x0), (Il x1)])) ∧ 
 Wc prog tbl 93 [(V.agg 2 [(Il x0), (Il x1)])] m (fun v2 m3 => ∃ x4, 
 (v2 = (V.c (Il x4))) ∧ ∀ R5 : List V → M → Prop, (∀ x6 : Int, ∀ m7 : M, (ifB (decide (x6 < x4)) (isPt (C.ptr b0 0) ∧ 
 ∃ x8, ((ldC m7 (C.ptr b0 0)) = (some (Il x8))) ∧ fitsP .i64 (x8 + x6) ∧ 
 callP prog tbl [(V.c (Il (x8 + x6)))] a100 m7 (fun v9 m10 => ∃ b11 : Bool, 
 (v9 = (V.c (C.bool b11))) ∧ ifB (!b11) (Q (V.tup []) m10) (fitsP .i64 (x6 + 1) ∧ 
 R5 [(V.c (Il (x6 + 1)))] m10))) (Q (V.tup []) m7)) → 
 R5 [(V.c (Il x6))] m7) → R5 [(V.c (Il 0))] m3))) : Wc prog tbl 100 [.c (a100), .c (.ptr b0 0)] m Q :=
 wc_eq (n := 2) rfl (by kernel_rfl) (by kernel_rfl) h
theorem c97 {a100 : C} {b0 : Nat} {b1 : Nat} {m : M} {Q : V → M → Prop} (h :
 (∀ m0 : M, (m0 = (M.new m (AO.cells 1 [a100] false))) → isPt (C.ptr b0 0) ∧ ∃ x1, ∃ x2, ((ldA m0 (C.ptr b0 1) 2) = (some [(Il x1), 
 (Il x2)])) ∧ Wc prog tbl 76 [(V.agg 2 [(Il x1), (Il x2)])] m0 (fun v3 m4 => 
 ∃ c5 : C, (v3 = (V.c c5)) ∧ rangeP prog tbl c5 m4 (fun l6 m7 R8 R9 => ∃ x10, (l6 = [(V.c (Il x10))]) ∧ 
 ∀ m11 : M, (m11 = (M.new m7 (AO.cells 1 [(Il 0)] false))) → ∃ m12 : M, 
 ((stC m11 (C.ptr m7.nxt 0) 1 [(Il x10)]) = (some m12)) ∧ R8 m12 (fun m13 => 
 isPt (C.ptr b0 0) ∧ ∃ x14, ∃ x15, ((ldA m13 (C.ptr b0 3) 2) = (some [(Il x14), 
 (Il x15)])) ∧ Wc prog tbl 76 [(V.agg 2 [(Il x14), 
 (Il x15)])] m13 (fun v16 m17 => ∃ c18 : C, (v16 = (V.c c18)) ∧ 
 rangeP prog tbl c18 m17 (fun l19 m20 R21 R22 => ∃ x23, (l19 = [(V.c (Il x23))]) ∧ 
 ∀ m24 : M, (m24 = (M.new m20 (AO.cells 1 [(Il 0)] false))) → 
 ∃ m25 : M, ((stC m24 (C.ptr m20.nxt 0) 1 [(Il x23)]) = (some m25)) ∧ 
 R21 m25 (fun m26 => ∀ m27 : M, (m27 = (mGrow m26 1)) → isPt (C.ptr b1 0) ∧ 
 ∃ c28 : C, ((ldC m27 (C.ptr b1 4)) = (some c28)) ∧ ∃ x29, ∃ x30, 
 ∃ x31, ∃ x32, ∃ x33, ∃ x34, ∃ x35, ((ldA m27 (C.ptr b0 0) 7) = (some [(Il x29), 
 (Il x30), (Il x31), (Il x32), (Il x33), 
 (Il x34), (Il x35)])) ∧ ∃ x36, ((ldC m27 (C.ptr m7.nxt 0)) = (some (Il x36))) ∧ 
 ∃ x37, ((ldC m27 (C.ptr m20.nxt 0)) = (some (Il x37))) ∧ 
 Wc prog tbl 77 [(V.agg 7 [(Il x29), (Il x30), 
 (Il x31), (Il x32), (Il x33), (Il x34), 
 (Il x35)]), (V.c (Il x36)), (V.c (Il x37))] m27 (fun v38 m39 => 
 ∃ x40, ∃ x41, ∃ x42, ∃ x43, (v38 = (V.agg 4 [(Il x40), 
 (Il x41), (Il x42), (Il x43)])) ∧ 
 (ifB (cmC c28) ((ldC m39 (C.ptr b1 4)) = (some c28)) False) ∧ ∃ y44 : Option U, 
 ((lkM prog 138 m39 c28 (V.agg 4 [(Il x40), (Il x41), 
 (Il x42), (Il x43)])) = (some y44)) ∧ ((y44 = Option.none) → 
 ∀ m45 : M, (m45 = (M.set m39 (m26.nxt + 0) (AO.cells 13 [(Il 0), 
 (Il 0), (Il 0), (Il 0), 
 (Il 0), (Il 0), (Il 0), 
 (Il 0), (Il 0), (Il 0), 
 (Il 0), (Il 0), (Il 0)] false))) → 
 (∃ y46 : Option U, ((lkM prog 138 m45 c28 (V.agg 4 [(Il x40), 
 (Il x41), (Il x42), (Il x43)])) = (some y46)) ∧ 
 (optB y46 ((some (V.agg 13 [(Il 0), (Il 0), 
 (Il 0), (Il 0), (Il 0), 
 (Il 0), (Il 0), (Il 0), 
 (Il 0), (Il 0), (Il 0), 
 (Il 0), (Il 0)])) = (some (V.agg 13 [(Il 0), 
 (Il 0), (Il 0), (Il 0), 
 (Il 0), (Il 0), (Il 0), 
 (Il 0), (Il 0), (Il 0), 
 (Il 0), (Il 0), (Il 0)]))) fun u47 => 
 (some (uV u47)) = (some (V.agg 13 [(Il 0), 
 (Il 0), (Il 0), (Il 0), 
 (Il 0), (Il 0), (Il 0), 
 (Il 0), (Il 0), (Il 0), 
 (Il 0), (Il 0), (Il 0)]))) ∧ 
 true = true) ∧ ((ldC m45 (C.ptr m20.nxt 0)) = (some (Il x37))) ∧ 
 ((ldC m45 (C.ptr m7.nxt 0)) = (some (Il x36))) ∧ ((ldA m45 (C.ptr b0 0) 7) = (some [(Il x29), 
 (Il x30), (Il x31), (Il x32), (Il x33), 
 (Il x34), (Il x35)])) ∧ (ifB (cmC c28) ((ldC m45 (C.ptr b1 4)) = (some c28)) False) ∧ 
 ∃ m48 : M, ((stC m45 (C.ptr (m26.nxt + 0) 0) 13 [(Il 0), 
 (Il 0), (Il 0), (Il 0), 
 (Il 0), (Il 0), (Il 0), 
 (Il 0), (Il 0), (Il 0), 
 (Il 0), (Il 0), (Il 0)]) = (some m48)) ∧ 
 isPt (C.ptr b0 0) ∧ ∃ x49, ∃ x50, ((ldA m48 (C.ptr b0 5) 2) = (some [(Il x49), 
 (Il x50)])) ∧ Wc prog tbl 76 [(V.agg 2 [(Il x49), 
 (Il x50)])] m48 (fun v51 m52 => ∃ c53 : C, (v51 = (V.c c53)) ∧ 
 rangeP prog tbl c53 m52 (fun l54 m55 R56 R57 => ∃ x58, (l54 = [(V.c (Il x58))]) ∧ 
 R56 m55 (fun m59 => ∃ c60 : C, ((ldC m59 (C.ptr m.nxt 0)) = (some c60)) ∧ 
 ∃ x61, ((ldC m59 (C.ptr m7.nxt 0)) = (some (Il x61))) ∧ 
 ∃ x62, ((ldC m59 (C.ptr m20.nxt 0)) = (some (Il x62))) ∧ 
 ∃ x63, ∃ x64, ∃ x65, ∃ x66, ∃ x67, ∃ x68, 
 ∃ x69, ∃ x70, ∃ x71, ∃ x72, ∃ x73, ∃ x74, 
 ∃ x75, ((ldA m59 (C.ptr (m26.nxt + 0) 0) 13) = (some [(Il x63), 
 (Il x64), (Il x65), (Il x66), (Il x67), 
 (Il x68), (Il x69), (Il x70), (Il x71), 
 (Il x72), (Il x73), (Il x74), (Il x75)])) ∧ 
 callP prog tbl [(V.agg 16 [(Il x61), (Il x62), 
 (Il x58), (Il x63), (Il x64), (Il x65), 
 (Il x66), (Il x67), (Il x68), (Il x69), 
 (Il x70), (Il x71), (Il x72), (Il x73), 
 (Il x74), (Il x75)])] c60 m59 (fun v76 m77 => ∃ b78 : Bool, 
 (v76 = (V.c (C.bool b78))) ∧ ifB (!b78) (R57 Ex.ret m77) (R57 Ex.nrm m77)))) (After.mk (fun m79 => 
 R22 Ex.nrm m79) [] (fun m80 => R22 Ex.ret m80)))) ∧ ∀ u81 : U, 
 (y44 = (some u81)) → ∃ x82, ∃ x83, ∃ x84, ∃ x85, 
 ∃ x86, ∃ x87, ∃ x88, ∃ x89, ∃ x90, ∃ x91, 
 ∃ x92, ∃ x93, ∃ x94, (u81 = (U.agg 13 [(Il x82), 
 (Il x83), (Il x84), (Il x85), (Il x86), 
 (Il x87), (Il x88), (Il x89), (Il x90), 
 (Il x91), (Il x92), (Il x93), (Il x94)])) ∧ 
 ∀ m95 : M, (m95 = (M.set m39 (m26.nxt + 0) (AO.cells 13 [(Il 0), 
 (Il 0), (Il 0), (Il 0), 
 (Il 0), (Il 0), (Il 0), 
 (Il 0), (Il 0), (Il 0), 
 (Il 0), (Il 0), (Il 0)] false))) → 
 (∃ y96 : Option U, ((lkM prog 138 m95 c28 (V.agg 4 [(Il x40), 
 (Il x41), (Il x42), (Il x43)])) = (some y96)) ∧ 
 (optB y96 ((some (V.agg 13 [(Il 0), (Il 0), 
 (Il 0), (Il 0), (Il 0), 
 (Il 0), (Il 0), (Il 0), 
 (Il 0), (Il 0), (Il 0), 
 (Il 0), (Il 0)])) = (some (V.agg 13 [(Il x82), 
 (Il x83), (Il x84), (Il x85), (Il x86), 
 (Il x87), (Il x88), (Il x89), (Il x90), 
 (Il x91), (Il x92), (Il x93), (Il x94)]))) fun u97 => 
 (some (uV u97)) = (some (V.agg 13 [(Il x82), (Il x83), 
 (Il x84), (Il x85), (Il x86), (Il x87), 
 (Il x88), (Il x89), (Il x90), (Il x91), 
 (Il x92), (Il x93), (Il x94)]))) ∧ 
 true = true) ∧ ((ldC m95 (C.ptr m20.nxt 0)) = (some (Il x37))) ∧ 
 ((ldC m95 (C.ptr m7.nxt 0)) = (some (Il x36))) ∧ ((ldA m95 (C.ptr b0 0) 7) = (some [(Il x29), 
 (Il x30), (Il x31), (Il x32), (Il x33), 
 (Il x34), (Il x35)])) ∧ (ifB (cmC c28) ((ldC m95 (C.ptr b1 4)) = (some c28)) False) ∧ 
 ∃ m98 : M, ((stC m95 (C.ptr (m26.nxt + 0) 0) 13 [(Il x82), 
 (Il x83), (Il x84), (Il x85), (Il x86), 
 (Il x87), (Il x88), (Il x89), (Il x90), 
 (Il x91), (Il x92), (Il x93), (Il x94)]) = (some m98)) ∧ 
 isPt (C.ptr b0 0) ∧ ∃ x99, ∃ x100, ((ldA m98 (C.ptr b0 5) 2) = (some [(Il x99), 
 (Il x100)])) ∧ Wc prog tbl 76 [(V.agg 2 [(Il x99), 
 (Il x100)])] m98 (fun v101 m102 => ∃ c103 : C, (v101 = (V.c c103)) ∧ 
 rangeP prog tbl c103 m102 (fun l104 m105 R106 R107 => ∃ x108, (l104 = [(V.c (Il x108))]) ∧ 
 R106 m105 (fun m109 => ∃ c110 : C, ((ldC m109 (C.ptr m.nxt 0)) = (some c110)) ∧ 
 ∃ x111, ((ldC m109 (C.ptr m7.nxt 0)) = (some (Il x111))) ∧ 
 ∃ x112, ((ldC m109 (C.ptr m20.nxt 0)) = (some (Il x112))) ∧ 
 ∃ x113, ∃ x114, ∃ x115, ∃ x116, ∃ x117, ∃ x118, 
 ∃ x119, ∃ x120, ∃ x121, ∃ x122, ∃ x123, ∃ x124, 
 ∃ x125, ((ldA m109 (C.ptr (m26.nxt + 0) 0) 13) = (some [(Il x113), 
 (Il x114), (Il x115), (Il x116), 
 (Il x117), (Il x118), (Il x119), 
 (Il x120), (Il x121), (Il x122), 
 (Il x123), (Il x124), (Il x125)])) ∧ 
 callP prog tbl [(V.agg 16 [(Il x111), (Il x112), 
 (Il x108), (Il x113), (Il x114), 
 (Il x115), (Il x116), (Il x117), 
 (Il x118), (Il x119), (Il x120), 
 (Il x121), (Il x122), (Il x123), 
 (Il x124), (Il x125)])] c110 m109 (fun v126 m127 => 
 ∃ b128 : Bool, (v126 = (V.c (C.bool b128))) ∧ ifB (!b128) (R107 Ex.ret m127) (R107 Ex.nrm m127)))) (After.mk (fun m129 => 
 R22 Ex.nrm m129) [] (fun m130 => R22 Ex.ret m130)))))) (After.mk (fun m131 => 
 R9 Ex.nrm m131) [] (fun m132 => R9 Ex.ret m132))))) (After.mk (fun m133 => 
 Q (V.tup []) m133) [] (fun m134 => Q (V.tup []) m134))))) : Wc prog tbl 97 [.c (a100), .c (.ptr b0 0), .c (.ptr b1 0)] m Q :=
 wc_eq (n := 3) rfl (by kernel_rfl) (by kernel_rfl) h
theorem c71 {a100 : C} {b0 : Nat} {b1 : Nat} {m : M} {Q : V → M → Prop} (h :
 (∀ m0 : M, (m0 = (M.new m (AO.cells 1 [a100] false))) → ∃ x1, ∃ c2 : C, ∃ c3 : C, ∃ c4 : C, ∃ c5 : C, 
 ((ldA m0 (C.ptr b0 0) 5) = (some [(Il x1), c2, c3, c4, c5])) ∧ isPt (C.ptr b0 0) ∧ 
 isPt (C.ptr b0 0) ∧ ∃ c6 : C, ((ldC m0 (C.ptr b0 2)) = (some c6)) ∧ ∃ x7, ((ldC m0 (C.ptr b1 0)) = (some (Il x7))) ∧ 
 ∃ n8 : Nat, (x7 = ((n8 : Nat) : Int)) ∧ (n8 < (slLen c6)) ∧ ∃ x9, ∃ x10, ∃ x11, 
 ∃ x12, ∃ x13, ∃ x14, ∃ x15, ((ldA m0 (slAt c6 (n8 * 7)) 7) = (some [(Il x9), 
 (Il x10), (Il x11), (Il x12), (Il x13), 
 (Il x14), (Il x15)])) ∧ Wc prog tbl 72 [(V.agg 5 [(Il x1), 
 c2, c3, c4, c5]), (V.agg 7 [(Il x9), (Il x10), (Il x11), 
 (Il x12), (Il x13), (Il x14), (Il x15)])] m0 (fun v16 m17 => 
 ∃ c18 : C, (v16 = (V.c c18)) ∧ rangeP prog tbl c18 m17 (fun l19 m20 R21 R22 => 
 ∃ x23, ∃ x24, ∃ x25, ∃ x26, ∃ x27, ∃ x28, 
 ∃ x29, ∃ x30, ∃ x31, ∃ x32, ∃ x33, ∃ x34, 
 ∃ x35, ∃ x36, ∃ x37, ∃ x38, (l19 = [(V.agg 16 [(Il x23), 
 (Il x24), (Il x25), (Il x26), (Il x27), 
 (Il x28), (Il x29), (Il x30), (Il x31), 
 (Il x32), (Il x33), (Il x34), (Il x35), 
 (Il x36), (Il x37), (Il x38)])]) ∧ 
 ∀ m39 : M, (m39 = (M.new m20 (AO.cells 16 [(Il 0), (Il 0), 
 (Il 0), (Il 0), (Il 0), 
 (Il 0), (Il 0), (Il 0), 
 (Il 0), (Il 0), (Il 0), 
 (Il 0), (Il 0), (Il 0), 
 (Il 0), (Il 0)] false))) → ∃ m40 : M, 
 ((stC m39 (C.ptr m20.nxt 0) 16 [(Il x23), (Il x24), 
 (Il x25), (Il x26), (Il x27), (Il x28), 
 (Il x29), (Il x30), (Il x31), (Il x32), 
 (Il x33), (Il x34), (Il x35), (Il x36), 
 (Il x37), (Il x38)]) = (some m40)) ∧ R21 m40 (fun m41 => 
 isPt (C.ptr b0 0) ∧ ∃ x42, ∃ c43 : C, ∃ c44 : C, ∃ c45 : C, ((ldA m41 (C.ptr b0 0) 4) = (some [(Il x42), 
 c43, c44, c45])) ∧ ∃ x46, ((ldC m41 (C.ptr b1 0)) = (some (Il x46))) ∧ 
 ∃ x47, ∃ x48, ∃ x49, ∃ x50, ∃ x51, ∃ x52, 
 ∃ x53, ∃ x54, ∃ x55, ∃ x56, ∃ x57, ∃ x58, 
 ∃ x59, ∃ x60, ∃ x61, ∃ x62, ((ldA m41 (C.ptr m20.nxt 0) 16) = (some [(Il x47), 
 (Il x48), (Il x49), (Il x50), (Il x51), 
 (Il x52), (Il x53), (Il x54), (Il x55), 
 (Il x56), (Il x57), (Il x58), (Il x59), 
 (Il x60), (Il x61), (Il x62)])) ∧ 
 Wc prog tbl 49 [(V.agg 4 [(Il x42), c43, c44, c45]), (V.c (Il x46)), 
 (V.agg 16 [(Il x47), (Il x48), (Il x49), 
 (Il x50), (Il x51), (Il x52), (Il x53), 
 (Il x54), (Il x55), (Il x56), (Il x57), 
 (Il x58), (Il x59), (Il x60), (Il x61), 
 (Il x62)])] m41 (fun v63 m64 => ∃ b65 : Bool, (v63 = (V.c (C.bool b65))) ∧ 
 ifB b65 (∃ c66 : C, ((ldC m64 (C.ptr m.nxt 0)) = (some c66)) ∧ ∃ x67, 
 ∃ x68, ∃ x69, ∃ x70, ∃ x71, ∃ x72, ∃ x73, 
 ∃ x74, ∃ x75, ∃ x76, ∃ x77, ∃ x78, ∃ x79, 
 ∃ x80, ∃ x81, ∃ x82, ((ldA m64 (C.ptr m20.nxt 0) 16) = (some [(Il x67), 
 (Il x68), (Il x69), (Il x70), (Il x71), 
 (Il x72), (Il x73), (Il x74), (Il x75), 
 (Il x76), (Il x77), (Il x78), (Il x79), 
 (Il x80), (Il x81), (Il x82)])) ∧ 
 callP prog tbl [(V.agg 16 [(Il x67), (Il x68), 
 (Il x69), (Il x70), (Il x71), (Il x72), 
 (Il x73), (Il x74), (Il x75), (Il x76), 
 (Il x77), (Il x78), (Il x79), (Il x80), 
 (Il x81), (Il x82)])] c66 m64 (fun v83 m84 => ∃ b85 : Bool, 
 (v83 = (V.c (C.bool b85))) ∧ ifB (!b85) (R22 Ex.ret m84) (R22 Ex.nrm m84))) (R22 Ex.nrm m64)))) (After.mk (fun m86 => 
 Q (V.tup []) m86) [] (fun m87 => Q (V.tup []) m87))))) : Wc prog tbl 71 [.c (a100), .c (.ptr b0 0), .c (.ptr b1 0)] m Q :=
 wc_eq (n := 3) rfl (by kernel_rfl) (by kernel_rfl) h
theorem c31 {a100 : Int} {a101 : Int} {a102 : Int} {a103 : Int} {a104 : Int} {a105 : Int} {a106 : Int} {a107 : Int} {a108 : Int} {a109 : Int} {a110 : Int} {a111 : Int} {a112 : Int} {a113 : Int} {a114 : Int} {a115 : Int} {b0 : Nat} {m : M} {Q : V → M → Prop} (h :
 (∀ m0 : M, (m0 = (M.new m (AO.cells 16 [(Il a100), (Il a101), (Il a102), 
 (Il a103), (Il a104), (Il a105), (Il a106), 
 (Il a107), (Il a108), (Il a109), (Il a110), 
 (Il a111), (Il a112), (Il a113), (Il a114), 
 (Il a115)] false))) → ∃ x1, ∃ x2, ∃ x3, ∃ x4, ∃ x5, 
 ∃ x6, ∃ x7, ∃ x8, ∃ x9, ∃ x10, ∃ x11, ∃ x12, ∃ x13, 
 ∃ x14, ∃ x15, ∃ x16, ((ldA m0 (C.ptr m.nxt 0) 16) = (some [(Il x1), 
 (Il x2), (Il x3), (Il x4), (Il x5), 
 (Il x6), (Il x7), (Il x8), (Il x9), 
 (Il x10), (Il x11), (Il x12), (Il x13), 
 (Il x14), (Il x15), (Il x16)])) ∧ ∃ x17, 
 ((ldC m0 (C.ptr b0 0)) = (some (Il x17))) ∧ Wc prog tbl 32 [(V.agg 16 [(Il x1), 
 (Il x2), (Il x3), (Il x4), (Il x5), 
 (Il x6), (Il x7), (Il x8), (Il x9), 
 (Il x10), (Il x11), (Il x12), (Il x13), 
 (Il x14), (Il x15), (Il x16)]), (V.c (Il x17))] m0 (fun v18 m19 => 
 ∃ x20, (v18 = (V.c (Il x20))) ∧ Q (V.c (Il x20)) m19))) : Wc prog tbl 31 [.agg 16 [Il a100, Il a101, Il a102, Il a103, Il a104, Il a105, Il a106, Il a107, Il a108, Il a109, Il a110, Il a111, Il a112, Il a113, Il a114, Il a115], .c (.ptr b0 0)] m Q :=
 wc_eq (n := 2) rfl (by kernel_rfl) (by kernel_rfl) h
theorem c35 {a100 : Int} {a101 : Int} {a102 : Int} {a103 : Int} {a104 : Int} {a105 : Int} {a106 : Int} {a107 : Int} {a108 : Int} {a109 : Int} {a110 : Int} {a111 : Int} {a112 : Int} {b0 : Nat} {m : M} {Q : V → M → Prop} (h :
 (∀ m0 : M, (m0 = (M.new m (AO.cells 13 [(Il a100), (Il a101), (Il a102), 
 (Il a103), (Il a104), (Il a105), (Il a106), 
 (Il a107), (Il a108), (Il a109), (Il a110), 
 (Il a111), (Il a112)] false))) → ∃ x1, ∃ x2, ∃ x3, 
 ∃ x4, ∃ x5, ∃ x6, ∃ x7, ∃ x8, ∃ x9, ∃ x10, ∃ x11, 
 ∃ x12, ∃ x13, ((ldA m0 (C.ptr m.nxt 0) 13) = (some [(Il x1), 
 (Il x2), (Il x3), (Il x4), (Il x5), 
 (Il x6), (Il x7), (Il x8), (Il x9), 
 (Il x10), (Il x11), (Il x12), (Il x13)])) ∧ 
 Wc prog tbl 36 [(V.agg 13 [(Il x1), (Il x2), (Il x3), 
 (Il x4), (Il x5), (Il x6), (Il x7), 
 (Il x8), (Il x9), (Il x10), (Il x11), 
 (Il x12), (Il x13)])] m0 (fun v14 m15 => ∃ x16, (v14 = (V.c (Il x16))) ∧ 
 ∃ x17, ((ldC m15 (C.ptr b0 0)) = (some (Il x17))) ∧ ((ldC m0 (C.ptr b0 0)) = (some (Il x17))) ∧ 
 Q (V.c (C.bool (decide (x17 < x16)))) m15))) : Wc prog tbl 35 [.agg 13 [Il a100, Il a101, Il a102, Il a103, Il a104, Il a105, Il a106, Il a107, Il a108, Il a109, Il a110, Il a111, Il a112], .c (.ptr b0 0)] m Q :=
 wc_eq (n := 2) rfl (by kernel_rfl) (by kernel_rfl) h
end
end Go.Proofs.Ytmlaphekbnanjaa

namespace Go.Proofs.Ytmlaphekbnanjaa
open _root_.Go.Proofs.Try
open Go.Abs
set_option maxRecDepth 100000
noncomputable section
theorem w23 {a100 : Int} {a101 : C} {a102 : C} {a103 : C} {m : M} {Q : V → M → Prop} (h :
 (∀ m0 : M, (m0 = (M.new m (AO.cells 4 [(Il a100), a101, a102, a103] false))) → ∀ m1 : M, (m1 = (M.new m0 (AO.cells 4 [(Il 0), 
 C.sl0, C.sl0, C.sl0] false))) → isPt (C.ptr m.nxt 0) ∧ ∃ x2, ((ldC m1 (C.ptr m.nxt 0)) = (some (Il x2))) ∧ 
 ∀ m3 : M, (m3 = (M.new m1 (AO.cells 4 [(Il 0), C.sl0, C.sl0, C.sl0] false))) → 
 ∃ m4 : M, ((stC m3 (C.ptr m1.nxt 0) 4 [(Il x2), C.sl0, C.sl0, C.sl0]) = (some m4)) ∧ 
 ∀ R5 : List V → M → Prop, (∀ x6 : Int, ∀ m7 : M, (isPt (C.ptr m.nxt 0) ∧ ∃ c8 : C, ((ldC m7 (C.ptr m.nxt 1)) = (some c8)) ∧ 
 isSl c8 ∧ ifB (decide (x6 < (((slLen c8) : Nat) : Int))) (isPt (C.ptr m1.nxt 0) ∧ ∃ c9 : C, 
 ((ldC m7 (C.ptr m1.nxt 1)) = (some c9)) ∧ isPt (C.ptr m.nxt 0) ∧ ∃ c10 : C, 
 ((ldC m7 (C.ptr m.nxt 1)) = (some c10)) ∧ ∃ n11 : Nat, (x6 = ((n11 : Nat) : Int)) ∧ 
 (n11 < (slLen c10)) ∧ ∃ c12 : C, ((ldC m7 (slAt c10 (n11 * 1))) = (some c12)) ∧ 
 Wc prog tbl 61 [(V.c c12)] m7 (fun v13 m14 => ∃ c15 : C, (v13 = (V.c c15)) ∧ 
 (ifB (cmC c9) ((ldC m14 (C.ptr m1.nxt 1)) = (some c9)) False) ∧ ∀ m16 : M, 
 (m16 = (M.new m14 (AO.cells 1 [c15] false))) → (ifB (cmC c9) ((ldC m16 (C.ptr m1.nxt 1)) = (some c9)) False) ∧ 
 ∃ c17 : C, ∃ m18 : M, (ApR prog 27 m16 c9 (C.sl m14.nxt 0 1 0 (some 1)) c17 m18) ∧ 
 isPt (C.ptr m1.nxt 0) ∧ ∃ m19 : M, ((stC m18 (C.ptr m1.nxt 1) 1 [c17]) = (some m19)) ∧ 
 fitsP .i64 (x6 + 1) ∧ R5 [(V.c (Il (x6 + 1)))] m19)) (∀ R20 : List V → 
 M → Prop, (∀ x21 : Int, ∀ m22 : M, (isPt (C.ptr m.nxt 0) ∧ ∃ c23 : C, ((ldC m22 (C.ptr m.nxt 2)) = (some c23)) ∧ 
 isSl c23 ∧ ifB (decide (x21 < (((slLen c23) : Nat) : Int))) (isPt (C.ptr m.nxt 0) ∧ 
 ∃ c24 : C, ((ldC m22 (C.ptr m.nxt 2)) = (some c24)) ∧ ∃ n25 : Nat, 
 (x21 = ((n25 : Nat) : Int)) ∧ (n25 < (slLen c24)) ∧ ∃ x26, ∃ x27, 
 ∃ x28, ∃ x29, ∃ x30, ∃ x31, ∃ x32, ((ldA m22 (slAt c24 (n25 * 7)) 7) = (some [(Il x26), 
 (Il x27), (Il x28), (Il x29), (Il x30), 
 (Il x31), (Il x32)])) ∧ ∀ m33 : M, (m33 = (M.new m22 (AO.cells 7 [(Il 0), 
 (Il 0), (Il 0), (Il 0), 
 (Il 0), (Il 0), (Il 0)] false))) → 
 ∃ m34 : M, ((stC m33 (C.ptr m22.nxt 0) 7 [(Il x26), (Il x27), 
 (Il x28), (Il x29), (Il x30), (Il x31), 
 (Il x32)]) = (some m34)) ∧ isPt (C.ptr m1.nxt 0) ∧ ∃ c35 : C, 
 ((ldC m34 (C.ptr m1.nxt 2)) = (some c35)) ∧ isPt (C.ptr m22.nxt 0) ∧ 
 ∃ x36, ((ldC m34 (C.ptr m22.nxt 0)) = (some (Il x36))) ∧ 
 isPt (C.ptr m22.nxt 0) ∧ ∃ x37, ∃ x38, ((ldA m34 (C.ptr m22.nxt 1) 2) = (some [(Il x37), 
 (Il x38)])) ∧ Wc prog tbl 62 [(V.agg 2 [(Il x37), 
 (Il x38)])] m34 (fun v39 m40 => ∃ x41, ∃ x42, (v39 = (V.agg 2 [(Il x41), 
 (Il x42)])) ∧ ((ldC m40 (C.ptr m22.nxt 0)) = (some (Il x36))) ∧ 
 (ifB (cmC c35) ((ldC m40 (C.ptr m1.nxt 2)) = (some c35)) False) ∧ isPt (C.ptr m22.nxt 0) ∧ 
 ∃ x43, ∃ x44, ((ldA m40 (C.ptr m22.nxt 3) 2) = (some [(Il x43), 
 (Il x44)])) ∧ ((ldA m34 (C.ptr m22.nxt 3) 2) = (some [(Il x43), 
 (Il x44)])) ∧ Wc prog tbl 62 [(V.agg 2 [(Il x43), 
 (Il x44)])] m40 (fun v45 m46 => ∃ x47, ∃ x48, (v45 = (V.agg 2 [(Il x47), 
 (Il x48)])) ∧ ((ldC m46 (C.ptr m22.nxt 0)) = (some (Il x36))) ∧ 
 (ifB (cmC c35) ((ldC m46 (C.ptr m1.nxt 2)) = (some c35)) False) ∧ isPt (C.ptr m22.nxt 0) ∧ 
 ∃ x49, ∃ x50, ((ldA m46 (C.ptr m22.nxt 5) 2) = (some [(Il x49), 
 (Il x50)])) ∧ ((ldA m40 (C.ptr m22.nxt 5) 2) = (some [(Il x49), 
 (Il x50)])) ∧ ((ldA m34 (C.ptr m22.nxt 5) 2) = (some [(Il x49), 
 (Il x50)])) ∧ Wc prog tbl 62 [(V.agg 2 [(Il x49), 
 (Il x50)])] m46 (fun v51 m52 => ∃ x53, ∃ x54, (v51 = (V.agg 2 [(Il x53), 
 (Il x54)])) ∧ ((ldC m52 (C.ptr m22.nxt 0)) = (some (Il x36))) ∧ 
 (ifB (cmC c35) ((ldC m52 (C.ptr m1.nxt 2)) = (some c35)) False) ∧ ∀ m55 : M, 
 (m55 = (M.new m52 (AO.cells 7 [(Il x36), (Il x41), 
 (Il x42), (Il x47), (Il x48), (Il x53), 
 (Il x54)] false))) → (ifB (cmC c35) ((ldC m55 (C.ptr m1.nxt 2)) = (some c35)) False) ∧ 
 ∃ c56 : C, ∃ m57 : M, (ApR prog 28 m55 c35 (C.sl m52.nxt 0 1 0 (some 1)) c56 m57) ∧ 
 isPt (C.ptr m1.nxt 0) ∧ ∃ m58 : M, ((stC m57 (C.ptr m1.nxt 2) 1 [c56]) = (some m58)) ∧ 
 fitsP .i64 (x21 + 1) ∧ R20 [(V.c (Il (x21 + 1)))] m58)))) (∀ R59 : List V → 
 M → Prop, (∀ x60 : Int, ∀ m61 : M, (isPt (C.ptr m.nxt 0) ∧ ∃ c62 : C, ((ldC m61 (C.ptr m.nxt 3)) = (some c62)) ∧ 
 isSl c62 ∧ ifB (decide (x60 < (((slLen c62) : Nat) : Int))) (isPt (C.ptr m.nxt 0) ∧ 
 ∃ c63 : C, ((ldC m61 (C.ptr m.nxt 3)) = (some c63)) ∧ ∃ n64 : Nat, 
 (x60 = ((n64 : Nat) : Int)) ∧ (n64 < (slLen c63)) ∧ ∃ x65, ∃ x66, 
 ∃ x67, ∃ x68, ((ldA m61 (slAt c63 (n64 * 4)) 4) = (some [(Il x65), 
 (Il x66), (Il x67), (Il x68)])) ∧ 
 ∀ m69 : M, (m69 = (M.new m61 (AO.cells 4 [(Il 0), (Il 0), 
 (Il 0), (Il 0)] false))) → ∃ m70 : M, 
 ((stC m69 (C.ptr m61.nxt 0) 4 [(Il x65), (Il x66), 
 (Il x67), (Il x68)]) = (some m70)) ∧ isPt (C.ptr m1.nxt 0) ∧ 
 ∃ c71 : C, ((ldC m70 (C.ptr m1.nxt 3)) = (some c71)) ∧ isPt (C.ptr m61.nxt 0) ∧ 
 ∃ x72, ((ldC m70 (C.ptr m61.nxt 0)) = (some (Il x72))) ∧ 
 isPt (C.ptr m61.nxt 0) ∧ ∃ x73, ((ldC m70 (C.ptr m61.nxt 1)) = (some (Il x73))) ∧ 
 isPt (C.ptr m61.nxt 0) ∧ ∃ x74, ∃ x75, ((ldA m70 (C.ptr m61.nxt 2) 2) = (some [(Il x74), 
 (Il x75)])) ∧ Wc prog tbl 62 [(V.agg 2 [(Il x74), 
 (Il x75)])] m70 (fun v76 m77 => ∃ x78, ∃ x79, (v76 = (V.agg 2 [(Il x78), 
 (Il x79)])) ∧ ((ldC m77 (C.ptr m61.nxt 1)) = (some (Il x73))) ∧ 
 ((ldC m77 (C.ptr m61.nxt 0)) = (some (Il x72))) ∧ (ifB (cmC c71) ((ldC m77 (C.ptr m1.nxt 3)) = (some c71)) False) ∧ 
 ∀ m80 : M, (m80 = (M.new m77 (AO.cells 4 [(Il x72), (Il x73), 
 (Il x78), (Il x79)] false))) → (ifB (cmC c71) ((ldC m80 (C.ptr m1.nxt 3)) = (some c71)) False) ∧ 
 ∃ c81 : C, ∃ m82 : M, (ApR prog 29 m80 c71 (C.sl m77.nxt 0 1 0 (some 1)) c81 m82) ∧ 
 isPt (C.ptr m1.nxt 0) ∧ ∃ m83 : M, ((stC m82 (C.ptr m1.nxt 3) 1 [c81]) = (some m83)) ∧ 
 fitsP .i64 (x60 + 1) ∧ R59 [(V.c (Il (x60 + 1)))] m83)) (∃ x84, 
 ∃ c85 : C, ∃ c86 : C, ∃ c87 : C, ((ldA m61 (C.ptr m1.nxt 0) 4) = (some [(Il x84), 
 c85, c86, c87])) ∧ ∃ m88 : M, ((stC m61 (C.ptr m0.nxt 0) 4 [(Il x84), 
 c85, c86, c87]) = (some m88)) ∧ ∃ x89, ∃ c90 : C, ∃ c91 : C, 
 ∃ c92 : C, ((ldA m88 (C.ptr m0.nxt 0) 4) = (some [(Il x89), 
 c90, c91, c92])) ∧ Q (V.agg 4 [(Il x89), c90, c91, c92]) m88)) → 
 R59 [(V.c (Il x60))] m61) → R59 [(V.c (Il 0))] m22)) → 
 R20 [(V.c (Il x21))] m22) → R20 [(V.c (Il 0))] m7)) → 
 R5 [(V.c (Il x6))] m7) → R5 [(V.c (Il 0))] m4)) : Wc prog tbl 23 [(V.agg 4 [(Il a100), a101, a102, a103])] m Q :=
 wc_eq (n := 1) rfl (by kernel_rfl) (by kernel_rfl) h
theorem w29 {a100 : Int} {a101 : C} {a102 : C} {a103 : C} {a200 : Int} {m : M} {Q : V → M → Prop} (h :
 (∀ m0 : M, (m0 = (M.new m (AO.cells 4 [(Il a100), a101, a102, a103] false))) → isPt (C.ptr m.nxt 0) ∧ 
 ∃ x1, ((ldC m0 (C.ptr m.nxt 0)) = (some (Il x1))) ∧ Wc prog tbl 65 [(V.agg 2 [(Il 0), 
 (Il x1)]), (V.c (Il a200))] m0 (fun v2 m3 => ∃ b4 : Bool, (v2 = (V.c (C.bool b4))) ∧ 
 Q (V.c (C.bool b4)) m3))) : Wc prog tbl 29 [(V.agg 4 [(Il a100), a101, a102, a103]), (V.c (Il a200))] m Q :=
 wc_eq (n := 2) rfl (by kernel_rfl) (by kernel_rfl) h
theorem w33 {a100 : Int} {m : M} {Q : V → M → Prop} (h :
 (Wc prog tbl 65 [(V.agg 2 [(Il 0), (Il (100 : Int))]), (V.c (Il a100))] m (fun v0 m1 => 
 ∃ b2 : Bool, (v0 = (V.c (C.bool b2))) ∧ Q (V.c (C.bool b2)) m1))) : Wc prog tbl 33 [(V.c (Il a100))] m Q :=
 wc_eq (n := 1) rfl (by kernel_rfl) (by kernel_rfl) h
theorem w37 {a100 : C} {a200 : C} {m : M} {Q : V → M → Prop} (h :
 (∀ m0 : M, (m0 = (M.new m (AO.cells 1 [a200] false))) → Wc prog tbl 38 [(V.c a100), (V.c (C.fn (Fn.func 68) [] [(W.c (C0.ptr m.nxt 0))]))] m0 (fun v1 m2 => 
 ∃ b3 : Bool, (v1 = (V.c (C.bool b3))) ∧ Q (V.c (C.bool (!b3))) m2))) : Wc prog tbl 37 [(V.c a100), (V.c a200)] m Q :=
 wc_eq (n := 2) rfl (by kernel_rfl) (by kernel_rfl) h
theorem w40 {a100 : Int} {a101 : C} {a102 : C} {a103 : C} {a104 : C} {a200 : Int} {m : M} {Q : V → M → Prop} (h :
 (∀ m0 : M, (m0 = (M.new m (AO.cells 5 [(Il a100), a101, a102, a103, a104] false))) → ∀ m1 : M, 
 (m1 = (M.new m0 (AO.cells 1 [(Il a200)] false))) → Q (V.c (C.fn (Fn.func 71) [] [(W.c (C0.ptr m.nxt 0)), 
 (W.c (C0.ptr m0.nxt 0))])) m1)) : Wc prog tbl 40 [(V.agg 5 [(Il a100), a101, a102, a103, a104]), (V.c (Il a200))] m Q :=
 wc_eq (n := 2) rfl (by kernel_rfl) (by kernel_rfl) h
theorem w46 {a100 : Int} {a101 : C} {a102 : C} {a103 : C} {m : M} {Q : V → M → Prop} (h :
 (∀ m0 : M, (m0 = (M.new m (AO.cells 4 [(Il a100), a101, a102, a103] false))) → ∀ m1 : M, (m1 = (M.new m0 (AO.cells 5 [(Il 0), 
 C.sl0, C.sl0, C.sl0, C.map0] false))) → ∃ x2, ∃ c3 : C, ∃ c4 : C, ∃ c5 : C, ((ldA m1 (C.ptr m.nxt 0) 4) = (some [(Il x2), 
 c3, c4, c5])) ∧ ∀ m6 : M, (m6 = (M.new m1 (AO.map [] 0))) → ∀ m7 : M, (m7 = (M.new m6 (AO.cells 5 [(Il 0), 
 C.sl0, C.sl0, C.sl0, C.map0] false))) → ∃ m8 : M, ((stC m7 (C.ptr m6.nxt 0) 5 [(Il x2), 
 c3, c4, c5, (C.map m1.nxt)]) = (some m8)) ∧ isPt (C.ptr m.nxt 0) ∧ ∃ c9 : C, 
 ((ldC m8 (C.ptr m.nxt 2)) = (some c9)) ∧ isSl c9 ∧ ∀ R10 : List V → M → Prop, 
 (∀ x11 : Int, ∀ m12 : M, (ifB (decide (x11 < (((slLen c9) : Nat) : Int))) (∃ n13 : Nat, 
 (x11 = ((n13 : Nat) : Int)) ∧ (n13 < (slLen c9)) ∧ ∃ x14, ∃ x15, 
 ∃ x16, ∃ x17, ∃ x18, ∃ x19, ∃ x20, ((ldA m12 (slAt c9 (n13 * 7)) 7) = (some [(Il x14), 
 (Il x15), (Il x16), (Il x17), (Il x18), 
 (Il x19), (Il x20)])) ∧ ∀ m21 : M, (m21 = (M.new m12 (AO.cells 7 [(Il 0), 
 (Il 0), (Il 0), (Il 0), 
 (Il 0), (Il 0), (Il 0)] false))) → 
 ∃ m22 : M, ((stC m21 (C.ptr m12.nxt 0) 7 [(Il x14), (Il x15), 
 (Il x16), (Il x17), (Il x18), (Il x19), 
 (Il x20)]) = (some m22)) ∧ isPt (C.ptr m12.nxt 0) ∧ 
 ∃ x23, ∃ x24, ((ldA m22 (C.ptr m12.nxt 1) 2) = (some [(Il x23), 
 (Il x24)])) ∧ Wc prog tbl 76 [(V.agg 2 [(Il x23), 
 (Il x24)])] m22 (fun v25 m26 => ∃ c27 : C, (v25 = (V.c c27)) ∧ 
 rangeP prog tbl c27 m26 (fun l28 m29 R30 R31 => ∃ x32, (l28 = [(V.c (Il x32))]) ∧ 
 ∀ m33 : M, (m33 = (M.new m29 (AO.cells 1 [(Il 0)] false))) → 
 ∃ m34 : M, ((stC m33 (C.ptr m29.nxt 0) 1 [(Il x32)]) = (some m34)) ∧ 
 R30 m34 (fun m35 => isPt (C.ptr m12.nxt 0) ∧ ∃ x36, ∃ x37, 
 ((ldA m35 (C.ptr m12.nxt 3) 2) = (some [(Il x36), (Il x37)])) ∧ 
 Wc prog tbl 76 [(V.agg 2 [(Il x36), (Il x37)])] m35 (fun v38 m39 => 
 ∃ c40 : C, (v38 = (V.c c40)) ∧ rangeP prog tbl c40 m39 (fun l41 m42 R43 R44 => 
 ∃ x45, (l41 = [(V.c (Il x45))]) ∧ R43 m42 (fun m46 => 
 ∃ x47, ∃ x48, ∃ x49, ∃ x50, ∃ x51, ∃ x52, 
 ∃ x53, ((ldA m46 (C.ptr m12.nxt 0) 7) = (some [(Il x47), 
 (Il x48), (Il x49), (Il x50), (Il x51), 
 (Il x52), (Il x53)])) ∧ ∃ x54, ((ldC m46 (C.ptr m29.nxt 0)) = (some (Il x54))) ∧ 
 Wc prog tbl 77 [(V.agg 7 [(Il x47), (Il x48), 
 (Il x49), (Il x50), (Il x51), (Il x52), 
 (Il x53)]), (V.c (Il x54)), (V.c (Il x45))] m46 (fun v55 m56 => 
 ∃ x57, ∃ x58, ∃ x59, ∃ x60, (v55 = (V.agg 4 [(Il x57), 
 (Il x58), (Il x59), (Il x60)])) ∧ 
 ∀ m61 : M, (m61 = (M.new m56 (AO.cells 4 [(Il 0), (Il 0), 
 (Il 0), (Il 0)] false))) → ∃ m62 : M, 
 ((stC m61 (C.ptr m56.nxt 0) 4 [(Il x57), (Il x58), 
 (Il x59), (Il x60)]) = (some m62)) ∧ isPt (C.ptr m6.nxt 0) ∧ 
 ∃ c63 : C, ((ldC m62 (C.ptr m6.nxt 4)) = (some c63)) ∧ ∃ x64, 
 ∃ x65, ∃ x66, ∃ x67, ((ldA m62 (C.ptr m56.nxt 0) 4) = (some [(Il x64), 
 (Il x65), (Il x66), (Il x67)])) ∧ 
 ∃ x68, ∃ c69 : C, ∃ c70 : C, ∃ c71 : C, ((ldA m62 (C.ptr m.nxt 0) 4) = (some [(Il x68), 
 c69, c70, c71])) ∧ ∃ x72, ∃ x73, ∃ x74, ∃ x75, ((ldA m62 (C.ptr m56.nxt 0) 4) = (some [(Il x72), 
 (Il x73), (Il x74), (Il x75)])) ∧ 
 Wc prog tbl 78 [(V.agg 4 [(Il x68), c69, c70, c71]), (V.agg 4 [(Il x72), 
 (Il x73), (Il x74), (Il x75)])] m62 (fun v76 m77 => 
 ∃ x78, ∃ x79, ∃ x80, ∃ x81, ∃ x82, ∃ x83, 
 ∃ x84, ∃ x85, ∃ x86, ∃ x87, ∃ x88, ∃ x89, 
 ∃ x90, (v76 = (V.agg 13 [(Il x78), (Il x79), 
 (Il x80), (Il x81), (Il x82), (Il x83), 
 (Il x84), (Il x85), (Il x86), (Il x87), 
 (Il x88), (Il x89), (Il x90)])) ∧ 
 ((ldA m77 (C.ptr m56.nxt 0) 4) = (some [(Il x64), (Il x65), 
 (Il x66), (Il x67)])) ∧ (ifB (cmC c63) ((ldC m77 (C.ptr m6.nxt 4)) = (some c63)) False) ∧ 
 ∃ m91 : M, ((upM prog 138 m77 c63 (V.agg 4 [(Il x64), (Il x65), 
 (Il x66), (Il x67)]) (V.agg 13 [(Il x78), 
 (Il x79), (Il x80), (Il x81), (Il x82), 
 (Il x83), (Il x84), (Il x85), (Il x86), 
 (Il x87), (Il x88), (Il x89), (Il x90)])) = (some m91)) ∧ 
 R44 Ex.nrm m91)))) (After.mk (fun m92 => 
 R31 Ex.nrm m92) [] (fun m93 => R31 Ex.ret m93))))) (After.mk (fun m94 => 
 fitsP .i64 (x11 + 1) ∧ R10 [(V.c (Il (x11 + 1)))] m94) [] (fun m95 => 
 ∃ x96, ∃ c97 : C, ∃ c98 : C, ∃ c99 : C, ∃ c100 : C, ((ldA m95 (C.ptr m0.nxt 0) 5) = (some [(Il x96), 
 c97, c98, c99, c100])) ∧ Q (V.agg 5 [(Il x96), c97, c98, c99, 
 c100]) m95)))) (∃ x101, ∃ c102 : C, ∃ c103 : C, 
 ∃ c104 : C, ∃ c105 : C, ((ldA m12 (C.ptr m6.nxt 0) 5) = (some [(Il x101), 
 c102, c103, c104, c105])) ∧ ∃ m106 : M, ((stC m12 (C.ptr m0.nxt 0) 5 [(Il x101), 
 c102, c103, c104, c105]) = (some m106)) ∧ ∃ x107, ∃ c108 : C, 
 ∃ c109 : C, ∃ c110 : C, ∃ c111 : C, ((ldA m106 (C.ptr m0.nxt 0) 5) = (some [(Il x107), 
 c108, c109, c110, c111])) ∧ Q (V.agg 5 [(Il x107), c108, c109, 
 c110, c111]) m106)) → R10 [(V.c (Il x11))] m12) → 
 R10 [(V.c (Il 0))] m8)) : Wc prog tbl 46 [(V.agg 4 [(Il a100), a101, a102, a103])] m Q :=
 wc_eq (n := 1) rfl (by kernel_rfl) (by kernel_rfl) h
theorem w49 {a100 : Int} {a101 : C} {a102 : C} {a103 : C} {a200 : Int} {a300 : Int} {a301 : Int} {a302 : Int} {a303 : Int} {a304 : Int} {a305 : Int} {a306 : Int} {a307 : Int} {a308 : Int} {a309 : Int} {a310 : Int} {a311 : Int} {a312 : Int} {a313 : Int} {a314 : Int} {a315 : Int} {m : M} {Q : V → M → Prop} (h :
 (∀ m0 : M, (m0 = (M.new m (AO.cells 4 [(Il a100), a101, a102, a103] false))) → ∀ m1 : M, (m1 = (M.new m0 (AO.cells 1 [(Il a200)] false))) → 
 ∀ m2 : M, (m2 = (M.new m1 (AO.cells 16 [(Il a300), (Il a301), (Il a302), 
 (Il a303), (Il a304), (Il a305), (Il a306), 
 (Il a307), (Il a308), (Il a309), (Il a310), 
 (Il a311), (Il a312), (Il a313), (Il a314), 
 (Il a315)] false))) → isPt (C.ptr m.nxt 0) ∧ ∃ c3 : C, ((ldC m2 (C.ptr m.nxt 3)) = (some c3)) ∧ 
 Wc prog tbl 81 [(V.c c3), (V.c (C.fn (Fn.func 82) [] [(W.c (C0.ptr m0.nxt 0)), (W.c (C0.ptr m1.nxt 0))]))] m2 (fun v4 m5 => 
 ∃ b6 : Bool, (v4 = (V.c (C.bool b6))) ∧ Q (V.c (C.bool b6)) m5))) : Wc prog tbl 49 [(V.agg 4 [(Il a100), a101, a102, a103]), (V.c (Il a200)), (V.agg 16 [(Il a300), (Il a301), (Il a302), (Il a303), (Il a304), (Il a305), (Il a306), (Il a307), (Il a308), (Il a309), (Il a310), (Il a311), (Il a312), (Il a313), (Il a314), (Il a315)])] m Q :=
 wc_eq (n := 3) rfl (by kernel_rfl) (by kernel_rfl) h
theorem w52 {a100 : C} {a200 : Int} {a300 : Int} {m : M} {Q : V → M → Prop} (h :
 (∀ m0 : M, (m0 = (M.new m (AO.map [] 0))) → isSl a100 ∧ ∀ R1 : List V → M → Prop, (∀ b2 : Bool, ∀ x3 : Int, 
 ∀ m4 : M, (ifB (decide (x3 < (((slLen a100) : Nat) : Int))) (∃ n5 : Nat, (x3 = ((n5 : Nat) : Int)) ∧ 
 (n5 < (slLen a100)) ∧ ∃ x6, ∃ x7, ∃ x8, ∃ x9, ∃ x10, ∃ x11, 
 ∃ x12, ∃ x13, ∃ x14, ∃ x15, ∃ x16, ∃ x17, ∃ x18, 
 ∃ x19, ∃ x20, ∃ x21, ((ldA m4 (slAt a100 (n5 * 16)) 16) = (some [(Il x6), 
 (Il x7), (Il x8), (Il x9), (Il x10), 
 (Il x11), (Il x12), (Il x13), (Il x14), 
 (Il x15), (Il x16), (Il x17), (Il x18), 
 (Il x19), (Il x20), (Il x21)])) ∧ 
 ∀ m22 : M, (m22 = (M.new m4 (AO.cells 16 [(Il 0), (Il 0), 
 (Il 0), (Il 0), (Il 0), 
 (Il 0), (Il 0), (Il 0), 
 (Il 0), (Il 0), (Il 0), 
 (Il 0), (Il 0), (Il 0), 
 (Il 0), (Il 0)] false))) → ∃ m23 : M, 
 ((stC m22 (C.ptr m4.nxt 0) 16 [(Il x6), (Il x7), 
 (Il x8), (Il x9), (Il x10), (Il x11), 
 (Il x12), (Il x13), (Il x14), (Il x15), 
 (Il x16), (Il x17), (Il x18), (Il x19), 
 (Il x20), (Il x21)]) = (some m23)) ∧ isPt (C.ptr m4.nxt 0) ∧ 
 ∃ x24, ∃ x25, ∃ x26, ∃ x27, ∃ x28, ∃ x29, 
 ∃ x30, ∃ x31, ∃ x32, ∃ x33, ∃ x34, ∃ x35, 
 ∃ x36, ((ldA m23 (C.ptr m4.nxt 3) 13) = (some [(Il x24), 
 (Il x25), (Il x26), (Il x27), (Il x28), 
 (Il x29), (Il x30), (Il x31), (Il x32), 
 (Il x33), (Il x34), (Il x35), (Il x36)])) ∧ 
 Wc prog tbl 36 [(V.agg 13 [(Il x24), (Il x25), 
 (Il x26), (Il x27), (Il x28), (Il x29), 
 (Il x30), (Il x31), (Il x32), (Il x33), 
 (Il x34), (Il x35), (Il x36)])] m23 (fun v37 m38 => 
 ∃ x39, (v37 = (V.c (Il x39))) ∧ ∃ x40, ∃ x41, 
 ∃ x42, ∃ x43, ∃ x44, ∃ x45, ∃ x46, ∃ x47, 
 ∃ x48, ∃ x49, ∃ x50, ∃ x51, ∃ x52, ∃ x53, 
 ∃ x54, ∃ x55, ((ldA m38 (C.ptr m4.nxt 0) 16) = (some [(Il x40), 
 (Il x41), (Il x42), (Il x43), (Il x44), 
 (Il x45), (Il x46), (Il x47), (Il x48), 
 (Il x49), (Il x50), (Il x51), (Il x52), 
 (Il x53), (Il x54), (Il x55)])) ∧ 
 Wc prog tbl 32 [(V.agg 16 [(Il x40), (Il x41), 
 (Il x42), (Il x43), (Il x44), (Il x45), 
 (Il x46), (Il x47), (Il x48), (Il x49), 
 (Il x50), (Il x51), (Il x52), (Il x53), 
 (Il x54), (Il x55)]), (V.c (Il a200))] m38 (fun v56 m57 => 
 ∃ x58, (v56 = (V.c (Il x58))) ∧ ∃ y59 : Option U, ((lkM prog 3 m57 (C.map m.nxt) (V.c (Il x58))) = (some y59)) ∧ 
 ((y59 = Option.none) → ∃ x60, ∃ x61, ∃ x62, ∃ x63, 
 ∃ x64, ∃ x65, ∃ x66, ∃ x67, ∃ x68, ∃ x69, 
 ∃ x70, ∃ x71, ∃ x72, ∃ x73, ∃ x74, ∃ x75, 
 ((ldA m57 (C.ptr m4.nxt 0) 16) = (some [(Il x60), (Il x61), 
 (Il x62), (Il x63), (Il x64), (Il x65), 
 (Il x66), (Il x67), (Il x68), (Il x69), 
 (Il x70), (Il x71), (Il x72), (Il x73), 
 (Il x74), (Il x75)])) ∧ Wc prog tbl 32 [(V.agg 16 [(Il x60), 
 (Il x61), (Il x62), (Il x63), (Il x64), 
 (Il x65), (Il x66), (Il x67), (Il x68), 
 (Il x69), (Il x70), (Il x71), (Il x72), 
 (Il x73), (Il x74), (Il x75)]), 
 (V.c (Il a200))] m57 (fun v76 m77 => ∃ x78, (v76 = (V.c (Il x78))) ∧ 
 ∃ m79 : M, ((upM prog 3 m77 (C.map m.nxt) (V.c (Il x78)) (V.c (C.bool (decide (a300 < x39))))) = (some m79)) ∧ 
 fitsP .i64 (x3 + 1) ∧ R1 [(V.c (C.bool b2)), (V.c (Il (x3 + 1)))] m79)) ∧ 
 ∀ u80 : U, (y59 = (some u80)) → ∃ b81 : Bool, (u80 = (U.c (C.bool b81))) ∧ 
 ifB (!(b81 == (decide (a300 < x39)))) (Q (V.c (C.bool false)) m57) (∃ x82, 
 ∃ x83, ∃ x84, ∃ x85, ∃ x86, ∃ x87, ∃ x88, 
 ∃ x89, ∃ x90, ∃ x91, ∃ x92, ∃ x93, ∃ x94, 
 ∃ x95, ∃ x96, ∃ x97, ((ldA m57 (C.ptr m4.nxt 0) 16) = (some [(Il x82), 
 (Il x83), (Il x84), (Il x85), (Il x86), 
 (Il x87), (Il x88), (Il x89), (Il x90), 
 (Il x91), (Il x92), (Il x93), (Il x94), 
 (Il x95), (Il x96), (Il x97)])) ∧ 
 Wc prog tbl 32 [(V.agg 16 [(Il x82), (Il x83), 
 (Il x84), (Il x85), (Il x86), (Il x87), 
 (Il x88), (Il x89), (Il x90), (Il x91), 
 (Il x92), (Il x93), (Il x94), (Il x95), 
 (Il x96), (Il x97)]), (V.c (Il a200))] m57 (fun v98 m99 => 
 ∃ x100, (v98 = (V.c (Il x100))) ∧ ∃ m101 : M, ((upM prog 3 m99 (C.map m.nxt) (V.c (Il x100)) (V.c (C.bool (decide (a300 < x39))))) = (some m101)) ∧ 
 fitsP .i64 (x3 + 1) ∧ R1 [(V.c (C.bool b2)), (V.c (Il (x3 + 1)))] m101))))) (Q (V.c (C.bool true)) m4)) → 
 R1 [(V.c (C.bool b2)), (V.c (Il x3))] m4) → R1 [(V.c (C.bool false)), (V.c (Il 0))] m0)) : Wc prog tbl 52 [(V.c a100), (V.c (Il a200)), (V.c (Il a300))] m Q :=
 wc_eq (n := 3) rfl (by kernel_rfl) (by kernel_rfl) h
theorem w55 {a100 : Int} {a101 : C} {a102 : C} {a103 : C} {m : M} {Q : V → M → Prop} (h :
 (∀ m0 : M, (m0 = (M.new m (AO.cells 4 [(Il a100), a101, a102, a103] false))) → isPt (C.ptr m.nxt 0) ∧ 
 ∃ x1, ((ldC m0 (C.ptr m.nxt 0)) = (some (Il x1))) ∧ ifB (decide ((12 : Int) < x1)) (Q (V.c (C.bool true)) m0) (isPt (C.ptr m.nxt 0) ∧ 
 ∃ c2 : C, ((ldC m0 (C.ptr m.nxt 1)) = (some c2)) ∧ isSl c2 ∧ ifB (decide ((3 : Int) < (((slLen c2) : Nat) : Int))) (Q (V.c (C.bool true)) m0) (isPt (C.ptr m.nxt 0) ∧ 
 ∃ c3 : C, ((ldC m0 (C.ptr m.nxt 2)) = (some c3)) ∧ isSl c3 ∧ ifB (decide ((3 : Int) < (((slLen c3) : Nat) : Int))) (Q (V.c (C.bool true)) m0) (isPt (C.ptr m.nxt 0) ∧ 
 ∃ c4 : C, ((ldC m0 (C.ptr m.nxt 3)) = (some c4)) ∧ isSl c4 ∧ Q (V.c (C.bool (decide ((6 : Int) < (((slLen c4) : Nat) : Int))))) m0))))) : Wc prog tbl 55 [(V.agg 4 [(Il a100), a101, a102, a103])] m Q :=
 wc_eq (n := 1) rfl (by kernel_rfl) (by kernel_rfl) h
theorem w58 {a100 : Int} {a101 : Int} {a102 : Int} {a103 : Int} {a104 : Int} {a105 : Int} {a106 : Int} {m : M} {Q : V → M → Prop} (h :
 (∀ m0 : M, (m0 = (M.new m (AO.cells 7 [(Il a100), (Il a101), (Il a102), 
 (Il a103), (Il a104), (Il a105), (Il a106)] false))) → 
 isPt (C.ptr m.nxt 0) ∧ ∃ x1, ∃ x2, ((ldA m0 (C.ptr m.nxt 1) 2) = (some [(Il x1), 
 (Il x2)])) ∧ Wc prog tbl 93 [(V.agg 2 [(Il x1), (Il x2)])] m0 (fun v3 m4 => 
 ∃ x5, (v3 = (V.c (Il x5))) ∧ isPt (C.ptr m.nxt 0) ∧ ∃ x6, ∃ x7, 
 ((ldA m4 (C.ptr m.nxt 3) 2) = (some [(Il x6), (Il x7)])) ∧ 
 ((ldA m0 (C.ptr m.nxt 3) 2) = (some [(Il x6), (Il x7)])) ∧ 
 Wc prog tbl 93 [(V.agg 2 [(Il x6), (Il x7)])] m4 (fun v8 m9 => 
 ∃ x10, (v8 = (V.c (Il x10))) ∧ ((0 : Int) ≤ x5) ∧ ((0 : Int) ≤ x10) ∧ 
 fitsP .i64 (x5 * x10) ∧ isPt (C.ptr m.nxt 0) ∧ ∃ x11, ∃ x12, 
 ((ldA m9 (C.ptr m.nxt 5) 2) = (some [(Il x11), (Il x12)])) ∧ 
 ((ldA m4 (C.ptr m.nxt 5) 2) = (some [(Il x11), (Il x12)])) ∧ 
 ((ldA m0 (C.ptr m.nxt 5) 2) = (some [(Il x11), (Il x12)])) ∧ 
 Wc prog tbl 93 [(V.agg 2 [(Il x11), (Il x12)])] m9 (fun v13 m14 => 
 ∃ x15, (v13 = (V.c (Il x15))) ∧ ((0 : Int) ≤ (x5 * x10)) ∧ 
 ((0 : Int) ≤ x15) ∧ fitsP .i64 ((x5 * x10) * x15) ∧ Q (V.c (C.bool (decide (((x5 * x10) * x15) ≤ (3000 : Int))))) m14))))) : Wc prog tbl 58 [(V.agg 7 [(Il a100), (Il a101), (Il a102), (Il a103), (Il a104), (Il a105), (Il a106)])] m Q :=
 wc_eq (n := 1) rfl (by kernel_rfl) (by kernel_rfl) h
theorem w61 {a100 : C} {m : M} {Q : V → M → Prop} (h :
 (∃ c0 : C, ∃ m1 : M, (ApR prog 39 m C.sl0 a100 c0 m1) ∧ Q (V.c c0) m1)) : Wc prog tbl 61 [(V.c a100)] m Q :=
 wc_eq (n := 1) rfl (by kernel_rfl) (by kernel_rfl) h
theorem w64 {a100 : Int} {a101 : C} {a102 : C} {a103 : C} {a200 : Int} {m : M} {Q : V → M → Prop} (h :
 (∀ m0 : M, (m0 = (M.new m (AO.cells 4 [(Il a100), a101, a102, a103] false))) → isPt (C.ptr m.nxt 0) ∧ 
 ∃ c1 : C, ((ldC m0 (C.ptr m.nxt 2)) = (some c1)) ∧ isSl c1 ∧ fitsP .i64 ((((slLen c1) : Nat) : Int) - (1 : Int)) ∧ 
 Wc prog tbl 65 [(V.agg 2 [(Il 0), (Il ((((slLen c1) : Nat) : Int) - (1 : Int)))]), 
 (V.c (Il a200))] m0 (fun v2 m3 => ∃ b4 : Bool, (v2 = (V.c (C.bool b4))) ∧ Q (V.c (C.bool b4)) m3))) : Wc prog tbl 64 [(V.agg 4 [(Il a100), a101, a102, a103]), (V.c (Il a200))] m Q :=
 wc_eq (n := 2) rfl (by kernel_rfl) (by kernel_rfl) h
theorem w67 {a100 : C} {m : M} {Q : V → M → Prop} (h :
 (isSl a100 ∧ ifB (decide ((((slLen a100) : Nat) : Int) < (1 : Int))) False (∃ n0 : Nat, ((0 : Int) = ((n0 : Nat) : Int)) ∧ 
 (n0 < (slLen a100)) ∧ ∃ x1, ((ldC m (slAt a100 (n0 * 1))) = (some (Il x1))) ∧ 
 ∀ R2 : List V → M → Prop, (∀ x3 : Int, ∀ x4 : Int, ∀ m5 : M, (isSl a100 ∧ ifB (decide (x4 < (((slLen a100) : Nat) : Int))) (∃ n6 : Nat, 
 (x4 = ((n6 : Nat) : Int)) ∧ (n6 < (slLen a100)) ∧ ∃ x7, ((ldC m5 (slAt a100 (n6 * 1))) = (some (Il x7))) ∧ 
 fitsP .i64 (x4 + 1) ∧ R2 [(V.c (Il (Max.max x3 x7))), (V.c (Il (x4 + 1)))] m5) (Q (V.c (Il x3)) m5)) → 
 R2 [(V.c (Il x3)), (V.c (Il x4))] m5) → R2 [(V.c (Il x1)), 
 (V.c (Il (1 : Int)))] m))) : Wc prog tbl 67 [(V.c a100)] m Q :=
 wc_eq (n := 1) rfl (by kernel_rfl) (by kernel_rfl) h
theorem w72 {a100 : Int} {a101 : C} {a102 : C} {a103 : C} {a104 : C} {a200 : Int} {a201 : Int} {a202 : Int} {a203 : Int} {a204 : Int} {a205 : Int} {a206 : Int} {m : M} {Q : V → M → Prop} (h :
 (∀ m0 : M, (m0 = (M.new m (AO.cells 5 [(Il a100), a101, a102, a103, a104] false))) → ∀ m1 : M, 
 (m1 = (M.new m0 (AO.cells 7 [(Il a200), (Il a201), (Il a202), 
 (Il a203), (Il a204), (Il a205), (Il a206)] false))) → 
 Q (V.c (C.fn (Fn.func 97) [] [(W.c (C0.ptr m0.nxt 0)), (W.c (C0.ptr m.nxt 0))])) m1)) : Wc prog tbl 72 [(V.agg 5 [(Il a100), a101, a102, a103, a104]), (V.agg 7 [(Il a200), (Il a201), (Il a202), (Il a203), (Il a204), (Il a205), (Il a206)])] m Q :=
 wc_eq (n := 2) rfl (by kernel_rfl) (by kernel_rfl) h
theorem w78 {a100 : Int} {a101 : C} {a102 : C} {a103 : C} {a200 : Int} {a201 : Int} {a202 : Int} {a203 : Int} {m : M} {Q : V → M → Prop} (h :
 (∀ m0 : M, (m0 = (M.new m (AO.cells 4 [(Il a100), a101, a102, a103] false))) → ∀ m1 : M, (m1 = (M.new m0 (AO.cells 4 [(Il a200), 
 (Il a201), (Il a202), (Il a203)] false))) → ∀ m2 : M, 
 (m2 = (M.new m1 (AO.cells 13 [(Il 0), (Il 0), (Il 0), 
 (Il 0), (Il 0), (Il 0), (Il 0), 
 (Il 0), (Il 0), (Il 0), (Il 0), 
 (Il 0), (Il 0)] false))) → ∀ m3 : M, (m3 = (M.new m2 (AO.cells 13 [(Il 0), 
 (Il 0), (Il 0), (Il 0), (Il 0), 
 (Il 0), (Il 0), (Il 0), (Il 0), 
 (Il 0), (Il 0), (Il 0), (Il 0)] false))) → 
 ∀ R4 : List V → M → Prop, (∀ x5 : Int, ∀ x6 : Int, ∀ x7 : Int, ∀ m8 : M, (ifB (decide (x7 < 13)) (isPt (C.ptr m0.nxt 0) ∧ 
 isPt (C.ptr m0.nxt 0) ∧ ∃ x9, ((ldC m8 (C.ptr m0.nxt 0)) = (some (Il x9))) ∧ 
 ifB (decide (x7 = x9)) (isPt (C.ptr m0.nxt 0) ∧ isPt (C.ptr m0.nxt 0) ∧ ∃ x10, 
 ((ldC m8 (C.ptr m0.nxt 1)) = (some (Il x10))) ∧ isPt (C.ptr m2.nxt 0) ∧ 
 ∃ n11 : Nat, (x7 = ((n11 : Nat) : Int)) ∧ (n11 < 13) ∧ ∃ m12 : M, ((stC m8 (C.ptr m2.nxt (0 + (n11 * 1))) 1 [(Il x10)]) = (some m12)) ∧ 
 fitsP .i64 (x7 + 1) ∧ R4 [(V.c (Il x10)), (V.c (Il x10)), 
 (V.c (Il (x7 + 1)))] m12) (isPt (C.ptr m.nxt 0) ∧ 
 ∃ x13, ((ldC m8 (C.ptr m.nxt 0)) = (some (Il x13))) ∧ 
 ifB (decide (x7 ≤ x13)) (isPt (C.ptr m.nxt 0) ∧ ∃ c14 : C, ((ldC m8 (C.ptr m.nxt 1)) = (some c14)) ∧ 
 isPt (C.ptr m0.nxt 0) ∧ ∃ x15, ((ldC m8 (C.ptr m0.nxt 3)) = (some (Il x15))) ∧ 
 ∃ n16 : Nat, (x15 = ((n16 : Nat) : Int)) ∧ (n16 < (slLen c14)) ∧ ∃ c17 : C, 
 ((ldC m8 (slAt c14 (n16 * 1))) = (some c17)) ∧ ∃ n18 : Nat, (x7 = ((n18 : Nat) : Int)) ∧ 
 (n18 < (slLen c17)) ∧ ∃ x19, ((ldC m8 (slAt c17 (n18 * 1))) = (some (Il x19))) ∧ 
 ((0 : Int) ≤ x5) ∧ ((0 : Int) ≤ x19) ∧ fitsP .i64 (x5 * x19) ∧ ((0 : Int) ≤ (x5 * x19)) ∧ 
 ((0 : Int) < (100 : Int)) ∧ fitsP .i64 ((x5 * x19) / (100 : Int)) ∧ 
 fitsP .i64 (x5 - ((x5 * x19) / (100 : Int))) ∧ isPt (C.ptr m2.nxt 0) ∧ 
 ∃ n20 : Nat, (x7 = ((n20 : Nat) : Int)) ∧ (n20 < 13) ∧ ∃ m21 : M, ((stC m8 (C.ptr m2.nxt (0 + (n20 * 1))) 1 [(Il (x5 - ((x5 * x19) / (100 : Int))))]) = (some m21)) ∧ 
 fitsP .i64 (x7 + 1) ∧ R4 [(V.c (Il (x5 - ((x5 * x19) / (100 : Int))))), 
 (V.c (Il (x5 - ((x5 * x19) / (100 : Int))))), (V.c (Il (x7 + 1)))] m21) (isPt (C.ptr m2.nxt 0) ∧ 
 ∃ n22 : Nat, (x7 = ((n22 : Nat) : Int)) ∧ (n22 < 13) ∧ ∃ m23 : M, ((stC m8 (C.ptr m2.nxt (0 + (n22 * 1))) 1 [(Il x5)]) = (some m23)) ∧ 
 fitsP .i64 (x7 + 1) ∧ R4 [(V.c (Il x5)), (V.c (Il x5)), 
 (V.c (Il (x7 + 1)))] m23))) (∃ x24, 
 ∃ x25, ∃ x26, ∃ x27, ∃ x28, ∃ x29, ∃ x30, ∃ x31, 
 ∃ x32, ∃ x33, ∃ x34, ∃ x35, ∃ x36, ((ldA m8 (C.ptr m2.nxt 0) 13) = (some [(Il x24), 
 (Il x25), (Il x26), (Il x27), (Il x28), 
 (Il x29), (Il x30), (Il x31), (Il x32), 
 (Il x33), (Il x34), (Il x35), (Il x36)])) ∧ 
 ∃ m37 : M, ((stC m8 (C.ptr m1.nxt 0) 13 [(Il x24), (Il x25), 
 (Il x26), (Il x27), (Il x28), (Il x29), 
 (Il x30), (Il x31), (Il x32), (Il x33), 
 (Il x34), (Il x35), (Il x36)]) = (some m37)) ∧ 
 ∃ x38, ∃ x39, ∃ x40, ∃ x41, ∃ x42, ∃ x43, 
 ∃ x44, ∃ x45, ∃ x46, ∃ x47, ∃ x48, ∃ x49, 
 ∃ x50, ((ldA m37 (C.ptr m1.nxt 0) 13) = (some [(Il x38), 
 (Il x39), (Il x40), (Il x41), (Il x42), 
 (Il x43), (Il x44), (Il x45), (Il x46), 
 (Il x47), (Il x48), (Il x49), (Il x50)])) ∧ 
 Q (V.agg 13 [(Il x38), (Il x39), (Il x40), 
 (Il x41), (Il x42), (Il x43), (Il x44), 
 (Il x45), (Il x46), (Il x47), (Il x48), 
 (Il x49), (Il x50)]) m37)) → 
 R4 [(V.c (Il x5)), (V.c (Il x6)), (V.c (Il x7))] m8) → 
 R4 [(V.c (Il 0)), (V.c (Il 0)), (V.c (Il 0))] m3)) : Wc prog tbl 78 [(V.agg 4 [(Il a100), a101, a102, a103]), (V.agg 4 [(Il a200), (Il a201), (Il a202), (Il a203)])] m Q :=
 wc_eq (n := 2) rfl (by kernel_rfl) (by kernel_rfl) h
theorem w81 {a100 : C} {a200 : C} {m : M} {Q : V → M → Prop} (h :
 (∀ m0 : M, (m0 = (M.new m (AO.cells 1 [a200] false))) → Wc prog tbl 102 [(V.c a100), (V.c (C.fn (Fn.func 103) [] [(W.c (C0.ptr m.nxt 0))]))] m0 (fun v1 m2 => 
 ∃ b3 : Bool, (v1 = (V.c (C.bool b3))) ∧ Q (V.c (C.bool (!b3))) m2))) : Wc prog tbl 81 [(V.c a100), (V.c a200)] m Q :=
 wc_eq (n := 2) rfl (by kernel_rfl) (by kernel_rfl) h
theorem w88 {a100 : Int} {a101 : C} {a102 : C} {a103 : C} {a200 : C} {m : M} {Q : V → M → Prop} (h :
 (∀ m0 : M, (m0 = (M.new m (AO.cells 4 [(Il a100), a101, a102, a103] false))) → isSl a200 ∧ isPt (C.ptr m.nxt 0) ∧ 
 ∃ x1, ((ldC m0 (C.ptr m.nxt 0)) = (some (Il x1))) ∧ fitsP .i64 (x1 + 1) ∧ 
 ifB (decide ((((slLen a200) : Nat) : Int) = (x1 + 1))) (Wc prog tbl 106 [(V.c a200), (V.c (C.fn (Fn.func 33) [] []))] m0 (fun v2 m3 => 
 ∃ b4 : Bool, (v2 = (V.c (C.bool b4))) ∧ Q (V.c (C.bool b4)) m3)) (Q (V.c (C.bool false)) m0))) : Wc prog tbl 88 [(V.agg 4 [(Il a100), a101, a102, a103]), (V.c a200)] m Q :=
 wc_eq (n := 2) rfl (by kernel_rfl) (by kernel_rfl) h
theorem w91 {a100 : C} {a200 : C} {m : M} {Q : V → M → Prop} (h :
 (Wc prog tbl 108 [(V.c a100), (V.c a200)] m (fun v0 m1 => ∃ x2, (v0 = (V.c (Il x2))) ∧ Q (V.c (C.bool (decide ((0 : Int) ≤ x2)))) m1))) : Wc prog tbl 91 [(V.c a100), (V.c a200)] m Q :=
 wc_eq (n := 2) rfl (by kernel_rfl) (by kernel_rfl) h
theorem w95 {a100 : Int} {a101 : C} {a102 : C} {a103 : C} {a200 : C} {m : M} {Q : V → M → Prop} (h :
 (∀ m0 : M, (m0 = (M.new m (AO.cells 4 [(Il a100), a101, a102, a103] false))) → ∀ R1 : List V → 
 M → Prop, (∀ b2 : Bool, ∀ x3 : Int, ∀ m4 : M, (isSl a200 ∧ ifB (decide (x3 < (((slLen a200) : Nat) : Int))) (∃ n5 : Nat, 
 (x3 = ((n5 : Nat) : Int)) ∧ (n5 < (slLen a200)) ∧ ∃ x6, ((ldC m4 (slAt a200 (n5 * 1))) = (some (Il x6))) ∧ 
 Wc prog tbl 25 [(V.c (Il x6)), (V.c (Il 0)), (V.c (Il (100 : Int)))] m4 (fun v7 m8 => 
 ∃ b9 : Bool, (v7 = (V.c (C.bool b9))) ∧ ifB (!b9) (Q (V.c (C.bool false)) m8) (fitsP .i64 (x3 + 1) ∧ 
 R1 [(V.c (C.bool b2)), (V.c (Il (x3 + 1)))] m8))) (isSl a200 ∧ 
 isPt (C.ptr m.nxt 0) ∧ ∃ x10, ((ldC m4 (C.ptr m.nxt 0)) = (some (Il x10))) ∧ 
 fitsP .i64 (x10 + 1) ∧ Q (V.c (C.bool (decide ((((slLen a200) : Nat) : Int) = (x10 + 1))))) m4)) → 
 R1 [(V.c (C.bool b2)), (V.c (Il x3))] m4) → R1 [(V.c (C.bool false)), (V.c (Il 0))] m0)) : Wc prog tbl 95 [(V.agg 4 [(Il a100), a101, a102, a103]), (V.c a200)] m Q :=
 wc_eq (n := 2) rfl (by kernel_rfl) (by kernel_rfl) h
theorem w102 {a100 : C} {a200 : C} {m : M} {Q : V → M → Prop} (h :
 (Wc prog tbl 110 [(V.c a100), (V.c a200)] m (fun v0 m1 => ∃ x2, (v0 = (V.c (Il x2))) ∧ Q (V.c (C.bool (decide ((0 : Int) ≤ x2)))) m1))) : Wc prog tbl 102 [(V.c a100), (V.c a200)] m Q :=
 wc_eq (n := 2) rfl (by kernel_rfl) (by kernel_rfl) h
theorem w107 {a100 : Int} {a101 : Int} {a200 : Int} {a300 : Int} {m : M} {Q : V → M → Prop} (h :
 (∀ m0 : M, (m0 = (M.new m (AO.cells 2 [(Il a100), (Il a101)] false))) → isPt (C.ptr m.nxt 0) ∧ 
 ∃ x1, ((ldC m0 (C.ptr m.nxt 0)) = (some (Il x1))) ∧ ifB (decide (a200 ≤ x1)) (isPt (C.ptr m.nxt 0) ∧ 
 ∃ x2, ((ldC m0 (C.ptr m.nxt 0)) = (some (Il x2))) ∧ isPt (C.ptr m.nxt 0) ∧ 
 ∃ x3, ((ldC m0 (C.ptr m.nxt 1)) = (some (Il x3))) ∧ ifB (decide (x2 ≤ x3)) (isPt (C.ptr m.nxt 0) ∧ 
 ∃ x4, ((ldC m0 (C.ptr m.nxt 1)) = (some (Il x4))) ∧ Q (V.c (C.bool (decide (x4 ≤ a300)))) m0) (Q (V.c (C.bool false)) m0)) (Q (V.c (C.bool false)) m0))) : Wc prog tbl 107 [(V.agg 2 [(Il a100), (Il a101)]), (V.c (Il a200)), (V.c (Il a300))] m Q :=
 wc_eq (n := 3) rfl (by kernel_rfl) (by kernel_rfl) h
theorem w110 {a100 : C} {a200 : C} {m : M} {Q : V → M → Prop} (h :
 (isSl a100 ∧ ∀ R0 : List V → M → Prop, (∀ x1 : Int, ∀ x2 : Int, ∀ m3 : M, (ifB (decide (x2 < (((slLen a100) : Nat) : Int))) (∃ n4 : Nat, 
 (x2 = ((n4 : Nat) : Int)) ∧ (n4 < (slLen a100)) ∧ ∃ x5, ∃ x6, ∃ x7, ∃ x8, 
 ((ldA m3 (slAt a100 (n4 * 4)) 4) = (some [(Il x5), (Il x6), 
 (Il x7), (Il x8)])) ∧ callP prog tbl [(V.agg 4 [(Il x5), 
 (Il x6), (Il x7), (Il x8)])] a200 m3 (fun v9 m10 => 
 ∃ b11 : Bool, (v9 = (V.c (C.bool b11))) ∧ ifB b11 (Q (V.c (Il x2)) m10) (fitsP .i64 (x2 + 1) ∧ 
 R0 [(V.c (Il x1)), (V.c (Il (x2 + 1)))] m10))) (Q (V.c (Il (-1 : Int))) m3)) → 
 R0 [(V.c (Il x1)), (V.c (Il x2))] m3) → R0 [(V.c (Il 0)), 
 (V.c (Il 0))] m)) : Wc prog tbl 110 [(V.c a100), (V.c a200)] m Q :=
 wc_eq (n := 2) rfl (by kernel_rfl) (by kernel_rfl) h
theorem w114 {a100 : C} {a200 : C} {m : M} {Q : V → M → Prop} (h :
 (isSl a100 ∧ ∀ R0 : List V → M → Prop, (∀ x1 : Int, ∀ x2 : Int, ∀ m3 : M, (ifB (decide (x2 < (((slLen a100) : Nat) : Int))) (∃ n4 : Nat, 
 (x2 = ((n4 : Nat) : Int)) ∧ (n4 < (slLen a100)) ∧ ∃ x5, ((ldC m3 (slAt a100 (n4 * 1))) = (some (Il x5))) ∧ 
 callP prog tbl [(V.c (Il x5))] a200 m3 (fun v6 m7 => ∃ b8 : Bool, (v6 = (V.c (C.bool b8))) ∧ 
 ifB b8 (Q (V.c (Il x2)) m7) (fitsP .i64 (x2 + 1) ∧ R0 [(V.c (Il x1)), 
 (V.c (Il (x2 + 1)))] m7))) (Q (V.c (Il (-1 : Int))) m3)) → 
 R0 [(V.c (Il x1)), (V.c (Il x2))] m3) → R0 [(V.c (Il 0)), 
 (V.c (Il 0))] m)) : Wc prog tbl 114 [(V.c a100), (V.c a200)] m Q :=
 wc_eq (n := 2) rfl (by kernel_rfl) (by kernel_rfl) h
end
end Go.Proofs.Ytmlaphekbnanjaa

namespace Go.Proofs.Ytmlaphekbnanjaa
open _root_.Go.Proofs.Try
open Go.Abs
set_option maxRecDepth 100000
noncomputable section
theorem w9 {a100 : Int} {a101 : C} {a102 : C} {a103 : C} {a200 : Int} {a300 : Int} {m : M} {Q : V → M → Prop} (h :
 (∀ m0 : M, (m0 = (M.new m (AO.cells 4 [(Il a100), a101, a102, a103] false))) → ∀ m1 : M, (m1 = (M.new m0 (AO.cells 1 [(Il a300)] false))) → 
 ∀ m2 : M, (m2 = (M.new m1 (AO.cells 2 [(Il 0), (Il 0)] false))) → 
 ∀ m3 : M, (m3 = (mGrow m2 1)) → ∃ x4, ∃ c5 : C, ∃ c6 : C, ∃ c7 : C, ((ldA m3 (C.ptr m.nxt 0) 4) = (some [(Il x4), 
 c5, c6, c7])) ∧ ∃ x8, ∃ c9 : C, ∃ c10 : C, ∃ c11 : C, ((ldA m3 (C.ptr m.nxt 0) 4) = (some [(Il x8), 
 c9, c10, c11])) ∧ ∃ x12, ((ldC m3 (C.ptr m0.nxt 0)) = (some (Il x12))) ∧ 
 Wc prog tbl 29 [(V.agg 4 [(Il x8), c9, c10, c11]), (V.c (Il x12))] m3 (fun v13 m14 => 
 ∃ b15 : Bool, (v13 = (V.c (C.bool b15))) ∧ (ifB (allS cmC [(Il x4), 
 c5, c6, c7]) ((ldA m14 (C.ptr m.nxt 0) 4) = (some [(Il x4), 
 c5, c6, c7])) False) ∧ Wc prog tbl 28 [(V.agg 4 [(Il x4), c5, 
 c6, c7]), (V.c (Il a200)), (V.c (C.bool b15))] m14 (fun v16 m17 => 
 ∃ x18, ∃ c19 : C, ∃ c20 : C, ∃ c21 : C, ∃ c22 : C, ∃ x23, (v16 = (V.tup [(U.agg 5 [(Il x18), 
 c19, c20, c21, c22]), (U.c (Il x23))])) ∧ ∀ m24 : M, (m24 = (M.set m17 (m2.nxt + 0) (AO.cells 5 [(Il 0), 
 C.sl0, C.sl0, C.sl0, C.map0] false))) → ((ldC m24 (C.ptr m0.nxt 0)) = (some (Il x12))) ∧ 
 (ifB (allS cmC [(Il x8), c9, c10, c11]) ((ldA m24 (C.ptr m.nxt 0) 4) = (some [(Il x8), 
 c9, c10, c11])) False) ∧ (ifB (allS cmC [(Il x4), c5, c6, c7]) ((ldA m24 (C.ptr m.nxt 0) 4) = (some [(Il x4), 
 c5, c6, c7])) False) ∧ ∃ m25 : M, ((stC m24 (C.ptr (m2.nxt + 0) 0) 5 [(Il x18), 
 c19, c20, c21, c22]) = (some m25)) ∧ ifB (!decide (x23 = 0)) (∃ m26 : M, 
 ((stC m25 (C.ptr m1.nxt 0) 2 [(Il 0), (Il 0)]) = (some m26)) ∧ 
 ∃ x27, ∃ x28, ((ldA m26 (C.ptr m1.nxt 0) 2) = (some [(Il x27), 
 (Il x28)])) ∧ Q (V.tup [(U.agg 2 [(Il x27), (Il x28)]), 
 (U.c (Il x23))]) m26) (∃ x29, ∃ c30 : C, ∃ c31 : C, 
 ∃ c32 : C, ∃ c33 : C, ((ldA m25 (C.ptr (m2.nxt + 0) 0) 5) = (some [(Il x29), 
 c30, c31, c32, c33])) ∧ Wc prog tbl 30 [(V.agg 5 [(Il x29), c30, 
 c31, c32, c33]), (V.c (Il a200)), (V.agg 1 [(C.fn (Fn.func 31) [] [(W.c (C0.ptr m0.nxt 0))])])] m25 (fun v34 m35 => 
 ∃ x36, ∃ x37, (v34 = (V.agg 2 [(Il x36), (Il x37)])) ∧ 
 ∃ m38 : M, ((stC m35 (C.ptr m1.nxt 0) 2 [(Il x36), (Il x37)]) = (some m38)) ∧ 
 ∃ x39, ∃ x40, ((ldA m38 (C.ptr m1.nxt 0) 2) = (some [(Il x39), 
 (Il x40)])) ∧ Q (V.tup [(U.agg 2 [(Il x39), (Il x40)]), 
 (U.c (Il 0))]) m38)))))) : Wc prog tbl 9 [(V.agg 4 [(Il a100), a101, a102, a103]), (V.c (Il a200)), (V.c (Il a300))] m Q :=
 wc_eq (n := 3) rfl (by kernel_rfl) (by kernel_rfl) h
theorem w20 {a100 : Int} {a101 : C} {a102 : C} {a103 : C} {m : M} {Q : V → M → Prop} (h :
 (∀ m0 : M, (m0 = (M.new m (AO.cells 4 [(Il a100), a101, a102, a103] false))) → ∃ x1, ∃ c2 : C, 
 ∃ c3 : C, ∃ c4 : C, ((ldA m0 (C.ptr m.nxt 0) 4) = (some [(Il x1), c2, c3, c4])) ∧ 
 Wc prog tbl 55 [(V.agg 4 [(Il x1), c2, c3, c4])] m0 (fun v5 m6 => ∃ b7 : Bool, (v5 = (V.c (C.bool b7))) ∧ 
 ifB b7 (Q (V.c (Il (3 : Int))) m6) (∃ x8, ∃ c9 : C, ∃ c10 : C, ∃ c11 : C, 
 ((ldA m6 (C.ptr m.nxt 0) 4) = (some [(Il x8), c9, c10, c11])) ∧ Wc prog tbl 56 [(V.agg 4 [(Il x8), 
 c9, c10, c11])] m6 (fun v12 m13 => ∃ b14 : Bool, (v12 = (V.c (C.bool b14))) ∧ ifB (!b14) (Q (V.c (Il (1 : Int))) m13) (isPt (C.ptr m.nxt 0) ∧ 
 ∃ c15 : C, ((ldC m13 (C.ptr m.nxt 2)) = (some c15)) ∧ Wc prog tbl 57 [(V.c c15), 
 (V.c (C.fn (Fn.func 58) [] []))] m13 (fun v16 m17 => ∃ b18 : Bool, (v16 = (V.c (C.bool b18))) ∧ 
 ifB (!b18) (Q (V.c (Il (3 : Int))) m17) (Q (V.c (Il 0)) m17)))))))) : Wc prog tbl 20 [(V.agg 4 [(Il a100), a101, a102, a103])] m Q :=
 wc_eq (n := 1) rfl (by kernel_rfl) (by kernel_rfl) h
theorem w30 {a100 : Int} {a101 : C} {a102 : C} {a103 : C} {a104 : C} {a200 : Int} {a300 : C} {m : M} {Q : V → M → Prop} (h :
 (∀ m0 : M, (m0 = (M.new m (AO.cells 5 [(Il a100), a101, a102, a103, a104] false))) → ∀ m1 : M, 
 (m1 = (M.new m0 (AO.cells 1 [a300] false))) → ∀ m2 : M, (m2 = (M.new m1 (AO.cells 2 [(Il 0), 
 (Il 0)] false))) → ∀ m3 : M, (m3 = (M.new m2 (AO.cells 1 [C.sl0] false))) → 
 ∃ x4, ∃ c5 : C, ∃ c6 : C, ∃ c7 : C, ∃ c8 : C, ((ldA m3 (C.ptr m.nxt 0) 5) = (some [(Il x4), 
 c5, c6, c7, c8])) ∧ Wc prog tbl 40 [(V.agg 5 [(Il x4), c5, c6, c7, c8]), (V.c (Il a200))] m3 (fun v9 m10 => 
 ∃ c11 : C, (v9 = (V.c c11)) ∧ rangeP prog tbl c11 m10 (fun l12 m13 R14 R15 => ∃ x16, 
 ∃ x17, ∃ x18, ∃ x19, ∃ x20, ∃ x21, ∃ x22, ∃ x23, 
 ∃ x24, ∃ x25, ∃ x26, ∃ x27, ∃ x28, ∃ x29, 
 ∃ x30, ∃ x31, (l12 = [(V.agg 16 [(Il x16), (Il x17), 
 (Il x18), (Il x19), (Il x20), (Il x21), 
 (Il x22), (Il x23), (Il x24), (Il x25), 
 (Il x26), (Il x27), (Il x28), (Il x29), 
 (Il x30), (Il x31)])]) ∧ ∀ m32 : M, (m32 = (M.new m13 (AO.cells 16 [(Il 0), 
 (Il 0), (Il 0), (Il 0), 
 (Il 0), (Il 0), (Il 0), 
 (Il 0), (Il 0), (Il 0), 
 (Il 0), (Il 0), (Il 0), 
 (Il 0), (Il 0), (Il 0)] false))) → 
 ∃ m33 : M, ((stC m32 (C.ptr m13.nxt 0) 16 [(Il x16), (Il x17), 
 (Il x18), (Il x19), (Il x20), (Il x21), 
 (Il x22), (Il x23), (Il x24), (Il x25), 
 (Il x26), (Il x27), (Il x28), (Il x29), 
 (Il x30), (Il x31)]) = (some m33)) ∧ R14 m33 (fun m34 => 
 ∃ c35 : C, ((ldC m34 (C.ptr m2.nxt 0)) = (some c35)) ∧ isPt (C.ptr m0.nxt 0) ∧ 
 ∃ c36 : C, ((ldC m34 (C.ptr m0.nxt 0)) = (some c36)) ∧ ∃ x37, 
 ∃ x38, ∃ x39, ∃ x40, ∃ x41, ∃ x42, ∃ x43, 
 ∃ x44, ∃ x45, ∃ x46, ∃ x47, ∃ x48, ∃ x49, 
 ∃ x50, ∃ x51, ∃ x52, ((ldA m34 (C.ptr m13.nxt 0) 16) = (some [(Il x37), 
 (Il x38), (Il x39), (Il x40), (Il x41), 
 (Il x42), (Il x43), (Il x44), (Il x45), 
 (Il x46), (Il x47), (Il x48), (Il x49), 
 (Il x50), (Il x51), (Il x52)])) ∧ 
 callP prog tbl [(V.agg 16 [(Il x37), (Il x38), 
 (Il x39), (Il x40), (Il x41), (Il x42), 
 (Il x43), (Il x44), (Il x45), (Il x46), 
 (Il x47), (Il x48), (Il x49), (Il x50), 
 (Il x51), (Il x52)])] c36 m34 (fun v53 m54 => ∃ x55, 
 (v53 = (V.c (Il x55))) ∧ (ifB (cmC c35) ((ldC m54 (C.ptr m2.nxt 0)) = (some c35)) False) ∧ 
 ∀ m56 : M, (m56 = (M.new m54 (AO.cells 1 [(Il x55)] false))) → 
 (ifB (cmC c35) ((ldC m56 (C.ptr m2.nxt 0)) = (some c35)) False) ∧ ∃ c57 : C, 
 ∃ m58 : M, (ApR prog 39 m56 c35 (C.sl m54.nxt 0 1 0 (some 1)) c57 m58) ∧ 
 ∃ m59 : M, ((stC m58 (C.ptr m2.nxt 0) 1 [c57]) = (some m59)) ∧ R15 Ex.nrm m59))) (After.mk (fun m60 => 
 ∃ c61 : C, ((ldC m60 (C.ptr m2.nxt 0)) = (some c61)) ∧ Wc prog tbl 66 [(V.c c61)] m60 (fun v62 m63 => 
 ∃ x64, (v62 = (V.c (Il x64))) ∧ ∃ c65 : C, ((ldC m63 (C.ptr m2.nxt 0)) = (some c65)) ∧ 
 (ifB (cmC c65) ((ldC m60 (C.ptr m2.nxt 0)) = (some c65)) False) ∧ Wc prog tbl 67 [(V.c c65)] m63 (fun v66 m67 => 
 ∃ x68, (v66 = (V.c (Il x68))) ∧ ∃ m69 : M, ((stC m67 (C.ptr m1.nxt 0) 2 [(Il x64), 
 (Il x68)]) = (some m69)) ∧ ∃ x70, ∃ x71, 
 ((ldA m69 (C.ptr m1.nxt 0) 2) = (some [(Il x70), (Il x71)])) ∧ 
 Q (V.agg 2 [(Il x70), (Il x71)]) m69))) [] (fun m72 => 
 ∃ x73, ∃ x74, ((ldA m72 (C.ptr m1.nxt 0) 2) = (some [(Il x73), 
 (Il x74)])) ∧ Q (V.agg 2 [(Il x73), (Il x74)]) m72))))) : Wc prog tbl 30 [(V.agg 5 [(Il a100), a101, a102, a103, a104]), (V.c (Il a200)), (V.agg 1 [a300])] m Q :=
 wc_eq (n := 3) rfl (by kernel_rfl) (by kernel_rfl) h
theorem w34 {a100 : Int} {a101 : C} {a102 : C} {a103 : C} {a104 : C} {a200 : Int} {m : M} {Q : V → M → Prop} (h :
 (∀ m0 : M, (m0 = (M.new m (AO.cells 5 [(Il a100), a101, a102, a103, a104] false))) → ∀ m1 : M, 
 (m1 = (M.new m0 (AO.cells 1 [C.sl0] false))) → ∀ m2 : M, (m2 = (M.new m1 (AO.map [] 0))) → ∀ m3 : M, 
 (m3 = (M.new m2 (AO.cells 1 [C.map0] false))) → ∃ m4 : M, ((stC m3 (C.ptr m2.nxt 0) 1 [(C.map m1.nxt)]) = (some m4)) ∧ 
 ∃ x5, ∃ c6 : C, ∃ c7 : C, ∃ c8 : C, ∃ c9 : C, ((ldA m4 (C.ptr m.nxt 0) 5) = (some [(Il x5), 
 c6, c7, c8, c9])) ∧ Wc prog tbl 40 [(V.agg 5 [(Il x5), c6, c7, c8, c9]), 
 (V.c (Il a200))] m4 (fun v10 m11 => ∃ c12 : C, (v10 = (V.c c12)) ∧ rangeP prog tbl c12 m11 (fun l13 m14 R15 R16 => 
 ∃ x17, ∃ x18, ∃ x19, ∃ x20, ∃ x21, ∃ x22, ∃ x23, 
 ∃ x24, ∃ x25, ∃ x26, ∃ x27, ∃ x28, ∃ x29, 
 ∃ x30, ∃ x31, ∃ x32, (l13 = [(V.agg 16 [(Il x17), 
 (Il x18), (Il x19), (Il x20), (Il x21), 
 (Il x22), (Il x23), (Il x24), (Il x25), 
 (Il x26), (Il x27), (Il x28), (Il x29), 
 (Il x30), (Il x31), (Il x32)])]) ∧ 
 ∀ m33 : M, (m33 = (M.new m14 (AO.cells 16 [(Il 0), (Il 0), 
 (Il 0), (Il 0), (Il 0), 
 (Il 0), (Il 0), (Il 0), 
 (Il 0), (Il 0), (Il 0), 
 (Il 0), (Il 0), (Il 0), 
 (Il 0), (Il 0)] false))) → ∃ m34 : M, 
 ((stC m33 (C.ptr m14.nxt 0) 16 [(Il x17), (Il x18), 
 (Il x19), (Il x20), (Il x21), (Il x22), 
 (Il x23), (Il x24), (Il x25), (Il x26), 
 (Il x27), (Il x28), (Il x29), (Il x30), 
 (Il x31), (Il x32)]) = (some m34)) ∧ R15 m34 (fun m35 => 
 ∃ c36 : C, ((ldC m35 (C.ptr m2.nxt 0)) = (some c36)) ∧ isPt (C.ptr m14.nxt 0) ∧ 
 ∃ x37, ∃ x38, ∃ x39, ∃ x40, ∃ x41, ∃ x42, 
 ∃ x43, ∃ x44, ∃ x45, ∃ x46, ∃ x47, ∃ x48, 
 ∃ x49, ((ldA m35 (C.ptr m14.nxt 3) 13) = (some [(Il x37), 
 (Il x38), (Il x39), (Il x40), (Il x41), 
 (Il x42), (Il x43), (Il x44), (Il x45), 
 (Il x46), (Il x47), (Il x48), (Il x49)])) ∧ 
 ∃ y50 : Option U, ((lkM prog 87 m35 c36 (V.agg 13 [(Il x37), 
 (Il x38), (Il x39), (Il x40), (Il x41), 
 (Il x42), (Il x43), (Il x44), (Il x45), 
 (Il x46), (Il x47), (Il x48), (Il x49)])) = (some y50)) ∧ 
 ((y50 = Option.none) → ∃ c51 : C, ((ldC m35 (C.ptr m0.nxt 0)) = (some c51)) ∧ 
 isPt (C.ptr m14.nxt 0) ∧ ∃ x52, ∃ x53, ∃ x54, ∃ x55, 
 ∃ x56, ∃ x57, ∃ x58, ∃ x59, ∃ x60, ∃ x61, 
 ∃ x62, ∃ x63, ∃ x64, ((ldA m35 (C.ptr m14.nxt 3) 13) = (some [(Il x52), 
 (Il x53), (Il x54), (Il x55), (Il x56), 
 (Il x57), (Il x58), (Il x59), (Il x60), 
 (Il x61), (Il x62), (Il x63), (Il x64)])) ∧ 
 ∀ m65 : M, (m65 = (M.new m35 (AO.cells 13 [(Il x52), (Il x53), 
 (Il x54), (Il x55), (Il x56), (Il x57), 
 (Il x58), (Il x59), (Il x60), (Il x61), 
 (Il x62), (Il x63), (Il x64)] false))) → 
 ∃ c66 : C, ∃ m67 : M, (ApR prog 94 m65 c51 (C.sl m35.nxt 0 1 0 (some 1)) c66 m67) ∧ 
 ∃ m68 : M, ((stC m67 (C.ptr m0.nxt 0) 1 [c66]) = (some m68)) ∧ ∃ c69 : C, 
 ((ldC m68 (C.ptr m2.nxt 0)) = (some c69)) ∧ isPt (C.ptr m14.nxt 0) ∧ 
 ∃ x70, ∃ x71, ∃ x72, ∃ x73, ∃ x74, ∃ x75, 
 ∃ x76, ∃ x77, ∃ x78, ∃ x79, ∃ x80, ∃ x81, 
 ∃ x82, ((ldA m68 (C.ptr m14.nxt 3) 13) = (some [(Il x70), 
 (Il x71), (Il x72), (Il x73), (Il x74), 
 (Il x75), (Il x76), (Il x77), (Il x78), 
 (Il x79), (Il x80), (Il x81), (Il x82)])) ∧ 
 ∃ m83 : M, ((upM prog 87 m68 c69 (V.agg 13 [(Il x70), (Il x71), 
 (Il x72), (Il x73), (Il x74), (Il x75), 
 (Il x76), (Il x77), (Il x78), (Il x79), 
 (Il x80), (Il x81), (Il x82)]) (V.c (C.bool true))) = (some m83)) ∧ 
 R16 Ex.nrm m83) ∧ ∀ u84 : U, (y50 = (some u84)) → 
 ∃ b85 : Bool, (u84 = (U.c (C.bool b85))) ∧ ifB (!b85) (∃ c86 : C, ((ldC m35 (C.ptr m0.nxt 0)) = (some c86)) ∧ 
 isPt (C.ptr m14.nxt 0) ∧ ∃ x87, ∃ x88, ∃ x89, ∃ x90, 
 ∃ x91, ∃ x92, ∃ x93, ∃ x94, ∃ x95, ∃ x96, 
 ∃ x97, ∃ x98, ∃ x99, ((ldA m35 (C.ptr m14.nxt 3) 13) = (some [(Il x87), 
 (Il x88), (Il x89), (Il x90), (Il x91), 
 (Il x92), (Il x93), (Il x94), (Il x95), 
 (Il x96), (Il x97), (Il x98), (Il x99)])) ∧ 
 ∀ m100 : M, (m100 = (M.new m35 (AO.cells 13 [(Il x87), (Il x88), 
 (Il x89), (Il x90), (Il x91), (Il x92), 
 (Il x93), (Il x94), (Il x95), (Il x96), 
 (Il x97), (Il x98), (Il x99)] false))) → 
 ∃ c101 : C, ∃ m102 : M, (ApR prog 94 m100 c86 (C.sl m35.nxt 0 1 0 (some 1)) c101 m102) ∧ 
 ∃ m103 : M, ((stC m102 (C.ptr m0.nxt 0) 1 [c101]) = (some m103)) ∧ 
 ∃ c104 : C, ((ldC m103 (C.ptr m2.nxt 0)) = (some c104)) ∧ isPt (C.ptr m14.nxt 0) ∧ 
 ∃ x105, ∃ x106, ∃ x107, ∃ x108, ∃ x109, ∃ x110, 
 ∃ x111, ∃ x112, ∃ x113, ∃ x114, ∃ x115, ∃ x116, 
 ∃ x117, ((ldA m103 (C.ptr m14.nxt 3) 13) = (some [(Il x105), 
 (Il x106), (Il x107), (Il x108), 
 (Il x109), (Il x110), (Il x111), 
 (Il x112), (Il x113), (Il x114), 
 (Il x115), (Il x116), (Il x117)])) ∧ 
 ∃ m118 : M, ((upM prog 87 m103 c104 (V.agg 13 [(Il x105), (Il x106), 
 (Il x107), (Il x108), (Il x109), 
 (Il x110), (Il x111), (Il x112), 
 (Il x113), (Il x114), (Il x115), 
 (Il x116), (Il x117)]) (V.c (C.bool true))) = (some m118)) ∧ 
 R16 Ex.nrm m118) (∃ c119 : C, ((ldC m35 (C.ptr m2.nxt 0)) = (some c119)) ∧ 
 isPt (C.ptr m14.nxt 0) ∧ ∃ x120, ∃ x121, ∃ x122, ∃ x123, 
 ∃ x124, ∃ x125, ∃ x126, ∃ x127, ∃ x128, ∃ x129, 
 ∃ x130, ∃ x131, ∃ x132, ((ldA m35 (C.ptr m14.nxt 3) 13) = (some [(Il x120), 
 (Il x121), (Il x122), (Il x123), 
 (Il x124), (Il x125), (Il x126), 
 (Il x127), (Il x128), (Il x129), 
 (Il x130), (Il x131), (Il x132)])) ∧ 
 ∃ m133 : M, ((upM prog 87 m35 c119 (V.agg 13 [(Il x120), (Il x121), 
 (Il x122), (Il x123), (Il x124), 
 (Il x125), (Il x126), (Il x127), 
 (Il x128), (Il x129), (Il x130), 
 (Il x131), (Il x132)]) (V.c (C.bool true))) = (some m133)) ∧ 
 R16 Ex.nrm m133))) (After.mk (fun m134 => 
 ∃ c135 : C, ((ldC m134 (C.ptr m0.nxt 0)) = (some c135)) ∧ Q (V.c c135) m134) [] (fun m136 => 
 Q (V.c C.sl0) m136))))) : Wc prog tbl 34 [(V.agg 5 [(Il a100), a101, a102, a103, a104]), (V.c (Il a200))] m Q :=
 wc_eq (n := 2) rfl (by kernel_rfl) (by kernel_rfl) h
theorem w38 {a100 : C} {a200 : C} {m : M} {Q : V → M → Prop} (h :
 (Wc prog tbl 69 [(V.c a100), (V.c a200)] m (fun v0 m1 => ∃ x2, (v0 = (V.c (Il x2))) ∧ Q (V.c (C.bool (decide ((0 : Int) ≤ x2)))) m1))) : Wc prog tbl 38 [(V.c a100), (V.c a200)] m Q :=
 wc_eq (n := 2) rfl (by kernel_rfl) (by kernel_rfl) h
theorem w50 {a100 : Int} {a101 : C} {a102 : C} {a103 : C} {m : M} {Q : V → M → Prop} (h :
 (∀ m0 : M, (m0 = (M.new m (AO.cells 4 [(Il a100), a101, a102, a103] false))) → ∀ m1 : M, (m1 = (M.new m0 (AO.cells 5 [(Il 0), 
 C.sl0, C.sl0, C.sl0, C.map0] false))) → ∃ x2, ∃ c3 : C, ∃ c4 : C, ∃ c5 : C, ((ldA m1 (C.ptr m.nxt 0) 4) = (some [(Il x2), 
 c3, c4, c5])) ∧ Wc prog tbl 20 [(V.agg 4 [(Il x2), c3, c4, c5])] m1 (fun v6 m7 => 
 ∃ x8, (v6 = (V.c (Il x8))) ∧ ifB (!decide (x8 = 0)) (∃ m9 : M, ((stC m7 (C.ptr m0.nxt 0) 5 [(Il 0), 
 C.sl0, C.sl0, C.sl0, C.map0]) = (some m9)) ∧ ∃ x10, ∃ c11 : C, ∃ c12 : C, 
 ∃ c13 : C, ∃ c14 : C, ((ldA m9 (C.ptr m0.nxt 0) 5) = (some [(Il x10), 
 c11, c12, c13, c14])) ∧ Q (V.tup [(U.agg 5 [(Il x10), c11, c12, c13, 
 c14]), (U.c (Il x8))]) m9) (∃ x15, ∃ c16 : C, ∃ c17 : C, 
 ∃ c18 : C, ((ldA m7 (C.ptr m.nxt 0) 4) = (some [(Il x15), c16, c17, 
 c18])) ∧ Wc prog tbl 46 [(V.agg 4 [(Il x15), c16, c17, c18])] m7 (fun v19 m20 => 
 ∃ x21, ∃ c22 : C, ∃ c23 : C, ∃ c24 : C, ∃ c25 : C, (v19 = (V.agg 5 [(Il x21), 
 c22, c23, c24, c25])) ∧ ∀ m26 : M, (m26 = (M.new m20 (AO.cells 5 [(Il 0), 
 C.sl0, C.sl0, C.sl0, C.map0] false))) → ∃ m27 : M, ((stC m26 (C.ptr m20.nxt 0) 5 [(Il x21), 
 c22, c23, c24, c25]) = (some m27)) ∧ ∃ x28, ∃ c29 : C, ∃ c30 : C, 
 ∃ c31 : C, ∃ c32 : C, ((ldA m27 (C.ptr m20.nxt 0) 5) = (some [(Il x28), 
 c29, c30, c31, c32])) ∧ Wc prog tbl 54 [(V.agg 5 [(Il x28), c29, 
 c30, c31, c32])] m27 (fun v33 m34 => ∃ b35 : Bool, (v33 = (V.c (C.bool b35))) ∧ 
 ifB (!b35) (∃ m36 : M, ((stC m34 (C.ptr m0.nxt 0) 5 [(Il 0), 
 C.sl0, C.sl0, C.sl0, C.map0]) = (some m36)) ∧ ∃ x37, ∃ c38 : C, 
 ∃ c39 : C, ∃ c40 : C, ∃ c41 : C, ((ldA m36 (C.ptr m0.nxt 0) 5) = (some [(Il x37), 
 c38, c39, c40, c41])) ∧ Q (V.tup [(U.agg 5 [(Il x37), c38, c39, 
 c40, c41]), (U.c (Il (11 : Int)))]) m36) (∃ x42, 
 ∃ c43 : C, ∃ c44 : C, ∃ c45 : C, ∃ c46 : C, ((ldA m34 (C.ptr m20.nxt 0) 5) = (some [(Il x42), 
 c43, c44, c45, c46])) ∧ ∃ m47 : M, ((stC m34 (C.ptr m0.nxt 0) 5 [(Il x42), 
 c43, c44, c45, c46]) = (some m47)) ∧ ∃ x48, ∃ c49 : C, ∃ c50 : C, 
 ∃ c51 : C, ∃ c52 : C, ((ldA m47 (C.ptr m0.nxt 0) 5) = (some [(Il x48), 
 c49, c50, c51, c52])) ∧ Q (V.tup [(U.agg 5 [(Il x48), c49, c50, 
 c51, c52]), (U.c (Il 0))]) m47))))))) : Wc prog tbl 50 [(V.agg 4 [(Il a100), a101, a102, a103])] m Q :=
 wc_eq (n := 1) rfl (by kernel_rfl) (by kernel_rfl) h
theorem w56 {a100 : Int} {a101 : C} {a102 : C} {a103 : C} {m : M} {Q : V → M → Prop} (h :
 (∀ m0 : M, (m0 = (M.new m (AO.cells 4 [(Il a100), a101, a102, a103] false))) → isPt (C.ptr m.nxt 0) ∧ 
 ∃ x1, ((ldC m0 (C.ptr m.nxt 0)) = (some (Il x1))) ∧ ifB (decide ((0 : Int) ≤ x1)) (isPt (C.ptr m.nxt 0) ∧ 
 ∃ c2 : C, ((ldC m0 (C.ptr m.nxt 1)) = (some c2)) ∧ isSl c2 ∧ ifB (decide ((0 : Int) < (((slLen c2) : Nat) : Int))) (isPt (C.ptr m.nxt 0) ∧ 
 ∃ c3 : C, ((ldC m0 (C.ptr m.nxt 2)) = (some c3)) ∧ isSl c3 ∧ ifB (decide ((0 : Int) < (((slLen c3) : Nat) : Int))) (isPt (C.ptr m.nxt 0) ∧ 
 ∃ c4 : C, ((ldC m0 (C.ptr m.nxt 1)) = (some c4)) ∧ ∃ x5, ∃ c6 : C, ∃ c7 : C, 
 ∃ c8 : C, ((ldA m0 (C.ptr m.nxt 0) 4) = (some [(Il x5), c6, 
 c7, c8])) ∧ optB (mapO vW [(V.agg 4 [(Il x5), c6, c7, c8])]) False fun l9 => 
 Wc prog tbl 87 [(V.c c4), (V.c (C.fn (Fn.func 88) l9 []))] m0 (fun v10 m11 => ∃ b12 : Bool, 
 (v10 = (V.c (C.bool b12))) ∧ ifB b12 (isPt (C.ptr m.nxt 0) ∧ ∃ c13 : C, ((ldC m11 (C.ptr m.nxt 2)) = (some c13)) ∧ 
 ∃ x14, ∃ c15 : C, ∃ c16 : C, ∃ c17 : C, ((ldA m11 (C.ptr m.nxt 0) 4) = (some [(Il x14), 
 c15, c16, c17])) ∧ optB (mapO vW [(V.agg 4 [(Il x14), c15, c16, 
 c17])]) False fun l18 => Wc prog tbl 57 [(V.c c13), (V.c (C.fn (Fn.func 89) l18 []))] m11 (fun v19 m20 => 
 ∃ b21 : Bool, (v19 = (V.c (C.bool b21))) ∧ ifB b21 (isPt (C.ptr m.nxt 0) ∧ 
 ∃ c22 : C, ((ldC m20 (C.ptr m.nxt 3)) = (some c22)) ∧ ∃ x23, 
 ∃ c24 : C, ∃ c25 : C, ∃ c26 : C, ((ldA m20 (C.ptr m.nxt 0) 4) = (some [(Il x23), 
 c24, c25, c26])) ∧ optB (mapO vW [(V.agg 4 [(Il x23), c24, c25, 
 c26])]) False fun l27 => Wc prog tbl 81 [(V.c c22), (V.c (C.fn (Fn.func 90) l27 []))] m20 (fun v28 m29 => 
 ∃ b30 : Bool, (v28 = (V.c (C.bool b30))) ∧ Q (V.c (C.bool b30)) m29)) (Q (V.c (C.bool false)) m20))) (Q (V.c (C.bool false)) m11))) (Q (V.c (C.bool false)) m0)) (Q (V.c (C.bool false)) m0)) (Q (V.c (C.bool false)) m0))) : Wc prog tbl 56 [(V.agg 4 [(Il a100), a101, a102, a103])] m Q :=
 wc_eq (n := 1) rfl (by kernel_rfl) (by kernel_rfl) h
theorem w59 {a100 : Int} {a101 : C} {a102 : C} {a103 : C} {m : M} {Q : V → M → Prop} (h :
 (∀ m0 : M, (m0 = (M.new m (AO.cells 4 [(Il a100), a101, a102, a103] false))) → isPt (C.ptr m.nxt 0) ∧ 
 ∃ c1 : C, ((ldC m0 (C.ptr m.nxt 1)) = (some c1)) ∧ isSl c1 ∧ ifB (decide ((5 : Int) < (((slLen c1) : Nat) : Int))) (Q (V.c (C.bool false)) m0) (isPt (C.ptr m.nxt 0) ∧ 
 ∃ c2 : C, ((ldC m0 (C.ptr m.nxt 2)) = (some c2)) ∧ isSl c2 ∧ ifB (decide ((5 : Int) < (((slLen c2) : Nat) : Int))) (Q (V.c (C.bool false)) m0) (isPt (C.ptr m.nxt 0) ∧ 
 ∃ c3 : C, ((ldC m0 (C.ptr m.nxt 3)) = (some c3)) ∧ isSl c3 ∧ ifB (decide ((9 : Int) < (((slLen c3) : Nat) : Int))) (Q (V.c (C.bool false)) m0) (∀ R4 : List V → 
 M → Prop, (∀ b5 : Bool, ∀ x6 : Int, ∀ m7 : M, (isPt (C.ptr m.nxt 0) ∧ ∃ c8 : C, ((ldC m7 (C.ptr m.nxt 1)) = (some c8)) ∧ 
 isSl c8 ∧ ifB (decide (x6 < (((slLen c8) : Nat) : Int))) (isPt (C.ptr m.nxt 0) ∧ 
 ∃ c9 : C, ((ldC m7 (C.ptr m.nxt 1)) = (some c9)) ∧ ∃ n10 : Nat, (x6 = ((n10 : Nat) : Int)) ∧ 
 (n10 < (slLen c9)) ∧ ∃ c11 : C, ((ldC m7 (slAt c9 (n10 * 1))) = (some c11)) ∧ 
 isSl c11 ∧ ifB (decide ((20 : Int) < (((slLen c11) : Nat) : Int))) (Q (V.c (C.bool false)) m7) (fitsP .i64 (x6 + 1) ∧ 
 R4 [(V.c (C.bool b5)), (V.c (Il (x6 + 1)))] m7)) (∃ x12, 
 ∃ c13 : C, ∃ c14 : C, ∃ c15 : C, ((ldA m7 (C.ptr m.nxt 0) 4) = (some [(Il x12), 
 c13, c14, c15])) ∧ Wc prog tbl 60 [(V.agg 4 [(Il x12), c13, c14, 
 c15])] m7 (fun v16 m17 => ∃ x18, (v16 = (V.c (Il x18))) ∧ 
 ∀ R19 : List V → M → Prop, (∀ b20 : Bool, ∀ x21 : Int, ∀ m22 : M, (isPt (C.ptr m.nxt 0) ∧ 
 ∃ c23 : C, ((ldC m22 (C.ptr m.nxt 2)) = (some c23)) ∧ isSl c23 ∧ 
 ifB (decide (x21 < (((slLen c23) : Nat) : Int))) (ifB (!(!decide (x18 = 0))) (isPt (C.ptr m.nxt 0) ∧ 
 ∃ c24 : C, ((ldC m22 (C.ptr m.nxt 2)) = (some c24)) ∧ ∃ n25 : Nat, 
 (x21 = ((n25 : Nat) : Int)) ∧ (n25 < (slLen c24)) ∧ ∃ x26, ∃ x27, 
 ∃ x28, ∃ x29, ∃ x30, ∃ x31, ∃ x32, ((ldA m22 (slAt c24 (n25 * 7)) 7) = (some [(Il x26), 
 (Il x27), (Il x28), (Il x29), (Il x30), 
 (Il x31), (Il x32)])) ∧ Wc prog tbl 94 [(V.agg 7 [(Il x26), 
 (Il x27), (Il x28), (Il x29), (Il x30), 
 (Il x31), (Il x32)])] m22 (fun v33 m34 => ∃ x35, 
 (v33 = (V.c (Il x35))) ∧ ifB (decide ((200 : Int) < x35)) (Q (V.c (C.bool false)) m34) (fitsP .i64 (x21 + 1) ∧ 
 R19 [(V.c (C.bool b20)), (V.c (Il (x21 + 1)))] m34))) (fitsP .i64 (x21 + 1) ∧ 
 R19 [(V.c (C.bool b20)), (V.c (Il (x21 + 1)))] m22)) (Q (V.c (C.bool true)) m22)) → 
 R19 [(V.c (C.bool b20)), (V.c (Il x21))] m22) → R19 [(V.c (C.bool b5)), 
 (V.c (Il 0))] m17))) → R4 [(V.c (C.bool b5)), 
 (V.c (Il x6))] m7) → R4 [(V.c (C.bool false)), (V.c (Il 0))] m0))))) : Wc prog tbl 59 [(V.agg 4 [(Il a100), a101, a102, a103])] m Q :=
 wc_eq (n := 1) rfl (by kernel_rfl) (by kernel_rfl) h
theorem w62 {a100 : Int} {a101 : Int} {m : M} {Q : V → M → Prop} (h :
 (∀ m0 : M, (m0 = (M.new m (AO.cells 2 [(Il a100), (Il a101)] false))) → ∀ m1 : M, 
 (m1 = (M.new m0 (AO.cells 2 [(Il 0), (Il 0)] false))) → isPt (C.ptr m.nxt 0) ∧ 
 ∃ x2, ((ldC m1 (C.ptr m.nxt 0)) = (some (Il x2))) ∧ isPt (C.ptr m.nxt 0) ∧ 
 ∃ x3, ((ldC m1 (C.ptr m.nxt 1)) = (some (Il x3))) ∧ ∃ m4 : M, ((stC m1 (C.ptr m0.nxt 0) 2 [(Il x2), 
 (Il x3)]) = (some m4)) ∧ ∃ x5, ∃ x6, ((ldA m4 (C.ptr m0.nxt 0) 2) = (some [(Il x5), 
 (Il x6)])) ∧ Q (V.agg 2 [(Il x5), (Il x6)]) m4)) : Wc prog tbl 62 [(V.agg 2 [(Il a100), (Il a101)])] m Q :=
 wc_eq (n := 1) rfl (by kernel_rfl) (by kernel_rfl) h
theorem w65 {a100 : Int} {a101 : Int} {a200 : Int} {m : M} {Q : V → M → Prop} (h :
 (∀ m0 : M, (m0 = (M.new m (AO.cells 2 [(Il a100), (Il a101)] false))) → isPt (C.ptr m.nxt 0) ∧ 
 ∃ x1, ((ldC m0 (C.ptr m.nxt 0)) = (some (Il x1))) ∧ ifB (decide (x1 ≤ a200)) (isPt (C.ptr m.nxt 0) ∧ 
 ∃ x2, ((ldC m0 (C.ptr m.nxt 1)) = (some (Il x2))) ∧ Q (V.c (C.bool (decide (a200 ≤ x2)))) m0) (Q (V.c (C.bool false)) m0))) : Wc prog tbl 65 [(V.agg 2 [(Il a100), (Il a101)]), (V.c (Il a200))] m Q :=
 wc_eq (n := 2) rfl (by kernel_rfl) (by kernel_rfl) h
theorem w69 {a100 : C} {a200 : C} {m : M} {Q : V → M → Prop} (h :
 (isSl a100 ∧ ∀ R0 : List V → M → Prop, (∀ x1 : Int, ∀ x2 : Int, ∀ m3 : M, (ifB (decide (x2 < (((slLen a100) : Nat) : Int))) (∃ n4 : Nat, 
 (x2 = ((n4 : Nat) : Int)) ∧ (n4 < (slLen a100)) ∧ ∃ x5, ∃ x6, ∃ x7, ∃ x8, 
 ∃ x9, ∃ x10, ∃ x11, ∃ x12, ∃ x13, ∃ x14, ∃ x15, 
 ∃ x16, ∃ x17, ((ldA m3 (slAt a100 (n4 * 13)) 13) = (some [(Il x5), 
 (Il x6), (Il x7), (Il x8), (Il x9), 
 (Il x10), (Il x11), (Il x12), (Il x13), 
 (Il x14), (Il x15), (Il x16), (Il x17)])) ∧ 
 callP prog tbl [(V.agg 13 [(Il x5), (Il x6), (Il x7), 
 (Il x8), (Il x9), (Il x10), (Il x11), 
 (Il x12), (Il x13), (Il x14), (Il x15), 
 (Il x16), (Il x17)])] a200 m3 (fun v18 m19 => ∃ b20 : Bool, 
 (v18 = (V.c (C.bool b20))) ∧ ifB b20 (Q (V.c (Il x2)) m19) (fitsP .i64 (x2 + 1) ∧ 
 R0 [(V.c (Il x1)), (V.c (Il (x2 + 1)))] m19))) (Q (V.c (Il (-1 : Int))) m3)) → 
 R0 [(V.c (Il x1)), (V.c (Il x2))] m3) → R0 [(V.c (Il 0)), 
 (V.c (Il 0))] m)) : Wc prog tbl 69 [(V.c a100), (V.c a200)] m Q :=
 wc_eq (n := 2) rfl (by kernel_rfl) (by kernel_rfl) h
theorem w76 {a100 : Int} {a101 : Int} {m : M} {Q : V → M → Prop} (h :
 (∀ m0 : M, (m0 = (M.new m (AO.cells 2 [(Il a100), (Il a101)] false))) → Q (V.c (C.fn (Fn.func 100) [] [(W.c (C0.ptr m.nxt 0))])) m0)) : Wc prog tbl 76 [(V.agg 2 [(Il a100), (Il a101)])] m Q :=
 wc_eq (n := 1) rfl (by kernel_rfl) (by kernel_rfl) h
theorem w86 {a100 : Int} {a101 : C} {a102 : C} {a103 : C} {a104 : C} {a200 : Int} {m : M} {Q : V → M → Prop} (h :
 (∀ m0 : M, (m0 = (M.new m (AO.cells 5 [(Il a100), a101, a102, a103, a104] false))) → ∀ m1 : M, 
 (m1 = (M.new m0 (AO.cells 1 [(C.bool false)] false))) → ∃ x2, ∃ c3 : C, ∃ c4 : C, ∃ c5 : C, ∃ c6 : C, 
 ((ldA m1 (C.ptr m.nxt 0) 5) = (some [(Il x2), c3, c4, c5, c6])) ∧ Wc prog tbl 40 [(V.agg 5 [(Il x2), 
 c3, c4, c5, c6]), (V.c (Il a200))] m1 (fun v7 m8 => ∃ c9 : C, (v7 = (V.c c9)) ∧ 
 rangeP prog tbl c9 m8 (fun l10 m11 R12 R13 => ∃ x14, ∃ x15, ∃ x16, ∃ x17, 
 ∃ x18, ∃ x19, ∃ x20, ∃ x21, ∃ x22, ∃ x23, ∃ x24, 
 ∃ x25, ∃ x26, ∃ x27, ∃ x28, ∃ x29, (l10 = [(V.agg 16 [(Il x14), 
 (Il x15), (Il x16), (Il x17), (Il x18), 
 (Il x19), (Il x20), (Il x21), (Il x22), 
 (Il x23), (Il x24), (Il x25), (Il x26), 
 (Il x27), (Il x28), (Il x29)])]) ∧ 
 R12 m11 (fun m30 => ∃ m31 : M, ((stC m30 (C.ptr m0.nxt 0) 1 [(C.bool true)]) = (some m31)) ∧ 
 R13 Ex.ret m31)) (After.mk (fun m32 => ∃ m33 : M, ((stC m32 (C.ptr m0.nxt 0) 1 [(C.bool false)]) = (some m33)) ∧ 
 ∃ b34 : Bool, ((ldC m33 (C.ptr m0.nxt 0)) = (some (C.bool b34))) ∧ Q (V.c (C.bool b34)) m33) [] (fun m35 => 
 ∃ b36 : Bool, ((ldC m35 (C.ptr m0.nxt 0)) = (some (C.bool b36))) ∧ Q (V.c (C.bool b36)) m35))))) : Wc prog tbl 86 [(V.agg 5 [(Il a100), a101, a102, a103, a104]), (V.c (Il a200))] m Q :=
 wc_eq (n := 2) rfl (by kernel_rfl) (by kernel_rfl) h
theorem w89 {a100 : Int} {a101 : C} {a102 : C} {a103 : C} {a200 : Int} {a201 : Int} {a202 : Int} {a203 : Int} {a204 : Int} {a205 : Int} {a206 : Int} {m : M} {Q : V → M → Prop} (h :
 (∀ m0 : M, (m0 = (M.new m (AO.cells 4 [(Il a100), a101, a102, a103] false))) → ∀ m1 : M, (m1 = (M.new m0 (AO.cells 7 [(Il a200), 
 (Il a201), (Il a202), (Il a203), (Il a204), 
 (Il a205), (Il a206)] false))) → isPt (C.ptr m.nxt 0) ∧ ∃ c2 : C, 
 ((ldC m1 (C.ptr m.nxt 1)) = (some c2)) ∧ isSl c2 ∧ fitsP .i64 ((((slLen c2) : Nat) : Int) - (1 : Int)) ∧ 
 isPt (C.ptr m0.nxt 0) ∧ ∃ x3, ((ldC m1 (C.ptr m0.nxt 0)) = (some (Il x3))) ∧ 
 Wc prog tbl 65 [(V.agg 2 [(Il 0), (Il ((((slLen c2) : Nat) : Int) - (1 : Int)))]), 
 (V.c (Il x3))] m1 (fun v4 m5 => ∃ b6 : Bool, (v4 = (V.c (C.bool b6))) ∧ ifB b6 (isPt (C.ptr m0.nxt 0) ∧ 
 ∃ x7, ∃ x8, ((ldA m5 (C.ptr m0.nxt 1) 2) = (some [(Il x7), 
 (Il x8)])) ∧ isPt (C.ptr m.nxt 0) ∧ ∃ x9, ((ldC m5 (C.ptr m.nxt 0)) = (some (Il x9))) ∧ 
 Wc prog tbl 107 [(V.agg 2 [(Il x7), (Il x8)]), (V.c (Il 0)), 
 (V.c (Il x9))] m5 (fun v10 m11 => ∃ b12 : Bool, (v10 = (V.c (C.bool b12))) ∧ 
 ifB b12 (isPt (C.ptr m0.nxt 0) ∧ ∃ x13, ∃ x14, ((ldA m11 (C.ptr m0.nxt 3) 2) = (some [(Il x13), 
 (Il x14)])) ∧ Wc prog tbl 107 [(V.agg 2 [(Il x13), 
 (Il x14)]), (V.c (Il 0)), (V.c (Il (100 : Int)))] m11 (fun v15 m16 => 
 ∃ b17 : Bool, (v15 = (V.c (C.bool b17))) ∧ ifB b17 (isPt (C.ptr m0.nxt 0) ∧ 
 ∃ x18, ∃ x19, ((ldA m16 (C.ptr m0.nxt 5) 2) = (some [(Il x18), 
 (Il x19)])) ∧ Wc prog tbl 107 [(V.agg 2 [(Il x18), 
 (Il x19)]), (V.c (Il 0)), (V.c (Il (100 : Int)))] m16 (fun v20 m21 => 
 ∃ b22 : Bool, (v20 = (V.c (C.bool b22))) ∧ Q (V.c (C.bool b22)) m21)) (Q (V.c (C.bool false)) m16))) (Q (V.c (C.bool false)) m11))) (Q (V.c (C.bool false)) m5)))) : Wc prog tbl 89 [(V.agg 4 [(Il a100), a101, a102, a103]), (V.agg 7 [(Il a200), (Il a201), (Il a202), (Il a203), (Il a204), (Il a205), (Il a206)])] m Q :=
 wc_eq (n := 2) rfl (by kernel_rfl) (by kernel_rfl) h
theorem w93 {a100 : Int} {a101 : Int} {m : M} {Q : V → M → Prop} (h :
 (∀ m0 : M, (m0 = (M.new m (AO.cells 2 [(Il a100), (Il a101)] false))) → isPt (C.ptr m.nxt 0) ∧ 
 ∃ x1, ((ldC m0 (C.ptr m.nxt 1)) = (some (Il x1))) ∧ isPt (C.ptr m.nxt 0) ∧ 
 ∃ x2, ((ldC m0 (C.ptr m.nxt 0)) = (some (Il x2))) ∧ fitsP .i64 (x1 - x2) ∧ 
 fitsP .i64 ((x1 - x2) + (1 : Int)) ∧ Q (V.c (Il ((x1 - x2) + (1 : Int)))) m0)) : Wc prog tbl 93 [(V.agg 2 [(Il a100), (Il a101)])] m Q :=
 wc_eq (n := 1) rfl (by kernel_rfl) (by kernel_rfl) h
theorem w96 {a100 : Int} {a101 : Int} {a200 : Int} {a300 : Int} {m : M} {Q : V → M → Prop} (h :
 (∀ m0 : M, (m0 = (M.new m (AO.cells 2 [(Il a100), (Il a101)] false))) → isPt (C.ptr m.nxt 0) ∧ 
 ∃ x1, ((ldC m0 (C.ptr m.nxt 0)) = (some (Il x1))) ∧ ifB (decide (a200 ≤ x1)) (isPt (C.ptr m.nxt 0) ∧ 
 ∃ x2, ((ldC m0 (C.ptr m.nxt 0)) = (some (Il x2))) ∧ isPt (C.ptr m.nxt 0) ∧ 
 ∃ x3, ((ldC m0 (C.ptr m.nxt 1)) = (some (Il x3))) ∧ ifB (decide (x2 ≤ x3)) (isPt (C.ptr m.nxt 0) ∧ 
 ∃ x4, ((ldC m0 (C.ptr m.nxt 1)) = (some (Il x4))) ∧ Q (V.c (C.bool (decide (x4 ≤ a300)))) m0) (Q (V.c (C.bool false)) m0)) (Q (V.c (C.bool false)) m0))) : Wc prog tbl 96 [(V.agg 2 [(Il a100), (Il a101)]), (V.c (Il a200)), (V.c (Il a300))] m Q :=
 wc_eq (n := 3) rfl (by kernel_rfl) (by kernel_rfl) h
theorem w104 {a100 : C} {a200 : C} {m : M} {Q : V → M → Prop} (h :
 (Wc prog tbl 111 [(V.c a100), (V.c a200)] m (fun v0 m1 => ∃ x2, (v0 = (V.c (Il x2))) ∧ Q (V.c (C.bool (decide ((0 : Int) ≤ x2)))) m1))) : Wc prog tbl 104 [(V.c a100), (V.c a200)] m Q :=
 wc_eq (n := 2) rfl (by kernel_rfl) (by kernel_rfl) h
theorem w108 {a100 : C} {a200 : C} {m : M} {Q : V → M → Prop} (h :
 (isSl a100 ∧ ∀ R0 : List V → M → Prop, (∀ x1 : Int, ∀ x2 : Int, ∀ m3 : M, (ifB (decide (x2 < (((slLen a100) : Nat) : Int))) (∃ n4 : Nat, 
 (x2 = ((n4 : Nat) : Int)) ∧ (n4 < (slLen a100)) ∧ ∃ x5, ∃ x6, ∃ x7, ∃ x8, 
 ∃ x9, ∃ x10, ∃ x11, ((ldA m3 (slAt a100 (n4 * 7)) 7) = (some [(Il x5), 
 (Il x6), (Il x7), (Il x8), (Il x9), 
 (Il x10), (Il x11)])) ∧ callP prog tbl [(V.agg 7 [(Il x5), 
 (Il x6), (Il x7), (Il x8), (Il x9), 
 (Il x10), (Il x11)])] a200 m3 (fun v12 m13 => ∃ b14 : Bool, 
 (v12 = (V.c (C.bool b14))) ∧ ifB b14 (Q (V.c (Il x2)) m13) (fitsP .i64 (x2 + 1) ∧ 
 R0 [(V.c (Il x1)), (V.c (Il (x2 + 1)))] m13))) (Q (V.c (Il (-1 : Int))) m3)) → 
 R0 [(V.c (Il x1)), (V.c (Il x2))] m3) → R0 [(V.c (Il 0)), 
 (V.c (Il 0))] m)) : Wc prog tbl 108 [(V.c a100), (V.c a200)] m Q :=
 wc_eq (n := 2) rfl (by kernel_rfl) (by kernel_rfl) h
theorem w111 {a100 : C} {a200 : C} {m : M} {Q : V → M → Prop} (h :
 (isSl a100 ∧ ∀ R0 : List V → M → Prop, (∀ x1 : Int, ∀ x2 : Int, ∀ m3 : M, (ifB (decide (x2 < (((slLen a100) : Nat) : Int))) (∃ n4 : Nat, 
 (x2 = ((n4 : Nat) : Int)) ∧ (n4 < (slLen a100)) ∧ ∃ c5 : C, ((ldC m3 (slAt a100 (n4 * 1))) = (some c5)) ∧ 
 callP prog tbl [(V.c c5)] a200 m3 (fun v6 m7 => ∃ b8 : Bool, (v6 = (V.c (C.bool b8))) ∧ ifB b8 (Q (V.c (Il x2)) m7) (fitsP .i64 (x2 + 1) ∧ 
 R0 [(V.c (Il x1)), (V.c (Il (x2 + 1)))] m7))) (Q (V.c (Il (-1 : Int))) m3)) → 
 R0 [(V.c (Il x1)), (V.c (Il x2))] m3) → R0 [(V.c (Il 0)), 
 (V.c (Il 0))] m)) : Wc prog tbl 111 [(V.c a100), (V.c a200)] m Q :=
 wc_eq (n := 2) rfl (by kernel_rfl) (by kernel_rfl) h
end
end Go.Proofs.Ytmlaphekbnanjaa

namespace Go.Proofs.Ytmlaphekbnanjaa
open _root_.Go.Proofs.Try
open Go.Abs
set_option maxRecDepth 100000
noncomputable section
theorem w11 {a100 : Int} {a101 : C} {a102 : C} {a103 : C} {a200 : Int} {a300 : Int} {m : M} {Q : V → M → Prop} (h :
 (∀ m0 : M, (m0 = (M.new m (AO.cells 4 [(Il a100), a101, a102, a103] false))) → ∀ m1 : M, (m1 = (M.new m0 (AO.cells 1 [(Il a300)] false))) → 
 ∀ m2 : M, (m2 = (mGrow m1 1)) → ∃ x3, ∃ c4 : C, ∃ c5 : C, ∃ c6 : C, ((ldA m2 (C.ptr m.nxt 0) 4) = (some [(Il x3), 
 c4, c5, c6])) ∧ ∃ x7, ((ldC m2 (C.ptr m0.nxt 0)) = (some (Il x7))) ∧ 
 Wc prog tbl 33 [(V.c (Il x7))] m2 (fun v8 m9 => ∃ b10 : Bool, (v8 = (V.c (C.bool b10))) ∧ 
 (ifB (allS cmC [(Il x3), c4, c5, c6]) ((ldA m9 (C.ptr m.nxt 0) 4) = (some [(Il x3), 
 c4, c5, c6])) False) ∧ Wc prog tbl 28 [(V.agg 4 [(Il x3), c4, c5, c6]), 
 (V.c (Il a200)), (V.c (C.bool b10))] m9 (fun v11 m12 => ∃ x13, ∃ c14 : C, 
 ∃ c15 : C, ∃ c16 : C, ∃ c17 : C, ∃ x18, (v11 = (V.tup [(U.agg 5 [(Il x13), 
 c14, c15, c16, c17]), (U.c (Il x18))])) ∧ ∀ m19 : M, (m19 = (M.set m12 (m1.nxt + 0) (AO.cells 5 [(Il 0), 
 C.sl0, C.sl0, C.sl0, C.map0] false))) → ((ldC m19 (C.ptr m0.nxt 0)) = (some (Il x7))) ∧ 
 (ifB (allS cmC [(Il x3), c4, c5, c6]) ((ldA m19 (C.ptr m.nxt 0) 4) = (some [(Il x3), 
 c4, c5, c6])) False) ∧ ∃ m20 : M, ((stC m19 (C.ptr (m1.nxt + 0) 0) 5 [(Il x13), 
 c14, c15, c16, c17]) = (some m20)) ∧ ifB (!decide (x18 = 0)) (Q (V.tup [(U.c (Il 0)), 
 (U.c (Il x18))]) m20) (∃ x21, ∃ c22 : C, ∃ c23 : C, ∃ c24 : C, 
 ∃ c25 : C, ((ldA m20 (C.ptr (m1.nxt + 0) 0) 5) = (some [(Il x21), 
 c22, c23, c24, c25])) ∧ Wc prog tbl 34 [(V.agg 5 [(Il x21), c22, 
 c23, c24, c25]), (V.c (Il a200))] m20 (fun v26 m27 => ∃ c28 : C, 
 (v26 = (V.c c28)) ∧ Wc prog tbl 37 [(V.c c28), (V.c (C.fn (Fn.func 35) [] [(W.c (C0.ptr m0.nxt 0))]))] m27 (fun v29 m30 => 
 ∃ b31 : Bool, (v29 = (V.c (C.bool b31))) ∧ ifB b31 (Q (V.tup [(U.c (Il (1 : Int))), 
 (U.c (Il 0))]) m30) (Wc prog tbl 38 [(V.c c28), (V.c (C.fn (Fn.func 35) [] [(W.c (C0.ptr m0.nxt 0))]))] m30 (fun v32 m33 => 
 ∃ b34 : Bool, (v32 = (V.c (C.bool b34))) ∧ ifB (!b34) (Q (V.tup [(U.c (Il (2 : Int))), 
 (U.c (Il 0))]) m33) (Q (V.tup [(U.c (Il (3 : Int))), 
 (U.c (Il 0))]) m33)))))))))) : Wc prog tbl 11 [(V.agg 4 [(Il a100), a101, a102, a103]), (V.c (Il a200)), (V.c (Il a300))] m Q :=
 wc_eq (n := 3) rfl (by kernel_rfl) (by kernel_rfl) h
theorem w15 {a100 : Int} {a101 : C} {a102 : C} {a103 : C} {a200 : Int} {a300 : Int} {a301 : Int} {a302 : Int} {m : M} {Q : V → M → Prop} (h :
 (∀ m0 : M, (m0 = (M.new m (AO.cells 4 [(Il a100), a101, a102, a103] false))) → ∀ m1 : M, (m1 = (M.new m0 (AO.cells 3 [(Il a300), 
 (Il a301), (Il a302)] false))) → ∃ x2, ∃ c3 : C, ∃ c4 : C, ∃ c5 : C, 
 ((ldA m1 (C.ptr m.nxt 0) 4) = (some [(Il x2), c3, c4, c5])) ∧ ∃ x6, 
 ∃ x7, ∃ x8, ((ldA m1 (C.ptr m0.nxt 0) 3) = (some [(Il x6), 
 (Il x7), (Il x8)])) ∧ Wc prog tbl 48 [(V.agg 4 [(Il x2), 
 c3, c4, c5]), (V.c (Il a200)), (V.agg 3 [(Il x6), (Il x7), 
 (Il x8)])] m1 (fun v9 m10 => ∃ x11, ∃ x12, ∃ x13, ∃ x14, 
 ∃ x15, ∃ x16, ∃ x17, ∃ x18, ∃ x19, ∃ x20, ∃ x21, 
 ∃ x22, ∃ x23, ∃ x24, ∃ x25, ∃ x26, ∃ b27 : Bool, 
 (v9 = (V.tup [(U.agg 16 [(Il x11), (Il x12), (Il x13), 
 (Il x14), (Il x15), (Il x16), (Il x17), 
 (Il x18), (Il x19), (Il x20), (Il x21), 
 (Il x22), (Il x23), (Il x24), (Il x25), 
 (Il x26)]), (U.c (C.bool b27))])) ∧ ∀ m28 : M, (m28 = (M.new m10 (AO.cells 16 [(Il 0), 
 (Il 0), (Il 0), (Il 0), 
 (Il 0), (Il 0), (Il 0), 
 (Il 0), (Il 0), (Il 0), 
 (Il 0), (Il 0), (Il 0), 
 (Il 0), (Il 0), (Il 0)] false))) → 
 ∃ m29 : M, ((stC m28 (C.ptr m10.nxt 0) 16 [(Il x11), (Il x12), 
 (Il x13), (Il x14), (Il x15), (Il x16), 
 (Il x17), (Il x18), (Il x19), (Il x20), 
 (Il x21), (Il x22), (Il x23), (Il x24), 
 (Il x25), (Il x26)]) = (some m29)) ∧ ifB (!b27) (Q (V.c (Il 0)) m29) (isPt (C.ptr m10.nxt 0) ∧ 
 ∃ x30, ∃ x31, ∃ x32, ∃ x33, ∃ x34, ∃ x35, 
 ∃ x36, ∃ x37, ∃ x38, ∃ x39, ∃ x40, ∃ x41, 
 ∃ x42, ((ldA m29 (C.ptr m10.nxt 3) 13) = (some [(Il x30), 
 (Il x31), (Il x32), (Il x33), (Il x34), 
 (Il x35), (Il x36), (Il x37), (Il x38), 
 (Il x39), (Il x40), (Il x41), (Il x42)])) ∧ 
 Wc prog tbl 36 [(V.agg 13 [(Il x30), (Il x31), 
 (Il x32), (Il x33), (Il x34), (Il x35), 
 (Il x36), (Il x37), (Il x38), (Il x39), 
 (Il x40), (Il x41), (Il x42)])] m29 (fun v43 m44 => 
 ∃ x45, (v43 = (V.c (Il x45))) ∧ Q (V.c (Il x45)) m44))))) : Wc prog tbl 15 [(V.agg 4 [(Il a100), a101, a102, a103]), (V.c (Il a200)), (V.agg 3 [(Il a300), (Il a301), (Il a302)])] m Q :=
 wc_eq (n := 3) rfl (by kernel_rfl) (by kernel_rfl) h
theorem w18 {a100 : Int} {a101 : C} {a102 : C} {a103 : C} {a200 : Int} {a300 : Int} {m : M} {Q : V → M → Prop} (h :
 (∀ m0 : M, (m0 = (M.new m (AO.cells 4 [(Il a100), a101, a102, a103] false))) → ∀ m1 : M, (m1 = (mGrow m0 1)) → 
 ∃ x2, ∃ c3 : C, ∃ c4 : C, ∃ c5 : C, ((ldA m1 (C.ptr m.nxt 0) 4) = (some [(Il x2), 
 c3, c4, c5])) ∧ Wc prog tbl 33 [(V.c (Il a300))] m1 (fun v6 m7 => ∃ b8 : Bool, 
 (v6 = (V.c (C.bool b8))) ∧ (ifB (allS cmC [(Il x2), c3, c4, c5]) ((ldA m7 (C.ptr m.nxt 0) 4) = (some [(Il x2), 
 c3, c4, c5])) False) ∧ Wc prog tbl 28 [(V.agg 4 [(Il x2), c3, c4, c5]), (V.c (Il a200)), 
 (V.c (C.bool b8))] m7 (fun v9 m10 => ∃ x11, ∃ c12 : C, ∃ c13 : C, ∃ c14 : C, ∃ c15 : C, 
 ∃ x16, (v9 = (V.tup [(U.agg 5 [(Il x11), c12, c13, c14, c15]), 
 (U.c (Il x16))])) ∧ ∀ m17 : M, (m17 = (M.set m10 (m0.nxt + 0) (AO.cells 5 [(Il 0), 
 C.sl0, C.sl0, C.sl0, C.map0] false))) → (ifB (allS cmC [(Il x2), 
 c3, c4, c5]) ((ldA m17 (C.ptr m.nxt 0) 4) = (some [(Il x2), 
 c3, c4, c5])) False) ∧ ∃ m18 : M, ((stC m17 (C.ptr (m0.nxt + 0) 0) 5 [(Il x11), 
 c12, c13, c14, c15]) = (some m18)) ∧ ifB (!decide (x16 = 0)) (Q (V.tup [(U.c C.sl0), 
 (U.c (Il x16))]) m18) (∃ x19, ∃ c20 : C, ∃ c21 : C, ∃ c22 : C, 
 ∃ c23 : C, ((ldA m18 (C.ptr (m0.nxt + 0) 0) 5) = (some [(Il x19), 
 c20, c21, c22, c23])) ∧ Wc prog tbl 40 [(V.agg 5 [(Il x19), c20, 
 c21, c22, c23]), (V.c (Il a200))] m18 (fun v24 m25 => ∃ c26 : C, 
 (v24 = (V.c c26)) ∧ Wc prog tbl 39 [(V.c c26)] m25 (fun v27 m28 => ∃ c29 : C, 
 (v27 = (V.c c29)) ∧ isPt (C.ptr m.nxt 0) ∧ ∃ x30, ((ldC m28 (C.ptr m.nxt 0)) = (some (Il x30))) ∧ 
 fitsP .i64 (x30 + 1) ∧ ∀ R31 : List V → M → Prop, (∀ c32 : C, 
 ∀ x33 : Int, ∀ m34 : M, (ifB (decide (x33 < (x30 + 1))) (Wc prog tbl 52 [(V.c c29), 
 (V.c (Il x33)), (V.c (Il a300))] m34 (fun v35 m36 => 
 ∃ b37 : Bool, (v35 = (V.c (C.bool b37))) ∧ ifB b37 (∀ m38 : M, (m38 = (M.new m36 (AO.cells 1 [(Il x33)] false))) → 
 ∃ c39 : C, ∃ m40 : M, (ApR prog 39 m38 c32 (C.sl m36.nxt 0 1 0 (some 1)) c39 m40) ∧ 
 fitsP .i64 (x33 + 1) ∧ R31 [(V.c c39), (V.c (Il (x33 + 1)))] m40) (fitsP .i64 (x33 + 1) ∧ 
 R31 [(V.c c32), (V.c (Il (x33 + 1)))] m36))) (Q (V.tup [(U.c c32), 
 (U.c (Il 0))]) m34)) → R31 [(V.c c32), (V.c (Il x33))] m34) → 
 R31 [(V.c C.sl0), (V.c (Il 0))] m28))))))) : Wc prog tbl 18 [(V.agg 4 [(Il a100), a101, a102, a103]), (V.c (Il a200)), (V.c (Il a300))] m Q :=
 wc_eq (n := 3) rfl (by kernel_rfl) (by kernel_rfl) h
theorem w22 {a100 : Int} {a101 : C} {a102 : C} {a103 : C} {m : M} {Q : V → M → Prop} (h :
 (∀ m0 : M, (m0 = (M.new m (AO.cells 4 [(Il a100), a101, a102, a103] false))) → ∃ x1, ∃ c2 : C, 
 ∃ c3 : C, ∃ c4 : C, ((ldA m0 (C.ptr m.nxt 0) 4) = (some [(Il x1), c2, c3, c4])) ∧ 
 Wc prog tbl 59 [(V.agg 4 [(Il x1), c2, c3, c4])] m0 (fun v5 m6 => ∃ b7 : Bool, (v5 = (V.c (C.bool b7))) ∧ 
 ifB b7 (∃ x8, ∃ c9 : C, ∃ c10 : C, ∃ c11 : C, ((ldA m6 (C.ptr m.nxt 0) 4) = (some [(Il x8), 
 c9, c10, c11])) ∧ Wc prog tbl 60 [(V.agg 4 [(Il x8), c9, c10, c11])] m6 (fun v12 m13 => 
 ∃ x14, (v12 = (V.c (Il x14))) ∧ Q (V.c (C.bool (decide (x14 = 0)))) m13)) (Q (V.c (C.bool false)) m6)))) : Wc prog tbl 22 [(V.agg 4 [(Il a100), a101, a102, a103])] m Q :=
 wc_eq (n := 1) rfl (by kernel_rfl) (by kernel_rfl) h
theorem w25 {a100 : Int} {a200 : Int} {a300 : Int} {m : M} {Q : V → M → Prop} (h :
 (ifB (decide (a200 ≤ a100)) (Q (V.c (C.bool (decide (a100 ≤ a300)))) m) (Q (V.c (C.bool false)) m))) : Wc prog tbl 25 [(V.c (Il a100)), (V.c (Il a200)), (V.c (Il a300))] m Q :=
 wc_eq (n := 3) rfl (by kernel_rfl) (by kernel_rfl) h
theorem w28 {a100 : Int} {a101 : C} {a102 : C} {a103 : C} {a200 : Int} {a300 : Bool} {m : M} {Q : V → M → Prop} (h :
 (∀ m0 : M, (m0 = (M.new m (AO.cells 4 [(Il a100), a101, a102, a103] false))) → ∀ m1 : M, (m1 = (M.new m0 (AO.cells 5 [(Il 0), 
 C.sl0, C.sl0, C.sl0, C.map0] false))) → ∃ x2, ∃ c3 : C, ∃ c4 : C, ∃ c5 : C, ((ldA m1 (C.ptr m.nxt 0) 4) = (some [(Il x2), 
 c3, c4, c5])) ∧ Wc prog tbl 20 [(V.agg 4 [(Il x2), c3, c4, c5])] m1 (fun v6 m7 => 
 ∃ x8, (v6 = (V.c (Il x8))) ∧ ifB (!decide (x8 = 0)) (∃ m9 : M, ((stC m7 (C.ptr m0.nxt 0) 5 [(Il 0), 
 C.sl0, C.sl0, C.sl0, C.map0]) = (some m9)) ∧ ∃ x10, ∃ c11 : C, ∃ c12 : C, 
 ∃ c13 : C, ∃ c14 : C, ((ldA m9 (C.ptr m0.nxt 0) 5) = (some [(Il x10), 
 c11, c12, c13, c14])) ∧ Q (V.tup [(U.agg 5 [(Il x10), c11, c12, c13, 
 c14]), (U.c (Il x8))]) m9) (∃ x15, ∃ c16 : C, ∃ c17 : C, 
 ∃ c18 : C, ((ldA m7 (C.ptr m.nxt 0) 4) = (some [(Il x15), c16, c17, 
 c18])) ∧ Wc prog tbl 64 [(V.agg 4 [(Il x15), c16, c17, c18]), (V.c (Il a200))] m7 (fun v19 m20 => 
 ∃ b21 : Bool, (v19 = (V.c (C.bool b21))) ∧ ifB (!b21) (∃ m22 : M, ((stC m20 (C.ptr m0.nxt 0) 5 [(Il 0), 
 C.sl0, C.sl0, C.sl0, C.map0]) = (some m22)) ∧ ∃ x23, ∃ c24 : C, 
 ∃ c25 : C, ∃ c26 : C, ∃ c27 : C, ((ldA m22 (C.ptr m0.nxt 0) 5) = (some [(Il x23), 
 c24, c25, c26, c27])) ∧ Q (V.tup [(U.agg 5 [(Il x23), c24, c25, 
 c26, c27]), (U.c (Il (2 : Int)))]) m22) (ifB (!a300) (∃ m28 : M, 
 ((stC m20 (C.ptr m0.nxt 0) 5 [(Il 0), C.sl0, C.sl0, C.sl0, 
 C.map0]) = (some m28)) ∧ ∃ x29, ∃ c30 : C, ∃ c31 : C, ∃ c32 : C, 
 ∃ c33 : C, ((ldA m28 (C.ptr m0.nxt 0) 5) = (some [(Il x29), 
 c30, c31, c32, c33])) ∧ Q (V.tup [(U.agg 5 [(Il x29), c30, c31, 
 c32, c33]), (U.c (Il (2 : Int)))]) m28) (∃ x34, 
 ∃ c35 : C, ∃ c36 : C, ∃ c37 : C, ((ldA m20 (C.ptr m.nxt 0) 4) = (some [(Il x34), 
 c35, c36, c37])) ∧ Wc prog tbl 50 [(V.agg 4 [(Il x34), c35, c36, 
 c37])] m20 (fun v38 m39 => ∃ x40, ∃ c41 : C, ∃ c42 : C, ∃ c43 : C, 
 ∃ c44 : C, ∃ x45, (v38 = (V.tup [(U.agg 5 [(Il x40), 
 c41, c42, c43, c44]), (U.c (Il x45))])) ∧ ∃ m46 : M, ((stC m39 (C.ptr m0.nxt 0) 5 [(Il x40), 
 c41, c42, c43, c44]) = (some m46)) ∧ ∃ x47, ∃ c48 : C, ∃ c49 : C, 
 ∃ c50 : C, ∃ c51 : C, ((ldA m46 (C.ptr m0.nxt 0) 5) = (some [(Il x47), 
 c48, c49, c50, c51])) ∧ Q (V.tup [(U.agg 5 [(Il x47), c48, c49, 
 c50, c51]), (U.c (Il x45))]) m46)))))))) : Wc prog tbl 28 [(V.agg 4 [(Il a100), a101, a102, a103]), (V.c (Il a200)), (V.c (C.bool a300))] m Q :=
 wc_eq (n := 3) rfl (by kernel_rfl) (by kernel_rfl) h
theorem w39 {a100 : C} {m : M} {Q : V → M → Prop} (h :
 (Wc prog tbl 70 [(V.c C.sl0), (V.c a100)] m (fun v0 m1 => ∃ c2 : C, (v0 = (V.c c2)) ∧ Q (V.c c2) m1))) : Wc prog tbl 39 [(V.c a100)] m Q :=
 wc_eq (n := 1) rfl (by kernel_rfl) (by kernel_rfl) h
theorem w48 {a100 : Int} {a101 : C} {a102 : C} {a103 : C} {a200 : Int} {a300 : Int} {a301 : Int} {a302 : Int} {m : M} {Q : V → M → Prop} (h :
 (∀ m0 : M, (m0 = (M.new m (AO.cells 4 [(Il a100), a101, a102, a103] false))) → ∀ m1 : M, (m1 = (M.new m0 (AO.cells 3 [(Il a300), 
 (Il a301), (Il a302)] false))) → ∀ m2 : M, (m2 = (M.new m1 (AO.cells 16 [(Il 0), 
 (Il 0), (Il 0), (Il 0), (Il 0), 
 (Il 0), (Il 0), (Il 0), (Il 0), 
 (Il 0), (Il 0), (Il 0), (Il 0), 
 (Il 0), (Il 0), (Il 0)] false))) → 
 ∃ x3, ∃ c4 : C, ∃ c5 : C, ∃ c6 : C, ((ldA m2 (C.ptr m.nxt 0) 4) = (some [(Il x3), 
 c4, c5, c6])) ∧ Wc prog tbl 20 [(V.agg 4 [(Il x3), c4, c5, c6])] m2 (fun v7 m8 => 
 ∃ x9, (v7 = (V.c (Il x9))) ∧ ifB (!decide (x9 = 0)) (∃ m10 : M, 
 ((stC m8 (C.ptr m1.nxt 0) 16 [(Il 0), (Il 0), 
 (Il 0), (Il 0), (Il 0), 
 (Il 0), (Il 0), (Il 0), 
 (Il 0), (Il 0), (Il 0), 
 (Il 0), (Il 0), (Il 0), 
 (Il 0), (Il 0)]) = (some m10)) ∧ 
 ∃ x11, ∃ x12, ∃ x13, ∃ x14, ∃ x15, ∃ x16, ∃ x17, 
 ∃ x18, ∃ x19, ∃ x20, ∃ x21, ∃ x22, ∃ x23, 
 ∃ x24, ∃ x25, ∃ x26, ((ldA m10 (C.ptr m1.nxt 0) 16) = (some [(Il x11), 
 (Il x12), (Il x13), (Il x14), (Il x15), 
 (Il x16), (Il x17), (Il x18), (Il x19), 
 (Il x20), (Il x21), (Il x22), (Il x23), 
 (Il x24), (Il x25), (Il x26)])) ∧ 
 Q (V.tup [(U.agg 16 [(Il x11), (Il x12), (Il x13), 
 (Il x14), (Il x15), (Il x16), (Il x17), 
 (Il x18), (Il x19), (Il x20), (Il x21), 
 (Il x22), (Il x23), (Il x24), (Il x25), 
 (Il x26)]), (U.c (C.bool false))]) m10) (∃ x27, 
 ∃ c28 : C, ∃ c29 : C, ∃ c30 : C, ((ldA m8 (C.ptr m.nxt 0) 4) = (some [(Il x27), 
 c28, c29, c30])) ∧ Wc prog tbl 64 [(V.agg 4 [(Il x27), c28, c29, c30]), 
 (V.c (Il a200))] m8 (fun v31 m32 => ∃ b33 : Bool, (v31 = (V.c (C.bool b33))) ∧ 
 ifB (!b33) (∃ m34 : M, ((stC m32 (C.ptr m1.nxt 0) 16 [(Il 0), 
 (Il 0), (Il 0), (Il 0), 
 (Il 0), (Il 0), (Il 0), 
 (Il 0), (Il 0), (Il 0), 
 (Il 0), (Il 0), (Il 0), 
 (Il 0), (Il 0), (Il 0)]) = (some m34)) ∧ 
 ∃ x35, ∃ x36, ∃ x37, ∃ x38, ∃ x39, ∃ x40, 
 ∃ x41, ∃ x42, ∃ x43, ∃ x44, ∃ x45, ∃ x46, 
 ∃ x47, ∃ x48, ∃ x49, ∃ x50, ((ldA m34 (C.ptr m1.nxt 0) 16) = (some [(Il x35), 
 (Il x36), (Il x37), (Il x38), (Il x39), 
 (Il x40), (Il x41), (Il x42), (Il x43), 
 (Il x44), (Il x45), (Il x46), (Il x47), 
 (Il x48), (Il x49), (Il x50)])) ∧ 
 Q (V.tup [(U.agg 16 [(Il x35), (Il x36), (Il x37), 
 (Il x38), (Il x39), (Il x40), (Il x41), 
 (Il x42), (Il x43), (Il x44), (Il x45), 
 (Il x46), (Il x47), (Il x48), (Il x49), 
 (Il x50)]), (U.c (C.bool false))]) m34) (isPt (C.ptr m.nxt 0) ∧ 
 ∃ c51 : C, ((ldC m32 (C.ptr m.nxt 2)) = (some c51)) ∧ ∃ n52 : Nat, (a200 = ((n52 : Nat) : Int)) ∧ 
 (n52 < (slLen c51)) ∧ ∃ x53, ∃ x54, ∃ x55, ∃ x56, 
 ∃ x57, ∃ x58, ∃ x59, ((ldA m32 (slAt c51 (n52 * 7)) 7) = (some [(Il x53), 
 (Il x54), (Il x55), (Il x56), (Il x57), 
 (Il x58), (Il x59)])) ∧ ∃ x60, ∃ x61, 
 ∃ x62, ((ldA m32 (C.ptr m0.nxt 0) 3) = (some [(Il x60), 
 (Il x61), (Il x62)])) ∧ Wc prog tbl 80 [(V.agg 7 [(Il x53), 
 (Il x54), (Il x55), (Il x56), (Il x57), 
 (Il x58), (Il x59)]), (V.agg 3 [(Il x60), 
 (Il x61), (Il x62)])] m32 (fun v63 m64 => ∃ b65 : Bool, 
 (v63 = (V.c (C.bool b65))) ∧ ifB (!b65) (∃ m66 : M, ((stC m64 (C.ptr m1.nxt 0) 16 [(Il 0), 
 (Il 0), (Il 0), (Il 0), 
 (Il 0), (Il 0), (Il 0), 
 (Il 0), (Il 0), (Il 0), 
 (Il 0), (Il 0), (Il 0), 
 (Il 0), (Il 0), (Il 0)]) = (some m66)) ∧ 
 ∃ x67, ∃ x68, ∃ x69, ∃ x70, ∃ x71, ∃ x72, 
 ∃ x73, ∃ x74, ∃ x75, ∃ x76, ∃ x77, ∃ x78, 
 ∃ x79, ∃ x80, ∃ x81, ∃ x82, ((ldA m66 (C.ptr m1.nxt 0) 16) = (some [(Il x67), 
 (Il x68), (Il x69), (Il x70), (Il x71), 
 (Il x72), (Il x73), (Il x74), (Il x75), 
 (Il x76), (Il x77), (Il x78), (Il x79), 
 (Il x80), (Il x81), (Il x82)])) ∧ 
 Q (V.tup [(U.agg 16 [(Il x67), (Il x68), (Il x69), 
 (Il x70), (Il x71), (Il x72), (Il x73), 
 (Il x74), (Il x75), (Il x76), (Il x77), 
 (Il x78), (Il x79), (Il x80), (Il x81), 
 (Il x82)]), (U.c (C.bool false))]) m66) (∃ x83, 
 ∃ x84, ∃ x85, ((ldA m64 (C.ptr m0.nxt 0) 3) = (some [(Il x83), 
 (Il x84), (Il x85)])) ∧ ∃ x86, ∃ c87 : C, 
 ∃ c88 : C, ∃ c89 : C, ((ldA m64 (C.ptr m.nxt 0) 4) = (some [(Il x86), 
 c87, c88, c89])) ∧ ∃ x90, ∃ x91, ∃ x92, ((ldA m64 (C.ptr m0.nxt 0) 3) = (some [(Il x90), 
 (Il x91), (Il x92)])) ∧ isPt (C.ptr m.nxt 0) ∧ 
 ∃ c93 : C, ((ldC m64 (C.ptr m.nxt 2)) = (some c93)) ∧ ∃ n94 : Nat, 
 (a200 = ((n94 : Nat) : Int)) ∧ (n94 < (slLen c93)) ∧ isPt (slAt c93 (n94 * 7)) ∧ 
 ∃ x95, ((ldC m64 (ptAdd (slAt c93 (n94 * 7)) 0)) = (some (Il x95))) ∧ 
 Wc prog tbl 78 [(V.agg 4 [(Il x86), c87, c88, c89]), (V.agg 4 [(Il x90), 
 (Il x91), (Il x92), (Il x95)])] m64 (fun v96 m97 => 
 ∃ x98, ∃ x99, ∃ x100, ∃ x101, ∃ x102, ∃ x103, 
 ∃ x104, ∃ x105, ∃ x106, ∃ x107, ∃ x108, ∃ x109, 
 ∃ x110, (v96 = (V.agg 13 [(Il x98), (Il x99), 
 (Il x100), (Il x101), (Il x102), 
 (Il x103), (Il x104), (Il x105), 
 (Il x106), (Il x107), (Il x108), 
 (Il x109), (Il x110)])) ∧ ((ldA m97 (C.ptr m0.nxt 0) 3) = (some [(Il x83), 
 (Il x84), (Il x85)])) ∧ ∃ m111 : M, ((stC m97 (C.ptr m1.nxt 0) 16 [(Il x83), 
 (Il x84), (Il x85), (Il x98), (Il x99), 
 (Il x100), (Il x101), (Il x102), 
 (Il x103), (Il x104), (Il x105), 
 (Il x106), (Il x107), (Il x108), 
 (Il x109), (Il x110)]) = (some m111)) ∧ 
 ∃ x112, ∃ x113, ∃ x114, ∃ x115, ∃ x116, ∃ x117, 
 ∃ x118, ∃ x119, ∃ x120, ∃ x121, ∃ x122, ∃ x123, 
 ∃ x124, ∃ x125, ∃ x126, ∃ x127, ((ldA m111 (C.ptr m1.nxt 0) 16) = (some [(Il x112), 
 (Il x113), (Il x114), (Il x115), 
 (Il x116), (Il x117), (Il x118), 
 (Il x119), (Il x120), (Il x121), 
 (Il x122), (Il x123), (Il x124), 
 (Il x125), (Il x126), (Il x127)])) ∧ 
 Q (V.tup [(U.agg 16 [(Il x112), (Il x113), (Il x114), 
 (Il x115), (Il x116), (Il x117), 
 (Il x118), (Il x119), (Il x120), 
 (Il x121), (Il x122), (Il x123), 
 (Il x124), (Il x125), (Il x126), 
 (Il x127)]), (U.c (C.bool true))]) m111))))))))) : Wc prog tbl 48 [(V.agg 4 [(Il a100), a101, a102, a103]), (V.c (Il a200)), (V.agg 3 [(Il a300), (Il a301), (Il a302)])] m Q :=
 wc_eq (n := 3) rfl (by kernel_rfl) (by kernel_rfl) h
theorem w54 {a100 : Int} {a101 : C} {a102 : C} {a103 : C} {a104 : C} {m : M} {Q : V → M → Prop} (h :
 (∀ m0 : M, (m0 = (M.new m (AO.cells 5 [(Il a100), a101, a102, a103, a104] false))) → isPt (C.ptr m.nxt 0) ∧ 
 isPt (C.ptr m.nxt 0) ∧ ∃ c1 : C, ((ldC m0 (C.ptr m.nxt 2)) = (some c1)) ∧ isSl c1 ∧ ∀ R2 : List V → 
 M → Prop, (∀ b3 : Bool, ∀ x4 : Int, ∀ m5 : M, (ifB (decide (x4 < (((slLen c1) : Nat) : Int))) (∃ x6, 
 ∃ c7 : C, ∃ c8 : C, ∃ c9 : C, ∃ c10 : C, ((ldA m5 (C.ptr m.nxt 0) 5) = (some [(Il x6), 
 c7, c8, c9, c10])) ∧ Wc prog tbl 86 [(V.agg 5 [(Il x6), c7, c8, c9, 
 c10]), (V.c (Il x4))] m5 (fun v11 m12 => ∃ b13 : Bool, (v11 = (V.c (C.bool b13))) ∧ 
 ifB (!b13) (Q (V.c (C.bool false)) m12) (fitsP .i64 (x4 + 1) ∧ R2 [(V.c (C.bool b3)), 
 (V.c (Il (x4 + 1)))] m12))) (Q (V.c (C.bool true)) m5)) → 
 R2 [(V.c (C.bool b3)), (V.c (Il x4))] m5) → R2 [(V.c (C.bool false)), (V.c (Il 0))] m0)) : Wc prog tbl 54 [(V.agg 5 [(Il a100), a101, a102, a103, a104])] m Q :=
 wc_eq (n := 1) rfl (by kernel_rfl) (by kernel_rfl) h
theorem w57 {a100 : C} {a200 : C} {m : M} {Q : V → M → Prop} (h :
 (∀ m0 : M, (m0 = (M.new m (AO.cells 1 [a200] false))) → Wc prog tbl 91 [(V.c a100), (V.c (C.fn (Fn.func 92) [] [(W.c (C0.ptr m.nxt 0))]))] m0 (fun v1 m2 => 
 ∃ b3 : Bool, (v1 = (V.c (C.bool b3))) ∧ Q (V.c (C.bool (!b3))) m2))) : Wc prog tbl 57 [(V.c a100), (V.c a200)] m Q :=
 wc_eq (n := 2) rfl (by kernel_rfl) (by kernel_rfl) h
theorem w60 {a100 : Int} {a101 : C} {a102 : C} {a103 : C} {m : M} {Q : V → M → Prop} (h :
 (∀ m0 : M, (m0 = (M.new m (AO.cells 4 [(Il a100), a101, a102, a103] false))) → isPt (C.ptr m.nxt 0) ∧ 
 ∃ x1, ((ldC m0 (C.ptr m.nxt 0)) = (some (Il x1))) ∧ ifB (decide ((12 : Int) < x1)) (Q (V.c (Il (3 : Int))) m0) (isPt (C.ptr m.nxt 0) ∧ 
 ∃ c2 : C, ((ldC m0 (C.ptr m.nxt 1)) = (some c2)) ∧ isSl c2 ∧ ifB (decide ((3 : Int) < (((slLen c2) : Nat) : Int))) (Q (V.c (Il (3 : Int))) m0) (isPt (C.ptr m.nxt 0) ∧ 
 ∃ c3 : C, ((ldC m0 (C.ptr m.nxt 2)) = (some c3)) ∧ isSl c3 ∧ ifB (decide ((3 : Int) < (((slLen c3) : Nat) : Int))) (Q (V.c (Il (3 : Int))) m0) (isPt (C.ptr m.nxt 0) ∧ 
 ∃ c4 : C, ((ldC m0 (C.ptr m.nxt 3)) = (some c4)) ∧ isSl c4 ∧ ifB (decide ((6 : Int) < (((slLen c4) : Nat) : Int))) (Q (V.c (Il (3 : Int))) m0) (isPt (C.ptr m.nxt 0) ∧ 
 ∃ x5, ((ldC m0 (C.ptr m.nxt 0)) = (some (Il x5))) ∧ ifB (decide (x5 < 0)) (Q (V.c (Il (1 : Int))) m0) (isPt (C.ptr m.nxt 0) ∧ 
 ∃ c6 : C, ((ldC m0 (C.ptr m.nxt 1)) = (some c6)) ∧ isSl c6 ∧ ifB (decide ((((slLen c6) : Nat) : Int) = (0 : Int))) (Q (V.c (Il (1 : Int))) m0) (isPt (C.ptr m.nxt 0) ∧ 
 ∃ c7 : C, ((ldC m0 (C.ptr m.nxt 2)) = (some c7)) ∧ isSl c7 ∧ ifB (decide ((((slLen c7) : Nat) : Int) = (0 : Int))) (Q (V.c (Il (1 : Int))) m0) (∀ R8 : List V → 
 M → Prop, (∀ x9 : Int, ∀ x10 : Int, ∀ m11 : M, (isPt (C.ptr m.nxt 0) ∧ 
 ∃ c12 : C, ((ldC m11 (C.ptr m.nxt 1)) = (some c12)) ∧ isSl c12 ∧ 
 ifB (decide (x10 < (((slLen c12) : Nat) : Int))) (∃ x13, ∃ c14 : C, ∃ c15 : C, 
 ∃ c16 : C, ((ldA m11 (C.ptr m.nxt 0) 4) = (some [(Il x13), 
 c14, c15, c16])) ∧ isPt (C.ptr m.nxt 0) ∧ ∃ c17 : C, ((ldC m11 (C.ptr m.nxt 1)) = (some c17)) ∧ 
 ∃ n18 : Nat, (x10 = ((n18 : Nat) : Int)) ∧ (n18 < (slLen c17)) ∧ ∃ c19 : C, 
 ((ldC m11 (slAt c17 (n18 * 1))) = (some c19)) ∧ Wc prog tbl 95 [(V.agg 4 [(Il x13), 
 c14, c15, c16]), (V.c c19)] m11 (fun v20 m21 => ∃ b22 : Bool, (v20 = (V.c (C.bool b22))) ∧ 
 ifB (!b22) (Q (V.c (Il (1 : Int))) m21) (fitsP .i64 (x10 + 1) ∧ 
 R8 [(V.c (Il x9)), (V.c (Il (x10 + 1)))] m21))) (∀ R23 : List V → 
 M → Prop, (∀ x24 : Int, ∀ x25 : Int, ∀ m26 : M, (isPt (C.ptr m.nxt 0) ∧ 
 ∃ c27 : C, ((ldC m26 (C.ptr m.nxt 2)) = (some c27)) ∧ isSl c27 ∧ 
 ifB (decide (x25 < (((slLen c27) : Nat) : Int))) (isPt (C.ptr m.nxt 0) ∧ ∃ c28 : C, 
 ((ldC m26 (C.ptr m.nxt 2)) = (some c28)) ∧ ∃ n29 : Nat, (x25 = ((n29 : Nat) : Int)) ∧ 
 (n29 < (slLen c28)) ∧ ∃ x30, ∃ x31, ∃ x32, ∃ x33, 
 ∃ x34, ∃ x35, ∃ x36, ((ldA m26 (slAt c28 (n29 * 7)) 7) = (some [(Il x30), 
 (Il x31), (Il x32), (Il x33), (Il x34), 
 (Il x35), (Il x36)])) ∧ ∀ m37 : M, (m37 = (M.new m26 (AO.cells 7 [(Il 0), 
 (Il 0), (Il 0), (Il 0), 
 (Il 0), (Il 0), (Il 0)] false))) → 
 ∃ m38 : M, ((stC m37 (C.ptr m26.nxt 0) 7 [(Il x30), (Il x31), 
 (Il x32), (Il x33), (Il x34), (Il x35), 
 (Il x36)]) = (some m38)) ∧ isPt (C.ptr m26.nxt 0) ∧ 
 ∃ x39, ((ldC m38 (C.ptr m26.nxt 0)) = (some (Il x39))) ∧ 
 isPt (C.ptr m.nxt 0) ∧ ∃ c40 : C, ((ldC m38 (C.ptr m.nxt 1)) = (some c40)) ∧ 
 isSl c40 ∧ fitsP .i64 ((((slLen c40) : Nat) : Int) - (1 : Int)) ∧ Wc prog tbl 25 [(V.c (Il x39)), 
 (V.c (Il 0)), (V.c (Il ((((slLen c40) : Nat) : Int) - (1 : Int))))] m38 (fun v41 m42 => 
 ∃ b43 : Bool, (v41 = (V.c (C.bool b43))) ∧ ifB (!b43) (Q (V.c (Il (1 : Int))) m42) (isPt (C.ptr m26.nxt 0) ∧ 
 ∃ x44, ∃ x45, ((ldA m42 (C.ptr m26.nxt 1) 2) = (some [(Il x44), 
 (Il x45)])) ∧ isPt (C.ptr m.nxt 0) ∧ ∃ x46, ((ldC m42 (C.ptr m.nxt 0)) = (some (Il x46))) ∧ 
 Wc prog tbl 96 [(V.agg 2 [(Il x44), (Il x45)]), 
 (V.c (Il 0)), (V.c (Il x46))] m42 (fun v47 m48 => 
 ∃ b49 : Bool, (v47 = (V.c (C.bool b49))) ∧ ifB (!b49) (Q (V.c (Il (1 : Int))) m48) (isPt (C.ptr m26.nxt 0) ∧ 
 ∃ x50, ∃ x51, ((ldA m48 (C.ptr m26.nxt 3) 2) = (some [(Il x50), 
 (Il x51)])) ∧ Wc prog tbl 96 [(V.agg 2 [(Il x50), 
 (Il x51)]), (V.c (Il 0)), (V.c (Il (100 : Int)))] m48 (fun v52 m53 => 
 ∃ b54 : Bool, (v52 = (V.c (C.bool b54))) ∧ ifB (!b54) (Q (V.c (Il (1 : Int))) m53) (isPt (C.ptr m26.nxt 0) ∧ 
 ∃ x55, ∃ x56, ((ldA m53 (C.ptr m26.nxt 5) 2) = (some [(Il x55), 
 (Il x56)])) ∧ Wc prog tbl 96 [(V.agg 2 [(Il x55), 
 (Il x56)]), (V.c (Il 0)), (V.c (Il (100 : Int)))] m53 (fun v57 m58 => 
 ∃ b59 : Bool, (v57 = (V.c (C.bool b59))) ∧ ifB (!b59) (Q (V.c (Il (1 : Int))) m58) (fitsP .i64 (x25 + 1) ∧ 
 R23 [(V.c (Il x24)), (V.c (Il (x25 + 1)))] m58))))))))) (∀ R60 : List V → 
 M → Prop, (∀ x61 : Int, ∀ x62 : Int, ∀ m63 : M, (isPt (C.ptr m.nxt 0) ∧ 
 ∃ c64 : C, ((ldC m63 (C.ptr m.nxt 3)) = (some c64)) ∧ isSl c64 ∧ 
 ifB (decide (x62 < (((slLen c64) : Nat) : Int))) (isPt (C.ptr m.nxt 0) ∧ ∃ c65 : C, 
 ((ldC m63 (C.ptr m.nxt 3)) = (some c65)) ∧ ∃ n66 : Nat, (x62 = ((n66 : Nat) : Int)) ∧ 
 (n66 < (slLen c65)) ∧ ∃ x67, ∃ x68, ∃ x69, ∃ x70, 
 ((ldA m63 (slAt c65 (n66 * 4)) 4) = (some [(Il x67), (Il x68), 
 (Il x69), (Il x70)])) ∧ ∀ m71 : M, (m71 = (M.new m63 (AO.cells 4 [(Il 0), 
 (Il 0), (Il 0), (Il 0)] false))) → 
 ∃ m72 : M, ((stC m71 (C.ptr m63.nxt 0) 4 [(Il x67), (Il x68), 
 (Il x69), (Il x70)]) = (some m72)) ∧ isPt (C.ptr m63.nxt 0) ∧ 
 ∃ x73, ((ldC m72 (C.ptr m63.nxt 0)) = (some (Il x73))) ∧ 
 isPt (C.ptr m.nxt 0) ∧ ∃ c74 : C, ((ldC m72 (C.ptr m.nxt 2)) = (some c74)) ∧ 
 isSl c74 ∧ fitsP .i64 ((((slLen c74) : Nat) : Int) - (1 : Int)) ∧ Wc prog tbl 25 [(V.c (Il x73)), 
 (V.c (Il 0)), (V.c (Il ((((slLen c74) : Nat) : Int) - (1 : Int))))] m72 (fun v75 m76 => 
 ∃ b77 : Bool, (v75 = (V.c (C.bool b77))) ∧ ifB (!b77) (Q (V.c (Il (1 : Int))) m76) (isPt (C.ptr m63.nxt 0) ∧ 
 ∃ x78, ((ldC m76 (C.ptr m63.nxt 1)) = (some (Il x78))) ∧ 
 isPt (C.ptr m.nxt 0) ∧ ∃ x79, ((ldC m76 (C.ptr m.nxt 0)) = (some (Il x79))) ∧ 
 Wc prog tbl 25 [(V.c (Il x78)), (V.c (Il 0)), 
 (V.c (Il x79))] m76 (fun v80 m81 => ∃ b82 : Bool, (v80 = (V.c (C.bool b82))) ∧ 
 ifB (!b82) (Q (V.c (Il (1 : Int))) m81) (isPt (C.ptr m63.nxt 0) ∧ 
 ∃ x83, ∃ x84, ((ldA m81 (C.ptr m63.nxt 2) 2) = (some [(Il x83), 
 (Il x84)])) ∧ Wc prog tbl 96 [(V.agg 2 [(Il x83), 
 (Il x84)]), (V.c (Il 0)), (V.c (Il (100 : Int)))] m81 (fun v85 m86 => 
 ∃ b87 : Bool, (v85 = (V.c (C.bool b87))) ∧ ifB (!b87) (Q (V.c (Il (1 : Int))) m86) (fitsP .i64 (x62 + 1) ∧ 
 R60 [(V.c (Il x61)), (V.c (Il (x62 + 1)))] m86))))))) (∀ R88 : List V → 
 M → Prop, (∀ x89 : Int, ∀ x90 : Int, ∀ m91 : M, (isPt (C.ptr m.nxt 0) ∧ 
 ∃ c92 : C, ((ldC m91 (C.ptr m.nxt 2)) = (some c92)) ∧ isSl c92 ∧ 
 ifB (decide (x90 < (((slLen c92) : Nat) : Int))) (isPt (C.ptr m.nxt 0) ∧ ∃ c93 : C, 
 ((ldC m91 (C.ptr m.nxt 2)) = (some c93)) ∧ ∃ n94 : Nat, (x90 = ((n94 : Nat) : Int)) ∧ 
 (n94 < (slLen c93)) ∧ ∃ x95, ∃ x96, ∃ x97, ∃ x98, 
 ∃ x99, ∃ x100, ∃ x101, ((ldA m91 (slAt c93 (n94 * 7)) 7) = (some [(Il x95), 
 (Il x96), (Il x97), (Il x98), (Il x99), 
 (Il x100), (Il x101)])) ∧ Wc prog tbl 94 [(V.agg 7 [(Il x95), 
 (Il x96), (Il x97), (Il x98), (Il x99), 
 (Il x100), (Il x101)])] m91 (fun v102 m103 => ∃ x104, 
 (v102 = (V.c (Il x104))) ∧ ifB (decide ((3000 : Int) < x104)) (Q (V.c (Il (3 : Int))) m103) (fitsP .i64 (x90 + 1) ∧ 
 R88 [(V.c (Il x89)), (V.c (Il (x90 + 1)))] m103))) (Q (V.c (Il 0)) m91)) → 
 R88 [(V.c (Il x89)), (V.c (Il x90))] m91) → 
 R88 [(V.c (Il x61)), (V.c (Il 0))] m63)) → 
 R60 [(V.c (Il x61)), (V.c (Il x62))] m63) → 
 R60 [(V.c (Il x24)), (V.c (Il 0))] m26)) → 
 R23 [(V.c (Il x24)), (V.c (Il x25))] m26) → 
 R23 [(V.c (Il x9)), (V.c (Il 0))] m11)) → 
 R8 [(V.c (Il x9)), (V.c (Il x10))] m11) → 
 R8 [(V.c (Il 0)), (V.c (Il 0))] m0))))))))) : Wc prog tbl 60 [(V.agg 4 [(Il a100), a101, a102, a103])] m Q :=
 wc_eq (n := 1) rfl (by kernel_rfl) (by kernel_rfl) h
theorem w66 {a100 : C} {m : M} {Q : V → M → Prop} (h :
 (isSl a100 ∧ ifB (decide ((((slLen a100) : Nat) : Int) = (0 : Int))) (Q (V.c (Il 0)) m) (∃ n0 : Nat, 
 ((0 : Int) = ((n0 : Nat) : Int)) ∧ (n0 < (slLen a100)) ∧ ∃ x1, ((ldC m (slAt a100 (n0 * 1))) = (some (Il x1))) ∧ 
 isSl a100 ∧ ∀ R2 : List V → M → Prop, (∀ x3 : Int, ∀ x4 : Int, ∀ m5 : M, (ifB (decide (x4 < (((slLen a100) : Nat) : Int))) (∃ n6 : Nat, 
 (x4 = ((n6 : Nat) : Int)) ∧ (n6 < (slLen a100)) ∧ ∃ x7, ((ldC m5 (slAt a100 (n6 * 1))) = (some (Il x7))) ∧ 
 ifB (decide (x7 < x3)) (fitsP .i64 (x4 + 1) ∧ R2 [(V.c (Il x7)), 
 (V.c (Il (x4 + 1)))] m5) (fitsP .i64 (x4 + 1) ∧ 
 R2 [(V.c (Il x3)), (V.c (Il (x4 + 1)))] m5)) (Q (V.c (Il x3)) m5)) → 
 R2 [(V.c (Il x3)), (V.c (Il x4))] m5) → R2 [(V.c (Il x1)), 
 (V.c (Il 0))] m))) : Wc prog tbl 66 [(V.c a100)] m Q :=
 wc_eq (n := 1) rfl (by kernel_rfl) (by kernel_rfl) h
theorem w70 {a100 : C} {a200 : C} {m : M} {Q : V → M → Prop} (h :
 (∀ m0 : M, (m0 = (M.new m (AO.cells 1 [a100] false))) → rangeP prog tbl a200 m0 (fun l1 m2 R3 R4 => ∃ x5, 
 ∃ x6, ∃ x7, ∃ x8, ∃ x9, ∃ x10, ∃ x11, ∃ x12, ∃ x13, 
 ∃ x14, ∃ x15, ∃ x16, ∃ x17, ∃ x18, ∃ x19, ∃ x20, 
 (l1 = [(V.agg 16 [(Il x5), (Il x6), (Il x7), 
 (Il x8), (Il x9), (Il x10), (Il x11), 
 (Il x12), (Il x13), (Il x14), (Il x15), 
 (Il x16), (Il x17), (Il x18), (Il x19), 
 (Il x20)])]) ∧ ∀ m21 : M, (m21 = (M.new m2 (AO.cells 16 [(Il 0), 
 (Il 0), (Il 0), (Il 0), 
 (Il 0), (Il 0), (Il 0), 
 (Il 0), (Il 0), (Il 0), 
 (Il 0), (Il 0), (Il 0), 
 (Il 0), (Il 0), (Il 0)] false))) → 
 ∃ m22 : M, ((stC m21 (C.ptr m2.nxt 0) 16 [(Il x5), (Il x6), 
 (Il x7), (Il x8), (Il x9), (Il x10), 
 (Il x11), (Il x12), (Il x13), (Il x14), 
 (Il x15), (Il x16), (Il x17), (Il x18), 
 (Il x19), (Il x20)]) = (some m22)) ∧ R3 m22 (fun m23 => 
 ∃ c24 : C, ((ldC m23 (C.ptr m.nxt 0)) = (some c24)) ∧ ∃ x25, ∃ x26, 
 ∃ x27, ∃ x28, ∃ x29, ∃ x30, ∃ x31, ∃ x32, 
 ∃ x33, ∃ x34, ∃ x35, ∃ x36, ∃ x37, ∃ x38, 
 ∃ x39, ∃ x40, ((ldA m23 (C.ptr m2.nxt 0) 16) = (some [(Il x25), 
 (Il x26), (Il x27), (Il x28), (Il x29), 
 (Il x30), (Il x31), (Il x32), (Il x33), 
 (Il x34), (Il x35), (Il x36), (Il x37), 
 (Il x38), (Il x39), (Il x40)])) ∧ 
 ∀ m41 : M, (m41 = (M.new m23 (AO.cells 16 [(Il x25), (Il x26), 
 (Il x27), (Il x28), (Il x29), (Il x30), 
 (Il x31), (Il x32), (Il x33), (Il x34), 
 (Il x35), (Il x36), (Il x37), (Il x38), 
 (Il x39), (Il x40)] false))) → ∃ c42 : C, ∃ m43 : M, 
 (ApR prog 99 m41 c24 (C.sl m23.nxt 0 1 0 (some 1)) c42 m43) ∧ ∃ m44 : M, 
 ((stC m43 (C.ptr m.nxt 0) 1 [c42]) = (some m44)) ∧ R4 Ex.nrm m44)) (After.mk (fun m45 => 
 ∃ c46 : C, ((ldC m45 (C.ptr m.nxt 0)) = (some c46)) ∧ Q (V.c c46) m45) [] (fun m47 => Q (V.c C.sl0) m47)))) : Wc prog tbl 70 [(V.c a100), (V.c a200)] m Q :=
 wc_eq (n := 2) rfl (by kernel_rfl) (by kernel_rfl) h
theorem w77 {a100 : Int} {a101 : Int} {a102 : Int} {a103 : Int} {a104 : Int} {a105 : Int} {a106 : Int} {a200 : Int} {a300 : Int} {m : M} {Q : V → M → Prop} (h :
 (∀ m0 : M, (m0 = (M.new m (AO.cells 7 [(Il a100), (Il a101), (Il a102), 
 (Il a103), (Il a104), (Il a105), (Il a106)] false))) → 
 ∀ m1 : M, (m1 = (M.new m0 (AO.cells 4 [(Il 0), (Il 0), (Il 0), 
 (Il 0)] false))) → isPt (C.ptr m.nxt 0) ∧ ∃ x2, ((ldC m1 (C.ptr m.nxt 0)) = (some (Il x2))) ∧ 
 ∃ m3 : M, ((stC m1 (C.ptr m0.nxt 0) 4 [(Il a200), (Il a300), (Il 0), 
 (Il x2)]) = (some m3)) ∧ ∃ x4, ∃ x5, ∃ x6, ∃ x7, 
 ((ldA m3 (C.ptr m0.nxt 0) 4) = (some [(Il x4), (Il x5), 
 (Il x6), (Il x7)])) ∧ Q (V.agg 4 [(Il x4), (Il x5), 
 (Il x6), (Il x7)]) m3)) : Wc prog tbl 77 [(V.agg 7 [(Il a100), (Il a101), (Il a102), (Il a103), (Il a104), (Il a105), (Il a106)]), (V.c (Il a200)), (V.c (Il a300))] m Q :=
 wc_eq (n := 3) rfl (by kernel_rfl) (by kernel_rfl) h
theorem w80 {a100 : Int} {a101 : Int} {a102 : Int} {a103 : Int} {a104 : Int} {a105 : Int} {a106 : Int} {a200 : Int} {a201 : Int} {a202 : Int} {m : M} {Q : V → M → Prop} (h :
 (∀ m0 : M, (m0 = (M.new m (AO.cells 7 [(Il a100), (Il a101), (Il a102), 
 (Il a103), (Il a104), (Il a105), (Il a106)] false))) → 
 ∀ m1 : M, (m1 = (M.new m0 (AO.cells 3 [(Il a200), (Il a201), (Il a202)] false))) → 
 isPt (C.ptr m.nxt 0) ∧ ∃ x2, ∃ x3, ((ldA m1 (C.ptr m.nxt 1) 2) = (some [(Il x2), 
 (Il x3)])) ∧ isPt (C.ptr m0.nxt 0) ∧ ∃ x4, ((ldC m1 (C.ptr m0.nxt 0)) = (some (Il x4))) ∧ 
 Wc prog tbl 65 [(V.agg 2 [(Il x2), (Il x3)]), (V.c (Il x4))] m1 (fun v5 m6 => 
 ∃ b7 : Bool, (v5 = (V.c (C.bool b7))) ∧ ifB b7 (isPt (C.ptr m.nxt 0) ∧ ∃ x8, ∃ x9, 
 ((ldA m6 (C.ptr m.nxt 3) 2) = (some [(Il x8), (Il x9)])) ∧ 
 isPt (C.ptr m0.nxt 0) ∧ ∃ x10, ((ldC m6 (C.ptr m0.nxt 1)) = (some (Il x10))) ∧ 
 Wc prog tbl 65 [(V.agg 2 [(Il x8), (Il x9)]), (V.c (Il x10))] m6 (fun v11 m12 => 
 ∃ b13 : Bool, (v11 = (V.c (C.bool b13))) ∧ ifB b13 (isPt (C.ptr m.nxt 0) ∧ ∃ x14, 
 ∃ x15, ((ldA m12 (C.ptr m.nxt 5) 2) = (some [(Il x14), 
 (Il x15)])) ∧ isPt (C.ptr m0.nxt 0) ∧ ∃ x16, ((ldC m12 (C.ptr m0.nxt 2)) = (some (Il x16))) ∧ 
 Wc prog tbl 65 [(V.agg 2 [(Il x14), (Il x15)]), 
 (V.c (Il x16))] m12 (fun v17 m18 => ∃ b19 : Bool, (v17 = (V.c (C.bool b19))) ∧ 
 Q (V.c (C.bool b19)) m18)) (Q (V.c (C.bool false)) m12))) (Q (V.c (C.bool false)) m6)))) : Wc prog tbl 80 [(V.agg 7 [(Il a100), (Il a101), (Il a102), (Il a103), (Il a104), (Il a105), (Il a106)]), (V.agg 3 [(Il a200), (Il a201), (Il a202)])] m Q :=
 wc_eq (n := 2) rfl (by kernel_rfl) (by kernel_rfl) h
theorem w87 {a100 : C} {a200 : C} {m : M} {Q : V → M → Prop} (h :
 (∀ m0 : M, (m0 = (M.new m (AO.cells 1 [a200] false))) → Wc prog tbl 104 [(V.c a100), (V.c (C.fn (Fn.func 105) [] [(W.c (C0.ptr m.nxt 0))]))] m0 (fun v1 m2 => 
 ∃ b3 : Bool, (v1 = (V.c (C.bool b3))) ∧ Q (V.c (C.bool (!b3))) m2))) : Wc prog tbl 87 [(V.c a100), (V.c a200)] m Q :=
 wc_eq (n := 2) rfl (by kernel_rfl) (by kernel_rfl) h
theorem w90 {a100 : Int} {a101 : C} {a102 : C} {a103 : C} {a200 : Int} {a201 : Int} {a202 : Int} {a203 : Int} {m : M} {Q : V → M → Prop} (h :
 (∀ m0 : M, (m0 = (M.new m (AO.cells 4 [(Il a100), a101, a102, a103] false))) → ∀ m1 : M, (m1 = (M.new m0 (AO.cells 4 [(Il a200), 
 (Il a201), (Il a202), (Il a203)] false))) → ∃ x2, 
 ∃ c3 : C, ∃ c4 : C, ∃ c5 : C, ((ldA m1 (C.ptr m.nxt 0) 4) = (some [(Il x2), 
 c3, c4, c5])) ∧ isPt (C.ptr m0.nxt 0) ∧ ∃ x6, ((ldC m1 (C.ptr m0.nxt 0)) = (some (Il x6))) ∧ 
 Wc prog tbl 64 [(V.agg 4 [(Il x2), c3, c4, c5]), (V.c (Il x6))] m1 (fun v7 m8 => 
 ∃ b9 : Bool, (v7 = (V.c (C.bool b9))) ∧ ifB b9 (∃ x10, ∃ c11 : C, ∃ c12 : C, ∃ c13 : C, 
 ((ldA m8 (C.ptr m.nxt 0) 4) = (some [(Il x10), c11, c12, c13])) ∧ 
 isPt (C.ptr m0.nxt 0) ∧ ∃ x14, ((ldC m8 (C.ptr m0.nxt 1)) = (some (Il x14))) ∧ 
 Wc prog tbl 29 [(V.agg 4 [(Il x10), c11, c12, c13]), (V.c (Il x14))] m8 (fun v15 m16 => 
 ∃ b17 : Bool, (v15 = (V.c (C.bool b17))) ∧ ifB b17 (isPt (C.ptr m0.nxt 0) ∧ 
 ∃ x18, ∃ x19, ((ldA m16 (C.ptr m0.nxt 2) 2) = (some [(Il x18), 
 (Il x19)])) ∧ Wc prog tbl 107 [(V.agg 2 [(Il x18), 
 (Il x19)]), (V.c (Il 0)), (V.c (Il (100 : Int)))] m16 (fun v20 m21 => 
 ∃ b22 : Bool, (v20 = (V.c (C.bool b22))) ∧ Q (V.c (C.bool b22)) m21)) (Q (V.c (C.bool false)) m16))) (Q (V.c (C.bool false)) m8)))) : Wc prog tbl 90 [(V.agg 4 [(Il a100), a101, a102, a103]), (V.agg 4 [(Il a200), (Il a201), (Il a202), (Il a203)])] m Q :=
 wc_eq (n := 2) rfl (by kernel_rfl) (by kernel_rfl) h
theorem w94 {a100 : Int} {a101 : Int} {a102 : Int} {a103 : Int} {a104 : Int} {a105 : Int} {a106 : Int} {m : M} {Q : V → M → Prop} (h :
 (∀ m0 : M, (m0 = (M.new m (AO.cells 7 [(Il a100), (Il a101), (Il a102), 
 (Il a103), (Il a104), (Il a105), (Il a106)] false))) → 
 isPt (C.ptr m.nxt 0) ∧ ∃ x1, ∃ x2, ((ldA m0 (C.ptr m.nxt 1) 2) = (some [(Il x1), 
 (Il x2)])) ∧ Wc prog tbl 109 [(V.agg 2 [(Il x1), (Il x2)])] m0 (fun v3 m4 => 
 ∃ x5, (v3 = (V.c (Il x5))) ∧ isPt (C.ptr m.nxt 0) ∧ ∃ x6, ∃ x7, 
 ((ldA m4 (C.ptr m.nxt 3) 2) = (some [(Il x6), (Il x7)])) ∧ 
 ((ldA m0 (C.ptr m.nxt 3) 2) = (some [(Il x6), (Il x7)])) ∧ 
 Wc prog tbl 109 [(V.agg 2 [(Il x6), (Il x7)])] m4 (fun v8 m9 => 
 ∃ x10, (v8 = (V.c (Il x10))) ∧ ((0 : Int) ≤ x5) ∧ ((0 : Int) ≤ x10) ∧ 
 fitsP .i64 (x5 * x10) ∧ isPt (C.ptr m.nxt 0) ∧ ∃ x11, ∃ x12, 
 ((ldA m9 (C.ptr m.nxt 5) 2) = (some [(Il x11), (Il x12)])) ∧ 
 ((ldA m4 (C.ptr m.nxt 5) 2) = (some [(Il x11), (Il x12)])) ∧ 
 ((ldA m0 (C.ptr m.nxt 5) 2) = (some [(Il x11), (Il x12)])) ∧ 
 Wc prog tbl 109 [(V.agg 2 [(Il x11), (Il x12)])] m9 (fun v13 m14 => 
 ∃ x15, (v13 = (V.c (Il x15))) ∧ ((0 : Int) ≤ (x5 * x10)) ∧ 
 ((0 : Int) ≤ x15) ∧ fitsP .i64 ((x5 * x10) * x15) ∧ Q (V.c (Il ((x5 * x10) * x15))) m14))))) : Wc prog tbl 94 [(V.agg 7 [(Il a100), (Il a101), (Il a102), (Il a103), (Il a104), (Il a105), (Il a106)])] m Q :=
 wc_eq (n := 1) rfl (by kernel_rfl) (by kernel_rfl) h
theorem w106 {a100 : C} {a200 : C} {m : M} {Q : V → M → Prop} (h :
 (∀ m0 : M, (m0 = (M.new m (AO.cells 1 [a200] false))) → Wc prog tbl 112 [(V.c a100), (V.c (C.fn (Fn.func 113) [] [(W.c (C0.ptr m.nxt 0))]))] m0 (fun v1 m2 => 
 ∃ b3 : Bool, (v1 = (V.c (C.bool b3))) ∧ Q (V.c (C.bool (!b3))) m2))) : Wc prog tbl 106 [(V.c a100), (V.c a200)] m Q :=
 wc_eq (n := 2) rfl (by kernel_rfl) (by kernel_rfl) h
theorem w109 {a100 : Int} {a101 : Int} {m : M} {Q : V → M → Prop} (h :
 (∀ m0 : M, (m0 = (M.new m (AO.cells 2 [(Il a100), (Il a101)] false))) → isPt (C.ptr m.nxt 0) ∧ 
 ∃ x1, ((ldC m0 (C.ptr m.nxt 1)) = (some (Il x1))) ∧ isPt (C.ptr m.nxt 0) ∧ 
 ∃ x2, ((ldC m0 (C.ptr m.nxt 0)) = (some (Il x2))) ∧ fitsP .i64 (x1 - x2) ∧ 
 fitsP .i64 ((x1 - x2) + (1 : Int)) ∧ Q (V.c (Il ((x1 - x2) + (1 : Int)))) m0)) : Wc prog tbl 109 [(V.agg 2 [(Il a100), (Il a101)])] m Q :=
 wc_eq (n := 1) rfl (by kernel_rfl) (by kernel_rfl) h
theorem w112 {a100 : C} {a200 : C} {m : M} {Q : V → M → Prop} (h :
 (Wc prog tbl 114 [(V.c a100), (V.c a200)] m (fun v0 m1 => ∃ x2, (v0 = (V.c (Il x2))) ∧ Q (V.c (C.bool (decide ((0 : Int) ≤ x2)))) m1))) : Wc prog tbl 112 [(V.c a100), (V.c a200)] m Q :=
 wc_eq (n := 2) rfl (by kernel_rfl) (by kernel_rfl) h
end
end Go.Proofs.Ytmlaphekbnanjaa

