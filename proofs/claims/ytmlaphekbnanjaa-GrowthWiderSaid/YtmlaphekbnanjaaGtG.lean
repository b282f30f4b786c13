/- An evaluator of the code of a program, its soundness, what calls ask, memory, and what functions of the program do. Condition: none; a lemma text of this claim. -/
import Derived.Test.YtmlaphekbnanjaaGtF

namespace Go.Proofs.Ytmlaphekbnanjaa
theorem gdi {α : Type} {p A : Prop} {o : Option α} {r : α} (hp : Go.Abs.gd p o = some r) (h : p → o = some r → A) : p ∧ A := have ⟨a, b⟩ := Go.Abs.gd_some hp; ⟨a, h a b⟩
end Go.Proofs.Ytmlaphekbnanjaa

namespace Go.Proofs.Ytmlaphekbnanjaa
open _root_.Go.Proofs.Try
open Go.Abs
set_option maxRecDepth 100000
noncomputable section
structure Rg where
 Lo : Int
 Hi : Int
def ok_Rg (a : Rg) : Prop := (fitsP .i64 a.Lo) ∧ (fitsP .i64 a.Hi)
instance : MK Rg := ⟨fun k => .agg 2 [.int .i64 k.Lo, .int .i64 k.Hi], fun k => fitsP .i64 k.Lo ∧ fitsP .i64 k.Hi ∧ True⟩
instance : MV Rg := ⟨fun k => .agg 2 [.int .i64 k.Lo, .int .i64 k.Hi]⟩
instance : Rp Rg := ⟨2, by omega, fun _ cs a => cs = [.int .i64 a.Lo, .int .i64 a.Hi], fun h => by rw [h]; rfl, fun h _ => h⟩
structure Fld where
 Crop : Int
 Week : Rg
 Damage : Rg
 Old : Rg
def ok_Fld (a : Fld) : Prop := (fitsP .i64 a.Crop) ∧ (ok_Rg a.Week) ∧ (ok_Rg a.Damage) ∧ (ok_Rg a.Old)
instance : MK Fld := ⟨fun k => .agg 7 [.int .i64 k.Crop, .int .i64 k.Week.Lo, .int .i64 k.Week.Hi, .int .i64 k.Damage.Lo, .int .i64 k.Damage.Hi, .int .i64 k.Old.Lo, .int .i64 k.Old.Hi], fun k => fitsP .i64 k.Crop ∧ fitsP .i64 k.Week.Lo ∧ fitsP .i64 k.Week.Hi ∧ fitsP .i64 k.Damage.Lo ∧ fitsP .i64 k.Damage.Hi ∧ fitsP .i64 k.Old.Lo ∧ fitsP .i64 k.Old.Hi ∧ True⟩
instance : MV Fld := ⟨fun k => .agg 7 [.int .i64 k.Crop, .int .i64 k.Week.Lo, .int .i64 k.Week.Hi, .int .i64 k.Damage.Lo, .int .i64 k.Damage.Hi, .int .i64 k.Old.Lo, .int .i64 k.Old.Hi]⟩
instance : Rp Fld := ⟨7, by omega, fun _ cs a => cs = [.int .i64 a.Crop, .int .i64 a.Week.Lo, .int .i64 a.Week.Hi, .int .i64 a.Damage.Lo, .int .i64 a.Damage.Hi, .int .i64 a.Old.Lo, .int .i64 a.Old.Hi], fun h => by rw [h]; rfl, fun h _ => h⟩
theorem rd_Fld {f : M} {x : C} {l : List Fld} (h : Sl f x l) {n : Nat} {a : Fld} (hi : l[n]? = some a) : ∃ _u : Unit, (∀ m, Sub f m → ldA m (slAt x (n * 7)) 7 = some [.int .i64 a.Crop, .int .i64 a.Week.Lo, .int .i64 a.Week.Hi, .int .i64 a.Damage.Lo, .int .i64 a.Damage.Hi, .int .i64 a.Old.Lo, .int .i64 a.Old.Hi] ∧ (∀ j c, ([.int .i64 a.Crop, .int .i64 a.Week.Lo, .int .i64 a.Week.Hi, .int .i64 a.Damage.Lo, .int .i64 a.Damage.Hi, .int .i64 a.Old.Lo, .int .i64 a.Old.Hi] : List C)[j]? = some c → ldC m (ptAdd (slAt x (n * 7)) j) = some c) ∧ ∀ j i, 0 < i → j + i ≤ 7 → ldA m (ptAdd (slAt x (n * 7)) j) i = some ((([.int .i64 a.Crop, .int .i64 a.Week.Lo, .int .i64 a.Week.Hi, .int .i64 a.Damage.Lo, .int .i64 a.Damage.Hi, .int .i64 a.Old.Lo, .int .i64 a.Old.Hi] : List C).drop j).take i)) := by
 obtain ⟨cs, q1, q2⟩ := h.rdP hi
 have q2 : cs = _ := q2
 subst q2
 exact ⟨(), q1⟩
structure Vis where
 Field : Int
 Week : Int
 Seen : Rg
def ok_Vis (a : Vis) : Prop := (fitsP .i64 a.Field) ∧ (fitsP .i64 a.Week) ∧ (ok_Rg a.Seen)
instance : MK Vis := ⟨fun k => .agg 4 [.int .i64 k.Field, .int .i64 k.Week, .int .i64 k.Seen.Lo, .int .i64 k.Seen.Hi], fun k => fitsP .i64 k.Field ∧ fitsP .i64 k.Week ∧ fitsP .i64 k.Seen.Lo ∧ fitsP .i64 k.Seen.Hi ∧ True⟩
instance : MV Vis := ⟨fun k => .agg 4 [.int .i64 k.Field, .int .i64 k.Week, .int .i64 k.Seen.Lo, .int .i64 k.Seen.Hi]⟩
instance : Rp Vis := ⟨4, by omega, fun _ cs a => cs = [.int .i64 a.Field, .int .i64 a.Week, .int .i64 a.Seen.Lo, .int .i64 a.Seen.Hi], fun h => by rw [h]; rfl, fun h _ => h⟩
theorem rd_Vis {f : M} {x : C} {l : List Vis} (h : Sl f x l) {n : Nat} {a : Vis} (hi : l[n]? = some a) : ∃ _u : Unit, (∀ m, Sub f m → ldA m (slAt x (n * 4)) 4 = some [.int .i64 a.Field, .int .i64 a.Week, .int .i64 a.Seen.Lo, .int .i64 a.Seen.Hi] ∧ (∀ j c, ([.int .i64 a.Field, .int .i64 a.Week, .int .i64 a.Seen.Lo, .int .i64 a.Seen.Hi] : List C)[j]? = some c → ldC m (ptAdd (slAt x (n * 4)) j) = some c) ∧ ∀ j i, 0 < i → j + i ≤ 4 → ldA m (ptAdd (slAt x (n * 4)) j) i = some ((([.int .i64 a.Field, .int .i64 a.Week, .int .i64 a.Seen.Lo, .int .i64 a.Seen.Hi] : List C).drop j).take i)) := by
 obtain ⟨cs, q1, q2⟩ := h.rdP hi
 have q2 : cs = _ := q2
 subst q2
 exact ⟨(), q1⟩
structure Ssn where
 Last : Int
 Rules : List (List Int)
 Fields : List Fld
 Visits : List Vis
def ok_Ssn (a : Ssn) : Prop := (fitsP .i64 a.Last) ∧ (a.Rules.length ≤ maxLen ∧ ∀ a0 ∈ a.Rules, a0.length ≤ maxLen ∧ ∀ a1 ∈ a0, fitsP .i64 a1) ∧ (a.Fields.length ≤ maxLen ∧ ∀ a0 ∈ a.Fields, ok_Fld a0) ∧ (a.Visits.length ≤ maxLen ∧ ∀ a0 ∈ a.Visits, ok_Vis a0)
instance : Rp Ssn := ⟨4, by omega, fun f cs a => ∃ c1 c2 c3 : C, cs = [.int .i64 a.Last, c1, c2, c3] ∧ Sl f c1 a.Rules ∧ Sl f c2 a.Fields ∧ Sl f c3 a.Visits, fun h => by obtain ⟨c1, c2, c3, h, _, _, _⟩ := h; rw [h]; rfl, fun h s => by obtain ⟨c1, c2, c3, h, h0, h1, h2⟩ := h; exact ⟨c1, c2, c3, h, h0.subv s, h1.subv s, h2.subv s⟩⟩
structure Trh where
 Week : Int
 Damage : Int
 Old : Int
instance : MK Trh := ⟨fun k => .agg 3 [.int .i64 k.Week, .int .i64 k.Damage, .int .i64 k.Old], fun k => fitsP .i64 k.Week ∧ fitsP .i64 k.Damage ∧ fitsP .i64 k.Old ∧ True⟩
instance : MV Trh := ⟨fun k => .agg 3 [.int .i64 k.Week, .int .i64 k.Damage, .int .i64 k.Old]⟩
instance : Rp Trh := ⟨3, by omega, fun _ cs a => cs = [.int .i64 a.Week, .int .i64 a.Damage, .int .i64 a.Old], fun h => by rw [h]; rfl, fun h _ => h⟩
structure Bnd where
 Week : Rg
 Damage : Rg
 Old : Rg
 Harvest : Rg
instance : MK Bnd := ⟨fun k => .agg 8 [.int .i64 k.Week.Lo, .int .i64 k.Week.Hi, .int .i64 k.Damage.Lo, .int .i64 k.Damage.Hi, .int .i64 k.Old.Lo, .int .i64 k.Old.Hi, .int .i64 k.Harvest.Lo, .int .i64 k.Harvest.Hi], fun k => fitsP .i64 k.Week.Lo ∧ fitsP .i64 k.Week.Hi ∧ fitsP .i64 k.Damage.Lo ∧ fitsP .i64 k.Damage.Hi ∧ fitsP .i64 k.Old.Lo ∧ fitsP .i64 k.Old.Hi ∧ fitsP .i64 k.Harvest.Lo ∧ fitsP .i64 k.Harvest.Hi ∧ True⟩
instance : MV Bnd := ⟨fun k => .agg 8 [.int .i64 k.Week.Lo, .int .i64 k.Week.Hi, .int .i64 k.Damage.Lo, .int .i64 k.Damage.Hi, .int .i64 k.Old.Lo, .int .i64 k.Old.Hi, .int .i64 k.Harvest.Lo, .int .i64 k.Harvest.Hi]⟩
instance : Rp Bnd := ⟨8, by omega, fun _ cs a => cs = [.int .i64 a.Week.Lo, .int .i64 a.Week.Hi, .int .i64 a.Damage.Lo, .int .i64 a.Damage.Hi, .int .i64 a.Old.Lo, .int .i64 a.Old.Hi, .int .i64 a.Harvest.Lo, .int .i64 a.Harvest.Hi], fun h => by rw [h]; rfl, fun h _ => h⟩
theorem rd_Bnd {f : M} {x : C} {l : List Bnd} (h : Sl f x l) {n : Nat} {a : Bnd} (hi : l[n]? = some a) : ∃ _u : Unit, (∀ m, Sub f m → ldA m (slAt x (n * 8)) 8 = some [.int .i64 a.Week.Lo, .int .i64 a.Week.Hi, .int .i64 a.Damage.Lo, .int .i64 a.Damage.Hi, .int .i64 a.Old.Lo, .int .i64 a.Old.Hi, .int .i64 a.Harvest.Lo, .int .i64 a.Harvest.Hi] ∧ (∀ j c, ([.int .i64 a.Week.Lo, .int .i64 a.Week.Hi, .int .i64 a.Damage.Lo, .int .i64 a.Damage.Hi, .int .i64 a.Old.Lo, .int .i64 a.Old.Hi, .int .i64 a.Harvest.Lo, .int .i64 a.Harvest.Hi] : List C)[j]? = some c → ldC m (ptAdd (slAt x (n * 8)) j) = some c) ∧ ∀ j i, 0 < i → j + i ≤ 8 → ldA m (ptAdd (slAt x (n * 8)) j) i = some ((([.int .i64 a.Week.Lo, .int .i64 a.Week.Hi, .int .i64 a.Damage.Lo, .int .i64 a.Damage.Hi, .int .i64 a.Old.Lo, .int .i64 a.Old.Hi, .int .i64 a.Harvest.Lo, .int .i64 a.Harvest.Hi] : List C).drop j).take i)) := by
 obtain ⟨cs, q1, q2⟩ := h.rdP hi
 have q2 : cs = _ := q2
 subst q2
 exact ⟨(), q1⟩
structure Dm where
 d0 : Int
 d1 : Int
 d2 : Int
 d3 : Int
 d4 : Int
 d5 : Int
 d6 : Int
 d7 : Int
 d8 : Int
 d9 : Int
 d10 : Int
 d11 : Int
 d12 : Int
instance : MK Dm := ⟨fun k => .agg 13 [.int .i64 k.d0, .int .i64 k.d1, .int .i64 k.d2, .int .i64 k.d3, .int .i64 k.d4, .int .i64 k.d5, .int .i64 k.d6, .int .i64 k.d7, .int .i64 k.d8, .int .i64 k.d9, .int .i64 k.d10, .int .i64 k.d11, .int .i64 k.d12], fun k => fitsP .i64 k.d0 ∧ fitsP .i64 k.d1 ∧ fitsP .i64 k.d2 ∧ fitsP .i64 k.d3 ∧ fitsP .i64 k.d4 ∧ fitsP .i64 k.d5 ∧ fitsP .i64 k.d6 ∧ fitsP .i64 k.d7 ∧ fitsP .i64 k.d8 ∧ fitsP .i64 k.d9 ∧ fitsP .i64 k.d10 ∧ fitsP .i64 k.d11 ∧ fitsP .i64 k.d12 ∧ True⟩
instance : MV Dm := ⟨fun k => .agg 13 [.int .i64 k.d0, .int .i64 k.d1, .int .i64 k.d2, .int .i64 k.d3, .int .i64 k.d4, .int .i64 k.d5, .int .i64 k.d6, .int .i64 k.d7, .int .i64 k.d8, .int .i64 k.d9, .int .i64 k.d10, .int .i64 k.d11, .int .i64 k.d12]⟩
instance : Rp Dm := ⟨13, by omega, fun _ cs a => cs = [.int .i64 a.d0, .int .i64 a.d1, .int .i64 a.d2, .int .i64 a.d3, .int .i64 a.d4, .int .i64 a.d5, .int .i64 a.d6, .int .i64 a.d7, .int .i64 a.d8, .int .i64 a.d9, .int .i64 a.d10, .int .i64 a.d11, .int .i64 a.d12], fun h => by rw [h]; rfl, fun h _ => h⟩
structure Plt where
 t : Trh
 crop : Int
instance : MK Plt := ⟨fun k => .agg 4 [.int .i64 k.t.Week, .int .i64 k.t.Damage, .int .i64 k.t.Old, .int .i64 k.crop], fun k => fitsP .i64 k.t.Week ∧ fitsP .i64 k.t.Damage ∧ fitsP .i64 k.t.Old ∧ fitsP .i64 k.crop ∧ True⟩
instance : MV Plt := ⟨fun k => .agg 4 [.int .i64 k.t.Week, .int .i64 k.t.Damage, .int .i64 k.t.Old, .int .i64 k.crop]⟩
instance : Rp Plt := ⟨4, by omega, fun _ cs a => cs = [.int .i64 a.t.Week, .int .i64 a.t.Damage, .int .i64 a.t.Old, .int .i64 a.crop], fun h => by rw [h]; rfl, fun h _ => h⟩
structure Crs where
 t : Trh
 d : Dm
instance : MK Crs := ⟨fun k => .agg 16 [.int .i64 k.t.Week, .int .i64 k.t.Damage, .int .i64 k.t.Old, .int .i64 k.d.d0, .int .i64 k.d.d1, .int .i64 k.d.d2, .int .i64 k.d.d3, .int .i64 k.d.d4, .int .i64 k.d.d5, .int .i64 k.d.d6, .int .i64 k.d.d7, .int .i64 k.d.d8, .int .i64 k.d.d9, .int .i64 k.d.d10, .int .i64 k.d.d11, .int .i64 k.d.d12], fun k => fitsP .i64 k.t.Week ∧ fitsP .i64 k.t.Damage ∧ fitsP .i64 k.t.Old ∧ fitsP .i64 k.d.d0 ∧ fitsP .i64 k.d.d1 ∧ fitsP .i64 k.d.d2 ∧ fitsP .i64 k.d.d3 ∧ fitsP .i64 k.d.d4 ∧ fitsP .i64 k.d.d5 ∧ fitsP .i64 k.d.d6 ∧ fitsP .i64 k.d.d7 ∧ fitsP .i64 k.d.d8 ∧ fitsP .i64 k.d.d9 ∧ fitsP .i64 k.d.d10 ∧ fitsP .i64 k.d.d11 ∧ fitsP .i64 k.d.d12 ∧ True⟩
instance : MV Crs := ⟨fun k => .agg 16 [.int .i64 k.t.Week, .int .i64 k.t.Damage, .int .i64 k.t.Old, .int .i64 k.d.d0, .int .i64 k.d.d1, .int .i64 k.d.d2, .int .i64 k.d.d3, .int .i64 k.d.d4, .int .i64 k.d.d5, .int .i64 k.d.d6, .int .i64 k.d.d7, .int .i64 k.d.d8, .int .i64 k.d.d9, .int .i64 k.d.d10, .int .i64 k.d.d11, .int .i64 k.d.d12]⟩
instance : Rp Crs := ⟨16, by omega, fun _ cs a => cs = [.int .i64 a.t.Week, .int .i64 a.t.Damage, .int .i64 a.t.Old, .int .i64 a.d.d0, .int .i64 a.d.d1, .int .i64 a.d.d2, .int .i64 a.d.d3, .int .i64 a.d.d4, .int .i64 a.d.d5, .int .i64 a.d.d6, .int .i64 a.d.d7, .int .i64 a.d.d8, .int .i64 a.d.d9, .int .i64 a.d.d10, .int .i64 a.d.d11, .int .i64 a.d.d12], fun h => by rw [h]; rfl, fun h _ => h⟩
structure Qn where
 number : Crs → Option (Int)
structure Wk where
 s : Ssn
 damages : Option (Plt → Option (Dm))
def pawake : Option Bool := some true
def prIn (n : Int) (low : Int) (high : Int) : Option (Bool) := (if low ≤ n then (some (decide (n ≤ high))) else (some false))
def prWithin (r : Rg) (low : Int) (high : Int) : Option (Bool) := (if low ≤ r.Lo then (if r.Lo ≤ r.Hi then (some (decide (r.Hi ≤ high))) else (some false)) else (some false))
def prCount (r : Rg) : Option (Int) := (gd (fitsP .i64 (r.Hi - r.Lo)) (gd (fitsP .i64 ((r.Hi - r.Lo) + (1 : Int))) (some ((r.Hi - r.Lo) + (1 : Int)))))
def prIsRule_L0 (s : Ssn) (l : List Int) : Nat → Int → Option (Bool)
 | 0, _ => none
 | d23 + 1, x3 => (if x3 < (l.length : Int) then ((idx l x3).bind fun x25 => ((prIn x25 (0 : Int) (100 : Int)).bind fun r27 => (if r27 = true then (gd (fitsP .i64 (x3 + 1)) (prIsRule_L0 s l d23 (x3 + 1))) else (some false)))) else (gd (fitsP .i64 (s.Last + (1 : Int))) (some (decide ((l.length : Int) = (s.Last + (1 : Int)))))))
def prIsRule (s : Ssn) (l : List Int) : Option (Bool) := (prIsRule_L0 s l (l.length + 1) (0 : Int))
def prMany (fl : Fld) : Option (Int) := ((prCount fl.Week).bind fun r41 => ((prCount fl.Damage).bind fun r47 => (gd ((0 : Int) ≤ r41) (gd ((0 : Int) ≤ r47) (gd (fitsP .i64 (r41 * r47)) ((prCount fl.Old).bind fun r56 => (gd ((0 : Int) ≤ (r41 * r47)) (gd ((0 : Int) ≤ r56) (gd (fitsP .i64 ((r41 * r47) * r56)) (some ((r41 * r47) * r56)))))))))))
def prFault_L3 (s : Ssn) : Nat → Int → Option (Int)
 | 0, _ => none
 | d194 + 1, x90 => (if x90 < (s.Fields.length : Int) then ((idx s.Fields x90).bind fun v196 => ((prMany v196).bind fun r199 => (if (3000 : Int) < r199 then (some (3 : Int)) else (gd (fitsP .i64 (x90 + 1)) (prFault_L3 s d194 (x90 + 1)))))) else (some (0 : Int)))
def prFault_L2 (s : Ssn) : Nat → Int → Int → Option (Int)
 | 0, _, _ => none
 | d149 + 1, x61, x62 => (if x62 < (s.Visits.length : Int) then ((idx s.Visits x62).bind fun v151 => (gd (fitsP .i64 ((s.Fields.length : Int) - (1 : Int))) ((prIn v151.Field (0 : Int) ((s.Fields.length : Int) - (1 : Int))).bind fun r167 => (if r167 = true then ((prIn v151.Week (0 : Int) s.Last).bind fun r175 => (if r175 = true then ((prWithin v151.Seen (0 : Int) (100 : Int)).bind fun r183 => (if r183 = true then (gd (fitsP .i64 (x62 + 1)) (prFault_L2 s d149 x61 (x62 + 1))) else (some (1 : Int)))) else (some (1 : Int)))) else (some (1 : Int)))))) else (prFault_L3 s 1000000 (0 : Int)))
def prFault_L1 (s : Ssn) : Nat → Int → Int → Option (Int)
 | 0, _, _ => none
 | d96 + 1, x24, x25 => (if x25 < (s.Fields.length : Int) then ((idx s.Fields x25).bind fun v98 => (gd (fitsP .i64 ((s.Rules.length : Int) - (1 : Int))) ((prIn v98.Crop (0 : Int) ((s.Rules.length : Int) - (1 : Int))).bind fun r114 => (if r114 = true then ((prWithin v98.Week (0 : Int) s.Last).bind fun r122 => (if r122 = true then ((prWithin v98.Damage (0 : Int) (100 : Int)).bind fun r130 => (if r130 = true then ((prWithin v98.Old (0 : Int) (100 : Int)).bind fun r138 => (if r138 = true then (gd (fitsP .i64 (x25 + 1)) (prFault_L1 s d96 x24 (x25 + 1))) else (some (1 : Int)))) else (some (1 : Int)))) else (some (1 : Int)))) else (some (1 : Int)))))) else (prFault_L2 s 1000000 x24 (0 : Int)))
def prFault_L0 (s : Ssn) : Nat → Int → Int → Option (Int)
 | 0, _, _ => none
 | d79 + 1, x9, x10 => (if x10 < (s.Rules.length : Int) then ((idx s.Rules x10).bind fun v81 => ((prIsRule s v81).bind fun r86 => (if r86 = true then (gd (fitsP .i64 (x10 + 1)) (prFault_L0 s d79 x9 (x10 + 1))) else (some (1 : Int))))) else (prFault_L1 s 1000000 x9 (0 : Int)))
def prFault (s : Ssn) : Option (Int) := (if (12 : Int) < s.Last then (some (3 : Int)) else (if (3 : Int) < (s.Rules.length : Int) then (some (3 : Int)) else (if (3 : Int) < (s.Fields.length : Int) then (some (3 : Int)) else (if (6 : Int) < (s.Visits.length : Int) then (some (3 : Int)) else (if s.Last < (0 : Int) then (some (1 : Int)) else (if (s.Rules.length : Int) = (0 : Int) then (some (1 : Int)) else (if (s.Fields.length : Int) = (0 : Int) then (some (1 : Int)) else (prFault_L0 s 1000000 (0 : Int) (0 : Int)))))))))
def plList (l : List Int) : Option (List Int) := (gd (([] : List Int).length + l.length ≤ 1048576) (some ([] ++ l)))
def plTo (r : Rg) : Option (Rg) := (some r)
def plSeason_L2 (s : Ssn) (y265 : List (List Int)) (y315 : List Fld) : Nat → Int → (List Vis) → Int → Option (Ssn)
 | 0, _, _, _ => none
 | d397 + 1, y393, y394, x60 => (if x60 < (s.Visits.length : Int) then ((idx s.Visits x60).bind fun v399 => ((plTo v399.Seen).bind fun r418 => (gd (y394.length < 1048576) (gd (fitsP .i64 (x60 + 1)) (plSeason_L2 s y265 y315 d397 y393 (y394 ++ [({ Field := v399.Field, Week := v399.Week, Seen := r418 } : Vis)]) (x60 + 1)))))) else (some ({ Last := y393, Rules := y265, Fields := y315, Visits := y394 } : Ssn)))
def plSeason_L1 (s : Ssn) (y265 : List (List Int)) : Nat → Int → (List Fld) → (List Vis) → Int → Option (Ssn)
 | 0, _, _, _, _ => none
 | d321 + 1, y314, y315, y318, x21 => (if x21 < (s.Fields.length : Int) then ((idx s.Fields x21).bind fun v323 => ((plTo v323.Week).bind fun r342 => ((plTo v323.Damage).bind fun r351 => ((plTo v323.Old).bind fun r360 => (gd (y315.length < 1048576) (gd (fitsP .i64 (x21 + 1)) (plSeason_L1 s y265 d321 y314 (y315 ++ [({ Crop := v323.Crop, Week := r342, Damage := r351, Old := r360 } : Fld)]) y318 (x21 + 1)))))))) else (plSeason_L2 s y265 y315 1000000 y314 y318 (0 : Int)))
def plSeason_L0 (s : Ssn) : Nat → Int → (List (List Int)) → (List Fld) → (List Vis) → Int → Option (Ssn)
 | 0, _, _, _, _, _ => none
 | d274 + 1, y264, y265, y268, y271, x6 => (if x6 < (s.Rules.length : Int) then ((idx s.Rules x6).bind fun v276 => ((plList v276).bind fun r281 => (gd (y265.length < 1048576) (gd (fitsP .i64 (x6 + 1)) (plSeason_L0 s d274 y264 (y265 ++ [r281]) y268 y271 (x6 + 1)))))) else (plSeason_L1 s y265 1000000 y264 y268 y271 (0 : Int)))
def plSeason (s : Ssn) : Option (Ssn) := (plSeason_L0 s 1000000 s.Last [] [] [] (0 : Int))
def plThin_L1 (s : Ssn) (r507 : Int) : Nat → Int → Option (Bool)
 | 0, _ => none
 | d515 + 1, x21 => (if x21 < (s.Fields.length : Int) then (if (!(decide (r507 = 0))) = true then (gd (fitsP .i64 (x21 + 1)) (plThin_L1 s r507 d515 (x21 + 1))) else ((idx s.Fields x21).bind fun v518 => ((prMany v518).bind fun r521 => (if (200 : Int) < r521 then (some false) else (gd (fitsP .i64 (x21 + 1)) (plThin_L1 s r507 d515 (x21 + 1))))))) else (some true))
def plThin_L0 (s : Ssn) : Nat → Bool → Int → Option (Bool)
 | 0, _, _ => none
 | d498 + 1, b5, x6 => (if x6 < (s.Rules.length : Int) then ((idx s.Rules x6).bind fun v500 => (if (20 : Int) < (v500.length : Int) then (some false) else (gd (fitsP .i64 (x6 + 1)) (plThin_L0 s d498 b5 (x6 + 1))))) else ((prFault s).bind fun r507 => (plThin_L1 s r507 1000000 (0 : Int))))
def plThin (s : Ssn) : Option (Bool) := (if (5 : Int) < (s.Rules.length : Int) then (some false) else (if (5 : Int) < (s.Fields.length : Int) then (some false) else (if (9 : Int) < (s.Visits.length : Int) then (some false) else (plThin_L0 s 1000000 false (0 : Int)))))
def plReady (s : Ssn) : Option (Bool) := ((plThin s).bind fun r535 => (if r535 = true then ((prFault s).bind fun r542 => (some (decide (r542 = 0)))) else (some false)))
def plInside (a : Rg) (b : Rg) : Option (Bool) := (if b.Lo ≤ a.Lo then (some (decide (a.Hi ≤ b.Hi))) else (some false))
def plNarrower_L0 (a : List Bnd) (b : List Bnd) : Nat → Int → Option (Bool)
 | 0, _ => none
 | d563 + 1, x2 => (if x2 < (a.length : Int) then ((idx a x2).bind fun v565 => ((idx b x2).bind fun v568 => ((plInside v565.Week v568.Week).bind fun r571 => (if r571 = true then ((idx a x2).bind fun v577 => ((idx b x2).bind fun v580 => ((plInside v577.Damage v580.Damage).bind fun r583 => (if r583 = true then ((idx a x2).bind fun v589 => ((idx b x2).bind fun v592 => ((plInside v589.Old v592.Old).bind fun r595 => (if r595 = true then ((idx a x2).bind fun v601 => ((idx b x2).bind fun v604 => ((plInside v601.Harvest v604.Harvest).bind fun r607 => (if r607 = true then (gd (fitsP .i64 (x2 + 1)) (plNarrower_L0 a b d563 (x2 + 1))) else (some false))))) else (some false))))) else (some false))))) else (some false))))) else (some true))
def plNarrower (a : List Bnd) (b : List Bnd) : Option (Bool) := (if (a.length : Int) = (b.length : Int) then (plNarrower_L0 a b (a.length + 1) (0 : Int)) else (some false))
def phas (r : Rg) (n : Int) : Option (Bool) := (if r.Lo ≤ n then (some (decide (n ≤ r.Hi))) else (some false))
def pcount (r : Rg) : Option (Int) := (gd (fitsP .i64 (r.Hi - r.Lo)) (gd (fitsP .i64 ((r.Hi - r.Lo) + (1 : Int))) (some ((r.Hi - r.Lo) + (1 : Int)))))
def pwithin (r : Rg) (low : Int) (high : Int) : Option (Bool) := (if low ≤ r.Lo then (if r.Lo ≤ r.Hi then (some (decide (r.Hi ≤ high))) else (some false)) else (some false))
def pisHundredths (n : Int) : Option (Bool) := ((phas ({ Lo := (0 : Int), Hi := (100 : Int) } : Rg) n).bind fun r720 => (some r720))
def phasField (s : Ssn) (n : Int) : Option (Bool) := (gd (fitsP .i64 ((s.Fields.length : Int) - (1 : Int))) ((phas ({ Lo := (0 : Int), Hi := ((s.Fields.length : Int) - (1 : Int)) } : Rg) n).bind fun r731 => (some r731)))
def phasWeek (s : Ssn) (n : Int) : Option (Bool) := ((phas ({ Lo := (0 : Int), Hi := s.Last } : Rg) n).bind fun r742 => (some r742))
def ptooMany (s : Ssn) : Option (Bool) := (if (12 : Int) < s.Last then (some true) else (if (3 : Int) < (s.Rules.length : Int) then (some true) else (if (3 : Int) < (s.Fields.length : Int) then (some true) else (some (decide ((6 : Int) < (s.Visits.length : Int)))))))
def peachI1 (x : Int) (passes : Int → Option (Bool)) : Option (Bool) := ((passes x).bind fun r756 => (some (!r756)))
def pindexI_L0 (l : List Int) (p : Int → Option (Bool)) : Nat → Int → Option (Int)
 | 0, _ => none
 | d763 + 1, x2 => (if x2 < (l.length : Int) then ((idx l x2).bind fun x765 => ((p x765).bind fun r767 => (if r767 = true then (some x2) else (gd (fitsP .i64 (x2 + 1)) (pindexI_L0 l p d763 (x2 + 1)))))) else (some (-1 : Int)))
def pindexI (l : List Int) (p : Int → Option (Bool)) : Option (Int) := (pindexI_L0 l p (l.length + 1) (0 : Int))
def pcontainsI (l : List Int) (p : Int → Option (Bool)) : Option (Bool) := ((pindexI l p).bind fun r774 => (some (decide ((0 : Int) ≤ r774))))
def peachI (l : List Int) (passes : Int → Option (Bool)) : Option (Bool) := ((pcontainsI l (fun a788 => peachI1 a788 passes)).bind fun r790 => (some (!r790)))
def peachL1 (x : List Int) (passes : List Int → Option (Bool)) : Option (Bool) := ((passes x).bind fun r795 => (some (!r795)))
def pindexL_L0 (l : List (List Int)) (p : List Int → Option (Bool)) : Nat → Int → Option (Int)
 | 0, _ => none
 | d802 + 1, x2 => (if x2 < (l.length : Int) then ((idx l x2).bind fun v804 => ((p v804).bind fun r809 => (if r809 = true then (some x2) else (gd (fitsP .i64 (x2 + 1)) (pindexL_L0 l p d802 (x2 + 1)))))) else (some (-1 : Int)))
def pindexL (l : List (List Int)) (p : List Int → Option (Bool)) : Option (Int) := (pindexL_L0 l p (l.length + 1) (0 : Int))
def pcontainsL (l : List (List Int)) (p : List Int → Option (Bool)) : Option (Bool) := ((pindexL l p).bind fun r816 => (some (decide ((0 : Int) ≤ r816))))
def peachL (l : List (List Int)) (passes : List Int → Option (Bool)) : Option (Bool) := ((pcontainsL l (fun a830 => peachL1 a830 passes)).bind fun r834 => (some (!r834)))
def peachF1 (x : Fld) (passes : Fld → Option (Bool)) : Option (Bool) := ((passes x).bind fun r844 => (some (!r844)))
def pindexF_L0 (l : List Fld) (p : Fld → Option (Bool)) : Nat → Int → Option (Int)
 | 0, _ => none
 | d852 + 1, x2 => (if x2 < (l.length : Int) then ((idx l x2).bind fun v854 => ((p v854).bind fun r857 => (if r857 = true then (some x2) else (gd (fitsP .i64 (x2 + 1)) (pindexF_L0 l p d852 (x2 + 1)))))) else (some (-1 : Int)))
def pindexF (l : List Fld) (p : Fld → Option (Bool)) : Option (Int) := (pindexF_L0 l p (l.length + 1) (0 : Int))
def pcontainsF (l : List Fld) (p : Fld → Option (Bool)) : Option (Bool) := ((pindexF l p).bind fun r864 => (some (decide ((0 : Int) ≤ r864))))
def peachF (l : List Fld) (passes : Fld → Option (Bool)) : Option (Bool) := ((pcontainsF l (fun a878 => peachF1 a878 passes)).bind fun r880 => (some (!r880)))
def peachV1 (x : Vis) (passes : Vis → Option (Bool)) : Option (Bool) := ((passes x).bind fun r890 => (some (!r890)))
def pindexV_L0 (l : List Vis) (p : Vis → Option (Bool)) : Nat → Int → Option (Int)
 | 0, _ => none
 | d898 + 1, x2 => (if x2 < (l.length : Int) then ((idx l x2).bind fun v900 => ((p v900).bind fun r903 => (if r903 = true then (some x2) else (gd (fitsP .i64 (x2 + 1)) (pindexV_L0 l p d898 (x2 + 1)))))) else (some (-1 : Int)))
def pindexV (l : List Vis) (p : Vis → Option (Bool)) : Option (Int) := (pindexV_L0 l p (l.length + 1) (0 : Int))
def pcontainsV (l : List Vis) (p : Vis → Option (Bool)) : Option (Bool) := ((pindexV l p).bind fun r910 => (some (decide ((0 : Int) ≤ r910))))
def peachV (l : List Vis) (passes : Vis → Option (Bool)) : Option (Bool) := ((pcontainsV l (fun a924 => peachV1 a924 passes)).bind fun r926 => (some (!r926)))
def pvalidRule (s : Ssn) (rule : List Int) : Option (Bool) := (gd (fitsP .i64 (s.Last + (1 : Int))) (if (rule.length : Int) = (s.Last + (1 : Int)) then ((peachI rule (fun a984 => pisHundredths a984)).bind fun r986 => (some r986)) else (some false)))
def pvalidField (s : Ssn) (fl : Fld) : Option (Bool) := (gd (fitsP .i64 ((s.Rules.length : Int) - (1 : Int))) ((phas ({ Lo := (0 : Int), Hi := ((s.Rules.length : Int) - (1 : Int)) } : Rg) fl.Crop).bind fun r1004 => (if r1004 = true then ((pwithin fl.Week (0 : Int) s.Last).bind fun r1012 => (if r1012 = true then ((pwithin fl.Damage (0 : Int) (100 : Int)).bind fun r1020 => (if r1020 = true then ((pwithin fl.Old (0 : Int) (100 : Int)).bind fun r1028 => (some r1028)) else (some false))) else (some false))) else (some false))))
def pvalidVisit (s : Ssn) (v : Vis) : Option (Bool) := ((phasField s v.Field).bind fun r1046 => (if r1046 = true then ((phasWeek s v.Week).bind fun r1054 => (if r1054 = true then ((pwithin v.Seen (0 : Int) (100 : Int)).bind fun r1062 => (some r1062)) else (some false))) else (some false)))
def phasFew (fl : Fld) : Option (Bool) := ((pcount fl.Week).bind fun r1074 => ((pcount fl.Damage).bind fun r1080 => (gd ((0 : Int) ≤ r1074) (gd ((0 : Int) ≤ r1080) (gd (fitsP .i64 (r1074 * r1080)) ((pcount fl.Old).bind fun r1089 => (gd ((0 : Int) ≤ (r1074 * r1080)) (gd ((0 : Int) ≤ r1089) (gd (fitsP .i64 ((r1074 * r1080) * r1089)) (some (decide (((r1074 * r1080) * r1089) ≤ (3000 : Int)))))))))))))
def pvalid (s : Ssn) : Option (Bool) := (if (0 : Int) ≤ s.Last then (if (0 : Int) < (s.Rules.length : Int) then (if (0 : Int) < (s.Fields.length : Int) then ((peachL s.Rules (fun a1140 => pvalidRule s a1140)).bind fun r1144 => (if r1144 = true then ((peachF s.Fields (fun a1151 => pvalidField s a1151)).bind fun r1153 => (if r1153 = true then ((peachV s.Visits (fun a1160 => pvalidVisit s a1160)).bind fun r1162 => (some r1162)) else (some false))) else (some false))) else (some false)) else (some false)) else (some false))
def pcheck (s : Ssn) : Option (Int) := ((ptooMany s).bind fun r1173 => (if r1173 = true then (some (3 : Int)) else ((pvalid s).bind fun r1180 => (if r1180 = true then ((peachF s.Fields (fun a1187 => phasFew a1187)).bind fun r1189 => (if r1189 = true then (some (0 : Int)) else (some (3 : Int)))) else (some (1 : Int))))))
def pgrow_L0 (s : Ssn) (p : Plt) : Nat → Int → Int → Int → Int → Int → Int → Int → Int → Int → Int → Int → Int → Int → Int → Int → Option (Dm)
 | 0, _, _, _, _, _, _, _, _, _, _, _, _, _, _, _ => none
 | d1237 + 1, y1224, y1225, y1226, y1227, y1228, y1229, y1230, y1231, y1232, y1233, y1234, y1235, y1236, x5, x7 => (if x7 < 13 then (if x7 = p.t.Week then (gd (0 ≤ x7 ∧ x7 < 13) (gd (fitsP .i64 (x7 + 1)) (pgrow_L0 s p d1237 (sti x7 0 p.t.Damage y1224) (sti x7 1 p.t.Damage y1225) (sti x7 2 p.t.Damage y1226) (sti x7 3 p.t.Damage y1227) (sti x7 4 p.t.Damage y1228) (sti x7 5 p.t.Damage y1229) (sti x7 6 p.t.Damage y1230) (sti x7 7 p.t.Damage y1231) (sti x7 8 p.t.Damage y1232) (sti x7 9 p.t.Damage y1233) (sti x7 10 p.t.Damage y1234) (sti x7 11 p.t.Damage y1235) (sti x7 12 p.t.Damage y1236) p.t.Damage (x7 + 1)))) else (if x7 ≤ s.Last then ((idx s.Rules p.crop).bind fun v1251 => ((idx v1251 x7).bind fun x1256 => (gd ((0 : Int) ≤ x5) (gd ((0 : Int) ≤ x1256) (gd (fitsP .i64 (x5 * x1256)) (gd ((0 : Int) ≤ (x5 * x1256)) (gd ((0 : Int) < (100 : Int)) (gd (fitsP .i64 ((x5 * x1256) / (100 : Int))) (gd (fitsP .i64 (x5 - ((x5 * x1256) / (100 : Int)))) (gd (0 ≤ x7 ∧ x7 < 13) (gd (fitsP .i64 (x7 + 1)) (pgrow_L0 s p d1237 (sti x7 0 (x5 - ((x5 * x1256) / (100 : Int))) y1224) (sti x7 1 (x5 - ((x5 * x1256) / (100 : Int))) y1225) (sti x7 2 (x5 - ((x5 * x1256) / (100 : Int))) y1226) (sti x7 3 (x5 - ((x5 * x1256) / (100 : Int))) y1227) (sti x7 4 (x5 - ((x5 * x1256) / (100 : Int))) y1228) (sti x7 5 (x5 - ((x5 * x1256) / (100 : Int))) y1229) (sti x7 6 (x5 - ((x5 * x1256) / (100 : Int))) y1230) (sti x7 7 (x5 - ((x5 * x1256) / (100 : Int))) y1231) (sti x7 8 (x5 - ((x5 * x1256) / (100 : Int))) y1232) (sti x7 9 (x5 - ((x5 * x1256) / (100 : Int))) y1233) (sti x7 10 (x5 - ((x5 * x1256) / (100 : Int))) y1234) (sti x7 11 (x5 - ((x5 * x1256) / (100 : Int))) y1235) (sti x7 12 (x5 - ((x5 * x1256) / (100 : Int))) y1236) (x5 - ((x5 * x1256) / (100 : Int))) (x7 + 1))))))))))))) else (gd (0 ≤ x7 ∧ x7 < 13) (gd (fitsP .i64 (x7 + 1)) (pgrow_L0 s p d1237 (sti x7 0 x5 y1224) (sti x7 1 x5 y1225) (sti x7 2 x5 y1226) (sti x7 3 x5 y1227) (sti x7 4 x5 y1228) (sti x7 5 x5 y1229) (sti x7 6 x5 y1230) (sti x7 7 x5 y1231) (sti x7 8 x5 y1232) (sti x7 9 x5 y1233) (sti x7 10 x5 y1234) (sti x7 11 x5 y1235) (sti x7 12 x5 y1236) x5 (x7 + 1)))))) else (some ({ d0 := y1224, d1 := y1225, d2 := y1226, d3 := y1227, d4 := y1228, d5 := y1229, d6 := y1230, d7 := y1231, d8 := y1232, d9 := y1233, d10 := y1234, d11 := y1235, d12 := y1236 } : Dm)))
def pgrow (s : Ssn) (p : Plt) : Option (Dm) := (pgrow_L0 s p (Int.toNat (13 : Int) + 1) (0 : Int) (0 : Int) (0 : Int) (0 : Int) (0 : Int) (0 : Int) (0 : Int) (0 : Int) (0 : Int) (0 : Int) (0 : Int) (0 : Int) (0 : Int) (0 : Int) (0 : Int))
def pharvestD (d : Dm) : Option (Int) := ((idx ([d.d0, d.d1, d.d2, d.d3, d.d4, d.d5, d.d6, d.d7, d.d8, d.d9, d.d10, d.d11, d.d12] : List Int) (12 : Int)).bind fun v1386 => (some v1386))
def pcWeek (c : Crs) : Option (Int) := (some c.t.Week)
def pcDamage (c : Crs) : Option (Int) := (some c.t.Damage)
def pcOld (c : Crs) : Option (Int) := (some c.t.Old)
def pseen (c : Crs) (week : Int) : Option (Int) := ((idx ([c.d.d0, c.d.d1, c.d.d2, c.d.d3, c.d.d4, c.d.d5, c.d.d6, c.d.d7, c.d.d8, c.d.d9, c.d.d10, c.d.d11, c.d.d12] : List Int) week).bind fun v1408 => (gd (fitsP .i64 (c.t.Old + v1408)) (some (min (c.t.Old + v1408) (100 : Int)))))
def pallows1 (v : Vis) (field : Int) (c : Crs) : Option (Bool) := (if v.Field = field then ((pseen c v.Week).bind fun r1457 => ((phas v.Seen r1457).bind fun r1463 => (some r1463))) else (some true))
def pallows (s : Ssn) (field : Int) (c : Crs) : Option (Bool) := ((peachV s.Visits (fun a1498 => pallows1 a1498 field c)).bind fun r1500 => (some r1500))
def pnumbersI_L0 (r : Rg) (r1547 : Int) : Nat → Int → Option (List Int)
 | 0, _ => none
 | d1558 + 1, x6 => (if x6 < r1547 then (gd (fitsP .i64 (r.Lo + x6)) (((gd (fitsP .i64 (x6 + 1)) (pnumbersI_L0 r r1547 d1558 (x6 + 1)))).bind fun r1561 => some ((r.Lo + x6) :: r1561))) else (some []))
def pnumbersI (r : Rg) : Option (List Int) := ((pcount r).bind fun r1547 => (pnumbersI_L0 r r1547 (Int.toNat r1547 + 1) (0 : Int)))
def pnumbers (r : Rg) : Option (List Int) := ((pnumbersI r).bind fun l1584 => (some l1584))
def pplant (fl : Fld) (week : Int) (damage : Int) : Option (Plt) := (some ({ t := ({ Week := week, Damage := damage, Old := (0 : Int) } : Trh), crop := fl.Crop } : Plt))
def popen_L1_xret (s : Ssn) (_w1682 : Option (Plt → Option (Dm))) : Option (Wk) := (some ({ s := ({ Last := (0 : Int), Rules := [], Fields := [], Visits := [] } : Ssn), damages := none } : Wk))
def popen_L2 (s : Ssn) (v1644 : Fld) (a1688 : Int) (K_X1 : (Option (Plt → Option (Dm))) → Option (Wk)) : List Int → (Option (Plt → Option (Dm))) → Option (Wk)
 | [], w1755 => (K_X1 w1755)
 | a1758 :: q1759, w1755 => ((pplant v1644 a1688 a1758).bind fun r1784 => ((pgrow s r1784).bind fun r1823 => (gd (MK.fit r1784) ((mset w1755 r1784 r1823).bind fun w1838 => ((popen_L2 s v1644 a1688 K_X1 q1759) w1838)))))
def popen_L1 (s : Ssn) (x11 : Int) (v1644 : Fld) (K_R10 : (Option (Plt → Option (Dm))) → Int → Option (Wk)) : List Int → (Option (Plt → Option (Dm))) → Option (Wk)
 | [], w1682 => (gd (fitsP .i64 (x11 + 1)) (K_R10 w1682 (x11 + 1)))
 | a1688 :: q1689, w1682 => ((pnumbers v1644.Damage).bind fun r1735 => (popen_L2 s v1644 a1688 ((popen_L1 s x11 v1644 K_R10 q1689)) r1735 w1682))
def popen_L0 (s : Ssn) : Nat → (Option (Plt → Option (Dm))) → Int → Option (Wk)
 | 0, _, _ => none
 | d1642 + 1, w1641, x11 => (if x11 < (s.Fields.length : Int) then ((idx s.Fields x11).bind fun v1644 => ((pnumbers v1644.Week).bind fun r1665 => (popen_L1 s x11 v1644 (popen_L0 s d1642) r1665 w1641))) else (some ({ s := s, damages := w1641 } : Wk)))
def popen (s : Ssn) : Option (Wk) := (popen_L0 s (s.Fields.length + 1) (some fun _ => none : Option (Plt → Option (Dm))) (0 : Int))
def pchoicesI_L0_xret : Option (List Crs) := (some [])
def pchoicesI_L1_xret : Option (List Crs) := (pchoicesI_L0_xret)
def pchoicesI_L2_xret : Option (List Crs) := (pchoicesI_L1_xret)
def pchoicesI_L2 (a1902 : Int) (a1963 : Int) (K_X1 : Option (List Crs)) : List Int → Option (List Crs)
 | [] => (K_X1)
 | a2084 :: q2085 => ((((pchoicesI_L2 a1902 a1963 K_X1 q2085))).bind fun r2110 => some (({ t := ({ Week := a1902, Damage := a1963, Old := a2084 } : Trh), d := ({ d0 := (0 : Int), d1 := (0 : Int), d2 := (0 : Int), d3 := (0 : Int), d4 := (0 : Int), d5 := (0 : Int), d6 := (0 : Int), d7 := (0 : Int), d8 := (0 : Int), d9 := (0 : Int), d10 := (0 : Int), d11 := (0 : Int), d12 := (0 : Int) } : Dm) } : Crs) :: r2110))
def pchoicesI_L3_xret : Option (List Crs) := (pchoicesI_L1_xret)
def pchoicesI_L3 (a1902 : Int) (a1963 : Int) (w2033 : Dm) (K_X1 : Option (List Crs)) : List Int → Option (List Crs)
 | [] => (K_X1)
 | a2191 :: q2192 => ((((pchoicesI_L3 a1902 a1963 w2033 K_X1 q2192))).bind fun r2217 => some (({ t := ({ Week := a1902, Damage := a1963, Old := a2191 } : Trh), d := w2033 } : Crs) :: r2217))
def pchoicesI_L1 (fl : Fld) (w : Wk) (a1902 : Int) (K_X0 : Option (List Crs)) : List Int → Option (List Crs)
 | [] => (K_X0)
 | a1963 :: q1964 => ((pplant fl a1902 a1963).bind fun r2019 => (gd (MK.fit r2019) (mcase (mget w.damages r2019) ((pnumbers fl.Old).bind fun r2055 => (pchoicesI_L2 a1902 a1963 ((pchoicesI_L1 fl w a1902 K_X0 q1964)) r2055)) fun w2033 => ((pnumbers fl.Old).bind fun r2162 => (pchoicesI_L3 a1902 a1963 w2033 ((pchoicesI_L1 fl w a1902 K_X0 q1964)) r2162)))))
def pchoicesI_L0 (fl : Fld) (w : Wk) : List Int → Option (List Crs)
 | [] => (some [])
 | a1902 :: q1903 => ((pnumbers fl.Damage).bind fun r1940 => (pchoicesI_L1 fl w a1902 ((pchoicesI_L0 fl w q1903)) r1940))
def pchoicesI (fl : Fld) (w : Wk) : Option (List Crs) := ((pnumbers fl.Week).bind fun r1883 => (pchoicesI_L0 fl w r1883))
def pchoices (w : Wk) (fl : Fld) : Option (List Crs) := ((pchoicesI fl w).bind fun l2276 => (some l2276))
def ptruthsI_L0_xret : Option (List Crs) := (some [])
def ptruthsI_L0 (w : Wk) (field : Int) : List Crs → Option (List Crs)
 | [] => (some [])
 | a2307 :: q2308 => ((pallows w.s field a2307).bind fun r2345 => (if r2345 = true then ((((ptruthsI_L0 w field q2308))).bind fun r2355 => some (a2307 :: r2355)) else ((ptruthsI_L0 w field q2308))))
def ptruthsI (w : Wk) (field : Int) : Option (List Crs) := ((idx w.s.Fields field).bind fun v2285 => ((pchoices w v2285).bind fun r2288 => (ptruthsI_L0 w field r2288)))
def ptruths (w : Wk) (field : Int) : Option (List Crs) := ((ptruthsI w field).bind fun l2398 => (some l2398))
def phasTruthOf_L0_xret (y2423 : Bool) : Option (Bool) := (some y2423)
def phasTruthOf_L0 : List Crs → Bool → Option (Bool)
 | [], y2423 => (some false)
 | _ :: _, y2423 => (phasTruthOf_L0_xret true)
def phasTruthOf (w : Wk) (field : Int) : Option (Bool) := ((ptruths w field).bind fun r2412 => (phasTruthOf_L0 r2412 false))
def phasTruth_L0 (w : Wk) : Nat → Int → Option (Bool)
 | 0, _ => none
 | d2474 + 1, x4 => (if x4 < (w.s.Fields.length : Int) then ((phasTruthOf w x4).bind fun r2476 => (if r2476 = true then (gd (fitsP .i64 (x4 + 1)) (phasTruth_L0 w d2474 (x4 + 1))) else (some false))) else (some true))
def phasTruth (w : Wk) : Option (Bool) := (phasTruth_L0 w (w.s.Fields.length + 1) (0 : Int))
def pwth (w : Wk) (visits : List Vis) : Option (Wk) := (some ({ s := ({ Last := w.s.Last, Rules := w.s.Rules, Fields := w.s.Fields, Visits := visits } : Ssn), damages := w.damages } : Wk))
def popenTrue (s : Ssn) : Option (Wk × Int) := ((pcheck s).bind fun r2518 => (if r2518 = 0 then ((popen s).bind fun r2532 => ((phasTruth r2532).bind fun r2562 => (if r2562 = true then (some (r2532, (0 : Int))) else (some (({ s := ({ Last := (0 : Int), Rules := [], Fields := [], Visits := [] } : Ssn), damages := none } : Wk), (11 : Int)))))) else (some (({ s := ({ Last := (0 : Int), Rules := [], Fields := [], Visits := [] } : Ssn), damages := none } : Wk), r2518))))
def pminimum_L0 (l : List Int) : Nat → Int → Int → Option (Int)
 | 0, _, _ => none
 | d2673 + 1, x3, x4 => (if x4 < (l.length : Int) then ((idx l x4).bind fun x2675 => (if x2675 < x3 then (gd (fitsP .i64 (x4 + 1)) (pminimum_L0 l d2673 x2675 (x4 + 1))) else (gd (fitsP .i64 (x4 + 1)) (pminimum_L0 l d2673 x3 (x4 + 1))))) else (some x3))
def pminimum (l : List Int) : Option (Int) := (if (l.length : Int) = (0 : Int) then (some (0 : Int)) else ((idx l (0 : Int)).bind fun x2669 => (pminimum_L0 l (l.length + 1) x2669 (0 : Int))))
def psMax_L0 (l : List Int) : Nat → Int → Int → Option (Int)
 | 0, _, _ => none
 | d2685 + 1, x3, x4 => (if x4 < (l.length : Int) then ((idx l x4).bind fun x2687 => (gd (fitsP .i64 (x4 + 1)) (psMax_L0 l d2685 (max x3 x2687) (x4 + 1)))) else (some x3))
def psMax (l : List Int) : Option (Int) := (if (l.length : Int) < (1 : Int) then none else ((idx l (0 : Int)).bind fun x2681 => (psMax_L0 l (((l.length : Int) - (1 : Int)).toNat + 1) x2681 (1 : Int))))
def pspan_L0 (q : Qn) : List Crs → (List Int) → Option (Rg)
 | [], y2731 => ((pminimum y2731).bind fun r2827 => ((psMax y2731).bind fun r2837 => (some ({ Lo := r2827, Hi := r2837 } : Rg))))
 | a2735 :: q2736, y2731 => ((q.number a2735).bind fun r2779 => (gd (y2731.length < 1048576) ((pspan_L0 q q2736) (y2731 ++ [r2779]))))
def pspan (w : Wk) (field : Int) (q : Qn) : Option (Rg) := ((ptruths w field).bind fun r2716 => (pspan_L0 q r2716 []))
def pbound (w : Wk) (field : Int) : Option (Bnd) := ((pspan w field ({ number := (fun a2867 => pcWeek a2867) } : Qn)).bind fun r2869 => ((pspan w field ({ number := (fun a2876 => pcDamage a2876) } : Qn)).bind fun r2878 => ((pspan w field ({ number := (fun a2885 => pcOld a2885) } : Qn)).bind fun r2887 => ((pspan w field ({ number := (fun a2894 => pharvestD a2894.d) } : Qn)).bind fun r2896 => (some ({ Week := r2869, Damage := r2878, Old := r2887, Harvest := r2896 } : Bnd))))))
def pBounds_L0 (r2914 : Wk × Int) : Nat → (List Bnd) → Int → Option (List Bnd × Int)
 | 0, _, _ => none
 | d2946 + 1, l2944, x18 => (if x18 < (r2914.1.s.Fields.length : Int) then ((pbound r2914.1 x18).bind fun r2948 => (gd (l2944.length < 1048576) (gd (fitsP .i64 (x18 + 1)) (pBounds_L0 r2914 d2946 (l2944 ++ [r2948]) (x18 + 1))))) else (some (l2944, (0 : Int))))
def pBounds (s : Ssn) : Option (List Bnd × Int) := ((popenTrue s).bind fun r2914 => (if r2914.2 = (0 : Int) then (pBounds_L0 r2914 (r2914.1.s.Fields.length + 1) [] (0 : Int)) else (some ([], r2914.2))))
def pindexOf_L0 (l : List Int) (x : Int) : Nat → Int → Option (Int)
 | 0, _ => none
 | d4007 + 1, x2 => (if x2 < (l.length : Int) then ((idx l x2).bind fun x4009 => (if x = x4009 then (some x2) else (gd (fitsP .i64 (x2 + 1)) (pindexOf_L0 l x d4007 (x2 + 1))))) else (some (-1 : Int)))
def pindexOf (l : List Int) (x : Int) : Option (Int) := (pindexOf_L0 l x (l.length + 1) (0 : Int))
def pcontains (l : List Int) (x : Int) : Option (Bool) := ((pindexOf l x).bind fun r4013 => (some (decide ((0 : Int) ≤ r4013))))
def pcanLeave_L0 (w : Wk) (list : List Int) : Nat → (List Vis) → Int → Option (Bool)
 | 0, _, _ => none
 | d4028 + 1, l4026, x4 => (if x4 < (w.s.Visits.length : Int) then ((idx w.s.Visits x4).bind fun v4030 => ((pcontains list x4).bind fun r4045 => (if r4045 = true then (gd (fitsP .i64 (x4 + 1)) (pcanLeave_L0 w list d4028 l4026 (x4 + 1))) else (gd (l4026.length < 1048576) (gd (fitsP .i64 (x4 + 1)) (pcanLeave_L0 w list d4028 (l4026 ++ [v4030]) (x4 + 1))))))) else ((pwth w l4026).bind fun r4071 => ((phasTruth r4071).bind fun r4087 => (some r4087))))
def pcanLeave (w : Wk) (list : List Int) : Option (Bool) := (pcanLeave_L0 w list (w.s.Visits.length + 1) [] (0 : Int))
def pLeave (s : Ssn) : Option (List Int × Int) := ((pcheck s).bind fun r4099 => (if r4099 = 0 then ((popen s).bind fun r4106 => ((pshortest (s.Visits.length : Int) (fun a4121 => pcanLeave r4106 a4121)).bind fun r4125 => (some (r4125, (0 : Int))))) else (some ([], r4099))))
end
end Go.Proofs.Ytmlaphekbnanjaa

namespace Go.Proofs.Ytmlaphekbnanjaa
open _root_.Go.Proofs.Try
open Go.Abs
set_option maxRecDepth 100000
noncomputable section
def pGrowthWider (s : Ssn) (which : Int) (inc : Int) : Option (Bool) := ((plReady s).bind fun r6 => (if r6 = true then (gd (([] : List Fld).length + s.Fields.length ≤ 1048576) (gd (([] : List Vis).length + s.Visits.length ≤ 1048576) (gd ((0 : Int) ≤ (wrapZ .i64 inc)) (gd ((0 : Int) < (3 : Int)) (gd (fitsP .i64 ((wrapZ .i64 inc) % (3 : Int))) (gd ((0 : Int) ≤ (wrapZ .i64 inc)) (gd ((0 : Int) < (4 : Int)) (gd (fitsP .i64 ((wrapZ .i64 inc) / (4 : Int))) (gd ((0 : Int) ≤ ((wrapZ .i64 inc) / (4 : Int))) (gd ((0 : Int) < (3 : Int)) (gd (fitsP .i64 (((wrapZ .i64 inc) / (4 : Int)) % (3 : Int))) (gd ((0 : Int) ≤ (wrapZ .i64 which)) (gd ((0 : Int) < (4 : Int)) (gd (fitsP .i64 ((wrapZ .i64 which) / (4 : Int))) (gd ((0 : Int) ≤ ((wrapZ .i64 which) / (4 : Int))) (gd ((0 : Int) < (s.Fields.length : Int)) (gd (fitsP .i64 (((wrapZ .i64 which) / (4 : Int)) % (s.Fields.length : Int))) ((idx ([] ++ s.Fields) (((wrapZ .i64 which) / (4 : Int)) % (s.Fields.length : Int))).bind fun v103 => (gd ((0 : Int) ≤ which) (gd ((0 : Int) < (4 : Int)) (gd (fitsP .u8 (which % 4)) (if (which % 4) = (0 : Int) then (gd (fitsP .i64 (v103.Damage.Lo - ((wrapZ .i64 inc) % (3 : Int)))) (gd (fitsP .i64 (v103.Damage.Hi + (((wrapZ .i64 inc) / (4 : Int)) % (3 : Int)))) ((plReady ({ Last := s.Last, Rules := s.Rules, Fields := (([] ++ s.Fields).set (Int.toNat (((wrapZ .i64 which) / (4 : Int)) % (s.Fields.length : Int))) ({ Crop := v103.Crop, Week := v103.Week, Damage := ({ Lo := (max (0 : Int) (v103.Damage.Lo - ((wrapZ .i64 inc) % (3 : Int)))), Hi := (min (100 : Int) (v103.Damage.Hi + (((wrapZ .i64 inc) / (4 : Int)) % (3 : Int)))) } : Rg), Old := v103.Old } : Fld)), Visits := ([] ++ s.Visits) } : Ssn)).bind fun r132 => (if r132 = true then ((plSeason s).bind fun r151 => ((pLeave r151).bind fun r167 => ((plSeason ({ Last := s.Last, Rules := s.Rules, Fields := (([] ++ s.Fields).set (Int.toNat (((wrapZ .i64 which) / (4 : Int)) % (s.Fields.length : Int))) ({ Crop := v103.Crop, Week := v103.Week, Damage := ({ Lo := (max (0 : Int) (v103.Damage.Lo - ((wrapZ .i64 inc) % (3 : Int)))), Hi := (min (100 : Int) (v103.Damage.Hi + (((wrapZ .i64 inc) / (4 : Int)) % (3 : Int)))) } : Rg), Old := v103.Old } : Fld)), Visits := ([] ++ s.Visits) } : Ssn)).bind fun r179 => ((pLeave r179).bind fun r195 => ((plSeason s).bind fun r207 => ((pBounds r207).bind fun r223 => ((plSeason ({ Last := s.Last, Rules := s.Rules, Fields := (([] ++ s.Fields).set (Int.toNat (((wrapZ .i64 which) / (4 : Int)) % (s.Fields.length : Int))) ({ Crop := v103.Crop, Week := v103.Week, Damage := ({ Lo := (max (0 : Int) (v103.Damage.Lo - ((wrapZ .i64 inc) % (3 : Int)))), Hi := (min (100 : Int) (v103.Damage.Hi + (((wrapZ .i64 inc) / (4 : Int)) % (3 : Int)))) } : Rg), Old := v103.Old } : Fld)), Visits := ([] ++ s.Visits) } : Ssn)).bind fun r235 => ((pBounds r235).bind fun r251 => (if r167.2 = (0 : Int) then (if r195.2 = (0 : Int) then (if (r167.1.length : Int) < (r195.1.length : Int) then (some false) else (if r223.2 = (0 : Int) then (if r251.2 = (0 : Int) then ((plNarrower r223.1 r251.1).bind fun r278 => (if r278 = true then ((pawake).bind fun r288 => (some r288)) else (some false))) else (some false)) else (if r223.2 = (11 : Int) then ((pawake).bind fun r268 => (some r268)) else (some false)))) else (some false)) else (some false)))))))))) else ((pawake).bind fun r142 => (some r142)))))) else (if (which % 4) = (1 : Int) then (gd (fitsP .i64 (v103.Old.Lo - ((wrapZ .i64 inc) % (3 : Int)))) (gd (fitsP .i64 (v103.Old.Hi + (((wrapZ .i64 inc) / (4 : Int)) % (3 : Int)))) ((plReady ({ Last := s.Last, Rules := s.Rules, Fields := (([] ++ s.Fields).set (Int.toNat (((wrapZ .i64 which) / (4 : Int)) % (s.Fields.length : Int))) ({ Crop := v103.Crop, Week := v103.Week, Damage := v103.Damage, Old := ({ Lo := (max (0 : Int) (v103.Old.Lo - ((wrapZ .i64 inc) % (3 : Int)))), Hi := (min (100 : Int) (v103.Old.Hi + (((wrapZ .i64 inc) / (4 : Int)) % (3 : Int)))) } : Rg) } : Fld)), Visits := ([] ++ s.Visits) } : Ssn)).bind fun r321 => (if r321 = true then ((plSeason s).bind fun r340 => ((pLeave r340).bind fun r356 => ((plSeason ({ Last := s.Last, Rules := s.Rules, Fields := (([] ++ s.Fields).set (Int.toNat (((wrapZ .i64 which) / (4 : Int)) % (s.Fields.length : Int))) ({ Crop := v103.Crop, Week := v103.Week, Damage := v103.Damage, Old := ({ Lo := (max (0 : Int) (v103.Old.Lo - ((wrapZ .i64 inc) % (3 : Int)))), Hi := (min (100 : Int) (v103.Old.Hi + (((wrapZ .i64 inc) / (4 : Int)) % (3 : Int)))) } : Rg) } : Fld)), Visits := ([] ++ s.Visits) } : Ssn)).bind fun r368 => ((pLeave r368).bind fun r384 => ((plSeason s).bind fun r396 => ((pBounds r396).bind fun r412 => ((plSeason ({ Last := s.Last, Rules := s.Rules, Fields := (([] ++ s.Fields).set (Int.toNat (((wrapZ .i64 which) / (4 : Int)) % (s.Fields.length : Int))) ({ Crop := v103.Crop, Week := v103.Week, Damage := v103.Damage, Old := ({ Lo := (max (0 : Int) (v103.Old.Lo - ((wrapZ .i64 inc) % (3 : Int)))), Hi := (min (100 : Int) (v103.Old.Hi + (((wrapZ .i64 inc) / (4 : Int)) % (3 : Int)))) } : Rg) } : Fld)), Visits := ([] ++ s.Visits) } : Ssn)).bind fun r424 => ((pBounds r424).bind fun r440 => (if r356.2 = (0 : Int) then (if r384.2 = (0 : Int) then (if (r356.1.length : Int) < (r384.1.length : Int) then (some false) else (if r412.2 = (0 : Int) then (if r440.2 = (0 : Int) then ((plNarrower r412.1 r440.1).bind fun r467 => (if r467 = true then ((pawake).bind fun r477 => (some r477)) else (some false))) else (some false)) else (if r412.2 = (11 : Int) then ((pawake).bind fun r457 => (some r457)) else (some false)))) else (some false)) else (some false)))))))))) else ((pawake).bind fun r331 => (some r331)))))) else (if (which % 4) = (2 : Int) then (gd (fitsP .i64 (v103.Week.Lo - ((wrapZ .i64 inc) % (3 : Int)))) (gd (fitsP .i64 (v103.Week.Hi + (((wrapZ .i64 inc) / (4 : Int)) % (3 : Int)))) ((plReady ({ Last := s.Last, Rules := s.Rules, Fields := (([] ++ s.Fields).set (Int.toNat (((wrapZ .i64 which) / (4 : Int)) % (s.Fields.length : Int))) ({ Crop := v103.Crop, Week := ({ Lo := (max (0 : Int) (v103.Week.Lo - ((wrapZ .i64 inc) % (3 : Int)))), Hi := (min s.Last (v103.Week.Hi + (((wrapZ .i64 inc) / (4 : Int)) % (3 : Int)))) } : Rg), Damage := v103.Damage, Old := v103.Old } : Fld)), Visits := ([] ++ s.Visits) } : Ssn)).bind fun r510 => (if r510 = true then ((plSeason s).bind fun r529 => ((pLeave r529).bind fun r545 => ((plSeason ({ Last := s.Last, Rules := s.Rules, Fields := (([] ++ s.Fields).set (Int.toNat (((wrapZ .i64 which) / (4 : Int)) % (s.Fields.length : Int))) ({ Crop := v103.Crop, Week := ({ Lo := (max (0 : Int) (v103.Week.Lo - ((wrapZ .i64 inc) % (3 : Int)))), Hi := (min s.Last (v103.Week.Hi + (((wrapZ .i64 inc) / (4 : Int)) % (3 : Int)))) } : Rg), Damage := v103.Damage, Old := v103.Old } : Fld)), Visits := ([] ++ s.Visits) } : Ssn)).bind fun r557 => ((pLeave r557).bind fun r573 => ((plSeason s).bind fun r585 => ((pBounds r585).bind fun r601 => ((plSeason ({ Last := s.Last, Rules := s.Rules, Fields := (([] ++ s.Fields).set (Int.toNat (((wrapZ .i64 which) / (4 : Int)) % (s.Fields.length : Int))) ({ Crop := v103.Crop, Week := ({ Lo := (max (0 : Int) (v103.Week.Lo - ((wrapZ .i64 inc) % (3 : Int)))), Hi := (min s.Last (v103.Week.Hi + (((wrapZ .i64 inc) / (4 : Int)) % (3 : Int)))) } : Rg), Damage := v103.Damage, Old := v103.Old } : Fld)), Visits := ([] ++ s.Visits) } : Ssn)).bind fun r613 => ((pBounds r613).bind fun r629 => (if r545.2 = (0 : Int) then (if r573.2 = (0 : Int) then (if (r545.1.length : Int) < (r573.1.length : Int) then (some false) else (if r601.2 = (0 : Int) then (if r629.2 = (0 : Int) then ((plNarrower r601.1 r629.1).bind fun r656 => (if r656 = true then ((pawake).bind fun r666 => (some r666)) else (some false))) else (some false)) else (if r601.2 = (11 : Int) then ((pawake).bind fun r646 => (some r646)) else (some false)))) else (some false)) else (some false)))))))))) else ((pawake).bind fun r520 => (some r520)))))) else (if (0 : Int) < (s.Visits.length : Int) then (gd ((0 : Int) ≤ (wrapZ .i64 which)) (gd ((0 : Int) < (4 : Int)) (gd (fitsP .i64 ((wrapZ .i64 which) / (4 : Int))) (gd ((0 : Int) ≤ ((wrapZ .i64 which) / (4 : Int))) (gd ((0 : Int) < (s.Visits.length : Int)) (gd (fitsP .i64 (((wrapZ .i64 which) / (4 : Int)) % (s.Visits.length : Int))) ((idx ([] ++ s.Visits) (((wrapZ .i64 which) / (4 : Int)) % (s.Visits.length : Int))).bind fun v682 => (gd (fitsP .i64 (v682.Seen.Lo - ((wrapZ .i64 inc) % (3 : Int)))) (gd (fitsP .i64 (v682.Seen.Hi + (((wrapZ .i64 inc) / (4 : Int)) % (3 : Int)))) ((plReady ({ Last := s.Last, Rules := s.Rules, Fields := ([] ++ s.Fields), Visits := (([] ++ s.Visits).set (Int.toNat (((wrapZ .i64 which) / (4 : Int)) % (s.Visits.length : Int))) ({ Field := v682.Field, Week := v682.Week, Seen := ({ Lo := (max (0 : Int) (v682.Seen.Lo - ((wrapZ .i64 inc) % (3 : Int)))), Hi := (min (100 : Int) (v682.Seen.Hi + (((wrapZ .i64 inc) / (4 : Int)) % (3 : Int)))) } : Rg) } : Vis)) } : Ssn)).bind fun r707 => (if r707 = true then ((plSeason s).bind fun r726 => ((pLeave r726).bind fun r742 => ((plSeason ({ Last := s.Last, Rules := s.Rules, Fields := ([] ++ s.Fields), Visits := (([] ++ s.Visits).set (Int.toNat (((wrapZ .i64 which) / (4 : Int)) % (s.Visits.length : Int))) ({ Field := v682.Field, Week := v682.Week, Seen := ({ Lo := (max (0 : Int) (v682.Seen.Lo - ((wrapZ .i64 inc) % (3 : Int)))), Hi := (min (100 : Int) (v682.Seen.Hi + (((wrapZ .i64 inc) / (4 : Int)) % (3 : Int)))) } : Rg) } : Vis)) } : Ssn)).bind fun r754 => ((pLeave r754).bind fun r770 => ((plSeason s).bind fun r782 => ((pBounds r782).bind fun r798 => ((plSeason ({ Last := s.Last, Rules := s.Rules, Fields := ([] ++ s.Fields), Visits := (([] ++ s.Visits).set (Int.toNat (((wrapZ .i64 which) / (4 : Int)) % (s.Visits.length : Int))) ({ Field := v682.Field, Week := v682.Week, Seen := ({ Lo := (max (0 : Int) (v682.Seen.Lo - ((wrapZ .i64 inc) % (3 : Int)))), Hi := (min (100 : Int) (v682.Seen.Hi + (((wrapZ .i64 inc) / (4 : Int)) % (3 : Int)))) } : Rg) } : Vis)) } : Ssn)).bind fun r810 => ((pBounds r810).bind fun r826 => (if r742.2 = (0 : Int) then (if r770.2 = (0 : Int) then (if (r742.1.length : Int) < (r770.1.length : Int) then (some false) else (if r798.2 = (0 : Int) then (if r826.2 = (0 : Int) then ((plNarrower r798.1 r826.1).bind fun r853 => (if r853 = true then ((pawake).bind fun r863 => (some r863)) else (some false))) else (some false)) else (if r798.2 = (11 : Int) then ((pawake).bind fun r843 => (some r843)) else (some false)))) else (some false)) else (some false)))))))))) else ((pawake).bind fun r717 => (some r717))))))))))))) else ((plReady ({ Last := s.Last, Rules := s.Rules, Fields := ([] ++ s.Fields), Visits := ([] ++ s.Visits) } : Ssn)).bind fun r885 => (if r885 = true then ((plSeason s).bind fun r904 => ((pLeave r904).bind fun r920 => ((plSeason ({ Last := s.Last, Rules := s.Rules, Fields := ([] ++ s.Fields), Visits := ([] ++ s.Visits) } : Ssn)).bind fun r932 => ((pLeave r932).bind fun r948 => ((plSeason s).bind fun r960 => ((pBounds r960).bind fun r976 => ((plSeason ({ Last := s.Last, Rules := s.Rules, Fields := ([] ++ s.Fields), Visits := ([] ++ s.Visits) } : Ssn)).bind fun r988 => ((pBounds r988).bind fun r1004 => (if r920.2 = (0 : Int) then (if r948.2 = (0 : Int) then (if (r920.1.length : Int) < (r948.1.length : Int) then (some false) else (if r976.2 = (0 : Int) then (if r1004.2 = (0 : Int) then ((plNarrower r976.1 r1004.1).bind fun r1031 => (if r1031 = true then ((pawake).bind fun r1041 => (some r1041)) else (some false))) else (some false)) else (if r976.2 = (11 : Int) then ((pawake).bind fun r1021 => (some r1021)) else (some false)))) else (some false)) else (some false)))))))))) else ((pawake).bind fun r895 => (some r895))))))))))))))))))))))))))))) else ((pawake).bind fun r13 => (some r13))))
end
end Go.Proofs.Ytmlaphekbnanjaa

namespace Go.Proofs.Ytmlaphekbnanjaa
open _root_.Go.Proofs.Try
open Go.Abs
set_option maxRecDepth 100000
noncomputable section
theorem c113 {a100 : Int} {b0 : Nat} {m : M} {Q : V → M → Prop} (h :
 (∃ c0 : C, ((ldC m (C.ptr b0 0)) = (some c0)) ∧ callP prog tbl [(V.c (Il a100))] c0 m (fun v1 m2 => 
 ∃ b3 : Bool, (v1 = (V.c (C.bool b3))) ∧ Q (V.c (C.bool (!b3))) m2))) : Wc prog tbl 113 [.c (Il a100), .c (.ptr b0 0)] m Q :=
 wc_eq (n := 2) rfl (by kernel_rfl) (by kernel_rfl) h
theorem c105 {a100 : C} {b0 : Nat} {m : M} {Q : V → M → Prop} (h :
 (∃ c0 : C, ((ldC m (C.ptr b0 0)) = (some c0)) ∧ callP prog tbl [(V.c a100)] c0 m (fun v1 m2 => ∃ b3 : Bool, 
 (v1 = (V.c (C.bool b3))) ∧ Q (V.c (C.bool (!b3))) m2))) : Wc prog tbl 105 [.c (a100), .c (.ptr b0 0)] m Q :=
 wc_eq (n := 2) rfl (by kernel_rfl) (by kernel_rfl) h
theorem c92 {a100 : Int} {a101 : Int} {a102 : Int} {a103 : Int} {a104 : Int} {a105 : Int} {a106 : Int} {b0 : Nat} {m : M} {Q : V → M → Prop} (h :
 (∀ m0 : M, (m0 = (M.new m (AO.cells 7 [(Il a100), (Il a101), (Il a102), 
 (Il a103), (Il a104), (Il a105), (Il a106)] false))) → 
 ∃ c1 : C, ((ldC m0 (C.ptr b0 0)) = (some c1)) ∧ ∃ x2, ∃ x3, ∃ x4, ∃ x5, 
 ∃ x6, ∃ x7, ∃ x8, ((ldA m0 (C.ptr m.nxt 0) 7) = (some [(Il x2), 
 (Il x3), (Il x4), (Il x5), (Il x6), 
 (Il x7), (Il x8)])) ∧ callP prog tbl [(V.agg 7 [(Il x2), 
 (Il x3), (Il x4), (Il x5), (Il x6), 
 (Il x7), (Il x8)])] c1 m0 (fun v9 m10 => ∃ b11 : Bool, (v9 = (V.c (C.bool b11))) ∧ 
 Q (V.c (C.bool (!b11))) m10))) : Wc prog tbl 92 [.agg 7 [Il a100, Il a101, Il a102, Il a103, Il a104, Il a105, Il a106], .c (.ptr b0 0)] m Q :=
 wc_eq (n := 2) rfl (by kernel_rfl) (by kernel_rfl) h
theorem c103 {a100 : Int} {a101 : Int} {a102 : Int} {a103 : Int} {b0 : Nat} {m : M} {Q : V → M → Prop} (h :
 (∀ m0 : M, (m0 = (M.new m (AO.cells 4 [(Il a100), (Il a101), (Il a102), 
 (Il a103)] false))) → ∃ c1 : C, ((ldC m0 (C.ptr b0 0)) = (some c1)) ∧ ∃ x2, 
 ∃ x3, ∃ x4, ∃ x5, ((ldA m0 (C.ptr m.nxt 0) 4) = (some [(Il x2), 
 (Il x3), (Il x4), (Il x5)])) ∧ callP prog tbl [(V.agg 4 [(Il x2), 
 (Il x3), (Il x4), (Il x5)])] c1 m0 (fun v6 m7 => 
 ∃ b8 : Bool, (v6 = (V.c (C.bool b8))) ∧ Q (V.c (C.bool (!b8))) m7))) : Wc prog tbl 103 [.agg 4 [Il a100, Il a101, Il a102, Il a103], .c (.ptr b0 0)] m Q :=
 wc_eq (n := 2) rfl (by kernel_rfl) (by kernel_rfl) h
theorem c82 {a100 : Int} {a101 : Int} {a102 : Int} {a103 : Int} {b0 : Nat} {b1 : Nat} {m : M} {Q : V → M → Prop} (h :
 (∀ m0 : M, (m0 = (M.new m (AO.cells 4 [(Il a100), (Il a101), (Il a102), 
 (Il a103)] false))) → isPt (C.ptr m.nxt 0) ∧ ∃ x1, ((ldC m0 (C.ptr m.nxt 0)) = (some (Il x1))) ∧ 
 ∃ x2, ((ldC m0 (C.ptr b0 0)) = (some (Il x2))) ∧ ifB (!decide (x1 = x2)) (Q (V.c (C.bool true)) m0) (isPt (C.ptr m.nxt 0) ∧ 
 ∃ x3, ∃ x4, ((ldA m0 (C.ptr m.nxt 2) 2) = (some [(Il x3), (Il x4)])) ∧ 
 ∃ x5, ∃ x6, ∃ x7, ∃ x8, ∃ x9, ∃ x10, ∃ x11, ∃ x12, 
 ∃ x13, ∃ x14, ∃ x15, ∃ x16, ∃ x17, ∃ x18, ∃ x19, 
 ∃ x20, ((ldA m0 (C.ptr b1 0) 16) = (some [(Il x5), 
 (Il x6), (Il x7), (Il x8), (Il x9), 
 (Il x10), (Il x11), (Il x12), (Il x13), 
 (Il x14), (Il x15), (Il x16), (Il x17), 
 (Il x18), (Il x19), (Il x20)])) ∧ 
 isPt (C.ptr m.nxt 0) ∧ ∃ x21, ((ldC m0 (C.ptr m.nxt 1)) = (some (Il x21))) ∧ 
 Wc prog tbl 32 [(V.agg 16 [(Il x5), (Il x6), (Il x7), 
 (Il x8), (Il x9), (Il x10), (Il x11), 
 (Il x12), (Il x13), (Il x14), (Il x15), 
 (Il x16), (Il x17), (Il x18), (Il x19), 
 (Il x20)]), (V.c (Il x21))] m0 (fun v22 m23 => 
 ∃ x24, (v22 = (V.c (Il x24))) ∧ ((ldA m23 (C.ptr m.nxt 2) 2) = (some [(Il x3), 
 (Il x4)])) ∧ Wc prog tbl 65 [(V.agg 2 [(Il x3), 
 (Il x4)]), (V.c (Il x24))] m23 (fun v25 m26 => 
 ∃ b27 : Bool, (v25 = (V.c (C.bool b27))) ∧ Q (V.c (C.bool b27)) m26))))) : Wc prog tbl 82 [.agg 4 [Il a100, Il a101, Il a102, Il a103], .c (.ptr b0 0), .c (.ptr b1 0)] m Q :=
 wc_eq (n := 3) rfl (by kernel_rfl) (by kernel_rfl) h
theorem c100 {a100 : C} {b0 : Nat} {m : M} {Q : V → M → Prop} (h :
 (∃ x0, ∃ x1, ((ldA m (C.ptr b0 0) 2) = (some [(Il x0), (Il x1)])) ∧ 
 Wc prog tbl 93 [(V.agg 2 [(Il x0), (Il x1)])] m (fun v2 m3 => ∃ x4, 
 (v2 = (V.c (Il x4))) ∧ ∀ R5 : List V → M → Prop, (∀ x6 : Int, ∀ m7 : M, (ifB (decide (x6 < x4)) (isPt (C.ptr b0 0) ∧ 
 ∃ x8, ((ldC m7 (C.ptr b0 0)) = (some (Il x8))) ∧ fitsP .i64 (x8 + x6) ∧ 
 callP prog tbl [(V.c (Il (x8 + x6)))] a100 m7 (fun v9 m10 => ∃ b11 : Bool, 
 (v9 = (V.c (C.bool b11))) ∧ ifB (!b11) (Q (V.tup []) m10) (fitsP .i64 (x6 + 1) ∧ 
 R5 [(V.c (Il (x6 + 1)))] m10))) (Q (V.tup []) m7)) → 
 R5 [(V.c (Il x6))] m7) → R5 [(V.c (Il 0))] m3))) : Wc prog tbl 100 [.c (a100), .c (.ptr b0 0)] m Q :=
 wc_eq (n := 2) rfl (by kernel_rfl) (by kernel_rfl) h
theorem c97 {a100 : C} {b0 : Nat} {b1 : Nat} {m : M} {Q : V → M → Prop} (h :
 (∀ m0 : M, (m0 = (M.new m (AO.cells 1 [a100] false))) → isPt (C.ptr b0 0) ∧ ∃ x1, ∃ x2, ((ldA m0 (C.ptr b0 1) 2) = (some [(Il x1), 
 (Il x2)])) ∧ Wc prog tbl 76 [(V.agg 2 [(Il x1), (Il x2)])] m0 (fun v3 m4 => 
 ∃ c5 : C, (v3 = (V.c c5)) ∧ rangeP prog tbl c5 m4 (fun l6 m7 R8 R9 => ∃ x10, (l6 = [(V.c (Il x10))]) ∧ 
 ∀ m11 : M, (m11 = (M.new m7 (AO.cells 1 [(Il 0)] false))) → ∃ m12 : M, 
 ((stC m11 (C.ptr m7.nxt 0) 1 [(Il x10)]) = (some m12)) ∧ R8 m12 (fun m13 => 
 isPt (C.ptr b0 0) ∧ ∃ x14, ∃ x15, ((ldA m13 (C.ptr b0 3) 2) = (some [(Il x14), 
 (Il x15)])) ∧ Wc prog tbl 76 [(V.agg 2 [(Il x14), 
 (Il x15)])] m13 (fun v16 m17 => ∃ c18 : C, (v16 = (V.c c18)) ∧ 
 rangeP prog tbl c18 m17 (fun l19 m20 R21 R22 => ∃ x23, (l19 = [(V.c (Il x23))]) ∧ 
 ∀ m24 : M, (m24 = (M.new m20 (AO.cells 1 [(Il 0)] false))) → 
 ∃ m25 : M, ((stC m24 (C.ptr m20.nxt 0) 1 [(Il x23)]) = (some m25)) ∧ 
 R21 m25 (fun m26 => ∀ m27 : M, (m27 = (mGrow m26 1)) → isPt (C.ptr b1 0) ∧ 
 ∃ c28 : C, ((ldC m27 (C.ptr b1 4)) = (some c28)) ∧ ∃ x29, ∃ x30, 
 ∃ x31, ∃ x32, ∃ x33, ∃ x34, ∃ x35, ((ldA m27 (C.ptr b0 0) 7) = (some [(Il x29), 
 (Il x30), (Il x31), (Il x32), (Il x33), 
 (Il x34), (Il x35)])) ∧ ∃ x36, ((ldC m27 (C.ptr m7.nxt 0)) = (some (Il x36))) ∧ 
 ∃ x37, ((ldC m27 (C.ptr m20.nxt 0)) = (some (Il x37))) ∧ 
 Wc prog tbl 77 [(V.agg 7 [(Il x29), (Il x30), 
 (Il x31), (Il x32), (Il x33), (Il x34), 
 (Il x35)]), (V.c (Il x36)), (V.c (Il x37))] m27 (fun v38 m39 => 
 ∃ x40, ∃ x41, ∃ x42, ∃ x43, (v38 = (V.agg 4 [(Il x40), 
 (Il x41), (Il x42), (Il x43)])) ∧ 
 (ifB (cmC c28) ((ldC m39 (C.ptr b1 4)) = (some c28)) False) ∧ ∃ y44 : Option U, 
 ((lkM prog 138 m39 c28 (V.agg 4 [(Il x40), (Il x41), 
 (Il x42), (Il x43)])) = (some y44)) ∧ ((y44 = Option.none) → 
 ∀ m45 : M, (m45 = (M.set m39 (m26.nxt + 0) (AO.cells 13 [(Il 0), 
 (Il 0), (Il 0), (Il 0), 
 (Il 0), (Il 0), (Il 0), 
 (Il 0), (Il 0), (Il 0), 
 (Il 0), (Il 0), (Il 0)] false))) → 
 (∃ y46 : Option U, ((lkM prog 138 m45 c28 (V.agg 4 [(Il x40), 
 (Il x41), (Il x42), (Il x43)])) = (some y46)) ∧ 
 (optB y46 ((some (V.agg 13 [(Il 0), (Il 0), 
 (Il 0), (Il 0), (Il 0), 
 (Il 0), (Il 0), (Il 0), 
 (Il 0), (Il 0), (Il 0), 
 (Il 0), (Il 0)])) = (some (V.agg 13 [(Il 0), 
 (Il 0), (Il 0), (Il 0), 
 (Il 0), (Il 0), (Il 0), 
 (Il 0), (Il 0), (Il 0), 
 (Il 0), (Il 0), (Il 0)]))) fun u47 => 
 (some (uV u47)) = (some (V.agg 13 [(Il 0), 
 (Il 0), (Il 0), (Il 0), 
 (Il 0), (Il 0), (Il 0), 
 (Il 0), (Il 0), (Il 0), 
 (Il 0), (Il 0), (Il 0)]))) ∧ 
 true = true) ∧ ((ldC m45 (C.ptr m20.nxt 0)) = (some (Il x37))) ∧ 
 ((ldC m45 (C.ptr m7.nxt 0)) = (some (Il x36))) ∧ ((ldA m45 (C.ptr b0 0) 7) = (some [(Il x29), 
 (Il x30), (Il x31), (Il x32), (Il x33), 
 (Il x34), (Il x35)])) ∧ (ifB (cmC c28) ((ldC m45 (C.ptr b1 4)) = (some c28)) False) ∧ 
 ∃ m48 : M, ((stC m45 (C.ptr (m26.nxt + 0) 0) 13 [(Il 0), 
 (Il 0), (Il 0), (Il 0), 
 (Il 0), (Il 0), (Il 0), 
 (Il 0), (Il 0), (Il 0), 
 (Il 0), (Il 0), (Il 0)]) = (some m48)) ∧ 
 isPt (C.ptr b0 0) ∧ ∃ x49, ∃ x50, ((ldA m48 (C.ptr b0 5) 2) = (some [(Il x49), 
 (Il x50)])) ∧ Wc prog tbl 76 [(V.agg 2 [(Il x49), 
 (Il x50)])] m48 (fun v51 m52 => ∃ c53 : C, (v51 = (V.c c53)) ∧ 
 rangeP prog tbl c53 m52 (fun l54 m55 R56 R57 => ∃ x58, (l54 = [(V.c (Il x58))]) ∧ 
 R56 m55 (fun m59 => ∃ c60 : C, ((ldC m59 (C.ptr m.nxt 0)) = (some c60)) ∧ 
 ∃ x61, ((ldC m59 (C.ptr m7.nxt 0)) = (some (Il x61))) ∧ 
 ∃ x62, ((ldC m59 (C.ptr m20.nxt 0)) = (some (Il x62))) ∧ 
 ∃ x63, ∃ x64, ∃ x65, ∃ x66, ∃ x67, ∃ x68, 
 ∃ x69, ∃ x70, ∃ x71, ∃ x72, ∃ x73, ∃ x74, 
 ∃ x75, ((ldA m59 (C.ptr (m26.nxt + 0) 0) 13) = (some [(Il x63), 
 (Il x64), (Il x65), (Il x66), (Il x67), 
 (Il x68), (Il x69), (Il x70), (Il x71), 
 (Il x72), (Il x73), (Il x74), (Il x75)])) ∧ 
 callP prog tbl [(V.agg 16 [(Il x61), (Il x62), 
 (Il x58), (Il x63), (Il x64), (Il x65), 
 (Il x66), (Il x67), (Il x68), (Il x69), 
 (Il x70), (Il x71), (Il x72), (Il x73), 
 (Il x74), (Il x75)])] c60 m59 (fun v76 m77 => ∃ b78 : Bool, 
 (v76 = (V.c (C.bool b78))) ∧ ifB (!b78) (R57 Ex.ret m77) (R57 Ex.nrm m77)))) (After.mk (fun m79 => 
 R22 Ex.nrm m79) [] (fun m80 => R22 Ex.ret m80)))) ∧ ∀ u81 : U, 
 (y44 = (some u81)) → ∃ x82, ∃ x83, ∃ x84, ∃ x85, 
 ∃ x86, ∃ x87, ∃ x88, ∃ x89, ∃ x90, ∃ x91, 
 ∃ x92, ∃ x93, ∃ x94, (u81 = (U.agg 13 [(Il x82), 
 (Il x83), (Il x84), (Il x85), (Il x86), 
 (Il x87), (Il x88), (Il x89), (Il x90), 
 (Il x91), (Il x92), (Il x93), (Il x94)])) ∧ 
 ∀ m95 : M, (m95 = (M.set m39 (m26.nxt + 0) (AO.cells 13 [(Il 0), 
 (Il 0), (Il 0), (Il 0), 
 (Il 0), (Il 0), (Il 0), 
 (Il 0), (Il 0), (Il 0), 
 (Il 0), (Il 0), (Il 0)] false))) → 
 (∃ y96 : Option U, ((lkM prog 138 m95 c28 (V.agg 4 [(Il x40), 
 (Il x41), (Il x42), (Il x43)])) = (some y96)) ∧ 
 (optB y96 ((some (V.agg 13 [(Il 0), (Il 0), 
 (Il 0), (Il 0), (Il 0), 
 (Il 0), (Il 0), (Il 0), 
 (Il 0), (Il 0), (Il 0), 
 (Il 0), (Il 0)])) = (some (V.agg 13 [(Il x82), 
 (Il x83), (Il x84), (Il x85), (Il x86), 
 (Il x87), (Il x88), (Il x89), (Il x90), 
 (Il x91), (Il x92), (Il x93), (Il x94)]))) fun u97 => 
 (some (uV u97)) = (some (V.agg 13 [(Il x82), (Il x83), 
 (Il x84), (Il x85), (Il x86), (Il x87), 
 (Il x88), (Il x89), (Il x90), (Il x91), 
 (Il x92), (Il x93), (Il x94)]))) ∧ 
 true = true) ∧ ((ldC m95 (C.ptr m20.nxt 0)) = (some (Il x37))) ∧ 
 ((ldC m95 (C.ptr m7.nxt 0)) = (some (Il x36))) ∧ ((ldA m95 (C.ptr b0 0) 7) = (some [(Il x29), 
 (Il x30), (Il x31), (Il x32), (Il x33), 
 (Il x34), (Il x35)])) ∧ (ifB (cmC c28) ((ldC m95 (C.ptr b1 4)) = (some c28)) False) ∧ 
 ∃ m98 : M, ((stC m95 (C.ptr (m26.nxt + 0) 0) 13 [(Il x82), 
 (Il x83), (Il x84), (Il x85), (Il x86), 
 (Il x87), (Il x88), (Il x89), (Il x90), 
 (Il x91), (Il x92), (Il x93), (Il x94)]) = (some m98)) ∧ 
 isPt (C.ptr b0 0) ∧ ∃ x99, ∃ x100, ((ldA m98 (C.ptr b0 5) 2) = (some [(Il x99), 
 (Il x100)])) ∧ Wc prog tbl 76 [(V.agg 2 [(Il x99), 
 (Il x100)])] m98 (fun v101 m102 => ∃ c103 : C, (v101 = (V.c c103)) ∧ 
 rangeP prog tbl c103 m102 (fun l104 m105 R106 R107 => ∃ x108, (l104 = [(V.c (Il x108))]) ∧ 
 R106 m105 (fun m109 => ∃ c110 : C, ((ldC m109 (C.ptr m.nxt 0)) = (some c110)) ∧ 
 ∃ x111, ((ldC m109 (C.ptr m7.nxt 0)) = (some (Il x111))) ∧ 
 ∃ x112, ((ldC m109 (C.ptr m20.nxt 0)) = (some (Il x112))) ∧ 
 ∃ x113, ∃ x114, ∃ x115, ∃ x116, ∃ x117, ∃ x118, 
 ∃ x119, ∃ x120, ∃ x121, ∃ x122, ∃ x123, ∃ x124, 
 ∃ x125, ((ldA m109 (C.ptr (m26.nxt + 0) 0) 13) = (some [(Il x113), 
 (Il x114), (Il x115), (Il x116), 
 (Il x117), (Il x118), (Il x119), 
 (Il x120), (Il x121), (Il x122), 
 (Il x123), (Il x124), (Il x125)])) ∧ 
 callP prog tbl [(V.agg 16 [(Il x111), (Il x112), 
 (Il x108), (Il x113), (Il x114), 
 (Il x115), (Il x116), (Il x117), 
 (Il x118), (Il x119), (Il x120), 
 (Il x121), (Il x122), (Il x123), 
 (Il x124), (Il x125)])] c110 m109 (fun v126 m127 => 
 ∃ b128 : Bool, (v126 = (V.c (C.bool b128))) ∧ ifB (!b128) (R107 Ex.ret m127) (R107 Ex.nrm m127)))) (After.mk (fun m129 => 
 R22 Ex.nrm m129) [] (fun m130 => R22 Ex.ret m130)))))) (After.mk (fun m131 => 
 R9 Ex.nrm m131) [] (fun m132 => R9 Ex.ret m132))))) (After.mk (fun m133 => 
 Q (V.tup []) m133) [] (fun m134 => Q (V.tup []) m134))))) : Wc prog tbl 97 [.c (a100), .c (.ptr b0 0), .c (.ptr b1 0)] m Q :=
 wc_eq (n := 3) rfl (by kernel_rfl) (by kernel_rfl) h
theorem c71 {a100 : C} {b0 : Nat} {b1 : Nat} {m : M} {Q : V → M → Prop} (h :
 (∀ m0 : M, (m0 = (M.new m (AO.cells 1 [a100] false))) → ∃ x1, ∃ c2 : C, ∃ c3 : C, ∃ c4 : C, ∃ c5 : C, 
 ((ldA m0 (C.ptr b0 0) 5) = (some [(Il x1), c2, c3, c4, c5])) ∧ isPt (C.ptr b0 0) ∧ 
 isPt (C.ptr b0 0) ∧ ∃ c6 : C, ((ldC m0 (C.ptr b0 2)) = (some c6)) ∧ ∃ x7, ((ldC m0 (C.ptr b1 0)) = (some (Il x7))) ∧ 
 ∃ n8 : Nat, (x7 = ((n8 : Nat) : Int)) ∧ (n8 < (slLen c6)) ∧ ∃ x9, ∃ x10, ∃ x11, 
 ∃ x12, ∃ x13, ∃ x14, ∃ x15, ((ldA m0 (slAt c6 (n8 * 7)) 7) = (some [(Il x9), 
 (Il x10), (Il x11), (Il x12), (Il x13), 
 (Il x14), (Il x15)])) ∧ Wc prog tbl 72 [(V.agg 5 [(Il x1), 
 c2, c3, c4, c5]), (V.agg 7 [(Il x9), (Il x10), (Il x11), 
 (Il x12), (Il x13), (Il x14), (Il x15)])] m0 (fun v16 m17 => 
 ∃ c18 : C, (v16 = (V.c c18)) ∧ rangeP prog tbl c18 m17 (fun l19 m20 R21 R22 => 
 ∃ x23, ∃ x24, ∃ x25, ∃ x26, ∃ x27, ∃ x28, 
 ∃ x29, ∃ x30, ∃ x31, ∃ x32, ∃ x33, ∃ x34, 
 ∃ x35, ∃ x36, ∃ x37, ∃ x38, (l19 = [(V.agg 16 [(Il x23), 
 (Il x24), (Il x25), (Il x26), (Il x27), 
 (Il x28), (Il x29), (Il x30), (Il x31), 
 (Il x32), (Il x33), (Il x34), (Il x35), 
 (Il x36), (Il x37), (Il x38)])]) ∧ 
 ∀ m39 : M, (m39 = (M.new m20 (AO.cells 16 [(Il 0), (Il 0), 
 (Il 0), (Il 0), (Il 0), 
 (Il 0), (Il 0), (Il 0), 
 (Il 0), (Il 0), (Il 0), 
 (Il 0), (Il 0), (Il 0), 
 (Il 0), (Il 0)] false))) → ∃ m40 : M, 
 ((stC m39 (C.ptr m20.nxt 0) 16 [(Il x23), (Il x24), 
 (Il x25), (Il x26), (Il x27), (Il x28), 
 (Il x29), (Il x30), (Il x31), (Il x32), 
 (Il x33), (Il x34), (Il x35), (Il x36), 
 (Il x37), (Il x38)]) = (some m40)) ∧ R21 m40 (fun m41 => 
 isPt (C.ptr b0 0) ∧ ∃ x42, ∃ c43 : C, ∃ c44 : C, ∃ c45 : C, ((ldA m41 (C.ptr b0 0) 4) = (some [(Il x42), 
 c43, c44, c45])) ∧ ∃ x46, ((ldC m41 (C.ptr b1 0)) = (some (Il x46))) ∧ 
 ∃ x47, ∃ x48, ∃ x49, ∃ x50, ∃ x51, ∃ x52, 
 ∃ x53, ∃ x54, ∃ x55, ∃ x56, ∃ x57, ∃ x58, 
 ∃ x59, ∃ x60, ∃ x61, ∃ x62, ((ldA m41 (C.ptr m20.nxt 0) 16) = (some [(Il x47), 
 (Il x48), (Il x49), (Il x50), (Il x51), 
 (Il x52), (Il x53), (Il x54), (Il x55), 
 (Il x56), (Il x57), (Il x58), (Il x59), 
 (Il x60), (Il x61), (Il x62)])) ∧ 
 Wc prog tbl 49 [(V.agg 4 [(Il x42), c43, c44, c45]), (V.c (Il x46)), 
 (V.agg 16 [(Il x47), (Il x48), (Il x49), 
 (Il x50), (Il x51), (Il x52), (Il x53), 
 (Il x54), (Il x55), (Il x56), (Il x57), 
 (Il x58), (Il x59), (Il x60), (Il x61), 
 (Il x62)])] m41 (fun v63 m64 => ∃ b65 : Bool, (v63 = (V.c (C.bool b65))) ∧ 
 ifB b65 (∃ c66 : C, ((ldC m64 (C.ptr m.nxt 0)) = (some c66)) ∧ ∃ x67, 
 ∃ x68, ∃ x69, ∃ x70, ∃ x71, ∃ x72, ∃ x73, 
 ∃ x74, ∃ x75, ∃ x76, ∃ x77, ∃ x78, ∃ x79, 
 ∃ x80, ∃ x81, ∃ x82, ((ldA m64 (C.ptr m20.nxt 0) 16) = (some [(Il x67), 
 (Il x68), (Il x69), (Il x70), (Il x71), 
 (Il x72), (Il x73), (Il x74), (Il x75), 
 (Il x76), (Il x77), (Il x78), (Il x79), 
 (Il x80), (Il x81), (Il x82)])) ∧ 
 callP prog tbl [(V.agg 16 [(Il x67), (Il x68), 
 (Il x69), (Il x70), (Il x71), (Il x72), 
 (Il x73), (Il x74), (Il x75), (Il x76), 
 (Il x77), (Il x78), (Il x79), (Il x80), 
 (Il x81), (Il x82)])] c66 m64 (fun v83 m84 => ∃ b85 : Bool, 
 (v83 = (V.c (C.bool b85))) ∧ ifB (!b85) (R22 Ex.ret m84) (R22 Ex.nrm m84))) (R22 Ex.nrm m64)))) (After.mk (fun m86 => 
 Q (V.tup []) m86) [] (fun m87 => Q (V.tup []) m87))))) : Wc prog tbl 71 [.c (a100), .c (.ptr b0 0), .c (.ptr b1 0)] m Q :=
 wc_eq (n := 3) rfl (by kernel_rfl) (by kernel_rfl) h
end
end Go.Proofs.Ytmlaphekbnanjaa

namespace Go.Proofs.Ytmlaphekbnanjaa
open _root_.Go.Proofs.Try
open Go.Abs
set_option maxRecDepth 100000
noncomputable section
theorem w23 {a100 : Int} {a101 : C} {a102 : C} {a103 : C} {m : M} {Q : V → M → Prop} (h :
 (∀ m0 : M, (m0 = (M.new m (AO.cells 4 [(Il a100), a101, a102, a103] false))) → ∀ m1 : M, (m1 = (M.new m0 (AO.cells 4 [(Il 0), 
 C.sl0, C.sl0, C.sl0] false))) → isPt (C.ptr m.nxt 0) ∧ ∃ x2, ((ldC m1 (C.ptr m.nxt 0)) = (some (Il x2))) ∧ 
 ∀ m3 : M, (m3 = (M.new m1 (AO.cells 4 [(Il 0), C.sl0, C.sl0, C.sl0] false))) → 
 ∃ m4 : M, ((stC m3 (C.ptr m1.nxt 0) 4 [(Il x2), C.sl0, C.sl0, C.sl0]) = (some m4)) ∧ 
 ∀ R5 : List V → M → Prop, (∀ x6 : Int, ∀ m7 : M, (isPt (C.ptr m.nxt 0) ∧ ∃ c8 : C, ((ldC m7 (C.ptr m.nxt 1)) = (some c8)) ∧ 
 isSl c8 ∧ ifB (decide (x6 < (((slLen c8) : Nat) : Int))) (isPt (C.ptr m1.nxt 0) ∧ ∃ c9 : C, 
 ((ldC m7 (C.ptr m1.nxt 1)) = (some c9)) ∧ isPt (C.ptr m.nxt 0) ∧ ∃ c10 : C, 
 ((ldC m7 (C.ptr m.nxt 1)) = (some c10)) ∧ ∃ n11 : Nat, (x6 = ((n11 : Nat) : Int)) ∧ 
 (n11 < (slLen c10)) ∧ ∃ c12 : C, ((ldC m7 (slAt c10 (n11 * 1))) = (some c12)) ∧ 
 Wc prog tbl 61 [(V.c c12)] m7 (fun v13 m14 => ∃ c15 : C, (v13 = (V.c c15)) ∧ 
 (ifB (cmC c9) ((ldC m14 (C.ptr m1.nxt 1)) = (some c9)) False) ∧ ∀ m16 : M, 
 (m16 = (M.new m14 (AO.cells 1 [c15] false))) → (ifB (cmC c9) ((ldC m16 (C.ptr m1.nxt 1)) = (some c9)) False) ∧ 
 ∃ c17 : C, ∃ m18 : M, (ApR prog 27 m16 c9 (C.sl m14.nxt 0 1 0 (some 1)) c17 m18) ∧ 
 isPt (C.ptr m1.nxt 0) ∧ ∃ m19 : M, ((stC m18 (C.ptr m1.nxt 1) 1 [c17]) = (some m19)) ∧ 
 fitsP .i64 (x6 + 1) ∧ R5 [(V.c (Il (x6 + 1)))] m19)) (∀ R20 : List V → 
 M → Prop, (∀ x21 : Int, ∀ m22 : M, (isPt (C.ptr m.nxt 0) ∧ ∃ c23 : C, ((ldC m22 (C.ptr m.nxt 2)) = (some c23)) ∧ 
 isSl c23 ∧ ifB (decide (x21 < (((slLen c23) : Nat) : Int))) (isPt (C.ptr m.nxt 0) ∧ 
 ∃ c24 : C, ((ldC m22 (C.ptr m.nxt 2)) = (some c24)) ∧ ∃ n25 : Nat, 
 (x21 = ((n25 : Nat) : Int)) ∧ (n25 < (slLen c24)) ∧ ∃ x26, ∃ x27, 
 ∃ x28, ∃ x29, ∃ x30, ∃ x31, ∃ x32, ((ldA m22 (slAt c24 (n25 * 7)) 7) = (some [(Il x26), 
 (Il x27), (Il x28), (Il x29), (Il x30), 
 (Il x31), (Il x32)])) ∧ ∀ m33 : M, (m33 = (M.new m22 (AO.cells 7 [(Il 0), 
 (Il 0), (Il 0), (Il 0), 
 (Il 0), (Il 0), (Il 0)] false))) → 
 ∃ m34 : M, ((stC m33 (C.ptr m22.nxt 0) 7 [(Il x26), (Il x27), 
 (Il x28), (Il x29), (Il x30), (Il x31), 
 (Il x32)]) = (some m34)) ∧ isPt (C.ptr m1.nxt 0) ∧ ∃ c35 : C, 
 ((ldC m34 (C.ptr m1.nxt 2)) = (some c35)) ∧ isPt (C.ptr m22.nxt 0) ∧ 
 ∃ x36, ((ldC m34 (C.ptr m22.nxt 0)) = (some (Il x36))) ∧ 
 isPt (C.ptr m22.nxt 0) ∧ ∃ x37, ∃ x38, ((ldA m34 (C.ptr m22.nxt 1) 2) = (some [(Il x37), 
 (Il x38)])) ∧ Wc prog tbl 62 [(V.agg 2 [(Il x37), 
 (Il x38)])] m34 (fun v39 m40 => ∃ x41, ∃ x42, (v39 = (V.agg 2 [(Il x41), 
 (Il x42)])) ∧ ((ldC m40 (C.ptr m22.nxt 0)) = (some (Il x36))) ∧ 
 (ifB (cmC c35) ((ldC m40 (C.ptr m1.nxt 2)) = (some c35)) False) ∧ isPt (C.ptr m22.nxt 0) ∧ 
 ∃ x43, ∃ x44, ((ldA m40 (C.ptr m22.nxt 3) 2) = (some [(Il x43), 
 (Il x44)])) ∧ ((ldA m34 (C.ptr m22.nxt 3) 2) = (some [(Il x43), 
 (Il x44)])) ∧ Wc prog tbl 62 [(V.agg 2 [(Il x43), 
 (Il x44)])] m40 (fun v45 m46 => ∃ x47, ∃ x48, (v45 = (V.agg 2 [(Il x47), 
 (Il x48)])) ∧ ((ldC m46 (C.ptr m22.nxt 0)) = (some (Il x36))) ∧ 
 (ifB (cmC c35) ((ldC m46 (C.ptr m1.nxt 2)) = (some c35)) False) ∧ isPt (C.ptr m22.nxt 0) ∧ 
 ∃ x49, ∃ x50, ((ldA m46 (C.ptr m22.nxt 5) 2) = (some [(Il x49), 
 (Il x50)])) ∧ ((ldA m40 (C.ptr m22.nxt 5) 2) = (some [(Il x49), 
 (Il x50)])) ∧ ((ldA m34 (C.ptr m22.nxt 5) 2) = (some [(Il x49), 
 (Il x50)])) ∧ Wc prog tbl 62 [(V.agg 2 [(Il x49), 
 (Il x50)])] m46 (fun v51 m52 => ∃ x53, ∃ x54, (v51 = (V.agg 2 [(Il x53), 
 (Il x54)])) ∧ ((ldC m52 (C.ptr m22.nxt 0)) = (some (Il x36))) ∧ 
 (ifB (cmC c35) ((ldC m52 (C.ptr m1.nxt 2)) = (some c35)) False) ∧ ∀ m55 : M, 
 (m55 = (M.new m52 (AO.cells 7 [(Il x36), (Il x41), 
 (Il x42), (Il x47), (Il x48), (Il x53), 
 (Il x54)] false))) → (ifB (cmC c35) ((ldC m55 (C.ptr m1.nxt 2)) = (some c35)) False) ∧ 
 ∃ c56 : C, ∃ m57 : M, (ApR prog 28 m55 c35 (C.sl m52.nxt 0 1 0 (some 1)) c56 m57) ∧ 
 isPt (C.ptr m1.nxt 0) ∧ ∃ m58 : M, ((stC m57 (C.ptr m1.nxt 2) 1 [c56]) = (some m58)) ∧ 
 fitsP .i64 (x21 + 1) ∧ R20 [(V.c (Il (x21 + 1)))] m58)))) (∀ R59 : List V → 
 M → Prop, (∀ x60 : Int, ∀ m61 : M, (isPt (C.ptr m.nxt 0) ∧ ∃ c62 : C, ((ldC m61 (C.ptr m.nxt 3)) = (some c62)) ∧ 
 isSl c62 ∧ ifB (decide (x60 < (((slLen c62) : Nat) : Int))) (isPt (C.ptr m.nxt 0) ∧ 
 ∃ c63 : C, ((ldC m61 (C.ptr m.nxt 3)) = (some c63)) ∧ ∃ n64 : Nat, 
 (x60 = ((n64 : Nat) : Int)) ∧ (n64 < (slLen c63)) ∧ ∃ x65, ∃ x66, 
 ∃ x67, ∃ x68, ((ldA m61 (slAt c63 (n64 * 4)) 4) = (some [(Il x65), 
 (Il x66), (Il x67), (Il x68)])) ∧ 
 ∀ m69 : M, (m69 = (M.new m61 (AO.cells 4 [(Il 0), (Il 0), 
 (Il 0), (Il 0)] false))) → ∃ m70 : M, 
 ((stC m69 (C.ptr m61.nxt 0) 4 [(Il x65), (Il x66), 
 (Il x67), (Il x68)]) = (some m70)) ∧ isPt (C.ptr m1.nxt 0) ∧ 
 ∃ c71 : C, ((ldC m70 (C.ptr m1.nxt 3)) = (some c71)) ∧ isPt (C.ptr m61.nxt 0) ∧ 
 ∃ x72, ((ldC m70 (C.ptr m61.nxt 0)) = (some (Il x72))) ∧ 
 isPt (C.ptr m61.nxt 0) ∧ ∃ x73, ((ldC m70 (C.ptr m61.nxt 1)) = (some (Il x73))) ∧ 
 isPt (C.ptr m61.nxt 0) ∧ ∃ x74, ∃ x75, ((ldA m70 (C.ptr m61.nxt 2) 2) = (some [(Il x74), 
 (Il x75)])) ∧ Wc prog tbl 62 [(V.agg 2 [(Il x74), 
 (Il x75)])] m70 (fun v76 m77 => ∃ x78, ∃ x79, (v76 = (V.agg 2 [(Il x78), 
 (Il x79)])) ∧ ((ldC m77 (C.ptr m61.nxt 1)) = (some (Il x73))) ∧ 
 ((ldC m77 (C.ptr m61.nxt 0)) = (some (Il x72))) ∧ (ifB (cmC c71) ((ldC m77 (C.ptr m1.nxt 3)) = (some c71)) False) ∧ 
 ∀ m80 : M, (m80 = (M.new m77 (AO.cells 4 [(Il x72), (Il x73), 
 (Il x78), (Il x79)] false))) → (ifB (cmC c71) ((ldC m80 (C.ptr m1.nxt 3)) = (some c71)) False) ∧ 
 ∃ c81 : C, ∃ m82 : M, (ApR prog 29 m80 c71 (C.sl m77.nxt 0 1 0 (some 1)) c81 m82) ∧ 
 isPt (C.ptr m1.nxt 0) ∧ ∃ m83 : M, ((stC m82 (C.ptr m1.nxt 3) 1 [c81]) = (some m83)) ∧ 
 fitsP .i64 (x60 + 1) ∧ R59 [(V.c (Il (x60 + 1)))] m83)) (∃ x84, 
 ∃ c85 : C, ∃ c86 : C, ∃ c87 : C, ((ldA m61 (C.ptr m1.nxt 0) 4) = (some [(Il x84), 
 c85, c86, c87])) ∧ ∃ m88 : M, ((stC m61 (C.ptr m0.nxt 0) 4 [(Il x84), 
 c85, c86, c87]) = (some m88)) ∧ ∃ x89, ∃ c90 : C, ∃ c91 : C, 
 ∃ c92 : C, ((ldA m88 (C.ptr m0.nxt 0) 4) = (some [(Il x89), 
 c90, c91, c92])) ∧ Q (V.agg 4 [(Il x89), c90, c91, c92]) m88)) → 
 R59 [(V.c (Il x60))] m61) → R59 [(V.c (Il 0))] m22)) → 
 R20 [(V.c (Il x21))] m22) → R20 [(V.c (Il 0))] m7)) → 
 R5 [(V.c (Il x6))] m7) → R5 [(V.c (Il 0))] m4)) : Wc prog tbl 23 [(V.agg 4 [(Il a100), a101, a102, a103])] m Q :=
 wc_eq (n := 1) rfl (by kernel_rfl) (by kernel_rfl) h
theorem w29 {a100 : Int} {a101 : C} {a102 : C} {a103 : C} {a200 : Int} {m : M} {Q : V → M → Prop} (h :
 (∀ m0 : M, (m0 = (M.new m (AO.cells 4 [(Il a100), a101, a102, a103] false))) → isPt (C.ptr m.nxt 0) ∧ 
 ∃ x1, ((ldC m0 (C.ptr m.nxt 0)) = (some (Il x1))) ∧ Wc prog tbl 65 [(V.agg 2 [(Il 0), 
 (Il x1)]), (V.c (Il a200))] m0 (fun v2 m3 => ∃ b4 : Bool, (v2 = (V.c (C.bool b4))) ∧ 
 Q (V.c (C.bool b4)) m3))) : Wc prog tbl 29 [(V.agg 4 [(Il a100), a101, a102, a103]), (V.c (Il a200))] m Q :=
 wc_eq (n := 2) rfl (by kernel_rfl) (by kernel_rfl) h
theorem w33 {a100 : Int} {m : M} {Q : V → M → Prop} (h :
 (Wc prog tbl 65 [(V.agg 2 [(Il 0), (Il (100 : Int))]), (V.c (Il a100))] m (fun v0 m1 => 
 ∃ b2 : Bool, (v0 = (V.c (C.bool b2))) ∧ Q (V.c (C.bool b2)) m1))) : Wc prog tbl 33 [(V.c (Il a100))] m Q :=
 wc_eq (n := 1) rfl (by kernel_rfl) (by kernel_rfl) h
theorem w40 {a100 : Int} {a101 : C} {a102 : C} {a103 : C} {a104 : C} {a200 : Int} {m : M} {Q : V → M → Prop} (h :
 (∀ m0 : M, (m0 = (M.new m (AO.cells 5 [(Il a100), a101, a102, a103, a104] false))) → ∀ m1 : M, 
 (m1 = (M.new m0 (AO.cells 1 [(Il a200)] false))) → Q (V.c (C.fn (Fn.func 71) [] [(W.c (C0.ptr m.nxt 0)), 
 (W.c (C0.ptr m0.nxt 0))])) m1)) : Wc prog tbl 40 [(V.agg 5 [(Il a100), a101, a102, a103, a104]), (V.c (Il a200))] m Q :=
 wc_eq (n := 2) rfl (by kernel_rfl) (by kernel_rfl) h
theorem w46 {a100 : Int} {a101 : C} {a102 : C} {a103 : C} {m : M} {Q : V → M → Prop} (h :
 (∀ m0 : M, (m0 = (M.new m (AO.cells 4 [(Il a100), a101, a102, a103] false))) → ∀ m1 : M, (m1 = (M.new m0 (AO.cells 5 [(Il 0), 
 C.sl0, C.sl0, C.sl0, C.map0] false))) → ∃ x2, ∃ c3 : C, ∃ c4 : C, ∃ c5 : C, ((ldA m1 (C.ptr m.nxt 0) 4) = (some [(Il x2), 
 c3, c4, c5])) ∧ ∀ m6 : M, (m6 = (M.new m1 (AO.map [] 0))) → ∀ m7 : M, (m7 = (M.new m6 (AO.cells 5 [(Il 0), 
 C.sl0, C.sl0, C.sl0, C.map0] false))) → ∃ m8 : M, ((stC m7 (C.ptr m6.nxt 0) 5 [(Il x2), 
 c3, c4, c5, (C.map m1.nxt)]) = (some m8)) ∧ isPt (C.ptr m.nxt 0) ∧ ∃ c9 : C, 
 ((ldC m8 (C.ptr m.nxt 2)) = (some c9)) ∧ isSl c9 ∧ ∀ R10 : List V → M → Prop, 
 (∀ x11 : Int, ∀ m12 : M, (ifB (decide (x11 < (((slLen c9) : Nat) : Int))) (∃ n13 : Nat, 
 (x11 = ((n13 : Nat) : Int)) ∧ (n13 < (slLen c9)) ∧ ∃ x14, ∃ x15, 
 ∃ x16, ∃ x17, ∃ x18, ∃ x19, ∃ x20, ((ldA m12 (slAt c9 (n13 * 7)) 7) = (some [(Il x14), 
 (Il x15), (Il x16), (Il x17), (Il x18), 
 (Il x19), (Il x20)])) ∧ ∀ m21 : M, (m21 = (M.new m12 (AO.cells 7 [(Il 0), 
 (Il 0), (Il 0), (Il 0), 
 (Il 0), (Il 0), (Il 0)] false))) → 
 ∃ m22 : M, ((stC m21 (C.ptr m12.nxt 0) 7 [(Il x14), (Il x15), 
 (Il x16), (Il x17), (Il x18), (Il x19), 
 (Il x20)]) = (some m22)) ∧ isPt (C.ptr m12.nxt 0) ∧ 
 ∃ x23, ∃ x24, ((ldA m22 (C.ptr m12.nxt 1) 2) = (some [(Il x23), 
 (Il x24)])) ∧ Wc prog tbl 76 [(V.agg 2 [(Il x23), 
 (Il x24)])] m22 (fun v25 m26 => ∃ c27 : C, (v25 = (V.c c27)) ∧ 
 rangeP prog tbl c27 m26 (fun l28 m29 R30 R31 => ∃ x32, (l28 = [(V.c (Il x32))]) ∧ 
 ∀ m33 : M, (m33 = (M.new m29 (AO.cells 1 [(Il 0)] false))) → 
 ∃ m34 : M, ((stC m33 (C.ptr m29.nxt 0) 1 [(Il x32)]) = (some m34)) ∧ 
 R30 m34 (fun m35 => isPt (C.ptr m12.nxt 0) ∧ ∃ x36, ∃ x37, 
 ((ldA m35 (C.ptr m12.nxt 3) 2) = (some [(Il x36), (Il x37)])) ∧ 
 Wc prog tbl 76 [(V.agg 2 [(Il x36), (Il x37)])] m35 (fun v38 m39 => 
 ∃ c40 : C, (v38 = (V.c c40)) ∧ rangeP prog tbl c40 m39 (fun l41 m42 R43 R44 => 
 ∃ x45, (l41 = [(V.c (Il x45))]) ∧ R43 m42 (fun m46 => 
 ∃ x47, ∃ x48, ∃ x49, ∃ x50, ∃ x51, ∃ x52, 
 ∃ x53, ((ldA m46 (C.ptr m12.nxt 0) 7) = (some [(Il x47), 
 (Il x48), (Il x49), (Il x50), (Il x51), 
 (Il x52), (Il x53)])) ∧ ∃ x54, ((ldC m46 (C.ptr m29.nxt 0)) = (some (Il x54))) ∧ 
 Wc prog tbl 77 [(V.agg 7 [(Il x47), (Il x48), 
 (Il x49), (Il x50), (Il x51), (Il x52), 
 (Il x53)]), (V.c (Il x54)), (V.c (Il x45))] m46 (fun v55 m56 => 
 ∃ x57, ∃ x58, ∃ x59, ∃ x60, (v55 = (V.agg 4 [(Il x57), 
 (Il x58), (Il x59), (Il x60)])) ∧ 
 ∀ m61 : M, (m61 = (M.new m56 (AO.cells 4 [(Il 0), (Il 0), 
 (Il 0), (Il 0)] false))) → ∃ m62 : M, 
 ((stC m61 (C.ptr m56.nxt 0) 4 [(Il x57), (Il x58), 
 (Il x59), (Il x60)]) = (some m62)) ∧ isPt (C.ptr m6.nxt 0) ∧ 
 ∃ c63 : C, ((ldC m62 (C.ptr m6.nxt 4)) = (some c63)) ∧ ∃ x64, 
 ∃ x65, ∃ x66, ∃ x67, ((ldA m62 (C.ptr m56.nxt 0) 4) = (some [(Il x64), 
 (Il x65), (Il x66), (Il x67)])) ∧ 
 ∃ x68, ∃ c69 : C, ∃ c70 : C, ∃ c71 : C, ((ldA m62 (C.ptr m.nxt 0) 4) = (some [(Il x68), 
 c69, c70, c71])) ∧ ∃ x72, ∃ x73, ∃ x74, ∃ x75, ((ldA m62 (C.ptr m56.nxt 0) 4) = (some [(Il x72), 
 (Il x73), (Il x74), (Il x75)])) ∧ 
 Wc prog tbl 78 [(V.agg 4 [(Il x68), c69, c70, c71]), (V.agg 4 [(Il x72), 
 (Il x73), (Il x74), (Il x75)])] m62 (fun v76 m77 => 
 ∃ x78, ∃ x79, ∃ x80, ∃ x81, ∃ x82, ∃ x83, 
 ∃ x84, ∃ x85, ∃ x86, ∃ x87, ∃ x88, ∃ x89, 
 ∃ x90, (v76 = (V.agg 13 [(Il x78), (Il x79), 
 (Il x80), (Il x81), (Il x82), (Il x83), 
 (Il x84), (Il x85), (Il x86), (Il x87), 
 (Il x88), (Il x89), (Il x90)])) ∧ 
 ((ldA m77 (C.ptr m56.nxt 0) 4) = (some [(Il x64), (Il x65), 
 (Il x66), (Il x67)])) ∧ (ifB (cmC c63) ((ldC m77 (C.ptr m6.nxt 4)) = (some c63)) False) ∧ 
 ∃ m91 : M, ((upM prog 138 m77 c63 (V.agg 4 [(Il x64), (Il x65), 
 (Il x66), (Il x67)]) (V.agg 13 [(Il x78), 
 (Il x79), (Il x80), (Il x81), (Il x82), 
 (Il x83), (Il x84), (Il x85), (Il x86), 
 (Il x87), (Il x88), (Il x89), (Il x90)])) = (some m91)) ∧ 
 R44 Ex.nrm m91)))) (After.mk (fun m92 => 
 R31 Ex.nrm m92) [] (fun m93 => R31 Ex.ret m93))))) (After.mk (fun m94 => 
 fitsP .i64 (x11 + 1) ∧ R10 [(V.c (Il (x11 + 1)))] m94) [] (fun m95 => 
 ∃ x96, ∃ c97 : C, ∃ c98 : C, ∃ c99 : C, ∃ c100 : C, ((ldA m95 (C.ptr m0.nxt 0) 5) = (some [(Il x96), 
 c97, c98, c99, c100])) ∧ Q (V.agg 5 [(Il x96), c97, c98, c99, 
 c100]) m95)))) (∃ x101, ∃ c102 : C, ∃ c103 : C, 
 ∃ c104 : C, ∃ c105 : C, ((ldA m12 (C.ptr m6.nxt 0) 5) = (some [(Il x101), 
 c102, c103, c104, c105])) ∧ ∃ m106 : M, ((stC m12 (C.ptr m0.nxt 0) 5 [(Il x101), 
 c102, c103, c104, c105]) = (some m106)) ∧ ∃ x107, ∃ c108 : C, 
 ∃ c109 : C, ∃ c110 : C, ∃ c111 : C, ((ldA m106 (C.ptr m0.nxt 0) 5) = (some [(Il x107), 
 c108, c109, c110, c111])) ∧ Q (V.agg 5 [(Il x107), c108, c109, 
 c110, c111]) m106)) → R10 [(V.c (Il x11))] m12) → 
 R10 [(V.c (Il 0))] m8)) : Wc prog tbl 46 [(V.agg 4 [(Il a100), a101, a102, a103])] m Q :=
 wc_eq (n := 1) rfl (by kernel_rfl) (by kernel_rfl) h
theorem w49 {a100 : Int} {a101 : C} {a102 : C} {a103 : C} {a200 : Int} {a300 : Int} {a301 : Int} {a302 : Int} {a303 : Int} {a304 : Int} {a305 : Int} {a306 : Int} {a307 : Int} {a308 : Int} {a309 : Int} {a310 : Int} {a311 : Int} {a312 : Int} {a313 : Int} {a314 : Int} {a315 : Int} {m : M} {Q : V → M → Prop} (h :
 (∀ m0 : M, (m0 = (M.new m (AO.cells 4 [(Il a100), a101, a102, a103] false))) → ∀ m1 : M, (m1 = (M.new m0 (AO.cells 1 [(Il a200)] false))) → 
 ∀ m2 : M, (m2 = (M.new m1 (AO.cells 16 [(Il a300), (Il a301), (Il a302), 
 (Il a303), (Il a304), (Il a305), (Il a306), 
 (Il a307), (Il a308), (Il a309), (Il a310), 
 (Il a311), (Il a312), (Il a313), (Il a314), 
 (Il a315)] false))) → isPt (C.ptr m.nxt 0) ∧ ∃ c3 : C, ((ldC m2 (C.ptr m.nxt 3)) = (some c3)) ∧ 
 Wc prog tbl 81 [(V.c c3), (V.c (C.fn (Fn.func 82) [] [(W.c (C0.ptr m0.nxt 0)), (W.c (C0.ptr m1.nxt 0))]))] m2 (fun v4 m5 => 
 ∃ b6 : Bool, (v4 = (V.c (C.bool b6))) ∧ Q (V.c (C.bool b6)) m5))) : Wc prog tbl 49 [(V.agg 4 [(Il a100), a101, a102, a103]), (V.c (Il a200)), (V.agg 16 [(Il a300), (Il a301), (Il a302), (Il a303), (Il a304), (Il a305), (Il a306), (Il a307), (Il a308), (Il a309), (Il a310), (Il a311), (Il a312), (Il a313), (Il a314), (Il a315)])] m Q :=
 wc_eq (n := 3) rfl (by kernel_rfl) (by kernel_rfl) h
theorem w55 {a100 : Int} {a101 : C} {a102 : C} {a103 : C} {m : M} {Q : V → M → Prop} (h :
 (∀ m0 : M, (m0 = (M.new m (AO.cells 4 [(Il a100), a101, a102, a103] false))) → isPt (C.ptr m.nxt 0) ∧ 
 ∃ x1, ((ldC m0 (C.ptr m.nxt 0)) = (some (Il x1))) ∧ ifB (decide ((12 : Int) < x1)) (Q (V.c (C.bool true)) m0) (isPt (C.ptr m.nxt 0) ∧ 
 ∃ c2 : C, ((ldC m0 (C.ptr m.nxt 1)) = (some c2)) ∧ isSl c2 ∧ ifB (decide ((3 : Int) < (((slLen c2) : Nat) : Int))) (Q (V.c (C.bool true)) m0) (isPt (C.ptr m.nxt 0) ∧ 
 ∃ c3 : C, ((ldC m0 (C.ptr m.nxt 2)) = (some c3)) ∧ isSl c3 ∧ ifB (decide ((3 : Int) < (((slLen c3) : Nat) : Int))) (Q (V.c (C.bool true)) m0) (isPt (C.ptr m.nxt 0) ∧ 
 ∃ c4 : C, ((ldC m0 (C.ptr m.nxt 3)) = (some c4)) ∧ isSl c4 ∧ Q (V.c (C.bool (decide ((6 : Int) < (((slLen c4) : Nat) : Int))))) m0))))) : Wc prog tbl 55 [(V.agg 4 [(Il a100), a101, a102, a103])] m Q :=
 wc_eq (n := 1) rfl (by kernel_rfl) (by kernel_rfl) h
theorem w58 {a100 : Int} {a101 : Int} {a102 : Int} {a103 : Int} {a104 : Int} {a105 : Int} {a106 : Int} {m : M} {Q : V → M → Prop} (h :
 (∀ m0 : M, (m0 = (M.new m (AO.cells 7 [(Il a100), (Il a101), (Il a102), 
 (Il a103), (Il a104), (Il a105), (Il a106)] false))) → 
 isPt (C.ptr m.nxt 0) ∧ ∃ x1, ∃ x2, ((ldA m0 (C.ptr m.nxt 1) 2) = (some [(Il x1), 
 (Il x2)])) ∧ Wc prog tbl 93 [(V.agg 2 [(Il x1), (Il x2)])] m0 (fun v3 m4 => 
 ∃ x5, (v3 = (V.c (Il x5))) ∧ isPt (C.ptr m.nxt 0) ∧ ∃ x6, ∃ x7, 
 ((ldA m4 (C.ptr m.nxt 3) 2) = (some [(Il x6), (Il x7)])) ∧ 
 ((ldA m0 (C.ptr m.nxt 3) 2) = (some [(Il x6), (Il x7)])) ∧ 
 Wc prog tbl 93 [(V.agg 2 [(Il x6), (Il x7)])] m4 (fun v8 m9 => 
 ∃ x10, (v8 = (V.c (Il x10))) ∧ ((0 : Int) ≤ x5) ∧ ((0 : Int) ≤ x10) ∧ 
 fitsP .i64 (x5 * x10) ∧ isPt (C.ptr m.nxt 0) ∧ ∃ x11, ∃ x12, 
 ((ldA m9 (C.ptr m.nxt 5) 2) = (some [(Il x11), (Il x12)])) ∧ 
 ((ldA m4 (C.ptr m.nxt 5) 2) = (some [(Il x11), (Il x12)])) ∧ 
 ((ldA m0 (C.ptr m.nxt 5) 2) = (some [(Il x11), (Il x12)])) ∧ 
 Wc prog tbl 93 [(V.agg 2 [(Il x11), (Il x12)])] m9 (fun v13 m14 => 
 ∃ x15, (v13 = (V.c (Il x15))) ∧ ((0 : Int) ≤ (x5 * x10)) ∧ 
 ((0 : Int) ≤ x15) ∧ fitsP .i64 ((x5 * x10) * x15) ∧ Q (V.c (C.bool (decide (((x5 * x10) * x15) ≤ (3000 : Int))))) m14))))) : Wc prog tbl 58 [(V.agg 7 [(Il a100), (Il a101), (Il a102), (Il a103), (Il a104), (Il a105), (Il a106)])] m Q :=
 wc_eq (n := 1) rfl (by kernel_rfl) (by kernel_rfl) h
theorem w61 {a100 : C} {m : M} {Q : V → M → Prop} (h :
 (∃ c0 : C, ∃ m1 : M, (ApR prog 39 m C.sl0 a100 c0 m1) ∧ Q (V.c c0) m1)) : Wc prog tbl 61 [(V.c a100)] m Q :=
 wc_eq (n := 1) rfl (by kernel_rfl) (by kernel_rfl) h
theorem w64 {a100 : Int} {a101 : C} {a102 : C} {a103 : C} {a200 : Int} {m : M} {Q : V → M → Prop} (h :
 (∀ m0 : M, (m0 = (M.new m (AO.cells 4 [(Il a100), a101, a102, a103] false))) → isPt (C.ptr m.nxt 0) ∧ 
 ∃ c1 : C, ((ldC m0 (C.ptr m.nxt 2)) = (some c1)) ∧ isSl c1 ∧ fitsP .i64 ((((slLen c1) : Nat) : Int) - (1 : Int)) ∧ 
 Wc prog tbl 65 [(V.agg 2 [(Il 0), (Il ((((slLen c1) : Nat) : Int) - (1 : Int)))]), 
 (V.c (Il a200))] m0 (fun v2 m3 => ∃ b4 : Bool, (v2 = (V.c (C.bool b4))) ∧ Q (V.c (C.bool b4)) m3))) : Wc prog tbl 64 [(V.agg 4 [(Il a100), a101, a102, a103]), (V.c (Il a200))] m Q :=
 wc_eq (n := 2) rfl (by kernel_rfl) (by kernel_rfl) h
theorem w67 {a100 : C} {m : M} {Q : V → M → Prop} (h :
 (isSl a100 ∧ ifB (decide ((((slLen a100) : Nat) : Int) < (1 : Int))) False (∃ n0 : Nat, ((0 : Int) = ((n0 : Nat) : Int)) ∧ 
 (n0 < (slLen a100)) ∧ ∃ x1, ((ldC m (slAt a100 (n0 * 1))) = (some (Il x1))) ∧ 
 ∀ R2 : List V → M → Prop, (∀ x3 : Int, ∀ x4 : Int, ∀ m5 : M, (isSl a100 ∧ ifB (decide (x4 < (((slLen a100) : Nat) : Int))) (∃ n6 : Nat, 
 (x4 = ((n6 : Nat) : Int)) ∧ (n6 < (slLen a100)) ∧ ∃ x7, ((ldC m5 (slAt a100 (n6 * 1))) = (some (Il x7))) ∧ 
 fitsP .i64 (x4 + 1) ∧ R2 [(V.c (Il (Max.max x3 x7))), (V.c (Il (x4 + 1)))] m5) (Q (V.c (Il x3)) m5)) → 
 R2 [(V.c (Il x3)), (V.c (Il x4))] m5) → R2 [(V.c (Il x1)), 
 (V.c (Il (1 : Int)))] m))) : Wc prog tbl 67 [(V.c a100)] m Q :=
 wc_eq (n := 1) rfl (by kernel_rfl) (by kernel_rfl) h
theorem w72 {a100 : Int} {a101 : C} {a102 : C} {a103 : C} {a104 : C} {a200 : Int} {a201 : Int} {a202 : Int} {a203 : Int} {a204 : Int} {a205 : Int} {a206 : Int} {m : M} {Q : V → M → Prop} (h :
 (∀ m0 : M, (m0 = (M.new m (AO.cells 5 [(Il a100), a101, a102, a103, a104] false))) → ∀ m1 : M, 
 (m1 = (M.new m0 (AO.cells 7 [(Il a200), (Il a201), (Il a202), 
 (Il a203), (Il a204), (Il a205), (Il a206)] false))) → 
 Q (V.c (C.fn (Fn.func 97) [] [(W.c (C0.ptr m0.nxt 0)), (W.c (C0.ptr m.nxt 0))])) m1)) : Wc prog tbl 72 [(V.agg 5 [(Il a100), a101, a102, a103, a104]), (V.agg 7 [(Il a200), (Il a201), (Il a202), (Il a203), (Il a204), (Il a205), (Il a206)])] m Q :=
 wc_eq (n := 2) rfl (by kernel_rfl) (by kernel_rfl) h
theorem w75 {a100 : C} {m : M} {Q : V → M → Prop} (h :
 (okN (TK.sl 3) a100 ∧ okN (TK.sl 3) a100 ∧ okN (TK.sl 3) C.sl0 ∧ (((isNilC a100) || true) = true) ∧ ifB ((isNilC a100) && true) (Q (V.c C.sl0) m) (∀ m0 : M, 
 (m0 = (M.new m (AO.cells 0 [] false))) → ∃ c1 : C, ∃ m2 : M, (ApR prog 39 m0 (C.sl m.nxt 0 0 0 (some 0)) a100 c1 m2) ∧ 
 Q (V.c c1) m2))) : Wc prog tbl 75 [(V.c a100)] m Q :=
 wc_eq (n := 1) rfl (by kernel_rfl) (by kernel_rfl) h
theorem w78 {a100 : Int} {a101 : C} {a102 : C} {a103 : C} {a200 : Int} {a201 : Int} {a202 : Int} {a203 : Int} {m : M} {Q : V → M → Prop} (h :
 (∀ m0 : M, (m0 = (M.new m (AO.cells 4 [(Il a100), a101, a102, a103] false))) → ∀ m1 : M, (m1 = (M.new m0 (AO.cells 4 [(Il a200), 
 (Il a201), (Il a202), (Il a203)] false))) → ∀ m2 : M, 
 (m2 = (M.new m1 (AO.cells 13 [(Il 0), (Il 0), (Il 0), 
 (Il 0), (Il 0), (Il 0), (Il 0), 
 (Il 0), (Il 0), (Il 0), (Il 0), 
 (Il 0), (Il 0)] false))) → ∀ m3 : M, (m3 = (M.new m2 (AO.cells 13 [(Il 0), 
 (Il 0), (Il 0), (Il 0), (Il 0), 
 (Il 0), (Il 0), (Il 0), (Il 0), 
 (Il 0), (Il 0), (Il 0), (Il 0)] false))) → 
 ∀ R4 : List V → M → Prop, (∀ x5 : Int, ∀ x6 : Int, ∀ x7 : Int, ∀ m8 : M, (ifB (decide (x7 < 13)) (isPt (C.ptr m0.nxt 0) ∧ 
 isPt (C.ptr m0.nxt 0) ∧ ∃ x9, ((ldC m8 (C.ptr m0.nxt 0)) = (some (Il x9))) ∧ 
 ifB (decide (x7 = x9)) (isPt (C.ptr m0.nxt 0) ∧ isPt (C.ptr m0.nxt 0) ∧ ∃ x10, 
 ((ldC m8 (C.ptr m0.nxt 1)) = (some (Il x10))) ∧ isPt (C.ptr m2.nxt 0) ∧ 
 ∃ n11 : Nat, (x7 = ((n11 : Nat) : Int)) ∧ (n11 < 13) ∧ ∃ m12 : M, ((stC m8 (C.ptr m2.nxt (0 + (n11 * 1))) 1 [(Il x10)]) = (some m12)) ∧ 
 fitsP .i64 (x7 + 1) ∧ R4 [(V.c (Il x10)), (V.c (Il x10)), 
 (V.c (Il (x7 + 1)))] m12) (isPt (C.ptr m.nxt 0) ∧ 
 ∃ x13, ((ldC m8 (C.ptr m.nxt 0)) = (some (Il x13))) ∧ 
 ifB (decide (x7 ≤ x13)) (isPt (C.ptr m.nxt 0) ∧ ∃ c14 : C, ((ldC m8 (C.ptr m.nxt 1)) = (some c14)) ∧ 
 isPt (C.ptr m0.nxt 0) ∧ ∃ x15, ((ldC m8 (C.ptr m0.nxt 3)) = (some (Il x15))) ∧ 
 ∃ n16 : Nat, (x15 = ((n16 : Nat) : Int)) ∧ (n16 < (slLen c14)) ∧ ∃ c17 : C, 
 ((ldC m8 (slAt c14 (n16 * 1))) = (some c17)) ∧ ∃ n18 : Nat, (x7 = ((n18 : Nat) : Int)) ∧ 
 (n18 < (slLen c17)) ∧ ∃ x19, ((ldC m8 (slAt c17 (n18 * 1))) = (some (Il x19))) ∧ 
 ((0 : Int) ≤ x5) ∧ ((0 : Int) ≤ x19) ∧ fitsP .i64 (x5 * x19) ∧ ((0 : Int) ≤ (x5 * x19)) ∧ 
 ((0 : Int) < (100 : Int)) ∧ fitsP .i64 ((x5 * x19) / (100 : Int)) ∧ 
 fitsP .i64 (x5 - ((x5 * x19) / (100 : Int))) ∧ isPt (C.ptr m2.nxt 0) ∧ 
 ∃ n20 : Nat, (x7 = ((n20 : Nat) : Int)) ∧ (n20 < 13) ∧ ∃ m21 : M, ((stC m8 (C.ptr m2.nxt (0 + (n20 * 1))) 1 [(Il (x5 - ((x5 * x19) / (100 : Int))))]) = (some m21)) ∧ 
 fitsP .i64 (x7 + 1) ∧ R4 [(V.c (Il (x5 - ((x5 * x19) / (100 : Int))))), 
 (V.c (Il (x5 - ((x5 * x19) / (100 : Int))))), (V.c (Il (x7 + 1)))] m21) (isPt (C.ptr m2.nxt 0) ∧ 
 ∃ n22 : Nat, (x7 = ((n22 : Nat) : Int)) ∧ (n22 < 13) ∧ ∃ m23 : M, ((stC m8 (C.ptr m2.nxt (0 + (n22 * 1))) 1 [(Il x5)]) = (some m23)) ∧ 
 fitsP .i64 (x7 + 1) ∧ R4 [(V.c (Il x5)), (V.c (Il x5)), 
 (V.c (Il (x7 + 1)))] m23))) (∃ x24, 
 ∃ x25, ∃ x26, ∃ x27, ∃ x28, ∃ x29, ∃ x30, ∃ x31, 
 ∃ x32, ∃ x33, ∃ x34, ∃ x35, ∃ x36, ((ldA m8 (C.ptr m2.nxt 0) 13) = (some [(Il x24), 
 (Il x25), (Il x26), (Il x27), (Il x28), 
 (Il x29), (Il x30), (Il x31), (Il x32), 
 (Il x33), (Il x34), (Il x35), (Il x36)])) ∧ 
 ∃ m37 : M, ((stC m8 (C.ptr m1.nxt 0) 13 [(Il x24), (Il x25), 
 (Il x26), (Il x27), (Il x28), (Il x29), 
 (Il x30), (Il x31), (Il x32), (Il x33), 
 (Il x34), (Il x35), (Il x36)]) = (some m37)) ∧ 
 ∃ x38, ∃ x39, ∃ x40, ∃ x41, ∃ x42, ∃ x43, 
 ∃ x44, ∃ x45, ∃ x46, ∃ x47, ∃ x48, ∃ x49, 
 ∃ x50, ((ldA m37 (C.ptr m1.nxt 0) 13) = (some [(Il x38), 
 (Il x39), (Il x40), (Il x41), (Il x42), 
 (Il x43), (Il x44), (Il x45), (Il x46), 
 (Il x47), (Il x48), (Il x49), (Il x50)])) ∧ 
 Q (V.agg 13 [(Il x38), (Il x39), (Il x40), 
 (Il x41), (Il x42), (Il x43), (Il x44), 
 (Il x45), (Il x46), (Il x47), (Il x48), 
 (Il x49), (Il x50)]) m37)) → 
 R4 [(V.c (Il x5)), (V.c (Il x6)), (V.c (Il x7))] m8) → 
 R4 [(V.c (Il 0)), (V.c (Il 0)), (V.c (Il 0))] m3)) : Wc prog tbl 78 [(V.agg 4 [(Il a100), a101, a102, a103]), (V.agg 4 [(Il a200), (Il a201), (Il a202), (Il a203)])] m Q :=
 wc_eq (n := 2) rfl (by kernel_rfl) (by kernel_rfl) h
theorem w81 {a100 : C} {a200 : C} {m : M} {Q : V → M → Prop} (h :
 (∀ m0 : M, (m0 = (M.new m (AO.cells 1 [a200] false))) → Wc prog tbl 102 [(V.c a100), (V.c (C.fn (Fn.func 103) [] [(W.c (C0.ptr m.nxt 0))]))] m0 (fun v1 m2 => 
 ∃ b3 : Bool, (v1 = (V.c (C.bool b3))) ∧ Q (V.c (C.bool (!b3))) m2))) : Wc prog tbl 81 [(V.c a100), (V.c a200)] m Q :=
 wc_eq (n := 2) rfl (by kernel_rfl) (by kernel_rfl) h
theorem w85 {a100 : Int} {a101 : Int} {a102 : Int} {a103 : Int} {a104 : Int} {a105 : Int} {a106 : Int} {a107 : Int} {a108 : Int} {a109 : Int} {a110 : Int} {a111 : Int} {a112 : Int} {a113 : Int} {a114 : Int} {a115 : Int} {m : M} {Q : V → M → Prop} (h :
 (∀ m0 : M, (m0 = (M.new m (AO.cells 16 [(Il a100), (Il a101), (Il a102), 
 (Il a103), (Il a104), (Il a105), (Il a106), 
 (Il a107), (Il a108), (Il a109), (Il a110), 
 (Il a111), (Il a112), (Il a113), (Il a114), 
 (Il a115)] false))) → isPt (C.ptr m.nxt 0) ∧ isPt (C.ptr m.nxt 0) ∧ ∃ x1, 
 ((ldC m0 (C.ptr m.nxt 2)) = (some (Il x1))) ∧ Q (V.c (Il x1)) m0)) : Wc prog tbl 85 [(V.agg 16 [(Il a100), (Il a101), (Il a102), (Il a103), (Il a104), (Il a105), (Il a106), (Il a107), (Il a108), (Il a109), (Il a110), (Il a111), (Il a112), (Il a113), (Il a114), (Il a115)])] m Q :=
 wc_eq (n := 1) rfl (by kernel_rfl) (by kernel_rfl) h
theorem w88 {a100 : Int} {a101 : C} {a102 : C} {a103 : C} {a200 : C} {m : M} {Q : V → M → Prop} (h :
 (∀ m0 : M, (m0 = (M.new m (AO.cells 4 [(Il a100), a101, a102, a103] false))) → isSl a200 ∧ isPt (C.ptr m.nxt 0) ∧ 
 ∃ x1, ((ldC m0 (C.ptr m.nxt 0)) = (some (Il x1))) ∧ fitsP .i64 (x1 + 1) ∧ 
 ifB (decide ((((slLen a200) : Nat) : Int) = (x1 + 1))) (Wc prog tbl 106 [(V.c a200), (V.c (C.fn (Fn.func 33) [] []))] m0 (fun v2 m3 => 
 ∃ b4 : Bool, (v2 = (V.c (C.bool b4))) ∧ Q (V.c (C.bool b4)) m3)) (Q (V.c (C.bool false)) m0))) : Wc prog tbl 88 [(V.agg 4 [(Il a100), a101, a102, a103]), (V.c a200)] m Q :=
 wc_eq (n := 2) rfl (by kernel_rfl) (by kernel_rfl) h
theorem w91 {a100 : C} {a200 : C} {m : M} {Q : V → M → Prop} (h :
 (Wc prog tbl 108 [(V.c a100), (V.c a200)] m (fun v0 m1 => ∃ x2, (v0 = (V.c (Il x2))) ∧ Q (V.c (C.bool (decide ((0 : Int) ≤ x2)))) m1))) : Wc prog tbl 91 [(V.c a100), (V.c a200)] m Q :=
 wc_eq (n := 2) rfl (by kernel_rfl) (by kernel_rfl) h
theorem w95 {a100 : Int} {a101 : C} {a102 : C} {a103 : C} {a200 : C} {m : M} {Q : V → M → Prop} (h :
 (∀ m0 : M, (m0 = (M.new m (AO.cells 4 [(Il a100), a101, a102, a103] false))) → ∀ R1 : List V → 
 M → Prop, (∀ b2 : Bool, ∀ x3 : Int, ∀ m4 : M, (isSl a200 ∧ ifB (decide (x3 < (((slLen a200) : Nat) : Int))) (∃ n5 : Nat, 
 (x3 = ((n5 : Nat) : Int)) ∧ (n5 < (slLen a200)) ∧ ∃ x6, ((ldC m4 (slAt a200 (n5 * 1))) = (some (Il x6))) ∧ 
 Wc prog tbl 25 [(V.c (Il x6)), (V.c (Il 0)), (V.c (Il (100 : Int)))] m4 (fun v7 m8 => 
 ∃ b9 : Bool, (v7 = (V.c (C.bool b9))) ∧ ifB (!b9) (Q (V.c (C.bool false)) m8) (fitsP .i64 (x3 + 1) ∧ 
 R1 [(V.c (C.bool b2)), (V.c (Il (x3 + 1)))] m8))) (isSl a200 ∧ 
 isPt (C.ptr m.nxt 0) ∧ ∃ x10, ((ldC m4 (C.ptr m.nxt 0)) = (some (Il x10))) ∧ 
 fitsP .i64 (x10 + 1) ∧ Q (V.c (C.bool (decide ((((slLen a200) : Nat) : Int) = (x10 + 1))))) m4)) → 
 R1 [(V.c (C.bool b2)), (V.c (Il x3))] m4) → R1 [(V.c (C.bool false)), (V.c (Il 0))] m0)) : Wc prog tbl 95 [(V.agg 4 [(Il a100), a101, a102, a103]), (V.c a200)] m Q :=
 wc_eq (n := 2) rfl (by kernel_rfl) (by kernel_rfl) h
theorem w102 {a100 : C} {a200 : C} {m : M} {Q : V → M → Prop} (h :
 (Wc prog tbl 110 [(V.c a100), (V.c a200)] m (fun v0 m1 => ∃ x2, (v0 = (V.c (Il x2))) ∧ Q (V.c (C.bool (decide ((0 : Int) ≤ x2)))) m1))) : Wc prog tbl 102 [(V.c a100), (V.c a200)] m Q :=
 wc_eq (n := 2) rfl (by kernel_rfl) (by kernel_rfl) h
theorem w107 {a100 : Int} {a101 : Int} {a200 : Int} {a300 : Int} {m : M} {Q : V → M → Prop} (h :
 (∀ m0 : M, (m0 = (M.new m (AO.cells 2 [(Il a100), (Il a101)] false))) → isPt (C.ptr m.nxt 0) ∧ 
 ∃ x1, ((ldC m0 (C.ptr m.nxt 0)) = (some (Il x1))) ∧ ifB (decide (a200 ≤ x1)) (isPt (C.ptr m.nxt 0) ∧ 
 ∃ x2, ((ldC m0 (C.ptr m.nxt 0)) = (some (Il x2))) ∧ isPt (C.ptr m.nxt 0) ∧ 
 ∃ x3, ((ldC m0 (C.ptr m.nxt 1)) = (some (Il x3))) ∧ ifB (decide (x2 ≤ x3)) (isPt (C.ptr m.nxt 0) ∧ 
 ∃ x4, ((ldC m0 (C.ptr m.nxt 1)) = (some (Il x4))) ∧ Q (V.c (C.bool (decide (x4 ≤ a300)))) m0) (Q (V.c (C.bool false)) m0)) (Q (V.c (C.bool false)) m0))) : Wc prog tbl 107 [(V.agg 2 [(Il a100), (Il a101)]), (V.c (Il a200)), (V.c (Il a300))] m Q :=
 wc_eq (n := 3) rfl (by kernel_rfl) (by kernel_rfl) h
theorem w110 {a100 : C} {a200 : C} {m : M} {Q : V → M → Prop} (h :
 (isSl a100 ∧ ∀ R0 : List V → M → Prop, (∀ x1 : Int, ∀ x2 : Int, ∀ m3 : M, (ifB (decide (x2 < (((slLen a100) : Nat) : Int))) (∃ n4 : Nat, 
 (x2 = ((n4 : Nat) : Int)) ∧ (n4 < (slLen a100)) ∧ ∃ x5, ∃ x6, ∃ x7, ∃ x8, 
 ((ldA m3 (slAt a100 (n4 * 4)) 4) = (some [(Il x5), (Il x6), 
 (Il x7), (Il x8)])) ∧ callP prog tbl [(V.agg 4 [(Il x5), 
 (Il x6), (Il x7), (Il x8)])] a200 m3 (fun v9 m10 => 
 ∃ b11 : Bool, (v9 = (V.c (C.bool b11))) ∧ ifB b11 (Q (V.c (Il x2)) m10) (fitsP .i64 (x2 + 1) ∧ 
 R0 [(V.c (Il x1)), (V.c (Il (x2 + 1)))] m10))) (Q (V.c (Il (-1 : Int))) m3)) → 
 R0 [(V.c (Il x1)), (V.c (Il x2))] m3) → R0 [(V.c (Il 0)), 
 (V.c (Il 0))] m)) : Wc prog tbl 110 [(V.c a100), (V.c a200)] m Q :=
 wc_eq (n := 2) rfl (by kernel_rfl) (by kernel_rfl) h
theorem w114 {a100 : C} {a200 : C} {m : M} {Q : V → M → Prop} (h :
 (isSl a100 ∧ ∀ R0 : List V → M → Prop, (∀ x1 : Int, ∀ x2 : Int, ∀ m3 : M, (ifB (decide (x2 < (((slLen a100) : Nat) : Int))) (∃ n4 : Nat, 
 (x2 = ((n4 : Nat) : Int)) ∧ (n4 < (slLen a100)) ∧ ∃ x5, ((ldC m3 (slAt a100 (n4 * 1))) = (some (Il x5))) ∧ 
 callP prog tbl [(V.c (Il x5))] a200 m3 (fun v6 m7 => ∃ b8 : Bool, (v6 = (V.c (C.bool b8))) ∧ 
 ifB b8 (Q (V.c (Il x2)) m7) (fitsP .i64 (x2 + 1) ∧ R0 [(V.c (Il x1)), 
 (V.c (Il (x2 + 1)))] m7))) (Q (V.c (Il (-1 : Int))) m3)) → 
 R0 [(V.c (Il x1)), (V.c (Il x2))] m3) → R0 [(V.c (Il 0)), 
 (V.c (Il 0))] m)) : Wc prog tbl 114 [(V.c a100), (V.c a200)] m Q :=
 wc_eq (n := 2) rfl (by kernel_rfl) (by kernel_rfl) h
end
end Go.Proofs.Ytmlaphekbnanjaa

namespace Go.Proofs.Ytmlaphekbnanjaa
open _root_.Go.Proofs.Try
open Go.Abs
set_option maxRecDepth 100000
noncomputable section
theorem w6 {a100 : Int} {a101 : C} {a102 : C} {a103 : C} {a200 : Int} {a300 : Int} {m : M} {Q : V → M → Prop} (h :
 (∀ m0 : M, (m0 = (M.new m (AO.cells 4 [(Il a100), a101, a102, a103] false))) → ∃ x1, ∃ c2 : C, 
 ∃ c3 : C, ∃ c4 : C, ((ldA m0 (C.ptr m.nxt 0) 4) = (some [(Il x1), c2, c3, c4])) ∧ 
 Wc prog tbl 22 [(V.agg 4 [(Il x1), c2, c3, c4])] m0 (fun v5 m6 => ∃ b7 : Bool, (v5 = (V.c (C.bool b7))) ∧ 
 ifB (!b7) (Wc prog tbl 21 [] m6 (fun v8 m9 => ∃ b10 : Bool, (v8 = (V.c (C.bool b10))) ∧ Q (V.c (C.bool b10)) m9)) (∃ x11, 
 ∃ c12 : C, ∃ c13 : C, ∃ c14 : C, ((ldA m6 (C.ptr m.nxt 0) 4) = (some [(Il x11), 
 c12, c13, c14])) ∧ ∀ m15 : M, (m15 = (M.new m6 (AO.cells 4 [(Il 0), 
 C.sl0, C.sl0, C.sl0] false))) → ∃ m16 : M, ((stC m15 (C.ptr m6.nxt 0) 4 [(Il x11), 
 c12, c13, c14]) = (some m16)) ∧ ∀ m17 : M, (m17 = (mGrow m16 1)) → ∀ m18 : M, 
 (m18 = (M.new m17 (AO.cells 0 [] false))) → isPt (C.ptr m.nxt 0) ∧ ∃ c19 : C, 
 ((ldC m18 (C.ptr m.nxt 2)) = (some c19)) ∧ (ifB (cmC c19) ((ldC m17 (C.ptr m.nxt 2)) = (some c19)) False) ∧ 
 ∃ c20 : C, ∃ m21 : M, (ApR prog 56 m18 (C.sl m17.nxt 0 0 0 (some 0)) c19 c20 m21) ∧ 
 ∀ m22 : M, (m22 = (M.set m21 (m16.nxt + 0) (AO.cells 0 [] false))) → (ifB (cmC c19) ((ldC m22 (C.ptr m.nxt 2)) = (some c19)) False) ∧ 
 isPt (C.ptr m.nxt 0) ∧ ∃ c23 : C, ((ldC m22 (C.ptr m.nxt 3)) = (some c23)) ∧ 
 (ifB (cmC c23) ((ldC m21 (C.ptr m.nxt 3)) = (some c23)) False) ∧ (ifB (cmC c23) ((ldC m18 (C.ptr m.nxt 3)) = (some c23)) False) ∧ 
 (ifB (cmC c23) ((ldC m17 (C.ptr m.nxt 3)) = (some c23)) False) ∧ ∃ c24 : C, 
 ∃ m25 : M, (ApR prog 57 m22 (C.sl (m16.nxt + 0) 0 0 0 (some 0)) c23 c24 m25) ∧ 
 isPt (C.ptr m6.nxt 0) ∧ ∃ m26 : M, ((stC m25 (C.ptr m6.nxt 2) 1 [c20]) = (some m26)) ∧ 
 isPt (C.ptr m6.nxt 0) ∧ ∃ m27 : M, ((stC m26 (C.ptr m6.nxt 3) 1 [c24]) = (some m27)) ∧ 
 ((0 : Int) ≤ (wrapZ .i64 a300)) ∧ ((0 : Int) < (3 : Int)) ∧ fitsP .i64 ((wrapZ .i64 a300) % (3 : Int)) ∧ 
 ((0 : Int) ≤ (wrapZ .i64 a300)) ∧ ((0 : Int) < (4 : Int)) ∧ fitsP .i64 ((wrapZ .i64 a300) / (4 : Int)) ∧ 
 ((0 : Int) ≤ ((wrapZ .i64 a300) / (4 : Int))) ∧ ((0 : Int) < (3 : Int)) ∧ 
 fitsP .i64 (((wrapZ .i64 a300) / (4 : Int)) % (3 : Int)) ∧ isPt (C.ptr m6.nxt 0) ∧ 
 ∃ c28 : C, ((ldC m27 (C.ptr m6.nxt 2)) = (some c28)) ∧ ((0 : Int) ≤ (wrapZ .i64 a200)) ∧ 
 ((0 : Int) < (4 : Int)) ∧ fitsP .i64 ((wrapZ .i64 a200) / (4 : Int)) ∧ 
 isPt (C.ptr m.nxt 0) ∧ ∃ c29 : C, ((ldC m27 (C.ptr m.nxt 2)) = (some c29)) ∧ 
 isSl c29 ∧ ((0 : Int) ≤ ((wrapZ .i64 a200) / (4 : Int))) ∧ ((0 : Int) < (((slLen c29) : Nat) : Int)) ∧ 
 fitsP .i64 (((wrapZ .i64 a200) / (4 : Int)) % (((slLen c29) : Nat) : Int)) ∧ 
 ∃ n30 : Nat, ((((wrapZ .i64 a200) / (4 : Int)) % (((slLen c29) : Nat) : Int)) = ((n30 : Nat) : Int)) ∧ 
 (n30 < (slLen c28)) ∧ ((0 : Int) ≤ a200) ∧ ((0 : Int) < (4 : Int)) ∧ fitsP .u8 (a200 % 4) ∧ 
 ifB (decide ((a200 % 4) = (0 : Int))) (okNil (slAt c28 (n30 * 7)) ∧ 
 isPt (slAt c28 (n30 * 7)) ∧ isPt (ptAdd (slAt c28 (n30 * 7)) 3) ∧ ∃ x31, 
 ((ldC m27 (ptAdd (ptAdd (slAt c28 (n30 * 7)) 3) 0)) = (some (Il x31))) ∧ 
 fitsP .i64 (x31 - ((wrapZ .i64 a300) % (3 : Int))) ∧ okNil (slAt c28 (n30 * 7)) ∧ 
 isPt (slAt c28 (n30 * 7)) ∧ isPt (ptAdd (slAt c28 (n30 * 7)) 3) ∧ ∃ x32, 
 ((ldC m27 (ptAdd (ptAdd (slAt c28 (n30 * 7)) 3) 1)) = (some (Il x32))) ∧ 
 fitsP .i64 (x32 + (((wrapZ .i64 a300) / (4 : Int)) % (3 : Int))) ∧ 
 okNil (slAt c28 (n30 * 7)) ∧ isPt (slAt c28 (n30 * 7)) ∧ ∃ m33 : M, ((stC m27 (ptAdd (slAt c28 (n30 * 7)) 3) 2 [(Il (Max.max (0 : Int) (x31 - ((wrapZ .i64 a300) % (3 : Int))))), 
 (Il (Min.min (100 : Int) (x32 + (((wrapZ .i64 a300) / (4 : Int)) % (3 : Int)))))]) = (some m33)) ∧ 
 ∃ x34, ∃ c35 : C, ∃ c36 : C, ∃ c37 : C, ((ldA m33 (C.ptr m6.nxt 0) 4) = (some [(Il x34), 
 c35, c36, c37])) ∧ Wc prog tbl 22 [(V.agg 4 [(Il x34), c35, c36, 
 c37])] m33 (fun v38 m39 => ∃ b40 : Bool, (v38 = (V.c (C.bool b40))) ∧ ifB (!b40) (Wc prog tbl 21 [] m39 (fun v41 m42 => 
 ∃ b43 : Bool, (v41 = (V.c (C.bool b43))) ∧ Q (V.c (C.bool b43)) m42)) (∃ x44, 
 ∃ c45 : C, ∃ c46 : C, ∃ c47 : C, ((ldA m39 (C.ptr m.nxt 0) 4) = (some [(Il x44), 
 c45, c46, c47])) ∧ Wc prog tbl 23 [(V.agg 4 [(Il x44), c45, c46, 
 c47])] m39 (fun v48 m49 => ∃ x50, ∃ c51 : C, ∃ c52 : C, ∃ c53 : C, 
 (v48 = (V.agg 4 [(Il x50), c51, c52, c53])) ∧ Wc prog tbl 13 [(V.agg 4 [(Il x50), 
 c51, c52, c53])] m49 (fun v54 m55 => ∃ c56 : C, ∃ x57, (v54 = (V.tup [(U.c c56), 
 (U.c (Il x57))])) ∧ ∃ x58, ∃ c59 : C, ∃ c60 : C, ∃ c61 : C, 
 ((ldA m55 (C.ptr m6.nxt 0) 4) = (some [(Il x58), c59, 
 c60, c61])) ∧ Wc prog tbl 23 [(V.agg 4 [(Il x58), c59, c60, c61])] m55 (fun v62 m63 => 
 ∃ x64, ∃ c65 : C, ∃ c66 : C, ∃ c67 : C, (v62 = (V.agg 4 [(Il x64), 
 c65, c66, c67])) ∧ Wc prog tbl 13 [(V.agg 4 [(Il x64), c65, c66, 
 c67])] m63 (fun v68 m69 => ∃ c70 : C, ∃ x71, (v68 = (V.tup [(U.c c70), 
 (U.c (Il x71))])) ∧ ∃ x72, ∃ c73 : C, ∃ c74 : C, ∃ c75 : C, 
 ((ldA m69 (C.ptr m.nxt 0) 4) = (some [(Il x72), c73, 
 c74, c75])) ∧ Wc prog tbl 23 [(V.agg 4 [(Il x72), c73, c74, c75])] m69 (fun v76 m77 => 
 ∃ x78, ∃ c79 : C, ∃ c80 : C, ∃ c81 : C, (v76 = (V.agg 4 [(Il x78), 
 c79, c80, c81])) ∧ Wc prog tbl 17 [(V.agg 4 [(Il x78), c79, c80, 
 c81])] m77 (fun v82 m83 => ∃ c84 : C, ∃ x85, (v82 = (V.tup [(U.c c84), 
 (U.c (Il x85))])) ∧ ∃ x86, ∃ c87 : C, ∃ c88 : C, ∃ c89 : C, 
 ((ldA m83 (C.ptr m6.nxt 0) 4) = (some [(Il x86), c87, 
 c88, c89])) ∧ Wc prog tbl 23 [(V.agg 4 [(Il x86), c87, c88, c89])] m83 (fun v90 m91 => 
 ∃ x92, ∃ c93 : C, ∃ c94 : C, ∃ c95 : C, (v90 = (V.agg 4 [(Il x92), 
 c93, c94, c95])) ∧ Wc prog tbl 17 [(V.agg 4 [(Il x92), c93, c94, 
 c95])] m91 (fun v96 m97 => ∃ c98 : C, ∃ x99, (v96 = (V.tup [(U.c c98), 
 (U.c (Il x99))])) ∧ ifB (!decide (x57 = 0)) (Q (V.c (C.bool false)) m97) (ifB (!decide (x71 = 0)) (Q (V.c (C.bool false)) m97) (isSl c70 ∧ 
 isSl c56 ∧ ifB (decide ((((slLen c56) : Nat) : Int) < (((slLen c70) : Nat) : Int))) (Q (V.c (C.bool false)) m97) (ifB (!decide (x85 = 0)) (ifB (!decide (x85 = 11)) (Q (V.c (C.bool false)) m97) (ifB (!decide (x85 = 0)) (Wc prog tbl 21 [] m97 (fun v100 m101 => 
 ∃ b102 : Bool, (v100 = (V.c (C.bool b102))) ∧ Q (V.c (C.bool b102)) m101)) (ifB (decide (x99 = 0)) (Wc prog tbl 24 [(V.c c84), 
 (V.c c98)] m97 (fun v103 m104 => ∃ b105 : Bool, (v103 = (V.c (C.bool b105))) ∧ 
 ifB b105 (Wc prog tbl 21 [] m104 (fun v106 m107 => ∃ b108 : Bool, (v106 = (V.c (C.bool b108))) ∧ 
 Q (V.c (C.bool b108)) m107)) (Q (V.c (C.bool false)) m104))) (Q (V.c (C.bool false)) m97)))) (ifB (!decide (x85 = 0)) (Wc prog tbl 21 [] m97 (fun v109 m110 => 
 ∃ b111 : Bool, (v109 = (V.c (C.bool b111))) ∧ Q (V.c (C.bool b111)) m110)) (ifB (decide (x99 = 0)) (Wc prog tbl 24 [(V.c c84), 
 (V.c c98)] m97 (fun v112 m113 => ∃ b114 : Bool, (v112 = (V.c (C.bool b114))) ∧ 
 ifB b114 (Wc prog tbl 21 [] m113 (fun v115 m116 => ∃ b117 : Bool, (v115 = (V.c (C.bool b117))) ∧ 
 Q (V.c (C.bool b117)) m116)) (Q (V.c (C.bool false)) m113))) (Q (V.c (C.bool false)) m97))))))))))))))))) (ifB (decide ((a200 % 4) = (1 : Int))) (okNil (slAt c28 (n30 * 7)) ∧ 
 isPt (slAt c28 (n30 * 7)) ∧ isPt (ptAdd (slAt c28 (n30 * 7)) 5) ∧ ∃ x118, 
 ((ldC m27 (ptAdd (ptAdd (slAt c28 (n30 * 7)) 5) 0)) = (some (Il x118))) ∧ 
 fitsP .i64 (x118 - ((wrapZ .i64 a300) % (3 : Int))) ∧ okNil (slAt c28 (n30 * 7)) ∧ 
 isPt (slAt c28 (n30 * 7)) ∧ isPt (ptAdd (slAt c28 (n30 * 7)) 5) ∧ ∃ x119, 
 ((ldC m27 (ptAdd (ptAdd (slAt c28 (n30 * 7)) 5) 1)) = (some (Il x119))) ∧ 
 fitsP .i64 (x119 + (((wrapZ .i64 a300) / (4 : Int)) % (3 : Int))) ∧ 
 okNil (slAt c28 (n30 * 7)) ∧ isPt (slAt c28 (n30 * 7)) ∧ ∃ m120 : M, ((stC m27 (ptAdd (slAt c28 (n30 * 7)) 5) 2 [(Il (Max.max (0 : Int) (x118 - ((wrapZ .i64 a300) % (3 : Int))))), 
 (Il (Min.min (100 : Int) (x119 + (((wrapZ .i64 a300) / (4 : Int)) % (3 : Int)))))]) = (some m120)) ∧ 
 ∃ x121, ∃ c122 : C, ∃ c123 : C, ∃ c124 : C, ((ldA m120 (C.ptr m6.nxt 0) 4) = (some [(Il x121), 
 c122, c123, c124])) ∧ Wc prog tbl 22 [(V.agg 4 [(Il x121), c122, 
 c123, c124])] m120 (fun v125 m126 => ∃ b127 : Bool, (v125 = (V.c (C.bool b127))) ∧ 
 ifB (!b127) (Wc prog tbl 21 [] m126 (fun v128 m129 => ∃ b130 : Bool, (v128 = (V.c (C.bool b130))) ∧ 
 Q (V.c (C.bool b130)) m129)) (∃ x131, ∃ c132 : C, ∃ c133 : C, ∃ c134 : C, 
 ((ldA m126 (C.ptr m.nxt 0) 4) = (some [(Il x131), c132, 
 c133, c134])) ∧ Wc prog tbl 23 [(V.agg 4 [(Il x131), c132, c133, 
 c134])] m126 (fun v135 m136 => ∃ x137, ∃ c138 : C, ∃ c139 : C, ∃ c140 : C, 
 (v135 = (V.agg 4 [(Il x137), c138, c139, c140])) ∧ Wc prog tbl 13 [(V.agg 4 [(Il x137), 
 c138, c139, c140])] m136 (fun v141 m142 => ∃ c143 : C, ∃ x144, (v141 = (V.tup [(U.c c143), 
 (U.c (Il x144))])) ∧ ∃ x145, ∃ c146 : C, ∃ c147 : C, 
 ∃ c148 : C, ((ldA m142 (C.ptr m6.nxt 0) 4) = (some [(Il x145), 
 c146, c147, c148])) ∧ Wc prog tbl 23 [(V.agg 4 [(Il x145), c146, 
 c147, c148])] m142 (fun v149 m150 => ∃ x151, ∃ c152 : C, ∃ c153 : C, 
 ∃ c154 : C, (v149 = (V.agg 4 [(Il x151), c152, c153, c154])) ∧ 
 Wc prog tbl 13 [(V.agg 4 [(Il x151), c152, c153, c154])] m150 (fun v155 m156 => 
 ∃ c157 : C, ∃ x158, (v155 = (V.tup [(U.c c157), (U.c (Il x158))])) ∧ 
 ∃ x159, ∃ c160 : C, ∃ c161 : C, ∃ c162 : C, ((ldA m156 (C.ptr m.nxt 0) 4) = (some [(Il x159), 
 c160, c161, c162])) ∧ Wc prog tbl 23 [(V.agg 4 [(Il x159), c160, 
 c161, c162])] m156 (fun v163 m164 => ∃ x165, ∃ c166 : C, ∃ c167 : C, 
 ∃ c168 : C, (v163 = (V.agg 4 [(Il x165), c166, c167, c168])) ∧ 
 Wc prog tbl 17 [(V.agg 4 [(Il x165), c166, c167, c168])] m164 (fun v169 m170 => 
 ∃ c171 : C, ∃ x172, (v169 = (V.tup [(U.c c171), (U.c (Il x172))])) ∧ 
 ∃ x173, ∃ c174 : C, ∃ c175 : C, ∃ c176 : C, ((ldA m170 (C.ptr m6.nxt 0) 4) = (some [(Il x173), 
 c174, c175, c176])) ∧ Wc prog tbl 23 [(V.agg 4 [(Il x173), c174, 
 c175, c176])] m170 (fun v177 m178 => ∃ x179, ∃ c180 : C, ∃ c181 : C, 
 ∃ c182 : C, (v177 = (V.agg 4 [(Il x179), c180, c181, c182])) ∧ 
 Wc prog tbl 17 [(V.agg 4 [(Il x179), c180, c181, c182])] m178 (fun v183 m184 => 
 ∃ c185 : C, ∃ x186, (v183 = (V.tup [(U.c c185), (U.c (Il x186))])) ∧ 
 ifB (!decide (x144 = 0)) (Q (V.c (C.bool false)) m184) (ifB (!decide (x158 = 0)) (Q (V.c (C.bool false)) m184) (isSl c157 ∧ 
 isSl c143 ∧ ifB (decide ((((slLen c143) : Nat) : Int) < (((slLen c157) : Nat) : Int))) (Q (V.c (C.bool false)) m184) (ifB (!decide (x172 = 0)) (ifB (!decide (x172 = 11)) (Q (V.c (C.bool false)) m184) (ifB (!decide (x172 = 0)) (Wc prog tbl 21 [] m184 (fun v187 m188 => 
 ∃ b189 : Bool, (v187 = (V.c (C.bool b189))) ∧ Q (V.c (C.bool b189)) m188)) (ifB (decide (x186 = 0)) (Wc prog tbl 24 [(V.c c171), 
 (V.c c185)] m184 (fun v190 m191 => ∃ b192 : Bool, (v190 = (V.c (C.bool b192))) ∧ 
 ifB b192 (Wc prog tbl 21 [] m191 (fun v193 m194 => ∃ b195 : Bool, (v193 = (V.c (C.bool b195))) ∧ 
 Q (V.c (C.bool b195)) m194)) (Q (V.c (C.bool false)) m191))) (Q (V.c (C.bool false)) m184)))) (ifB (!decide (x172 = 0)) (Wc prog tbl 21 [] m184 (fun v196 m197 => 
 ∃ b198 : Bool, (v196 = (V.c (C.bool b198))) ∧ Q (V.c (C.bool b198)) m197)) (ifB (decide (x186 = 0)) (Wc prog tbl 24 [(V.c c171), 
 (V.c c185)] m184 (fun v199 m200 => ∃ b201 : Bool, (v199 = (V.c (C.bool b201))) ∧ 
 ifB b201 (Wc prog tbl 21 [] m200 (fun v202 m203 => ∃ b204 : Bool, (v202 = (V.c (C.bool b204))) ∧ 
 Q (V.c (C.bool b204)) m203)) (Q (V.c (C.bool false)) m200))) (Q (V.c (C.bool false)) m184))))))))))))))))) (ifB (decide ((a200 % 4) = (2 : Int))) (okNil (slAt c28 (n30 * 7)) ∧ 
 isPt (slAt c28 (n30 * 7)) ∧ isPt (ptAdd (slAt c28 (n30 * 7)) 1) ∧ ∃ x205, 
 ((ldC m27 (ptAdd (ptAdd (slAt c28 (n30 * 7)) 1) 0)) = (some (Il x205))) ∧ 
 fitsP .i64 (x205 - ((wrapZ .i64 a300) % (3 : Int))) ∧ isPt (C.ptr m.nxt 0) ∧ 
 ∃ x206, ((ldC m27 (C.ptr m.nxt 0)) = (some (Il x206))) ∧ 
 okNil (slAt c28 (n30 * 7)) ∧ isPt (slAt c28 (n30 * 7)) ∧ isPt (ptAdd (slAt c28 (n30 * 7)) 1) ∧ 
 ∃ x207, ((ldC m27 (ptAdd (ptAdd (slAt c28 (n30 * 7)) 1) 1)) = (some (Il x207))) ∧ 
 fitsP .i64 (x207 + (((wrapZ .i64 a300) / (4 : Int)) % (3 : Int))) ∧ 
 okNil (slAt c28 (n30 * 7)) ∧ isPt (slAt c28 (n30 * 7)) ∧ ∃ m208 : M, ((stC m27 (ptAdd (slAt c28 (n30 * 7)) 1) 2 [(Il (Max.max (0 : Int) (x205 - ((wrapZ .i64 a300) % (3 : Int))))), 
 (Il (Min.min x206 (x207 + (((wrapZ .i64 a300) / (4 : Int)) % (3 : Int)))))]) = (some m208)) ∧ 
 ∃ x209, ∃ c210 : C, ∃ c211 : C, ∃ c212 : C, ((ldA m208 (C.ptr m6.nxt 0) 4) = (some [(Il x209), 
 c210, c211, c212])) ∧ Wc prog tbl 22 [(V.agg 4 [(Il x209), c210, 
 c211, c212])] m208 (fun v213 m214 => ∃ b215 : Bool, (v213 = (V.c (C.bool b215))) ∧ 
 ifB (!b215) (Wc prog tbl 21 [] m214 (fun v216 m217 => ∃ b218 : Bool, (v216 = (V.c (C.bool b218))) ∧ 
 Q (V.c (C.bool b218)) m217)) (∃ x219, ∃ c220 : C, ∃ c221 : C, ∃ c222 : C, 
 ((ldA m214 (C.ptr m.nxt 0) 4) = (some [(Il x219), c220, 
 c221, c222])) ∧ Wc prog tbl 23 [(V.agg 4 [(Il x219), c220, c221, 
 c222])] m214 (fun v223 m224 => ∃ x225, ∃ c226 : C, ∃ c227 : C, ∃ c228 : C, 
 (v223 = (V.agg 4 [(Il x225), c226, c227, c228])) ∧ Wc prog tbl 13 [(V.agg 4 [(Il x225), 
 c226, c227, c228])] m224 (fun v229 m230 => ∃ c231 : C, ∃ x232, (v229 = (V.tup [(U.c c231), 
 (U.c (Il x232))])) ∧ ∃ x233, ∃ c234 : C, ∃ c235 : C, 
 ∃ c236 : C, ((ldA m230 (C.ptr m6.nxt 0) 4) = (some [(Il x233), 
 c234, c235, c236])) ∧ Wc prog tbl 23 [(V.agg 4 [(Il x233), c234, 
 c235, c236])] m230 (fun v237 m238 => ∃ x239, ∃ c240 : C, ∃ c241 : C, 
 ∃ c242 : C, (v237 = (V.agg 4 [(Il x239), c240, c241, c242])) ∧ 
 Wc prog tbl 13 [(V.agg 4 [(Il x239), c240, c241, c242])] m238 (fun v243 m244 => 
 ∃ c245 : C, ∃ x246, (v243 = (V.tup [(U.c c245), (U.c (Il x246))])) ∧ 
 ∃ x247, ∃ c248 : C, ∃ c249 : C, ∃ c250 : C, ((ldA m244 (C.ptr m.nxt 0) 4) = (some [(Il x247), 
 c248, c249, c250])) ∧ Wc prog tbl 23 [(V.agg 4 [(Il x247), c248, 
 c249, c250])] m244 (fun v251 m252 => ∃ x253, ∃ c254 : C, ∃ c255 : C, 
 ∃ c256 : C, (v251 = (V.agg 4 [(Il x253), c254, c255, c256])) ∧ 
 Wc prog tbl 17 [(V.agg 4 [(Il x253), c254, c255, c256])] m252 (fun v257 m258 => 
 ∃ c259 : C, ∃ x260, (v257 = (V.tup [(U.c c259), (U.c (Il x260))])) ∧ 
 ∃ x261, ∃ c262 : C, ∃ c263 : C, ∃ c264 : C, ((ldA m258 (C.ptr m6.nxt 0) 4) = (some [(Il x261), 
 c262, c263, c264])) ∧ Wc prog tbl 23 [(V.agg 4 [(Il x261), c262, 
 c263, c264])] m258 (fun v265 m266 => ∃ x267, ∃ c268 : C, ∃ c269 : C, 
 ∃ c270 : C, (v265 = (V.agg 4 [(Il x267), c268, c269, c270])) ∧ 
 Wc prog tbl 17 [(V.agg 4 [(Il x267), c268, c269, c270])] m266 (fun v271 m272 => 
 ∃ c273 : C, ∃ x274, (v271 = (V.tup [(U.c c273), (U.c (Il x274))])) ∧ 
 ifB (!decide (x232 = 0)) (Q (V.c (C.bool false)) m272) (ifB (!decide (x246 = 0)) (Q (V.c (C.bool false)) m272) (isSl c245 ∧ 
 isSl c231 ∧ ifB (decide ((((slLen c231) : Nat) : Int) < (((slLen c245) : Nat) : Int))) (Q (V.c (C.bool false)) m272) (ifB (!decide (x260 = 0)) (ifB (!decide (x260 = 11)) (Q (V.c (C.bool false)) m272) (ifB (!decide (x260 = 0)) (Wc prog tbl 21 [] m272 (fun v275 m276 => 
 ∃ b277 : Bool, (v275 = (V.c (C.bool b277))) ∧ Q (V.c (C.bool b277)) m276)) (ifB (decide (x274 = 0)) (Wc prog tbl 24 [(V.c c259), 
 (V.c c273)] m272 (fun v278 m279 => ∃ b280 : Bool, (v278 = (V.c (C.bool b280))) ∧ 
 ifB b280 (Wc prog tbl 21 [] m279 (fun v281 m282 => ∃ b283 : Bool, (v281 = (V.c (C.bool b283))) ∧ 
 Q (V.c (C.bool b283)) m282)) (Q (V.c (C.bool false)) m279))) (Q (V.c (C.bool false)) m272)))) (ifB (!decide (x260 = 0)) (Wc prog tbl 21 [] m272 (fun v284 m285 => 
 ∃ b286 : Bool, (v284 = (V.c (C.bool b286))) ∧ Q (V.c (C.bool b286)) m285)) (ifB (decide (x274 = 0)) (Wc prog tbl 24 [(V.c c259), 
 (V.c c273)] m272 (fun v287 m288 => ∃ b289 : Bool, (v287 = (V.c (C.bool b289))) ∧ 
 ifB b289 (Wc prog tbl 21 [] m288 (fun v290 m291 => ∃ b292 : Bool, (v290 = (V.c (C.bool b292))) ∧ 
 Q (V.c (C.bool b292)) m291)) (Q (V.c (C.bool false)) m288))) (Q (V.c (C.bool false)) m272))))))))))))))))) (isPt (C.ptr m.nxt 0) ∧ 
 ∃ c293 : C, ((ldC m27 (C.ptr m.nxt 3)) = (some c293)) ∧ isSl c293 ∧ 
 ifB (decide ((0 : Int) < (((slLen c293) : Nat) : Int))) (isPt (C.ptr m6.nxt 0) ∧ 
 ∃ c294 : C, ((ldC m27 (C.ptr m6.nxt 3)) = (some c294)) ∧ ((0 : Int) ≤ (wrapZ .i64 a200)) ∧ 
 ((0 : Int) < (4 : Int)) ∧ fitsP .i64 ((wrapZ .i64 a200) / (4 : Int)) ∧ 
 ((0 : Int) ≤ ((wrapZ .i64 a200) / (4 : Int))) ∧ ((0 : Int) < (((slLen c293) : Nat) : Int)) ∧ 
 fitsP .i64 (((wrapZ .i64 a200) / (4 : Int)) % (((slLen c293) : Nat) : Int)) ∧ 
 ∃ n295 : Nat, ((((wrapZ .i64 a200) / (4 : Int)) % (((slLen c293) : Nat) : Int)) = ((n295 : Nat) : Int)) ∧ 
 (n295 < (slLen c294)) ∧ okNil (slAt c294 (n295 * 4)) ∧ isPt (slAt c294 (n295 * 4)) ∧ 
 isPt (ptAdd (slAt c294 (n295 * 4)) 2) ∧ ∃ x296, ((ldC m27 (ptAdd (ptAdd (slAt c294 (n295 * 4)) 2) 0)) = (some (Il x296))) ∧ 
 fitsP .i64 (x296 - ((wrapZ .i64 a300) % (3 : Int))) ∧ okNil (slAt c294 (n295 * 4)) ∧ 
 isPt (slAt c294 (n295 * 4)) ∧ isPt (ptAdd (slAt c294 (n295 * 4)) 2) ∧ ∃ x297, 
 ((ldC m27 (ptAdd (ptAdd (slAt c294 (n295 * 4)) 2) 1)) = (some (Il x297))) ∧ 
 fitsP .i64 (x297 + (((wrapZ .i64 a300) / (4 : Int)) % (3 : Int))) ∧ 
 okNil (slAt c294 (n295 * 4)) ∧ isPt (slAt c294 (n295 * 4)) ∧ ∃ m298 : M, ((stC m27 (ptAdd (slAt c294 (n295 * 4)) 2) 2 [(Il (Max.max (0 : Int) (x296 - ((wrapZ .i64 a300) % (3 : Int))))), 
 (Il (Min.min (100 : Int) (x297 + (((wrapZ .i64 a300) / (4 : Int)) % (3 : Int)))))]) = (some m298)) ∧ 
 ∃ x299, ∃ c300 : C, ∃ c301 : C, ∃ c302 : C, ((ldA m298 (C.ptr m6.nxt 0) 4) = (some [(Il x299), 
 c300, c301, c302])) ∧ Wc prog tbl 22 [(V.agg 4 [(Il x299), c300, 
 c301, c302])] m298 (fun v303 m304 => ∃ b305 : Bool, (v303 = (V.c (C.bool b305))) ∧ 
 ifB (!b305) (Wc prog tbl 21 [] m304 (fun v306 m307 => ∃ b308 : Bool, (v306 = (V.c (C.bool b308))) ∧ 
 Q (V.c (C.bool b308)) m307)) (∃ x309, ∃ c310 : C, ∃ c311 : C, ∃ c312 : C, 
 ((ldA m304 (C.ptr m.nxt 0) 4) = (some [(Il x309), c310, 
 c311, c312])) ∧ Wc prog tbl 23 [(V.agg 4 [(Il x309), c310, c311, 
 c312])] m304 (fun v313 m314 => ∃ x315, ∃ c316 : C, ∃ c317 : C, ∃ c318 : C, 
 (v313 = (V.agg 4 [(Il x315), c316, c317, c318])) ∧ Wc prog tbl 13 [(V.agg 4 [(Il x315), 
 c316, c317, c318])] m314 (fun v319 m320 => ∃ c321 : C, ∃ x322, (v319 = (V.tup [(U.c c321), 
 (U.c (Il x322))])) ∧ ∃ x323, ∃ c324 : C, ∃ c325 : C, 
 ∃ c326 : C, ((ldA m320 (C.ptr m6.nxt 0) 4) = (some [(Il x323), 
 c324, c325, c326])) ∧ Wc prog tbl 23 [(V.agg 4 [(Il x323), c324, 
 c325, c326])] m320 (fun v327 m328 => ∃ x329, ∃ c330 : C, ∃ c331 : C, 
 ∃ c332 : C, (v327 = (V.agg 4 [(Il x329), c330, c331, c332])) ∧ 
 Wc prog tbl 13 [(V.agg 4 [(Il x329), c330, c331, c332])] m328 (fun v333 m334 => 
 ∃ c335 : C, ∃ x336, (v333 = (V.tup [(U.c c335), (U.c (Il x336))])) ∧ 
 ∃ x337, ∃ c338 : C, ∃ c339 : C, ∃ c340 : C, ((ldA m334 (C.ptr m.nxt 0) 4) = (some [(Il x337), 
 c338, c339, c340])) ∧ Wc prog tbl 23 [(V.agg 4 [(Il x337), c338, 
 c339, c340])] m334 (fun v341 m342 => ∃ x343, ∃ c344 : C, ∃ c345 : C, 
 ∃ c346 : C, (v341 = (V.agg 4 [(Il x343), c344, c345, c346])) ∧ 
 Wc prog tbl 17 [(V.agg 4 [(Il x343), c344, c345, c346])] m342 (fun v347 m348 => 
 ∃ c349 : C, ∃ x350, (v347 = (V.tup [(U.c c349), (U.c (Il x350))])) ∧ 
 ∃ x351, ∃ c352 : C, ∃ c353 : C, ∃ c354 : C, ((ldA m348 (C.ptr m6.nxt 0) 4) = (some [(Il x351), 
 c352, c353, c354])) ∧ Wc prog tbl 23 [(V.agg 4 [(Il x351), c352, 
 c353, c354])] m348 (fun v355 m356 => ∃ x357, ∃ c358 : C, ∃ c359 : C, 
 ∃ c360 : C, (v355 = (V.agg 4 [(Il x357), c358, c359, c360])) ∧ 
 Wc prog tbl 17 [(V.agg 4 [(Il x357), c358, c359, c360])] m356 (fun v361 m362 => 
 ∃ c363 : C, ∃ x364, (v361 = (V.tup [(U.c c363), (U.c (Il x364))])) ∧ 
 ifB (!decide (x322 = 0)) (Q (V.c (C.bool false)) m362) (ifB (!decide (x336 = 0)) (Q (V.c (C.bool false)) m362) (isSl c335 ∧ 
 isSl c321 ∧ ifB (decide ((((slLen c321) : Nat) : Int) < (((slLen c335) : Nat) : Int))) (Q (V.c (C.bool false)) m362) (ifB (!decide (x350 = 0)) (ifB (!decide (x350 = 11)) (Q (V.c (C.bool false)) m362) (ifB (!decide (x350 = 0)) (Wc prog tbl 21 [] m362 (fun v365 m366 => 
 ∃ b367 : Bool, (v365 = (V.c (C.bool b367))) ∧ Q (V.c (C.bool b367)) m366)) (ifB (decide (x364 = 0)) (Wc prog tbl 24 [(V.c c349), 
 (V.c c363)] m362 (fun v368 m369 => ∃ b370 : Bool, (v368 = (V.c (C.bool b370))) ∧ 
 ifB b370 (Wc prog tbl 21 [] m369 (fun v371 m372 => ∃ b373 : Bool, (v371 = (V.c (C.bool b373))) ∧ 
 Q (V.c (C.bool b373)) m372)) (Q (V.c (C.bool false)) m369))) (Q (V.c (C.bool false)) m362)))) (ifB (!decide (x350 = 0)) (Wc prog tbl 21 [] m362 (fun v374 m375 => 
 ∃ b376 : Bool, (v374 = (V.c (C.bool b376))) ∧ Q (V.c (C.bool b376)) m375)) (ifB (decide (x364 = 0)) (Wc prog tbl 24 [(V.c c349), 
 (V.c c363)] m362 (fun v377 m378 => ∃ b379 : Bool, (v377 = (V.c (C.bool b379))) ∧ 
 ifB b379 (Wc prog tbl 21 [] m378 (fun v380 m381 => ∃ b382 : Bool, (v380 = (V.c (C.bool b382))) ∧ 
 Q (V.c (C.bool b382)) m381)) (Q (V.c (C.bool false)) m378))) (Q (V.c (C.bool false)) m362))))))))))))))))) (∃ x383, 
 ∃ c384 : C, ∃ c385 : C, ∃ c386 : C, ((ldA m27 (C.ptr m6.nxt 0) 4) = (some [(Il x383), 
 c384, c385, c386])) ∧ Wc prog tbl 22 [(V.agg 4 [(Il x383), c384, 
 c385, c386])] m27 (fun v387 m388 => ∃ b389 : Bool, (v387 = (V.c (C.bool b389))) ∧ 
 ifB (!b389) (Wc prog tbl 21 [] m388 (fun v390 m391 => ∃ b392 : Bool, (v390 = (V.c (C.bool b392))) ∧ 
 Q (V.c (C.bool b392)) m391)) (∃ x393, ∃ c394 : C, ∃ c395 : C, ∃ c396 : C, 
 ((ldA m388 (C.ptr m.nxt 0) 4) = (some [(Il x393), c394, 
 c395, c396])) ∧ Wc prog tbl 23 [(V.agg 4 [(Il x393), c394, c395, 
 c396])] m388 (fun v397 m398 => ∃ x399, ∃ c400 : C, ∃ c401 : C, ∃ c402 : C, 
 (v397 = (V.agg 4 [(Il x399), c400, c401, c402])) ∧ Wc prog tbl 13 [(V.agg 4 [(Il x399), 
 c400, c401, c402])] m398 (fun v403 m404 => ∃ c405 : C, ∃ x406, (v403 = (V.tup [(U.c c405), 
 (U.c (Il x406))])) ∧ ∃ x407, ∃ c408 : C, ∃ c409 : C, 
 ∃ c410 : C, ((ldA m404 (C.ptr m6.nxt 0) 4) = (some [(Il x407), 
 c408, c409, c410])) ∧ Wc prog tbl 23 [(V.agg 4 [(Il x407), c408, 
 c409, c410])] m404 (fun v411 m412 => ∃ x413, ∃ c414 : C, ∃ c415 : C, 
 ∃ c416 : C, (v411 = (V.agg 4 [(Il x413), c414, c415, c416])) ∧ 
 Wc prog tbl 13 [(V.agg 4 [(Il x413), c414, c415, c416])] m412 (fun v417 m418 => 
 ∃ c419 : C, ∃ x420, (v417 = (V.tup [(U.c c419), (U.c (Il x420))])) ∧ 
 ∃ x421, ∃ c422 : C, ∃ c423 : C, ∃ c424 : C, ((ldA m418 (C.ptr m.nxt 0) 4) = (some [(Il x421), 
 c422, c423, c424])) ∧ Wc prog tbl 23 [(V.agg 4 [(Il x421), c422, 
 c423, c424])] m418 (fun v425 m426 => ∃ x427, ∃ c428 : C, ∃ c429 : C, 
 ∃ c430 : C, (v425 = (V.agg 4 [(Il x427), c428, c429, c430])) ∧ 
 Wc prog tbl 17 [(V.agg 4 [(Il x427), c428, c429, c430])] m426 (fun v431 m432 => 
 ∃ c433 : C, ∃ x434, (v431 = (V.tup [(U.c c433), (U.c (Il x434))])) ∧ 
 ∃ x435, ∃ c436 : C, ∃ c437 : C, ∃ c438 : C, ((ldA m432 (C.ptr m6.nxt 0) 4) = (some [(Il x435), 
 c436, c437, c438])) ∧ Wc prog tbl 23 [(V.agg 4 [(Il x435), c436, 
 c437, c438])] m432 (fun v439 m440 => ∃ x441, ∃ c442 : C, ∃ c443 : C, 
 ∃ c444 : C, (v439 = (V.agg 4 [(Il x441), c442, c443, c444])) ∧ 
 Wc prog tbl 17 [(V.agg 4 [(Il x441), c442, c443, c444])] m440 (fun v445 m446 => 
 ∃ c447 : C, ∃ x448, (v445 = (V.tup [(U.c c447), (U.c (Il x448))])) ∧ 
 ifB (!decide (x406 = 0)) (Q (V.c (C.bool false)) m446) (ifB (!decide (x420 = 0)) (Q (V.c (C.bool false)) m446) (isSl c419 ∧ 
 isSl c405 ∧ ifB (decide ((((slLen c405) : Nat) : Int) < (((slLen c419) : Nat) : Int))) (Q (V.c (C.bool false)) m446) (ifB (!decide (x434 = 0)) (ifB (!decide (x434 = 11)) (Q (V.c (C.bool false)) m446) (ifB (!decide (x434 = 0)) (Wc prog tbl 21 [] m446 (fun v449 m450 => 
 ∃ b451 : Bool, (v449 = (V.c (C.bool b451))) ∧ Q (V.c (C.bool b451)) m450)) (ifB (decide (x448 = 0)) (Wc prog tbl 24 [(V.c c433), 
 (V.c c447)] m446 (fun v452 m453 => ∃ b454 : Bool, (v452 = (V.c (C.bool b454))) ∧ 
 ifB b454 (Wc prog tbl 21 [] m453 (fun v455 m456 => ∃ b457 : Bool, (v455 = (V.c (C.bool b457))) ∧ 
 Q (V.c (C.bool b457)) m456)) (Q (V.c (C.bool false)) m453))) (Q (V.c (C.bool false)) m446)))) (ifB (!decide (x434 = 0)) (Wc prog tbl 21 [] m446 (fun v458 m459 => 
 ∃ b460 : Bool, (v458 = (V.c (C.bool b460))) ∧ Q (V.c (C.bool b460)) m459)) (ifB (decide (x448 = 0)) (Wc prog tbl 24 [(V.c c433), 
 (V.c c447)] m446 (fun v461 m462 => ∃ b463 : Bool, (v461 = (V.c (C.bool b463))) ∧ 
 ifB b463 (Wc prog tbl 21 [] m462 (fun v464 m465 => ∃ b466 : Bool, (v464 = (V.c (C.bool b466))) ∧ 
 Q (V.c (C.bool b466)) m465)) (Q (V.c (C.bool false)) m462))) (Q (V.c (C.bool false)) m446)))))))))))))))))))))))) : Wc prog tbl 6 [(V.agg 4 [(Il a100), a101, a102, a103]), (V.c (C.int .u8 a200)), (V.c (C.int .u8 a300))] m Q :=
 wc_eq (n := 3) rfl (by kernel_rfl) (by kernel_rfl) h
theorem w13 {a100 : Int} {a101 : C} {a102 : C} {a103 : C} {m : M} {Q : V → M → Prop} (h :
 (∀ m0 : M, (m0 = (M.new m (AO.cells 4 [(Il a100), a101, a102, a103] false))) → ∃ x1, ∃ c2 : C, 
 ∃ c3 : C, ∃ c4 : C, ((ldA m0 (C.ptr m.nxt 0) 4) = (some [(Il x1), c2, c3, c4])) ∧ 
 Wc prog tbl 20 [(V.agg 4 [(Il x1), c2, c3, c4])] m0 (fun v5 m6 => ∃ x7, (v5 = (V.c (Il x7))) ∧ 
 ifB (!decide (x7 = 0)) (Q (V.tup [(U.c C.sl0), (U.c (Il x7))]) m6) (isPt (C.ptr m.nxt 0) ∧ 
 ∃ c8 : C, ((ldC m6 (C.ptr m.nxt 3)) = (some c8)) ∧ isSl c8 ∧ ∃ x9, ∃ c10 : C, 
 ∃ c11 : C, ∃ c12 : C, ((ldA m6 (C.ptr m.nxt 0) 4) = (some [(Il x9), 
 c10, c11, c12])) ∧ Wc prog tbl 46 [(V.agg 4 [(Il x9), c10, c11, c12])] m6 (fun v13 m14 => 
 ∃ x15, ∃ c16 : C, ∃ c17 : C, ∃ c18 : C, ∃ c19 : C, (v13 = (V.agg 5 [(Il x15), 
 c16, c17, c18, c19])) ∧ (isSl c8 ∧ (V.c (Il (((slLen c8) : Nat) : Int))) = (V.c (Il (((slLen c8) : Nat) : Int)))) ∧ 
 (ifB (cmC c8) ((ldC m14 (C.ptr m.nxt 3)) = (some c8)) False) ∧ optB (mapO vW [(V.agg 5 [(Il x15), 
 c16, c17, c18, c19])]) False fun l20 => Wc prog tbl 45 [(V.c (Il (((slLen c8) : Nat) : Int))), 
 (V.c (C.fn (Fn.func 47) l20 []))] m14 (fun v21 m22 => ∃ c23 : C, (v21 = (V.c c23)) ∧ 
 Q (V.tup [(U.c c23), (U.c (Il 0))]) m22)))))) : Wc prog tbl 13 [(V.agg 4 [(Il a100), a101, a102, a103])] m Q :=
 wc_eq (n := 1) rfl (by kernel_rfl) (by kernel_rfl) h
theorem w17 {a100 : Int} {a101 : C} {a102 : C} {a103 : C} {m : M} {Q : V → M → Prop} (h :
 (∀ m0 : M, (m0 = (M.new m (AO.cells 4 [(Il a100), a101, a102, a103] false))) → ∃ x1, ∃ c2 : C, 
 ∃ c3 : C, ∃ c4 : C, ((ldA m0 (C.ptr m.nxt 0) 4) = (some [(Il x1), c2, c3, c4])) ∧ 
 Wc prog tbl 50 [(V.agg 4 [(Il x1), c2, c3, c4])] m0 (fun v5 m6 => ∃ x7, ∃ c8 : C, 
 ∃ c9 : C, ∃ c10 : C, ∃ c11 : C, ∃ x12, (v5 = (V.tup [(U.agg 5 [(Il x7), 
 c8, c9, c10, c11]), (U.c (Il x12))])) ∧ ∀ m13 : M, (m13 = (M.new m6 (AO.cells 5 [(Il 0), 
 C.sl0, C.sl0, C.sl0, C.map0] false))) → ∃ m14 : M, ((stC m13 (C.ptr m6.nxt 0) 5 [(Il x7), 
 c8, c9, c10, c11]) = (some m14)) ∧ ifB (!decide (x12 = 0)) (Q (V.tup [(U.c C.sl0), 
 (U.c (Il x12))]) m14) (isPt (C.ptr m6.nxt 0) ∧ isPt (C.ptr m6.nxt 0) ∧ 
 ∃ c15 : C, ((ldC m14 (C.ptr m6.nxt 2)) = (some c15)) ∧ isSl c15 ∧ ∀ R16 : List V → 
 M → Prop, (∀ c17 : C, ∀ x18 : Int, ∀ m19 : M, (ifB (decide (x18 < (((slLen c15) : Nat) : Int))) (∃ x20, 
 ∃ c21 : C, ∃ c22 : C, ∃ c23 : C, ∃ c24 : C, ((ldA m19 (C.ptr m6.nxt 0) 5) = (some [(Il x20), 
 c21, c22, c23, c24])) ∧ Wc prog tbl 51 [(V.agg 5 [(Il x20), c21, 
 c22, c23, c24]), (V.c (Il x18))] m19 (fun v25 m26 => ∃ x27, 
 ∃ x28, ∃ x29, ∃ x30, ∃ x31, ∃ x32, ∃ x33, 
 ∃ x34, (v25 = (V.agg 8 [(Il x27), (Il x28), 
 (Il x29), (Il x30), (Il x31), (Il x32), 
 (Il x33), (Il x34)])) ∧ ∀ m35 : M, (m35 = (M.new m26 (AO.cells 8 [(Il x27), 
 (Il x28), (Il x29), (Il x30), (Il x31), 
 (Il x32), (Il x33), (Il x34)] false))) → 
 ∃ c36 : C, ∃ m37 : M, (ApR prog 47 m35 c17 (C.sl m26.nxt 0 1 0 (some 1)) c36 m37) ∧ 
 fitsP .i64 (x18 + 1) ∧ R16 [(V.c c36), (V.c (Il (x18 + 1)))] m37)) (Q (V.tup [(U.c c17), 
 (U.c (Il 0))]) m19)) → R16 [(V.c c17), (V.c (Il x18))] m19) → 
 R16 [(V.c C.sl0), (V.c (Il 0))] m14)))) : Wc prog tbl 17 [(V.agg 4 [(Il a100), a101, a102, a103])] m Q :=
 wc_eq (n := 1) rfl (by kernel_rfl) (by kernel_rfl) h
theorem w20 {a100 : Int} {a101 : C} {a102 : C} {a103 : C} {m : M} {Q : V → M → Prop} (h :
 (∀ m0 : M, (m0 = (M.new m (AO.cells 4 [(Il a100), a101, a102, a103] false))) → ∃ x1, ∃ c2 : C, 
 ∃ c3 : C, ∃ c4 : C, ((ldA m0 (C.ptr m.nxt 0) 4) = (some [(Il x1), c2, c3, c4])) ∧ 
 Wc prog tbl 55 [(V.agg 4 [(Il x1), c2, c3, c4])] m0 (fun v5 m6 => ∃ b7 : Bool, (v5 = (V.c (C.bool b7))) ∧ 
 ifB b7 (Q (V.c (Il (3 : Int))) m6) (∃ x8, ∃ c9 : C, ∃ c10 : C, ∃ c11 : C, 
 ((ldA m6 (C.ptr m.nxt 0) 4) = (some [(Il x8), c9, c10, c11])) ∧ Wc prog tbl 56 [(V.agg 4 [(Il x8), 
 c9, c10, c11])] m6 (fun v12 m13 => ∃ b14 : Bool, (v12 = (V.c (C.bool b14))) ∧ ifB (!b14) (Q (V.c (Il (1 : Int))) m13) (isPt (C.ptr m.nxt 0) ∧ 
 ∃ c15 : C, ((ldC m13 (C.ptr m.nxt 2)) = (some c15)) ∧ Wc prog tbl 57 [(V.c c15), 
 (V.c (C.fn (Fn.func 58) [] []))] m13 (fun v16 m17 => ∃ b18 : Bool, (v16 = (V.c (C.bool b18))) ∧ 
 ifB (!b18) (Q (V.c (Il (3 : Int))) m17) (Q (V.c (Il 0)) m17)))))))) : Wc prog tbl 20 [(V.agg 4 [(Il a100), a101, a102, a103])] m Q :=
 wc_eq (n := 1) rfl (by kernel_rfl) (by kernel_rfl) h
theorem w24 {a100 : C} {a200 : C} {m : M} {Q : V → M → Prop} (h :
 (isSl a100 ∧ isSl a200 ∧ ifB (!decide ((((slLen a100) : Nat) : Int) = (((slLen a200) : Nat) : Int))) (Q (V.c (C.bool false)) m) (∀ R0 : List V → 
 M → Prop, (∀ b1 : Bool, ∀ x2 : Int, ∀ m3 : M, (isSl a100 ∧ ifB (decide (x2 < (((slLen a100) : Nat) : Int))) (∃ n4 : Nat, 
 (x2 = ((n4 : Nat) : Int)) ∧ (n4 < (slLen a100)) ∧ isPt (slAt a100 (n4 * 8)) ∧ ∃ x5, ∃ x6, 
 ((ldA m3 (ptAdd (slAt a100 (n4 * 8)) 0) 2) = (some [(Il x5), (Il x6)])) ∧ 
 ∃ n7 : Nat, (x2 = ((n7 : Nat) : Int)) ∧ (n7 < (slLen a200)) ∧ isPt (slAt a200 (n7 * 8)) ∧ 
 ∃ x8, ∃ x9, ((ldA m3 (ptAdd (slAt a200 (n7 * 8)) 0) 2) = (some [(Il x8), 
 (Il x9)])) ∧ Wc prog tbl 63 [(V.agg 2 [(Il x5), 
 (Il x6)]), (V.agg 2 [(Il x8), (Il x9)])] m3 (fun v10 m11 => 
 ∃ b12 : Bool, (v10 = (V.c (C.bool b12))) ∧ ifB (!b12) (Q (V.c (C.bool false)) m11) (∃ n13 : Nat, 
 (x2 = ((n13 : Nat) : Int)) ∧ (n13 < (slLen a100)) ∧ isPt (slAt a100 (n13 * 8)) ∧ 
 ∃ x14, ∃ x15, ((ldA m11 (ptAdd (slAt a100 (n13 * 8)) 2) 2) = (some [(Il x14), 
 (Il x15)])) ∧ ∃ n16 : Nat, (x2 = ((n16 : Nat) : Int)) ∧ (n16 < (slLen a200)) ∧ 
 isPt (slAt a200 (n16 * 8)) ∧ ∃ x17, ∃ x18, ((ldA m11 (ptAdd (slAt a200 (n16 * 8)) 2) 2) = (some [(Il x17), 
 (Il x18)])) ∧ Wc prog tbl 63 [(V.agg 2 [(Il x14), 
 (Il x15)]), (V.agg 2 [(Il x17), (Il x18)])] m11 (fun v19 m20 => 
 ∃ b21 : Bool, (v19 = (V.c (C.bool b21))) ∧ ifB (!b21) (Q (V.c (C.bool false)) m20) (∃ n22 : Nat, 
 (x2 = ((n22 : Nat) : Int)) ∧ (n22 < (slLen a100)) ∧ isPt (slAt a100 (n22 * 8)) ∧ 
 ∃ x23, ∃ x24, ((ldA m20 (ptAdd (slAt a100 (n22 * 8)) 4) 2) = (some [(Il x23), 
 (Il x24)])) ∧ ∃ n25 : Nat, (x2 = ((n25 : Nat) : Int)) ∧ (n25 < (slLen a200)) ∧ 
 isPt (slAt a200 (n25 * 8)) ∧ ∃ x26, ∃ x27, ((ldA m20 (ptAdd (slAt a200 (n25 * 8)) 4) 2) = (some [(Il x26), 
 (Il x27)])) ∧ Wc prog tbl 63 [(V.agg 2 [(Il x23), 
 (Il x24)]), (V.agg 2 [(Il x26), (Il x27)])] m20 (fun v28 m29 => 
 ∃ b30 : Bool, (v28 = (V.c (C.bool b30))) ∧ ifB (!b30) (Q (V.c (C.bool false)) m29) (∃ n31 : Nat, 
 (x2 = ((n31 : Nat) : Int)) ∧ (n31 < (slLen a100)) ∧ isPt (slAt a100 (n31 * 8)) ∧ 
 ∃ x32, ∃ x33, ((ldA m29 (ptAdd (slAt a100 (n31 * 8)) 6) 2) = (some [(Il x32), 
 (Il x33)])) ∧ ∃ n34 : Nat, (x2 = ((n34 : Nat) : Int)) ∧ (n34 < (slLen a200)) ∧ 
 isPt (slAt a200 (n34 * 8)) ∧ ∃ x35, ∃ x36, ((ldA m29 (ptAdd (slAt a200 (n34 * 8)) 6) 2) = (some [(Il x35), 
 (Il x36)])) ∧ Wc prog tbl 63 [(V.agg 2 [(Il x32), 
 (Il x33)]), (V.agg 2 [(Il x35), (Il x36)])] m29 (fun v37 m38 => 
 ∃ b39 : Bool, (v37 = (V.c (C.bool b39))) ∧ ifB (!b39) (Q (V.c (C.bool false)) m38) (fitsP .i64 (x2 + 1) ∧ 
 R0 [(V.c (C.bool b1)), (V.c (Il (x2 + 1)))] m38))))))))) (Q (V.c (C.bool true)) m3)) → 
 R0 [(V.c (C.bool b1)), (V.c (Il x2))] m3) → R0 [(V.c (C.bool false)), (V.c (Il 0))] m))) : Wc prog tbl 24 [(V.c a100), (V.c a200)] m Q :=
 wc_eq (n := 2) rfl (by kernel_rfl) (by kernel_rfl) h
theorem w30 {a100 : Int} {a101 : C} {a102 : C} {a103 : C} {a104 : C} {a200 : Int} {a300 : C} {m : M} {Q : V → M → Prop} (h :
 (∀ m0 : M, (m0 = (M.new m (AO.cells 5 [(Il a100), a101, a102, a103, a104] false))) → ∀ m1 : M, 
 (m1 = (M.new m0 (AO.cells 1 [a300] false))) → ∀ m2 : M, (m2 = (M.new m1 (AO.cells 2 [(Il 0), 
 (Il 0)] false))) → ∀ m3 : M, (m3 = (M.new m2 (AO.cells 1 [C.sl0] false))) → 
 ∃ x4, ∃ c5 : C, ∃ c6 : C, ∃ c7 : C, ∃ c8 : C, ((ldA m3 (C.ptr m.nxt 0) 5) = (some [(Il x4), 
 c5, c6, c7, c8])) ∧ Wc prog tbl 40 [(V.agg 5 [(Il x4), c5, c6, c7, c8]), (V.c (Il a200))] m3 (fun v9 m10 => 
 ∃ c11 : C, (v9 = (V.c c11)) ∧ rangeP prog tbl c11 m10 (fun l12 m13 R14 R15 => ∃ x16, 
 ∃ x17, ∃ x18, ∃ x19, ∃ x20, ∃ x21, ∃ x22, ∃ x23, 
 ∃ x24, ∃ x25, ∃ x26, ∃ x27, ∃ x28, ∃ x29, 
 ∃ x30, ∃ x31, (l12 = [(V.agg 16 [(Il x16), (Il x17), 
 (Il x18), (Il x19), (Il x20), (Il x21), 
 (Il x22), (Il x23), (Il x24), (Il x25), 
 (Il x26), (Il x27), (Il x28), (Il x29), 
 (Il x30), (Il x31)])]) ∧ ∀ m32 : M, (m32 = (M.new m13 (AO.cells 16 [(Il 0), 
 (Il 0), (Il 0), (Il 0), 
 (Il 0), (Il 0), (Il 0), 
 (Il 0), (Il 0), (Il 0), 
 (Il 0), (Il 0), (Il 0), 
 (Il 0), (Il 0), (Il 0)] false))) → 
 ∃ m33 : M, ((stC m32 (C.ptr m13.nxt 0) 16 [(Il x16), (Il x17), 
 (Il x18), (Il x19), (Il x20), (Il x21), 
 (Il x22), (Il x23), (Il x24), (Il x25), 
 (Il x26), (Il x27), (Il x28), (Il x29), 
 (Il x30), (Il x31)]) = (some m33)) ∧ R14 m33 (fun m34 => 
 ∃ c35 : C, ((ldC m34 (C.ptr m2.nxt 0)) = (some c35)) ∧ isPt (C.ptr m0.nxt 0) ∧ 
 ∃ c36 : C, ((ldC m34 (C.ptr m0.nxt 0)) = (some c36)) ∧ ∃ x37, 
 ∃ x38, ∃ x39, ∃ x40, ∃ x41, ∃ x42, ∃ x43, 
 ∃ x44, ∃ x45, ∃ x46, ∃ x47, ∃ x48, ∃ x49, 
 ∃ x50, ∃ x51, ∃ x52, ((ldA m34 (C.ptr m13.nxt 0) 16) = (some [(Il x37), 
 (Il x38), (Il x39), (Il x40), (Il x41), 
 (Il x42), (Il x43), (Il x44), (Il x45), 
 (Il x46), (Il x47), (Il x48), (Il x49), 
 (Il x50), (Il x51), (Il x52)])) ∧ 
 callP prog tbl [(V.agg 16 [(Il x37), (Il x38), 
 (Il x39), (Il x40), (Il x41), (Il x42), 
 (Il x43), (Il x44), (Il x45), (Il x46), 
 (Il x47), (Il x48), (Il x49), (Il x50), 
 (Il x51), (Il x52)])] c36 m34 (fun v53 m54 => ∃ x55, 
 (v53 = (V.c (Il x55))) ∧ (ifB (cmC c35) ((ldC m54 (C.ptr m2.nxt 0)) = (some c35)) False) ∧ 
 ∀ m56 : M, (m56 = (M.new m54 (AO.cells 1 [(Il x55)] false))) → 
 (ifB (cmC c35) ((ldC m56 (C.ptr m2.nxt 0)) = (some c35)) False) ∧ ∃ c57 : C, 
 ∃ m58 : M, (ApR prog 39 m56 c35 (C.sl m54.nxt 0 1 0 (some 1)) c57 m58) ∧ 
 ∃ m59 : M, ((stC m58 (C.ptr m2.nxt 0) 1 [c57]) = (some m59)) ∧ R15 Ex.nrm m59))) (After.mk (fun m60 => 
 ∃ c61 : C, ((ldC m60 (C.ptr m2.nxt 0)) = (some c61)) ∧ Wc prog tbl 66 [(V.c c61)] m60 (fun v62 m63 => 
 ∃ x64, (v62 = (V.c (Il x64))) ∧ ∃ c65 : C, ((ldC m63 (C.ptr m2.nxt 0)) = (some c65)) ∧ 
 (ifB (cmC c65) ((ldC m60 (C.ptr m2.nxt 0)) = (some c65)) False) ∧ Wc prog tbl 67 [(V.c c65)] m63 (fun v66 m67 => 
 ∃ x68, (v66 = (V.c (Il x68))) ∧ ∃ m69 : M, ((stC m67 (C.ptr m1.nxt 0) 2 [(Il x64), 
 (Il x68)]) = (some m69)) ∧ ∃ x70, ∃ x71, 
 ((ldA m69 (C.ptr m1.nxt 0) 2) = (some [(Il x70), (Il x71)])) ∧ 
 Q (V.agg 2 [(Il x70), (Il x71)]) m69))) [] (fun m72 => 
 ∃ x73, ∃ x74, ((ldA m72 (C.ptr m1.nxt 0) 2) = (some [(Il x73), 
 (Il x74)])) ∧ Q (V.agg 2 [(Il x73), (Il x74)]) m72))))) : Wc prog tbl 30 [(V.agg 5 [(Il a100), a101, a102, a103, a104]), (V.c (Il a200)), (V.agg 1 [a300])] m Q :=
 wc_eq (n := 3) rfl (by kernel_rfl) (by kernel_rfl) h
theorem w47 {a100 : Int} {a101 : C} {a102 : C} {a103 : C} {a104 : C} {a200 : C} {m : M} {Q : V → M → Prop} (h :
 (∀ m0 : M, (m0 = (M.new m (AO.cells 5 [(Il a100), a101, a102, a103, a104] false))) → isPt (C.ptr m.nxt 0) ∧ 
 isPt (C.ptr m.nxt 0) ∧ ∃ c1 : C, ((ldC m0 (C.ptr m.nxt 3)) = (some c1)) ∧ isSl c1 ∧ ∀ R2 : List V → 
 M → Prop, (∀ c3 : C, ∀ x4 : Int, ∀ m5 : M, (ifB (decide (x4 < (((slLen c1) : Nat) : Int))) (∃ n6 : Nat, 
 (x4 = ((n6 : Nat) : Int)) ∧ (n6 < (slLen c1)) ∧ ∃ x7, ∃ x8, ∃ x9, ∃ x10, 
 ((ldA m5 (slAt c1 (n6 * 4)) 4) = (some [(Il x7), (Il x8), 
 (Il x9), (Il x10)])) ∧ ∀ m11 : M, (m11 = (M.new m5 (AO.cells 4 [(Il 0), 
 (Il 0), (Il 0), (Il 0)] false))) → 
 ∃ m12 : M, ((stC m11 (C.ptr m5.nxt 0) 4 [(Il x7), (Il x8), 
 (Il x9), (Il x10)]) = (some m12)) ∧ Wc prog tbl 79 [(V.c a200), 
 (V.c (Il x4))] m12 (fun v13 m14 => ∃ b15 : Bool, (v13 = (V.c (C.bool b15))) ∧ 
 ifB (!b15) (∃ x16, ∃ x17, ∃ x18, ∃ x19, ((ldA m14 (C.ptr m5.nxt 0) 4) = (some [(Il x16), 
 (Il x17), (Il x18), (Il x19)])) ∧ 
 ∀ m20 : M, (m20 = (M.new m14 (AO.cells 4 [(Il x16), (Il x17), 
 (Il x18), (Il x19)] false))) → ∃ c21 : C, ∃ m22 : M, 
 (ApR prog 29 m20 c3 (C.sl m14.nxt 0 1 0 (some 1)) c21 m22) ∧ fitsP .i64 (x4 + 1) ∧ 
 R2 [(V.c c21), (V.c (Il (x4 + 1)))] m22) (fitsP .i64 (x4 + 1) ∧ 
 R2 [(V.c c3), (V.c (Il (x4 + 1)))] m14))) (∃ x23, 
 ∃ c24 : C, ∃ c25 : C, ∃ c26 : C, ∃ c27 : C, ((ldA m5 (C.ptr m.nxt 0) 5) = (some [(Il x23), 
 c24, c25, c26, c27])) ∧ Wc prog tbl 53 [(V.agg 5 [(Il x23), c24, c25, 
 c26, c27]), (V.c c3)] m5 (fun v28 m29 => ∃ x30, ∃ c31 : C, ∃ c32 : C, ∃ c33 : C, 
 ∃ c34 : C, (v28 = (V.agg 5 [(Il x30), c31, c32, c33, c34])) ∧ Wc prog tbl 54 [(V.agg 5 [(Il x30), 
 c31, c32, c33, c34])] m29 (fun v35 m36 => ∃ b37 : Bool, (v35 = (V.c (C.bool b37))) ∧ 
 Q (V.c (C.bool b37)) m36)))) → R2 [(V.c c3), (V.c (Il x4))] m5) → 
 R2 [(V.c C.sl0), (V.c (Il 0))] m0)) : Wc prog tbl 47 [(V.agg 5 [(Il a100), a101, a102, a103, a104]), (V.c a200)] m Q :=
 wc_eq (n := 2) rfl (by kernel_rfl) (by kernel_rfl) h
theorem w50 {a100 : Int} {a101 : C} {a102 : C} {a103 : C} {m : M} {Q : V → M → Prop} (h :
 (∀ m0 : M, (m0 = (M.new m (AO.cells 4 [(Il a100), a101, a102, a103] false))) → ∀ m1 : M, (m1 = (M.new m0 (AO.cells 5 [(Il 0), 
 C.sl0, C.sl0, C.sl0, C.map0] false))) → ∃ x2, ∃ c3 : C, ∃ c4 : C, ∃ c5 : C, ((ldA m1 (C.ptr m.nxt 0) 4) = (some [(Il x2), 
 c3, c4, c5])) ∧ Wc prog tbl 20 [(V.agg 4 [(Il x2), c3, c4, c5])] m1 (fun v6 m7 => 
 ∃ x8, (v6 = (V.c (Il x8))) ∧ ifB (!decide (x8 = 0)) (∃ m9 : M, ((stC m7 (C.ptr m0.nxt 0) 5 [(Il 0), 
 C.sl0, C.sl0, C.sl0, C.map0]) = (some m9)) ∧ ∃ x10, ∃ c11 : C, ∃ c12 : C, 
 ∃ c13 : C, ∃ c14 : C, ((ldA m9 (C.ptr m0.nxt 0) 5) = (some [(Il x10), 
 c11, c12, c13, c14])) ∧ Q (V.tup [(U.agg 5 [(Il x10), c11, c12, c13, 
 c14]), (U.c (Il x8))]) m9) (∃ x15, ∃ c16 : C, ∃ c17 : C, 
 ∃ c18 : C, ((ldA m7 (C.ptr m.nxt 0) 4) = (some [(Il x15), c16, c17, 
 c18])) ∧ Wc prog tbl 46 [(V.agg 4 [(Il x15), c16, c17, c18])] m7 (fun v19 m20 => 
 ∃ x21, ∃ c22 : C, ∃ c23 : C, ∃ c24 : C, ∃ c25 : C, (v19 = (V.agg 5 [(Il x21), 
 c22, c23, c24, c25])) ∧ ∀ m26 : M, (m26 = (M.new m20 (AO.cells 5 [(Il 0), 
 C.sl0, C.sl0, C.sl0, C.map0] false))) → ∃ m27 : M, ((stC m26 (C.ptr m20.nxt 0) 5 [(Il x21), 
 c22, c23, c24, c25]) = (some m27)) ∧ ∃ x28, ∃ c29 : C, ∃ c30 : C, 
 ∃ c31 : C, ∃ c32 : C, ((ldA m27 (C.ptr m20.nxt 0) 5) = (some [(Il x28), 
 c29, c30, c31, c32])) ∧ Wc prog tbl 54 [(V.agg 5 [(Il x28), c29, 
 c30, c31, c32])] m27 (fun v33 m34 => ∃ b35 : Bool, (v33 = (V.c (C.bool b35))) ∧ 
 ifB (!b35) (∃ m36 : M, ((stC m34 (C.ptr m0.nxt 0) 5 [(Il 0), 
 C.sl0, C.sl0, C.sl0, C.map0]) = (some m36)) ∧ ∃ x37, ∃ c38 : C, 
 ∃ c39 : C, ∃ c40 : C, ∃ c41 : C, ((ldA m36 (C.ptr m0.nxt 0) 5) = (some [(Il x37), 
 c38, c39, c40, c41])) ∧ Q (V.tup [(U.agg 5 [(Il x37), c38, c39, 
 c40, c41]), (U.c (Il (11 : Int)))]) m36) (∃ x42, 
 ∃ c43 : C, ∃ c44 : C, ∃ c45 : C, ∃ c46 : C, ((ldA m34 (C.ptr m20.nxt 0) 5) = (some [(Il x42), 
 c43, c44, c45, c46])) ∧ ∃ m47 : M, ((stC m34 (C.ptr m0.nxt 0) 5 [(Il x42), 
 c43, c44, c45, c46]) = (some m47)) ∧ ∃ x48, ∃ c49 : C, ∃ c50 : C, 
 ∃ c51 : C, ∃ c52 : C, ((ldA m47 (C.ptr m0.nxt 0) 5) = (some [(Il x48), 
 c49, c50, c51, c52])) ∧ Q (V.tup [(U.agg 5 [(Il x48), c49, c50, 
 c51, c52]), (U.c (Il 0))]) m47))))))) : Wc prog tbl 50 [(V.agg 4 [(Il a100), a101, a102, a103])] m Q :=
 wc_eq (n := 1) rfl (by kernel_rfl) (by kernel_rfl) h
theorem w53 {a100 : Int} {a101 : C} {a102 : C} {a103 : C} {a104 : C} {a200 : C} {m : M} {Q : V → M → Prop} (h :
 (∀ m0 : M, (m0 = (M.new m (AO.cells 5 [(Il a100), a101, a102, a103, a104] false))) → ∀ m1 : M, 
 (m1 = (M.new m0 (AO.cells 5 [(Il 0), C.sl0, C.sl0, C.sl0, C.map0] false))) → isPt (C.ptr m.nxt 0) ∧ 
 isPt (C.ptr m.nxt 0) ∧ ∃ m2 : M, ((stC m1 (C.ptr m.nxt 3) 1 [a200]) = (some m2)) ∧ ∃ x3, 
 ∃ c4 : C, ∃ c5 : C, ∃ c6 : C, ∃ c7 : C, ((ldA m2 (C.ptr m.nxt 0) 5) = (some [(Il x3), 
 c4, c5, c6, c7])) ∧ ∃ m8 : M, ((stC m2 (C.ptr m0.nxt 0) 5 [(Il x3), c4, 
 c5, c6, c7]) = (some m8)) ∧ ∃ x9, ∃ c10 : C, ∃ c11 : C, ∃ c12 : C, ∃ c13 : C, 
 ((ldA m8 (C.ptr m0.nxt 0) 5) = (some [(Il x9), c10, c11, c12, 
 c13])) ∧ Q (V.agg 5 [(Il x9), c10, c11, c12, c13]) m8)) : Wc prog tbl 53 [(V.agg 5 [(Il a100), a101, a102, a103, a104]), (V.c a200)] m Q :=
 wc_eq (n := 2) rfl (by kernel_rfl) (by kernel_rfl) h
theorem w56 {a100 : Int} {a101 : C} {a102 : C} {a103 : C} {m : M} {Q : V → M → Prop} (h :
 (∀ m0 : M, (m0 = (M.new m (AO.cells 4 [(Il a100), a101, a102, a103] false))) → isPt (C.ptr m.nxt 0) ∧ 
 ∃ x1, ((ldC m0 (C.ptr m.nxt 0)) = (some (Il x1))) ∧ ifB (decide ((0 : Int) ≤ x1)) (isPt (C.ptr m.nxt 0) ∧ 
 ∃ c2 : C, ((ldC m0 (C.ptr m.nxt 1)) = (some c2)) ∧ isSl c2 ∧ ifB (decide ((0 : Int) < (((slLen c2) : Nat) : Int))) (isPt (C.ptr m.nxt 0) ∧ 
 ∃ c3 : C, ((ldC m0 (C.ptr m.nxt 2)) = (some c3)) ∧ isSl c3 ∧ ifB (decide ((0 : Int) < (((slLen c3) : Nat) : Int))) (isPt (C.ptr m.nxt 0) ∧ 
 ∃ c4 : C, ((ldC m0 (C.ptr m.nxt 1)) = (some c4)) ∧ ∃ x5, ∃ c6 : C, ∃ c7 : C, 
 ∃ c8 : C, ((ldA m0 (C.ptr m.nxt 0) 4) = (some [(Il x5), c6, 
 c7, c8])) ∧ optB (mapO vW [(V.agg 4 [(Il x5), c6, c7, c8])]) False fun l9 => 
 Wc prog tbl 87 [(V.c c4), (V.c (C.fn (Fn.func 88) l9 []))] m0 (fun v10 m11 => ∃ b12 : Bool, 
 (v10 = (V.c (C.bool b12))) ∧ ifB b12 (isPt (C.ptr m.nxt 0) ∧ ∃ c13 : C, ((ldC m11 (C.ptr m.nxt 2)) = (some c13)) ∧ 
 ∃ x14, ∃ c15 : C, ∃ c16 : C, ∃ c17 : C, ((ldA m11 (C.ptr m.nxt 0) 4) = (some [(Il x14), 
 c15, c16, c17])) ∧ optB (mapO vW [(V.agg 4 [(Il x14), c15, c16, 
 c17])]) False fun l18 => Wc prog tbl 57 [(V.c c13), (V.c (C.fn (Fn.func 89) l18 []))] m11 (fun v19 m20 => 
 ∃ b21 : Bool, (v19 = (V.c (C.bool b21))) ∧ ifB b21 (isPt (C.ptr m.nxt 0) ∧ 
 ∃ c22 : C, ((ldC m20 (C.ptr m.nxt 3)) = (some c22)) ∧ ∃ x23, 
 ∃ c24 : C, ∃ c25 : C, ∃ c26 : C, ((ldA m20 (C.ptr m.nxt 0) 4) = (some [(Il x23), 
 c24, c25, c26])) ∧ optB (mapO vW [(V.agg 4 [(Il x23), c24, c25, 
 c26])]) False fun l27 => Wc prog tbl 81 [(V.c c22), (V.c (C.fn (Fn.func 90) l27 []))] m20 (fun v28 m29 => 
 ∃ b30 : Bool, (v28 = (V.c (C.bool b30))) ∧ Q (V.c (C.bool b30)) m29)) (Q (V.c (C.bool false)) m20))) (Q (V.c (C.bool false)) m11))) (Q (V.c (C.bool false)) m0)) (Q (V.c (C.bool false)) m0)) (Q (V.c (C.bool false)) m0))) : Wc prog tbl 56 [(V.agg 4 [(Il a100), a101, a102, a103])] m Q :=
 wc_eq (n := 1) rfl (by kernel_rfl) (by kernel_rfl) h
theorem w59 {a100 : Int} {a101 : C} {a102 : C} {a103 : C} {m : M} {Q : V → M → Prop} (h :
 (∀ m0 : M, (m0 = (M.new m (AO.cells 4 [(Il a100), a101, a102, a103] false))) → isPt (C.ptr m.nxt 0) ∧ 
 ∃ c1 : C, ((ldC m0 (C.ptr m.nxt 1)) = (some c1)) ∧ isSl c1 ∧ ifB (decide ((5 : Int) < (((slLen c1) : Nat) : Int))) (Q (V.c (C.bool false)) m0) (isPt (C.ptr m.nxt 0) ∧ 
 ∃ c2 : C, ((ldC m0 (C.ptr m.nxt 2)) = (some c2)) ∧ isSl c2 ∧ ifB (decide ((5 : Int) < (((slLen c2) : Nat) : Int))) (Q (V.c (C.bool false)) m0) (isPt (C.ptr m.nxt 0) ∧ 
 ∃ c3 : C, ((ldC m0 (C.ptr m.nxt 3)) = (some c3)) ∧ isSl c3 ∧ ifB (decide ((9 : Int) < (((slLen c3) : Nat) : Int))) (Q (V.c (C.bool false)) m0) (∀ R4 : List V → 
 M → Prop, (∀ b5 : Bool, ∀ x6 : Int, ∀ m7 : M, (isPt (C.ptr m.nxt 0) ∧ ∃ c8 : C, ((ldC m7 (C.ptr m.nxt 1)) = (some c8)) ∧ 
 isSl c8 ∧ ifB (decide (x6 < (((slLen c8) : Nat) : Int))) (isPt (C.ptr m.nxt 0) ∧ 
 ∃ c9 : C, ((ldC m7 (C.ptr m.nxt 1)) = (some c9)) ∧ ∃ n10 : Nat, (x6 = ((n10 : Nat) : Int)) ∧ 
 (n10 < (slLen c9)) ∧ ∃ c11 : C, ((ldC m7 (slAt c9 (n10 * 1))) = (some c11)) ∧ 
 isSl c11 ∧ ifB (decide ((20 : Int) < (((slLen c11) : Nat) : Int))) (Q (V.c (C.bool false)) m7) (fitsP .i64 (x6 + 1) ∧ 
 R4 [(V.c (C.bool b5)), (V.c (Il (x6 + 1)))] m7)) (∃ x12, 
 ∃ c13 : C, ∃ c14 : C, ∃ c15 : C, ((ldA m7 (C.ptr m.nxt 0) 4) = (some [(Il x12), 
 c13, c14, c15])) ∧ Wc prog tbl 60 [(V.agg 4 [(Il x12), c13, c14, 
 c15])] m7 (fun v16 m17 => ∃ x18, (v16 = (V.c (Il x18))) ∧ 
 ∀ R19 : List V → M → Prop, (∀ b20 : Bool, ∀ x21 : Int, ∀ m22 : M, (isPt (C.ptr m.nxt 0) ∧ 
 ∃ c23 : C, ((ldC m22 (C.ptr m.nxt 2)) = (some c23)) ∧ isSl c23 ∧ 
 ifB (decide (x21 < (((slLen c23) : Nat) : Int))) (ifB (!(!decide (x18 = 0))) (isPt (C.ptr m.nxt 0) ∧ 
 ∃ c24 : C, ((ldC m22 (C.ptr m.nxt 2)) = (some c24)) ∧ ∃ n25 : Nat, 
 (x21 = ((n25 : Nat) : Int)) ∧ (n25 < (slLen c24)) ∧ ∃ x26, ∃ x27, 
 ∃ x28, ∃ x29, ∃ x30, ∃ x31, ∃ x32, ((ldA m22 (slAt c24 (n25 * 7)) 7) = (some [(Il x26), 
 (Il x27), (Il x28), (Il x29), (Il x30), 
 (Il x31), (Il x32)])) ∧ Wc prog tbl 94 [(V.agg 7 [(Il x26), 
 (Il x27), (Il x28), (Il x29), (Il x30), 
 (Il x31), (Il x32)])] m22 (fun v33 m34 => ∃ x35, 
 (v33 = (V.c (Il x35))) ∧ ifB (decide ((200 : Int) < x35)) (Q (V.c (C.bool false)) m34) (fitsP .i64 (x21 + 1) ∧ 
 R19 [(V.c (C.bool b20)), (V.c (Il (x21 + 1)))] m34))) (fitsP .i64 (x21 + 1) ∧ 
 R19 [(V.c (C.bool b20)), (V.c (Il (x21 + 1)))] m22)) (Q (V.c (C.bool true)) m22)) → 
 R19 [(V.c (C.bool b20)), (V.c (Il x21))] m22) → R19 [(V.c (C.bool b5)), 
 (V.c (Il 0))] m17))) → R4 [(V.c (C.bool b5)), 
 (V.c (Il x6))] m7) → R4 [(V.c (C.bool false)), (V.c (Il 0))] m0))))) : Wc prog tbl 59 [(V.agg 4 [(Il a100), a101, a102, a103])] m Q :=
 wc_eq (n := 1) rfl (by kernel_rfl) (by kernel_rfl) h
theorem w62 {a100 : Int} {a101 : Int} {m : M} {Q : V → M → Prop} (h :
 (∀ m0 : M, (m0 = (M.new m (AO.cells 2 [(Il a100), (Il a101)] false))) → ∀ m1 : M, 
 (m1 = (M.new m0 (AO.cells 2 [(Il 0), (Il 0)] false))) → isPt (C.ptr m.nxt 0) ∧ 
 ∃ x2, ((ldC m1 (C.ptr m.nxt 0)) = (some (Il x2))) ∧ isPt (C.ptr m.nxt 0) ∧ 
 ∃ x3, ((ldC m1 (C.ptr m.nxt 1)) = (some (Il x3))) ∧ ∃ m4 : M, ((stC m1 (C.ptr m0.nxt 0) 2 [(Il x2), 
 (Il x3)]) = (some m4)) ∧ ∃ x5, ∃ x6, ((ldA m4 (C.ptr m0.nxt 0) 2) = (some [(Il x5), 
 (Il x6)])) ∧ Q (V.agg 2 [(Il x5), (Il x6)]) m4)) : Wc prog tbl 62 [(V.agg 2 [(Il a100), (Il a101)])] m Q :=
 wc_eq (n := 1) rfl (by kernel_rfl) (by kernel_rfl) h
theorem w65 {a100 : Int} {a101 : Int} {a200 : Int} {m : M} {Q : V → M → Prop} (h :
 (∀ m0 : M, (m0 = (M.new m (AO.cells 2 [(Il a100), (Il a101)] false))) → isPt (C.ptr m.nxt 0) ∧ 
 ∃ x1, ((ldC m0 (C.ptr m.nxt 0)) = (some (Il x1))) ∧ ifB (decide (x1 ≤ a200)) (isPt (C.ptr m.nxt 0) ∧ 
 ∃ x2, ((ldC m0 (C.ptr m.nxt 1)) = (some (Il x2))) ∧ Q (V.c (C.bool (decide (a200 ≤ x2)))) m0) (Q (V.c (C.bool false)) m0))) : Wc prog tbl 65 [(V.agg 2 [(Il a100), (Il a101)]), (V.c (Il a200))] m Q :=
 wc_eq (n := 2) rfl (by kernel_rfl) (by kernel_rfl) h
theorem w76 {a100 : Int} {a101 : Int} {m : M} {Q : V → M → Prop} (h :
 (∀ m0 : M, (m0 = (M.new m (AO.cells 2 [(Il a100), (Il a101)] false))) → Q (V.c (C.fn (Fn.func 100) [] [(W.c (C0.ptr m.nxt 0))])) m0)) : Wc prog tbl 76 [(V.agg 2 [(Il a100), (Il a101)])] m Q :=
 wc_eq (n := 1) rfl (by kernel_rfl) (by kernel_rfl) h
theorem w79 {a100 : C} {a200 : Int} {m : M} {Q : V → M → Prop} (h :
 (Wc prog tbl 101 [(V.c a100), (V.c (Il a200))] m (fun v0 m1 => ∃ x2, (v0 = (V.c (Il x2))) ∧ 
 Q (V.c (C.bool (decide ((0 : Int) ≤ x2)))) m1))) : Wc prog tbl 79 [(V.c a100), (V.c (Il a200))] m Q :=
 wc_eq (n := 2) rfl (by kernel_rfl) (by kernel_rfl) h
theorem w83 {a100 : Int} {a101 : Int} {a102 : Int} {a103 : Int} {a104 : Int} {a105 : Int} {a106 : Int} {a107 : Int} {a108 : Int} {a109 : Int} {a110 : Int} {a111 : Int} {a112 : Int} {a113 : Int} {a114 : Int} {a115 : Int} {m : M} {Q : V → M → Prop} (h :
 (∀ m0 : M, (m0 = (M.new m (AO.cells 16 [(Il a100), (Il a101), (Il a102), 
 (Il a103), (Il a104), (Il a105), (Il a106), 
 (Il a107), (Il a108), (Il a109), (Il a110), 
 (Il a111), (Il a112), (Il a113), (Il a114), 
 (Il a115)] false))) → isPt (C.ptr m.nxt 0) ∧ isPt (C.ptr m.nxt 0) ∧ ∃ x1, 
 ((ldC m0 (C.ptr m.nxt 0)) = (some (Il x1))) ∧ Q (V.c (Il x1)) m0)) : Wc prog tbl 83 [(V.agg 16 [(Il a100), (Il a101), (Il a102), (Il a103), (Il a104), (Il a105), (Il a106), (Il a107), (Il a108), (Il a109), (Il a110), (Il a111), (Il a112), (Il a113), (Il a114), (Il a115)])] m Q :=
 wc_eq (n := 1) rfl (by kernel_rfl) (by kernel_rfl) h
theorem w86 {a100 : Int} {a101 : C} {a102 : C} {a103 : C} {a104 : C} {a200 : Int} {m : M} {Q : V → M → Prop} (h :
 (∀ m0 : M, (m0 = (M.new m (AO.cells 5 [(Il a100), a101, a102, a103, a104] false))) → ∀ m1 : M, 
 (m1 = (M.new m0 (AO.cells 1 [(C.bool false)] false))) → ∃ x2, ∃ c3 : C, ∃ c4 : C, ∃ c5 : C, ∃ c6 : C, 
 ((ldA m1 (C.ptr m.nxt 0) 5) = (some [(Il x2), c3, c4, c5, c6])) ∧ Wc prog tbl 40 [(V.agg 5 [(Il x2), 
 c3, c4, c5, c6]), (V.c (Il a200))] m1 (fun v7 m8 => ∃ c9 : C, (v7 = (V.c c9)) ∧ 
 rangeP prog tbl c9 m8 (fun l10 m11 R12 R13 => ∃ x14, ∃ x15, ∃ x16, ∃ x17, 
 ∃ x18, ∃ x19, ∃ x20, ∃ x21, ∃ x22, ∃ x23, ∃ x24, 
 ∃ x25, ∃ x26, ∃ x27, ∃ x28, ∃ x29, (l10 = [(V.agg 16 [(Il x14), 
 (Il x15), (Il x16), (Il x17), (Il x18), 
 (Il x19), (Il x20), (Il x21), (Il x22), 
 (Il x23), (Il x24), (Il x25), (Il x26), 
 (Il x27), (Il x28), (Il x29)])]) ∧ 
 R12 m11 (fun m30 => ∃ m31 : M, ((stC m30 (C.ptr m0.nxt 0) 1 [(C.bool true)]) = (some m31)) ∧ 
 R13 Ex.ret m31)) (After.mk (fun m32 => ∃ m33 : M, ((stC m32 (C.ptr m0.nxt 0) 1 [(C.bool false)]) = (some m33)) ∧ 
 ∃ b34 : Bool, ((ldC m33 (C.ptr m0.nxt 0)) = (some (C.bool b34))) ∧ Q (V.c (C.bool b34)) m33) [] (fun m35 => 
 ∃ b36 : Bool, ((ldC m35 (C.ptr m0.nxt 0)) = (some (C.bool b36))) ∧ Q (V.c (C.bool b36)) m35))))) : Wc prog tbl 86 [(V.agg 5 [(Il a100), a101, a102, a103, a104]), (V.c (Il a200))] m Q :=
 wc_eq (n := 2) rfl (by kernel_rfl) (by kernel_rfl) h
theorem w89 {a100 : Int} {a101 : C} {a102 : C} {a103 : C} {a200 : Int} {a201 : Int} {a202 : Int} {a203 : Int} {a204 : Int} {a205 : Int} {a206 : Int} {m : M} {Q : V → M → Prop} (h :
 (∀ m0 : M, (m0 = (M.new m (AO.cells 4 [(Il a100), a101, a102, a103] false))) → ∀ m1 : M, (m1 = (M.new m0 (AO.cells 7 [(Il a200), 
 (Il a201), (Il a202), (Il a203), (Il a204), 
 (Il a205), (Il a206)] false))) → isPt (C.ptr m.nxt 0) ∧ ∃ c2 : C, 
 ((ldC m1 (C.ptr m.nxt 1)) = (some c2)) ∧ isSl c2 ∧ fitsP .i64 ((((slLen c2) : Nat) : Int) - (1 : Int)) ∧ 
 isPt (C.ptr m0.nxt 0) ∧ ∃ x3, ((ldC m1 (C.ptr m0.nxt 0)) = (some (Il x3))) ∧ 
 Wc prog tbl 65 [(V.agg 2 [(Il 0), (Il ((((slLen c2) : Nat) : Int) - (1 : Int)))]), 
 (V.c (Il x3))] m1 (fun v4 m5 => ∃ b6 : Bool, (v4 = (V.c (C.bool b6))) ∧ ifB b6 (isPt (C.ptr m0.nxt 0) ∧ 
 ∃ x7, ∃ x8, ((ldA m5 (C.ptr m0.nxt 1) 2) = (some [(Il x7), 
 (Il x8)])) ∧ isPt (C.ptr m.nxt 0) ∧ ∃ x9, ((ldC m5 (C.ptr m.nxt 0)) = (some (Il x9))) ∧ 
 Wc prog tbl 107 [(V.agg 2 [(Il x7), (Il x8)]), (V.c (Il 0)), 
 (V.c (Il x9))] m5 (fun v10 m11 => ∃ b12 : Bool, (v10 = (V.c (C.bool b12))) ∧ 
 ifB b12 (isPt (C.ptr m0.nxt 0) ∧ ∃ x13, ∃ x14, ((ldA m11 (C.ptr m0.nxt 3) 2) = (some [(Il x13), 
 (Il x14)])) ∧ Wc prog tbl 107 [(V.agg 2 [(Il x13), 
 (Il x14)]), (V.c (Il 0)), (V.c (Il (100 : Int)))] m11 (fun v15 m16 => 
 ∃ b17 : Bool, (v15 = (V.c (C.bool b17))) ∧ ifB b17 (isPt (C.ptr m0.nxt 0) ∧ 
 ∃ x18, ∃ x19, ((ldA m16 (C.ptr m0.nxt 5) 2) = (some [(Il x18), 
 (Il x19)])) ∧ Wc prog tbl 107 [(V.agg 2 [(Il x18), 
 (Il x19)]), (V.c (Il 0)), (V.c (Il (100 : Int)))] m16 (fun v20 m21 => 
 ∃ b22 : Bool, (v20 = (V.c (C.bool b22))) ∧ Q (V.c (C.bool b22)) m21)) (Q (V.c (C.bool false)) m16))) (Q (V.c (C.bool false)) m11))) (Q (V.c (C.bool false)) m5)))) : Wc prog tbl 89 [(V.agg 4 [(Il a100), a101, a102, a103]), (V.agg 7 [(Il a200), (Il a201), (Il a202), (Il a203), (Il a204), (Il a205), (Il a206)])] m Q :=
 wc_eq (n := 2) rfl (by kernel_rfl) (by kernel_rfl) h
theorem w93 {a100 : Int} {a101 : Int} {m : M} {Q : V → M → Prop} (h :
 (∀ m0 : M, (m0 = (M.new m (AO.cells 2 [(Il a100), (Il a101)] false))) → isPt (C.ptr m.nxt 0) ∧ 
 ∃ x1, ((ldC m0 (C.ptr m.nxt 1)) = (some (Il x1))) ∧ isPt (C.ptr m.nxt 0) ∧ 
 ∃ x2, ((ldC m0 (C.ptr m.nxt 0)) = (some (Il x2))) ∧ fitsP .i64 (x1 - x2) ∧ 
 fitsP .i64 ((x1 - x2) + (1 : Int)) ∧ Q (V.c (Il ((x1 - x2) + (1 : Int)))) m0)) : Wc prog tbl 93 [(V.agg 2 [(Il a100), (Il a101)])] m Q :=
 wc_eq (n := 1) rfl (by kernel_rfl) (by kernel_rfl) h
theorem w96 {a100 : Int} {a101 : Int} {a200 : Int} {a300 : Int} {m : M} {Q : V → M → Prop} (h :
 (∀ m0 : M, (m0 = (M.new m (AO.cells 2 [(Il a100), (Il a101)] false))) → isPt (C.ptr m.nxt 0) ∧ 
 ∃ x1, ((ldC m0 (C.ptr m.nxt 0)) = (some (Il x1))) ∧ ifB (decide (a200 ≤ x1)) (isPt (C.ptr m.nxt 0) ∧ 
 ∃ x2, ((ldC m0 (C.ptr m.nxt 0)) = (some (Il x2))) ∧ isPt (C.ptr m.nxt 0) ∧ 
 ∃ x3, ((ldC m0 (C.ptr m.nxt 1)) = (some (Il x3))) ∧ ifB (decide (x2 ≤ x3)) (isPt (C.ptr m.nxt 0) ∧ 
 ∃ x4, ((ldC m0 (C.ptr m.nxt 1)) = (some (Il x4))) ∧ Q (V.c (C.bool (decide (x4 ≤ a300)))) m0) (Q (V.c (C.bool false)) m0)) (Q (V.c (C.bool false)) m0))) : Wc prog tbl 96 [(V.agg 2 [(Il a100), (Il a101)]), (V.c (Il a200)), (V.c (Il a300))] m Q :=
 wc_eq (n := 3) rfl (by kernel_rfl) (by kernel_rfl) h
theorem w104 {a100 : C} {a200 : C} {m : M} {Q : V → M → Prop} (h :
 (Wc prog tbl 111 [(V.c a100), (V.c a200)] m (fun v0 m1 => ∃ x2, (v0 = (V.c (Il x2))) ∧ Q (V.c (C.bool (decide ((0 : Int) ≤ x2)))) m1))) : Wc prog tbl 104 [(V.c a100), (V.c a200)] m Q :=
 wc_eq (n := 2) rfl (by kernel_rfl) (by kernel_rfl) h
theorem w108 {a100 : C} {a200 : C} {m : M} {Q : V → M → Prop} (h :
 (isSl a100 ∧ ∀ R0 : List V → M → Prop, (∀ x1 : Int, ∀ x2 : Int, ∀ m3 : M, (ifB (decide (x2 < (((slLen a100) : Nat) : Int))) (∃ n4 : Nat, 
 (x2 = ((n4 : Nat) : Int)) ∧ (n4 < (slLen a100)) ∧ ∃ x5, ∃ x6, ∃ x7, ∃ x8, 
 ∃ x9, ∃ x10, ∃ x11, ((ldA m3 (slAt a100 (n4 * 7)) 7) = (some [(Il x5), 
 (Il x6), (Il x7), (Il x8), (Il x9), 
 (Il x10), (Il x11)])) ∧ callP prog tbl [(V.agg 7 [(Il x5), 
 (Il x6), (Il x7), (Il x8), (Il x9), 
 (Il x10), (Il x11)])] a200 m3 (fun v12 m13 => ∃ b14 : Bool, 
 (v12 = (V.c (C.bool b14))) ∧ ifB b14 (Q (V.c (Il x2)) m13) (fitsP .i64 (x2 + 1) ∧ 
 R0 [(V.c (Il x1)), (V.c (Il (x2 + 1)))] m13))) (Q (V.c (Il (-1 : Int))) m3)) → 
 R0 [(V.c (Il x1)), (V.c (Il x2))] m3) → R0 [(V.c (Il 0)), 
 (V.c (Il 0))] m)) : Wc prog tbl 108 [(V.c a100), (V.c a200)] m Q :=
 wc_eq (n := 2) rfl (by kernel_rfl) (by kernel_rfl) h
theorem w111 {a100 : C} {a200 : C} {m : M} {Q : V → M → Prop} (h :
 (isSl a100 ∧ ∀ R0 : List V → M → Prop, (∀ x1 : Int, ∀ x2 : Int, ∀ m3 : M, (ifB (decide (x2 < (((slLen a100) : Nat) : Int))) (∃ n4 : Nat, 
 (x2 = ((n4 : Nat) : Int)) ∧ (n4 < (slLen a100)) ∧ ∃ c5 : C, ((ldC m3 (slAt a100 (n4 * 1))) = (some c5)) ∧ 
 callP prog tbl [(V.c c5)] a200 m3 (fun v6 m7 => ∃ b8 : Bool, (v6 = (V.c (C.bool b8))) ∧ ifB b8 (Q (V.c (Il x2)) m7) (fitsP .i64 (x2 + 1) ∧ 
 R0 [(V.c (Il x1)), (V.c (Il (x2 + 1)))] m7))) (Q (V.c (Il (-1 : Int))) m3)) → 
 R0 [(V.c (Il x1)), (V.c (Il x2))] m3) → R0 [(V.c (Il 0)), 
 (V.c (Il 0))] m)) : Wc prog tbl 111 [(V.c a100), (V.c a200)] m Q :=
 wc_eq (n := 2) rfl (by kernel_rfl) (by kernel_rfl) h
end
end Go.Proofs.Ytmlaphekbnanjaa

namespace Go.Proofs.Ytmlaphekbnanjaa
open _root_.Go.Proofs.Try
open Go.Abs
set_option maxRecDepth 100000
noncomputable section
theorem w22 {a100 : Int} {a101 : C} {a102 : C} {a103 : C} {m : M} {Q : V → M → Prop} (h :
 (∀ m0 : M, (m0 = (M.new m (AO.cells 4 [(Il a100), a101, a102, a103] false))) → ∃ x1, ∃ c2 : C, 
 ∃ c3 : C, ∃ c4 : C, ((ldA m0 (C.ptr m.nxt 0) 4) = (some [(Il x1), c2, c3, c4])) ∧ 
 Wc prog tbl 59 [(V.agg 4 [(Il x1), c2, c3, c4])] m0 (fun v5 m6 => ∃ b7 : Bool, (v5 = (V.c (C.bool b7))) ∧ 
 ifB b7 (∃ x8, ∃ c9 : C, ∃ c10 : C, ∃ c11 : C, ((ldA m6 (C.ptr m.nxt 0) 4) = (some [(Il x8), 
 c9, c10, c11])) ∧ Wc prog tbl 60 [(V.agg 4 [(Il x8), c9, c10, c11])] m6 (fun v12 m13 => 
 ∃ x14, (v12 = (V.c (Il x14))) ∧ Q (V.c (C.bool (decide (x14 = 0)))) m13)) (Q (V.c (C.bool false)) m6)))) : Wc prog tbl 22 [(V.agg 4 [(Il a100), a101, a102, a103])] m Q :=
 wc_eq (n := 1) rfl (by kernel_rfl) (by kernel_rfl) h
theorem w25 {a100 : Int} {a200 : Int} {a300 : Int} {m : M} {Q : V → M → Prop} (h :
 (ifB (decide (a200 ≤ a100)) (Q (V.c (C.bool (decide (a100 ≤ a300)))) m) (Q (V.c (C.bool false)) m))) : Wc prog tbl 25 [(V.c (Il a100)), (V.c (Il a200)), (V.c (Il a300))] m Q :=
 wc_eq (n := 3) rfl (by kernel_rfl) (by kernel_rfl) h
theorem w45 {a100 : Int} {a200 : C} {m : M} {Q : V → M → Prop} (h :
 (∀ m0 : M, (m0 = (M.new m (AO.cells 1 [a200] false))) → ∀ m1 : M, (m1 = (M.new m0 (AO.cells 1 [C.sl0] false))) → 
 fitsP .i64 (a100 + 1) ∧ ∀ R2 : List V → M → Prop, (∀ x3 : Int, ∀ m4 : M, (ifB (decide (x3 < (a100 + 1))) (Wc prog tbl 74 [(V.c (Il a100)), 
 (V.c (Il x3))] m4 (fun v5 m6 => ∃ c7 : C, (v5 = (V.c c7)) ∧ rangeP prog tbl c7 m6 (fun l10 m11 R12 R13 => 
 ∃ c14 : C, (l10 = [(V.c c14)]) ∧ R12 m11 (fun m15 => ∃ c16 : C, ((ldC m15 (C.ptr m.nxt 0)) = (some c16)) ∧ 
 callP prog tbl [(V.c c14)] c16 m15 (fun v17 m18 => ∃ b19 : Bool, (v17 = (V.c (C.bool b19))) ∧ 
 ifB b19 (Wc prog tbl 75 [(V.c c14)] m18 (fun v20 m21 => ∃ c22 : C, (v20 = (V.c c22)) ∧ 
 ∃ m23 : M, ((stC m21 (C.ptr m0.nxt 0) 1 [c22]) = (some m23)) ∧ R13 (Ex.exit 0) m23)) (R13 Ex.nrm m18)))) (After.mk (fun m24 => 
 fitsP .i64 (x3 + 1) ∧ R2 [(V.c (Il (x3 + 1)))] m24) [(0, 
 (fun m8 => ∃ c9 : C, (((ldC m8 (C.ptr m0.nxt 0)) = (some c9)) ∧ Q (V.c c9) m8)))] (fun m25 => 
 Q (V.c C.sl0) m25)))) (∃ c26 : C, ((ldC m4 (C.ptr m0.nxt 0)) = (some c26)) ∧ 
 Q (V.c c26) m4)) → R2 [(V.c (Il x3))] m4) → R2 [(V.c (Il 0))] m1)) : Wc prog tbl 45 [(V.c (Il a100)), (V.c a200)] m Q :=
 wc_eq (n := 2) rfl (by kernel_rfl) (by kernel_rfl) h
theorem w51 {a100 : Int} {a101 : C} {a102 : C} {a103 : C} {a104 : C} {a200 : Int} {m : M} {Q : V → M → Prop} (h :
 (∀ m0 : M, (m0 = (M.new m (AO.cells 5 [(Il a100), a101, a102, a103, a104] false))) → ∀ m1 : M, 
 (m1 = (M.new m0 (AO.cells 8 [(Il 0), (Il 0), (Il 0), 
 (Il 0), (Il 0), (Il 0), (Il 0), 
 (Il 0)] false))) → ∃ x2, ∃ c3 : C, ∃ c4 : C, ∃ c5 : C, ∃ c6 : C, 
 ((ldA m1 (C.ptr m.nxt 0) 5) = (some [(Il x2), c3, c4, c5, c6])) ∧ Wc prog tbl 30 [(V.agg 5 [(Il x2), 
 c3, c4, c5, c6]), (V.c (Il a200)), (V.agg 1 [(C.fn (Fn.func 83) [] [])])] m1 (fun v7 m8 => 
 ∃ x9, ∃ x10, (v7 = (V.agg 2 [(Il x9), (Il x10)])) ∧ 
 ∃ x11, ∃ c12 : C, ∃ c13 : C, ∃ c14 : C, ∃ c15 : C, ((ldA m8 (C.ptr m.nxt 0) 5) = (some [(Il x11), 
 c12, c13, c14, c15])) ∧ (ifB (allS cmC [(Il x11), c12, c13, c14, c15]) ((ldA m1 (C.ptr m.nxt 0) 5) = (some [(Il x11), 
 c12, c13, c14, c15])) False) ∧ Wc prog tbl 30 [(V.agg 5 [(Il x11), 
 c12, c13, c14, c15]), (V.c (Il a200)), (V.agg 1 [(C.fn (Fn.func 84) [] [])])] m8 (fun v16 m17 => 
 ∃ x18, ∃ x19, (v16 = (V.agg 2 [(Il x18), (Il x19)])) ∧ 
 ∃ x20, ∃ c21 : C, ∃ c22 : C, ∃ c23 : C, ∃ c24 : C, ((ldA m17 (C.ptr m.nxt 0) 5) = (some [(Il x20), 
 c21, c22, c23, c24])) ∧ (ifB (allS cmC [(Il x20), c21, c22, c23, 
 c24]) ((ldA m8 (C.ptr m.nxt 0) 5) = (some [(Il x20), 
 c21, c22, c23, c24])) False) ∧ (ifB (allS cmC [(Il x20), c21, 
 c22, c23, c24]) ((ldA m1 (C.ptr m.nxt 0) 5) = (some [(Il x20), 
 c21, c22, c23, c24])) False) ∧ Wc prog tbl 30 [(V.agg 5 [(Il x20), 
 c21, c22, c23, c24]), (V.c (Il a200)), (V.agg 1 [(C.fn (Fn.func 85) [] [])])] m17 (fun v25 m26 => 
 ∃ x27, ∃ x28, (v25 = (V.agg 2 [(Il x27), (Il x28)])) ∧ 
 ∃ x29, ∃ c30 : C, ∃ c31 : C, ∃ c32 : C, ∃ c33 : C, ((ldA m26 (C.ptr m.nxt 0) 5) = (some [(Il x29), 
 c30, c31, c32, c33])) ∧ (ifB (allS cmC [(Il x29), c30, c31, c32, 
 c33]) ((ldA m17 (C.ptr m.nxt 0) 5) = (some [(Il x29), 
 c30, c31, c32, c33])) False) ∧ (ifB (allS cmC [(Il x29), c30, 
 c31, c32, c33]) ((ldA m8 (C.ptr m.nxt 0) 5) = (some [(Il x29), 
 c30, c31, c32, c33])) False) ∧ (ifB (allS cmC [(Il x29), c30, 
 c31, c32, c33]) ((ldA m1 (C.ptr m.nxt 0) 5) = (some [(Il x29), 
 c30, c31, c32, c33])) False) ∧ Wc prog tbl 30 [(V.agg 5 [(Il x29), 
 c30, c31, c32, c33]), (V.c (Il a200)), (V.agg 1 [(C.fn (Fn.methodOf 89 "hailstone/growth.harvest") [] [])])] m26 (fun v34 m35 => 
 ∃ x36, ∃ x37, (v34 = (V.agg 2 [(Il x36), (Il x37)])) ∧ 
 ∃ m38 : M, ((stC m35 (C.ptr m0.nxt 0) 8 [(Il x9), (Il x10), 
 (Il x18), (Il x19), (Il x27), (Il x28), 
 (Il x36), (Il x37)]) = (some m38)) ∧ ∃ x39, 
 ∃ x40, ∃ x41, ∃ x42, ∃ x43, ∃ x44, ∃ x45, 
 ∃ x46, ((ldA m38 (C.ptr m0.nxt 0) 8) = (some [(Il x39), 
 (Il x40), (Il x41), (Il x42), (Il x43), 
 (Il x44), (Il x45), (Il x46)])) ∧ 
 Q (V.agg 8 [(Il x39), (Il x40), (Il x41), 
 (Il x42), (Il x43), (Il x44), (Il x45), 
 (Il x46)]) m38)))))) : Wc prog tbl 51 [(V.agg 5 [(Il a100), a101, a102, a103, a104]), (V.c (Il a200))] m Q :=
 wc_eq (n := 2) rfl (by kernel_rfl) (by kernel_rfl) h
theorem w54 {a100 : Int} {a101 : C} {a102 : C} {a103 : C} {a104 : C} {m : M} {Q : V → M → Prop} (h :
 (∀ m0 : M, (m0 = (M.new m (AO.cells 5 [(Il a100), a101, a102, a103, a104] false))) → isPt (C.ptr m.nxt 0) ∧ 
 isPt (C.ptr m.nxt 0) ∧ ∃ c1 : C, ((ldC m0 (C.ptr m.nxt 2)) = (some c1)) ∧ isSl c1 ∧ ∀ R2 : List V → 
 M → Prop, (∀ b3 : Bool, ∀ x4 : Int, ∀ m5 : M, (ifB (decide (x4 < (((slLen c1) : Nat) : Int))) (∃ x6, 
 ∃ c7 : C, ∃ c8 : C, ∃ c9 : C, ∃ c10 : C, ((ldA m5 (C.ptr m.nxt 0) 5) = (some [(Il x6), 
 c7, c8, c9, c10])) ∧ Wc prog tbl 86 [(V.agg 5 [(Il x6), c7, c8, c9, 
 c10]), (V.c (Il x4))] m5 (fun v11 m12 => ∃ b13 : Bool, (v11 = (V.c (C.bool b13))) ∧ 
 ifB (!b13) (Q (V.c (C.bool false)) m12) (fitsP .i64 (x4 + 1) ∧ R2 [(V.c (C.bool b3)), 
 (V.c (Il (x4 + 1)))] m12))) (Q (V.c (C.bool true)) m5)) → 
 R2 [(V.c (C.bool b3)), (V.c (Il x4))] m5) → R2 [(V.c (C.bool false)), (V.c (Il 0))] m0)) : Wc prog tbl 54 [(V.agg 5 [(Il a100), a101, a102, a103, a104])] m Q :=
 wc_eq (n := 1) rfl (by kernel_rfl) (by kernel_rfl) h
theorem w57 {a100 : C} {a200 : C} {m : M} {Q : V → M → Prop} (h :
 (∀ m0 : M, (m0 = (M.new m (AO.cells 1 [a200] false))) → Wc prog tbl 91 [(V.c a100), (V.c (C.fn (Fn.func 92) [] [(W.c (C0.ptr m.nxt 0))]))] m0 (fun v1 m2 => 
 ∃ b3 : Bool, (v1 = (V.c (C.bool b3))) ∧ Q (V.c (C.bool (!b3))) m2))) : Wc prog tbl 57 [(V.c a100), (V.c a200)] m Q :=
 wc_eq (n := 2) rfl (by kernel_rfl) (by kernel_rfl) h
theorem w60 {a100 : Int} {a101 : C} {a102 : C} {a103 : C} {m : M} {Q : V → M → Prop} (h :
 (∀ m0 : M, (m0 = (M.new m (AO.cells 4 [(Il a100), a101, a102, a103] false))) → isPt (C.ptr m.nxt 0) ∧ 
 ∃ x1, ((ldC m0 (C.ptr m.nxt 0)) = (some (Il x1))) ∧ ifB (decide ((12 : Int) < x1)) (Q (V.c (Il (3 : Int))) m0) (isPt (C.ptr m.nxt 0) ∧ 
 ∃ c2 : C, ((ldC m0 (C.ptr m.nxt 1)) = (some c2)) ∧ isSl c2 ∧ ifB (decide ((3 : Int) < (((slLen c2) : Nat) : Int))) (Q (V.c (Il (3 : Int))) m0) (isPt (C.ptr m.nxt 0) ∧ 
 ∃ c3 : C, ((ldC m0 (C.ptr m.nxt 2)) = (some c3)) ∧ isSl c3 ∧ ifB (decide ((3 : Int) < (((slLen c3) : Nat) : Int))) (Q (V.c (Il (3 : Int))) m0) (isPt (C.ptr m.nxt 0) ∧ 
 ∃ c4 : C, ((ldC m0 (C.ptr m.nxt 3)) = (some c4)) ∧ isSl c4 ∧ ifB (decide ((6 : Int) < (((slLen c4) : Nat) : Int))) (Q (V.c (Il (3 : Int))) m0) (isPt (C.ptr m.nxt 0) ∧ 
 ∃ x5, ((ldC m0 (C.ptr m.nxt 0)) = (some (Il x5))) ∧ ifB (decide (x5 < 0)) (Q (V.c (Il (1 : Int))) m0) (isPt (C.ptr m.nxt 0) ∧ 
 ∃ c6 : C, ((ldC m0 (C.ptr m.nxt 1)) = (some c6)) ∧ isSl c6 ∧ ifB (decide ((((slLen c6) : Nat) : Int) = (0 : Int))) (Q (V.c (Il (1 : Int))) m0) (isPt (C.ptr m.nxt 0) ∧ 
 ∃ c7 : C, ((ldC m0 (C.ptr m.nxt 2)) = (some c7)) ∧ isSl c7 ∧ ifB (decide ((((slLen c7) : Nat) : Int) = (0 : Int))) (Q (V.c (Il (1 : Int))) m0) (∀ R8 : List V → 
 M → Prop, (∀ x9 : Int, ∀ x10 : Int, ∀ m11 : M, (isPt (C.ptr m.nxt 0) ∧ 
 ∃ c12 : C, ((ldC m11 (C.ptr m.nxt 1)) = (some c12)) ∧ isSl c12 ∧ 
 ifB (decide (x10 < (((slLen c12) : Nat) : Int))) (∃ x13, ∃ c14 : C, ∃ c15 : C, 
 ∃ c16 : C, ((ldA m11 (C.ptr m.nxt 0) 4) = (some [(Il x13), 
 c14, c15, c16])) ∧ isPt (C.ptr m.nxt 0) ∧ ∃ c17 : C, ((ldC m11 (C.ptr m.nxt 1)) = (some c17)) ∧ 
 ∃ n18 : Nat, (x10 = ((n18 : Nat) : Int)) ∧ (n18 < (slLen c17)) ∧ ∃ c19 : C, 
 ((ldC m11 (slAt c17 (n18 * 1))) = (some c19)) ∧ Wc prog tbl 95 [(V.agg 4 [(Il x13), 
 c14, c15, c16]), (V.c c19)] m11 (fun v20 m21 => ∃ b22 : Bool, (v20 = (V.c (C.bool b22))) ∧ 
 ifB (!b22) (Q (V.c (Il (1 : Int))) m21) (fitsP .i64 (x10 + 1) ∧ 
 R8 [(V.c (Il x9)), (V.c (Il (x10 + 1)))] m21))) (∀ R23 : List V → 
 M → Prop, (∀ x24 : Int, ∀ x25 : Int, ∀ m26 : M, (isPt (C.ptr m.nxt 0) ∧ 
 ∃ c27 : C, ((ldC m26 (C.ptr m.nxt 2)) = (some c27)) ∧ isSl c27 ∧ 
 ifB (decide (x25 < (((slLen c27) : Nat) : Int))) (isPt (C.ptr m.nxt 0) ∧ ∃ c28 : C, 
 ((ldC m26 (C.ptr m.nxt 2)) = (some c28)) ∧ ∃ n29 : Nat, (x25 = ((n29 : Nat) : Int)) ∧ 
 (n29 < (slLen c28)) ∧ ∃ x30, ∃ x31, ∃ x32, ∃ x33, 
 ∃ x34, ∃ x35, ∃ x36, ((ldA m26 (slAt c28 (n29 * 7)) 7) = (some [(Il x30), 
 (Il x31), (Il x32), (Il x33), (Il x34), 
 (Il x35), (Il x36)])) ∧ ∀ m37 : M, (m37 = (M.new m26 (AO.cells 7 [(Il 0), 
 (Il 0), (Il 0), (Il 0), 
 (Il 0), (Il 0), (Il 0)] false))) → 
 ∃ m38 : M, ((stC m37 (C.ptr m26.nxt 0) 7 [(Il x30), (Il x31), 
 (Il x32), (Il x33), (Il x34), (Il x35), 
 (Il x36)]) = (some m38)) ∧ isPt (C.ptr m26.nxt 0) ∧ 
 ∃ x39, ((ldC m38 (C.ptr m26.nxt 0)) = (some (Il x39))) ∧ 
 isPt (C.ptr m.nxt 0) ∧ ∃ c40 : C, ((ldC m38 (C.ptr m.nxt 1)) = (some c40)) ∧ 
 isSl c40 ∧ fitsP .i64 ((((slLen c40) : Nat) : Int) - (1 : Int)) ∧ Wc prog tbl 25 [(V.c (Il x39)), 
 (V.c (Il 0)), (V.c (Il ((((slLen c40) : Nat) : Int) - (1 : Int))))] m38 (fun v41 m42 => 
 ∃ b43 : Bool, (v41 = (V.c (C.bool b43))) ∧ ifB (!b43) (Q (V.c (Il (1 : Int))) m42) (isPt (C.ptr m26.nxt 0) ∧ 
 ∃ x44, ∃ x45, ((ldA m42 (C.ptr m26.nxt 1) 2) = (some [(Il x44), 
 (Il x45)])) ∧ isPt (C.ptr m.nxt 0) ∧ ∃ x46, ((ldC m42 (C.ptr m.nxt 0)) = (some (Il x46))) ∧ 
 Wc prog tbl 96 [(V.agg 2 [(Il x44), (Il x45)]), 
 (V.c (Il 0)), (V.c (Il x46))] m42 (fun v47 m48 => 
 ∃ b49 : Bool, (v47 = (V.c (C.bool b49))) ∧ ifB (!b49) (Q (V.c (Il (1 : Int))) m48) (isPt (C.ptr m26.nxt 0) ∧ 
 ∃ x50, ∃ x51, ((ldA m48 (C.ptr m26.nxt 3) 2) = (some [(Il x50), 
 (Il x51)])) ∧ Wc prog tbl 96 [(V.agg 2 [(Il x50), 
 (Il x51)]), (V.c (Il 0)), (V.c (Il (100 : Int)))] m48 (fun v52 m53 => 
 ∃ b54 : Bool, (v52 = (V.c (C.bool b54))) ∧ ifB (!b54) (Q (V.c (Il (1 : Int))) m53) (isPt (C.ptr m26.nxt 0) ∧ 
 ∃ x55, ∃ x56, ((ldA m53 (C.ptr m26.nxt 5) 2) = (some [(Il x55), 
 (Il x56)])) ∧ Wc prog tbl 96 [(V.agg 2 [(Il x55), 
 (Il x56)]), (V.c (Il 0)), (V.c (Il (100 : Int)))] m53 (fun v57 m58 => 
 ∃ b59 : Bool, (v57 = (V.c (C.bool b59))) ∧ ifB (!b59) (Q (V.c (Il (1 : Int))) m58) (fitsP .i64 (x25 + 1) ∧ 
 R23 [(V.c (Il x24)), (V.c (Il (x25 + 1)))] m58))))))))) (∀ R60 : List V → 
 M → Prop, (∀ x61 : Int, ∀ x62 : Int, ∀ m63 : M, (isPt (C.ptr m.nxt 0) ∧ 
 ∃ c64 : C, ((ldC m63 (C.ptr m.nxt 3)) = (some c64)) ∧ isSl c64 ∧ 
 ifB (decide (x62 < (((slLen c64) : Nat) : Int))) (isPt (C.ptr m.nxt 0) ∧ ∃ c65 : C, 
 ((ldC m63 (C.ptr m.nxt 3)) = (some c65)) ∧ ∃ n66 : Nat, (x62 = ((n66 : Nat) : Int)) ∧ 
 (n66 < (slLen c65)) ∧ ∃ x67, ∃ x68, ∃ x69, ∃ x70, 
 ((ldA m63 (slAt c65 (n66 * 4)) 4) = (some [(Il x67), (Il x68), 
 (Il x69), (Il x70)])) ∧ ∀ m71 : M, (m71 = (M.new m63 (AO.cells 4 [(Il 0), 
 (Il 0), (Il 0), (Il 0)] false))) → 
 ∃ m72 : M, ((stC m71 (C.ptr m63.nxt 0) 4 [(Il x67), (Il x68), 
 (Il x69), (Il x70)]) = (some m72)) ∧ isPt (C.ptr m63.nxt 0) ∧ 
 ∃ x73, ((ldC m72 (C.ptr m63.nxt 0)) = (some (Il x73))) ∧ 
 isPt (C.ptr m.nxt 0) ∧ ∃ c74 : C, ((ldC m72 (C.ptr m.nxt 2)) = (some c74)) ∧ 
 isSl c74 ∧ fitsP .i64 ((((slLen c74) : Nat) : Int) - (1 : Int)) ∧ Wc prog tbl 25 [(V.c (Il x73)), 
 (V.c (Il 0)), (V.c (Il ((((slLen c74) : Nat) : Int) - (1 : Int))))] m72 (fun v75 m76 => 
 ∃ b77 : Bool, (v75 = (V.c (C.bool b77))) ∧ ifB (!b77) (Q (V.c (Il (1 : Int))) m76) (isPt (C.ptr m63.nxt 0) ∧ 
 ∃ x78, ((ldC m76 (C.ptr m63.nxt 1)) = (some (Il x78))) ∧ 
 isPt (C.ptr m.nxt 0) ∧ ∃ x79, ((ldC m76 (C.ptr m.nxt 0)) = (some (Il x79))) ∧ 
 Wc prog tbl 25 [(V.c (Il x78)), (V.c (Il 0)), 
 (V.c (Il x79))] m76 (fun v80 m81 => ∃ b82 : Bool, (v80 = (V.c (C.bool b82))) ∧ 
 ifB (!b82) (Q (V.c (Il (1 : Int))) m81) (isPt (C.ptr m63.nxt 0) ∧ 
 ∃ x83, ∃ x84, ((ldA m81 (C.ptr m63.nxt 2) 2) = (some [(Il x83), 
 (Il x84)])) ∧ Wc prog tbl 96 [(V.agg 2 [(Il x83), 
 (Il x84)]), (V.c (Il 0)), (V.c (Il (100 : Int)))] m81 (fun v85 m86 => 
 ∃ b87 : Bool, (v85 = (V.c (C.bool b87))) ∧ ifB (!b87) (Q (V.c (Il (1 : Int))) m86) (fitsP .i64 (x62 + 1) ∧ 
 R60 [(V.c (Il x61)), (V.c (Il (x62 + 1)))] m86))))))) (∀ R88 : List V → 
 M → Prop, (∀ x89 : Int, ∀ x90 : Int, ∀ m91 : M, (isPt (C.ptr m.nxt 0) ∧ 
 ∃ c92 : C, ((ldC m91 (C.ptr m.nxt 2)) = (some c92)) ∧ isSl c92 ∧ 
 ifB (decide (x90 < (((slLen c92) : Nat) : Int))) (isPt (C.ptr m.nxt 0) ∧ ∃ c93 : C, 
 ((ldC m91 (C.ptr m.nxt 2)) = (some c93)) ∧ ∃ n94 : Nat, (x90 = ((n94 : Nat) : Int)) ∧ 
 (n94 < (slLen c93)) ∧ ∃ x95, ∃ x96, ∃ x97, ∃ x98, 
 ∃ x99, ∃ x100, ∃ x101, ((ldA m91 (slAt c93 (n94 * 7)) 7) = (some [(Il x95), 
 (Il x96), (Il x97), (Il x98), (Il x99), 
 (Il x100), (Il x101)])) ∧ Wc prog tbl 94 [(V.agg 7 [(Il x95), 
 (Il x96), (Il x97), (Il x98), (Il x99), 
 (Il x100), (Il x101)])] m91 (fun v102 m103 => ∃ x104, 
 (v102 = (V.c (Il x104))) ∧ ifB (decide ((3000 : Int) < x104)) (Q (V.c (Il (3 : Int))) m103) (fitsP .i64 (x90 + 1) ∧ 
 R88 [(V.c (Il x89)), (V.c (Il (x90 + 1)))] m103))) (Q (V.c (Il 0)) m91)) → 
 R88 [(V.c (Il x89)), (V.c (Il x90))] m91) → 
 R88 [(V.c (Il x61)), (V.c (Il 0))] m63)) → 
 R60 [(V.c (Il x61)), (V.c (Il x62))] m63) → 
 R60 [(V.c (Il x24)), (V.c (Il 0))] m26)) → 
 R23 [(V.c (Il x24)), (V.c (Il x25))] m26) → 
 R23 [(V.c (Il x9)), (V.c (Il 0))] m11)) → 
 R8 [(V.c (Il x9)), (V.c (Il x10))] m11) → 
 R8 [(V.c (Il 0)), (V.c (Il 0))] m0))))))))) : Wc prog tbl 60 [(V.agg 4 [(Il a100), a101, a102, a103])] m Q :=
 wc_eq (n := 1) rfl (by kernel_rfl) (by kernel_rfl) h
theorem w63 {a100 : Int} {a101 : Int} {a200 : Int} {a201 : Int} {m : M} {Q : V → M → Prop} (h :
 (∀ m0 : M, (m0 = (M.new m (AO.cells 2 [(Il a100), (Il a101)] false))) → ∀ m1 : M, 
 (m1 = (M.new m0 (AO.cells 2 [(Il a200), (Il a201)] false))) → isPt (C.ptr m.nxt 0) ∧ 
 ∃ x2, ((ldC m1 (C.ptr m.nxt 0)) = (some (Il x2))) ∧ isPt (C.ptr m0.nxt 0) ∧ 
 ∃ x3, ((ldC m1 (C.ptr m0.nxt 0)) = (some (Il x3))) ∧ ifB (decide (x3 ≤ x2)) (isPt (C.ptr m.nxt 0) ∧ 
 ∃ x4, ((ldC m1 (C.ptr m.nxt 1)) = (some (Il x4))) ∧ isPt (C.ptr m0.nxt 0) ∧ 
 ∃ x5, ((ldC m1 (C.ptr m0.nxt 1)) = (some (Il x5))) ∧ Q (V.c (C.bool (decide (x4 ≤ x5)))) m1) (Q (V.c (C.bool false)) m1))) : Wc prog tbl 63 [(V.agg 2 [(Il a100), (Il a101)]), (V.agg 2 [(Il a200), (Il a201)])] m Q :=
 wc_eq (n := 2) rfl (by kernel_rfl) (by kernel_rfl) h
theorem w66 {a100 : C} {m : M} {Q : V → M → Prop} (h :
 (isSl a100 ∧ ifB (decide ((((slLen a100) : Nat) : Int) = (0 : Int))) (Q (V.c (Il 0)) m) (∃ n0 : Nat, 
 ((0 : Int) = ((n0 : Nat) : Int)) ∧ (n0 < (slLen a100)) ∧ ∃ x1, ((ldC m (slAt a100 (n0 * 1))) = (some (Il x1))) ∧ 
 isSl a100 ∧ ∀ R2 : List V → M → Prop, (∀ x3 : Int, ∀ x4 : Int, ∀ m5 : M, (ifB (decide (x4 < (((slLen a100) : Nat) : Int))) (∃ n6 : Nat, 
 (x4 = ((n6 : Nat) : Int)) ∧ (n6 < (slLen a100)) ∧ ∃ x7, ((ldC m5 (slAt a100 (n6 * 1))) = (some (Il x7))) ∧ 
 ifB (decide (x7 < x3)) (fitsP .i64 (x4 + 1) ∧ R2 [(V.c (Il x7)), 
 (V.c (Il (x4 + 1)))] m5) (fitsP .i64 (x4 + 1) ∧ 
 R2 [(V.c (Il x3)), (V.c (Il (x4 + 1)))] m5)) (Q (V.c (Il x3)) m5)) → 
 R2 [(V.c (Il x3)), (V.c (Il x4))] m5) → R2 [(V.c (Il x1)), 
 (V.c (Il 0))] m))) : Wc prog tbl 66 [(V.c a100)] m Q :=
 wc_eq (n := 1) rfl (by kernel_rfl) (by kernel_rfl) h
theorem w74 {a100 : Int} {a200 : Int} {m : M} {Q : V → M → Prop} (h :
 (∀ m0 : M, (m0 = (M.new m (AO.cells 1 [(Il a100)] false))) → ∀ m1 : M, (m1 = (M.new m0 (AO.cells 1 [(Il a200)] false))) → 
 Q (V.c (C.fn (Fn.func 98) [] [(W.c (C0.ptr m0.nxt 0)), (W.c (C0.ptr m.nxt 0))])) m1)) : Wc prog tbl 74 [(V.c (Il a100)), (V.c (Il a200))] m Q :=
 wc_eq (n := 2) rfl (by kernel_rfl) (by kernel_rfl) h
theorem w77 {a100 : Int} {a101 : Int} {a102 : Int} {a103 : Int} {a104 : Int} {a105 : Int} {a106 : Int} {a200 : Int} {a300 : Int} {m : M} {Q : V → M → Prop} (h :
 (∀ m0 : M, (m0 = (M.new m (AO.cells 7 [(Il a100), (Il a101), (Il a102), 
 (Il a103), (Il a104), (Il a105), (Il a106)] false))) → 
 ∀ m1 : M, (m1 = (M.new m0 (AO.cells 4 [(Il 0), (Il 0), (Il 0), 
 (Il 0)] false))) → isPt (C.ptr m.nxt 0) ∧ ∃ x2, ((ldC m1 (C.ptr m.nxt 0)) = (some (Il x2))) ∧ 
 ∃ m3 : M, ((stC m1 (C.ptr m0.nxt 0) 4 [(Il a200), (Il a300), (Il 0), 
 (Il x2)]) = (some m3)) ∧ ∃ x4, ∃ x5, ∃ x6, ∃ x7, 
 ((ldA m3 (C.ptr m0.nxt 0) 4) = (some [(Il x4), (Il x5), 
 (Il x6), (Il x7)])) ∧ Q (V.agg 4 [(Il x4), (Il x5), 
 (Il x6), (Il x7)]) m3)) : Wc prog tbl 77 [(V.agg 7 [(Il a100), (Il a101), (Il a102), (Il a103), (Il a104), (Il a105), (Il a106)]), (V.c (Il a200)), (V.c (Il a300))] m Q :=
 wc_eq (n := 3) rfl (by kernel_rfl) (by kernel_rfl) h
theorem w84 {a100 : Int} {a101 : Int} {a102 : Int} {a103 : Int} {a104 : Int} {a105 : Int} {a106 : Int} {a107 : Int} {a108 : Int} {a109 : Int} {a110 : Int} {a111 : Int} {a112 : Int} {a113 : Int} {a114 : Int} {a115 : Int} {m : M} {Q : V → M → Prop} (h :
 (∀ m0 : M, (m0 = (M.new m (AO.cells 16 [(Il a100), (Il a101), (Il a102), 
 (Il a103), (Il a104), (Il a105), (Il a106), 
 (Il a107), (Il a108), (Il a109), (Il a110), 
 (Il a111), (Il a112), (Il a113), (Il a114), 
 (Il a115)] false))) → isPt (C.ptr m.nxt 0) ∧ isPt (C.ptr m.nxt 0) ∧ ∃ x1, 
 ((ldC m0 (C.ptr m.nxt 1)) = (some (Il x1))) ∧ Q (V.c (Il x1)) m0)) : Wc prog tbl 84 [(V.agg 16 [(Il a100), (Il a101), (Il a102), (Il a103), (Il a104), (Il a105), (Il a106), (Il a107), (Il a108), (Il a109), (Il a110), (Il a111), (Il a112), (Il a113), (Il a114), (Il a115)])] m Q :=
 wc_eq (n := 1) rfl (by kernel_rfl) (by kernel_rfl) h
theorem w87 {a100 : C} {a200 : C} {m : M} {Q : V → M → Prop} (h :
 (∀ m0 : M, (m0 = (M.new m (AO.cells 1 [a200] false))) → Wc prog tbl 104 [(V.c a100), (V.c (C.fn (Fn.func 105) [] [(W.c (C0.ptr m.nxt 0))]))] m0 (fun v1 m2 => 
 ∃ b3 : Bool, (v1 = (V.c (C.bool b3))) ∧ Q (V.c (C.bool (!b3))) m2))) : Wc prog tbl 87 [(V.c a100), (V.c a200)] m Q :=
 wc_eq (n := 2) rfl (by kernel_rfl) (by kernel_rfl) h
theorem w90 {a100 : Int} {a101 : C} {a102 : C} {a103 : C} {a200 : Int} {a201 : Int} {a202 : Int} {a203 : Int} {m : M} {Q : V → M → Prop} (h :
 (∀ m0 : M, (m0 = (M.new m (AO.cells 4 [(Il a100), a101, a102, a103] false))) → ∀ m1 : M, (m1 = (M.new m0 (AO.cells 4 [(Il a200), 
 (Il a201), (Il a202), (Il a203)] false))) → ∃ x2, 
 ∃ c3 : C, ∃ c4 : C, ∃ c5 : C, ((ldA m1 (C.ptr m.nxt 0) 4) = (some [(Il x2), 
 c3, c4, c5])) ∧ isPt (C.ptr m0.nxt 0) ∧ ∃ x6, ((ldC m1 (C.ptr m0.nxt 0)) = (some (Il x6))) ∧ 
 Wc prog tbl 64 [(V.agg 4 [(Il x2), c3, c4, c5]), (V.c (Il x6))] m1 (fun v7 m8 => 
 ∃ b9 : Bool, (v7 = (V.c (C.bool b9))) ∧ ifB b9 (∃ x10, ∃ c11 : C, ∃ c12 : C, ∃ c13 : C, 
 ((ldA m8 (C.ptr m.nxt 0) 4) = (some [(Il x10), c11, c12, c13])) ∧ 
 isPt (C.ptr m0.nxt 0) ∧ ∃ x14, ((ldC m8 (C.ptr m0.nxt 1)) = (some (Il x14))) ∧ 
 Wc prog tbl 29 [(V.agg 4 [(Il x10), c11, c12, c13]), (V.c (Il x14))] m8 (fun v15 m16 => 
 ∃ b17 : Bool, (v15 = (V.c (C.bool b17))) ∧ ifB b17 (isPt (C.ptr m0.nxt 0) ∧ 
 ∃ x18, ∃ x19, ((ldA m16 (C.ptr m0.nxt 2) 2) = (some [(Il x18), 
 (Il x19)])) ∧ Wc prog tbl 107 [(V.agg 2 [(Il x18), 
 (Il x19)]), (V.c (Il 0)), (V.c (Il (100 : Int)))] m16 (fun v20 m21 => 
 ∃ b22 : Bool, (v20 = (V.c (C.bool b22))) ∧ Q (V.c (C.bool b22)) m21)) (Q (V.c (C.bool false)) m16))) (Q (V.c (C.bool false)) m8)))) : Wc prog tbl 90 [(V.agg 4 [(Il a100), a101, a102, a103]), (V.agg 4 [(Il a200), (Il a201), (Il a202), (Il a203)])] m Q :=
 wc_eq (n := 2) rfl (by kernel_rfl) (by kernel_rfl) h
theorem w94 {a100 : Int} {a101 : Int} {a102 : Int} {a103 : Int} {a104 : Int} {a105 : Int} {a106 : Int} {m : M} {Q : V → M → Prop} (h :
 (∀ m0 : M, (m0 = (M.new m (AO.cells 7 [(Il a100), (Il a101), (Il a102), 
 (Il a103), (Il a104), (Il a105), (Il a106)] false))) → 
 isPt (C.ptr m.nxt 0) ∧ ∃ x1, ∃ x2, ((ldA m0 (C.ptr m.nxt 1) 2) = (some [(Il x1), 
 (Il x2)])) ∧ Wc prog tbl 109 [(V.agg 2 [(Il x1), (Il x2)])] m0 (fun v3 m4 => 
 ∃ x5, (v3 = (V.c (Il x5))) ∧ isPt (C.ptr m.nxt 0) ∧ ∃ x6, ∃ x7, 
 ((ldA m4 (C.ptr m.nxt 3) 2) = (some [(Il x6), (Il x7)])) ∧ 
 ((ldA m0 (C.ptr m.nxt 3) 2) = (some [(Il x6), (Il x7)])) ∧ 
 Wc prog tbl 109 [(V.agg 2 [(Il x6), (Il x7)])] m4 (fun v8 m9 => 
 ∃ x10, (v8 = (V.c (Il x10))) ∧ ((0 : Int) ≤ x5) ∧ ((0 : Int) ≤ x10) ∧ 
 fitsP .i64 (x5 * x10) ∧ isPt (C.ptr m.nxt 0) ∧ ∃ x11, ∃ x12, 
 ((ldA m9 (C.ptr m.nxt 5) 2) = (some [(Il x11), (Il x12)])) ∧ 
 ((ldA m4 (C.ptr m.nxt 5) 2) = (some [(Il x11), (Il x12)])) ∧ 
 ((ldA m0 (C.ptr m.nxt 5) 2) = (some [(Il x11), (Il x12)])) ∧ 
 Wc prog tbl 109 [(V.agg 2 [(Il x11), (Il x12)])] m9 (fun v13 m14 => 
 ∃ x15, (v13 = (V.c (Il x15))) ∧ ((0 : Int) ≤ (x5 * x10)) ∧ 
 ((0 : Int) ≤ x15) ∧ fitsP .i64 ((x5 * x10) * x15) ∧ Q (V.c (Il ((x5 * x10) * x15))) m14))))) : Wc prog tbl 94 [(V.agg 7 [(Il a100), (Il a101), (Il a102), (Il a103), (Il a104), (Il a105), (Il a106)])] m Q :=
 wc_eq (n := 1) rfl (by kernel_rfl) (by kernel_rfl) h
theorem w101 {a100 : C} {a200 : Int} {m : M} {Q : V → M → Prop} (h :
 (isSl a100 ∧ ∀ R0 : List V → M → Prop, (∀ x1 : Int, ∀ x2 : Int, ∀ m3 : M, (ifB (decide (x2 < (((slLen a100) : Nat) : Int))) (∃ n4 : Nat, 
 (x2 = ((n4 : Nat) : Int)) ∧ (n4 < (slLen a100)) ∧ ∃ x5, ((ldC m3 (slAt a100 (n4 * 1))) = (some (Il x5))) ∧ 
 ifB (decide (a200 = x5)) (Q (V.c (Il x2)) m3) (fitsP .i64 (x2 + 1) ∧ 
 R0 [(V.c (Il x1)), (V.c (Il (x2 + 1)))] m3)) (Q (V.c (Il (-1 : Int))) m3)) → 
 R0 [(V.c (Il x1)), (V.c (Il x2))] m3) → R0 [(V.c (Il 0)), 
 (V.c (Il 0))] m)) : Wc prog tbl 101 [(V.c a100), (V.c (Il a200))] m Q :=
 wc_eq (n := 2) rfl (by kernel_rfl) (by kernel_rfl) h
theorem w106 {a100 : C} {a200 : C} {m : M} {Q : V → M → Prop} (h :
 (∀ m0 : M, (m0 = (M.new m (AO.cells 1 [a200] false))) → Wc prog tbl 112 [(V.c a100), (V.c (C.fn (Fn.func 113) [] [(W.c (C0.ptr m.nxt 0))]))] m0 (fun v1 m2 => 
 ∃ b3 : Bool, (v1 = (V.c (C.bool b3))) ∧ Q (V.c (C.bool (!b3))) m2))) : Wc prog tbl 106 [(V.c a100), (V.c a200)] m Q :=
 wc_eq (n := 2) rfl (by kernel_rfl) (by kernel_rfl) h
theorem w109 {a100 : Int} {a101 : Int} {m : M} {Q : V → M → Prop} (h :
 (∀ m0 : M, (m0 = (M.new m (AO.cells 2 [(Il a100), (Il a101)] false))) → isPt (C.ptr m.nxt 0) ∧ 
 ∃ x1, ((ldC m0 (C.ptr m.nxt 1)) = (some (Il x1))) ∧ isPt (C.ptr m.nxt 0) ∧ 
 ∃ x2, ((ldC m0 (C.ptr m.nxt 0)) = (some (Il x2))) ∧ fitsP .i64 (x1 - x2) ∧ 
 fitsP .i64 ((x1 - x2) + (1 : Int)) ∧ Q (V.c (Il ((x1 - x2) + (1 : Int)))) m0)) : Wc prog tbl 109 [(V.agg 2 [(Il a100), (Il a101)])] m Q :=
 wc_eq (n := 1) rfl (by kernel_rfl) (by kernel_rfl) h
theorem w112 {a100 : C} {a200 : C} {m : M} {Q : V → M → Prop} (h :
 (Wc prog tbl 114 [(V.c a100), (V.c a200)] m (fun v0 m1 => ∃ x2, (v0 = (V.c (Il x2))) ∧ Q (V.c (C.bool (decide ((0 : Int) ≤ x2)))) m1))) : Wc prog tbl 112 [(V.c a100), (V.c a200)] m Q :=
 wc_eq (n := 2) rfl (by kernel_rfl) (by kernel_rfl) h
end
end Go.Proofs.Ytmlaphekbnanjaa

namespace Go.Proofs.Ytmlaphekbnanjaa
open _root_.Go.Proofs.Try
open Go.Abs
set_option maxRecDepth 100000
noncomputable section
theorem w32 {a100 : Int} {a101 : Int} {a102 : Int} {a103 : Int} {a104 : Int} {a105 : Int} {a106 : Int} {a107 : Int} {a108 : Int} {a109 : Int} {a110 : Int} {a111 : Int} {a112 : Int} {a113 : Int} {a114 : Int} {a115 : Int} {a200 : Int} {m : M} {Q : V → M → Prop} (h :
 (∀ m0 : M, (m0 = (M.new m (AO.cells 16 [(Il a100), (Il a101), (Il a102), 
 (Il a103), (Il a104), (Il a105), (Il a106), 
 (Il a107), (Il a108), (Il a109), (Il a110), 
 (Il a111), (Il a112), (Il a113), (Il a114), 
 (Il a115)] false))) → isPt (C.ptr m.nxt 0) ∧ isPt (C.ptr m.nxt 0) ∧ ∃ x1, 
 ((ldC m0 (C.ptr m.nxt 2)) = (some (Il x1))) ∧ isPt (C.ptr m.nxt 0) ∧ isPt (C.ptr m.nxt 3) ∧ 
 ∃ n2 : Nat, (a200 = ((n2 : Nat) : Int)) ∧ (n2 < 13) ∧ ∃ x3, ((ldC m0 (C.ptr m.nxt (3 + (n2 * 1)))) = (some (Il x3))) ∧ 
 fitsP .i64 (x1 + x3) ∧ Q (V.c (Il (Min.min (x1 + x3) (100 : Int)))) m0)) : Wc prog tbl 32 [(V.agg 16 [(Il a100), (Il a101), (Il a102), (Il a103), (Il a104), (Il a105), (Il a106), (Il a107), (Il a108), (Il a109), (Il a110), (Il a111), (Il a112), (Il a113), (Il a114), (Il a115)]), (V.c (Il a200))] m Q :=
 wc_eq (n := 2) rfl (by kernel_rfl) (by kernel_rfl) h
theorem w36 {a100 : Int} {a101 : Int} {a102 : Int} {a103 : Int} {a104 : Int} {a105 : Int} {a106 : Int} {a107 : Int} {a108 : Int} {a109 : Int} {a110 : Int} {a111 : Int} {a112 : Int} {m : M} {Q : V → M → Prop} (h :
 (∀ m0 : M, (m0 = (M.new m (AO.cells 13 [(Il a100), (Il a101), (Il a102), 
 (Il a103), (Il a104), (Il a105), (Il a106), 
 (Il a107), (Il a108), (Il a109), (Il a110), 
 (Il a111), (Il a112)] false))) → isPt (C.ptr m.nxt 0) ∧ ∃ n1 : Nat, 
 ((12 : Int) = ((n1 : Nat) : Int)) ∧ (n1 < 13) ∧ ∃ x2, ((ldC m0 (C.ptr m.nxt (0 + (n1 * 1)))) = (some (Il x2))) ∧ 
 Q (V.c (Il x2)) m0)) : Wc prog tbl 36 [(V.agg 13 [(Il a100), (Il a101), (Il a102), (Il a103), (Il a104), (Il a105), (Il a106), (Il a107), (Il a108), (Il a109), (Il a110), (Il a111), (Il a112)])] m Q :=
 wc_eq (n := 1) rfl (by kernel_rfl) (by kernel_rfl) h
end
end Go.Proofs.Ytmlaphekbnanjaa

namespace Go.Proofs.Ytmlaphekbnanjaa
open _root_.Go.Proofs.Try
open Go.Abs
set_option maxRecDepth 100000
noncomputable section
theorem w98 (y : C) (b b2 : Nat) {m : M} {Q : V → M → Prop} (h :
 (∀ m0 : M, (m0 = (M.new m (AO.cells 1 [y] false))) → ∃ x1, ((ldC m0 (C.ptr b 0)) = (some (Il x1))) ∧ 
 ∃ n2 : Nat, ∃ n3 : Nat, (x1 = ((n2 : Nat) : Int)) ∧ (x1 = ((n3 : Nat) : Int)) ∧ (n2 ≤ n3) ∧ (n3 ≤ 4096) ∧ 
 ∀ m4 : M, (m4 = (M.new m0 (AO.cells (n3 * 1) (repeatS [(Il 0)] n3) false))) → 
 ∀ m5 : M, (m5 = (M.new m4 (AO.cells 1 [C.sl0] false))) → ∃ m6 : M, ((stC m5 (C.ptr m4.nxt 0) 1 [(C.sl m0.nxt 0 n2 0 (some n3))]) = (some m6)) ∧ 
 ∀ m7 : M, (m7 = (M.new m6 (AO.cells 1 [C.nilFn] false))) → ∃ m8 : M, ((stC m7 (C.ptr m6.nxt 0) 1 [(C.fn (Fn.func 99) [] [(W.c (C0.ptr b 0)), 
 (W.c (C0.ptr m.nxt 0)), (W.c (C0.ptr m4.nxt 0)), (W.c (C0.ptr b2 0)), (W.c (C0.ptr m6.nxt 0))])]) = (some m8)) ∧ 
 ∃ c9 : C, ((ldC m8 (C.ptr m6.nxt 0)) = (some c9)) ∧ callP prog tbl [(V.c (Il 0)), 
 (V.c (Il 0))] c9 m8 (fun v10 m11 => ∃ b12 : Bool, (v10 = (V.c (C.bool b12))) ∧ 
 Q (V.tup []) m11))) : Wc prog tbl 98 [.c y, .c (.ptr b 0), .c (.ptr b2 0)] m Q :=
 wc_eq (n := 3) rfl (by kernel_rfl) (by kernel_rfl) h
theorem w99 (at' from' : Int) (b k h2 b2 cv : Nat) {m : M} {Q : V → M → Prop} (h :
 (∃ x0, ((ldC m (C.ptr b 0)) = (some (Il x0))) ∧ ifB (decide (at' = x0)) (∃ c1 : C, 
 ((ldC m (C.ptr k 0)) = (some c1)) ∧ ∃ c2 : C, ((ldC m (C.ptr h2 0)) = (some c2)) ∧ callP prog tbl [(V.c c2)] c1 m (fun v3 m4 => 
 ∃ b5 : Bool, (v3 = (V.c (C.bool b5))) ∧ Q (V.c (C.bool b5)) m4)) (∀ R6 : List V → M → Prop, 
 (∀ b7 : Bool, ∀ x8 : Int, ∀ m9 : M, (∃ x10, ((ldC m9 (C.ptr b2 0)) = (some (Il x10))) ∧ 
 ifB (decide (x8 < x10)) (∃ c11 : C, ((ldC m9 (C.ptr h2 0)) = (some c11)) ∧ ∃ n12 : Nat, 
 (at' = ((n12 : Nat) : Int)) ∧ (n12 < (slLen c11)) ∧ ∃ m13 : M, ((stC m9 (slAt c11 (n12 * 1)) 1 [(Il x8)]) = (some m13)) ∧ 
 ∃ c14 : C, ((ldC m13 (C.ptr cv 0)) = (some c14)) ∧ fitsP .i64 (at' + (1 : Int)) ∧ 
 fitsP .i64 (x8 + 1) ∧ callP prog tbl [(V.c (Il (at' + (1 : Int)))), 
 (V.c (Il (x8 + 1)))] c14 m13 (fun v15 m16 => ∃ b17 : Bool, 
 (v15 = (V.c (C.bool b17))) ∧ ifB (!b17) (Q (V.c (C.bool false)) m16) (fitsP .i64 (x8 + 1) ∧ 
 R6 [(V.c (C.bool b7)), (V.c (Il (x8 + 1)))] m16))) (Q (V.c (C.bool true)) m9)) → 
 R6 [(V.c (C.bool b7)), (V.c (Il x8))] m9) → R6 [(V.c (C.bool false)), (V.c (Il from'))] m))) : Wc prog tbl 99 [.c (Il at'), .c (Il from'), .c (.ptr b 0), .c (.ptr k 0), .c (.ptr h2 0), .c (.ptr b2 0), .c (.ptr cv 0)] m Q :=
 wc_eq (n := 7) rfl (by kernel_rfl) (by kernel_rfl) h
end
end Go.Proofs.Ytmlaphekbnanjaa

namespace Go.Proofs.Ytmlaphekbnanjaa
open _root_.Go.Proofs.Try
open Go.Abs
set_option maxRecDepth 100000
noncomputable section
theorem t22 : tk prog 39 = .sl 3 := by kernel_rfl
theorem g3 : growOk prog 3 = true := by kernel_rfl
theorem z3 : prog.cellsOf 3 = 1 := by kernel_rfl
theorem take_set {P : List Int} {p : Nat} (hp : p < P.length) (n : Int) : (P.set p n).take (p + 1) = P.take p ++ [n] := by
 rw [List.take_add_one, List.getElem?_set_self hp, List.take_set_of_le (Nat.le_refl _)]; rfl
theorem _root_.Go.Abs.Chg.trans {S S1 : Nat → Prop} {T : Nat → Prop} {m m1 m2 : M} (h1 : Chg (fun b => S b ∨ T b) m m1) (h2 : Chg (fun b => S1 b ∨ T b) m1 m2) (ho : Own S m S1) : Chg (fun b => S b ∨ T b) m m2 :=
 ⟨Nat.le_trans h1.nxt h2.nxt, fun b hb hS => by
  rw [h2.g b (Nat.lt_of_lt_of_le hb h1.nxt) fun h => h.elim (fun h3 => (ho b h3).elim (fun h4 => hS (.inl h4)) fun h4 => by omega) fun h3 => hS (.inr h3)]
  exact h1.g b hb hS, h2.vw.trans h1.vw⟩
theorem _root_.Go.Abs.Own.refl (S : Nat → Prop) (m : M) : Own S m S := fun _ hb => .inl hb
theorem _root_.Go.Abs.Own.trans {S S1 S2 : Nat → Prop} {m m1 : M} (h1 : Own S m S1) (h2 : Own S1 m1 S2) (hn : m.nxt ≤ m1.nxt) : Own S m S2 := fun b hb => (h2 b hb).elim (h1 b) fun h => .inr (by omega)
theorem _root_.Go.Abs.Chg.or {S T : Nat → Prop} {m m' : M} (h : Chg S m m') : Chg (fun b => S b ∨ T b) m m' := ⟨h.nxt, fun b hb hS => h.g b hb fun h2 => hS (.inl h2), h.vw⟩
theorem ints_set (L : List Int) (i : Nat) (v : Int) : (ints L).set i (.int .i64 v) = ints (L.set i v) := by unfold ints; rw [List.map_set]
theorem fits_small {n : Int} (h1 : -1000000 ≤ n) (h2 : n ≤ 1000000) : fitsP .i64 n := by simp only [fitsP]; omega
theorem mem_rests {α : Type} (g : Nat → List α) (a : α) : ∀ (e n : Nat), a ∈ rests g e n ↔ ∃ j, n ≤ j ∧ j < n + e ∧ a ∈ g j
 | 0, n => ⟨fun h => (by cases h), fun ⟨j, h1, h2, _⟩ => by omega⟩
 | e + 1, n => by
  show a ∈ g n ++ rests g e (n + 1) ↔ _
  rw [List.mem_append, mem_rests g a e (n + 1)]
  constructor
  ·rintro (h | ⟨j, h1, h2, h3⟩)
   ·exact ⟨n, Nat.le_refl _, by omega, h⟩
   ·exact ⟨j, by omega, by omega, h3⟩
  ·rintro ⟨j, h1, h2, h3⟩
   by_cases hj : j = n
   ·subst hj; exact .inl h3
   ·exact .inr ⟨j, by omega, by omega, h3⟩
def hdr (bl size : Nat) : C := .sl bl 0 size 0 (some size)
def flC (b k h2 b2 cv : Nat) : C := .fn (.func 99) [] [.c (.ptr b 0), .c (.ptr k 0), .c (.ptr h2 0), .c (.ptr b2 0), .c (.ptr cv 0)]
def VsL (all : List (List Int)) (n1 i : Nat) (x : List V) (m : M) : Prop := ∃ L c, all[i]? = some L ∧ x = [.c c] ∧ Li m c L ∧ (isNilC c = false ∧ slOk c 1 L.length) ∧ ∀ b o n s d, c = .sl b o n s d → n1 ≤ b
theorem _root_.Go.Abs.Bk.st1n {m : M} {b n : Nat} {vs : List C} (h : Bk m b n vs) {k : Nat} (c : C) (hk : k < vs.length) (hn : vs.length = n) : stC m (.ptr b (0 + k * 1)) 1 [c] = some (m.set b (.cells n (vs.set k c) false)) := by
 rw [show 0 + k * 1 = k by omega]
 by_cases h1 : n = 1
 ·subst h1
  have hk0 : k = 0 := by omega
  subst hk0
  have : vs.set 0 c = [c] := by
   match vs, hn with
   | [a], _ => rfl
  rw [this]
  exact stC_of h.g [c]
 ·exact stC_at h.g c hk hn h1
theorem rep0 (n : Nat) : repeatS [C.int .i64 0] n = ints (List.replicate n 0) := by rw [repeatS_eq]; simp [ints]
structure SlF (n size b b2 l k h2 bl cv : Nat) (S : Nat → Prop) (m : M) (P : List Int) : Prop where
 bb : Bk m b 1 [.int .i64 (size : Int)]
 nn : Bk m b2 1 [.int .i64 (n : Int)]
 kk : Bk m k 1 [.fn (.yield l) [] []]
 hh : Bk m h2 1 [hdr bl size]
 ll : Bk m bl size (ints P)
 cc : Bk m cv 1 [flC b k h2 b2 cv]
 ss : ∀ b', S b' → b' ≠ b ∧ b' ≠ b2 ∧ b' ≠ k ∧ b' ≠ h2 ∧ b' ≠ bl ∧ b' ≠ cv
 ne : b ≠ bl ∧ b2 ≠ bl ∧ k ≠ bl ∧ h2 ≠ bl ∧ cv ≠ bl
variable {n size b b2 l k h2 bl cv : Nat}
theorem SlF.to {S S' : Nat → Prop} {m m' : M} {P : List Int} (h : SlF n size b b2 l k h2 bl cv S m P) (hn : Chg S m m') (ho : Own S m S') : SlF n size b b2 l k h2 bl cv S' m' P := by
 have tr : ∀ {b' j : Nat} {vs : List C}, Bk m b' j vs → ¬ S b' → Bk m' b' j vs := fun hb hS => ⟨(hn.g _ hb.lt hS).trans hb.g, Nat.lt_of_lt_of_le hb.lt hn.nxt⟩
 refine ⟨tr h.bb fun h1 => (h.ss _ h1).1 rfl, tr h.nn fun h1 => (h.ss _ h1).2.1 rfl, tr h.kk fun h1 => (h.ss _ h1).2.2.1 rfl, tr h.hh fun h1 => (h.ss _ h1).2.2.2.1 rfl, tr h.ll fun h1 => (h.ss _ h1).2.2.2.2.1 rfl, tr h.cc fun h1 => (h.ss _ h1).2.2.2.2.2 rfl, fun b' hb => ?_, h.ne⟩
 rcases ho b' hb with h1 | h1
 ·exact h.ss b' h1
 ·have := h.bb.lt; have := h.nn.lt; have := h.kk.lt; have := h.hh.lt; have := h.ll.lt; have := h.cc.lt
  omega
theorem SlF.set {S : Nat → Prop} {m : M} {P : List Int} (h : SlF n size b b2 l k h2 bl cv S m P) (P' : List Int) : SlF n size b b2 l k h2 bl cv S (m.set bl (.cells size (ints P') false)) P' :=
 ⟨h.bb.setNe h.ne.1 _, h.nn.setNe h.ne.2.1 _, h.kk.setNe h.ne.2.2.1 _, h.hh.setNe h.ne.2.2.2.1 _, h.ll.set _, h.cc.setNe h.ne.2.2.2.2 _, h.ss, h.ne⟩
theorem SlF.li {S : Nat → Prop} {m : M} {P : List Int} (h : SlF n size b b2 l k h2 bl cv S m P) (hP : P.length = size) : Li m (hdr bl size) P := by
 refine ⟨by rw [ints_len]; omega, .inr ⟨bl, 0, 0, some size, by rw [hP]; rfl, h.ll.lt, fun _ => .inl ⟨size, ints P, false, h.ll.g, by rw [ints_len]; exact hP, by rw [ints_len]; omega, by rw [List.drop_zero, List.take_length]⟩⟩⟩
theorem sFill {n0 n1 : Nat} (hn : n ≤ 1000) (hsz : size ≤ 1000) (hn0 : n0 ≤ bl) (hn1 : n1 ≤ bl) {all : List (List Int)} {I : Nat → (Nat → Prop) → M → Prop} {E : (Nat → Prop) → M → Prop} (hcl : ClientV prog tbl n0 l (VsL all n1) I E) :
  ∀ (d p : Nat), d + p = size → ∀ (i fr : Nat) (S : Nat → Prop) (m : M) (P : List Int) (Q : V → M → Prop), SlF n size b b2 l k h2 bl cv S m P → P.length = size →
   (∀ j L, (combs n d (P.take p) fr)[j]? = some L → all[i + j]? = some L) → I i S m →
   (∀ S' m' P', Own S m S' → Chg (fun b' => S b' ∨ b' = bl) m m' → SlF n size b b2 l k h2 bl cv S' m' P' → P'.length = size → P'.take p = P.take p → I (i + (combs n d (P.take p) fr).length) S' m' → Q (.c (.bool true)) m') →
   (∀ S' m', Own S m S' → Chg (fun b' => S b' ∨ b' = bl) m m' → E S' m' → Q (.c (.bool false)) m') →
   Wc prog tbl 99 [.c (.int .i64 (p : Int)), .c (.int .i64 (fr : Int)), .c (.ptr b 0), .c (.ptr k 0), .c (.ptr h2 0), .c (.ptr b2 0), .c (.ptr cv 0)] m Q := by
 intro d
 induction d with
 | zero =>
  intro p hp i fr S m P Q hst hP hxs hI hT hF
  refine w99 (p : Int) (fr : Int) b k h2 b2 cv ⟨_, hst.bb.rc rfl, ?_⟩
  rw [ifB_dec]
  refine ⟨fun _ => ⟨_, hst.kk.rc rfl, _, hst.hh.rc rfl, ?_⟩, fun h1 => absurd (by omega) h1⟩
  have hx0 := hxs 0 (P.take p) rfl
  rw [List.take_of_length_le (by omega), Nat.add_zero] at hx0
  show Wy prog tbl l [.c (hdr bl size)] m _
  refine hcl.yield i _ S m ⟨P, hdr bl size, hx0, rfl, hst.li hP, ⟨rfl, .inr (.inl ⟨bl, 0, 0, size, by rw [hP]; rfl, by omega⟩)⟩, fun b' o n' s d h => by cases h; exact hn1⟩ hI _ (fun S' m' ho hch hI' => ⟨_, rfl, ?_⟩) fun S' m' ho hch hE => ⟨_, rfl, hF S' m' ho (Chg.or hch) hE⟩
  exact hT S' m' P ho (Chg.or hch) (hst.to hch ho) hP rfl hI'
 | succ d ih =>
  intro p hp i fr S m P Q hst hP hxs hI hT hF
  refine w99 (p : Int) (fr : Int) b k h2 b2 cv ⟨_, hst.bb.rc rfl, ?_⟩
  rw [ifB_dec]
  refine ⟨fun h1 => by omega, fun _ R6 hstep => ?_⟩
  let g : Nat → List (List Int) := fun x => combs n d (P.take p ++ [(x : Int)]) (x + 1)
  have hex : combs n (d + 1) (P.take p) fr = rests g (n - fr) fr := rfl
  rw [hex] at hxs hT
  have hgo : ∀ (e x : Nat) (b7 : Bool) (m9 : M) (S1 : Nat → Prop) (P1 : List Int) (i1 : Nat), n - x = e → Own S m S1 → Chg (fun b' => S b' ∨ b' = bl) m m9 → SlF n size b b2 l k h2 bl cv S1 m9 P1 → P1.length = size → P1.take p = P.take p → I i1 S1 m9 →
    i1 + (rests g e x).length = i + (rests g (n - fr) fr).length → (∀ j L, (rests g e x)[j]? = some L → all[i1 + j]? = some L) → R6 [.c (.bool b7), .c (.int .i64 (x : Int))] m9 := by
   intro e
   induction e with
   | zero =>
    intro x b7 m9 S1 P1 i1 hen ho hch hst1 hP1 htk hI1 hlen hxs1
    refine hstep _ _ _ ⟨_, hst1.nn.rc rfl, ?_⟩
    rw [ifB_dec]
    refine ⟨fun h1 => by omega, fun _ => hT S1 m9 P1 ho hch hst1 hP1 htk ?_⟩
    have : i1 + 0 = _ := hlen
    rw [← this, Nat.add_zero]; exact hI1
   | succ e ihe =>
    intro x b7 m9 S1 P1 i1 hen ho hch hst1 hP1 htk hI1 hlen hxs1
    refine hstep _ _ _ ⟨_, hst1.nn.rc rfl, ?_⟩
    rw [ifB_dec]
    refine ⟨fun _ => ?_, fun h1 => absurd (by omega) h1⟩
    have hp9 : p < P1.length := by omega
    refine ⟨_, hst1.hh.rc rfl, p, rfl, (by show p < size; omega), _, hst1.ll.st1n _ (by rw [ints_len]; exact hp9) (by rw [ints_len]; exact hP1), ?_⟩
    rw [ints_set]
    have hst2 := hst1.set (P1.set p (x : Int))
    have hch2 : Chg (fun b' => S1 b' ∨ b' = bl) m9 (m9.set bl (.cells size (ints (P1.set p (x : Int))) false)) := ⟨Nat.le_refl _, fun b' _ hS => by rw [M.g_set, if_neg fun h1 => hS (.inr h1)], rfl⟩
    have hI2 : I i1 S1 (m9.set bl (.cells size (ints (P1.set p (x : Int))) false)) := (hcl.li i1).st _ _ _ hI1 (Nat.le_refl _) rfl (fun b' hb => by rw [M.g_set, if_neg (hst1.ss b' hb).2.2.2.2.1]) (fun b' hb => by rw [M.g_set, if_neg (by omega)])
    have hchm := Chg.trans (T := fun b' => b' = bl) hch hch2 ho
    generalize m9.set bl (.cells size (ints (P1.set p (x : Int))) false) = m13 at hst2 hch2 hI2 hchm
    have hP2 : (P1.set p (x : Int)).length = size := by rw [List.length_set]; exact hP1
    have htk2 : (P1.set p (x : Int)).take (p + 1) = P.take p ++ [(x : Int)] := by rw [take_set hp9, htk]
    have htk3 : (P1.set p (x : Int)).take p = P.take p := by rw [List.take_set_of_le (Nat.le_refl _), htk]
    generalize P1.set p (x : Int) = P2 at hst2 htk2 htk3 hP2
    have hge : rests g (e + 1) x = g x ++ rests g e (x + 1) := rfl
    have hg : g x = combs n d (P2.take (p + 1)) (x + 1) := by rw [htk2]
    rw [hge, hg] at hlen hxs1
    rw [List.length_append] at hlen
    refine ⟨_, hst2.cc.rc rfl, fits_small (by omega) (by omega), fits_small (by omega) (by omega), ?_⟩
    show Wc prog tbl 99 [.c (.int .i64 ((p + 1 : Nat) : Int)), .c (.int .i64 ((x + 1 : Nat) : Int)), .c (.ptr b 0), .c (.ptr k 0), .c (.ptr h2 0), .c (.ptr b2 0), .c (.ptr cv 0)] m13 _
    refine ih (p + 1) (by omega) i1 (x + 1) S1 m13 P2 _ hst2 hP2 (fun j H hj => hxs1 j H (by rw [List.getElem?_append_left (List.getElem?_eq_some_iff.1 hj).1]; exact hj)) hI2 (fun S' m' P' ho' hch' hst' hP' htk' hI' => ⟨_, rfl, ?_⟩) fun S' m' ho' hch' hE => ⟨_, rfl, ?_⟩
    ·have htk4 : P'.take p = P.take p := by
      have h1 := congrArg (List.take p) htk'
      rw [List.take_take, List.take_take, Nat.min_eq_left (by omega)] at h1
      rw [h1, htk3]
     refine ⟨fits_small (by omega) (by omega), ihe (x + 1) b7 m' S' P' _ (by omega) (Own.trans ho ho' hchm.nxt) (Chg.trans (T := fun b' => b' = bl) hchm hch' ho) hst' hP' htk4 hI' (by omega) fun j H hj => ?_⟩
     rw [Nat.add_assoc]
     exact hxs1 _ H (by rw [List.getElem?_append_right (by omega), Nat.add_sub_cancel_left]; exact hj)
    ·exact hF S' m' (Own.trans ho ho' hchm.nxt) (Chg.trans (T := fun b' => b' = bl) hchm hch' ho) hE
  exact hgo (n - fr) fr false m S P i rfl (Own.refl S m) ⟨Nat.le_refl _, fun _ _ _ => rfl, rfl⟩ hst hP rfl hI rfl hxs
theorem lists_iter (hn : n ≤ 1000) (hsz : size ≤ 1000) : IterV prog tbl (.fn (.func 98) [] [.c (.ptr b 0), .c (.ptr b2 0)]) (combs n size [] 0).length (VsL (combs n size [] 0)) (fun b' => b' = b ∨ b' = b2) (fun m => Bk m b 1 [.int .i64 (size : Int)] ∧ Bk m b2 1 [.int .i64 (n : Int)]) := by
 refine ⟨fun m m' h hn' hv hg => ⟨⟨(hg b (.inl rfl)).trans h.1.g, Nat.lt_of_lt_of_le h.1.lt hn'⟩, ⟨(hg b2 (.inr rfl)).trans h.2.g, Nat.lt_of_lt_of_le h.2.lt hn'⟩⟩, fun m h b' hb => hb.elim (fun h1 => h1 ▸ h.1.lt) fun h1 => h1 ▸ h.2.lt, fun n0' l I E S m hcl hn0' hI hR hSD Q hQ => ?_⟩
 have hSlt := (hcl.li 0).lt _ _ hI
 have hb := hR.1.lt
 have hb2 := hR.2.lt
 show Wc prog tbl 98 [.c (.fn (.yield l) [] []), .c (.ptr b 0), .c (.ptr b2 0)] m Q
 refine w98 _ b b2 fun m0 e0 => ?_
 obtain ⟨b0, x0⟩ := Bk.new e0
 refine ⟨_, (hR.1.ext x0).rc rfl, size, size, rfl, rfl, Nat.le_refl _, by omega, fun m4 e4 m5 e5 => ?_⟩
 rw [rep0, Nat.mul_one] at e4
 obtain ⟨b4, x4⟩ := Bk.new e4
 obtain ⟨b5, x5⟩ := Bk.new e5
 have n0 : m0.nxt = m.nxt + 1 := by rw [e0]; rfl
 have n4 : m4.nxt = m.nxt + 2 := by rw [e4]; show m0.nxt + 1 = _; omega
 have n5 : m5.nxt = m.nxt + 3 := by rw [e5]; show m4.nxt + 1 = _; omega
 refine ⟨_, b5.st _, fun m7 e7 => ?_⟩
 have k6 := b5.set [C.sl m0.nxt 0 size 0 (some size)]
 have x6 : Ext m (m5.set m4.nxt (.cells 1 [C.sl m0.nxt 0 size 0 (some size)] false)) := ((x0.trans x4).trans x5).setR (by omega) _
 have k0 : Bk (m5.set m4.nxt (.cells 1 [C.sl m0.nxt 0 size 0 (some size)] false)) m.nxt 1 [.fn (.yield l) [] []] := ((b0.ext x4).ext x5).setNe (by omega) _
 have k4 : Bk (m5.set m4.nxt (.cells 1 [C.sl m0.nxt 0 size 0 (some size)] false)) m0.nxt size (ints (List.replicate size 0)) := (b4.ext x5).setNe (by omega) _
 have n6 : (m5.set m4.nxt (.cells 1 [C.sl m0.nxt 0 size 0 (some size)] false)).nxt = m.nxt + 3 := n5
 have e7' : m7 = (m5.set m4.nxt (.cells 1 [C.sl m0.nxt 0 size 0 (some size)] false)).new (.cells 1 [.nilFn] false) := e7
 clear e7
 generalize m5.set m4.nxt (.cells 1 [C.sl m0.nxt 0 size 0 (some size)] false) = m6 at k6 x6 k0 k4 n6 e7' ⊢
 obtain ⟨b7, x7⟩ := Bk.new e7'
 have n7 : m7.nxt = m.nxt + 4 := by rw [e7']; show m6.nxt + 1 = _; omega
 refine ⟨_, b7.st _, _, (b7.set _).rc rfl, ?_⟩
 have k8 := b7.set [flC b m.nxt m4.nxt b2 m6.nxt]
 have x8 : Ext m (m7.set m6.nxt (.cells 1 [flC b m.nxt m4.nxt b2 m6.nxt] false)) := (x6.trans x7).setR (by omega) _
 have j0 := (k0.ext x7).setNe (c := m6.nxt) (by omega) (.cells 1 [flC b m.nxt m4.nxt b2 m6.nxt] false)
 have j4 := (k4.ext x7).setNe (c := m6.nxt) (by omega) (.cells 1 [flC b m.nxt m4.nxt b2 m6.nxt] false)
 have j6 := (k6.ext x7).setNe (c := m6.nxt) (by omega) (.cells 1 [flC b m.nxt m4.nxt b2 m6.nxt] false)
 show callP prog tbl _ (flC b m.nxt m4.nxt b2 m6.nxt) (m7.set m6.nxt (.cells 1 [flC b m.nxt m4.nxt b2 m6.nxt] false)) _
 generalize m7.set m6.nxt (.cells 1 [flC b m.nxt m4.nxt b2 m6.nxt] false) = m8 at k8 x8 j0 j4 j6
 have hI8 : I 0 S m8 := (hcl.li 0).st _ _ _ hI x8.nxt x8.vw (fun b' hb => x8.g b' (hSlt b' hb)) (fun b' hb => x8.g b' (by omega))
 have hSl : SlF n size b b2 l m.nxt m4.nxt m0.nxt m6.nxt S m8 (List.replicate size 0) := ⟨hR.1.ext x8, hR.2.ext x8, j0, j6, j4, k8, fun b' hb' => by
  have h1 := hSlt b' hb'
  have h2 := hSD b' hb'
  exact ⟨fun h => h2 (.inl h), fun h => h2 (.inr h), by omega, by omega, by omega, by omega⟩, by omega⟩
 have hchg : ∀ {m' : M}, Chg (fun b' => S b' ∨ b' = m0.nxt) m8 m' → Chg S m m' := fun {m'} h => ⟨Nat.le_trans x8.nxt h.nxt, fun b' hb hSb => by
  rw [h.g b' (Nat.lt_of_lt_of_le hb x8.nxt) fun h3 => h3.elim hSb fun h4 => by omega]
  exact x8.g b' hb, h.vw.trans x8.vw⟩
 show Wc prog tbl 99 [.c (.int .i64 ((0 : Nat) : Int)), .c (.int .i64 ((0 : Nat) : Int)), .c (.ptr b 0), .c (.ptr m.nxt 0), .c (.ptr m4.nxt 0), .c (.ptr b2 0), .c (.ptr m6.nxt 0)] m8 _
 refine sFill hn hsz (n0 := n0') (n1 := m.nxt) (by omega) (by omega) hcl size 0 (by omega) 0 0 S m8 _ _ hSl (by simp) (fun j L hj => by rw [Nat.zero_add]; exact hj) hI8 (fun S' m' P' ho hch hst' _ _ hI' => ⟨_, rfl, ?_⟩) fun S' m' ho hch hE => ⟨_, rfl, ?_⟩
 ·rw [Nat.zero_add] at hI'
  exact hQ _ S' m' (Own.trans (Own.refl S m) ho x8.nxt) (hchg hch) (.inl hI')
 ·exact hQ _ S' m' (Own.trans (Own.refl S m) ho x8.nxt) (hchg hch) (.inr hE)
theorem isNil_ne {m : M} {z : C} {L : List Int} (hz : Li m z L) (hn : isNilC z = false) : ∃ b o n s c, z = .sl b o n s c := by
 rcases hz.val with ⟨rfl, _⟩ | ⟨b, o, s, c, rfl, _⟩
 ·cases hn
 ·exact ⟨_, _, _, _, _, rfl⟩
theorem sClone {z : C} {L : List Int} {m : M} {Q : V → M → Prop} (hz : Li m z L) (hn : isNilC z = false) (hL : L.length ≤ 1000) (h : ∀ z' m', Ext m m' → Li m' z' L → Fr m z' → slOk z' 1 L.length → Q (.c z') m') : Wc prog tbl 75 [.c z] m Q := by
 obtain ⟨b, o, n, s, c, rfl⟩ := isNil_ne hz hn
 refine w75 ⟨trivial, trivial, trivial, rfl, ?_⟩
 show ∀ m0 : M, _
 intro m0 e0
 obtain ⟨b0, x0⟩ := Bk.new e0
 have ho : Own1 m0 1 (.sl m.nxt 0 0 0 (some 0)) [] 0 := ⟨rfl, .lit _ b0.g b0.lt⟩
 by_cases h0 : L.length = 0
 ·have hL0 : L = [] := List.eq_nil_of_length_eq_zero h0
  subst hL0
  exact ⟨_, _, ap_none t22 g3 z3 ho (hz.ext x0), h _ _ x0 ho.ls (fun b o n s d hq => by cases hq; exact Nat.le_refl _) (.inr (.inl ⟨_, _, _, _, rfl, Nat.le_refl _⟩))⟩
 ·obtain ⟨m', q1, q2, q3, q4, q5⟩ := ap_own t22 g3 z3 ho (hz.ext x0) (by omega) (by omega) (by omega)
  have n0 : m0.nxt = m.nxt + 1 := by rw [e0]; rfl
  refine ⟨_, m', q1, h _ _ ⟨by omega, fun b' hb => ?_, q4.trans x0.vw⟩ ?_ (fun b o n s d hq => by cases hq; omega) (.inr (.inr ⟨_, _, by rw [Nat.zero_add]⟩))⟩
  ·rw [q5 b' (by omega) (by intro hq; cases hq)]; exact x0.g b' hb
  ·have := q2.ls
   rw [List.nil_append] at this
   have e : 0 + L.length = L.length := Nat.zero_add _
   rw [e] at this ⊢
   exact this
theorem rests_split {α : Type} (g : Nat → List α) (p : α → Bool) : ∀ e x, (rests g (e + 1) x).find? p = ((g x).find? p).or ((rests g e (x + 1)).find? p) := fun e x => by
 show (g x ++ rests g e (x + 1)).find? p = _
 rw [List.find?_append]
def Tests (n : Nat) (m : M) (fnc : C) (t : List Int → Bool) : Prop :=
 ∀ m' z L, Ext m m' → Li m' z L → slOk z 1 L.length → L ∈ allL n → ∀ Q : V → M → Prop, (∀ m'', Ext m' m'' → Q (.c (.bool (t L))) m'') → callP prog tbl [.c z] fnc m' Q
theorem drop_find {l : List (List Int)} {i : Nat} {a : List Int} (h : l[i]? = some a) (p : List Int → Bool) : (l.drop i).find? p = if p a then some a else (l.drop (i + 1)).find? p := by
 obtain ⟨hi, ha⟩ := List.getElem?_eq_some_iff.1 h
 rw [List.drop_eq_getElem_cons hi, ha, List.find?_cons]
 cases p a <;> rfl
theorem combs_len {n : Nat} {L : List Int} : ∀ {d : Nat} {pre : List Int} {fr : Nat}, L ∈ combs n d pre fr → L.length = pre.length + d
 | 0, pre, fr, h => by
  have : L = pre := List.mem_singleton.1 h
  rw [this]; rfl
 | d + 1, pre, fr, h => by
  obtain ⟨x, _, _, h3⟩ := (mem_rests _ _ _ _).1 h
  have := combs_len h3
  rw [List.length_append] at this
  simp only [List.length_cons, List.length_nil] at this
  omega
theorem sShort {n : Nat} {fnc : C} {t : List Int → Bool} {m : M} {Q : V → M → Prop} (hn : n ≤ 100) (ht : Tests n m fnc t) (h : ∀ z m', Ext m m' → Li m' z (shortL n t) → slOk z 1 (shortL n t).length → (∀ b o n' s d, z = .sl b o n' s d → m.nxt ≤ b) → Q (.c z) m') : Wc prog tbl 45 [.c (.int .i64 (n : Int)), .c fnc] m Q := by
 refine w45 fun m0 e0 m1 e1 => ?_
 obtain ⟨b0, x0⟩ := Bk.new e0
 obtain ⟨b1, x1⟩ := Bk.new e1
 have x01 := x0.trans x1
 have n0 : m0.nxt = m.nxt + 1 := by rw [e0]; rfl
 refine ⟨fits_small (by omega) (by omega), fun R2 hstep => ?_⟩
 let G : Nat → List (List Int) := fun s => combs n s [] 0
 have hgo : ∀ (e s : Nat) (m4 : M), e + s = n + 1 → Ext m m4 → Bk m4 m.nxt 1 [fnc] → Bk m4 m0.nxt 1 [.sl0] → (rests G e s).find? t = (allL n).find? t → R2 [.c (.int .i64 (s : Int))] m4 := by
  intro e
  induction e with
  | zero =>
   intro s m4 hes x4 k0 k1 hfind
   refine hstep _ _ ?_
   rw [ifB_dec]
   refine ⟨fun h1 => by omega, fun _ => ⟨_, k1.rc rfl, ?_⟩⟩
   have : shortL n t = [] := by unfold shortL; rw [← hfind]; rfl
   refine h _ _ x4 ?_ ?_ fun _ _ _ _ _ h9 => by cases h9
   ·rw [this]; exact Ls.nil m4 1
   ·rw [this]; exact .inl ⟨rfl, rfl⟩
  | succ e ih =>
   intro s m4 hes x4 k0 k1 hfind
   refine hstep _ _ ?_
   rw [ifB_dec]
   refine ⟨fun _ => ?_, fun h1 => absurd (by omega) h1⟩
   refine w74 fun m5 e5 m6 e6 => ?_
   obtain ⟨b5, x5⟩ := Bk.new e5
   obtain ⟨b6, x6⟩ := Bk.new e6
   have x56 := x5.trans x6
   refine ⟨_, rfl, ?_⟩
   have hk0 := k0.lt
   have hk1 := k1.lt
   have n5 : m5.nxt = m4.nxt + 1 := by rw [e5]; rfl
   have x46 := x4.trans x56
   have k06 := k0.ext x56
   have k16 := k1.ext x56
   rw [rests_split] at hfind
   refine range_iterV (lists_iter (b := m5.nxt) (b2 := m4.nxt) (n := n) (size := s) (by omega) (by omega)) ⟨b6, b5.ext x6⟩
    (J := fun i S ma => (∀ b', S b' ↔ b' = m0.nxt) ∧ Bk ma m0.nxt 1 [.sl0] ∧ ((G s).drop i).find? t = (G s).find? t ∧ m6.nxt ≤ ma.nxt ∧ ma.vw = m6.vw ∧ ∀ b', b' < m6.nxt → b' ≠ m0.nxt → ma.g b' = m6.g b')
    (X := fun ex S ma => ex = .exit 0 ∧ ∃ z L, (∀ b', S b' ↔ b' = m0.nxt ∨ ∃ o n s d, z = .sl b' o n s d) ∧ Bk ma m0.nxt 1 [z] ∧ Li ma z L ∧ (∀ b' o n s d, z = .sl b' o n s d → m.nxt ≤ b' ∧ b' < ma.nxt) ∧ ((G s).find? t = some L ∧ slOk z 1 L.length) ∧ m6.nxt ≤ ma.nxt ∧ ma.vw = m6.vw ∧ ∀ b', b' < m6.nxt → b' ≠ m0.nxt → ma.g b' = m6.g b')
    (fun i => ⟨fun S ma mb hj hn' hv hg hlow => ⟨hj.1, ⟨(hg _ ((hj.1 _).2 rfl)).trans hj.2.1.g, Nat.lt_of_lt_of_le hj.2.1.lt hn'⟩, hj.2.2.1, Nat.le_trans hj.2.2.2.1 hn', hv.trans hj.2.2.2.2.1, fun b' hb' hne => (hlow b' hb').trans (hj.2.2.2.2.2 b' hb' hne)⟩, fun S ma hj b' hb' => by rw [(hj.1 b').1 hb']; exact hj.2.1.lt⟩)
    (fun ex => ⟨fun S ma mb hj hn' hv hg hlow => ?_, fun S ma hj b' hb' => ?_⟩) (S0 := fun b' => b' = m0.nxt) ⟨fun _ => Iff.rfl, k16, rfl, Nat.le_refl _, rfl, fun _ _ _ => rfl⟩ (fun b' hb' hd => by rcases hd with hd | hd <;> omega) ?_ ?_ ?_ ?_
   ·obtain ⟨h1, z, L, h2, h3, h4, h5, h6, h7, h8, h9⟩ := hj
    refine ⟨h1, z, L, h2, ⟨(hg _ ((h2 _).2 (.inl rfl))).trans h3.g, Nat.lt_of_lt_of_le h3.lt hn'⟩, h4.to hn' (fun b' _ hx' => ?_) hv, fun b' o n s d hz => ⟨(h5 b' o n s d hz).1, Nat.lt_of_lt_of_le (h5 b' o n s d hz).2 hn'⟩, h6, Nat.le_trans h7 hn', hv.trans h8, fun b' hb' hne => (hlow b' hb').trans (h9 b' hb' hne)⟩
    obtain ⟨o, s', d, hx'⟩ := hx'
    exact hg b' ((h2 b').2 (.inr ⟨_, _, _, _, hx'⟩))
   ·obtain ⟨h1, z, L, h2, h3, h4, h5, h6, _⟩ := hj
    rcases (h2 b').1 hb' with rfl | ⟨o, n', s', d, hz⟩
    ·exact h3.lt
    ·exact (h5 _ _ _ _ _ hz).2
   ·intro i xv S ma B' enter K hxv hj hlt hSl hown henter hK
    obtain ⟨L, z, hL, rfl, hz, hnil, hfr⟩ := hxv
    obtain ⟨hS, hkb, hf, hn6, hv6, hg6⟩ := hj
    refine ⟨z, rfl, henter ma _ rfl fun m15 hn15 hv15 hg15 hB15 => ?_⟩
    have hne0 : m0.nxt ≠ m6.nxt := by have := k16.lt; omega
    have hl15 : Li m15 z L := hz.to (by omega) (fun b' _ hx' => by obtain ⟨o, s', d, hx'⟩ := hx'; exact hg15 b' (by have := hfr b' _ _ _ _ hx'; omega)) hv15
    have kk15 : Bk m15 m0.nxt 1 [.sl0] := ⟨(hg15 _ hne0).trans hkb.g, by rw [hn15]; exact hkb.lt⟩
    have hold : ∀ b', b' < m6.nxt → b' ≠ m0.nxt → m15.g b' = m6.g b' := fun b' hb' hne => (hg15 b' (by omega)).trans (hg6 b' hb' hne)
    have x15 : Ext m m15 := ⟨by rw [hn15]; exact Nat.le_trans x46.nxt hn6, fun b' hb' => by rw [hold b' (Nat.lt_of_lt_of_le hb' x46.nxt) (by omega)]; exact x46.g b' hb', by rw [hv15, hv6]; exact x46.vw⟩
    have kf15 : Bk m15 m.nxt 1 [fnc] := ⟨(hold _ k06.lt (by omega)).trans k06.g, by rw [hn15]; exact Nat.lt_of_lt_of_le k06.lt hn6⟩
    have hLm : L ∈ combs n s [] 0 := List.mem_of_getElem? hL
    have hmem : L ∈ allL n := (mem_rests _ _ _ _).2 ⟨s, Nat.zero_le _, by omega, hLm⟩
    have hlen := combs_len hLm
    simp only [List.length_nil] at hlen
    refine ⟨fnc, kf15.rc rfl, ht m15 z L x15 hl15 hnil.2 hmem _ fun m18 e18 => ⟨_, rfl, ?_⟩⟩
    have kk18 := kk15.ext e18
    have hg18 : ∀ b', b' < ma.nxt → b' ≠ m6.nxt → m18.g b' = ma.g b' := fun b' hb' hne => by rw [e18.g b' (by omega)]; exact hg15 b' hne
    have hn18 : ma.nxt ≤ m18.nxt := by rw [← hn15]; exact e18.nxt
    have hv18 : m18.vw = ma.vw := e18.vw.trans hv15
    have hB18 : m18.g m6.nxt = m15.g m6.nxt := e18.g _ (by omega)
    rw [ifB_iff]
    refine ⟨fun htl => ?_, fun htl => ?_⟩
    ·refine sClone (hl15.ext e18) hnil.1 (by omega) fun z' m21 e21 hz' hfr' hok' => ⟨z', rfl, _, (kk18.ext e21).st _, ?_⟩
     have hzne : ∀ b' o n s d, z' = .sl b' o n s d → b' ≠ m0.nxt := fun b' o n s d hq => by have := hfr' b' o n s d hq; have := kk18.lt; omega
     refine hK (.exit 0) (fun b' => b' = m0.nxt ∨ ∃ o n s d, z' = .sl b' o n s d) _ (hB15 _ ?_) (Nat.le_trans hn18 e21.nxt) (e21.vw.trans hv18) (fun b' hb' hSb hbl => ?_) (fun b' hb' => ?_) ⟨rfl, z', L, fun _ => Iff.rfl, (kk18.ext e21).set _, hz'.setNe hzne _, fun b' o n s d hq => ?_, ?_, ?_, ?_, fun b' hb' hne => ?_⟩
     ·rw [M.g_set, if_neg (by omega), e21.g _ (by omega)]; exact hB18
     ·rw [M.g_set, if_neg fun h0 => hSb ((hS b').2 h0), e21.g b' (by omega)]; exact hg18 b' hb' hbl
     ·rcases hb' with h0 | ⟨o, n', s', d, hq⟩
      ·exact .inl ((hS b').2 h0)
      ·exact .inr (by have := hfr' _ _ _ _ _ hq; omega)
     ·have hmm : m.nxt ≤ b' := by have := hfr' _ _ _ _ _ hq; have := x15.nxt; have := e18.nxt; omega
      refine ⟨hmm, ?_⟩
      subst hq
      rcases hz'.val with ⟨h0, _⟩ | ⟨b3, o3, s3, c3, h0, h1, _⟩
      ·cases h0
      ·cases h0; exact h1
     ·exact ⟨by rw [← hf, drop_find hL, if_pos htl], hok'⟩
     ·exact Nat.le_trans hn6 (Nat.le_trans hn18 e21.nxt)
     ·exact (e21.vw.trans hv18).trans hv6
     ·rw [M.g_set, if_neg hne, e21.g b' (by omega), hg18 b' (by omega) (by omega)]; exact hg6 b' hb' hne
    ·refine hK .nrm S _ (hB15 _ hB18) hn18 hv18 (fun b' hb' _ hbl => hg18 b' hb' hbl) (Own.refl S ma) ⟨hS, kk18, ?_, Nat.le_trans hn6 hn18, hv18.trans hv6, fun b' hb' hne => by rw [hg18 b' (by omega) (by omega)]; exact hg6 b' hb' hne⟩
     rw [← hf, drop_find hL, if_neg (by rw [htl]; decide)]
   ·intro S' m5' hown hlt hv hg hj
    obtain ⟨hS, hkb, hf, hn6, hv6, hg6⟩ := hj
    have hnone : (G s).find? t = none := by rw [← hf, List.drop_eq_nil_of_le (Nat.le_refl _)]; rfl
    rw [hnone] at hfind
    refine ⟨fits_small (by omega) (by omega), ih (s + 1) m5' (by omega) ⟨Nat.le_trans x46.nxt hn6, fun b' hb' => by rw [hg6 b' (Nat.lt_of_lt_of_le hb' x46.nxt) (by omega)]; exact x46.g b' hb', hv6.trans x46.vw⟩ ⟨(hg6 _ k06.lt (by omega)).trans k06.g, Nat.lt_of_lt_of_le k06.lt hn6⟩ hkb hfind⟩
   ·intro id S' m5' hown hlt hv hg hj
    obtain ⟨h1, z, L, h2, h3, h4, h5, h6, hn6, hv6, hg6⟩ := hj
    cases h1
    refine ⟨z, h3.rc rfl, h z m5' ⟨Nat.le_trans x46.nxt hn6, fun b' hb' => by rw [hg6 b' (Nat.lt_of_lt_of_le hb' x46.nxt) (by omega)]; exact x46.g b' hb', hv6.trans x46.vw⟩ ?_ ?_ fun b o n' s d hz => (h5 b o n' s d hz).1⟩ <;> rw [show shortL n t = L from by unfold shortL; rw [← hfind, h6.1]; rfl]
    ·exact h4
    ·exact h6.2
   ·intro S' m5' hown hlt hv hg hj
    exact absurd hj.1 (by intro h; cases h)
 exact hgo (n + 1) 0 m1 (by omega) x01 (b0.ext x1) b1 rfl
end
end Go.Proofs.Ytmlaphekbnanjaa

namespace Go.Proofs.Ytmlaphekbnanjaa
open _root_.Go.Proofs.Try
open Go.Abs
set_option maxRecDepth 100000
noncomputable section
def Fv_LInt_Bool (f : M) (x : C) (g : List Int → Option (Bool)) : Prop := ∀ (f' m : M) (a0 : List Int) (c0 : C) (r : Bool) (Q : V → M → Prop), Sub f f' → Pre f' m → Sl f' c0 a0 → g a0 = some r → (∀ m', Ext m m' → Q (.c (.bool r)) m') → callP prog tbl [.c c0] x m Q
theorem Fv_LInt_Bool.sub {f m : M} {x : C} {g : List Int → Option (Bool)} (h : Fv_LInt_Bool f x g) (s : Sub f m) : Fv_LInt_Bool m x g := fun f' m' a0 c0 r Q hs => h f' m' a0 c0 r Q (s.trans hs)
theorem cat_ints {f : M} : ∀ (l : List Int), Cat f (ints l) l
 | [] => rfl
 | a :: l => ⟨[.int .i64 a], ints l, rfl, rfl, cat_ints l⟩
def asM (m : M) : M := { nxt := m.nxt, g := fun b => if b < m.nxt then m.g b else none, vw := m.vw }
theorem asM_sub (m : M) : Sub (asM m) m := ⟨Nat.le_refl _, rfl, fun b hb _ => (if_pos hb).symm⟩
theorem asM_of {f m m' : M} (h : Sub f m) (e : Ext m m') : Sub f (asM m') := ⟨Nat.le_trans h.nxt e.nxt, e.vw.trans h.vw, fun b hb hd => by
 have := Nat.lt_of_lt_of_le hb h.nxt
 have := e.nxt
 show (if b < m'.nxt then m'.g b else none) = _
 rw [if_pos (by omega), e.g b (by omega)]
 exact h.g b hb hd⟩
theorem asM_pre {f m m' : M} (h : Pre f m) (e : Ext m m') : Pre (asM m') m' := ⟨asM_sub m', fun b hb => if_neg (by have hb : m'.nxt ≤ b := hb; omega), fun b hb => by
 have hb : m'.nxt ≤ b := hb
 show m'.vw b = none
 rw [e.vw, h.sub.vw]
 exact h.fv b (Nat.le_trans h.sub.nxt (Nat.le_trans e.nxt hb))⟩
theorem sl_of {m : M} {z : C} {L : List Int} (h : Li m z L) (hok : slOk z 1 L.length) : Sl (asM m) z L := by
 refine ⟨ints L, ⟨h.len, ?_⟩, cat_ints L, hok⟩
 rcases h.val with h1 | ⟨b, o, t, c, h1, h2, h3⟩
 ·exact .inl h1
 ·refine .inr ⟨b, o, t, c, h1, h2, fun h0 => (h3 h0).to' ?_ rfl⟩
  exact if_pos h2
def grM (f m m' : M) : M := { nxt := m'.nxt, g := fun b => if b < m.nxt then f.g b else if b < m'.nxt then m'.g b else none, vw := f.vw }
theorem grM_pre {f m m' : M} (h : Pre f m) (e : Ext m m') : Pre (grM f m m') m' := by
 have hn := h.sub.nxt
 have he := e.nxt
 refine ⟨⟨Nat.le_refl _, by show m'.vw = f.vw; rw [e.vw, h.sub.vw], fun b hb hd => ?_⟩, fun b hb => ?_, fun b hb => h.fv b (by have hb : m'.nxt ≤ b := hb; omega)⟩
 ·show m'.g b = (if b < m.nxt then f.g b else if b < m'.nxt then m'.g b else none)
  have hb : b < m'.nxt := hb
  by_cases hbm : b < m.nxt
  ·rw [if_pos hbm]
   have hd : (if b < m.nxt then f.g b else if b < m'.nxt then m'.g b else none) ≠ none ∨ f.vw b ≠ none := hd
   rw [if_pos hbm] at hd
   have hbf : b < f.nxt := by
    rcases Nat.lt_or_ge b f.nxt with h1 | h1
    ·exact h1
    ·exact (hd.elim (fun h2 => h2 (h.fz b h1)) fun h2 => h2 (h.fv b h1)).elim
   rw [e.g b hbm]; exact h.sub.g b hbf hd
  ·rw [if_neg hbm, if_pos hb]
 ·have hb : m'.nxt ≤ b := hb
  show (if b < m.nxt then f.g b else if b < m'.nxt then m'.g b else none) = none
  rw [if_neg (by omega), if_neg (by omega)]
theorem s_shortest {n : Int} {passes : List Int → Option Bool} {c2 : C} {m f : M} {Q : V → M → Prop} {rz : List Int} (hS : Pre f m) (hF : Fv_LInt_Bool f c2 passes) (hp : pshortest n passes = some rz) (hq : ∀ m' f' c0, Grw m f m' f' → Sl f' c0 rz → Q (.c c0) m') : Wc prog tbl 45 [.c (Il n), .c c2] m Q := by
 obtain ⟨⟨p, q, i⟩, hp⟩ := gd_some hp
 obtain rfl := Option.some.inj hp
 have hn : n = ((n.toNat : Nat) : Int) := by omega
 rw [hn]
 refine sShort (n := n.toNat) (t := fun L => (passes L).getD false) (by omega) (fun m' z L e hz hok hL Q' hQ' => ?_) fun z m' e hz hok hfr => ?_
 ·have hs := i L hL
  cases hpl : passes L with
  | none => rw [hpl] at hs; cases hs
  | some b =>
   refine hF (asM m') m' L z b Q' (asM_of hS.sub e) (asM_pre hS e) (sl_of hz hok) hpl fun m'' e' => ?_
   have d : Q' (V.c (C.bool ((passes L).getD false))) m'' := hQ' m'' e'
   rw [hpl] at d
   exact d
 ·refine hq m' (grM f m m') z ⟨e, ⟨Nat.le_trans hS.sub.nxt e.nxt, rfl, fun b hb _ => if_pos (Nat.lt_of_lt_of_le hb hS.sub.nxt)⟩, grM_pre hS e, fun b hb => if_pos hb⟩ ?_
  refine ⟨ints _, ⟨hz.len, ?_⟩, cat_ints _, hok⟩
  rcases hz.val with a | ⟨b, o, t, c, a, h, j⟩
  ·exact .inl a
  ·refine .inr ⟨b, o, t, c, a, h, fun l => (j l).to' ?_ ?_⟩
   ·have d := hfr _ _ _ _ _ a
    show (if b < m.nxt then f.g b else if b < m'.nxt then m'.g b else none) = _
    rw [if_neg (by omega), if_pos h]
   ·show f.vw b = m'.vw b
    rw [e.vw, hS.sub.vw]
end
end Go.Proofs.Ytmlaphekbnanjaa

