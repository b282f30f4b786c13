/- An evaluator of the code of a program, its soundness, what calls ask, memory, and what functions of the program do. Condition: none; a lemma text of this claim. -/
import Derived.Test.YtmlaphekbnanjaaGreatGeF

namespace Go.Proofs.YtmlaphekbnanjaaGreat
theorem gdi {α : Type} {p A : Prop} {o : Option α} {r : α} (hp : Go.Abs.gd p o = some r) (h : p → o = some r → A) : p ∧ A := have ⟨a, b⟩ := Go.Abs.gd_some hp; ⟨a, h a b⟩
end Go.Proofs.YtmlaphekbnanjaaGreat

namespace Go.Proofs.YtmlaphekbnanjaaGreat
open _root_.Go.Proofs.Tryz
open Go.Abs
set_option maxRecDepth 100000
noncomputable section
structure W16 where
 v : Int
def ok_W16 (a : W16) : Prop := (fitsP .u16 a.v)
instance : MK W16 := ⟨fun k => .agg 1 [.int .u16 k.v], fun k => fitsP .u16 k.v ∧ True⟩
instance : MV W16 := ⟨fun k => .agg 1 [.int .u16 k.v]⟩
instance : Rp W16 := ⟨1, by omega, fun _ cs a => cs = [.int .u16 a.v], fun h => by rw [h]; rfl, fun h _ => h⟩
theorem rdW16 {f : M} {x : C} {l : List W16} (h : Sl f x l) {n : Nat} {a : W16} (hi : l[n]? = some a) {m : M} (s : Sub f m) : ldC m (slAt x (n * 1)) = some (.int .u16 a.v) := by
 obtain ⟨c, h1, h2⟩ := h.rd1 rfl hi
 have h2 : [c] = [.int .u16 a.v] := h2
 cases h2; exact h1 m s
structure Rg where
 Lo : Int
 Hi : Int
def ok_Rg (a : Rg) : Prop := (fitsP .i64 a.Lo) ∧ (fitsP .i64 a.Hi)
instance : MK Rg := ⟨fun k => .agg 2 [.int .i64 k.Lo, .int .i64 k.Hi], fun k => fitsP .i64 k.Lo ∧ fitsP .i64 k.Hi ∧ True⟩
instance : MV Rg := ⟨fun k => .agg 2 [.int .i64 k.Lo, .int .i64 k.Hi]⟩
instance : Rp Rg := ⟨2, by omega, fun _ cs a => cs = [.int .i64 a.Lo, .int .i64 a.Hi], fun h => by rw [h]; rfl, fun h _ => h⟩
structure Fld where
 Crop : Int
 Week : Rg
 Damage : Rg
 Old : Rg
def ok_Fld (a : Fld) : Prop := (fitsP .i64 a.Crop) ∧ (ok_Rg a.Week) ∧ (ok_Rg a.Damage) ∧ (ok_Rg a.Old)
instance : MK Fld := ⟨fun k => .agg 7 [.int .i64 k.Crop, .int .i64 k.Week.Lo, .int .i64 k.Week.Hi, .int .i64 k.Damage.Lo, .int .i64 k.Damage.Hi, .int .i64 k.Old.Lo, .int .i64 k.Old.Hi], fun k => fitsP .i64 k.Crop ∧ fitsP .i64 k.Week.Lo ∧ fitsP .i64 k.Week.Hi ∧ fitsP .i64 k.Damage.Lo ∧ fitsP .i64 k.Damage.Hi ∧ fitsP .i64 k.Old.Lo ∧ fitsP .i64 k.Old.Hi ∧ True⟩
instance : MV Fld := ⟨fun k => .agg 7 [.int .i64 k.Crop, .int .i64 k.Week.Lo, .int .i64 k.Week.Hi, .int .i64 k.Damage.Lo, .int .i64 k.Damage.Hi, .int .i64 k.Old.Lo, .int .i64 k.Old.Hi]⟩
instance : Rp Fld := ⟨7, by omega, fun _ cs a => cs = [.int .i64 a.Crop, .int .i64 a.Week.Lo, .int .i64 a.Week.Hi, .int .i64 a.Damage.Lo, .int .i64 a.Damage.Hi, .int .i64 a.Old.Lo, .int .i64 a.Old.Hi], fun h => by rw [h]; rfl, fun h _ => h⟩
theorem rd_Fld {f : M} {x : C} {l : List Fld} (h : Sl f x l) {n : Nat} {a : Fld} (hi : l[n]? = some a) : ∃ _u : Unit, (∀ m, Sub f m → ldA m (slAt x (n * 7)) 7 = some [.int .i64 a.Crop, .int .i64 a.Week.Lo, .int .i64 a.Week.Hi, .int .i64 a.Damage.Lo, .int .i64 a.Damage.Hi, .int .i64 a.Old.Lo, .int .i64 a.Old.Hi] ∧ (∀ j c, ([.int .i64 a.Crop, .int .i64 a.Week.Lo, .int .i64 a.Week.Hi, .int .i64 a.Damage.Lo, .int .i64 a.Damage.Hi, .int .i64 a.Old.Lo, .int .i64 a.Old.Hi] : List C)[j]? = some c → ldC m (ptAdd (slAt x (n * 7)) j) = some c) ∧ ∀ j i, 0 < i → j + i ≤ 7 → ldA m (ptAdd (slAt x (n * 7)) j) i = some ((([.int .i64 a.Crop, .int .i64 a.Week.Lo, .int .i64 a.Week.Hi, .int .i64 a.Damage.Lo, .int .i64 a.Damage.Hi, .int .i64 a.Old.Lo, .int .i64 a.Old.Hi] : List C).drop j).take i)) := by
 obtain ⟨cs, q1, q2⟩ := h.rdP hi
 have q2 : cs = _ := q2
 subst q2
 exact ⟨(), q1⟩
structure Vis where
 Field : Int
 Week : Int
 Seen : Rg
def ok_Vis (a : Vis) : Prop := (fitsP .i64 a.Field) ∧ (fitsP .i64 a.Week) ∧ (ok_Rg a.Seen)
instance : MK Vis := ⟨fun k => .agg 4 [.int .i64 k.Field, .int .i64 k.Week, .int .i64 k.Seen.Lo, .int .i64 k.Seen.Hi], fun k => fitsP .i64 k.Field ∧ fitsP .i64 k.Week ∧ fitsP .i64 k.Seen.Lo ∧ fitsP .i64 k.Seen.Hi ∧ True⟩
instance : MV Vis := ⟨fun k => .agg 4 [.int .i64 k.Field, .int .i64 k.Week, .int .i64 k.Seen.Lo, .int .i64 k.Seen.Hi]⟩
instance : Rp Vis := ⟨4, by omega, fun _ cs a => cs = [.int .i64 a.Field, .int .i64 a.Week, .int .i64 a.Seen.Lo, .int .i64 a.Seen.Hi], fun h => by rw [h]; rfl, fun h _ => h⟩
theorem rd_Vis {f : M} {x : C} {l : List Vis} (h : Sl f x l) {n : Nat} {a : Vis} (hi : l[n]? = some a) : ∃ _u : Unit, (∀ m, Sub f m → ldA m (slAt x (n * 4)) 4 = some [.int .i64 a.Field, .int .i64 a.Week, .int .i64 a.Seen.Lo, .int .i64 a.Seen.Hi] ∧ (∀ j c, ([.int .i64 a.Field, .int .i64 a.Week, .int .i64 a.Seen.Lo, .int .i64 a.Seen.Hi] : List C)[j]? = some c → ldC m (ptAdd (slAt x (n * 4)) j) = some c) ∧ ∀ j i, 0 < i → j + i ≤ 4 → ldA m (ptAdd (slAt x (n * 4)) j) i = some ((([.int .i64 a.Field, .int .i64 a.Week, .int .i64 a.Seen.Lo, .int .i64 a.Seen.Hi] : List C).drop j).take i)) := by
 obtain ⟨cs, q1, q2⟩ := h.rdP hi
 have q2 : cs = _ := q2
 subst q2
 exact ⟨(), q1⟩
structure Ssn where
 Last : Int
 Rules : List (List Int)
 Fields : List Fld
 Visits : List Vis
def ok_Ssn (a : Ssn) : Prop := (fitsP .i64 a.Last) ∧ (a.Rules.length ≤ maxLen ∧ ∀ a0 ∈ a.Rules, a0.length ≤ maxLen ∧ ∀ a1 ∈ a0, fitsP .i64 a1) ∧ (a.Fields.length ≤ maxLen ∧ ∀ a0 ∈ a.Fields, ok_Fld a0) ∧ (a.Visits.length ≤ maxLen ∧ ∀ a0 ∈ a.Visits, ok_Vis a0)
instance : Rp Ssn := ⟨4, by omega, fun f cs a => ∃ c1 c2 c3 : C, cs = [.int .i64 a.Last, c1, c2, c3] ∧ Sl f c1 a.Rules ∧ Sl f c2 a.Fields ∧ Sl f c3 a.Visits, fun h => by obtain ⟨c1, c2, c3, h, _, _, _⟩ := h; rw [h]; rfl, fun h s => by obtain ⟨c1, c2, c3, h, h0, h1, h2⟩ := h; exact ⟨c1, c2, c3, h, h0.subv s, h1.subv s, h2.subv s⟩⟩
structure Trh where
 Week : Int
 Damage : Int
 Old : Int
instance : MK Trh := ⟨fun k => .agg 3 [.int .i64 k.Week, .int .i64 k.Damage, .int .i64 k.Old], fun k => fitsP .i64 k.Week ∧ fitsP .i64 k.Damage ∧ fitsP .i64 k.Old ∧ True⟩
instance : MV Trh := ⟨fun k => .agg 3 [.int .i64 k.Week, .int .i64 k.Damage, .int .i64 k.Old]⟩
instance : Rp Trh := ⟨3, by omega, fun _ cs a => cs = [.int .i64 a.Week, .int .i64 a.Damage, .int .i64 a.Old], fun h => by rw [h]; rfl, fun h _ => h⟩
theorem rd_Trh {f : M} {x : C} {l : List Trh} (h : Sl f x l) {n : Nat} {a : Trh} (hi : l[n]? = some a) : ∃ _u : Unit, (∀ m, Sub f m → ldA m (slAt x (n * 3)) 3 = some [.int .i64 a.Week, .int .i64 a.Damage, .int .i64 a.Old] ∧ (∀ j c, ([.int .i64 a.Week, .int .i64 a.Damage, .int .i64 a.Old] : List C)[j]? = some c → ldC m (ptAdd (slAt x (n * 3)) j) = some c) ∧ ∀ j i, 0 < i → j + i ≤ 3 → ldA m (ptAdd (slAt x (n * 3)) j) i = some ((([.int .i64 a.Week, .int .i64 a.Damage, .int .i64 a.Old] : List C).drop j).take i)) := by
 obtain ⟨cs, q1, q2⟩ := h.rdP hi
 have q2 : cs = _ := q2
 subst q2
 exact ⟨(), q1⟩
structure Bnd where
 Week : Rg
 Damage : Rg
 Old : Rg
 Harvest : Rg
instance : MK Bnd := ⟨fun k => .agg 8 [.int .i64 k.Week.Lo, .int .i64 k.Week.Hi, .int .i64 k.Damage.Lo, .int .i64 k.Damage.Hi, .int .i64 k.Old.Lo, .int .i64 k.Old.Hi, .int .i64 k.Harvest.Lo, .int .i64 k.Harvest.Hi], fun k => fitsP .i64 k.Week.Lo ∧ fitsP .i64 k.Week.Hi ∧ fitsP .i64 k.Damage.Lo ∧ fitsP .i64 k.Damage.Hi ∧ fitsP .i64 k.Old.Lo ∧ fitsP .i64 k.Old.Hi ∧ fitsP .i64 k.Harvest.Lo ∧ fitsP .i64 k.Harvest.Hi ∧ True⟩
instance : MV Bnd := ⟨fun k => .agg 8 [.int .i64 k.Week.Lo, .int .i64 k.Week.Hi, .int .i64 k.Damage.Lo, .int .i64 k.Damage.Hi, .int .i64 k.Old.Lo, .int .i64 k.Old.Hi, .int .i64 k.Harvest.Lo, .int .i64 k.Harvest.Hi]⟩
instance : Rp Bnd := ⟨8, by omega, fun _ cs a => cs = [.int .i64 a.Week.Lo, .int .i64 a.Week.Hi, .int .i64 a.Damage.Lo, .int .i64 a.Damage.Hi, .int .i64 a.Old.Lo, .int .i64 a.Old.Hi, .int .i64 a.Harvest.Lo, .int .i64 a.Harvest.Hi], fun h => by rw [h]; rfl, fun h _ => h⟩
theorem rd_Bnd {f : M} {x : C} {l : List Bnd} (h : Sl f x l) {n : Nat} {a : Bnd} (hi : l[n]? = some a) : ∃ _u : Unit, (∀ m, Sub f m → ldA m (slAt x (n * 8)) 8 = some [.int .i64 a.Week.Lo, .int .i64 a.Week.Hi, .int .i64 a.Damage.Lo, .int .i64 a.Damage.Hi, .int .i64 a.Old.Lo, .int .i64 a.Old.Hi, .int .i64 a.Harvest.Lo, .int .i64 a.Harvest.Hi] ∧ (∀ j c, ([.int .i64 a.Week.Lo, .int .i64 a.Week.Hi, .int .i64 a.Damage.Lo, .int .i64 a.Damage.Hi, .int .i64 a.Old.Lo, .int .i64 a.Old.Hi, .int .i64 a.Harvest.Lo, .int .i64 a.Harvest.Hi] : List C)[j]? = some c → ldC m (ptAdd (slAt x (n * 8)) j) = some c) ∧ ∀ j i, 0 < i → j + i ≤ 8 → ldA m (ptAdd (slAt x (n * 8)) j) i = some ((([.int .i64 a.Week.Lo, .int .i64 a.Week.Hi, .int .i64 a.Damage.Lo, .int .i64 a.Damage.Hi, .int .i64 a.Old.Lo, .int .i64 a.Old.Hi, .int .i64 a.Harvest.Lo, .int .i64 a.Harvest.Hi] : List C).drop j).take i)) := by
 obtain ⟨cs, q1, q2⟩ := h.rdP hi
 have q2 : cs = _ := q2
 subst q2
 exact ⟨(), q1⟩
structure Dm where
 d0 : Int
 d1 : Int
 d2 : Int
 d3 : Int
 d4 : Int
 d5 : Int
 d6 : Int
 d7 : Int
 d8 : Int
 d9 : Int
 d10 : Int
 d11 : Int
 d12 : Int
instance : MK Dm := ⟨fun k => .agg 13 [.int .i64 k.d0, .int .i64 k.d1, .int .i64 k.d2, .int .i64 k.d3, .int .i64 k.d4, .int .i64 k.d5, .int .i64 k.d6, .int .i64 k.d7, .int .i64 k.d8, .int .i64 k.d9, .int .i64 k.d10, .int .i64 k.d11, .int .i64 k.d12], fun k => fitsP .i64 k.d0 ∧ fitsP .i64 k.d1 ∧ fitsP .i64 k.d2 ∧ fitsP .i64 k.d3 ∧ fitsP .i64 k.d4 ∧ fitsP .i64 k.d5 ∧ fitsP .i64 k.d6 ∧ fitsP .i64 k.d7 ∧ fitsP .i64 k.d8 ∧ fitsP .i64 k.d9 ∧ fitsP .i64 k.d10 ∧ fitsP .i64 k.d11 ∧ fitsP .i64 k.d12 ∧ True⟩
instance : MV Dm := ⟨fun k => .agg 13 [.int .i64 k.d0, .int .i64 k.d1, .int .i64 k.d2, .int .i64 k.d3, .int .i64 k.d4, .int .i64 k.d5, .int .i64 k.d6, .int .i64 k.d7, .int .i64 k.d8, .int .i64 k.d9, .int .i64 k.d10, .int .i64 k.d11, .int .i64 k.d12]⟩
instance : Rp Dm := ⟨13, by omega, fun _ cs a => cs = [.int .i64 a.d0, .int .i64 a.d1, .int .i64 a.d2, .int .i64 a.d3, .int .i64 a.d4, .int .i64 a.d5, .int .i64 a.d6, .int .i64 a.d7, .int .i64 a.d8, .int .i64 a.d9, .int .i64 a.d10, .int .i64 a.d11, .int .i64 a.d12], fun h => by rw [h]; rfl, fun h _ => h⟩
theorem rd_Dm {f : M} {x : C} {l : List Dm} (h : Sl f x l) {n : Nat} {a : Dm} (hi : l[n]? = some a) : ∃ _u : Unit, (∀ m, Sub f m → ldA m (slAt x (n * 13)) 13 = some [.int .i64 a.d0, .int .i64 a.d1, .int .i64 a.d2, .int .i64 a.d3, .int .i64 a.d4, .int .i64 a.d5, .int .i64 a.d6, .int .i64 a.d7, .int .i64 a.d8, .int .i64 a.d9, .int .i64 a.d10, .int .i64 a.d11, .int .i64 a.d12] ∧ (∀ j c, ([.int .i64 a.d0, .int .i64 a.d1, .int .i64 a.d2, .int .i64 a.d3, .int .i64 a.d4, .int .i64 a.d5, .int .i64 a.d6, .int .i64 a.d7, .int .i64 a.d8, .int .i64 a.d9, .int .i64 a.d10, .int .i64 a.d11, .int .i64 a.d12] : List C)[j]? = some c → ldC m (ptAdd (slAt x (n * 13)) j) = some c) ∧ ∀ j i, 0 < i → j + i ≤ 13 → ldA m (ptAdd (slAt x (n * 13)) j) i = some ((([.int .i64 a.d0, .int .i64 a.d1, .int .i64 a.d2, .int .i64 a.d3, .int .i64 a.d4, .int .i64 a.d5, .int .i64 a.d6, .int .i64 a.d7, .int .i64 a.d8, .int .i64 a.d9, .int .i64 a.d10, .int .i64 a.d11, .int .i64 a.d12] : List C).drop j).take i)) := by
 obtain ⟨cs, q1, q2⟩ := h.rdP hi
 have q2 : cs = _ := q2
 subst q2
 exact ⟨(), q1⟩
structure Plt where
 t : Trh
 crop : Int
instance : MK Plt := ⟨fun k => .agg 4 [.int .i64 k.t.Week, .int .i64 k.t.Damage, .int .i64 k.t.Old, .int .i64 k.crop], fun k => fitsP .i64 k.t.Week ∧ fitsP .i64 k.t.Damage ∧ fitsP .i64 k.t.Old ∧ fitsP .i64 k.crop ∧ True⟩
instance : MV Plt := ⟨fun k => .agg 4 [.int .i64 k.t.Week, .int .i64 k.t.Damage, .int .i64 k.t.Old, .int .i64 k.crop]⟩
instance : Rp Plt := ⟨4, by omega, fun _ cs a => cs = [.int .i64 a.t.Week, .int .i64 a.t.Damage, .int .i64 a.t.Old, .int .i64 a.crop], fun h => by rw [h]; rfl, fun h _ => h⟩
structure Crs where
 t : Trh
 d : Dm
instance : MK Crs := ⟨fun k => .agg 16 [.int .i64 k.t.Week, .int .i64 k.t.Damage, .int .i64 k.t.Old, .int .i64 k.d.d0, .int .i64 k.d.d1, .int .i64 k.d.d2, .int .i64 k.d.d3, .int .i64 k.d.d4, .int .i64 k.d.d5, .int .i64 k.d.d6, .int .i64 k.d.d7, .int .i64 k.d.d8, .int .i64 k.d.d9, .int .i64 k.d.d10, .int .i64 k.d.d11, .int .i64 k.d.d12], fun k => fitsP .i64 k.t.Week ∧ fitsP .i64 k.t.Damage ∧ fitsP .i64 k.t.Old ∧ fitsP .i64 k.d.d0 ∧ fitsP .i64 k.d.d1 ∧ fitsP .i64 k.d.d2 ∧ fitsP .i64 k.d.d3 ∧ fitsP .i64 k.d.d4 ∧ fitsP .i64 k.d.d5 ∧ fitsP .i64 k.d.d6 ∧ fitsP .i64 k.d.d7 ∧ fitsP .i64 k.d.d8 ∧ fitsP .i64 k.d.d9 ∧ fitsP .i64 k.d.d10 ∧ fitsP .i64 k.d.d11 ∧ fitsP .i64 k.d.d12 ∧ True⟩
instance : MV Crs := ⟨fun k => .agg 16 [.int .i64 k.t.Week, .int .i64 k.t.Damage, .int .i64 k.t.Old, .int .i64 k.d.d0, .int .i64 k.d.d1, .int .i64 k.d.d2, .int .i64 k.d.d3, .int .i64 k.d.d4, .int .i64 k.d.d5, .int .i64 k.d.d6, .int .i64 k.d.d7, .int .i64 k.d.d8, .int .i64 k.d.d9, .int .i64 k.d.d10, .int .i64 k.d.d11, .int .i64 k.d.d12]⟩
instance : Rp Crs := ⟨16, by omega, fun _ cs a => cs = [.int .i64 a.t.Week, .int .i64 a.t.Damage, .int .i64 a.t.Old, .int .i64 a.d.d0, .int .i64 a.d.d1, .int .i64 a.d.d2, .int .i64 a.d.d3, .int .i64 a.d.d4, .int .i64 a.d.d5, .int .i64 a.d.d6, .int .i64 a.d.d7, .int .i64 a.d.d8, .int .i64 a.d.d9, .int .i64 a.d.d10, .int .i64 a.d.d11, .int .i64 a.d.d12], fun h => by rw [h]; rfl, fun h _ => h⟩
structure Qn where
 number : Crs → Option (Int)
structure Wk where
 s : Ssn
 damages : Option (Plt → Option (Dm))
def pawake : Option Bool := some true
def prIn (n : Int) (low : Int) (high : Int) : Option (Bool) := (if low ≤ n then (some (decide (n ≤ high))) else (some false))
def prWithin (r : Rg) (low : Int) (high : Int) : Option (Bool) := (if low ≤ r.Lo then (if r.Lo ≤ r.Hi then (some (decide (r.Hi ≤ high))) else (some false)) else (some false))
def prCount (r : Rg) : Option (Int) := (gd (fitsP .i64 (r.Hi - r.Lo)) (gd (fitsP .i64 ((r.Hi - r.Lo) + (1 : Int))) (some ((r.Hi - r.Lo) + (1 : Int)))))
def prIsRule_L0 (s : Ssn) (l : List Int) : Nat → Int → Option (Bool)
 | 0, _ => none
 | d23 + 1, x3 => (if x3 < (l.length : Int) then ((idx l x3).bind fun x25 => ((prIn x25 (0 : Int) (100 : Int)).bind fun r27 => (if r27 = true then (gd (fitsP .i64 (x3 + 1)) (prIsRule_L0 s l d23 (x3 + 1))) else (some false)))) else (gd (fitsP .i64 (s.Last + (1 : Int))) (some (decide ((l.length : Int) = (s.Last + (1 : Int)))))))
def prIsRule (s : Ssn) (l : List Int) : Option (Bool) := (prIsRule_L0 s l (l.length + 1) (0 : Int))
def prMany (fl : Fld) : Option (Int) := ((prCount fl.Week).bind fun r41 => ((prCount fl.Damage).bind fun r47 => (gd ((0 : Int) ≤ r41) (gd ((0 : Int) ≤ r47) (gd (fitsP .i64 (r41 * r47)) ((prCount fl.Old).bind fun r56 => (gd ((0 : Int) ≤ (r41 * r47)) (gd ((0 : Int) ≤ r56) (gd (fitsP .i64 ((r41 * r47) * r56)) (some ((r41 * r47) * r56)))))))))))
def prFault_L3 (s : Ssn) : Nat → Int → Option (Int)
 | 0, _ => none
 | d194 + 1, x90 => (if x90 < (s.Fields.length : Int) then ((idx s.Fields x90).bind fun v196 => ((prMany v196).bind fun r199 => (if (3000 : Int) < r199 then (some (3 : Int)) else (gd (fitsP .i64 (x90 + 1)) (prFault_L3 s d194 (x90 + 1)))))) else (some (0 : Int)))
def prFault_L2 (s : Ssn) : Nat → Int → Int → Option (Int)
 | 0, _, _ => none
 | d149 + 1, x61, x62 => (if x62 < (s.Visits.length : Int) then ((idx s.Visits x62).bind fun v151 => (gd (fitsP .i64 ((s.Fields.length : Int) - (1 : Int))) ((prIn v151.Field (0 : Int) ((s.Fields.length : Int) - (1 : Int))).bind fun r167 => (if r167 = true then ((prIn v151.Week (0 : Int) s.Last).bind fun r175 => (if r175 = true then ((prWithin v151.Seen (0 : Int) (100 : Int)).bind fun r183 => (if r183 = true then (gd (fitsP .i64 (x62 + 1)) (prFault_L2 s d149 x61 (x62 + 1))) else (some (1 : Int)))) else (some (1 : Int)))) else (some (1 : Int)))))) else (prFault_L3 s 1000000 (0 : Int)))
def prFault_L1 (s : Ssn) : Nat → Int → Int → Option (Int)
 | 0, _, _ => none
 | d96 + 1, x24, x25 => (if x25 < (s.Fields.length : Int) then ((idx s.Fields x25).bind fun v98 => (gd (fitsP .i64 ((s.Rules.length : Int) - (1 : Int))) ((prIn v98.Crop (0 : Int) ((s.Rules.length : Int) - (1 : Int))).bind fun r114 => (if r114 = true then ((prWithin v98.Week (0 : Int) s.Last).bind fun r122 => (if r122 = true then ((prWithin v98.Damage (0 : Int) (100 : Int)).bind fun r130 => (if r130 = true then ((prWithin v98.Old (0 : Int) (100 : Int)).bind fun r138 => (if r138 = true then (gd (fitsP .i64 (x25 + 1)) (prFault_L1 s d96 x24 (x25 + 1))) else (some (1 : Int)))) else (some (1 : Int)))) else (some (1 : Int)))) else (some (1 : Int)))))) else (prFault_L2 s 1000000 x24 (0 : Int)))
def prFault_L0 (s : Ssn) : Nat → Int → Int → Option (Int)
 | 0, _, _ => none
 | d79 + 1, x9, x10 => (if x10 < (s.Rules.length : Int) then ((idx s.Rules x10).bind fun v81 => ((prIsRule s v81).bind fun r86 => (if r86 = true then (gd (fitsP .i64 (x10 + 1)) (prFault_L0 s d79 x9 (x10 + 1))) else (some (1 : Int))))) else (prFault_L1 s 1000000 x9 (0 : Int)))
def prFault (s : Ssn) : Option (Int) := (if (12 : Int) < s.Last then (some (3 : Int)) else (if (3 : Int) < (s.Rules.length : Int) then (some (3 : Int)) else (if (3 : Int) < (s.Fields.length : Int) then (some (3 : Int)) else (if (6 : Int) < (s.Visits.length : Int) then (some (3 : Int)) else (if s.Last < (0 : Int) then (some (1 : Int)) else (if (s.Rules.length : Int) = (0 : Int) then (some (1 : Int)) else (if (s.Fields.length : Int) = (0 : Int) then (some (1 : Int)) else (prFault_L0 s 1000000 (0 : Int) (0 : Int)))))))))
def prNth (fl : Fld) (n : Int) : Option (Trh) := ((prCount fl.Week).bind fun r225 => (gd ((0 : Int) ≤ n) (gd ((0 : Int) < r225) (gd (fitsP .i64 (n % r225)) (gd (fitsP .i64 (fl.Week.Lo + (n % r225))) ((prCount fl.Week).bind fun r237 => (gd ((0 : Int) ≤ n) (gd ((0 : Int) < r237) (gd (fitsP .i64 (n / r237)) ((prCount fl.Damage).bind fun r255 => (gd ((0 : Int) ≤ (n / r237)) (gd ((0 : Int) < r255) (gd (fitsP .i64 ((n / r237) % r255)) (gd (fitsP .i64 (fl.Damage.Lo + ((n / r237) % r255))) ((prCount fl.Damage).bind fun r267 => (gd ((0 : Int) ≤ (n / r237)) (gd ((0 : Int) < r267) (gd (fitsP .i64 ((n / r237) / r267)) (gd (fitsP .i64 (fl.Old.Lo + ((n / r237) / r267))) (some ({ Week := (fl.Week.Lo + (n % r225)), Damage := (fl.Damage.Lo + ((n / r237) % r255)), Old := (fl.Old.Lo + ((n / r237) / r267)) } : Trh)))))))))))))))))))))
def prDamage_F : Nat → Ssn → Int → Trh → Int → Option (Int)
 | 0, _, _, _, _ => none
 | d_ + 1, s, crop, t, week => (if week < t.Week then (some (0 : Int)) else (if week = t.Week then (some t.Damage) else (gd (fitsP .i64 (week - 1)) ((prDamage_F d_ s crop t (week - 1)).bind fun r348 => ((idx s.Rules crop).bind fun v355 => ((idx v355 week).bind fun x360 => (gd ((0 : Int) ≤ r348) (gd ((0 : Int) ≤ x360) (gd (fitsP .i64 (r348 * x360)) (gd ((0 : Int) ≤ (r348 * x360)) (gd ((0 : Int) < (100 : Int)) (gd (fitsP .i64 ((r348 * x360) / (100 : Int))) (gd (fitsP .i64 (r348 - ((r348 * x360) / (100 : Int)))) (some (r348 - ((r348 * x360) / (100 : Int)))))))))))))))))
def prDamage (s : Ssn) (crop : Int) (t : Trh) (week : Int) : Option (Int) := prDamage_F ((week - t.Week).toNat + 2) s crop t week
def prSeen (s : Ssn) (field : Int) (t : Trh) (week : Int) : Option (Int) := ((idx s.Fields field).bind fun v401 => ((prDamage s v401.Crop t week).bind fun r404 => (gd (fitsP .i64 (t.Old + r404)) (some (min (100 : Int) (t.Old + r404))))))
def prCan_L1 (every : List (List Int)) (visits : Int) (x2 : Int) (K_R0 : Int → Option (Bool)) : Nat → Bool → Int → Option (Bool)
 | 0, _, _ => none
 | d573 + 1, b5, x6 => ((idx every x2).bind fun v574 => (if x6 < (v574.length : Int) then (if b5 = true then (gd (fitsP .i64 (x6 + 1)) (prCan_L1 every visits x2 K_R0 d573 true (x6 + 1))) else ((idx every x2).bind fun v582 => ((idx v582 x6).bind fun x587 => (gd ((0 : Int) ≤ x587) (gd ((0 : Int) ≤ visits) (gd (fitsP .i64 x587) (gd (fitsP .i64 visits) (gd (fitsP .i64 (((Nat.land (Int.toNat x587) (Int.toNat visits)) : Nat) : Int)) (gd (fitsP .i64 (x6 + 1)) (prCan_L1 every visits x2 K_R0 d573 (decide ((((Nat.land (Int.toNat x587) (Int.toNat visits)) : Nat) : Int) = visits)) (x6 + 1))))))))))) else (if b5 = true then (gd (fitsP .i64 (x2 + 1)) (K_R0 (x2 + 1))) else (some false))))
def prFull (s : Ssn) : Option (Int) := (gd ((0 : Int) ≤ (1 : Int)) (gd ((0 : Int) ≤ (wrapZ .u64 (s.Visits.length : Int))) (gd ((wrapZ .u64 (s.Visits.length : Int)) ≤ (64 : Int)) (gd (fitsP .i64 ((1 : Int) * ((2 : Int) ^ (Int.toNat (wrapZ .u64 (s.Visits.length : Int)))))) (gd (fitsP .i64 (((1 : Int) * ((2 : Int) ^ (Int.toNat (wrapZ .u64 (s.Visits.length : Int))))) - (1 : Int))) (some (((1 : Int) * ((2 : Int) ^ (Int.toNat (wrapZ .u64 (s.Visits.length : Int))))) - (1 : Int))))))))
def prTruths_L0 (s : Ssn) (field : Int) (r612 : List Int) : Nat → (List Trh) → Int → Option (List Trh)
 | 0, _, _ => none
 | d625 + 1, l623, x10 => (if x10 < (r612.length : Int) then ((idx r612 x10).bind fun x627 => ((prFull s).bind fun r629 => (if x627 = r629 then ((idx s.Fields field).bind fun v636 => ((prNth v636 x10).bind fun r639 => (gd (l623.length < 1048576) (gd (fitsP .i64 (x10 + 1)) (prTruths_L0 s field r612 d625 (l623 ++ [r639]) (x10 + 1)))))) else (gd (fitsP .i64 (x10 + 1)) (prTruths_L0 s field r612 d625 l623 (x10 + 1)))))) else (some l623))
def prBefore_L0 (a : List Int) (b : List Int) : Nat → Int → Option (Bool)
 | 0, _ => none
 | d1000 + 1, x2 => (if x2 < (a.length : Int) then (if x2 < (b.length : Int) then ((idx a x2).bind fun x1003 => ((idx b x2).bind fun x1005 => (if x1003 = x1005 then (gd (fitsP .i64 (x2 + 1)) (prBefore_L0 a b d1000 (x2 + 1))) else ((idx a x2).bind fun x1008 => ((idx b x2).bind fun x1010 => (some (decide (x1008 < x1010)))))))) else (some (decide ((a.length : Int) < (b.length : Int))))) else (some (decide ((a.length : Int) < (b.length : Int)))))
def prBefore (a : List Int) (b : List Int) : Option (Bool) := (prBefore_L0 a b (a.length + 1) (0 : Int))
def plList (l : List Int) : Option (List Int) := (gd (([] : List Int).length + l.length ≤ 1048576) (some ([] ++ l)))
def plTo (r : Rg) : Option (Rg) := (some r)
def plSeason_L2 (s : Ssn) (y1148 : List (List Int)) (y1198 : List Fld) : Nat → Int → (List Vis) → Int → Option (Ssn)
 | 0, _, _, _ => none
 | d1280 + 1, y1276, y1277, x60 => (if x60 < (s.Visits.length : Int) then ((idx s.Visits x60).bind fun v1282 => ((plTo v1282.Seen).bind fun r1301 => (gd (y1277.length < 1048576) (gd (fitsP .i64 (x60 + 1)) (plSeason_L2 s y1148 y1198 d1280 y1276 (y1277 ++ [({ Field := v1282.Field, Week := v1282.Week, Seen := r1301 } : Vis)]) (x60 + 1)))))) else (some ({ Last := y1276, Rules := y1148, Fields := y1198, Visits := y1277 } : Ssn)))
def plSeason_L1 (s : Ssn) (y1148 : List (List Int)) : Nat → Int → (List Fld) → (List Vis) → Int → Option (Ssn)
 | 0, _, _, _, _ => none
 | d1204 + 1, y1197, y1198, y1201, x21 => (if x21 < (s.Fields.length : Int) then ((idx s.Fields x21).bind fun v1206 => ((plTo v1206.Week).bind fun r1225 => ((plTo v1206.Damage).bind fun r1234 => ((plTo v1206.Old).bind fun r1243 => (gd (y1198.length < 1048576) (gd (fitsP .i64 (x21 + 1)) (plSeason_L1 s y1148 d1204 y1197 (y1198 ++ [({ Crop := v1206.Crop, Week := r1225, Damage := r1234, Old := r1243 } : Fld)]) y1201 (x21 + 1)))))))) else (plSeason_L2 s y1148 y1198 1000000 y1197 y1201 (0 : Int)))
def plSeason_L0 (s : Ssn) : Nat → Int → (List (List Int)) → (List Fld) → (List Vis) → Int → Option (Ssn)
 | 0, _, _, _, _, _ => none
 | d1157 + 1, y1147, y1148, y1151, y1154, x6 => (if x6 < (s.Rules.length : Int) then ((idx s.Rules x6).bind fun v1159 => ((plList v1159).bind fun r1164 => (gd (y1148.length < 1048576) (gd (fitsP .i64 (x6 + 1)) (plSeason_L0 s d1157 y1147 (y1148 ++ [r1164]) y1151 y1154 (x6 + 1)))))) else (plSeason_L1 s y1148 1000000 y1147 y1151 y1154 (0 : Int)))
def plSeason (s : Ssn) : Option (Ssn) := (plSeason_L0 s 1000000 s.Last [] [] [] (0 : Int))
def plTruth (t : Trh) : Option (Trh) := (some t)
def plThin_L1 (s : Ssn) (r1482 : Int) : Nat → Int → Option (Bool)
 | 0, _ => none
 | d1490 + 1, x21 => (if x21 < (s.Fields.length : Int) then (if (!(decide (r1482 = 0))) = true then (gd (fitsP .i64 (x21 + 1)) (plThin_L1 s r1482 d1490 (x21 + 1))) else ((idx s.Fields x21).bind fun v1493 => ((prMany v1493).bind fun r1496 => (if (200 : Int) < r1496 then (some false) else (gd (fitsP .i64 (x21 + 1)) (plThin_L1 s r1482 d1490 (x21 + 1))))))) else (some true))
def plThin_L0 (s : Ssn) : Nat → Bool → Int → Option (Bool)
 | 0, _, _ => none
 | d1473 + 1, b5, x6 => (if x6 < (s.Rules.length : Int) then ((idx s.Rules x6).bind fun v1475 => (if (20 : Int) < (v1475.length : Int) then (some false) else (gd (fitsP .i64 (x6 + 1)) (plThin_L0 s d1473 b5 (x6 + 1))))) else ((prFault s).bind fun r1482 => (plThin_L1 s r1482 1000000 (0 : Int))))
def plThin (s : Ssn) : Option (Bool) := (if (5 : Int) < (s.Rules.length : Int) then (some false) else (if (5 : Int) < (s.Fields.length : Int) then (some false) else (if (9 : Int) < (s.Visits.length : Int) then (some false) else (plThin_L0 s 1000000 false (0 : Int)))))
def plReady (s : Ssn) : Option (Bool) := ((plThin s).bind fun r1567 => (if r1567 = true then ((prFault s).bind fun r1574 => (some (decide (r1574 = 0)))) else (some false)))
def plWord (words : List W16) (ix : Int) : Option (Int) := (if (words.length : Int) = (0 : Int) then (some (0 : Int)) else (gd ((0 : Int) ≤ ix) (gd ((0 : Int) < (words.length : Int)) (gd (fitsP .i64 (ix % (words.length : Int))) ((idx words (ix % (words.length : Int))).bind fun v1584 => (some (wrapZ .i64 v1584.v)))))))
def plVisited_L1 (s : Ssn) (words : List W16) (l1599 : List Trh) : Nat → Int → (List Vis) → Int → Option (Ssn × List Trh)
 | 0, _, _, _ => none
 | d1679 + 1, y1675, y1676, x47 => ((plWord words (1 : Int)).bind fun r1680 => (gd ((0 : Int) ≤ r1680) (gd ((0 : Int) < (7 : Int)) (gd (fitsP .i64 (r1680 % 7)) (if x47 < (r1680 % 7) then (gd (fitsP .i64 (x47 + 3)) ((plWord words (x47 + 3)).bind fun r1693 => (gd ((0 : Int) ≤ r1693) (gd ((0 : Int) < (s.Fields.length : Int)) (gd (fitsP .i64 (r1693 % (s.Fields.length : Int))) (gd ((0 : Int) ≤ r1693) (gd ((0 : Int) < (4 : Int)) (gd (fitsP .i64 (r1693 / 4)) (gd (fitsP .i64 (s.Last + (1 : Int))) (gd ((0 : Int) ≤ (r1693 / 4)) (gd ((0 : Int) < (s.Last + (1 : Int))) (gd (fitsP .i64 ((r1693 / 4) % (s.Last + (1 : Int)))) ((idx l1599 (r1693 % (s.Fields.length : Int))).bind fun v1727 => ((prSeen s (r1693 % (s.Fields.length : Int)) v1727 ((r1693 / 4) % (s.Last + (1 : Int)))).bind fun r1730 => (gd ((0 : Int) ≤ r1693) (gd ((0 : Int) < (64 : Int)) (gd (fitsP .i64 (r1693 / 64)) (gd ((0 : Int) ≤ (r1693 / 64)) (gd ((0 : Int) < (6 : Int)) (gd (fitsP .i64 ((r1693 / 64) % (6 : Int))) (gd (fitsP .i64 (r1730 - ((r1693 / 64) % (6 : Int)))) (gd ((0 : Int) ≤ r1693) (gd ((0 : Int) < (512 : Int)) (gd (fitsP .i64 (r1693 / 512)) (gd ((0 : Int) ≤ (r1693 / 512)) (gd ((0 : Int) < (6 : Int)) (gd (fitsP .i64 ((r1693 / 512) % (6 : Int))) (gd (fitsP .i64 (r1730 + ((r1693 / 512) % (6 : Int)))) (gd (y1676.length < 1048576) (gd (fitsP .i64 (x47 + 1)) (plVisited_L1 s words l1599 d1679 y1675 (y1676 ++ [({ Field := (r1693 % (s.Fields.length : Int)), Week := ((r1693 / 4) % (s.Last + (1 : Int))), Seen := ({ Lo := (max (0 : Int) (r1730 - ((r1693 / 64) % (6 : Int)))), Hi := (min (100 : Int) (r1730 + ((r1693 / 512) % (6 : Int)))) } : Rg) } : Vis)]) (x47 + 1)))))))))))))))))))))))))))))))) else (some (({ Last := y1675, Rules := s.Rules, Fields := s.Fields, Visits := y1676 } : Ssn), l1599)))))))
def plVisited_L0 (s : Ssn) (words : List W16) : Nat → (List Trh) → Int → Option (Ssn × List Trh)
 | 0, _, _ => none
 | d1601 + 1, l1599, x4 => (if x4 < (s.Fields.length : Int) then ((idx s.Fields x4).bind fun v1603 => ((plWord words x4).bind fun r1606 => ((idx s.Fields x4).bind fun v1613 => ((prMany v1613).bind fun r1616 => (gd ((0 : Int) ≤ r1606) (gd ((0 : Int) < r1616) (gd (fitsP .i64 (r1606 % r1616)) ((prNth v1603 (r1606 % r1616)).bind fun r1626 => (gd (l1599.length < 1048576) (gd (fitsP .i64 (x4 + 1)) (plVisited_L0 s words d1601 (l1599 ++ [r1626]) (x4 + 1)))))))))))) else (plVisited_L1 s words l1599 1000000 s.Last [] (0 : Int)))
def plVisited (s : Ssn) (words : List W16) : Option (Ssn × List Trh) := (plVisited_L0 s words 1000000 [] (0 : Int))
def plIn (n : Int) (r : Rg) : Option (Bool) := (if r.Lo ≤ n then (some (decide (n ≤ r.Hi))) else (some false))
def phas (r : Rg) (n : Int) : Option (Bool) := (if r.Lo ≤ n then (some (decide (n ≤ r.Hi))) else (some false))
def pcount (r : Rg) : Option (Int) := (gd (fitsP .i64 (r.Hi - r.Lo)) (gd (fitsP .i64 ((r.Hi - r.Lo) + (1 : Int))) (some ((r.Hi - r.Lo) + (1 : Int)))))
def pwithin (r : Rg) (low : Int) (high : Int) : Option (Bool) := (if low ≤ r.Lo then (if r.Lo ≤ r.Hi then (some (decide (r.Hi ≤ high))) else (some false)) else (some false))
def pisHundredths (n : Int) : Option (Bool) := ((phas ({ Lo := (0 : Int), Hi := (100 : Int) } : Rg) n).bind fun r1909 => (some r1909))
def phasField (s : Ssn) (n : Int) : Option (Bool) := (gd (fitsP .i64 ((s.Fields.length : Int) - (1 : Int))) ((phas ({ Lo := (0 : Int), Hi := ((s.Fields.length : Int) - (1 : Int)) } : Rg) n).bind fun r1920 => (some r1920)))
def phasWeek (s : Ssn) (n : Int) : Option (Bool) := ((phas ({ Lo := (0 : Int), Hi := s.Last } : Rg) n).bind fun r1931 => (some r1931))
def ptooMany (s : Ssn) : Option (Bool) := (if (12 : Int) < s.Last then (some true) else (if (3 : Int) < (s.Rules.length : Int) then (some true) else (if (3 : Int) < (s.Fields.length : Int) then (some true) else (some (decide ((6 : Int) < (s.Visits.length : Int)))))))
def peachI1 (x : Int) (passes : Int → Option (Bool)) : Option (Bool) := ((passes x).bind fun r1945 => (some (!r1945)))
def pindexI_L0 (l : List Int) (p : Int → Option (Bool)) : Nat → Int → Option (Int)
 | 0, _ => none
 | d1952 + 1, x2 => (if x2 < (l.length : Int) then ((idx l x2).bind fun x1954 => ((p x1954).bind fun r1956 => (if r1956 = true then (some x2) else (gd (fitsP .i64 (x2 + 1)) (pindexI_L0 l p d1952 (x2 + 1)))))) else (some (-1 : Int)))
def pindexI (l : List Int) (p : Int → Option (Bool)) : Option (Int) := (pindexI_L0 l p (l.length + 1) (0 : Int))
def pcontainsI (l : List Int) (p : Int → Option (Bool)) : Option (Bool) := ((pindexI l p).bind fun r1963 => (some (decide ((0 : Int) ≤ r1963))))
def peachI (l : List Int) (passes : Int → Option (Bool)) : Option (Bool) := ((pcontainsI l (fun a1977 => peachI1 a1977 passes)).bind fun r1979 => (some (!r1979)))
def peachL1 (x : List Int) (passes : List Int → Option (Bool)) : Option (Bool) := ((passes x).bind fun r1984 => (some (!r1984)))
def pindexL_L0 (l : List (List Int)) (p : List Int → Option (Bool)) : Nat → Int → Option (Int)
 | 0, _ => none
 | d1991 + 1, x2 => (if x2 < (l.length : Int) then ((idx l x2).bind fun v1993 => ((p v1993).bind fun r1998 => (if r1998 = true then (some x2) else (gd (fitsP .i64 (x2 + 1)) (pindexL_L0 l p d1991 (x2 + 1)))))) else (some (-1 : Int)))
def pindexL (l : List (List Int)) (p : List Int → Option (Bool)) : Option (Int) := (pindexL_L0 l p (l.length + 1) (0 : Int))
def pcontainsL (l : List (List Int)) (p : List Int → Option (Bool)) : Option (Bool) := ((pindexL l p).bind fun r2005 => (some (decide ((0 : Int) ≤ r2005))))
def peachL (l : List (List Int)) (passes : List Int → Option (Bool)) : Option (Bool) := ((pcontainsL l (fun a2019 => peachL1 a2019 passes)).bind fun r2023 => (some (!r2023)))
def peachF1 (x : Fld) (passes : Fld → Option (Bool)) : Option (Bool) := ((passes x).bind fun r2033 => (some (!r2033)))
def pindexF_L0 (l : List Fld) (p : Fld → Option (Bool)) : Nat → Int → Option (Int)
 | 0, _ => none
 | d2041 + 1, x2 => (if x2 < (l.length : Int) then ((idx l x2).bind fun v2043 => ((p v2043).bind fun r2046 => (if r2046 = true then (some x2) else (gd (fitsP .i64 (x2 + 1)) (pindexF_L0 l p d2041 (x2 + 1)))))) else (some (-1 : Int)))
def pindexF (l : List Fld) (p : Fld → Option (Bool)) : Option (Int) := (pindexF_L0 l p (l.length + 1) (0 : Int))
def pcontainsF (l : List Fld) (p : Fld → Option (Bool)) : Option (Bool) := ((pindexF l p).bind fun r2053 => (some (decide ((0 : Int) ≤ r2053))))
def peachF (l : List Fld) (passes : Fld → Option (Bool)) : Option (Bool) := ((pcontainsF l (fun a2067 => peachF1 a2067 passes)).bind fun r2069 => (some (!r2069)))
def peachV1 (x : Vis) (passes : Vis → Option (Bool)) : Option (Bool) := ((passes x).bind fun r2079 => (some (!r2079)))
def pindexV_L0 (l : List Vis) (p : Vis → Option (Bool)) : Nat → Int → Option (Int)
 | 0, _ => none
 | d2087 + 1, x2 => (if x2 < (l.length : Int) then ((idx l x2).bind fun v2089 => ((p v2089).bind fun r2092 => (if r2092 = true then (some x2) else (gd (fitsP .i64 (x2 + 1)) (pindexV_L0 l p d2087 (x2 + 1)))))) else (some (-1 : Int)))
def pindexV (l : List Vis) (p : Vis → Option (Bool)) : Option (Int) := (pindexV_L0 l p (l.length + 1) (0 : Int))
def pcontainsV (l : List Vis) (p : Vis → Option (Bool)) : Option (Bool) := ((pindexV l p).bind fun r2099 => (some (decide ((0 : Int) ≤ r2099))))
def peachV (l : List Vis) (passes : Vis → Option (Bool)) : Option (Bool) := ((pcontainsV l (fun a2113 => peachV1 a2113 passes)).bind fun r2115 => (some (!r2115)))
def peachD1 (x : Dm) (passes : Dm → Option (Bool)) : Option (Bool) := ((passes x).bind fun r2125 => (some (!r2125)))
def pindexD_L0 (l : List Dm) (p : Dm → Option (Bool)) : Nat → Int → Option (Int)
 | 0, _ => none
 | d2133 + 1, x2 => (if x2 < (l.length : Int) then ((idx l x2).bind fun v2135 => ((p v2135).bind fun r2138 => (if r2138 = true then (some x2) else (gd (fitsP .i64 (x2 + 1)) (pindexD_L0 l p d2133 (x2 + 1)))))) else (some (-1 : Int)))
def pindexD (l : List Dm) (p : Dm → Option (Bool)) : Option (Int) := (pindexD_L0 l p (l.length + 1) (0 : Int))
def pcontainsD (l : List Dm) (p : Dm → Option (Bool)) : Option (Bool) := ((pindexD l p).bind fun r2145 => (some (decide ((0 : Int) ≤ r2145))))
def peachD (l : List Dm) (passes : Dm → Option (Bool)) : Option (Bool) := ((pcontainsD l (fun a2159 => peachD1 a2159 passes)).bind fun r2161 => (some (!r2161)))
def pvalidRule (s : Ssn) (rule : List Int) : Option (Bool) := (gd (fitsP .i64 (s.Last + (1 : Int))) (if (rule.length : Int) = (s.Last + (1 : Int)) then ((peachI rule (fun a2173 => pisHundredths a2173)).bind fun r2175 => (some r2175)) else (some false)))
def pvalidField (s : Ssn) (fl : Fld) : Option (Bool) := (gd (fitsP .i64 ((s.Rules.length : Int) - (1 : Int))) ((phas ({ Lo := (0 : Int), Hi := ((s.Rules.length : Int) - (1 : Int)) } : Rg) fl.Crop).bind fun r2193 => (if r2193 = true then ((pwithin fl.Week (0 : Int) s.Last).bind fun r2201 => (if r2201 = true then ((pwithin fl.Damage (0 : Int) (100 : Int)).bind fun r2209 => (if r2209 = true then ((pwithin fl.Old (0 : Int) (100 : Int)).bind fun r2217 => (some r2217)) else (some false))) else (some false))) else (some false))))
def pvalidVisit (s : Ssn) (v : Vis) : Option (Bool) := ((phasField s v.Field).bind fun r2235 => (if r2235 = true then ((phasWeek s v.Week).bind fun r2243 => (if r2243 = true then ((pwithin v.Seen (0 : Int) (100 : Int)).bind fun r2251 => (some r2251)) else (some false))) else (some false)))
def phasFew (fl : Fld) : Option (Bool) := ((pcount fl.Week).bind fun r2263 => ((pcount fl.Damage).bind fun r2269 => (gd ((0 : Int) ≤ r2263) (gd ((0 : Int) ≤ r2269) (gd (fitsP .i64 (r2263 * r2269)) ((pcount fl.Old).bind fun r2278 => (gd ((0 : Int) ≤ (r2263 * r2269)) (gd ((0 : Int) ≤ r2278) (gd (fitsP .i64 ((r2263 * r2269) * r2278)) (some (decide (((r2263 * r2269) * r2278) ≤ (3000 : Int)))))))))))))
def pisChoice (fl : Fld) (t : Trh) : Option (Bool) := ((phas fl.Week t.Week).bind fun r2298 => (if r2298 = true then ((phas fl.Damage t.Damage).bind fun r2306 => (if r2306 = true then ((phas fl.Old t.Old).bind fun r2314 => (some r2314)) else (some false))) else (some false)))
def pvalid (s : Ssn) : Option (Bool) := (if (0 : Int) ≤ s.Last then (if (0 : Int) < (s.Rules.length : Int) then (if (0 : Int) < (s.Fields.length : Int) then ((peachL s.Rules (fun a2329 => pvalidRule s a2329)).bind fun r2333 => (if r2333 = true then ((peachF s.Fields (fun a2340 => pvalidField s a2340)).bind fun r2342 => (if r2342 = true then ((peachV s.Visits (fun a2349 => pvalidVisit s a2349)).bind fun r2351 => (some r2351)) else (some false))) else (some false))) else (some false)) else (some false)) else (some false))
def pcheck (s : Ssn) : Option (Int) := ((ptooMany s).bind fun r2362 => (if r2362 = true then (some (3 : Int)) else ((pvalid s).bind fun r2369 => (if r2369 = true then ((peachF s.Fields (fun a2376 => phasFew a2376)).bind fun r2378 => (if r2378 = true then (some (0 : Int)) else (some (3 : Int)))) else (some (1 : Int))))))
def pgrow_L0 (s : Ssn) (p : Plt) : Nat → Int → Int → Int → Int → Int → Int → Int → Int → Int → Int → Int → Int → Int → Int → Int → Option (Dm)
 | 0, _, _, _, _, _, _, _, _, _, _, _, _, _, _, _ => none
 | d2426 + 1, y2413, y2414, y2415, y2416, y2417, y2418, y2419, y2420, y2421, y2422, y2423, y2424, y2425, x5, x7 => (if x7 < 13 then (if x7 = p.t.Week then (gd (0 ≤ x7 ∧ x7 < 13) (gd (fitsP .i64 (x7 + 1)) (pgrow_L0 s p d2426 (sti x7 0 p.t.Damage y2413) (sti x7 1 p.t.Damage y2414) (sti x7 2 p.t.Damage y2415) (sti x7 3 p.t.Damage y2416) (sti x7 4 p.t.Damage y2417) (sti x7 5 p.t.Damage y2418) (sti x7 6 p.t.Damage y2419) (sti x7 7 p.t.Damage y2420) (sti x7 8 p.t.Damage y2421) (sti x7 9 p.t.Damage y2422) (sti x7 10 p.t.Damage y2423) (sti x7 11 p.t.Damage y2424) (sti x7 12 p.t.Damage y2425) p.t.Damage (x7 + 1)))) else (if x7 ≤ s.Last then ((idx s.Rules p.crop).bind fun v2440 => ((idx v2440 x7).bind fun x2445 => (gd ((0 : Int) ≤ x5) (gd ((0 : Int) ≤ x2445) (gd (fitsP .i64 (x5 * x2445)) (gd ((0 : Int) ≤ (x5 * x2445)) (gd ((0 : Int) < (100 : Int)) (gd (fitsP .i64 ((x5 * x2445) / (100 : Int))) (gd (fitsP .i64 (x5 - ((x5 * x2445) / (100 : Int)))) (gd (0 ≤ x7 ∧ x7 < 13) (gd (fitsP .i64 (x7 + 1)) (pgrow_L0 s p d2426 (sti x7 0 (x5 - ((x5 * x2445) / (100 : Int))) y2413) (sti x7 1 (x5 - ((x5 * x2445) / (100 : Int))) y2414) (sti x7 2 (x5 - ((x5 * x2445) / (100 : Int))) y2415) (sti x7 3 (x5 - ((x5 * x2445) / (100 : Int))) y2416) (sti x7 4 (x5 - ((x5 * x2445) / (100 : Int))) y2417) (sti x7 5 (x5 - ((x5 * x2445) / (100 : Int))) y2418) (sti x7 6 (x5 - ((x5 * x2445) / (100 : Int))) y2419) (sti x7 7 (x5 - ((x5 * x2445) / (100 : Int))) y2420) (sti x7 8 (x5 - ((x5 * x2445) / (100 : Int))) y2421) (sti x7 9 (x5 - ((x5 * x2445) / (100 : Int))) y2422) (sti x7 10 (x5 - ((x5 * x2445) / (100 : Int))) y2423) (sti x7 11 (x5 - ((x5 * x2445) / (100 : Int))) y2424) (sti x7 12 (x5 - ((x5 * x2445) / (100 : Int))) y2425) (x5 - ((x5 * x2445) / (100 : Int))) (x7 + 1))))))))))))) else (gd (0 ≤ x7 ∧ x7 < 13) (gd (fitsP .i64 (x7 + 1)) (pgrow_L0 s p d2426 (sti x7 0 x5 y2413) (sti x7 1 x5 y2414) (sti x7 2 x5 y2415) (sti x7 3 x5 y2416) (sti x7 4 x5 y2417) (sti x7 5 x5 y2418) (sti x7 6 x5 y2419) (sti x7 7 x5 y2420) (sti x7 8 x5 y2421) (sti x7 9 x5 y2422) (sti x7 10 x5 y2423) (sti x7 11 x5 y2424) (sti x7 12 x5 y2425) x5 (x7 + 1)))))) else (some ({ d0 := y2413, d1 := y2414, d2 := y2415, d3 := y2416, d4 := y2417, d5 := y2418, d6 := y2419, d7 := y2420, d8 := y2421, d9 := y2422, d10 := y2423, d11 := y2424, d12 := y2425 } : Dm)))
def pgrow (s : Ssn) (p : Plt) : Option (Dm) := (pgrow_L0 s p (Int.toNat (13 : Int) + 1) (0 : Int) (0 : Int) (0 : Int) (0 : Int) (0 : Int) (0 : Int) (0 : Int) (0 : Int) (0 : Int) (0 : Int) (0 : Int) (0 : Int) (0 : Int) (0 : Int) (0 : Int))
def pfollow (s : Ssn) (field : Int) (t : Trh) : Option (Crs × Bool) := ((pcheck s).bind fun r2500 => (if r2500 = 0 then ((phasField s field).bind fun r2516 => (if r2516 = true then ((idx s.Fields field).bind fun v2532 => ((pisChoice v2532 t).bind fun r2535 => (if r2535 = true then ((idx s.Fields field).bind fun v2551 => ((pgrow s ({ t := t, crop := v2551.Crop } : Plt)).bind fun r2554 => (some (({ t := t, d := r2554 } : Crs), true)))) else (some (({ t := ({ Week := (0 : Int), Damage := (0 : Int), Old := (0 : Int) } : Trh), d := ({ d0 := (0 : Int), d1 := (0 : Int), d2 := (0 : Int), d3 := (0 : Int), d4 := (0 : Int), d5 := (0 : Int), d6 := (0 : Int), d7 := (0 : Int), d8 := (0 : Int), d9 := (0 : Int), d10 := (0 : Int), d11 := (0 : Int), d12 := (0 : Int) } : Dm) } : Crs), false))))) else (some (({ t := ({ Week := (0 : Int), Damage := (0 : Int), Old := (0 : Int) } : Trh), d := ({ d0 := (0 : Int), d1 := (0 : Int), d2 := (0 : Int), d3 := (0 : Int), d4 := (0 : Int), d5 := (0 : Int), d6 := (0 : Int), d7 := (0 : Int), d8 := (0 : Int), d9 := (0 : Int), d10 := (0 : Int), d11 := (0 : Int), d12 := (0 : Int) } : Dm) } : Crs), false)))) else (some (({ t := ({ Week := (0 : Int), Damage := (0 : Int), Old := (0 : Int) } : Trh), d := ({ d0 := (0 : Int), d1 := (0 : Int), d2 := (0 : Int), d3 := (0 : Int), d4 := (0 : Int), d5 := (0 : Int), d6 := (0 : Int), d7 := (0 : Int), d8 := (0 : Int), d9 := (0 : Int), d10 := (0 : Int), d11 := (0 : Int), d12 := (0 : Int) } : Dm) } : Crs), false))))
def pharvestD (d : Dm) : Option (Int) := ((idx ([d.d0, d.d1, d.d2, d.d3, d.d4, d.d5, d.d6, d.d7, d.d8, d.d9, d.d10, d.d11, d.d12] : List Int) (12 : Int)).bind fun v2575 => (some v2575))
def pcWeek (c : Crs) : Option (Int) := (some c.t.Week)
def pcDamage (c : Crs) : Option (Int) := (some c.t.Damage)
def pcOld (c : Crs) : Option (Int) := (some c.t.Old)
def pseen (c : Crs) (week : Int) : Option (Int) := ((idx ([c.d.d0, c.d.d1, c.d.d2, c.d.d3, c.d.d4, c.d.d5, c.d.d6, c.d.d7, c.d.d8, c.d.d9, c.d.d10, c.d.d11, c.d.d12] : List Int) week).bind fun v2597 => (gd (fitsP .i64 (c.t.Old + v2597)) (some (min (c.t.Old + v2597) (100 : Int)))))
def pHarvest (s : Ssn) (field : Int) (t : Trh) : Option (Int) := ((pfollow s field t).bind fun r2610 => (if r2610.2 = true then ((pharvestD r2610.1.d).bind fun r2632 => (some r2632)) else (some (0 : Int))))
def pallows1 (v : Vis) (field : Int) (c : Crs) : Option (Bool) := (if v.Field = field then ((pseen c v.Week).bind fun r2646 => ((phas v.Seen r2646).bind fun r2652 => (some r2652))) else (some true))
def pallows (s : Ssn) (field : Int) (c : Crs) : Option (Bool) := ((peachV s.Visits (fun a2687 => pallows1 a2687 field c)).bind fun r2689 => (some r2689))
def pproveTruth (s : Ssn) (field : Int) (t : Trh) : Option (Bool) := ((pfollow s field t).bind fun r2706 => (if r2706.2 = true then ((pallows s field r2706.1).bind fun r2728 => (some r2728)) else (some false)))
def pnumbersI_L0 (r : Rg) (r2736 : Int) : Nat → Int → Option (List Int)
 | 0, _ => none
 | d2747 + 1, x6 => (if x6 < r2736 then (gd (fitsP .i64 (r.Lo + x6)) (((gd (fitsP .i64 (x6 + 1)) (pnumbersI_L0 r r2736 d2747 (x6 + 1)))).bind fun r2750 => some ((r.Lo + x6) :: r2750))) else (some []))
def pnumbersI (r : Rg) : Option (List Int) := ((pcount r).bind fun r2736 => (pnumbersI_L0 r r2736 (Int.toNat r2736 + 1) (0 : Int)))
def pnumbers (r : Rg) : Option (List Int) := ((pnumbersI r).bind fun l2773 => (some l2773))
def pplant (fl : Fld) (week : Int) (damage : Int) : Option (Plt) := (some ({ t := ({ Week := week, Damage := damage, Old := (0 : Int) } : Trh), crop := fl.Crop } : Plt))
def popen_L1_xret (_s : Ssn) (_w2871 : Option (Plt → Option (Dm))) : Option (Wk) := (some ({ s := ({ Last := (0 : Int), Rules := [], Fields := [], Visits := [] } : Ssn), damages := none } : Wk))
def popen_L2 (s : Ssn) (v2833 : Fld) (a2877 : Int) (K_X1 : (Option (Plt → Option (Dm))) → Option (Wk)) : List Int → (Option (Plt → Option (Dm))) → Option (Wk)
 | [], w2944 => (K_X1 w2944)
 | a2947 :: q2948, w2944 => ((pplant v2833 a2877 a2947).bind fun r2973 => ((pgrow s r2973).bind fun r3012 => (gd (MK.fit r2973) ((mset w2944 r2973 r3012).bind fun w3027 => ((popen_L2 s v2833 a2877 K_X1 q2948) w3027)))))
def popen_L1 (s : Ssn) (x11 : Int) (v2833 : Fld) (K_R10 : (Option (Plt → Option (Dm))) → Int → Option (Wk)) : List Int → (Option (Plt → Option (Dm))) → Option (Wk)
 | [], w2871 => (gd (fitsP .i64 (x11 + 1)) (K_R10 w2871 (x11 + 1)))
 | a2877 :: q2878, w2871 => ((pnumbers v2833.Damage).bind fun r2924 => (popen_L2 s v2833 a2877 ((popen_L1 s x11 v2833 K_R10 q2878)) r2924 w2871))
def popen_L0 (s : Ssn) : Nat → (Option (Plt → Option (Dm))) → Int → Option (Wk)
 | 0, _, _ => none
 | d2831 + 1, w2830, x11 => (if x11 < (s.Fields.length : Int) then ((idx s.Fields x11).bind fun v2833 => ((pnumbers v2833.Week).bind fun r2854 => (popen_L1 s x11 v2833 (popen_L0 s d2831) r2854 w2830))) else (some ({ s := s, damages := w2830 } : Wk)))
def popen (s : Ssn) : Option (Wk) := (popen_L0 s (s.Fields.length + 1) (some fun _ => none : Option (Plt → Option (Dm))) (0 : Int))
def pchoicesI_L0_xret : Option (List Crs) := (some [])
def pchoicesI_L1_xret : Option (List Crs) := (pchoicesI_L0_xret)
def pchoicesI_L2_xret : Option (List Crs) := (pchoicesI_L1_xret)
def pchoicesI_L2 (a3091 : Int) (a3152 : Int) (K_X1 : Option (List Crs)) : List Int → Option (List Crs)
 | [] => (K_X1)
 | a3273 :: q3274 => ((((pchoicesI_L2 a3091 a3152 K_X1 q3274))).bind fun r3299 => some (({ t := ({ Week := a3091, Damage := a3152, Old := a3273 } : Trh), d := ({ d0 := (0 : Int), d1 := (0 : Int), d2 := (0 : Int), d3 := (0 : Int), d4 := (0 : Int), d5 := (0 : Int), d6 := (0 : Int), d7 := (0 : Int), d8 := (0 : Int), d9 := (0 : Int), d10 := (0 : Int), d11 := (0 : Int), d12 := (0 : Int) } : Dm) } : Crs) :: r3299))
def pchoicesI_L3_xret : Option (List Crs) := (pchoicesI_L1_xret)
def pchoicesI_L3 (a3091 : Int) (a3152 : Int) (w3222 : Dm) (K_X1 : Option (List Crs)) : List Int → Option (List Crs)
 | [] => (K_X1)
 | a3380 :: q3381 => ((((pchoicesI_L3 a3091 a3152 w3222 K_X1 q3381))).bind fun r3406 => some (({ t := ({ Week := a3091, Damage := a3152, Old := a3380 } : Trh), d := w3222 } : Crs) :: r3406))
def pchoicesI_L1 (fl : Fld) (w : Wk) (a3091 : Int) (K_X0 : Option (List Crs)) : List Int → Option (List Crs)
 | [] => (K_X0)
 | a3152 :: q3153 => ((pplant fl a3091 a3152).bind fun r3208 => (gd (MK.fit r3208) (mcase (mget w.damages r3208) ((pnumbers fl.Old).bind fun r3244 => (pchoicesI_L2 a3091 a3152 ((pchoicesI_L1 fl w a3091 K_X0 q3153)) r3244)) fun w3222 => ((pnumbers fl.Old).bind fun r3351 => (pchoicesI_L3 a3091 a3152 w3222 ((pchoicesI_L1 fl w a3091 K_X0 q3153)) r3351)))))
def pchoicesI_L0 (fl : Fld) (w : Wk) : List Int → Option (List Crs)
 | [] => (some [])
 | a3091 :: q3092 => ((pnumbers fl.Damage).bind fun r3129 => (pchoicesI_L1 fl w a3091 ((pchoicesI_L0 fl w q3092)) r3129))
def pchoicesI (fl : Fld) (w : Wk) : Option (List Crs) := ((pnumbers fl.Week).bind fun r3072 => (pchoicesI_L0 fl w r3072))
def pchoices (w : Wk) (fl : Fld) : Option (List Crs) := ((pchoicesI fl w).bind fun l3465 => (some l3465))
def ptruthsI_L0_xret : Option (List Crs) := (some [])
def ptruthsI_L0 (w : Wk) (field : Int) : List Crs → Option (List Crs)
 | [] => (some [])
 | a3496 :: q3497 => ((pallows w.s field a3496).bind fun r3534 => (if r3534 = true then ((((ptruthsI_L0 w field q3497))).bind fun r3544 => some (a3496 :: r3544)) else ((ptruthsI_L0 w field q3497))))
def ptruthsI (w : Wk) (field : Int) : Option (List Crs) := ((idx w.s.Fields field).bind fun v3474 => ((pchoices w v3474).bind fun r3477 => (ptruthsI_L0 w field r3477)))
def ptruths (w : Wk) (field : Int) : Option (List Crs) := ((ptruthsI w field).bind fun l3587 => (some l3587))
def phasTruthOf_L0_xret (y3612 : Bool) : Option (Bool) := (some y3612)
def phasTruthOf_L0 : List Crs → Bool → Option (Bool)
 | [], _y3612 => (some false)
 | _a3618 :: _q3619, _y3612 => (phasTruthOf_L0_xret true)
def phasTruthOf (w : Wk) (field : Int) : Option (Bool) := ((ptruths w field).bind fun r3601 => (phasTruthOf_L0 r3601 false))
def phasTruth_L0 (w : Wk) : Nat → Int → Option (Bool)
 | 0, _ => none
 | d3663 + 1, x4 => (if x4 < (w.s.Fields.length : Int) then ((phasTruthOf w x4).bind fun r3665 => (if r3665 = true then (gd (fitsP .i64 (x4 + 1)) (phasTruth_L0 w d3663 (x4 + 1))) else (some false))) else (some true))
def phasTruth (w : Wk) : Option (Bool) := (phasTruth_L0 w (w.s.Fields.length + 1) (0 : Int))
def pwth (w : Wk) (visits : List Vis) : Option (Wk) := (some ({ s := ({ Last := w.s.Last, Rules := w.s.Rules, Fields := w.s.Fields, Visits := visits } : Ssn), damages := w.damages } : Wk))
def popenTrue (s : Ssn) : Option (Wk × Int) := ((pcheck s).bind fun r3707 => (if r3707 = 0 then ((popen s).bind fun r3721 => ((phasTruth r3721).bind fun r3751 => (if r3751 = true then (some (r3721, (0 : Int))) else (some (({ s := ({ Last := (0 : Int), Rules := [], Fields := [], Visits := [] } : Ssn), damages := none } : Wk), (11 : Int)))))) else (some (({ s := ({ Last := (0 : Int), Rules := [], Fields := [], Visits := [] } : Ssn), damages := none } : Wk), r3707))))
def popenAsked (s : Ssn) (field : Int) (known : Bool) : Option (Wk × Int) := ((pcheck s).bind fun r3785 => (if r3785 = 0 then ((phasField s field).bind fun r3799 => (if r3799 = true then (if known = true then ((popenTrue s).bind fun r3820 => (some (r3820.1, r3820.2))) else (some (({ s := ({ Last := (0 : Int), Rules := [], Fields := [], Visits := [] } : Ssn), damages := none } : Wk), (2 : Int)))) else (some (({ s := ({ Last := (0 : Int), Rules := [], Fields := [], Visits := [] } : Ssn), damages := none } : Wk), (2 : Int))))) else (some (({ s := ({ Last := (0 : Int), Rules := [], Fields := [], Visits := [] } : Ssn), damages := none } : Wk), r3785))))
def pminimum_L0 (l : List Int) : Nat → Int → Int → Option (Int)
 | 0, _, _ => none
 | d3862 + 1, x3, x4 => (if x4 < (l.length : Int) then ((idx l x4).bind fun x3864 => (if x3864 < x3 then (gd (fitsP .i64 (x4 + 1)) (pminimum_L0 l d3862 x3864 (x4 + 1))) else (gd (fitsP .i64 (x4 + 1)) (pminimum_L0 l d3862 x3 (x4 + 1))))) else (some x3))
def pminimum (l : List Int) : Option (Int) := (if (l.length : Int) = (0 : Int) then (some (0 : Int)) else ((idx l (0 : Int)).bind fun x3858 => (pminimum_L0 l (l.length + 1) x3858 (0 : Int))))
def psMax_L0 (l : List Int) : Nat → Int → Int → Option (Int)
 | 0, _, _ => none
 | d3874 + 1, x3, x4 => (if x4 < (l.length : Int) then ((idx l x4).bind fun x3876 => (gd (fitsP .i64 (x4 + 1)) (psMax_L0 l d3874 (max x3 x3876) (x4 + 1)))) else (some x3))
def psMax (l : List Int) : Option (Int) := (if (l.length : Int) < (1 : Int) then none else ((idx l (0 : Int)).bind fun x3870 => (psMax_L0 l (((l.length : Int) - (1 : Int)).toNat + 1) x3870 (1 : Int))))
def pspan_L0 (q : Qn) : List Crs → (List Int) → Option (Rg)
 | [], y3920 => ((pminimum y3920).bind fun r4016 => ((psMax y3920).bind fun r4026 => (some ({ Lo := r4016, Hi := r4026 } : Rg))))
 | a3924 :: q3925, y3920 => ((q.number a3924).bind fun r3968 => (gd (y3920.length < 1048576) ((pspan_L0 q q3925) (y3920 ++ [r3968]))))
def pspan (w : Wk) (field : Int) (q : Qn) : Option (Rg) := ((ptruths w field).bind fun r3905 => (pspan_L0 q r3905 []))
def pbound (w : Wk) (field : Int) : Option (Bnd) := ((pspan w field ({ number := (fun a4056 => pcWeek a4056) } : Qn)).bind fun r4058 => ((pspan w field ({ number := (fun a4065 => pcDamage a4065) } : Qn)).bind fun r4067 => ((pspan w field ({ number := (fun a4074 => pcOld a4074) } : Qn)).bind fun r4076 => ((pspan w field ({ number := (fun a4083 => pharvestD a4083.d) } : Qn)).bind fun r4085 => (some ({ Week := r4058, Damage := r4067, Old := r4076, Harvest := r4085 } : Bnd))))))
def pBounds_L0 (r4103 : Wk × Int) : Nat → (List Bnd) → Int → Option (List Bnd × Int)
 | 0, _, _ => none
 | d4135 + 1, l4133, x18 => (if x18 < (r4103.1.s.Fields.length : Int) then ((pbound r4103.1 x18).bind fun r4137 => (gd (l4133.length < 1048576) (gd (fitsP .i64 (x18 + 1)) (pBounds_L0 r4103 d4135 (l4133 ++ [r4137]) (x18 + 1))))) else (some (l4133, (0 : Int))))
def pBounds (s : Ssn) : Option (List Bnd × Int) := ((popenTrue s).bind fun r4103 => (if r4103.2 = (0 : Int) then (pBounds_L0 r4103 (r4103.1.s.Fields.length + 1) [] (0 : Int)) else (some ([], r4103.2))))
def pseen1 (c : Crs) (week : Int) : Option (Int) := ((pseen c week).bind fun r4167 => (some r4167))
def pSeen (s : Ssn) (field : Int) (week : Int) : Option (Rg × Int) := ((phasWeek s week).bind fun r4200 => ((popenAsked s field r4200).bind fun r4209 => (if r4209.2 = (0 : Int) then ((pspan r4209.1 field ({ number := (fun a4258 => pseen1 a4258 week) } : Qn)).bind fun r4260 => (some (r4260, (0 : Int)))) else (some (({ Lo := (0 : Int), Hi := (0 : Int) } : Rg), r4209.2)))))
def poutcomes_L0 : List Crs → (List Dm) → (Option (Dm → Option (Bool))) → Option (List Dm)
 | [], y4680, _w4685 => (some y4680)
 | a4687 :: q4688, y4680, w4685 => (gd (MK.fit a4687.d) (mcase (mget w4685 a4687.d) (gd (y4680.length < 1048576) (gd (MK.fit a4687.d) ((mset w4685 a4687.d true).bind fun w4760 => ((poutcomes_L0 q4688) (y4680 ++ [a4687.d]) w4760)))) fun w4733 => (if w4733 = true then (gd (MK.fit a4687.d) ((mset w4685 a4687.d true).bind fun w4812 => ((poutcomes_L0 q4688) y4680 w4812))) else (gd (y4680.length < 1048576) (gd (MK.fit a4687.d) ((mset w4685 a4687.d true).bind fun w4799 => ((poutcomes_L0 q4688) (y4680 ++ [a4687.d]) w4799)))))))
def poutcomes (w : Wk) (field : Int) : Option (List Dm) := ((ptruths w field).bind fun r4667 => (poutcomes_L0 r4667 [] (some fun _ => none : Option (Dm → Option (Bool)))))
def pverdict1 (d : Dm) (limit : Int) : Option (Bool) := ((pharvestD d).bind fun r4841 => (some (decide (limit < r4841))))
def pVerdict (s : Ssn) (field : Int) (limit : Int) : Option (Int × Int) := ((pisHundredths limit).bind fun r4866 => ((popenAsked s field r4866).bind fun r4874 => (if r4874.2 = (0 : Int) then ((poutcomes r4874.1 field).bind fun r4905 => ((peachD r4905 (fun a4922 => pverdict1 a4922 limit)).bind fun r4924 => (if r4924 = true then (some ((1 : Int), (0 : Int))) else ((pcontainsD r4905 (fun a4932 => pverdict1 a4932 limit)).bind fun r4934 => (if r4934 = true then (some ((3 : Int), (0 : Int))) else (some ((2 : Int), (0 : Int)))))))) else (some ((0 : Int), r4874.2)))))
def pFirst_L0 (s : Ssn) (r5132 : Wk) : Nat → Int → Option (Int × Int)
 | 0, _ => none
 | d5162 + 1, x25 => (if x25 < (s.Visits.length : Int) then (gd (fitsP .i64 (x25 + 1)) (gd (0 ≤ (0 : Int) ∧ (0 : Int) ≤ (x25 + 1) ∧ (x25 + 1) ≤ (s.Visits.length : Int)) ((pwth r5132 ((s.Visits.take (Int.toNat (x25 + 1))).drop (Int.toNat (0 : Int)))).bind fun r5169 => ((phasTruth r5169).bind fun r5185 => (if r5185 = true then (gd (fitsP .i64 (x25 + 1)) (pFirst_L0 s r5132 d5162 (x25 + 1))) else (some (x25, (0 : Int)))))))) else (some ((0 : Int), (7 : Int))))
def pFirst (s : Ssn) : Option (Int × Int) := ((pcheck s).bind fun r5125 => (if r5125 = 0 then ((popen s).bind fun r5132 => (pFirst_L0 s r5132 (s.Visits.length + 1) (0 : Int))) else (some ((0 : Int), r5125))))
def pindexOf_L0 (l : List Int) (x : Int) : Nat → Int → Option (Int)
 | 0, _ => none
 | d5196 + 1, x2 => (if x2 < (l.length : Int) then ((idx l x2).bind fun x5198 => (if x = x5198 then (some x2) else (gd (fitsP .i64 (x2 + 1)) (pindexOf_L0 l x d5196 (x2 + 1))))) else (some (-1 : Int)))
def pindexOf (l : List Int) (x : Int) : Option (Int) := (pindexOf_L0 l x (l.length + 1) (0 : Int))
def pcontains (l : List Int) (x : Int) : Option (Bool) := ((pindexOf l x).bind fun r5202 => (some (decide ((0 : Int) ≤ r5202))))
def pcanLeave_L0 (w : Wk) (list : List Int) : Nat → (List Vis) → Int → Option (Bool)
 | 0, _, _ => none
 | d5217 + 1, l5215, x4 => (if x4 < (w.s.Visits.length : Int) then ((idx w.s.Visits x4).bind fun v5219 => ((pcontains list x4).bind fun r5234 => (if r5234 = true then (gd (fitsP .i64 (x4 + 1)) (pcanLeave_L0 w list d5217 l5215 (x4 + 1))) else (gd (l5215.length < 1048576) (gd (fitsP .i64 (x4 + 1)) (pcanLeave_L0 w list d5217 (l5215 ++ [v5219]) (x4 + 1))))))) else ((pwth w l5215).bind fun r5260 => ((phasTruth r5260).bind fun r5276 => (some r5276))))
def pcanLeave (w : Wk) (list : List Int) : Option (Bool) := (pcanLeave_L0 w list (w.s.Visits.length + 1) [] (0 : Int))
def pLeave (s : Ssn) : Option (List Int × Int) := ((pcheck s).bind fun r5288 => (if r5288 = 0 then ((popen s).bind fun r5295 => ((pshortest (s.Visits.length : Int) (fun a5310 => pcanLeave r5295 a5310)).bind fun r5314 => (some (r5314, (0 : Int))))) else (some ([], r5288))))
def pGrowthTruth_L0 (s : Ssn) (week : Int) (limit : Int) (r6768 : Ssn × List Trh) (r6854 : List Bnd × Int) : Nat → Int → Option (Bool)
 | 0, _ => none
 | d6879 + 1, x69 => (if x69 < (r6768.2.length : Int) then ((idx r6768.2 x69).bind fun v6881 => ((plSeason r6768.1).bind fun r6898 => ((plTruth v6881).bind fun r6913 => ((pHarvest r6898 x69 r6913).bind fun r6921 => ((plSeason r6768.1).bind fun r6929 => ((pSeen r6929 x69 ((wrapZ .i64 week) % (s.Last + (1 : Int)))).bind fun r6944 => ((plSeason r6768.1).bind fun r6968 => ((pVerdict r6968 x69 ((wrapZ .i64 limit) % (101 : Int))).bind fun r6984 => (if r6944.2 = (0 : Int) then (if r6984.2 = (0 : Int) then ((idx r6854.1 x69).bind fun v6995 => ((plIn v6881.Week v6995.Week).bind fun r6998 => (if r6998 = true then ((idx r6854.1 x69).bind fun v7008 => ((plIn v6881.Damage v7008.Damage).bind fun r7011 => (if r7011 = true then ((idx r6854.1 x69).bind fun v7021 => ((plIn v6881.Old v7021.Old).bind fun r7024 => (if r7024 = true then ((idx r6854.1 x69).bind fun v7034 => ((plIn r6921 v7034.Harvest).bind fun r7037 => (if r7037 = true then ((prSeen r6768.1 x69 v6881 ((wrapZ .i64 week) % (s.Last + (1 : Int)))).bind fun r7047 => ((plIn r7047 r6944.1).bind fun r7056 => (if r7056 = true then (if r6984.1 = (1 : Int) then (if r6921 ≤ ((wrapZ .i64 limit) % (101 : Int)) then (some false) else (if r6984.1 = (2 : Int) then (if ((wrapZ .i64 limit) % (101 : Int)) < r6921 then (some false) else ((plSeason r6768.1).bind fun r7070 => ((plTruth v6881).bind fun r7086 => ((pproveTruth r7070 x69 r7086).bind fun r7095 => (if r7095 = true then (gd (fitsP .i64 (x69 + 1)) (pGrowthTruth_L0 s week limit r6768 r6854 d6879 (x69 + 1))) else (some false)))))) else ((plSeason r6768.1).bind fun r7106 => ((plTruth v6881).bind fun r7122 => ((pproveTruth r7106 x69 r7122).bind fun r7131 => (if r7131 = true then (gd (fitsP .i64 (x69 + 1)) (pGrowthTruth_L0 s week limit r6768 r6854 d6879 (x69 + 1))) else (some false))))))) else (if r6984.1 = (2 : Int) then (if ((wrapZ .i64 limit) % (101 : Int)) < r6921 then (some false) else ((plSeason r6768.1).bind fun r7144 => ((plTruth v6881).bind fun r7160 => ((pproveTruth r7144 x69 r7160).bind fun r7169 => (if r7169 = true then (gd (fitsP .i64 (x69 + 1)) (pGrowthTruth_L0 s week limit r6768 r6854 d6879 (x69 + 1))) else (some false)))))) else ((plSeason r6768.1).bind fun r7180 => ((plTruth v6881).bind fun r7196 => ((pproveTruth r7180 x69 r7196).bind fun r7205 => (if r7205 = true then (gd (fitsP .i64 (x69 + 1)) (pGrowthTruth_L0 s week limit r6768 r6854 d6879 (x69 + 1))) else (some false))))))) else (some false)))) else (some false)))) else (some false)))) else (some false)))) else (some false)))) else (some false)) else (some false)))))))))) else ((pawake).bind fun r7216 => (some r7216)))
def pGrowthTruth (s : Ssn) (words : List W16) (week : Int) (limit : Int) : Option (Bool) := ((plReady s).bind fun r6755 => (if r6755 = true then ((plVisited s words).bind fun r6768 => ((plSeason r6768.1).bind fun r6795 => ((pLeave r6795).bind fun r6809 => ((plSeason r6768.1).bind fun r6819 => ((pFirst r6819).bind fun r6833 => ((plSeason r6768.1).bind fun r6840 => ((pBounds r6840).bind fun r6854 => (if r6809.2 = (0 : Int) then (if (r6809.1.length : Int) = (0 : Int) then (if r6833.2 = (7 : Int) then (if r6854.2 = (0 : Int) then (if (r6854.1.length : Int) = (r6768.2.length : Int) then (gd (fitsP .i64 (s.Last + (1 : Int))) (gd ((0 : Int) ≤ (wrapZ .i64 week)) (gd ((0 : Int) < (s.Last + (1 : Int))) (gd (fitsP .i64 ((wrapZ .i64 week) % (s.Last + (1 : Int)))) (gd ((0 : Int) ≤ (wrapZ .i64 limit)) (gd ((0 : Int) < (101 : Int)) (gd (fitsP .i64 ((wrapZ .i64 limit) % (101 : Int))) (pGrowthTruth_L0 s week limit r6768 r6854 (r6768.2.length + 1) (0 : Int))))))))) else (some false)) else (some false)) else (some false)) else (some false)) else (some false))))))))) else ((pawake).bind fun r6762 => (some r6762))))
end
end Go.Proofs.YtmlaphekbnanjaaGreat

namespace Go.Proofs.YtmlaphekbnanjaaGreat
open _root_.Go.Proofs.Tryz
open Go.Abs
set_option maxRecDepth 100000
noncomputable section
theorem c144 {a100 : Int} {b0 : Nat} {m : M} {Q : V → M → Prop} (h :
 (∃ c0 : C, ((ldC m (C.ptr b0 0)) = (some c0)) ∧ callP prog tbl [(V.c (Il a100))] c0 m (fun v1 m2 => 
 ∃ b3 : Bool, (v1 = (V.c (C.bool b3))) ∧ Q (V.c (C.bool (!b3))) m2))) : Wc prog tbl 144 [.c (Il a100), .c (.ptr b0 0)] m Q :=
 wc_eq (n := 2) rfl (by kernel_rfl) (by kernel_rfl) h
theorem c131 {a100 : C} {b0 : Nat} {m : M} {Q : V → M → Prop} (h :
 (∃ c0 : C, ((ldC m (C.ptr b0 0)) = (some c0)) ∧ callP prog tbl [(V.c a100)] c0 m (fun v1 m2 => ∃ b3 : Bool, 
 (v1 = (V.c (C.bool b3))) ∧ Q (V.c (C.bool (!b3))) m2))) : Wc prog tbl 131 [.c (a100), .c (.ptr b0 0)] m Q :=
 wc_eq (n := 2) rfl (by kernel_rfl) (by kernel_rfl) h
theorem c109 {a100 : Int} {a101 : Int} {a102 : Int} {a103 : Int} {a104 : Int} {a105 : Int} {a106 : Int} {b0 : Nat} {m : M} {Q : V → M → Prop} (h :
 (∀ m0 : M, (m0 = (M.new m (AO.cells 7 [(Il a100), (Il a101), (Il a102), 
 (Il a103), (Il a104), (Il a105), (Il a106)] false))) → 
 ∃ c1 : C, ((ldC m0 (C.ptr b0 0)) = (some c1)) ∧ ∃ x2, ∃ x3, ∃ x4, ∃ x5, 
 ∃ x6, ∃ x7, ∃ x8, ((ldA m0 (C.ptr m.nxt 0) 7) = (some [(Il x2), 
 (Il x3), (Il x4), (Il x5), (Il x6), 
 (Il x7), (Il x8)])) ∧ callP prog tbl [(V.agg 7 [(Il x2), 
 (Il x3), (Il x4), (Il x5), (Il x6), 
 (Il x7), (Il x8)])] c1 m0 (fun v9 m10 => ∃ b11 : Bool, (v9 = (V.c (C.bool b11))) ∧ 
 Q (V.c (C.bool (!b11))) m10))) : Wc prog tbl 109 [.agg 7 [Il a100, Il a101, Il a102, Il a103, Il a104, Il a105, Il a106], .c (.ptr b0 0)] m Q :=
 wc_eq (n := 2) rfl (by kernel_rfl) (by kernel_rfl) h
theorem c135 {a100 : Int} {a101 : Int} {a102 : Int} {a103 : Int} {b0 : Nat} {m : M} {Q : V → M → Prop} (h :
 (∀ m0 : M, (m0 = (M.new m (AO.cells 4 [(Il a100), (Il a101), (Il a102), 
 (Il a103)] false))) → ∃ c1 : C, ((ldC m0 (C.ptr b0 0)) = (some c1)) ∧ ∃ x2, 
 ∃ x3, ∃ x4, ∃ x5, ((ldA m0 (C.ptr m.nxt 0) 4) = (some [(Il x2), 
 (Il x3), (Il x4), (Il x5)])) ∧ callP prog tbl [(V.agg 4 [(Il x2), 
 (Il x3), (Il x4), (Il x5)])] c1 m0 (fun v6 m7 => 
 ∃ b8 : Bool, (v6 = (V.c (C.bool b8))) ∧ Q (V.c (C.bool (!b8))) m7))) : Wc prog tbl 135 [.agg 4 [Il a100, Il a101, Il a102, Il a103], .c (.ptr b0 0)] m Q :=
 wc_eq (n := 2) rfl (by kernel_rfl) (by kernel_rfl) h
theorem c122 {a100 : Int} {a101 : Int} {a102 : Int} {a103 : Int} {a104 : Int} {a105 : Int} {a106 : Int} {a107 : Int} {a108 : Int} {a109 : Int} {a110 : Int} {a111 : Int} {a112 : Int} {b0 : Nat} {m : M} {Q : V → M → Prop} (h :
 (∀ m0 : M, (m0 = (M.new m (AO.cells 13 [(Il a100), (Il a101), (Il a102), 
 (Il a103), (Il a104), (Il a105), (Il a106), 
 (Il a107), (Il a108), (Il a109), (Il a110), 
 (Il a111), (Il a112)] false))) → ∃ c1 : C, ((ldC m0 (C.ptr b0 0)) = (some c1)) ∧ 
 ∃ x2, ∃ x3, ∃ x4, ∃ x5, ∃ x6, ∃ x7, ∃ x8, ∃ x9, 
 ∃ x10, ∃ x11, ∃ x12, ∃ x13, ∃ x14, ((ldA m0 (C.ptr m.nxt 0) 13) = (some [(Il x2), 
 (Il x3), (Il x4), (Il x5), (Il x6), 
 (Il x7), (Il x8), (Il x9), (Il x10), 
 (Il x11), (Il x12), (Il x13), (Il x14)])) ∧ 
 callP prog tbl [(V.agg 13 [(Il x2), (Il x3), (Il x4), 
 (Il x5), (Il x6), (Il x7), (Il x8), 
 (Il x9), (Il x10), (Il x11), (Il x12), 
 (Il x13), (Il x14)])] c1 m0 (fun v15 m16 => ∃ b17 : Bool, 
 (v15 = (V.c (C.bool b17))) ∧ Q (V.c (C.bool (!b17))) m16))) : Wc prog tbl 122 [.agg 13 [Il a100, Il a101, Il a102, Il a103, Il a104, Il a105, Il a106, Il a107, Il a108, Il a109, Il a110, Il a111, Il a112], .c (.ptr b0 0)] m Q :=
 wc_eq (n := 2) rfl (by kernel_rfl) (by kernel_rfl) h
theorem c117 {a100 : Int} {a101 : Int} {a102 : Int} {a103 : Int} {b0 : Nat} {b1 : Nat} {m : M} {Q : V → M → Prop} (h :
 (∀ m0 : M, (m0 = (M.new m (AO.cells 4 [(Il a100), (Il a101), (Il a102), 
 (Il a103)] false))) → isPt (C.ptr m.nxt 0) ∧ ∃ x1, ((ldC m0 (C.ptr m.nxt 0)) = (some (Il x1))) ∧ 
 ∃ x2, ((ldC m0 (C.ptr b0 0)) = (some (Il x2))) ∧ ifB (!decide (x1 = x2)) (Q (V.c (C.bool true)) m0) (isPt (C.ptr m.nxt 0) ∧ 
 ∃ x3, ∃ x4, ((ldA m0 (C.ptr m.nxt 2) 2) = (some [(Il x3), (Il x4)])) ∧ 
 ∃ x5, ∃ x6, ∃ x7, ∃ x8, ∃ x9, ∃ x10, ∃ x11, ∃ x12, 
 ∃ x13, ∃ x14, ∃ x15, ∃ x16, ∃ x17, ∃ x18, ∃ x19, 
 ∃ x20, ((ldA m0 (C.ptr b1 0) 16) = (some [(Il x5), 
 (Il x6), (Il x7), (Il x8), (Il x9), 
 (Il x10), (Il x11), (Il x12), (Il x13), 
 (Il x14), (Il x15), (Il x16), (Il x17), 
 (Il x18), (Il x19), (Il x20)])) ∧ 
 isPt (C.ptr m.nxt 0) ∧ ∃ x21, ((ldC m0 (C.ptr m.nxt 1)) = (some (Il x21))) ∧ 
 Wc prog tbl 72 [(V.agg 16 [(Il x5), (Il x6), (Il x7), 
 (Il x8), (Il x9), (Il x10), (Il x11), 
 (Il x12), (Il x13), (Il x14), (Il x15), 
 (Il x16), (Il x17), (Il x18), (Il x19), 
 (Il x20)]), (V.c (Il x21))] m0 (fun v22 m23 => 
 ∃ x24, (v22 = (V.c (Il x24))) ∧ ((ldA m23 (C.ptr m.nxt 2) 2) = (some [(Il x3), 
 (Il x4)])) ∧ Wc prog tbl 112 [(V.agg 2 [(Il x3), 
 (Il x4)]), (V.c (Il x24))] m23 (fun v25 m26 => 
 ∃ b27 : Bool, (v25 = (V.c (C.bool b27))) ∧ Q (V.c (C.bool b27)) m26))))) : Wc prog tbl 117 [.agg 4 [Il a100, Il a101, Il a102, Il a103], .c (.ptr b0 0), .c (.ptr b1 0)] m Q :=
 wc_eq (n := 3) rfl (by kernel_rfl) (by kernel_rfl) h
theorem c138 {a100 : C} {b0 : Nat} {m : M} {Q : V → M → Prop} (h :
 (∃ x0, ∃ x1, ((ldA m (C.ptr b0 0) 2) = (some [(Il x0), (Il x1)])) ∧ 
 Wc prog tbl 110 [(V.agg 2 [(Il x0), (Il x1)])] m (fun v2 m3 => ∃ x4, 
 (v2 = (V.c (Il x4))) ∧ ∀ R5 : List V → M → Prop, (∀ x6 : Int, ∀ m7 : M, (ifB (decide (x6 < x4)) (isPt (C.ptr b0 0) ∧ 
 ∃ x8, ((ldC m7 (C.ptr b0 0)) = (some (Il x8))) ∧ fitsP .i64 (x8 + x6) ∧ 
 callP prog tbl [(V.c (Il (x8 + x6)))] a100 m7 (fun v9 m10 => ∃ b11 : Bool, 
 (v9 = (V.c (C.bool b11))) ∧ ifB (!b11) (Q (V.tup []) m10) (fitsP .i64 (x6 + 1) ∧ 
 R5 [(V.c (Il (x6 + 1)))] m10))) (Q (V.tup []) m7)) → 
 R5 [(V.c (Il x6))] m7) → R5 [(V.c (Il 0))] m3))) : Wc prog tbl 138 [.c (a100), .c (.ptr b0 0)] m Q :=
 wc_eq (n := 2) rfl (by kernel_rfl) (by kernel_rfl) h
theorem c137 {a100 : C} {b0 : Nat} {b1 : Nat} {m : M} {Q : V → M → Prop} (h :
 (∀ m0 : M, (m0 = (M.new m (AO.cells 1 [a100] false))) → isPt (C.ptr b0 0) ∧ ∃ x1, ∃ x2, ((ldA m0 (C.ptr b0 1) 2) = (some [(Il x1), 
 (Il x2)])) ∧ Wc prog tbl 124 [(V.agg 2 [(Il x1), (Il x2)])] m0 (fun v3 m4 => 
 ∃ c5 : C, (v3 = (V.c c5)) ∧ rangeP prog tbl c5 m4 (fun l6 m7 R8 R9 => ∃ x10, (l6 = [(V.c (Il x10))]) ∧ 
 ∀ m11 : M, (m11 = (M.new m7 (AO.cells 1 [(Il 0)] false))) → ∃ m12 : M, 
 ((stC m11 (C.ptr m7.nxt 0) 1 [(Il x10)]) = (some m12)) ∧ R8 m12 (fun m13 => 
 isPt (C.ptr b0 0) ∧ ∃ x14, ∃ x15, ((ldA m13 (C.ptr b0 3) 2) = (some [(Il x14), 
 (Il x15)])) ∧ Wc prog tbl 124 [(V.agg 2 [(Il x14), 
 (Il x15)])] m13 (fun v16 m17 => ∃ c18 : C, (v16 = (V.c c18)) ∧ 
 rangeP prog tbl c18 m17 (fun l19 m20 R21 R22 => ∃ x23, (l19 = [(V.c (Il x23))]) ∧ 
 ∀ m24 : M, (m24 = (M.new m20 (AO.cells 1 [(Il 0)] false))) → 
 ∃ m25 : M, ((stC m24 (C.ptr m20.nxt 0) 1 [(Il x23)]) = (some m25)) ∧ 
 R21 m25 (fun m26 => ∀ m27 : M, (m27 = (mGrow m26 1)) → isPt (C.ptr b1 0) ∧ 
 ∃ c28 : C, ((ldC m27 (C.ptr b1 4)) = (some c28)) ∧ ∃ x29, ∃ x30, 
 ∃ x31, ∃ x32, ∃ x33, ∃ x34, ∃ x35, ((ldA m27 (C.ptr b0 0) 7) = (some [(Il x29), 
 (Il x30), (Il x31), (Il x32), (Il x33), 
 (Il x34), (Il x35)])) ∧ ∃ x36, ((ldC m27 (C.ptr m7.nxt 0)) = (some (Il x36))) ∧ 
 ∃ x37, ((ldC m27 (C.ptr m20.nxt 0)) = (some (Il x37))) ∧ 
 Wc prog tbl 125 [(V.agg 7 [(Il x29), (Il x30), 
 (Il x31), (Il x32), (Il x33), (Il x34), 
 (Il x35)]), (V.c (Il x36)), (V.c (Il x37))] m27 (fun v38 m39 => 
 ∃ x40, ∃ x41, ∃ x42, ∃ x43, (v38 = (V.agg 4 [(Il x40), 
 (Il x41), (Il x42), (Il x43)])) ∧ 
 (ifB (noFnC c28) ((ldC m39 (C.ptr b1 4)) = (some c28)) False) ∧ ∃ y44 : Option U, 
 ((lkM prog 170 m39 c28 (V.agg 4 [(Il x40), (Il x41), 
 (Il x42), (Il x43)])) = (some y44)) ∧ ((y44 = Option.none) → 
 ∀ m45 : M, (m45 = (M.set m39 (m26.nxt + 0) (AO.cells 13 [(Il 0), 
 (Il 0), (Il 0), (Il 0), 
 (Il 0), (Il 0), (Il 0), 
 (Il 0), (Il 0), (Il 0), 
 (Il 0), (Il 0), (Il 0)] false))) → 
 (∃ y46 : Option U, ((lkM prog 170 m45 c28 (V.agg 4 [(Il x40), 
 (Il x41), (Il x42), (Il x43)])) = (some y46)) ∧ 
 (optB y46 ((some (V.agg 13 [(Il 0), (Il 0), 
 (Il 0), (Il 0), (Il 0), 
 (Il 0), (Il 0), (Il 0), 
 (Il 0), (Il 0), (Il 0), 
 (Il 0), (Il 0)])) = (some (V.agg 13 [(Il 0), 
 (Il 0), (Il 0), (Il 0), 
 (Il 0), (Il 0), (Il 0), 
 (Il 0), (Il 0), (Il 0), 
 (Il 0), (Il 0), (Il 0)]))) fun u47 => 
 (some (uV u47)) = (some (V.agg 13 [(Il 0), 
 (Il 0), (Il 0), (Il 0), 
 (Il 0), (Il 0), (Il 0), 
 (Il 0), (Il 0), (Il 0), 
 (Il 0), (Il 0), (Il 0)]))) ∧ 
 true = true) ∧ ((ldC m45 (C.ptr m20.nxt 0)) = (some (Il x37))) ∧ 
 ((ldC m45 (C.ptr m7.nxt 0)) = (some (Il x36))) ∧ ((ldA m45 (C.ptr b0 0) 7) = (some [(Il x29), 
 (Il x30), (Il x31), (Il x32), (Il x33), 
 (Il x34), (Il x35)])) ∧ (ifB (noFnC c28) ((ldC m45 (C.ptr b1 4)) = (some c28)) False) ∧ 
 ∃ m48 : M, ((stC m45 (C.ptr (m26.nxt + 0) 0) 13 [(Il 0), 
 (Il 0), (Il 0), (Il 0), 
 (Il 0), (Il 0), (Il 0), 
 (Il 0), (Il 0), (Il 0), 
 (Il 0), (Il 0), (Il 0)]) = (some m48)) ∧ 
 isPt (C.ptr b0 0) ∧ ∃ x49, ∃ x50, ((ldA m48 (C.ptr b0 5) 2) = (some [(Il x49), 
 (Il x50)])) ∧ Wc prog tbl 124 [(V.agg 2 [(Il x49), 
 (Il x50)])] m48 (fun v51 m52 => ∃ c53 : C, (v51 = (V.c c53)) ∧ 
 rangeP prog tbl c53 m52 (fun l54 m55 R56 R57 => ∃ x58, (l54 = [(V.c (Il x58))]) ∧ 
 R56 m55 (fun m59 => ∃ c60 : C, ((ldC m59 (C.ptr m.nxt 0)) = (some c60)) ∧ 
 ∃ x61, ((ldC m59 (C.ptr m7.nxt 0)) = (some (Il x61))) ∧ 
 ∃ x62, ((ldC m59 (C.ptr m20.nxt 0)) = (some (Il x62))) ∧ 
 ∃ x63, ∃ x64, ∃ x65, ∃ x66, ∃ x67, ∃ x68, 
 ∃ x69, ∃ x70, ∃ x71, ∃ x72, ∃ x73, ∃ x74, 
 ∃ x75, ((ldA m59 (C.ptr (m26.nxt + 0) 0) 13) = (some [(Il x63), 
 (Il x64), (Il x65), (Il x66), (Il x67), 
 (Il x68), (Il x69), (Il x70), (Il x71), 
 (Il x72), (Il x73), (Il x74), (Il x75)])) ∧ 
 callP prog tbl [(V.agg 16 [(Il x61), (Il x62), 
 (Il x58), (Il x63), (Il x64), (Il x65), 
 (Il x66), (Il x67), (Il x68), (Il x69), 
 (Il x70), (Il x71), (Il x72), (Il x73), 
 (Il x74), (Il x75)])] c60 m59 (fun v76 m77 => ∃ b78 : Bool, 
 (v76 = (V.c (C.bool b78))) ∧ ifB (!b78) (R57 Ex.ret m77) (R57 Ex.nrm m77)))) (After.mk (fun m79 => 
 R22 Ex.nrm m79) [] (fun m80 => R22 Ex.ret m80)))) ∧ ∀ u81 : U, 
 (y44 = (some u81)) → ∃ x82, ∃ x83, ∃ x84, ∃ x85, 
 ∃ x86, ∃ x87, ∃ x88, ∃ x89, ∃ x90, ∃ x91, 
 ∃ x92, ∃ x93, ∃ x94, (u81 = (U.agg 13 [(Il x82), 
 (Il x83), (Il x84), (Il x85), (Il x86), 
 (Il x87), (Il x88), (Il x89), (Il x90), 
 (Il x91), (Il x92), (Il x93), (Il x94)])) ∧ 
 ∀ m95 : M, (m95 = (M.set m39 (m26.nxt + 0) (AO.cells 13 [(Il 0), 
 (Il 0), (Il 0), (Il 0), 
 (Il 0), (Il 0), (Il 0), 
 (Il 0), (Il 0), (Il 0), 
 (Il 0), (Il 0), (Il 0)] false))) → 
 (∃ y96 : Option U, ((lkM prog 170 m95 c28 (V.agg 4 [(Il x40), 
 (Il x41), (Il x42), (Il x43)])) = (some y96)) ∧ 
 (optB y96 ((some (V.agg 13 [(Il 0), (Il 0), 
 (Il 0), (Il 0), (Il 0), 
 (Il 0), (Il 0), (Il 0), 
 (Il 0), (Il 0), (Il 0), 
 (Il 0), (Il 0)])) = (some (V.agg 13 [(Il x82), 
 (Il x83), (Il x84), (Il x85), (Il x86), 
 (Il x87), (Il x88), (Il x89), (Il x90), 
 (Il x91), (Il x92), (Il x93), (Il x94)]))) fun u97 => 
 (some (uV u97)) = (some (V.agg 13 [(Il x82), (Il x83), 
 (Il x84), (Il x85), (Il x86), (Il x87), 
 (Il x88), (Il x89), (Il x90), (Il x91), 
 (Il x92), (Il x93), (Il x94)]))) ∧ 
 true = true) ∧ ((ldC m95 (C.ptr m20.nxt 0)) = (some (Il x37))) ∧ 
 ((ldC m95 (C.ptr m7.nxt 0)) = (some (Il x36))) ∧ ((ldA m95 (C.ptr b0 0) 7) = (some [(Il x29), 
 (Il x30), (Il x31), (Il x32), (Il x33), 
 (Il x34), (Il x35)])) ∧ (ifB (noFnC c28) ((ldC m95 (C.ptr b1 4)) = (some c28)) False) ∧ 
 ∃ m98 : M, ((stC m95 (C.ptr (m26.nxt + 0) 0) 13 [(Il x82), 
 (Il x83), (Il x84), (Il x85), (Il x86), 
 (Il x87), (Il x88), (Il x89), (Il x90), 
 (Il x91), (Il x92), (Il x93), (Il x94)]) = (some m98)) ∧ 
 isPt (C.ptr b0 0) ∧ ∃ x99, ∃ x100, ((ldA m98 (C.ptr b0 5) 2) = (some [(Il x99), 
 (Il x100)])) ∧ Wc prog tbl 124 [(V.agg 2 [(Il x99), 
 (Il x100)])] m98 (fun v101 m102 => ∃ c103 : C, (v101 = (V.c c103)) ∧ 
 rangeP prog tbl c103 m102 (fun l104 m105 R106 R107 => ∃ x108, (l104 = [(V.c (Il x108))]) ∧ 
 R106 m105 (fun m109 => ∃ c110 : C, ((ldC m109 (C.ptr m.nxt 0)) = (some c110)) ∧ 
 ∃ x111, ((ldC m109 (C.ptr m7.nxt 0)) = (some (Il x111))) ∧ 
 ∃ x112, ((ldC m109 (C.ptr m20.nxt 0)) = (some (Il x112))) ∧ 
 ∃ x113, ∃ x114, ∃ x115, ∃ x116, ∃ x117, ∃ x118, 
 ∃ x119, ∃ x120, ∃ x121, ∃ x122, ∃ x123, ∃ x124, 
 ∃ x125, ((ldA m109 (C.ptr (m26.nxt + 0) 0) 13) = (some [(Il x113), 
 (Il x114), (Il x115), (Il x116), 
 (Il x117), (Il x118), (Il x119), 
 (Il x120), (Il x121), (Il x122), 
 (Il x123), (Il x124), (Il x125)])) ∧ 
 callP prog tbl [(V.agg 16 [(Il x111), (Il x112), 
 (Il x108), (Il x113), (Il x114), 
 (Il x115), (Il x116), (Il x117), 
 (Il x118), (Il x119), (Il x120), 
 (Il x121), (Il x122), (Il x123), 
 (Il x124), (Il x125)])] c110 m109 (fun v126 m127 => 
 ∃ b128 : Bool, (v126 = (V.c (C.bool b128))) ∧ ifB (!b128) (R107 Ex.ret m127) (R107 Ex.nrm m127)))) (After.mk (fun m129 => 
 R22 Ex.nrm m129) [] (fun m130 => R22 Ex.ret m130)))))) (After.mk (fun m131 => 
 R9 Ex.nrm m131) [] (fun m132 => R9 Ex.ret m132))))) (After.mk (fun m133 => 
 Q (V.tup []) m133) [] (fun m134 => Q (V.tup []) m134))))) : Wc prog tbl 137 [.c (a100), .c (.ptr b0 0), .c (.ptr b1 0)] m Q :=
 wc_eq (n := 3) rfl (by kernel_rfl) (by kernel_rfl) h
theorem c119 {a100 : C} {b0 : Nat} {b1 : Nat} {m : M} {Q : V → M → Prop} (h :
 (∀ m0 : M, (m0 = (M.new m (AO.cells 1 [a100] false))) → ∃ x1, ∃ c2 : C, ∃ c3 : C, ∃ c4 : C, ∃ c5 : C, 
 ((ldA m0 (C.ptr b0 0) 5) = (some [(Il x1), c2, c3, c4, c5])) ∧ isPt (C.ptr b0 0) ∧ 
 isPt (C.ptr b0 0) ∧ ∃ c6 : C, ((ldC m0 (C.ptr b0 2)) = (some c6)) ∧ ∃ x7, ((ldC m0 (C.ptr b1 0)) = (some (Il x7))) ∧ 
 ∃ n8 : Nat, (x7 = ((n8 : Nat) : Int)) ∧ (n8 < (slLen c6)) ∧ ∃ x9, ∃ x10, ∃ x11, 
 ∃ x12, ∃ x13, ∃ x14, ∃ x15, ((ldA m0 (slAt c6 (n8 * 7)) 7) = (some [(Il x9), 
 (Il x10), (Il x11), (Il x12), (Il x13), 
 (Il x14), (Il x15)])) ∧ Wc prog tbl 120 [(V.agg 5 [(Il x1), 
 c2, c3, c4, c5]), (V.agg 7 [(Il x9), (Il x10), (Il x11), 
 (Il x12), (Il x13), (Il x14), (Il x15)])] m0 (fun v16 m17 => 
 ∃ c18 : C, (v16 = (V.c c18)) ∧ rangeP prog tbl c18 m17 (fun l19 m20 R21 R22 => 
 ∃ x23, ∃ x24, ∃ x25, ∃ x26, ∃ x27, ∃ x28, 
 ∃ x29, ∃ x30, ∃ x31, ∃ x32, ∃ x33, ∃ x34, 
 ∃ x35, ∃ x36, ∃ x37, ∃ x38, (l19 = [(V.agg 16 [(Il x23), 
 (Il x24), (Il x25), (Il x26), (Il x27), 
 (Il x28), (Il x29), (Il x30), (Il x31), 
 (Il x32), (Il x33), (Il x34), (Il x35), 
 (Il x36), (Il x37), (Il x38)])]) ∧ 
 ∀ m39 : M, (m39 = (M.new m20 (AO.cells 16 [(Il 0), (Il 0), 
 (Il 0), (Il 0), (Il 0), 
 (Il 0), (Il 0), (Il 0), 
 (Il 0), (Il 0), (Il 0), 
 (Il 0), (Il 0), (Il 0), 
 (Il 0), (Il 0)] false))) → ∃ m40 : M, 
 ((stC m39 (C.ptr m20.nxt 0) 16 [(Il x23), (Il x24), 
 (Il x25), (Il x26), (Il x27), (Il x28), 
 (Il x29), (Il x30), (Il x31), (Il x32), 
 (Il x33), (Il x34), (Il x35), (Il x36), 
 (Il x37), (Il x38)]) = (some m40)) ∧ R21 m40 (fun m41 => 
 isPt (C.ptr b0 0) ∧ ∃ x42, ∃ c43 : C, ∃ c44 : C, ∃ c45 : C, ((ldA m41 (C.ptr b0 0) 4) = (some [(Il x42), 
 c43, c44, c45])) ∧ ∃ x46, ((ldC m41 (C.ptr b1 0)) = (some (Il x46))) ∧ 
 ∃ x47, ∃ x48, ∃ x49, ∃ x50, ∃ x51, ∃ x52, 
 ∃ x53, ∃ x54, ∃ x55, ∃ x56, ∃ x57, ∃ x58, 
 ∃ x59, ∃ x60, ∃ x61, ∃ x62, ((ldA m41 (C.ptr m20.nxt 0) 16) = (some [(Il x47), 
 (Il x48), (Il x49), (Il x50), (Il x51), 
 (Il x52), (Il x53), (Il x54), (Il x55), 
 (Il x56), (Il x57), (Il x58), (Il x59), 
 (Il x60), (Il x61), (Il x62)])) ∧ 
 Wc prog tbl 75 [(V.agg 4 [(Il x42), c43, c44, c45]), (V.c (Il x46)), 
 (V.agg 16 [(Il x47), (Il x48), (Il x49), 
 (Il x50), (Il x51), (Il x52), (Il x53), 
 (Il x54), (Il x55), (Il x56), (Il x57), 
 (Il x58), (Il x59), (Il x60), (Il x61), 
 (Il x62)])] m41 (fun v63 m64 => ∃ b65 : Bool, (v63 = (V.c (C.bool b65))) ∧ 
 ifB b65 (∃ c66 : C, ((ldC m64 (C.ptr m.nxt 0)) = (some c66)) ∧ ∃ x67, 
 ∃ x68, ∃ x69, ∃ x70, ∃ x71, ∃ x72, ∃ x73, 
 ∃ x74, ∃ x75, ∃ x76, ∃ x77, ∃ x78, ∃ x79, 
 ∃ x80, ∃ x81, ∃ x82, ((ldA m64 (C.ptr m20.nxt 0) 16) = (some [(Il x67), 
 (Il x68), (Il x69), (Il x70), (Il x71), 
 (Il x72), (Il x73), (Il x74), (Il x75), 
 (Il x76), (Il x77), (Il x78), (Il x79), 
 (Il x80), (Il x81), (Il x82)])) ∧ 
 callP prog tbl [(V.agg 16 [(Il x67), (Il x68), 
 (Il x69), (Il x70), (Il x71), (Il x72), 
 (Il x73), (Il x74), (Il x75), (Il x76), 
 (Il x77), (Il x78), (Il x79), (Il x80), 
 (Il x81), (Il x82)])] c66 m64 (fun v83 m84 => ∃ b85 : Bool, 
 (v83 = (V.c (C.bool b85))) ∧ ifB (!b85) (R22 Ex.ret m84) (R22 Ex.nrm m84))) (R22 Ex.nrm m64)))) (After.mk (fun m86 => 
 Q (V.tup []) m86) [] (fun m87 => Q (V.tup []) m87))))) : Wc prog tbl 119 [.c (a100), .c (.ptr b0 0), .c (.ptr b1 0)] m Q :=
 wc_eq (n := 3) rfl (by kernel_rfl) (by kernel_rfl) h
theorem c71 {a100 : Int} {a101 : Int} {a102 : Int} {a103 : Int} {a104 : Int} {a105 : Int} {a106 : Int} {a107 : Int} {a108 : Int} {a109 : Int} {a110 : Int} {a111 : Int} {a112 : Int} {a113 : Int} {a114 : Int} {a115 : Int} {b0 : Nat} {m : M} {Q : V → M → Prop} (h :
 (∀ m0 : M, (m0 = (M.new m (AO.cells 16 [(Il a100), (Il a101), (Il a102), 
 (Il a103), (Il a104), (Il a105), (Il a106), 
 (Il a107), (Il a108), (Il a109), (Il a110), 
 (Il a111), (Il a112), (Il a113), (Il a114), 
 (Il a115)] false))) → ∃ x1, ∃ x2, ∃ x3, ∃ x4, ∃ x5, 
 ∃ x6, ∃ x7, ∃ x8, ∃ x9, ∃ x10, ∃ x11, ∃ x12, ∃ x13, 
 ∃ x14, ∃ x15, ∃ x16, ((ldA m0 (C.ptr m.nxt 0) 16) = (some [(Il x1), 
 (Il x2), (Il x3), (Il x4), (Il x5), 
 (Il x6), (Il x7), (Il x8), (Il x9), 
 (Il x10), (Il x11), (Il x12), (Il x13), 
 (Il x14), (Il x15), (Il x16)])) ∧ ∃ x17, 
 ((ldC m0 (C.ptr b0 0)) = (some (Il x17))) ∧ Wc prog tbl 72 [(V.agg 16 [(Il x1), 
 (Il x2), (Il x3), (Il x4), (Il x5), 
 (Il x6), (Il x7), (Il x8), (Il x9), 
 (Il x10), (Il x11), (Il x12), (Il x13), 
 (Il x14), (Il x15), (Il x16)]), (V.c (Il x17))] m0 (fun v18 m19 => 
 ∃ x20, (v18 = (V.c (Il x20))) ∧ Q (V.c (Il x20)) m19))) : Wc prog tbl 71 [.agg 16 [Il a100, Il a101, Il a102, Il a103, Il a104, Il a105, Il a106, Il a107, Il a108, Il a109, Il a110, Il a111, Il a112, Il a113, Il a114, Il a115], .c (.ptr b0 0)] m Q :=
 wc_eq (n := 2) rfl (by kernel_rfl) (by kernel_rfl) h
theorem c86 {a100 : Int} {a101 : Int} {a102 : Int} {a103 : Int} {a104 : Int} {a105 : Int} {a106 : Int} {a107 : Int} {a108 : Int} {a109 : Int} {a110 : Int} {a111 : Int} {a112 : Int} {b0 : Nat} {m : M} {Q : V → M → Prop} (h :
 (∀ m0 : M, (m0 = (M.new m (AO.cells 13 [(Il a100), (Il a101), (Il a102), 
 (Il a103), (Il a104), (Il a105), (Il a106), 
 (Il a107), (Il a108), (Il a109), (Il a110), 
 (Il a111), (Il a112)] false))) → ∃ x1, ∃ x2, ∃ x3, 
 ∃ x4, ∃ x5, ∃ x6, ∃ x7, ∃ x8, ∃ x9, ∃ x10, ∃ x11, 
 ∃ x12, ∃ x13, ((ldA m0 (C.ptr m.nxt 0) 13) = (some [(Il x1), 
 (Il x2), (Il x3), (Il x4), (Il x5), 
 (Il x6), (Il x7), (Il x8), (Il x9), 
 (Il x10), (Il x11), (Il x12), (Il x13)])) ∧ 
 Wc prog tbl 74 [(V.agg 13 [(Il x1), (Il x2), (Il x3), 
 (Il x4), (Il x5), (Il x6), (Il x7), 
 (Il x8), (Il x9), (Il x10), (Il x11), 
 (Il x12), (Il x13)])] m0 (fun v14 m15 => ∃ x16, (v14 = (V.c (Il x16))) ∧ 
 ∃ x17, ((ldC m15 (C.ptr b0 0)) = (some (Il x17))) ∧ ((ldC m0 (C.ptr b0 0)) = (some (Il x17))) ∧ 
 Q (V.c (C.bool (decide (x17 < x16)))) m15))) : Wc prog tbl 86 [.agg 13 [Il a100, Il a101, Il a102, Il a103, Il a104, Il a105, Il a106, Il a107, Il a108, Il a109, Il a110, Il a111, Il a112], .c (.ptr b0 0)] m Q :=
 wc_eq (n := 2) rfl (by kernel_rfl) (by kernel_rfl) h
end
end Go.Proofs.YtmlaphekbnanjaaGreat

namespace Go.Proofs.YtmlaphekbnanjaaGreat
open _root_.Go.Proofs.Tryz
open Go.Abs
set_option maxRecDepth 100000
noncomputable section
theorem w13 {a100 : Int} {a101 : C} {a102 : C} {a103 : C} {m : M} {Q : V → M → Prop} (h :
 (∀ m0 : M, (m0 = (M.new m (AO.cells 4 [(Il a100), a101, a102, a103] false))) → ∃ x1, ∃ c2 : C, 
 ∃ c3 : C, ∃ c4 : C, ((ldA m0 (C.ptr m.nxt 0) 4) = (some [(Il x1), c2, c3, c4])) ∧ 
 Wc prog tbl 58 [(V.agg 4 [(Il x1), c2, c3, c4])] m0 (fun v5 m6 => ∃ x7, ∃ c8 : C, 
 ∃ c9 : C, ∃ c10 : C, ∃ c11 : C, ∃ x12, (v5 = (V.tup [(U.agg 5 [(Il x7), 
 c8, c9, c10, c11]), (U.c (Il x12))])) ∧ ∀ m13 : M, (m13 = (M.new m6 (AO.cells 5 [(Il 0), 
 C.sl0, C.sl0, C.sl0, C.map0] false))) → ∃ m14 : M, ((stC m13 (C.ptr m6.nxt 0) 5 [(Il x7), 
 c8, c9, c10, c11]) = (some m14)) ∧ ifB (!decide (x12 = 0)) (Q (V.tup [(U.c C.sl0), 
 (U.c (Il x12))]) m14) (isPt (C.ptr m6.nxt 0) ∧ isPt (C.ptr m6.nxt 0) ∧ 
 ∃ c15 : C, ((ldC m14 (C.ptr m6.nxt 2)) = (some c15)) ∧ isSl c15 ∧ ∀ R16 : List V → 
 M → Prop, (∀ c17 : C, ∀ x18 : Int, ∀ m19 : M, (ifB (decide (x18 < (((slLen c15) : Nat) : Int))) (∃ x20, 
 ∃ c21 : C, ∃ c22 : C, ∃ c23 : C, ∃ c24 : C, ((ldA m19 (C.ptr m6.nxt 0) 5) = (some [(Il x20), 
 c21, c22, c23, c24])) ∧ Wc prog tbl 59 [(V.agg 5 [(Il x20), c21, 
 c22, c23, c24]), (V.c (Il x18))] m19 (fun v25 m26 => ∃ x27, 
 ∃ x28, ∃ x29, ∃ x30, ∃ x31, ∃ x32, ∃ x33, 
 ∃ x34, (v25 = (V.agg 8 [(Il x27), (Il x28), 
 (Il x29), (Il x30), (Il x31), (Il x32), 
 (Il x33), (Il x34)])) ∧ ∀ m35 : M, (m35 = (M.new m26 (AO.cells 8 [(Il x27), 
 (Il x28), (Il x29), (Il x30), (Il x31), 
 (Il x32), (Il x33), (Il x34)] false))) → 
 ∃ c36 : C, ∃ m37 : M, (ApR prog 29 m35 c17 (C.sl m26.nxt 0 1 0 (some 1)) c36 m37) ∧ 
 fitsP .i64 (x18 + 1) ∧ R16 [(V.c c36), (V.c (Il (x18 + 1)))] m37)) (Q (V.tup [(U.c c17), 
 (U.c (Il 0))]) m19)) → R16 [(V.c c17), (V.c (Il x18))] m19) → 
 R16 [(V.c C.sl0), (V.c (Il 0))] m14)))) : Wc prog tbl 13 [(V.agg 4 [(Il a100), a101, a102, a103])] m Q :=
 wc_eq (n := 1) rfl (by kernel_rfl) (by kernel_rfl) h
theorem w22 {a100 : Int} {a101 : C} {a102 : C} {a103 : C} {a200 : Int} {a300 : Int} {a301 : Int} {a302 : Int} {m : M} {Q : V → M → Prop} (h :
 (∀ m0 : M, (m0 = (M.new m (AO.cells 4 [(Il a100), a101, a102, a103] false))) → ∀ m1 : M, (m1 = (M.new m0 (AO.cells 3 [(Il a300), 
 (Il a301), (Il a302)] false))) → ∃ x2, ∃ c3 : C, ∃ c4 : C, ∃ c5 : C, 
 ((ldA m1 (C.ptr m.nxt 0) 4) = (some [(Il x2), c3, c4, c5])) ∧ ∃ x6, 
 ∃ x7, ∃ x8, ((ldA m1 (C.ptr m0.nxt 0) 3) = (some [(Il x6), 
 (Il x7), (Il x8)])) ∧ Wc prog tbl 73 [(V.agg 4 [(Il x2), 
 c3, c4, c5]), (V.c (Il a200)), (V.agg 3 [(Il x6), (Il x7), 
 (Il x8)])] m1 (fun v9 m10 => ∃ x11, ∃ x12, ∃ x13, ∃ x14, 
 ∃ x15, ∃ x16, ∃ x17, ∃ x18, ∃ x19, ∃ x20, ∃ x21, 
 ∃ x22, ∃ x23, ∃ x24, ∃ x25, ∃ x26, ∃ b27 : Bool, 
 (v9 = (V.tup [(U.agg 16 [(Il x11), (Il x12), (Il x13), 
 (Il x14), (Il x15), (Il x16), (Il x17), 
 (Il x18), (Il x19), (Il x20), (Il x21), 
 (Il x22), (Il x23), (Il x24), (Il x25), 
 (Il x26)]), (U.c (C.bool b27))])) ∧ ∀ m28 : M, (m28 = (M.new m10 (AO.cells 16 [(Il 0), 
 (Il 0), (Il 0), (Il 0), 
 (Il 0), (Il 0), (Il 0), 
 (Il 0), (Il 0), (Il 0), 
 (Il 0), (Il 0), (Il 0), 
 (Il 0), (Il 0), (Il 0)] false))) → 
 ∃ m29 : M, ((stC m28 (C.ptr m10.nxt 0) 16 [(Il x11), (Il x12), 
 (Il x13), (Il x14), (Il x15), (Il x16), 
 (Il x17), (Il x18), (Il x19), (Il x20), 
 (Il x21), (Il x22), (Il x23), (Il x24), 
 (Il x25), (Il x26)]) = (some m29)) ∧ ifB (!b27) (Q (V.c (Il 0)) m29) (isPt (C.ptr m10.nxt 0) ∧ 
 ∃ x30, ∃ x31, ∃ x32, ∃ x33, ∃ x34, ∃ x35, 
 ∃ x36, ∃ x37, ∃ x38, ∃ x39, ∃ x40, ∃ x41, 
 ∃ x42, ((ldA m29 (C.ptr m10.nxt 3) 13) = (some [(Il x30), 
 (Il x31), (Il x32), (Il x33), (Il x34), 
 (Il x35), (Il x36), (Il x37), (Il x38), 
 (Il x39), (Il x40), (Il x41), (Il x42)])) ∧ 
 Wc prog tbl 74 [(V.agg 13 [(Il x30), (Il x31), 
 (Il x32), (Il x33), (Il x34), (Il x35), 
 (Il x36), (Il x37), (Il x38), (Il x39), 
 (Il x40), (Il x41), (Il x42)])] m29 (fun v43 m44 => 
 ∃ x45, (v43 = (V.c (Il x45))) ∧ Q (V.c (Il x45)) m44))))) : Wc prog tbl 22 [(V.agg 4 [(Il a100), a101, a102, a103]), (V.c (Il a200)), (V.agg 3 [(Il a300), (Il a301), (Il a302)])] m Q :=
 wc_eq (n := 3) rfl (by kernel_rfl) (by kernel_rfl) h
theorem w34 {a100 : Int} {a101 : C} {a102 : C} {a103 : C} {a200 : Int} {a300 : Int} {m : M} {Q : V → M → Prop} (h :
 (∀ m0 : M, (m0 = (M.new m (AO.cells 4 [(Il a100), a101, a102, a103] false))) → ∀ m1 : M, (m1 = (M.new m0 (AO.cells 1 [(Il a300)] false))) → 
 ∀ m2 : M, (m2 = (mGrow m1 1)) → ∃ x3, ∃ c4 : C, ∃ c5 : C, ∃ c6 : C, ((ldA m2 (C.ptr m.nxt 0) 4) = (some [(Il x3), 
 c4, c5, c6])) ∧ ∃ x7, ((ldC m2 (C.ptr m0.nxt 0)) = (some (Il x7))) ∧ 
 Wc prog tbl 84 [(V.c (Il x7))] m2 (fun v8 m9 => ∃ b10 : Bool, (v8 = (V.c (C.bool b10))) ∧ 
 (ifB (allS noFnC [(Il x3), c4, c5, c6]) ((ldA m9 (C.ptr m.nxt 0) 4) = (some [(Il x3), 
 c4, c5, c6])) False) ∧ Wc prog tbl 68 [(V.agg 4 [(Il x3), c4, c5, c6]), 
 (V.c (Il a200)), (V.c (C.bool b10))] m9 (fun v11 m12 => ∃ x13, ∃ c14 : C, 
 ∃ c15 : C, ∃ c16 : C, ∃ c17 : C, ∃ x18, (v11 = (V.tup [(U.agg 5 [(Il x13), 
 c14, c15, c16, c17]), (U.c (Il x18))])) ∧ ∀ m19 : M, (m19 = (M.set m12 (m1.nxt + 0) (AO.cells 5 [(Il 0), 
 C.sl0, C.sl0, C.sl0, C.map0] false))) → ((ldC m19 (C.ptr m0.nxt 0)) = (some (Il x7))) ∧ 
 (ifB (allS noFnC [(Il x3), c4, c5, c6]) ((ldA m19 (C.ptr m.nxt 0) 4) = (some [(Il x3), 
 c4, c5, c6])) False) ∧ ∃ m20 : M, ((stC m19 (C.ptr (m1.nxt + 0) 0) 5 [(Il x13), 
 c14, c15, c16, c17]) = (some m20)) ∧ ifB (!decide (x18 = 0)) (Q (V.tup [(U.c (Il 0)), 
 (U.c (Il x18))]) m20) (∃ x21, ∃ c22 : C, ∃ c23 : C, ∃ c24 : C, 
 ∃ c25 : C, ((ldA m20 (C.ptr (m1.nxt + 0) 0) 5) = (some [(Il x21), 
 c22, c23, c24, c25])) ∧ Wc prog tbl 85 [(V.agg 5 [(Il x21), c22, 
 c23, c24, c25]), (V.c (Il a200))] m20 (fun v26 m27 => ∃ c28 : C, 
 (v26 = (V.c c28)) ∧ Wc prog tbl 87 [(V.c c28), (V.c (C.fn (Fn.func 86) [] [(W.c (C0.ptr m0.nxt 0))]))] m27 (fun v29 m30 => 
 ∃ b31 : Bool, (v29 = (V.c (C.bool b31))) ∧ ifB b31 (Q (V.tup [(U.c (Il (1 : Int))), 
 (U.c (Il 0))]) m30) (Wc prog tbl 88 [(V.c c28), (V.c (C.fn (Fn.func 86) [] [(W.c (C0.ptr m0.nxt 0))]))] m30 (fun v32 m33 => 
 ∃ b34 : Bool, (v32 = (V.c (C.bool b34))) ∧ ifB (!b34) (Q (V.tup [(U.c (Il (2 : Int))), 
 (U.c (Il 0))]) m33) (Q (V.tup [(U.c (Il (3 : Int))), 
 (U.c (Il 0))]) m33)))))))))) : Wc prog tbl 34 [(V.agg 4 [(Il a100), a101, a102, a103]), (V.c (Il a200)), (V.c (Il a300))] m Q :=
 wc_eq (n := 3) rfl (by kernel_rfl) (by kernel_rfl) h
theorem w40 {a100 : Int} {a101 : C} {a102 : C} {a103 : C} {m : M} {Q : V → M → Prop} (h :
 (∀ m0 : M, (m0 = (M.new m (AO.cells 4 [(Il a100), a101, a102, a103] false))) → ∃ x1, ∃ c2 : C, 
 ∃ c3 : C, ∃ c4 : C, ((ldA m0 (C.ptr m.nxt 0) 4) = (some [(Il x1), c2, c3, c4])) ∧ 
 Wc prog tbl 15 [(V.agg 4 [(Il x1), c2, c3, c4])] m0 (fun v5 m6 => ∃ x7, (v5 = (V.c (Il x7))) ∧ 
 ifB (!decide (x7 = 0)) (Q (V.tup [(U.c C.sl0), (U.c (Il x7))]) m6) (isPt (C.ptr m.nxt 0) ∧ 
 ∃ c8 : C, ((ldC m6 (C.ptr m.nxt 3)) = (some c8)) ∧ isSl c8 ∧ ∃ x9, ∃ c10 : C, 
 ∃ c11 : C, ∃ c12 : C, ((ldA m6 (C.ptr m.nxt 0) 4) = (some [(Il x9), 
 c10, c11, c12])) ∧ Wc prog tbl 90 [(V.agg 4 [(Il x9), c10, c11, c12])] m6 (fun v13 m14 => 
 ∃ x15, ∃ c16 : C, ∃ c17 : C, ∃ c18 : C, ∃ c19 : C, (v13 = (V.agg 5 [(Il x15), 
 c16, c17, c18, c19])) ∧ (isSl c8 ∧ (V.c (Il (((slLen c8) : Nat) : Int))) = (V.c (Il (((slLen c8) : Nat) : Int)))) ∧ 
 (ifB (noFnC c8) ((ldC m14 (C.ptr m.nxt 3)) = (some c8)) False) ∧ optB (mapO vW [(V.agg 5 [(Il x15), 
 c16, c17, c18, c19])]) False fun l20 => Wc prog tbl 93 [(V.c (Il (((slLen c8) : Nat) : Int))), 
 (V.c (C.fn (Fn.func 94) l20 []))] m14 (fun v21 m22 => ∃ c23 : C, (v21 = (V.c c23)) ∧ 
 Q (V.tup [(U.c c23), (U.c (Il 0))]) m22)))))) : Wc prog tbl 40 [(V.agg 4 [(Il a100), a101, a102, a103])] m Q :=
 wc_eq (n := 1) rfl (by kernel_rfl) (by kernel_rfl) h
theorem w46 {a100 : Int} {a200 : Int} {a201 : Int} {m : M} {Q : V → M → Prop} (h :
 (∀ m0 : M, (m0 = (M.new m (AO.cells 2 [(Il a200), (Il a201)] false))) → isPt (C.ptr m.nxt 0) ∧ 
 ∃ x1, ((ldC m0 (C.ptr m.nxt 0)) = (some (Il x1))) ∧ ifB (decide (x1 ≤ a100)) (isPt (C.ptr m.nxt 0) ∧ 
 ∃ x2, ((ldC m0 (C.ptr m.nxt 1)) = (some (Il x2))) ∧ Q (V.c (C.bool (decide (a100 ≤ x2)))) m0) (Q (V.c (C.bool false)) m0))) : Wc prog tbl 46 [(V.c (Il a100)), (V.agg 2 [(Il a200), (Il a201)])] m Q :=
 wc_eq (n := 2) rfl (by kernel_rfl) (by kernel_rfl) h
theorem w49 {a100 : Int} {a101 : Int} {a102 : Int} {a103 : Int} {a104 : Int} {a105 : Int} {a106 : Int} {m : M} {Q : V → M → Prop} (h :
 (∀ m0 : M, (m0 = (M.new m (AO.cells 7 [(Il a100), (Il a101), (Il a102), 
 (Il a103), (Il a104), (Il a105), (Il a106)] false))) → 
 isPt (C.ptr m.nxt 0) ∧ ∃ x1, ∃ x2, ((ldA m0 (C.ptr m.nxt 1) 2) = (some [(Il x1), 
 (Il x2)])) ∧ Wc prog tbl 96 [(V.agg 2 [(Il x1), (Il x2)])] m0 (fun v3 m4 => 
 ∃ x5, (v3 = (V.c (Il x5))) ∧ isPt (C.ptr m.nxt 0) ∧ ∃ x6, ∃ x7, 
 ((ldA m4 (C.ptr m.nxt 3) 2) = (some [(Il x6), (Il x7)])) ∧ 
 ((ldA m0 (C.ptr m.nxt 3) 2) = (some [(Il x6), (Il x7)])) ∧ 
 Wc prog tbl 96 [(V.agg 2 [(Il x6), (Il x7)])] m4 (fun v8 m9 => 
 ∃ x10, (v8 = (V.c (Il x10))) ∧ ((0 : Int) ≤ x5) ∧ ((0 : Int) ≤ x10) ∧ 
 fitsP .i64 (x5 * x10) ∧ isPt (C.ptr m.nxt 0) ∧ ∃ x11, ∃ x12, 
 ((ldA m9 (C.ptr m.nxt 5) 2) = (some [(Il x11), (Il x12)])) ∧ 
 ((ldA m4 (C.ptr m.nxt 5) 2) = (some [(Il x11), (Il x12)])) ∧ 
 ((ldA m0 (C.ptr m.nxt 5) 2) = (some [(Il x11), (Il x12)])) ∧ 
 Wc prog tbl 96 [(V.agg 2 [(Il x11), (Il x12)])] m9 (fun v13 m14 => 
 ∃ x15, (v13 = (V.c (Il x15))) ∧ ((0 : Int) ≤ (x5 * x10)) ∧ 
 ((0 : Int) ≤ x15) ∧ fitsP .i64 ((x5 * x10) * x15) ∧ Q (V.c (Il ((x5 * x10) * x15))) m14))))) : Wc prog tbl 49 [(V.agg 7 [(Il a100), (Il a101), (Il a102), (Il a103), (Il a104), (Il a105), (Il a106)])] m Q :=
 wc_eq (n := 1) rfl (by kernel_rfl) (by kernel_rfl) h
theorem w55 {a100 : Int} {a101 : C} {a102 : C} {a103 : C} {m : M} {Q : V → M → Prop} (h :
 (∀ m0 : M, (m0 = (M.new m (AO.cells 4 [(Il a100), a101, a102, a103] false))) → isPt (C.ptr m.nxt 0) ∧ 
 ∃ x1, ((ldC m0 (C.ptr m.nxt 0)) = (some (Il x1))) ∧ ifB (decide ((12 : Int) < x1)) (Q (V.c (Il (3 : Int))) m0) (isPt (C.ptr m.nxt 0) ∧ 
 ∃ c2 : C, ((ldC m0 (C.ptr m.nxt 1)) = (some c2)) ∧ isSl c2 ∧ ifB (decide ((3 : Int) < (((slLen c2) : Nat) : Int))) (Q (V.c (Il (3 : Int))) m0) (isPt (C.ptr m.nxt 0) ∧ 
 ∃ c3 : C, ((ldC m0 (C.ptr m.nxt 2)) = (some c3)) ∧ isSl c3 ∧ ifB (decide ((3 : Int) < (((slLen c3) : Nat) : Int))) (Q (V.c (Il (3 : Int))) m0) (isPt (C.ptr m.nxt 0) ∧ 
 ∃ c4 : C, ((ldC m0 (C.ptr m.nxt 3)) = (some c4)) ∧ isSl c4 ∧ ifB (decide ((6 : Int) < (((slLen c4) : Nat) : Int))) (Q (V.c (Il (3 : Int))) m0) (isPt (C.ptr m.nxt 0) ∧ 
 ∃ x5, ((ldC m0 (C.ptr m.nxt 0)) = (some (Il x5))) ∧ ifB (decide (x5 < 0)) (Q (V.c (Il (1 : Int))) m0) (isPt (C.ptr m.nxt 0) ∧ 
 ∃ c6 : C, ((ldC m0 (C.ptr m.nxt 1)) = (some c6)) ∧ isSl c6 ∧ ifB (decide ((((slLen c6) : Nat) : Int) = (0 : Int))) (Q (V.c (Il (1 : Int))) m0) (isPt (C.ptr m.nxt 0) ∧ 
 ∃ c7 : C, ((ldC m0 (C.ptr m.nxt 2)) = (some c7)) ∧ isSl c7 ∧ ifB (decide ((((slLen c7) : Nat) : Int) = (0 : Int))) (Q (V.c (Il (1 : Int))) m0) (∀ R8 : List V → 
 M → Prop, (∀ x9 : Int, ∀ x10 : Int, ∀ m11 : M, (isPt (C.ptr m.nxt 0) ∧ 
 ∃ c12 : C, ((ldC m11 (C.ptr m.nxt 1)) = (some c12)) ∧ isSl c12 ∧ 
 ifB (decide (x10 < (((slLen c12) : Nat) : Int))) (∃ x13, ∃ c14 : C, ∃ c15 : C, 
 ∃ c16 : C, ((ldA m11 (C.ptr m.nxt 0) 4) = (some [(Il x13), 
 c14, c15, c16])) ∧ isPt (C.ptr m.nxt 0) ∧ ∃ c17 : C, ((ldC m11 (C.ptr m.nxt 1)) = (some c17)) ∧ 
 ∃ n18 : Nat, (x10 = ((n18 : Nat) : Int)) ∧ (n18 < (slLen c17)) ∧ ∃ c19 : C, 
 ((ldC m11 (slAt c17 (n18 * 1))) = (some c19)) ∧ Wc prog tbl 98 [(V.agg 4 [(Il x13), 
 c14, c15, c16]), (V.c c19)] m11 (fun v20 m21 => ∃ b22 : Bool, (v20 = (V.c (C.bool b22))) ∧ 
 ifB (!b22) (Q (V.c (Il (1 : Int))) m21) (fitsP .i64 (x10 + 1) ∧ 
 R8 [(V.c (Il x9)), (V.c (Il (x10 + 1)))] m21))) (∀ R23 : List V → 
 M → Prop, (∀ x24 : Int, ∀ x25 : Int, ∀ m26 : M, (isPt (C.ptr m.nxt 0) ∧ 
 ∃ c27 : C, ((ldC m26 (C.ptr m.nxt 2)) = (some c27)) ∧ isSl c27 ∧ 
 ifB (decide (x25 < (((slLen c27) : Nat) : Int))) (isPt (C.ptr m.nxt 0) ∧ ∃ c28 : C, 
 ((ldC m26 (C.ptr m.nxt 2)) = (some c28)) ∧ ∃ n29 : Nat, (x25 = ((n29 : Nat) : Int)) ∧ 
 (n29 < (slLen c28)) ∧ ∃ x30, ∃ x31, ∃ x32, ∃ x33, 
 ∃ x34, ∃ x35, ∃ x36, ((ldA m26 (slAt c28 (n29 * 7)) 7) = (some [(Il x30), 
 (Il x31), (Il x32), (Il x33), (Il x34), 
 (Il x35), (Il x36)])) ∧ ∀ m37 : M, (m37 = (M.new m26 (AO.cells 7 [(Il 0), 
 (Il 0), (Il 0), (Il 0), 
 (Il 0), (Il 0), (Il 0)] false))) → 
 ∃ m38 : M, ((stC m37 (C.ptr m26.nxt 0) 7 [(Il x30), (Il x31), 
 (Il x32), (Il x33), (Il x34), (Il x35), 
 (Il x36)]) = (some m38)) ∧ isPt (C.ptr m26.nxt 0) ∧ 
 ∃ x39, ((ldC m38 (C.ptr m26.nxt 0)) = (some (Il x39))) ∧ 
 isPt (C.ptr m.nxt 0) ∧ ∃ c40 : C, ((ldC m38 (C.ptr m.nxt 1)) = (some c40)) ∧ 
 isSl c40 ∧ fitsP .i64 ((((slLen c40) : Nat) : Int) - (1 : Int)) ∧ Wc prog tbl 29 [(V.c (Il x39)), 
 (V.c (Il 0)), (V.c (Il ((((slLen c40) : Nat) : Int) - (1 : Int))))] m38 (fun v41 m42 => 
 ∃ b43 : Bool, (v41 = (V.c (C.bool b43))) ∧ ifB (!b43) (Q (V.c (Il (1 : Int))) m42) (isPt (C.ptr m26.nxt 0) ∧ 
 ∃ x44, ∃ x45, ((ldA m42 (C.ptr m26.nxt 1) 2) = (some [(Il x44), 
 (Il x45)])) ∧ isPt (C.ptr m.nxt 0) ∧ ∃ x46, ((ldC m42 (C.ptr m.nxt 0)) = (some (Il x46))) ∧ 
 Wc prog tbl 99 [(V.agg 2 [(Il x44), (Il x45)]), 
 (V.c (Il 0)), (V.c (Il x46))] m42 (fun v47 m48 => 
 ∃ b49 : Bool, (v47 = (V.c (C.bool b49))) ∧ ifB (!b49) (Q (V.c (Il (1 : Int))) m48) (isPt (C.ptr m26.nxt 0) ∧ 
 ∃ x50, ∃ x51, ((ldA m48 (C.ptr m26.nxt 3) 2) = (some [(Il x50), 
 (Il x51)])) ∧ Wc prog tbl 99 [(V.agg 2 [(Il x50), 
 (Il x51)]), (V.c (Il 0)), (V.c (Il (100 : Int)))] m48 (fun v52 m53 => 
 ∃ b54 : Bool, (v52 = (V.c (C.bool b54))) ∧ ifB (!b54) (Q (V.c (Il (1 : Int))) m53) (isPt (C.ptr m26.nxt 0) ∧ 
 ∃ x55, ∃ x56, ((ldA m53 (C.ptr m26.nxt 5) 2) = (some [(Il x55), 
 (Il x56)])) ∧ Wc prog tbl 99 [(V.agg 2 [(Il x55), 
 (Il x56)]), (V.c (Il 0)), (V.c (Il (100 : Int)))] m53 (fun v57 m58 => 
 ∃ b59 : Bool, (v57 = (V.c (C.bool b59))) ∧ ifB (!b59) (Q (V.c (Il (1 : Int))) m58) (fitsP .i64 (x25 + 1) ∧ 
 R23 [(V.c (Il x24)), (V.c (Il (x25 + 1)))] m58))))))))) (∀ R60 : List V → 
 M → Prop, (∀ x61 : Int, ∀ x62 : Int, ∀ m63 : M, (isPt (C.ptr m.nxt 0) ∧ 
 ∃ c64 : C, ((ldC m63 (C.ptr m.nxt 3)) = (some c64)) ∧ isSl c64 ∧ 
 ifB (decide (x62 < (((slLen c64) : Nat) : Int))) (isPt (C.ptr m.nxt 0) ∧ ∃ c65 : C, 
 ((ldC m63 (C.ptr m.nxt 3)) = (some c65)) ∧ ∃ n66 : Nat, (x62 = ((n66 : Nat) : Int)) ∧ 
 (n66 < (slLen c65)) ∧ ∃ x67, ∃ x68, ∃ x69, ∃ x70, 
 ((ldA m63 (slAt c65 (n66 * 4)) 4) = (some [(Il x67), (Il x68), 
 (Il x69), (Il x70)])) ∧ ∀ m71 : M, (m71 = (M.new m63 (AO.cells 4 [(Il 0), 
 (Il 0), (Il 0), (Il 0)] false))) → 
 ∃ m72 : M, ((stC m71 (C.ptr m63.nxt 0) 4 [(Il x67), (Il x68), 
 (Il x69), (Il x70)]) = (some m72)) ∧ isPt (C.ptr m63.nxt 0) ∧ 
 ∃ x73, ((ldC m72 (C.ptr m63.nxt 0)) = (some (Il x73))) ∧ 
 isPt (C.ptr m.nxt 0) ∧ ∃ c74 : C, ((ldC m72 (C.ptr m.nxt 2)) = (some c74)) ∧ 
 isSl c74 ∧ fitsP .i64 ((((slLen c74) : Nat) : Int) - (1 : Int)) ∧ Wc prog tbl 29 [(V.c (Il x73)), 
 (V.c (Il 0)), (V.c (Il ((((slLen c74) : Nat) : Int) - (1 : Int))))] m72 (fun v75 m76 => 
 ∃ b77 : Bool, (v75 = (V.c (C.bool b77))) ∧ ifB (!b77) (Q (V.c (Il (1 : Int))) m76) (isPt (C.ptr m63.nxt 0) ∧ 
 ∃ x78, ((ldC m76 (C.ptr m63.nxt 1)) = (some (Il x78))) ∧ 
 isPt (C.ptr m.nxt 0) ∧ ∃ x79, ((ldC m76 (C.ptr m.nxt 0)) = (some (Il x79))) ∧ 
 Wc prog tbl 29 [(V.c (Il x78)), (V.c (Il 0)), 
 (V.c (Il x79))] m76 (fun v80 m81 => ∃ b82 : Bool, (v80 = (V.c (C.bool b82))) ∧ 
 ifB (!b82) (Q (V.c (Il (1 : Int))) m81) (isPt (C.ptr m63.nxt 0) ∧ 
 ∃ x83, ∃ x84, ((ldA m81 (C.ptr m63.nxt 2) 2) = (some [(Il x83), 
 (Il x84)])) ∧ Wc prog tbl 99 [(V.agg 2 [(Il x83), 
 (Il x84)]), (V.c (Il 0)), (V.c (Il (100 : Int)))] m81 (fun v85 m86 => 
 ∃ b87 : Bool, (v85 = (V.c (C.bool b87))) ∧ ifB (!b87) (Q (V.c (Il (1 : Int))) m86) (fitsP .i64 (x62 + 1) ∧ 
 R60 [(V.c (Il x61)), (V.c (Il (x62 + 1)))] m86))))))) (∀ R88 : List V → 
 M → Prop, (∀ x89 : Int, ∀ x90 : Int, ∀ m91 : M, (isPt (C.ptr m.nxt 0) ∧ 
 ∃ c92 : C, ((ldC m91 (C.ptr m.nxt 2)) = (some c92)) ∧ isSl c92 ∧ 
 ifB (decide (x90 < (((slLen c92) : Nat) : Int))) (isPt (C.ptr m.nxt 0) ∧ ∃ c93 : C, 
 ((ldC m91 (C.ptr m.nxt 2)) = (some c93)) ∧ ∃ n94 : Nat, (x90 = ((n94 : Nat) : Int)) ∧ 
 (n94 < (slLen c93)) ∧ ∃ x95, ∃ x96, ∃ x97, ∃ x98, 
 ∃ x99, ∃ x100, ∃ x101, ((ldA m91 (slAt c93 (n94 * 7)) 7) = (some [(Il x95), 
 (Il x96), (Il x97), (Il x98), (Il x99), 
 (Il x100), (Il x101)])) ∧ Wc prog tbl 49 [(V.agg 7 [(Il x95), 
 (Il x96), (Il x97), (Il x98), (Il x99), 
 (Il x100), (Il x101)])] m91 (fun v102 m103 => ∃ x104, 
 (v102 = (V.c (Il x104))) ∧ ifB (decide ((3000 : Int) < x104)) (Q (V.c (Il (3 : Int))) m103) (fitsP .i64 (x90 + 1) ∧ 
 R88 [(V.c (Il x89)), (V.c (Il (x90 + 1)))] m103))) (Q (V.c (Il 0)) m91)) → 
 R88 [(V.c (Il x89)), (V.c (Il x90))] m91) → 
 R88 [(V.c (Il x61)), (V.c (Il 0))] m63)) → 
 R60 [(V.c (Il x61)), (V.c (Il x62))] m63) → 
 R60 [(V.c (Il x24)), (V.c (Il 0))] m26)) → 
 R23 [(V.c (Il x24)), (V.c (Il x25))] m26) → 
 R23 [(V.c (Il x9)), (V.c (Il 0))] m11)) → 
 R8 [(V.c (Il x9)), (V.c (Il x10))] m11) → 
 R8 [(V.c (Il 0)), (V.c (Il 0))] m0))))))))) : Wc prog tbl 55 [(V.agg 4 [(Il a100), a101, a102, a103])] m Q :=
 wc_eq (n := 1) rfl (by kernel_rfl) (by kernel_rfl) h
theorem w60 {a100 : Int} {a101 : C} {a102 : C} {a103 : C} {m : M} {Q : V → M → Prop} (h :
 (∀ m0 : M, (m0 = (M.new m (AO.cells 4 [(Il a100), a101, a102, a103] false))) → isPt (C.ptr m.nxt 0) ∧ 
 ∃ x1, ((ldC m0 (C.ptr m.nxt 0)) = (some (Il x1))) ∧ ifB (decide ((12 : Int) < x1)) (Q (V.c (C.bool true)) m0) (isPt (C.ptr m.nxt 0) ∧ 
 ∃ c2 : C, ((ldC m0 (C.ptr m.nxt 1)) = (some c2)) ∧ isSl c2 ∧ ifB (decide ((3 : Int) < (((slLen c2) : Nat) : Int))) (Q (V.c (C.bool true)) m0) (isPt (C.ptr m.nxt 0) ∧ 
 ∃ c3 : C, ((ldC m0 (C.ptr m.nxt 2)) = (some c3)) ∧ isSl c3 ∧ ifB (decide ((3 : Int) < (((slLen c3) : Nat) : Int))) (Q (V.c (C.bool true)) m0) (isPt (C.ptr m.nxt 0) ∧ 
 ∃ c4 : C, ((ldC m0 (C.ptr m.nxt 3)) = (some c4)) ∧ isSl c4 ∧ Q (V.c (C.bool (decide ((6 : Int) < (((slLen c4) : Nat) : Int))))) m0))))) : Wc prog tbl 60 [(V.agg 4 [(Il a100), a101, a102, a103])] m Q :=
 wc_eq (n := 1) rfl (by kernel_rfl) (by kernel_rfl) h
theorem w63 {a100 : Int} {a101 : Int} {a102 : Int} {a103 : Int} {a104 : Int} {a105 : Int} {a106 : Int} {m : M} {Q : V → M → Prop} (h :
 (∀ m0 : M, (m0 = (M.new m (AO.cells 7 [(Il a100), (Il a101), (Il a102), 
 (Il a103), (Il a104), (Il a105), (Il a106)] false))) → 
 isPt (C.ptr m.nxt 0) ∧ ∃ x1, ∃ x2, ((ldA m0 (C.ptr m.nxt 1) 2) = (some [(Il x1), 
 (Il x2)])) ∧ Wc prog tbl 110 [(V.agg 2 [(Il x1), (Il x2)])] m0 (fun v3 m4 => 
 ∃ x5, (v3 = (V.c (Il x5))) ∧ isPt (C.ptr m.nxt 0) ∧ ∃ x6, ∃ x7, 
 ((ldA m4 (C.ptr m.nxt 3) 2) = (some [(Il x6), (Il x7)])) ∧ 
 ((ldA m0 (C.ptr m.nxt 3) 2) = (some [(Il x6), (Il x7)])) ∧ 
 Wc prog tbl 110 [(V.agg 2 [(Il x6), (Il x7)])] m4 (fun v8 m9 => 
 ∃ x10, (v8 = (V.c (Il x10))) ∧ ((0 : Int) ≤ x5) ∧ ((0 : Int) ≤ x10) ∧ 
 fitsP .i64 (x5 * x10) ∧ isPt (C.ptr m.nxt 0) ∧ ∃ x11, ∃ x12, 
 ((ldA m9 (C.ptr m.nxt 5) 2) = (some [(Il x11), (Il x12)])) ∧ 
 ((ldA m4 (C.ptr m.nxt 5) 2) = (some [(Il x11), (Il x12)])) ∧ 
 ((ldA m0 (C.ptr m.nxt 5) 2) = (some [(Il x11), (Il x12)])) ∧ 
 Wc prog tbl 110 [(V.agg 2 [(Il x11), (Il x12)])] m9 (fun v13 m14 => 
 ∃ x15, (v13 = (V.c (Il x15))) ∧ ((0 : Int) ≤ (x5 * x10)) ∧ 
 ((0 : Int) ≤ x15) ∧ fitsP .i64 ((x5 * x10) * x15) ∧ Q (V.c (C.bool (decide (((x5 * x10) * x15) ≤ (3000 : Int))))) m14))))) : Wc prog tbl 63 [(V.agg 7 [(Il a100), (Il a101), (Il a102), (Il a103), (Il a104), (Il a105), (Il a106)])] m Q :=
 wc_eq (n := 1) rfl (by kernel_rfl) (by kernel_rfl) h
theorem w69 {a100 : Int} {a101 : C} {a102 : C} {a103 : C} {a200 : Int} {m : M} {Q : V → M → Prop} (h :
 (∀ m0 : M, (m0 = (M.new m (AO.cells 4 [(Il a100), a101, a102, a103] false))) → isPt (C.ptr m.nxt 0) ∧ 
 ∃ x1, ((ldC m0 (C.ptr m.nxt 0)) = (some (Il x1))) ∧ Wc prog tbl 112 [(V.agg 2 [(Il 0), 
 (Il x1)]), (V.c (Il a200))] m0 (fun v2 m3 => ∃ b4 : Bool, (v2 = (V.c (C.bool b4))) ∧ 
 Q (V.c (C.bool b4)) m3))) : Wc prog tbl 69 [(V.agg 4 [(Il a100), a101, a102, a103]), (V.c (Il a200))] m Q :=
 wc_eq (n := 2) rfl (by kernel_rfl) (by kernel_rfl) h
theorem w73 {a100 : Int} {a101 : C} {a102 : C} {a103 : C} {a200 : Int} {a300 : Int} {a301 : Int} {a302 : Int} {m : M} {Q : V → M → Prop} (h :
 (∀ m0 : M, (m0 = (M.new m (AO.cells 4 [(Il a100), a101, a102, a103] false))) → ∀ m1 : M, (m1 = (M.new m0 (AO.cells 3 [(Il a300), 
 (Il a301), (Il a302)] false))) → ∀ m2 : M, (m2 = (M.new m1 (AO.cells 16 [(Il 0), 
 (Il 0), (Il 0), (Il 0), (Il 0), 
 (Il 0), (Il 0), (Il 0), (Il 0), 
 (Il 0), (Il 0), (Il 0), (Il 0), 
 (Il 0), (Il 0), (Il 0)] false))) → 
 ∃ x3, ∃ c4 : C, ∃ c5 : C, ∃ c6 : C, ((ldA m2 (C.ptr m.nxt 0) 4) = (some [(Il x3), 
 c4, c5, c6])) ∧ Wc prog tbl 15 [(V.agg 4 [(Il x3), c4, c5, c6])] m2 (fun v7 m8 => 
 ∃ x9, (v7 = (V.c (Il x9))) ∧ ifB (!decide (x9 = 0)) (∃ m10 : M, 
 ((stC m8 (C.ptr m1.nxt 0) 16 [(Il 0), (Il 0), 
 (Il 0), (Il 0), (Il 0), 
 (Il 0), (Il 0), (Il 0), 
 (Il 0), (Il 0), (Il 0), 
 (Il 0), (Il 0), (Il 0), 
 (Il 0), (Il 0)]) = (some m10)) ∧ 
 ∃ x11, ∃ x12, ∃ x13, ∃ x14, ∃ x15, ∃ x16, ∃ x17, 
 ∃ x18, ∃ x19, ∃ x20, ∃ x21, ∃ x22, ∃ x23, 
 ∃ x24, ∃ x25, ∃ x26, ((ldA m10 (C.ptr m1.nxt 0) 16) = (some [(Il x11), 
 (Il x12), (Il x13), (Il x14), (Il x15), 
 (Il x16), (Il x17), (Il x18), (Il x19), 
 (Il x20), (Il x21), (Il x22), (Il x23), 
 (Il x24), (Il x25), (Il x26)])) ∧ 
 Q (V.tup [(U.agg 16 [(Il x11), (Il x12), (Il x13), 
 (Il x14), (Il x15), (Il x16), (Il x17), 
 (Il x18), (Il x19), (Il x20), (Il x21), 
 (Il x22), (Il x23), (Il x24), (Il x25), 
 (Il x26)]), (U.c (C.bool false))]) m10) (∃ x27, 
 ∃ c28 : C, ∃ c29 : C, ∃ c30 : C, ((ldA m8 (C.ptr m.nxt 0) 4) = (some [(Il x27), 
 c28, c29, c30])) ∧ Wc prog tbl 111 [(V.agg 4 [(Il x27), c28, c29, c30]), 
 (V.c (Il a200))] m8 (fun v31 m32 => ∃ b33 : Bool, (v31 = (V.c (C.bool b33))) ∧ 
 ifB (!b33) (∃ m34 : M, ((stC m32 (C.ptr m1.nxt 0) 16 [(Il 0), 
 (Il 0), (Il 0), (Il 0), 
 (Il 0), (Il 0), (Il 0), 
 (Il 0), (Il 0), (Il 0), 
 (Il 0), (Il 0), (Il 0), 
 (Il 0), (Il 0), (Il 0)]) = (some m34)) ∧ 
 ∃ x35, ∃ x36, ∃ x37, ∃ x38, ∃ x39, ∃ x40, 
 ∃ x41, ∃ x42, ∃ x43, ∃ x44, ∃ x45, ∃ x46, 
 ∃ x47, ∃ x48, ∃ x49, ∃ x50, ((ldA m34 (C.ptr m1.nxt 0) 16) = (some [(Il x35), 
 (Il x36), (Il x37), (Il x38), (Il x39), 
 (Il x40), (Il x41), (Il x42), (Il x43), 
 (Il x44), (Il x45), (Il x46), (Il x47), 
 (Il x48), (Il x49), (Il x50)])) ∧ 
 Q (V.tup [(U.agg 16 [(Il x35), (Il x36), (Il x37), 
 (Il x38), (Il x39), (Il x40), (Il x41), 
 (Il x42), (Il x43), (Il x44), (Il x45), 
 (Il x46), (Il x47), (Il x48), (Il x49), 
 (Il x50)]), (U.c (C.bool false))]) m34) (isPt (C.ptr m.nxt 0) ∧ 
 ∃ c51 : C, ((ldC m32 (C.ptr m.nxt 2)) = (some c51)) ∧ ∃ n52 : Nat, (a200 = ((n52 : Nat) : Int)) ∧ 
 (n52 < (slLen c51)) ∧ ∃ x53, ∃ x54, ∃ x55, ∃ x56, 
 ∃ x57, ∃ x58, ∃ x59, ((ldA m32 (slAt c51 (n52 * 7)) 7) = (some [(Il x53), 
 (Il x54), (Il x55), (Il x56), (Il x57), 
 (Il x58), (Il x59)])) ∧ ∃ x60, ∃ x61, 
 ∃ x62, ((ldA m32 (C.ptr m0.nxt 0) 3) = (some [(Il x60), 
 (Il x61), (Il x62)])) ∧ Wc prog tbl 115 [(V.agg 7 [(Il x53), 
 (Il x54), (Il x55), (Il x56), (Il x57), 
 (Il x58), (Il x59)]), (V.agg 3 [(Il x60), 
 (Il x61), (Il x62)])] m32 (fun v63 m64 => ∃ b65 : Bool, 
 (v63 = (V.c (C.bool b65))) ∧ ifB (!b65) (∃ m66 : M, ((stC m64 (C.ptr m1.nxt 0) 16 [(Il 0), 
 (Il 0), (Il 0), (Il 0), 
 (Il 0), (Il 0), (Il 0), 
 (Il 0), (Il 0), (Il 0), 
 (Il 0), (Il 0), (Il 0), 
 (Il 0), (Il 0), (Il 0)]) = (some m66)) ∧ 
 ∃ x67, ∃ x68, ∃ x69, ∃ x70, ∃ x71, ∃ x72, 
 ∃ x73, ∃ x74, ∃ x75, ∃ x76, ∃ x77, ∃ x78, 
 ∃ x79, ∃ x80, ∃ x81, ∃ x82, ((ldA m66 (C.ptr m1.nxt 0) 16) = (some [(Il x67), 
 (Il x68), (Il x69), (Il x70), (Il x71), 
 (Il x72), (Il x73), (Il x74), (Il x75), 
 (Il x76), (Il x77), (Il x78), (Il x79), 
 (Il x80), (Il x81), (Il x82)])) ∧ 
 Q (V.tup [(U.agg 16 [(Il x67), (Il x68), (Il x69), 
 (Il x70), (Il x71), (Il x72), (Il x73), 
 (Il x74), (Il x75), (Il x76), (Il x77), 
 (Il x78), (Il x79), (Il x80), (Il x81), 
 (Il x82)]), (U.c (C.bool false))]) m66) (∃ x83, 
 ∃ x84, ∃ x85, ((ldA m64 (C.ptr m0.nxt 0) 3) = (some [(Il x83), 
 (Il x84), (Il x85)])) ∧ ∃ x86, ∃ c87 : C, 
 ∃ c88 : C, ∃ c89 : C, ((ldA m64 (C.ptr m.nxt 0) 4) = (some [(Il x86), 
 c87, c88, c89])) ∧ ∃ x90, ∃ x91, ∃ x92, ((ldA m64 (C.ptr m0.nxt 0) 3) = (some [(Il x90), 
 (Il x91), (Il x92)])) ∧ isPt (C.ptr m.nxt 0) ∧ 
 ∃ c93 : C, ((ldC m64 (C.ptr m.nxt 2)) = (some c93)) ∧ ∃ n94 : Nat, 
 (a200 = ((n94 : Nat) : Int)) ∧ (n94 < (slLen c93)) ∧ isPt (slAt c93 (n94 * 7)) ∧ 
 ∃ x95, ((ldC m64 (ptAdd (slAt c93 (n94 * 7)) 0)) = (some (Il x95))) ∧ 
 Wc prog tbl 116 [(V.agg 4 [(Il x86), c87, c88, c89]), (V.agg 4 [(Il x90), 
 (Il x91), (Il x92), (Il x95)])] m64 (fun v96 m97 => 
 ∃ x98, ∃ x99, ∃ x100, ∃ x101, ∃ x102, ∃ x103, 
 ∃ x104, ∃ x105, ∃ x106, ∃ x107, ∃ x108, ∃ x109, 
 ∃ x110, (v96 = (V.agg 13 [(Il x98), (Il x99), 
 (Il x100), (Il x101), (Il x102), 
 (Il x103), (Il x104), (Il x105), 
 (Il x106), (Il x107), (Il x108), 
 (Il x109), (Il x110)])) ∧ ((ldA m97 (C.ptr m0.nxt 0) 3) = (some [(Il x83), 
 (Il x84), (Il x85)])) ∧ ∃ m111 : M, ((stC m97 (C.ptr m1.nxt 0) 16 [(Il x83), 
 (Il x84), (Il x85), (Il x98), (Il x99), 
 (Il x100), (Il x101), (Il x102), 
 (Il x103), (Il x104), (Il x105), 
 (Il x106), (Il x107), (Il x108), 
 (Il x109), (Il x110)]) = (some m111)) ∧ 
 ∃ x112, ∃ x113, ∃ x114, ∃ x115, ∃ x116, ∃ x117, 
 ∃ x118, ∃ x119, ∃ x120, ∃ x121, ∃ x122, ∃ x123, 
 ∃ x124, ∃ x125, ∃ x126, ∃ x127, ((ldA m111 (C.ptr m1.nxt 0) 16) = (some [(Il x112), 
 (Il x113), (Il x114), (Il x115), 
 (Il x116), (Il x117), (Il x118), 
 (Il x119), (Il x120), (Il x121), 
 (Il x122), (Il x123), (Il x124), 
 (Il x125), (Il x126), (Il x127)])) ∧ 
 Q (V.tup [(U.agg 16 [(Il x112), (Il x113), (Il x114), 
 (Il x115), (Il x116), (Il x117), 
 (Il x118), (Il x119), (Il x120), 
 (Il x121), (Il x122), (Il x123), 
 (Il x124), (Il x125), (Il x126), 
 (Il x127)]), (U.c (C.bool true))]) m111))))))))) : Wc prog tbl 73 [(V.agg 4 [(Il a100), a101, a102, a103]), (V.c (Il a200)), (V.agg 3 [(Il a300), (Il a301), (Il a302)])] m Q :=
 wc_eq (n := 3) rfl (by kernel_rfl) (by kernel_rfl) h
theorem w76 {a100 : Int} {a101 : C} {a102 : C} {a103 : C} {a200 : Int} {a300 : Int} {a301 : Int} {a302 : Int} {a400 : Int} {m : M} {Q : V → M → Prop} (h :
 (∀ m0 : M, (m0 = (M.new m (AO.cells 4 [(Il a100), a101, a102, a103] false))) → ∀ m1 : M, (m1 = (M.new m0 (AO.cells 3 [(Il a300), 
 (Il a301), (Il a302)] false))) → isPt (C.ptr m0.nxt 0) ∧ ∃ x2, 
 ((ldC m1 (C.ptr m0.nxt 0)) = (some (Il x2))) ∧ ifB (decide (a400 < x2)) (Q (V.c (Il 0)) m1) (isPt (C.ptr m0.nxt 0) ∧ 
 ∃ x3, ((ldC m1 (C.ptr m0.nxt 0)) = (some (Il x3))) ∧ ifB (decide (a400 = x3)) (isPt (C.ptr m0.nxt 0) ∧ 
 ∃ x4, ((ldC m1 (C.ptr m0.nxt 1)) = (some (Il x4))) ∧ Q (V.c (Il x4)) m1) (∃ x5, 
 ∃ c6 : C, ∃ c7 : C, ∃ c8 : C, ((ldA m1 (C.ptr m.nxt 0) 4) = (some [(Il x5), 
 c6, c7, c8])) ∧ ∃ x9, ∃ x10, ∃ x11, ((ldA m1 (C.ptr m0.nxt 0) 3) = (some [(Il x9), 
 (Il x10), (Il x11)])) ∧ fitsP .i64 (a400 - 1) ∧ 
 Wc prog tbl 76 [(V.agg 4 [(Il x5), c6, c7, c8]), (V.c (Il a200)), 
 (V.agg 3 [(Il x9), (Il x10), (Il x11)]), 
 (V.c (Il (a400 - 1)))] m1 (fun v12 m13 => ∃ x14, (v12 = (V.c (Il x14))) ∧ 
 isPt (C.ptr m.nxt 0) ∧ ∃ c15 : C, ((ldC m13 (C.ptr m.nxt 1)) = (some c15)) ∧ 
 ∃ n16 : Nat, (a200 = ((n16 : Nat) : Int)) ∧ (n16 < (slLen c15)) ∧ ∃ c17 : C, 
 ((ldC m13 (slAt c15 (n16 * 1))) = (some c17)) ∧ ∃ n18 : Nat, (a400 = ((n18 : Nat) : Int)) ∧ 
 (n18 < (slLen c17)) ∧ ∃ x19, ((ldC m13 (slAt c17 (n18 * 1))) = (some (Il x19))) ∧ 
 ((0 : Int) ≤ x14) ∧ ((0 : Int) ≤ x19) ∧ fitsP .i64 (x14 * x19) ∧ ((0 : Int) ≤ (x14 * x19)) ∧ 
 ((0 : Int) < (100 : Int)) ∧ fitsP .i64 ((x14 * x19) / (100 : Int)) ∧ 
 fitsP .i64 (x14 - ((x14 * x19) / (100 : Int))) ∧ Q (V.c (Il (x14 - ((x14 * x19) / (100 : Int))))) m13))))) : Wc prog tbl 76 [(V.agg 4 [(Il a100), a101, a102, a103]), (V.c (Il a200)), (V.agg 3 [(Il a300), (Il a301), (Il a302)]), (V.c (Il a400))] m Q :=
 wc_eq (n := 4) rfl (by kernel_rfl) (by kernel_rfl) h
theorem w79 {a100 : Int} {a101 : C} {a102 : C} {a103 : C} {a104 : C} {a200 : Int} {m : M} {Q : V → M → Prop} (h :
 (∀ m0 : M, (m0 = (M.new m (AO.cells 5 [(Il a100), a101, a102, a103, a104] false))) → ∀ m1 : M, 
 (m1 = (M.new m0 (AO.cells 1 [(Il a200)] false))) → Q (V.c (C.fn (Fn.func 119) [] [(W.c (C0.ptr m.nxt 0)), 
 (W.c (C0.ptr m0.nxt 0))])) m1)) : Wc prog tbl 79 [(V.agg 5 [(Il a100), a101, a102, a103, a104]), (V.c (Il a200))] m Q :=
 wc_eq (n := 2) rfl (by kernel_rfl) (by kernel_rfl) h
theorem w85 {a100 : Int} {a101 : C} {a102 : C} {a103 : C} {a104 : C} {a200 : Int} {m : M} {Q : V → M → Prop} (h :
 (∀ m0 : M, (m0 = (M.new m (AO.cells 5 [(Il a100), a101, a102, a103, a104] false))) → ∀ m1 : M, 
 (m1 = (M.new m0 (AO.cells 1 [C.sl0] false))) → ∀ m2 : M, (m2 = (M.new m1 (AO.map [] 0))) → ∀ m3 : M, 
 (m3 = (M.new m2 (AO.cells 1 [C.map0] false))) → ∃ m4 : M, ((stC m3 (C.ptr m2.nxt 0) 1 [(C.map m1.nxt)]) = (some m4)) ∧ 
 ∃ x5, ∃ c6 : C, ∃ c7 : C, ∃ c8 : C, ∃ c9 : C, ((ldA m4 (C.ptr m.nxt 0) 5) = (some [(Il x5), 
 c6, c7, c8, c9])) ∧ Wc prog tbl 79 [(V.agg 5 [(Il x5), c6, c7, c8, c9]), 
 (V.c (Il a200))] m4 (fun v10 m11 => ∃ c12 : C, (v10 = (V.c c12)) ∧ rangeP prog tbl c12 m11 (fun l13 m14 R15 R16 => 
 ∃ x17, ∃ x18, ∃ x19, ∃ x20, ∃ x21, ∃ x22, ∃ x23, 
 ∃ x24, ∃ x25, ∃ x26, ∃ x27, ∃ x28, ∃ x29, 
 ∃ x30, ∃ x31, ∃ x32, (l13 = [(V.agg 16 [(Il x17), 
 (Il x18), (Il x19), (Il x20), (Il x21), 
 (Il x22), (Il x23), (Il x24), (Il x25), 
 (Il x26), (Il x27), (Il x28), (Il x29), 
 (Il x30), (Il x31), (Il x32)])]) ∧ 
 ∀ m33 : M, (m33 = (M.new m14 (AO.cells 16 [(Il 0), (Il 0), 
 (Il 0), (Il 0), (Il 0), 
 (Il 0), (Il 0), (Il 0), 
 (Il 0), (Il 0), (Il 0), 
 (Il 0), (Il 0), (Il 0), 
 (Il 0), (Il 0)] false))) → ∃ m34 : M, 
 ((stC m33 (C.ptr m14.nxt 0) 16 [(Il x17), (Il x18), 
 (Il x19), (Il x20), (Il x21), (Il x22), 
 (Il x23), (Il x24), (Il x25), (Il x26), 
 (Il x27), (Il x28), (Il x29), (Il x30), 
 (Il x31), (Il x32)]) = (some m34)) ∧ R15 m34 (fun m35 => 
 ∃ c36 : C, ((ldC m35 (C.ptr m2.nxt 0)) = (some c36)) ∧ isPt (C.ptr m14.nxt 0) ∧ 
 ∃ x37, ∃ x38, ∃ x39, ∃ x40, ∃ x41, ∃ x42, 
 ∃ x43, ∃ x44, ∃ x45, ∃ x46, ∃ x47, ∃ x48, 
 ∃ x49, ((ldA m35 (C.ptr m14.nxt 3) 13) = (some [(Il x37), 
 (Il x38), (Il x39), (Il x40), (Il x41), 
 (Il x42), (Il x43), (Il x44), (Il x45), 
 (Il x46), (Il x47), (Il x48), (Il x49)])) ∧ 
 ∃ y50 : Option U, ((lkM prog 128 m35 c36 (V.agg 13 [(Il x37), 
 (Il x38), (Il x39), (Il x40), (Il x41), 
 (Il x42), (Il x43), (Il x44), (Il x45), 
 (Il x46), (Il x47), (Il x48), (Il x49)])) = (some y50)) ∧ 
 ((y50 = Option.none) → ∃ c51 : C, ((ldC m35 (C.ptr m0.nxt 0)) = (some c51)) ∧ 
 isPt (C.ptr m14.nxt 0) ∧ ∃ x52, ∃ x53, ∃ x54, ∃ x55, 
 ∃ x56, ∃ x57, ∃ x58, ∃ x59, ∃ x60, ∃ x61, 
 ∃ x62, ∃ x63, ∃ x64, ((ldA m35 (C.ptr m14.nxt 3) 13) = (some [(Il x52), 
 (Il x53), (Il x54), (Il x55), (Il x56), 
 (Il x57), (Il x58), (Il x59), (Il x60), 
 (Il x61), (Il x62), (Il x63), (Il x64)])) ∧ 
 ∀ m65 : M, (m65 = (M.new m35 (AO.cells 13 [(Il x52), (Il x53), 
 (Il x54), (Il x55), (Il x56), (Il x57), 
 (Il x58), (Il x59), (Il x60), (Il x61), 
 (Il x62), (Il x63), (Il x64)] false))) → 
 ∃ c66 : C, ∃ m67 : M, (ApR prog 148 m65 c51 (C.sl m35.nxt 0 1 0 (some 1)) c66 m67) ∧ 
 ∃ m68 : M, ((stC m67 (C.ptr m0.nxt 0) 1 [c66]) = (some m68)) ∧ ∃ c69 : C, 
 ((ldC m68 (C.ptr m2.nxt 0)) = (some c69)) ∧ isPt (C.ptr m14.nxt 0) ∧ 
 ∃ x70, ∃ x71, ∃ x72, ∃ x73, ∃ x74, ∃ x75, 
 ∃ x76, ∃ x77, ∃ x78, ∃ x79, ∃ x80, ∃ x81, 
 ∃ x82, ((ldA m68 (C.ptr m14.nxt 3) 13) = (some [(Il x70), 
 (Il x71), (Il x72), (Il x73), (Il x74), 
 (Il x75), (Il x76), (Il x77), (Il x78), 
 (Il x79), (Il x80), (Il x81), (Il x82)])) ∧ 
 ∃ m83 : M, ((upM prog 128 m68 c69 (V.agg 13 [(Il x70), (Il x71), 
 (Il x72), (Il x73), (Il x74), (Il x75), 
 (Il x76), (Il x77), (Il x78), (Il x79), 
 (Il x80), (Il x81), (Il x82)]) (V.c (C.bool true))) = (some m83)) ∧ 
 R16 Ex.nrm m83) ∧ ∀ u84 : U, (y50 = (some u84)) → 
 ∃ b85 : Bool, (u84 = (U.c (C.bool b85))) ∧ ifB (!b85) (∃ c86 : C, ((ldC m35 (C.ptr m0.nxt 0)) = (some c86)) ∧ 
 isPt (C.ptr m14.nxt 0) ∧ ∃ x87, ∃ x88, ∃ x89, ∃ x90, 
 ∃ x91, ∃ x92, ∃ x93, ∃ x94, ∃ x95, ∃ x96, 
 ∃ x97, ∃ x98, ∃ x99, ((ldA m35 (C.ptr m14.nxt 3) 13) = (some [(Il x87), 
 (Il x88), (Il x89), (Il x90), (Il x91), 
 (Il x92), (Il x93), (Il x94), (Il x95), 
 (Il x96), (Il x97), (Il x98), (Il x99)])) ∧ 
 ∀ m100 : M, (m100 = (M.new m35 (AO.cells 13 [(Il x87), (Il x88), 
 (Il x89), (Il x90), (Il x91), (Il x92), 
 (Il x93), (Il x94), (Il x95), (Il x96), 
 (Il x97), (Il x98), (Il x99)] false))) → 
 ∃ c101 : C, ∃ m102 : M, (ApR prog 148 m100 c86 (C.sl m35.nxt 0 1 0 (some 1)) c101 m102) ∧ 
 ∃ m103 : M, ((stC m102 (C.ptr m0.nxt 0) 1 [c101]) = (some m103)) ∧ 
 ∃ c104 : C, ((ldC m103 (C.ptr m2.nxt 0)) = (some c104)) ∧ isPt (C.ptr m14.nxt 0) ∧ 
 ∃ x105, ∃ x106, ∃ x107, ∃ x108, ∃ x109, ∃ x110, 
 ∃ x111, ∃ x112, ∃ x113, ∃ x114, ∃ x115, ∃ x116, 
 ∃ x117, ((ldA m103 (C.ptr m14.nxt 3) 13) = (some [(Il x105), 
 (Il x106), (Il x107), (Il x108), 
 (Il x109), (Il x110), (Il x111), 
 (Il x112), (Il x113), (Il x114), 
 (Il x115), (Il x116), (Il x117)])) ∧ 
 ∃ m118 : M, ((upM prog 128 m103 c104 (V.agg 13 [(Il x105), (Il x106), 
 (Il x107), (Il x108), (Il x109), 
 (Il x110), (Il x111), (Il x112), 
 (Il x113), (Il x114), (Il x115), 
 (Il x116), (Il x117)]) (V.c (C.bool true))) = (some m118)) ∧ 
 R16 Ex.nrm m118) (∃ c119 : C, ((ldC m35 (C.ptr m2.nxt 0)) = (some c119)) ∧ 
 isPt (C.ptr m14.nxt 0) ∧ ∃ x120, ∃ x121, ∃ x122, ∃ x123, 
 ∃ x124, ∃ x125, ∃ x126, ∃ x127, ∃ x128, ∃ x129, 
 ∃ x130, ∃ x131, ∃ x132, ((ldA m35 (C.ptr m14.nxt 3) 13) = (some [(Il x120), 
 (Il x121), (Il x122), (Il x123), 
 (Il x124), (Il x125), (Il x126), 
 (Il x127), (Il x128), (Il x129), 
 (Il x130), (Il x131), (Il x132)])) ∧ 
 ∃ m133 : M, ((upM prog 128 m35 c119 (V.agg 13 [(Il x120), (Il x121), 
 (Il x122), (Il x123), (Il x124), 
 (Il x125), (Il x126), (Il x127), 
 (Il x128), (Il x129), (Il x130), 
 (Il x131), (Il x132)]) (V.c (C.bool true))) = (some m133)) ∧ 
 R16 Ex.nrm m133))) (After.mk (fun m134 => 
 ∃ c135 : C, ((ldC m134 (C.ptr m0.nxt 0)) = (some c135)) ∧ Q (V.c c135) m134) [] (fun m136 => 
 Q (V.c C.sl0) m136))))) : Wc prog tbl 85 [(V.agg 5 [(Il a100), a101, a102, a103, a104]), (V.c (Il a200))] m Q :=
 wc_eq (n := 2) rfl (by kernel_rfl) (by kernel_rfl) h
theorem w92 {a100 : Int} {a101 : C} {a102 : C} {a103 : C} {a104 : C} {m : M} {Q : V → M → Prop} (h :
 (∀ m0 : M, (m0 = (M.new m (AO.cells 5 [(Il a100), a101, a102, a103, a104] false))) → isPt (C.ptr m.nxt 0) ∧ 
 isPt (C.ptr m.nxt 0) ∧ ∃ c1 : C, ((ldC m0 (C.ptr m.nxt 2)) = (some c1)) ∧ isSl c1 ∧ ∀ R2 : List V → 
 M → Prop, (∀ b3 : Bool, ∀ x4 : Int, ∀ m5 : M, (ifB (decide (x4 < (((slLen c1) : Nat) : Int))) (∃ x6, 
 ∃ c7 : C, ∃ c8 : C, ∃ c9 : C, ∃ c10 : C, ((ldA m5 (C.ptr m.nxt 0) 5) = (some [(Il x6), 
 c7, c8, c9, c10])) ∧ Wc prog tbl 126 [(V.agg 5 [(Il x6), c7, c8, c9, 
 c10]), (V.c (Il x4))] m5 (fun v11 m12 => ∃ b13 : Bool, (v11 = (V.c (C.bool b13))) ∧ 
 ifB (!b13) (Q (V.c (C.bool false)) m12) (fitsP .i64 (x4 + 1) ∧ R2 [(V.c (C.bool b3)), 
 (V.c (Il (x4 + 1)))] m12))) (Q (V.c (C.bool true)) m5)) → 
 R2 [(V.c (C.bool b3)), (V.c (Il x4))] m5) → R2 [(V.c (C.bool false)), (V.c (Il 0))] m0)) : Wc prog tbl 92 [(V.agg 5 [(Il a100), a101, a102, a103, a104])] m Q :=
 wc_eq (n := 1) rfl (by kernel_rfl) (by kernel_rfl) h
theorem w95 {a100 : C} {a200 : Int} {m : M} {Q : V → M → Prop} (h :
 (isSl a100 ∧ ifB (decide ((((slLen a100) : Nat) : Int) = (0 : Int))) (Q (V.c (Il 0)) m) (isSl a100 ∧ 
 ((0 : Int) ≤ a200) ∧ ((0 : Int) < (((slLen a100) : Nat) : Int)) ∧ fitsP .i64 (a200 % (((slLen a100) : Nat) : Int)) ∧ 
 ∃ n0 : Nat, ((a200 % (((slLen a100) : Nat) : Int)) = ((n0 : Nat) : Int)) ∧ (n0 < (slLen a100)) ∧ ∃ x1, 
 ((ldC m (slAt a100 (n0 * 1))) = (some (C.int .u16 x1))) ∧ Q (V.c (Il (wrapZ .i64 x1))) m))) : Wc prog tbl 95 [(V.c a100), (V.c (Il a200))] m Q :=
 wc_eq (n := 2) rfl (by kernel_rfl) (by kernel_rfl) h
theorem w98 {a100 : Int} {a101 : C} {a102 : C} {a103 : C} {a200 : C} {m : M} {Q : V → M → Prop} (h :
 (∀ m0 : M, (m0 = (M.new m (AO.cells 4 [(Il a100), a101, a102, a103] false))) → ∀ R1 : List V → 
 M → Prop, (∀ b2 : Bool, ∀ x3 : Int, ∀ m4 : M, (isSl a200 ∧ ifB (decide (x3 < (((slLen a200) : Nat) : Int))) (∃ n5 : Nat, 
 (x3 = ((n5 : Nat) : Int)) ∧ (n5 < (slLen a200)) ∧ ∃ x6, ((ldC m4 (slAt a200 (n5 * 1))) = (some (Il x6))) ∧ 
 Wc prog tbl 29 [(V.c (Il x6)), (V.c (Il 0)), (V.c (Il (100 : Int)))] m4 (fun v7 m8 => 
 ∃ b9 : Bool, (v7 = (V.c (C.bool b9))) ∧ ifB (!b9) (Q (V.c (C.bool false)) m8) (fitsP .i64 (x3 + 1) ∧ 
 R1 [(V.c (C.bool b2)), (V.c (Il (x3 + 1)))] m8))) (isSl a200 ∧ 
 isPt (C.ptr m.nxt 0) ∧ ∃ x10, ((ldC m4 (C.ptr m.nxt 0)) = (some (Il x10))) ∧ 
 fitsP .i64 (x10 + 1) ∧ Q (V.c (C.bool (decide ((((slLen a200) : Nat) : Int) = (x10 + 1))))) m4)) → 
 R1 [(V.c (C.bool b2)), (V.c (Il x3))] m4) → R1 [(V.c (C.bool false)), (V.c (Il 0))] m0)) : Wc prog tbl 98 [(V.agg 4 [(Il a100), a101, a102, a103]), (V.c a200)] m Q :=
 wc_eq (n := 2) rfl (by kernel_rfl) (by kernel_rfl) h
theorem w101 {a100 : Int} {a101 : Int} {a102 : Int} {a103 : Int} {a104 : Int} {a105 : Int} {a106 : Int} {a107 : Int} {a108 : Int} {a109 : Int} {a110 : Int} {a111 : Int} {a112 : Int} {a113 : Int} {a114 : Int} {a115 : Int} {m : M} {Q : V → M → Prop} (h :
 (∀ m0 : M, (m0 = (M.new m (AO.cells 16 [(Il a100), (Il a101), (Il a102), 
 (Il a103), (Il a104), (Il a105), (Il a106), 
 (Il a107), (Il a108), (Il a109), (Il a110), 
 (Il a111), (Il a112), (Il a113), (Il a114), 
 (Il a115)] false))) → isPt (C.ptr m.nxt 0) ∧ isPt (C.ptr m.nxt 0) ∧ ∃ x1, 
 ((ldC m0 (C.ptr m.nxt 1)) = (some (Il x1))) ∧ Q (V.c (Il x1)) m0)) : Wc prog tbl 101 [(V.agg 16 [(Il a100), (Il a101), (Il a102), (Il a103), (Il a104), (Il a105), (Il a106), (Il a107), (Il a108), (Il a109), (Il a110), (Il a111), (Il a112), (Il a113), (Il a114), (Il a115)])] m Q :=
 wc_eq (n := 1) rfl (by kernel_rfl) (by kernel_rfl) h
theorem w104 {a100 : Int} {a101 : C} {a102 : C} {a103 : C} {a200 : C} {m : M} {Q : V → M → Prop} (h :
 (∀ m0 : M, (m0 = (M.new m (AO.cells 4 [(Il a100), a101, a102, a103] false))) → isSl a200 ∧ isPt (C.ptr m.nxt 0) ∧ 
 ∃ x1, ((ldC m0 (C.ptr m.nxt 0)) = (some (Il x1))) ∧ fitsP .i64 (x1 + 1) ∧ 
 ifB (decide ((((slLen a200) : Nat) : Int) = (x1 + 1))) (Wc prog tbl 132 [(V.c a200), (V.c (C.fn (Fn.func 84) [] []))] m0 (fun v2 m3 => 
 ∃ b4 : Bool, (v2 = (V.c (C.bool b4))) ∧ Q (V.c (C.bool b4)) m3)) (Q (V.c (C.bool false)) m0))) : Wc prog tbl 104 [(V.agg 4 [(Il a100), a101, a102, a103]), (V.c a200)] m Q :=
 wc_eq (n := 2) rfl (by kernel_rfl) (by kernel_rfl) h
theorem w107 {a100 : Int} {a101 : C} {a102 : C} {a103 : C} {a200 : Int} {a201 : Int} {a202 : Int} {a203 : Int} {m : M} {Q : V → M → Prop} (h :
 (∀ m0 : M, (m0 = (M.new m (AO.cells 4 [(Il a100), a101, a102, a103] false))) → ∀ m1 : M, (m1 = (M.new m0 (AO.cells 4 [(Il a200), 
 (Il a201), (Il a202), (Il a203)] false))) → ∃ x2, 
 ∃ c3 : C, ∃ c4 : C, ∃ c5 : C, ((ldA m1 (C.ptr m.nxt 0) 4) = (some [(Il x2), 
 c3, c4, c5])) ∧ isPt (C.ptr m0.nxt 0) ∧ ∃ x6, ((ldC m1 (C.ptr m0.nxt 0)) = (some (Il x6))) ∧ 
 Wc prog tbl 111 [(V.agg 4 [(Il x2), c3, c4, c5]), (V.c (Il x6))] m1 (fun v7 m8 => 
 ∃ b9 : Bool, (v7 = (V.c (C.bool b9))) ∧ ifB b9 (∃ x10, ∃ c11 : C, ∃ c12 : C, ∃ c13 : C, 
 ((ldA m8 (C.ptr m.nxt 0) 4) = (some [(Il x10), c11, c12, c13])) ∧ 
 isPt (C.ptr m0.nxt 0) ∧ ∃ x14, ((ldC m8 (C.ptr m0.nxt 1)) = (some (Il x14))) ∧ 
 Wc prog tbl 69 [(V.agg 4 [(Il x10), c11, c12, c13]), (V.c (Il x14))] m8 (fun v15 m16 => 
 ∃ b17 : Bool, (v15 = (V.c (C.bool b17))) ∧ ifB b17 (isPt (C.ptr m0.nxt 0) ∧ 
 ∃ x18, ∃ x19, ((ldA m16 (C.ptr m0.nxt 2) 2) = (some [(Il x18), 
 (Il x19)])) ∧ Wc prog tbl 133 [(V.agg 2 [(Il x18), 
 (Il x19)]), (V.c (Il 0)), (V.c (Il (100 : Int)))] m16 (fun v20 m21 => 
 ∃ b22 : Bool, (v20 = (V.c (C.bool b22))) ∧ Q (V.c (C.bool b22)) m21)) (Q (V.c (C.bool false)) m16))) (Q (V.c (C.bool false)) m8)))) : Wc prog tbl 107 [(V.agg 4 [(Il a100), a101, a102, a103]), (V.agg 4 [(Il a200), (Il a201), (Il a202), (Il a203)])] m Q :=
 wc_eq (n := 2) rfl (by kernel_rfl) (by kernel_rfl) h
theorem w111 {a100 : Int} {a101 : C} {a102 : C} {a103 : C} {a200 : Int} {m : M} {Q : V → M → Prop} (h :
 (∀ m0 : M, (m0 = (M.new m (AO.cells 4 [(Il a100), a101, a102, a103] false))) → isPt (C.ptr m.nxt 0) ∧ 
 ∃ c1 : C, ((ldC m0 (C.ptr m.nxt 2)) = (some c1)) ∧ isSl c1 ∧ fitsP .i64 ((((slLen c1) : Nat) : Int) - (1 : Int)) ∧ 
 Wc prog tbl 112 [(V.agg 2 [(Il 0), (Il ((((slLen c1) : Nat) : Int) - (1 : Int)))]), 
 (V.c (Il a200))] m0 (fun v2 m3 => ∃ b4 : Bool, (v2 = (V.c (C.bool b4))) ∧ Q (V.c (C.bool b4)) m3))) : Wc prog tbl 111 [(V.agg 4 [(Il a100), a101, a102, a103]), (V.c (Il a200))] m Q :=
 wc_eq (n := 2) rfl (by kernel_rfl) (by kernel_rfl) h
theorem w114 {a100 : C} {m : M} {Q : V → M → Prop} (h :
 (isSl a100 ∧ ifB (decide ((((slLen a100) : Nat) : Int) < (1 : Int))) False (∃ n0 : Nat, ((0 : Int) = ((n0 : Nat) : Int)) ∧ 
 (n0 < (slLen a100)) ∧ ∃ x1, ((ldC m (slAt a100 (n0 * 1))) = (some (Il x1))) ∧ 
 ∀ R2 : List V → M → Prop, (∀ x3 : Int, ∀ x4 : Int, ∀ m5 : M, (isSl a100 ∧ ifB (decide (x4 < (((slLen a100) : Nat) : Int))) (∃ n6 : Nat, 
 (x4 = ((n6 : Nat) : Int)) ∧ (n6 < (slLen a100)) ∧ ∃ x7, ((ldC m5 (slAt a100 (n6 * 1))) = (some (Il x7))) ∧ 
 fitsP .i64 (x4 + 1) ∧ R2 [(V.c (Il (Max.max x3 x7))), (V.c (Il (x4 + 1)))] m5) (Q (V.c (Il x3)) m5)) → 
 R2 [(V.c (Il x3)), (V.c (Il x4))] m5) → R2 [(V.c (Il x1)), 
 (V.c (Il (1 : Int)))] m))) : Wc prog tbl 114 [(V.c a100)] m Q :=
 wc_eq (n := 1) rfl (by kernel_rfl) (by kernel_rfl) h
theorem w123 {a100 : C} {a200 : C} {m : M} {Q : V → M → Prop} (h :
 (isSl a100 ∧ ∀ R0 : List V → M → Prop, (∀ x1 : Int, ∀ x2 : Int, ∀ m3 : M, (ifB (decide (x2 < (((slLen a100) : Nat) : Int))) (∃ n4 : Nat, 
 (x2 = ((n4 : Nat) : Int)) ∧ (n4 < (slLen a100)) ∧ ∃ x5, ∃ x6, ∃ x7, ∃ x8, 
 ∃ x9, ∃ x10, ∃ x11, ∃ x12, ∃ x13, ∃ x14, ∃ x15, 
 ∃ x16, ∃ x17, ((ldA m3 (slAt a100 (n4 * 13)) 13) = (some [(Il x5), 
 (Il x6), (Il x7), (Il x8), (Il x9), 
 (Il x10), (Il x11), (Il x12), (Il x13), 
 (Il x14), (Il x15), (Il x16), (Il x17)])) ∧ 
 callP prog tbl [(V.agg 13 [(Il x5), (Il x6), (Il x7), 
 (Il x8), (Il x9), (Il x10), (Il x11), 
 (Il x12), (Il x13), (Il x14), (Il x15), 
 (Il x16), (Il x17)])] a200 m3 (fun v18 m19 => ∃ b20 : Bool, 
 (v18 = (V.c (C.bool b20))) ∧ ifB b20 (Q (V.c (Il x2)) m19) (fitsP .i64 (x2 + 1) ∧ 
 R0 [(V.c (Il x1)), (V.c (Il (x2 + 1)))] m19))) (Q (V.c (Il (-1 : Int))) m3)) → 
 R0 [(V.c (Il x1)), (V.c (Il x2))] m3) → R0 [(V.c (Il 0)), 
 (V.c (Il 0))] m)) : Wc prog tbl 123 [(V.c a100), (V.c a200)] m Q :=
 wc_eq (n := 2) rfl (by kernel_rfl) (by kernel_rfl) h
theorem w126 {a100 : Int} {a101 : C} {a102 : C} {a103 : C} {a104 : C} {a200 : Int} {m : M} {Q : V → M → Prop} (h :
 (∀ m0 : M, (m0 = (M.new m (AO.cells 5 [(Il a100), a101, a102, a103, a104] false))) → ∀ m1 : M, 
 (m1 = (M.new m0 (AO.cells 1 [(C.bool false)] false))) → ∃ x2, ∃ c3 : C, ∃ c4 : C, ∃ c5 : C, ∃ c6 : C, 
 ((ldA m1 (C.ptr m.nxt 0) 5) = (some [(Il x2), c3, c4, c5, c6])) ∧ Wc prog tbl 79 [(V.agg 5 [(Il x2), 
 c3, c4, c5, c6]), (V.c (Il a200))] m1 (fun v7 m8 => ∃ c9 : C, (v7 = (V.c c9)) ∧ 
 rangeP prog tbl c9 m8 (fun l10 m11 R12 R13 => ∃ x14, ∃ x15, ∃ x16, ∃ x17, 
 ∃ x18, ∃ x19, ∃ x20, ∃ x21, ∃ x22, ∃ x23, ∃ x24, 
 ∃ x25, ∃ x26, ∃ x27, ∃ x28, ∃ x29, (l10 = [(V.agg 16 [(Il x14), 
 (Il x15), (Il x16), (Il x17), (Il x18), 
 (Il x19), (Il x20), (Il x21), (Il x22), 
 (Il x23), (Il x24), (Il x25), (Il x26), 
 (Il x27), (Il x28), (Il x29)])]) ∧ 
 R12 m11 (fun m30 => ∃ m31 : M, ((stC m30 (C.ptr m0.nxt 0) 1 [(C.bool true)]) = (some m31)) ∧ 
 R13 Ex.ret m31)) (After.mk (fun m32 => ∃ m33 : M, ((stC m32 (C.ptr m0.nxt 0) 1 [(C.bool false)]) = (some m33)) ∧ 
 ∃ b34 : Bool, ((ldC m33 (C.ptr m0.nxt 0)) = (some (C.bool b34))) ∧ Q (V.c (C.bool b34)) m33) [] (fun m35 => 
 ∃ b36 : Bool, ((ldC m35 (C.ptr m0.nxt 0)) = (some (C.bool b36))) ∧ Q (V.c (C.bool b36)) m35))))) : Wc prog tbl 126 [(V.agg 5 [(Il a100), a101, a102, a103, a104]), (V.c (Il a200))] m Q :=
 wc_eq (n := 2) rfl (by kernel_rfl) (by kernel_rfl) h
theorem w129 {a100 : C} {a200 : Int} {m : M} {Q : V → M → Prop} (h :
 (Wc prog tbl 141 [(V.c a100), (V.c (Il a200))] m (fun v0 m1 => ∃ x2, (v0 = (V.c (Il x2))) ∧ 
 Q (V.c (C.bool (decide ((0 : Int) ≤ x2)))) m1))) : Wc prog tbl 129 [(V.c a100), (V.c (Il a200))] m Q :=
 wc_eq (n := 2) rfl (by kernel_rfl) (by kernel_rfl) h
theorem w133 {a100 : Int} {a101 : Int} {a200 : Int} {a300 : Int} {m : M} {Q : V → M → Prop} (h :
 (∀ m0 : M, (m0 = (M.new m (AO.cells 2 [(Il a100), (Il a101)] false))) → isPt (C.ptr m.nxt 0) ∧ 
 ∃ x1, ((ldC m0 (C.ptr m.nxt 0)) = (some (Il x1))) ∧ ifB (decide (a200 ≤ x1)) (isPt (C.ptr m.nxt 0) ∧ 
 ∃ x2, ((ldC m0 (C.ptr m.nxt 0)) = (some (Il x2))) ∧ isPt (C.ptr m.nxt 0) ∧ 
 ∃ x3, ((ldC m0 (C.ptr m.nxt 1)) = (some (Il x3))) ∧ ifB (decide (x2 ≤ x3)) (isPt (C.ptr m.nxt 0) ∧ 
 ∃ x4, ((ldC m0 (C.ptr m.nxt 1)) = (some (Il x4))) ∧ Q (V.c (C.bool (decide (x4 ≤ a300)))) m0) (Q (V.c (C.bool false)) m0)) (Q (V.c (C.bool false)) m0))) : Wc prog tbl 133 [(V.agg 2 [(Il a100), (Il a101)]), (V.c (Il a200)), (V.c (Il a300))] m Q :=
 wc_eq (n := 3) rfl (by kernel_rfl) (by kernel_rfl) h
theorem w141 {a100 : C} {a200 : Int} {m : M} {Q : V → M → Prop} (h :
 (isSl a100 ∧ ∀ R0 : List V → M → Prop, (∀ x1 : Int, ∀ x2 : Int, ∀ m3 : M, (ifB (decide (x2 < (((slLen a100) : Nat) : Int))) (∃ n4 : Nat, 
 (x2 = ((n4 : Nat) : Int)) ∧ (n4 < (slLen a100)) ∧ ∃ x5, ((ldC m3 (slAt a100 (n4 * 1))) = (some (Il x5))) ∧ 
 ifB (decide (a200 = x5)) (Q (V.c (Il x2)) m3) (fitsP .i64 (x2 + 1) ∧ 
 R0 [(V.c (Il x1)), (V.c (Il (x2 + 1)))] m3)) (Q (V.c (Il (-1 : Int))) m3)) → 
 R0 [(V.c (Il x1)), (V.c (Il x2))] m3) → R0 [(V.c (Il 0)), 
 (V.c (Il 0))] m)) : Wc prog tbl 141 [(V.c a100), (V.c (Il a200))] m Q :=
 wc_eq (n := 2) rfl (by kernel_rfl) (by kernel_rfl) h
theorem w145 {a100 : C} {a200 : C} {m : M} {Q : V → M → Prop} (h :
 (isSl a100 ∧ ∀ R0 : List V → M → Prop, (∀ x1 : Int, ∀ x2 : Int, ∀ m3 : M, (ifB (decide (x2 < (((slLen a100) : Nat) : Int))) (∃ n4 : Nat, 
 (x2 = ((n4 : Nat) : Int)) ∧ (n4 < (slLen a100)) ∧ ∃ x5, ∃ x6, ∃ x7, ∃ x8, 
 ((ldA m3 (slAt a100 (n4 * 4)) 4) = (some [(Il x5), (Il x6), 
 (Il x7), (Il x8)])) ∧ callP prog tbl [(V.agg 4 [(Il x5), 
 (Il x6), (Il x7), (Il x8)])] a200 m3 (fun v9 m10 => 
 ∃ b11 : Bool, (v9 = (V.c (C.bool b11))) ∧ ifB b11 (Q (V.c (Il x2)) m10) (fitsP .i64 (x2 + 1) ∧ 
 R0 [(V.c (Il x1)), (V.c (Il (x2 + 1)))] m10))) (Q (V.c (Il (-1 : Int))) m3)) → 
 R0 [(V.c (Il x1)), (V.c (Il x2))] m3) → R0 [(V.c (Il 0)), 
 (V.c (Il 0))] m)) : Wc prog tbl 145 [(V.c a100), (V.c a200)] m Q :=
 wc_eq (n := 2) rfl (by kernel_rfl) (by kernel_rfl) h
end
end Go.Proofs.YtmlaphekbnanjaaGreat

namespace Go.Proofs.YtmlaphekbnanjaaGreat
open _root_.Go.Proofs.Tryz
open Go.Abs
set_option maxRecDepth 100000
noncomputable section
theorem w14 {a100 : Int} {a101 : C} {a102 : C} {a103 : C} {m : M} {Q : V → M → Prop} (h :
 (∀ m0 : M, (m0 = (M.new m (AO.cells 4 [(Il a100), a101, a102, a103] false))) → ∀ m1 : M, (m1 = (M.new m0 (AO.cells 4 [(Il 0), 
 C.sl0, C.sl0, C.sl0] false))) → isPt (C.ptr m.nxt 0) ∧ ∃ x2, ((ldC m1 (C.ptr m.nxt 0)) = (some (Il x2))) ∧ 
 ∀ m3 : M, (m3 = (M.new m1 (AO.cells 4 [(Il 0), C.sl0, C.sl0, C.sl0] false))) → 
 ∃ m4 : M, ((stC m3 (C.ptr m1.nxt 0) 4 [(Il x2), C.sl0, C.sl0, C.sl0]) = (some m4)) ∧ 
 ∀ R5 : List V → M → Prop, (∀ x6 : Int, ∀ m7 : M, (isPt (C.ptr m.nxt 0) ∧ ∃ c8 : C, ((ldC m7 (C.ptr m.nxt 1)) = (some c8)) ∧ 
 isSl c8 ∧ ifB (decide (x6 < (((slLen c8) : Nat) : Int))) (isPt (C.ptr m1.nxt 0) ∧ ∃ c9 : C, 
 ((ldC m7 (C.ptr m1.nxt 1)) = (some c9)) ∧ isPt (C.ptr m.nxt 0) ∧ ∃ c10 : C, 
 ((ldC m7 (C.ptr m.nxt 1)) = (some c10)) ∧ ∃ n11 : Nat, (x6 = ((n11 : Nat) : Int)) ∧ 
 (n11 < (slLen c10)) ∧ ∃ c12 : C, ((ldC m7 (slAt c10 (n11 * 1))) = (some c12)) ∧ 
 Wc prog tbl 50 [(V.c c12)] m7 (fun v13 m14 => ∃ c15 : C, (v13 = (V.c c15)) ∧ 
 (ifB (noFnC c9) ((ldC m14 (C.ptr m1.nxt 1)) = (some c9)) False) ∧ ∀ m16 : M, 
 (m16 = (M.new m14 (AO.cells 1 [c15] false))) → (ifB (noFnC c9) ((ldC m16 (C.ptr m1.nxt 1)) = (some c9)) False) ∧ 
 ∃ c17 : C, ∃ m18 : M, (ApR prog 22 m16 c9 (C.sl m14.nxt 0 1 0 (some 1)) c17 m18) ∧ 
 isPt (C.ptr m1.nxt 0) ∧ ∃ m19 : M, ((stC m18 (C.ptr m1.nxt 1) 1 [c17]) = (some m19)) ∧ 
 fitsP .i64 (x6 + 1) ∧ R5 [(V.c (Il (x6 + 1)))] m19)) (∀ R20 : List V → 
 M → Prop, (∀ x21 : Int, ∀ m22 : M, (isPt (C.ptr m.nxt 0) ∧ ∃ c23 : C, ((ldC m22 (C.ptr m.nxt 2)) = (some c23)) ∧ 
 isSl c23 ∧ ifB (decide (x21 < (((slLen c23) : Nat) : Int))) (isPt (C.ptr m.nxt 0) ∧ 
 ∃ c24 : C, ((ldC m22 (C.ptr m.nxt 2)) = (some c24)) ∧ ∃ n25 : Nat, 
 (x21 = ((n25 : Nat) : Int)) ∧ (n25 < (slLen c24)) ∧ ∃ x26, ∃ x27, 
 ∃ x28, ∃ x29, ∃ x30, ∃ x31, ∃ x32, ((ldA m22 (slAt c24 (n25 * 7)) 7) = (some [(Il x26), 
 (Il x27), (Il x28), (Il x29), (Il x30), 
 (Il x31), (Il x32)])) ∧ ∀ m33 : M, (m33 = (M.new m22 (AO.cells 7 [(Il 0), 
 (Il 0), (Il 0), (Il 0), 
 (Il 0), (Il 0), (Il 0)] false))) → 
 ∃ m34 : M, ((stC m33 (C.ptr m22.nxt 0) 7 [(Il x26), (Il x27), 
 (Il x28), (Il x29), (Il x30), (Il x31), 
 (Il x32)]) = (some m34)) ∧ isPt (C.ptr m1.nxt 0) ∧ ∃ c35 : C, 
 ((ldC m34 (C.ptr m1.nxt 2)) = (some c35)) ∧ isPt (C.ptr m22.nxt 0) ∧ 
 ∃ x36, ((ldC m34 (C.ptr m22.nxt 0)) = (some (Il x36))) ∧ 
 isPt (C.ptr m22.nxt 0) ∧ ∃ x37, ∃ x38, ((ldA m34 (C.ptr m22.nxt 1) 2) = (some [(Il x37), 
 (Il x38)])) ∧ Wc prog tbl 30 [(V.agg 2 [(Il x37), 
 (Il x38)])] m34 (fun v39 m40 => ∃ x41, ∃ x42, (v39 = (V.agg 2 [(Il x41), 
 (Il x42)])) ∧ ((ldC m40 (C.ptr m22.nxt 0)) = (some (Il x36))) ∧ 
 (ifB (noFnC c35) ((ldC m40 (C.ptr m1.nxt 2)) = (some c35)) False) ∧ 
 isPt (C.ptr m22.nxt 0) ∧ ∃ x43, ∃ x44, ((ldA m40 (C.ptr m22.nxt 3) 2) = (some [(Il x43), 
 (Il x44)])) ∧ ((ldA m34 (C.ptr m22.nxt 3) 2) = (some [(Il x43), 
 (Il x44)])) ∧ Wc prog tbl 30 [(V.agg 2 [(Il x43), 
 (Il x44)])] m40 (fun v45 m46 => ∃ x47, ∃ x48, (v45 = (V.agg 2 [(Il x47), 
 (Il x48)])) ∧ ((ldC m46 (C.ptr m22.nxt 0)) = (some (Il x36))) ∧ 
 (ifB (noFnC c35) ((ldC m46 (C.ptr m1.nxt 2)) = (some c35)) False) ∧ 
 isPt (C.ptr m22.nxt 0) ∧ ∃ x49, ∃ x50, ((ldA m46 (C.ptr m22.nxt 5) 2) = (some [(Il x49), 
 (Il x50)])) ∧ ((ldA m40 (C.ptr m22.nxt 5) 2) = (some [(Il x49), 
 (Il x50)])) ∧ ((ldA m34 (C.ptr m22.nxt 5) 2) = (some [(Il x49), 
 (Il x50)])) ∧ Wc prog tbl 30 [(V.agg 2 [(Il x49), 
 (Il x50)])] m46 (fun v51 m52 => ∃ x53, ∃ x54, (v51 = (V.agg 2 [(Il x53), 
 (Il x54)])) ∧ ((ldC m52 (C.ptr m22.nxt 0)) = (some (Il x36))) ∧ 
 (ifB (noFnC c35) ((ldC m52 (C.ptr m1.nxt 2)) = (some c35)) False) ∧ 
 ∀ m55 : M, (m55 = (M.new m52 (AO.cells 7 [(Il x36), (Il x41), 
 (Il x42), (Il x47), (Il x48), (Il x53), 
 (Il x54)] false))) → (ifB (noFnC c35) ((ldC m55 (C.ptr m1.nxt 2)) = (some c35)) False) ∧ 
 ∃ c56 : C, ∃ m57 : M, (ApR prog 33 m55 c35 (C.sl m52.nxt 0 1 0 (some 1)) c56 m57) ∧ 
 isPt (C.ptr m1.nxt 0) ∧ ∃ m58 : M, ((stC m57 (C.ptr m1.nxt 2) 1 [c56]) = (some m58)) ∧ 
 fitsP .i64 (x21 + 1) ∧ R20 [(V.c (Il (x21 + 1)))] m58)))) (∀ R59 : List V → 
 M → Prop, (∀ x60 : Int, ∀ m61 : M, (isPt (C.ptr m.nxt 0) ∧ ∃ c62 : C, ((ldC m61 (C.ptr m.nxt 3)) = (some c62)) ∧ 
 isSl c62 ∧ ifB (decide (x60 < (((slLen c62) : Nat) : Int))) (isPt (C.ptr m.nxt 0) ∧ 
 ∃ c63 : C, ((ldC m61 (C.ptr m.nxt 3)) = (some c63)) ∧ ∃ n64 : Nat, 
 (x60 = ((n64 : Nat) : Int)) ∧ (n64 < (slLen c63)) ∧ ∃ x65, ∃ x66, 
 ∃ x67, ∃ x68, ((ldA m61 (slAt c63 (n64 * 4)) 4) = (some [(Il x65), 
 (Il x66), (Il x67), (Il x68)])) ∧ 
 ∀ m69 : M, (m69 = (M.new m61 (AO.cells 4 [(Il 0), (Il 0), 
 (Il 0), (Il 0)] false))) → ∃ m70 : M, 
 ((stC m69 (C.ptr m61.nxt 0) 4 [(Il x65), (Il x66), 
 (Il x67), (Il x68)]) = (some m70)) ∧ isPt (C.ptr m1.nxt 0) ∧ 
 ∃ c71 : C, ((ldC m70 (C.ptr m1.nxt 3)) = (some c71)) ∧ isPt (C.ptr m61.nxt 0) ∧ 
 ∃ x72, ((ldC m70 (C.ptr m61.nxt 0)) = (some (Il x72))) ∧ 
 isPt (C.ptr m61.nxt 0) ∧ ∃ x73, ((ldC m70 (C.ptr m61.nxt 1)) = (some (Il x73))) ∧ 
 isPt (C.ptr m61.nxt 0) ∧ ∃ x74, ∃ x75, ((ldA m70 (C.ptr m61.nxt 2) 2) = (some [(Il x74), 
 (Il x75)])) ∧ Wc prog tbl 30 [(V.agg 2 [(Il x74), 
 (Il x75)])] m70 (fun v76 m77 => ∃ x78, ∃ x79, (v76 = (V.agg 2 [(Il x78), 
 (Il x79)])) ∧ ((ldC m77 (C.ptr m61.nxt 1)) = (some (Il x73))) ∧ 
 ((ldC m77 (C.ptr m61.nxt 0)) = (some (Il x72))) ∧ (ifB (noFnC c71) ((ldC m77 (C.ptr m1.nxt 3)) = (some c71)) False) ∧ 
 ∀ m80 : M, (m80 = (M.new m77 (AO.cells 4 [(Il x72), (Il x73), 
 (Il x78), (Il x79)] false))) → (ifB (noFnC c71) ((ldC m80 (C.ptr m1.nxt 3)) = (some c71)) False) ∧ 
 ∃ c81 : C, ∃ m82 : M, (ApR prog 34 m80 c71 (C.sl m77.nxt 0 1 0 (some 1)) c81 m82) ∧ 
 isPt (C.ptr m1.nxt 0) ∧ ∃ m83 : M, ((stC m82 (C.ptr m1.nxt 3) 1 [c81]) = (some m83)) ∧ 
 fitsP .i64 (x60 + 1) ∧ R59 [(V.c (Il (x60 + 1)))] m83)) (∃ x84, 
 ∃ c85 : C, ∃ c86 : C, ∃ c87 : C, ((ldA m61 (C.ptr m1.nxt 0) 4) = (some [(Il x84), 
 c85, c86, c87])) ∧ ∃ m88 : M, ((stC m61 (C.ptr m0.nxt 0) 4 [(Il x84), 
 c85, c86, c87]) = (some m88)) ∧ ∃ x89, ∃ c90 : C, ∃ c91 : C, 
 ∃ c92 : C, ((ldA m88 (C.ptr m0.nxt 0) 4) = (some [(Il x89), 
 c90, c91, c92])) ∧ Q (V.agg 4 [(Il x89), c90, c91, c92]) m88)) → 
 R59 [(V.c (Il x60))] m61) → R59 [(V.c (Il 0))] m22)) → 
 R20 [(V.c (Il x21))] m22) → R20 [(V.c (Il 0))] m7)) → 
 R5 [(V.c (Il x6))] m7) → R5 [(V.c (Il 0))] m4)) : Wc prog tbl 14 [(V.agg 4 [(Il a100), a101, a102, a103])] m Q :=
 wc_eq (n := 1) rfl (by kernel_rfl) (by kernel_rfl) h
theorem w23 {a100 : Int} {a101 : Int} {a102 : Int} {m : M} {Q : V → M → Prop} (h :
 (∀ m0 : M, (m0 = (M.new m (AO.cells 3 [(Il a100), (Il a101), (Il a102)] false))) → 
 ∀ m1 : M, (m1 = (M.new m0 (AO.cells 3 [(Il 0), (Il 0), (Il 0)] false))) → 
 isPt (C.ptr m.nxt 0) ∧ ∃ x2, ((ldC m1 (C.ptr m.nxt 0)) = (some (Il x2))) ∧ 
 isPt (C.ptr m.nxt 0) ∧ ∃ x3, ((ldC m1 (C.ptr m.nxt 1)) = (some (Il x3))) ∧ 
 isPt (C.ptr m.nxt 0) ∧ ∃ x4, ((ldC m1 (C.ptr m.nxt 2)) = (some (Il x4))) ∧ 
 ∃ m5 : M, ((stC m1 (C.ptr m0.nxt 0) 3 [(Il x2), (Il x3), (Il x4)]) = (some m5)) ∧ 
 ∃ x6, ∃ x7, ∃ x8, ((ldA m5 (C.ptr m0.nxt 0) 3) = (some [(Il x6), 
 (Il x7), (Il x8)])) ∧ Q (V.agg 3 [(Il x6), 
 (Il x7), (Il x8)]) m5)) : Wc prog tbl 23 [(V.agg 3 [(Il a100), (Il a101), (Il a102)])] m Q :=
 wc_eq (n := 1) rfl (by kernel_rfl) (by kernel_rfl) h
theorem w29 {a100 : Int} {a200 : Int} {a300 : Int} {m : M} {Q : V → M → Prop} (h :
 (ifB (decide (a200 ≤ a100)) (Q (V.c (C.bool (decide (a100 ≤ a300)))) m) (Q (V.c (C.bool false)) m))) : Wc prog tbl 29 [(V.c (Il a100)), (V.c (Il a200)), (V.c (Il a300))] m Q :=
 wc_eq (n := 3) rfl (by kernel_rfl) (by kernel_rfl) h
theorem w44 {a100 : Int} {a101 : C} {a102 : C} {a103 : C} {m : M} {Q : V → M → Prop} (h :
 (∀ m0 : M, (m0 = (M.new m (AO.cells 4 [(Il a100), a101, a102, a103] false))) → ∃ x1, ∃ c2 : C, 
 ∃ c3 : C, ∃ c4 : C, ((ldA m0 (C.ptr m.nxt 0) 4) = (some [(Il x1), c2, c3, c4])) ∧ 
 Wc prog tbl 11 [(V.agg 4 [(Il x1), c2, c3, c4])] m0 (fun v5 m6 => ∃ b7 : Bool, (v5 = (V.c (C.bool b7))) ∧ 
 ifB b7 (∃ x8, ∃ c9 : C, ∃ c10 : C, ∃ c11 : C, ((ldA m6 (C.ptr m.nxt 0) 4) = (some [(Il x8), 
 c9, c10, c11])) ∧ Wc prog tbl 55 [(V.agg 4 [(Il x8), c9, c10, c11])] m6 (fun v12 m13 => 
 ∃ x14, (v12 = (V.c (Il x14))) ∧ Q (V.c (C.bool (decide (x14 = 0)))) m13)) (Q (V.c (C.bool false)) m6)))) : Wc prog tbl 44 [(V.agg 4 [(Il a100), a101, a102, a103])] m Q :=
 wc_eq (n := 1) rfl (by kernel_rfl) (by kernel_rfl) h
theorem w47 {a100 : Int} {a101 : C} {a102 : C} {a103 : C} {a200 : Int} {a300 : Int} {a301 : Int} {a302 : Int} {a400 : Int} {m : M} {Q : V → M → Prop} (h :
 (∀ m0 : M, (m0 = (M.new m (AO.cells 4 [(Il a100), a101, a102, a103] false))) → ∀ m1 : M, (m1 = (M.new m0 (AO.cells 3 [(Il a300), 
 (Il a301), (Il a302)] false))) → isPt (C.ptr m0.nxt 0) ∧ ∃ x2, 
 ((ldC m1 (C.ptr m0.nxt 2)) = (some (Il x2))) ∧ ∃ x3, ∃ c4 : C, ∃ c5 : C, 
 ∃ c6 : C, ((ldA m1 (C.ptr m.nxt 0) 4) = (some [(Il x3), c4, c5, c6])) ∧ 
 isPt (C.ptr m.nxt 0) ∧ ∃ c7 : C, ((ldC m1 (C.ptr m.nxt 2)) = (some c7)) ∧ ∃ n8 : Nat, 
 (a200 = ((n8 : Nat) : Int)) ∧ (n8 < (slLen c7)) ∧ isPt (slAt c7 (n8 * 7)) ∧ ∃ x9, 
 ((ldC m1 (ptAdd (slAt c7 (n8 * 7)) 0)) = (some (Il x9))) ∧ ∃ x10, 
 ∃ x11, ∃ x12, ((ldA m1 (C.ptr m0.nxt 0) 3) = (some [(Il x10), 
 (Il x11), (Il x12)])) ∧ Wc prog tbl 76 [(V.agg 4 [(Il x3), 
 c4, c5, c6]), (V.c (Il x9)), (V.agg 3 [(Il x10), 
 (Il x11), (Il x12)]), (V.c (Il a400))] m1 (fun v13 m14 => 
 ∃ x15, (v13 = (V.c (Il x15))) ∧ ((ldC m14 (C.ptr m0.nxt 2)) = (some (Il x2))) ∧ 
 fitsP .i64 (x2 + x15) ∧ Q (V.c (Il (Min.min (100 : Int) (x2 + x15)))) m14))) : Wc prog tbl 47 [(V.agg 4 [(Il a100), a101, a102, a103]), (V.c (Il a200)), (V.agg 3 [(Il a300), (Il a301), (Il a302)]), (V.c (Il a400))] m Q :=
 wc_eq (n := 4) rfl (by kernel_rfl) (by kernel_rfl) h
theorem w50 {a100 : C} {m : M} {Q : V → M → Prop} (h :
 (∃ c0 : C, ∃ m1 : M, (ApR prog 75 m C.sl0 a100 c0 m1) ∧ Q (V.c c0) m1)) : Wc prog tbl 50 [(V.c a100)] m Q :=
 wc_eq (n := 1) rfl (by kernel_rfl) (by kernel_rfl) h
theorem w58 {a100 : Int} {a101 : C} {a102 : C} {a103 : C} {m : M} {Q : V → M → Prop} (h :
 (∀ m0 : M, (m0 = (M.new m (AO.cells 4 [(Il a100), a101, a102, a103] false))) → ∀ m1 : M, (m1 = (M.new m0 (AO.cells 5 [(Il 0), 
 C.sl0, C.sl0, C.sl0, C.map0] false))) → ∃ x2, ∃ c3 : C, ∃ c4 : C, ∃ c5 : C, ((ldA m1 (C.ptr m.nxt 0) 4) = (some [(Il x2), 
 c3, c4, c5])) ∧ Wc prog tbl 15 [(V.agg 4 [(Il x2), c3, c4, c5])] m1 (fun v6 m7 => 
 ∃ x8, (v6 = (V.c (Il x8))) ∧ ifB (!decide (x8 = 0)) (∃ m9 : M, ((stC m7 (C.ptr m0.nxt 0) 5 [(Il 0), 
 C.sl0, C.sl0, C.sl0, C.map0]) = (some m9)) ∧ ∃ x10, ∃ c11 : C, ∃ c12 : C, 
 ∃ c13 : C, ∃ c14 : C, ((ldA m9 (C.ptr m0.nxt 0) 5) = (some [(Il x10), 
 c11, c12, c13, c14])) ∧ Q (V.tup [(U.agg 5 [(Il x10), c11, c12, c13, 
 c14]), (U.c (Il x8))]) m9) (∃ x15, ∃ c16 : C, ∃ c17 : C, 
 ∃ c18 : C, ((ldA m7 (C.ptr m.nxt 0) 4) = (some [(Il x15), c16, c17, 
 c18])) ∧ Wc prog tbl 90 [(V.agg 4 [(Il x15), c16, c17, c18])] m7 (fun v19 m20 => 
 ∃ x21, ∃ c22 : C, ∃ c23 : C, ∃ c24 : C, ∃ c25 : C, (v19 = (V.agg 5 [(Il x21), 
 c22, c23, c24, c25])) ∧ ∀ m26 : M, (m26 = (M.new m20 (AO.cells 5 [(Il 0), 
 C.sl0, C.sl0, C.sl0, C.map0] false))) → ∃ m27 : M, ((stC m26 (C.ptr m20.nxt 0) 5 [(Il x21), 
 c22, c23, c24, c25]) = (some m27)) ∧ ∃ x28, ∃ c29 : C, ∃ c30 : C, 
 ∃ c31 : C, ∃ c32 : C, ((ldA m27 (C.ptr m20.nxt 0) 5) = (some [(Il x28), 
 c29, c30, c31, c32])) ∧ Wc prog tbl 92 [(V.agg 5 [(Il x28), c29, 
 c30, c31, c32])] m27 (fun v33 m34 => ∃ b35 : Bool, (v33 = (V.c (C.bool b35))) ∧ 
 ifB (!b35) (∃ m36 : M, ((stC m34 (C.ptr m0.nxt 0) 5 [(Il 0), 
 C.sl0, C.sl0, C.sl0, C.map0]) = (some m36)) ∧ ∃ x37, ∃ c38 : C, 
 ∃ c39 : C, ∃ c40 : C, ∃ c41 : C, ((ldA m36 (C.ptr m0.nxt 0) 5) = (some [(Il x37), 
 c38, c39, c40, c41])) ∧ Q (V.tup [(U.agg 5 [(Il x37), c38, c39, 
 c40, c41]), (U.c (Il (11 : Int)))]) m36) (∃ x42, 
 ∃ c43 : C, ∃ c44 : C, ∃ c45 : C, ∃ c46 : C, ((ldA m34 (C.ptr m20.nxt 0) 5) = (some [(Il x42), 
 c43, c44, c45, c46])) ∧ ∃ m47 : M, ((stC m34 (C.ptr m0.nxt 0) 5 [(Il x42), 
 c43, c44, c45, c46]) = (some m47)) ∧ ∃ x48, ∃ c49 : C, ∃ c50 : C, 
 ∃ c51 : C, ∃ c52 : C, ((ldA m47 (C.ptr m0.nxt 0) 5) = (some [(Il x48), 
 c49, c50, c51, c52])) ∧ Q (V.tup [(U.agg 5 [(Il x48), c49, c50, 
 c51, c52]), (U.c (Il 0))]) m47))))))) : Wc prog tbl 58 [(V.agg 4 [(Il a100), a101, a102, a103])] m Q :=
 wc_eq (n := 1) rfl (by kernel_rfl) (by kernel_rfl) h
theorem w61 {a100 : Int} {a101 : C} {a102 : C} {a103 : C} {m : M} {Q : V → M → Prop} (h :
 (∀ m0 : M, (m0 = (M.new m (AO.cells 4 [(Il a100), a101, a102, a103] false))) → isPt (C.ptr m.nxt 0) ∧ 
 ∃ x1, ((ldC m0 (C.ptr m.nxt 0)) = (some (Il x1))) ∧ ifB (decide ((0 : Int) ≤ x1)) (isPt (C.ptr m.nxt 0) ∧ 
 ∃ c2 : C, ((ldC m0 (C.ptr m.nxt 1)) = (some c2)) ∧ isSl c2 ∧ ifB (decide ((0 : Int) < (((slLen c2) : Nat) : Int))) (isPt (C.ptr m.nxt 0) ∧ 
 ∃ c3 : C, ((ldC m0 (C.ptr m.nxt 2)) = (some c3)) ∧ isSl c3 ∧ ifB (decide ((0 : Int) < (((slLen c3) : Nat) : Int))) (isPt (C.ptr m.nxt 0) ∧ 
 ∃ c4 : C, ((ldC m0 (C.ptr m.nxt 1)) = (some c4)) ∧ ∃ x5, ∃ c6 : C, ∃ c7 : C, 
 ∃ c8 : C, ((ldA m0 (C.ptr m.nxt 0) 4) = (some [(Il x5), c6, 
 c7, c8])) ∧ optB (mapO vW [(V.agg 4 [(Il x5), c6, c7, c8])]) False fun l9 => 
 Wc prog tbl 103 [(V.c c4), (V.c (C.fn (Fn.func 104) l9 []))] m0 (fun v10 m11 => ∃ b12 : Bool, 
 (v10 = (V.c (C.bool b12))) ∧ ifB b12 (isPt (C.ptr m.nxt 0) ∧ ∃ c13 : C, ((ldC m11 (C.ptr m.nxt 2)) = (some c13)) ∧ 
 ∃ x14, ∃ c15 : C, ∃ c16 : C, ∃ c17 : C, ((ldA m11 (C.ptr m.nxt 0) 4) = (some [(Il x14), 
 c15, c16, c17])) ∧ optB (mapO vW [(V.agg 4 [(Il x14), c15, c16, 
 c17])]) False fun l18 => Wc prog tbl 62 [(V.c c13), (V.c (C.fn (Fn.func 105) l18 []))] m11 (fun v19 m20 => 
 ∃ b21 : Bool, (v19 = (V.c (C.bool b21))) ∧ ifB b21 (isPt (C.ptr m.nxt 0) ∧ 
 ∃ c22 : C, ((ldC m20 (C.ptr m.nxt 3)) = (some c22)) ∧ ∃ x23, 
 ∃ c24 : C, ∃ c25 : C, ∃ c26 : C, ((ldA m20 (C.ptr m.nxt 0) 4) = (some [(Il x23), 
 c24, c25, c26])) ∧ optB (mapO vW [(V.agg 4 [(Il x23), c24, c25, 
 c26])]) False fun l27 => Wc prog tbl 106 [(V.c c22), (V.c (C.fn (Fn.func 107) l27 []))] m20 (fun v28 m29 => 
 ∃ b30 : Bool, (v28 = (V.c (C.bool b30))) ∧ Q (V.c (C.bool b30)) m29)) (Q (V.c (C.bool false)) m20))) (Q (V.c (C.bool false)) m11))) (Q (V.c (C.bool false)) m0)) (Q (V.c (C.bool false)) m0)) (Q (V.c (C.bool false)) m0))) : Wc prog tbl 61 [(V.agg 4 [(Il a100), a101, a102, a103])] m Q :=
 wc_eq (n := 1) rfl (by kernel_rfl) (by kernel_rfl) h
theorem w70 {a100 : Int} {a101 : C} {a102 : C} {a103 : C} {a104 : C} {a200 : Int} {a300 : C} {m : M} {Q : V → M → Prop} (h :
 (∀ m0 : M, (m0 = (M.new m (AO.cells 5 [(Il a100), a101, a102, a103, a104] false))) → ∀ m1 : M, 
 (m1 = (M.new m0 (AO.cells 1 [a300] false))) → ∀ m2 : M, (m2 = (M.new m1 (AO.cells 2 [(Il 0), 
 (Il 0)] false))) → ∀ m3 : M, (m3 = (M.new m2 (AO.cells 1 [C.sl0] false))) → 
 ∃ x4, ∃ c5 : C, ∃ c6 : C, ∃ c7 : C, ∃ c8 : C, ((ldA m3 (C.ptr m.nxt 0) 5) = (some [(Il x4), 
 c5, c6, c7, c8])) ∧ Wc prog tbl 79 [(V.agg 5 [(Il x4), c5, c6, c7, c8]), (V.c (Il a200))] m3 (fun v9 m10 => 
 ∃ c11 : C, (v9 = (V.c c11)) ∧ rangeP prog tbl c11 m10 (fun l12 m13 R14 R15 => ∃ x16, 
 ∃ x17, ∃ x18, ∃ x19, ∃ x20, ∃ x21, ∃ x22, ∃ x23, 
 ∃ x24, ∃ x25, ∃ x26, ∃ x27, ∃ x28, ∃ x29, 
 ∃ x30, ∃ x31, (l12 = [(V.agg 16 [(Il x16), (Il x17), 
 (Il x18), (Il x19), (Il x20), (Il x21), 
 (Il x22), (Il x23), (Il x24), (Il x25), 
 (Il x26), (Il x27), (Il x28), (Il x29), 
 (Il x30), (Il x31)])]) ∧ ∀ m32 : M, (m32 = (M.new m13 (AO.cells 16 [(Il 0), 
 (Il 0), (Il 0), (Il 0), 
 (Il 0), (Il 0), (Il 0), 
 (Il 0), (Il 0), (Il 0), 
 (Il 0), (Il 0), (Il 0), 
 (Il 0), (Il 0), (Il 0)] false))) → 
 ∃ m33 : M, ((stC m32 (C.ptr m13.nxt 0) 16 [(Il x16), (Il x17), 
 (Il x18), (Il x19), (Il x20), (Il x21), 
 (Il x22), (Il x23), (Il x24), (Il x25), 
 (Il x26), (Il x27), (Il x28), (Il x29), 
 (Il x30), (Il x31)]) = (some m33)) ∧ R14 m33 (fun m34 => 
 ∃ c35 : C, ((ldC m34 (C.ptr m2.nxt 0)) = (some c35)) ∧ isPt (C.ptr m0.nxt 0) ∧ 
 ∃ c36 : C, ((ldC m34 (C.ptr m0.nxt 0)) = (some c36)) ∧ ∃ x37, 
 ∃ x38, ∃ x39, ∃ x40, ∃ x41, ∃ x42, ∃ x43, 
 ∃ x44, ∃ x45, ∃ x46, ∃ x47, ∃ x48, ∃ x49, 
 ∃ x50, ∃ x51, ∃ x52, ((ldA m34 (C.ptr m13.nxt 0) 16) = (some [(Il x37), 
 (Il x38), (Il x39), (Il x40), (Il x41), 
 (Il x42), (Il x43), (Il x44), (Il x45), 
 (Il x46), (Il x47), (Il x48), (Il x49), 
 (Il x50), (Il x51), (Il x52)])) ∧ 
 callP prog tbl [(V.agg 16 [(Il x37), (Il x38), 
 (Il x39), (Il x40), (Il x41), (Il x42), 
 (Il x43), (Il x44), (Il x45), (Il x46), 
 (Il x47), (Il x48), (Il x49), (Il x50), 
 (Il x51), (Il x52)])] c36 m34 (fun v53 m54 => ∃ x55, 
 (v53 = (V.c (Il x55))) ∧ (ifB (noFnC c35) ((ldC m54 (C.ptr m2.nxt 0)) = (some c35)) False) ∧ 
 ∀ m56 : M, (m56 = (M.new m54 (AO.cells 1 [(Il x55)] false))) → 
 (ifB (noFnC c35) ((ldC m56 (C.ptr m2.nxt 0)) = (some c35)) False) ∧ 
 ∃ c57 : C, ∃ m58 : M, (ApR prog 75 m56 c35 (C.sl m54.nxt 0 1 0 (some 1)) c57 m58) ∧ 
 ∃ m59 : M, ((stC m58 (C.ptr m2.nxt 0) 1 [c57]) = (some m59)) ∧ R15 Ex.nrm m59))) (After.mk (fun m60 => 
 ∃ c61 : C, ((ldC m60 (C.ptr m2.nxt 0)) = (some c61)) ∧ Wc prog tbl 113 [(V.c c61)] m60 (fun v62 m63 => 
 ∃ x64, (v62 = (V.c (Il x64))) ∧ ∃ c65 : C, ((ldC m63 (C.ptr m2.nxt 0)) = (some c65)) ∧ 
 (ifB (noFnC c65) ((ldC m60 (C.ptr m2.nxt 0)) = (some c65)) False) ∧ 
 Wc prog tbl 114 [(V.c c65)] m63 (fun v66 m67 => ∃ x68, (v66 = (V.c (Il x68))) ∧ 
 ∃ m69 : M, ((stC m67 (C.ptr m1.nxt 0) 2 [(Il x64), (Il x68)]) = (some m69)) ∧ 
 ∃ x70, ∃ x71, ((ldA m69 (C.ptr m1.nxt 0) 2) = (some [(Il x70), 
 (Il x71)])) ∧ Q (V.agg 2 [(Il x70), (Il x71)]) m69))) [] (fun m72 => 
 ∃ x73, ∃ x74, ((ldA m72 (C.ptr m1.nxt 0) 2) = (some [(Il x73), 
 (Il x74)])) ∧ Q (V.agg 2 [(Il x73), (Il x74)]) m72))))) : Wc prog tbl 70 [(V.agg 5 [(Il a100), a101, a102, a103, a104]), (V.c (Il a200)), (V.agg 1 [a300])] m Q :=
 wc_eq (n := 3) rfl (by kernel_rfl) (by kernel_rfl) h
theorem w74 {a100 : Int} {a101 : Int} {a102 : Int} {a103 : Int} {a104 : Int} {a105 : Int} {a106 : Int} {a107 : Int} {a108 : Int} {a109 : Int} {a110 : Int} {a111 : Int} {a112 : Int} {m : M} {Q : V → M → Prop} (h :
 (∀ m0 : M, (m0 = (M.new m (AO.cells 13 [(Il a100), (Il a101), (Il a102), 
 (Il a103), (Il a104), (Il a105), (Il a106), 
 (Il a107), (Il a108), (Il a109), (Il a110), 
 (Il a111), (Il a112)] false))) → isPt (C.ptr m.nxt 0) ∧ ∃ n1 : Nat, 
 ((12 : Int) = ((n1 : Nat) : Int)) ∧ (n1 < 13) ∧ ∃ x2, ((ldC m0 (C.ptr m.nxt (0 + (n1 * 1)))) = (some (Il x2))) ∧ 
 Q (V.c (Il x2)) m0)) : Wc prog tbl 74 [(V.agg 13 [(Il a100), (Il a101), (Il a102), (Il a103), (Il a104), (Il a105), (Il a106), (Il a107), (Il a108), (Il a109), (Il a110), (Il a111), (Il a112)])] m Q :=
 wc_eq (n := 1) rfl (by kernel_rfl) (by kernel_rfl) h
theorem w87 {a100 : C} {a200 : C} {m : M} {Q : V → M → Prop} (h :
 (∀ m0 : M, (m0 = (M.new m (AO.cells 1 [a200] false))) → Wc prog tbl 88 [(V.c a100), (V.c (C.fn (Fn.func 122) [] [(W.c (C0.ptr m.nxt 0))]))] m0 (fun v1 m2 => 
 ∃ b3 : Bool, (v1 = (V.c (C.bool b3))) ∧ Q (V.c (C.bool (!b3))) m2))) : Wc prog tbl 87 [(V.c a100), (V.c a200)] m Q :=
 wc_eq (n := 2) rfl (by kernel_rfl) (by kernel_rfl) h
theorem w90 {a100 : Int} {a101 : C} {a102 : C} {a103 : C} {m : M} {Q : V → M → Prop} (h :
 (∀ m0 : M, (m0 = (M.new m (AO.cells 4 [(Il a100), a101, a102, a103] false))) → ∀ m1 : M, (m1 = (M.new m0 (AO.cells 5 [(Il 0), 
 C.sl0, C.sl0, C.sl0, C.map0] false))) → ∃ x2, ∃ c3 : C, ∃ c4 : C, ∃ c5 : C, ((ldA m1 (C.ptr m.nxt 0) 4) = (some [(Il x2), 
 c3, c4, c5])) ∧ ∀ m6 : M, (m6 = (M.new m1 (AO.map [] 0))) → ∀ m7 : M, (m7 = (M.new m6 (AO.cells 5 [(Il 0), 
 C.sl0, C.sl0, C.sl0, C.map0] false))) → ∃ m8 : M, ((stC m7 (C.ptr m6.nxt 0) 5 [(Il x2), 
 c3, c4, c5, (C.map m1.nxt)]) = (some m8)) ∧ isPt (C.ptr m.nxt 0) ∧ ∃ c9 : C, 
 ((ldC m8 (C.ptr m.nxt 2)) = (some c9)) ∧ isSl c9 ∧ ∀ R10 : List V → M → Prop, 
 (∀ x11 : Int, ∀ m12 : M, (ifB (decide (x11 < (((slLen c9) : Nat) : Int))) (∃ n13 : Nat, 
 (x11 = ((n13 : Nat) : Int)) ∧ (n13 < (slLen c9)) ∧ ∃ x14, ∃ x15, 
 ∃ x16, ∃ x17, ∃ x18, ∃ x19, ∃ x20, ((ldA m12 (slAt c9 (n13 * 7)) 7) = (some [(Il x14), 
 (Il x15), (Il x16), (Il x17), (Il x18), 
 (Il x19), (Il x20)])) ∧ ∀ m21 : M, (m21 = (M.new m12 (AO.cells 7 [(Il 0), 
 (Il 0), (Il 0), (Il 0), 
 (Il 0), (Il 0), (Il 0)] false))) → 
 ∃ m22 : M, ((stC m21 (C.ptr m12.nxt 0) 7 [(Il x14), (Il x15), 
 (Il x16), (Il x17), (Il x18), (Il x19), 
 (Il x20)]) = (some m22)) ∧ isPt (C.ptr m12.nxt 0) ∧ 
 ∃ x23, ∃ x24, ((ldA m22 (C.ptr m12.nxt 1) 2) = (some [(Il x23), 
 (Il x24)])) ∧ Wc prog tbl 124 [(V.agg 2 [(Il x23), 
 (Il x24)])] m22 (fun v25 m26 => ∃ c27 : C, (v25 = (V.c c27)) ∧ 
 rangeP prog tbl c27 m26 (fun l28 m29 R30 R31 => ∃ x32, (l28 = [(V.c (Il x32))]) ∧ 
 ∀ m33 : M, (m33 = (M.new m29 (AO.cells 1 [(Il 0)] false))) → 
 ∃ m34 : M, ((stC m33 (C.ptr m29.nxt 0) 1 [(Il x32)]) = (some m34)) ∧ 
 R30 m34 (fun m35 => isPt (C.ptr m12.nxt 0) ∧ ∃ x36, ∃ x37, 
 ((ldA m35 (C.ptr m12.nxt 3) 2) = (some [(Il x36), (Il x37)])) ∧ 
 Wc prog tbl 124 [(V.agg 2 [(Il x36), (Il x37)])] m35 (fun v38 m39 => 
 ∃ c40 : C, (v38 = (V.c c40)) ∧ rangeP prog tbl c40 m39 (fun l41 m42 R43 R44 => 
 ∃ x45, (l41 = [(V.c (Il x45))]) ∧ R43 m42 (fun m46 => 
 ∃ x47, ∃ x48, ∃ x49, ∃ x50, ∃ x51, ∃ x52, 
 ∃ x53, ((ldA m46 (C.ptr m12.nxt 0) 7) = (some [(Il x47), 
 (Il x48), (Il x49), (Il x50), (Il x51), 
 (Il x52), (Il x53)])) ∧ ∃ x54, ((ldC m46 (C.ptr m29.nxt 0)) = (some (Il x54))) ∧ 
 Wc prog tbl 125 [(V.agg 7 [(Il x47), (Il x48), 
 (Il x49), (Il x50), (Il x51), (Il x52), 
 (Il x53)]), (V.c (Il x54)), (V.c (Il x45))] m46 (fun v55 m56 => 
 ∃ x57, ∃ x58, ∃ x59, ∃ x60, (v55 = (V.agg 4 [(Il x57), 
 (Il x58), (Il x59), (Il x60)])) ∧ 
 ∀ m61 : M, (m61 = (M.new m56 (AO.cells 4 [(Il 0), (Il 0), 
 (Il 0), (Il 0)] false))) → ∃ m62 : M, 
 ((stC m61 (C.ptr m56.nxt 0) 4 [(Il x57), (Il x58), 
 (Il x59), (Il x60)]) = (some m62)) ∧ isPt (C.ptr m6.nxt 0) ∧ 
 ∃ c63 : C, ((ldC m62 (C.ptr m6.nxt 4)) = (some c63)) ∧ ∃ x64, 
 ∃ x65, ∃ x66, ∃ x67, ((ldA m62 (C.ptr m56.nxt 0) 4) = (some [(Il x64), 
 (Il x65), (Il x66), (Il x67)])) ∧ 
 ∃ x68, ∃ c69 : C, ∃ c70 : C, ∃ c71 : C, ((ldA m62 (C.ptr m.nxt 0) 4) = (some [(Il x68), 
 c69, c70, c71])) ∧ ∃ x72, ∃ x73, ∃ x74, ∃ x75, ((ldA m62 (C.ptr m56.nxt 0) 4) = (some [(Il x72), 
 (Il x73), (Il x74), (Il x75)])) ∧ 
 Wc prog tbl 116 [(V.agg 4 [(Il x68), c69, c70, c71]), (V.agg 4 [(Il x72), 
 (Il x73), (Il x74), (Il x75)])] m62 (fun v76 m77 => 
 ∃ x78, ∃ x79, ∃ x80, ∃ x81, ∃ x82, ∃ x83, 
 ∃ x84, ∃ x85, ∃ x86, ∃ x87, ∃ x88, ∃ x89, 
 ∃ x90, (v76 = (V.agg 13 [(Il x78), (Il x79), 
 (Il x80), (Il x81), (Il x82), (Il x83), 
 (Il x84), (Il x85), (Il x86), (Il x87), 
 (Il x88), (Il x89), (Il x90)])) ∧ 
 ((ldA m77 (C.ptr m56.nxt 0) 4) = (some [(Il x64), (Il x65), 
 (Il x66), (Il x67)])) ∧ (ifB (noFnC c63) ((ldC m77 (C.ptr m6.nxt 4)) = (some c63)) False) ∧ 
 ∃ m91 : M, ((upM prog 170 m77 c63 (V.agg 4 [(Il x64), (Il x65), 
 (Il x66), (Il x67)]) (V.agg 13 [(Il x78), 
 (Il x79), (Il x80), (Il x81), (Il x82), 
 (Il x83), (Il x84), (Il x85), (Il x86), 
 (Il x87), (Il x88), (Il x89), (Il x90)])) = (some m91)) ∧ 
 R44 Ex.nrm m91)))) (After.mk (fun m92 => 
 R31 Ex.nrm m92) [] (fun m93 => R31 Ex.ret m93))))) (After.mk (fun m94 => 
 fitsP .i64 (x11 + 1) ∧ R10 [(V.c (Il (x11 + 1)))] m94) [] (fun m95 => 
 ∃ x96, ∃ c97 : C, ∃ c98 : C, ∃ c99 : C, ∃ c100 : C, ((ldA m95 (C.ptr m0.nxt 0) 5) = (some [(Il x96), 
 c97, c98, c99, c100])) ∧ Q (V.agg 5 [(Il x96), c97, c98, c99, 
 c100]) m95)))) (∃ x101, ∃ c102 : C, ∃ c103 : C, 
 ∃ c104 : C, ∃ c105 : C, ((ldA m12 (C.ptr m6.nxt 0) 5) = (some [(Il x101), 
 c102, c103, c104, c105])) ∧ ∃ m106 : M, ((stC m12 (C.ptr m0.nxt 0) 5 [(Il x101), 
 c102, c103, c104, c105]) = (some m106)) ∧ ∃ x107, ∃ c108 : C, 
 ∃ c109 : C, ∃ c110 : C, ∃ c111 : C, ((ldA m106 (C.ptr m0.nxt 0) 5) = (some [(Il x107), 
 c108, c109, c110, c111])) ∧ Q (V.agg 5 [(Il x107), c108, c109, 
 c110, c111]) m106)) → R10 [(V.c (Il x11))] m12) → 
 R10 [(V.c (Il 0))] m8)) : Wc prog tbl 90 [(V.agg 4 [(Il a100), a101, a102, a103])] m Q :=
 wc_eq (n := 1) rfl (by kernel_rfl) (by kernel_rfl) h
theorem w93 {a100 : Int} {a200 : C} {m : M} {Q : V → M → Prop} (h :
 (∀ m0 : M, (m0 = (M.new m (AO.cells 1 [a200] false))) → ∀ m1 : M, (m1 = (M.new m0 (AO.cells 1 [C.sl0] false))) → 
 fitsP .i64 (a100 + 1) ∧ ∀ R2 : List V → M → Prop, (∀ x3 : Int, ∀ m4 : M, (ifB (decide (x3 < (a100 + 1))) (Wc prog tbl 127 [(V.c (Il a100)), 
 (V.c (Il x3))] m4 (fun v5 m6 => ∃ c7 : C, (v5 = (V.c c7)) ∧ rangeP prog tbl c7 m6 (fun l10 m11 R12 R13 => 
 ∃ c14 : C, (l10 = [(V.c c14)]) ∧ R12 m11 (fun m15 => ∃ c16 : C, ((ldC m15 (C.ptr m.nxt 0)) = (some c16)) ∧ 
 callP prog tbl [(V.c c14)] c16 m15 (fun v17 m18 => ∃ b19 : Bool, (v17 = (V.c (C.bool b19))) ∧ 
 ifB b19 (Wc prog tbl 128 [(V.c c14)] m18 (fun v20 m21 => ∃ c22 : C, (v20 = (V.c c22)) ∧ 
 ∃ m23 : M, ((stC m21 (C.ptr m0.nxt 0) 1 [c22]) = (some m23)) ∧ R13 (Ex.exit 0) m23)) (R13 Ex.nrm m18)))) (After.mk (fun m24 => 
 fitsP .i64 (x3 + 1) ∧ R2 [(V.c (Il (x3 + 1)))] m24) [(0, 
 (fun m8 => ∃ c9 : C, (((ldC m8 (C.ptr m0.nxt 0)) = (some c9)) ∧ Q (V.c c9) m8)))] (fun m25 => 
 Q (V.c C.sl0) m25)))) (∃ c26 : C, ((ldC m4 (C.ptr m0.nxt 0)) = (some c26)) ∧ 
 Q (V.c c26) m4)) → R2 [(V.c (Il x3))] m4) → R2 [(V.c (Il 0))] m1)) : Wc prog tbl 93 [(V.c (Il a100)), (V.c a200)] m Q :=
 wc_eq (n := 2) rfl (by kernel_rfl) (by kernel_rfl) h
theorem w96 {a100 : Int} {a101 : Int} {m : M} {Q : V → M → Prop} (h :
 (∀ m0 : M, (m0 = (M.new m (AO.cells 2 [(Il a100), (Il a101)] false))) → isPt (C.ptr m.nxt 0) ∧ 
 ∃ x1, ((ldC m0 (C.ptr m.nxt 1)) = (some (Il x1))) ∧ isPt (C.ptr m.nxt 0) ∧ 
 ∃ x2, ((ldC m0 (C.ptr m.nxt 0)) = (some (Il x2))) ∧ fitsP .i64 (x1 - x2) ∧ 
 fitsP .i64 ((x1 - x2) + (1 : Int)) ∧ Q (V.c (Il ((x1 - x2) + (1 : Int)))) m0)) : Wc prog tbl 96 [(V.agg 2 [(Il a100), (Il a101)])] m Q :=
 wc_eq (n := 1) rfl (by kernel_rfl) (by kernel_rfl) h
theorem w99 {a100 : Int} {a101 : Int} {a200 : Int} {a300 : Int} {m : M} {Q : V → M → Prop} (h :
 (∀ m0 : M, (m0 = (M.new m (AO.cells 2 [(Il a100), (Il a101)] false))) → isPt (C.ptr m.nxt 0) ∧ 
 ∃ x1, ((ldC m0 (C.ptr m.nxt 0)) = (some (Il x1))) ∧ ifB (decide (a200 ≤ x1)) (isPt (C.ptr m.nxt 0) ∧ 
 ∃ x2, ((ldC m0 (C.ptr m.nxt 0)) = (some (Il x2))) ∧ isPt (C.ptr m.nxt 0) ∧ 
 ∃ x3, ((ldC m0 (C.ptr m.nxt 1)) = (some (Il x3))) ∧ ifB (decide (x2 ≤ x3)) (isPt (C.ptr m.nxt 0) ∧ 
 ∃ x4, ((ldC m0 (C.ptr m.nxt 1)) = (some (Il x4))) ∧ Q (V.c (C.bool (decide (x4 ≤ a300)))) m0) (Q (V.c (C.bool false)) m0)) (Q (V.c (C.bool false)) m0))) : Wc prog tbl 99 [(V.agg 2 [(Il a100), (Il a101)]), (V.c (Il a200)), (V.c (Il a300))] m Q :=
 wc_eq (n := 3) rfl (by kernel_rfl) (by kernel_rfl) h
theorem w102 {a100 : Int} {a101 : Int} {a102 : Int} {a103 : Int} {a104 : Int} {a105 : Int} {a106 : Int} {a107 : Int} {a108 : Int} {a109 : Int} {a110 : Int} {a111 : Int} {a112 : Int} {a113 : Int} {a114 : Int} {a115 : Int} {m : M} {Q : V → M → Prop} (h :
 (∀ m0 : M, (m0 = (M.new m (AO.cells 16 [(Il a100), (Il a101), (Il a102), 
 (Il a103), (Il a104), (Il a105), (Il a106), 
 (Il a107), (Il a108), (Il a109), (Il a110), 
 (Il a111), (Il a112), (Il a113), (Il a114), 
 (Il a115)] false))) → isPt (C.ptr m.nxt 0) ∧ isPt (C.ptr m.nxt 0) ∧ ∃ x1, 
 ((ldC m0 (C.ptr m.nxt 2)) = (some (Il x1))) ∧ Q (V.c (Il x1)) m0)) : Wc prog tbl 102 [(V.agg 16 [(Il a100), (Il a101), (Il a102), (Il a103), (Il a104), (Il a105), (Il a106), (Il a107), (Il a108), (Il a109), (Il a110), (Il a111), (Il a112), (Il a113), (Il a114), (Il a115)])] m Q :=
 wc_eq (n := 1) rfl (by kernel_rfl) (by kernel_rfl) h
theorem w105 {a100 : Int} {a101 : C} {a102 : C} {a103 : C} {a200 : Int} {a201 : Int} {a202 : Int} {a203 : Int} {a204 : Int} {a205 : Int} {a206 : Int} {m : M} {Q : V → M → Prop} (h :
 (∀ m0 : M, (m0 = (M.new m (AO.cells 4 [(Il a100), a101, a102, a103] false))) → ∀ m1 : M, (m1 = (M.new m0 (AO.cells 7 [(Il a200), 
 (Il a201), (Il a202), (Il a203), (Il a204), 
 (Il a205), (Il a206)] false))) → isPt (C.ptr m.nxt 0) ∧ ∃ c2 : C, 
 ((ldC m1 (C.ptr m.nxt 1)) = (some c2)) ∧ isSl c2 ∧ fitsP .i64 ((((slLen c2) : Nat) : Int) - (1 : Int)) ∧ 
 isPt (C.ptr m0.nxt 0) ∧ ∃ x3, ((ldC m1 (C.ptr m0.nxt 0)) = (some (Il x3))) ∧ 
 Wc prog tbl 112 [(V.agg 2 [(Il 0), (Il ((((slLen c2) : Nat) : Int) - (1 : Int)))]), 
 (V.c (Il x3))] m1 (fun v4 m5 => ∃ b6 : Bool, (v4 = (V.c (C.bool b6))) ∧ ifB b6 (isPt (C.ptr m0.nxt 0) ∧ 
 ∃ x7, ∃ x8, ((ldA m5 (C.ptr m0.nxt 1) 2) = (some [(Il x7), 
 (Il x8)])) ∧ isPt (C.ptr m.nxt 0) ∧ ∃ x9, ((ldC m5 (C.ptr m.nxt 0)) = (some (Il x9))) ∧ 
 Wc prog tbl 133 [(V.agg 2 [(Il x7), (Il x8)]), (V.c (Il 0)), 
 (V.c (Il x9))] m5 (fun v10 m11 => ∃ b12 : Bool, (v10 = (V.c (C.bool b12))) ∧ 
 ifB b12 (isPt (C.ptr m0.nxt 0) ∧ ∃ x13, ∃ x14, ((ldA m11 (C.ptr m0.nxt 3) 2) = (some [(Il x13), 
 (Il x14)])) ∧ Wc prog tbl 133 [(V.agg 2 [(Il x13), 
 (Il x14)]), (V.c (Il 0)), (V.c (Il (100 : Int)))] m11 (fun v15 m16 => 
 ∃ b17 : Bool, (v15 = (V.c (C.bool b17))) ∧ ifB b17 (isPt (C.ptr m0.nxt 0) ∧ 
 ∃ x18, ∃ x19, ((ldA m16 (C.ptr m0.nxt 5) 2) = (some [(Il x18), 
 (Il x19)])) ∧ Wc prog tbl 133 [(V.agg 2 [(Il x18), 
 (Il x19)]), (V.c (Il 0)), (V.c (Il (100 : Int)))] m16 (fun v20 m21 => 
 ∃ b22 : Bool, (v20 = (V.c (C.bool b22))) ∧ Q (V.c (C.bool b22)) m21)) (Q (V.c (C.bool false)) m16))) (Q (V.c (C.bool false)) m11))) (Q (V.c (C.bool false)) m5)))) : Wc prog tbl 105 [(V.agg 4 [(Il a100), a101, a102, a103]), (V.agg 7 [(Il a200), (Il a201), (Il a202), (Il a203), (Il a204), (Il a205), (Il a206)])] m Q :=
 wc_eq (n := 2) rfl (by kernel_rfl) (by kernel_rfl) h
theorem w108 {a100 : C} {a200 : C} {m : M} {Q : V → M → Prop} (h :
 (Wc prog tbl 136 [(V.c a100), (V.c a200)] m (fun v0 m1 => ∃ x2, (v0 = (V.c (Il x2))) ∧ Q (V.c (C.bool (decide ((0 : Int) ≤ x2)))) m1))) : Wc prog tbl 108 [(V.c a100), (V.c a200)] m Q :=
 wc_eq (n := 2) rfl (by kernel_rfl) (by kernel_rfl) h
theorem w112 {a100 : Int} {a101 : Int} {a200 : Int} {m : M} {Q : V → M → Prop} (h :
 (∀ m0 : M, (m0 = (M.new m (AO.cells 2 [(Il a100), (Il a101)] false))) → isPt (C.ptr m.nxt 0) ∧ 
 ∃ x1, ((ldC m0 (C.ptr m.nxt 0)) = (some (Il x1))) ∧ ifB (decide (x1 ≤ a200)) (isPt (C.ptr m.nxt 0) ∧ 
 ∃ x2, ((ldC m0 (C.ptr m.nxt 1)) = (some (Il x2))) ∧ Q (V.c (C.bool (decide (a200 ≤ x2)))) m0) (Q (V.c (C.bool false)) m0))) : Wc prog tbl 112 [(V.agg 2 [(Il a100), (Il a101)]), (V.c (Il a200))] m Q :=
 wc_eq (n := 2) rfl (by kernel_rfl) (by kernel_rfl) h
theorem w115 {a100 : Int} {a101 : Int} {a102 : Int} {a103 : Int} {a104 : Int} {a105 : Int} {a106 : Int} {a200 : Int} {a201 : Int} {a202 : Int} {m : M} {Q : V → M → Prop} (h :
 (∀ m0 : M, (m0 = (M.new m (AO.cells 7 [(Il a100), (Il a101), (Il a102), 
 (Il a103), (Il a104), (Il a105), (Il a106)] false))) → 
 ∀ m1 : M, (m1 = (M.new m0 (AO.cells 3 [(Il a200), (Il a201), (Il a202)] false))) → 
 isPt (C.ptr m.nxt 0) ∧ ∃ x2, ∃ x3, ((ldA m1 (C.ptr m.nxt 1) 2) = (some [(Il x2), 
 (Il x3)])) ∧ isPt (C.ptr m0.nxt 0) ∧ ∃ x4, ((ldC m1 (C.ptr m0.nxt 0)) = (some (Il x4))) ∧ 
 Wc prog tbl 112 [(V.agg 2 [(Il x2), (Il x3)]), (V.c (Il x4))] m1 (fun v5 m6 => 
 ∃ b7 : Bool, (v5 = (V.c (C.bool b7))) ∧ ifB b7 (isPt (C.ptr m.nxt 0) ∧ ∃ x8, ∃ x9, 
 ((ldA m6 (C.ptr m.nxt 3) 2) = (some [(Il x8), (Il x9)])) ∧ 
 isPt (C.ptr m0.nxt 0) ∧ ∃ x10, ((ldC m6 (C.ptr m0.nxt 1)) = (some (Il x10))) ∧ 
 Wc prog tbl 112 [(V.agg 2 [(Il x8), (Il x9)]), (V.c (Il x10))] m6 (fun v11 m12 => 
 ∃ b13 : Bool, (v11 = (V.c (C.bool b13))) ∧ ifB b13 (isPt (C.ptr m.nxt 0) ∧ ∃ x14, 
 ∃ x15, ((ldA m12 (C.ptr m.nxt 5) 2) = (some [(Il x14), 
 (Il x15)])) ∧ isPt (C.ptr m0.nxt 0) ∧ ∃ x16, ((ldC m12 (C.ptr m0.nxt 2)) = (some (Il x16))) ∧ 
 Wc prog tbl 112 [(V.agg 2 [(Il x14), (Il x15)]), 
 (V.c (Il x16))] m12 (fun v17 m18 => ∃ b19 : Bool, (v17 = (V.c (C.bool b19))) ∧ 
 Q (V.c (C.bool b19)) m18)) (Q (V.c (C.bool false)) m12))) (Q (V.c (C.bool false)) m6)))) : Wc prog tbl 115 [(V.agg 7 [(Il a100), (Il a101), (Il a102), (Il a103), (Il a104), (Il a105), (Il a106)]), (V.agg 3 [(Il a200), (Il a201), (Il a202)])] m Q :=
 wc_eq (n := 2) rfl (by kernel_rfl) (by kernel_rfl) h
theorem w120 {a100 : Int} {a101 : C} {a102 : C} {a103 : C} {a104 : C} {a200 : Int} {a201 : Int} {a202 : Int} {a203 : Int} {a204 : Int} {a205 : Int} {a206 : Int} {m : M} {Q : V → M → Prop} (h :
 (∀ m0 : M, (m0 = (M.new m (AO.cells 5 [(Il a100), a101, a102, a103, a104] false))) → ∀ m1 : M, 
 (m1 = (M.new m0 (AO.cells 7 [(Il a200), (Il a201), (Il a202), 
 (Il a203), (Il a204), (Il a205), (Il a206)] false))) → 
 Q (V.c (C.fn (Fn.func 137) [] [(W.c (C0.ptr m0.nxt 0)), (W.c (C0.ptr m.nxt 0))])) m1)) : Wc prog tbl 120 [(V.agg 5 [(Il a100), a101, a102, a103, a104]), (V.agg 7 [(Il a200), (Il a201), (Il a202), (Il a203), (Il a204), (Il a205), (Il a206)])] m Q :=
 wc_eq (n := 2) rfl (by kernel_rfl) (by kernel_rfl) h
theorem w124 {a100 : Int} {a101 : Int} {m : M} {Q : V → M → Prop} (h :
 (∀ m0 : M, (m0 = (M.new m (AO.cells 2 [(Il a100), (Il a101)] false))) → Q (V.c (C.fn (Fn.func 138) [] [(W.c (C0.ptr m.nxt 0))])) m0)) : Wc prog tbl 124 [(V.agg 2 [(Il a100), (Il a101)])] m Q :=
 wc_eq (n := 1) rfl (by kernel_rfl) (by kernel_rfl) h
theorem w127 {a100 : Int} {a200 : Int} {m : M} {Q : V → M → Prop} (h :
 (∀ m0 : M, (m0 = (M.new m (AO.cells 1 [(Il a100)] false))) → ∀ m1 : M, (m1 = (M.new m0 (AO.cells 1 [(Il a200)] false))) → 
 Q (V.c (C.fn (Fn.func 139) [] [(W.c (C0.ptr m0.nxt 0)), (W.c (C0.ptr m.nxt 0))])) m1)) : Wc prog tbl 127 [(V.c (Il a100)), (V.c (Il a200))] m Q :=
 wc_eq (n := 2) rfl (by kernel_rfl) (by kernel_rfl) h
theorem w130 {a100 : C} {a200 : C} {m : M} {Q : V → M → Prop} (h :
 (Wc prog tbl 142 [(V.c a100), (V.c a200)] m (fun v0 m1 => ∃ x2, (v0 = (V.c (Il x2))) ∧ Q (V.c (C.bool (decide ((0 : Int) ≤ x2)))) m1))) : Wc prog tbl 130 [(V.c a100), (V.c a200)] m Q :=
 wc_eq (n := 2) rfl (by kernel_rfl) (by kernel_rfl) h
theorem w134 {a100 : C} {a200 : C} {m : M} {Q : V → M → Prop} (h :
 (Wc prog tbl 145 [(V.c a100), (V.c a200)] m (fun v0 m1 => ∃ x2, (v0 = (V.c (Il x2))) ∧ Q (V.c (C.bool (decide ((0 : Int) ≤ x2)))) m1))) : Wc prog tbl 134 [(V.c a100), (V.c a200)] m Q :=
 wc_eq (n := 2) rfl (by kernel_rfl) (by kernel_rfl) h
theorem w142 {a100 : C} {a200 : C} {m : M} {Q : V → M → Prop} (h :
 (isSl a100 ∧ ∀ R0 : List V → M → Prop, (∀ x1 : Int, ∀ x2 : Int, ∀ m3 : M, (ifB (decide (x2 < (((slLen a100) : Nat) : Int))) (∃ n4 : Nat, 
 (x2 = ((n4 : Nat) : Int)) ∧ (n4 < (slLen a100)) ∧ ∃ c5 : C, ((ldC m3 (slAt a100 (n4 * 1))) = (some c5)) ∧ 
 callP prog tbl [(V.c c5)] a200 m3 (fun v6 m7 => ∃ b8 : Bool, (v6 = (V.c (C.bool b8))) ∧ ifB b8 (Q (V.c (Il x2)) m7) (fitsP .i64 (x2 + 1) ∧ 
 R0 [(V.c (Il x1)), (V.c (Il (x2 + 1)))] m7))) (Q (V.c (Il (-1 : Int))) m3)) → 
 R0 [(V.c (Il x1)), (V.c (Il x2))] m3) → R0 [(V.c (Il 0)), 
 (V.c (Il 0))] m)) : Wc prog tbl 142 [(V.c a100), (V.c a200)] m Q :=
 wc_eq (n := 2) rfl (by kernel_rfl) (by kernel_rfl) h
theorem w146 {a100 : C} {a200 : C} {m : M} {Q : V → M → Prop} (h :
 (isSl a100 ∧ ∀ R0 : List V → M → Prop, (∀ x1 : Int, ∀ x2 : Int, ∀ m3 : M, (ifB (decide (x2 < (((slLen a100) : Nat) : Int))) (∃ n4 : Nat, 
 (x2 = ((n4 : Nat) : Int)) ∧ (n4 < (slLen a100)) ∧ ∃ x5, ((ldC m3 (slAt a100 (n4 * 1))) = (some (Il x5))) ∧ 
 callP prog tbl [(V.c (Il x5))] a200 m3 (fun v6 m7 => ∃ b8 : Bool, (v6 = (V.c (C.bool b8))) ∧ 
 ifB b8 (Q (V.c (Il x2)) m7) (fitsP .i64 (x2 + 1) ∧ R0 [(V.c (Il x1)), 
 (V.c (Il (x2 + 1)))] m7))) (Q (V.c (Il (-1 : Int))) m3)) → 
 R0 [(V.c (Il x1)), (V.c (Il x2))] m3) → R0 [(V.c (Il 0)), 
 (V.c (Il 0))] m)) : Wc prog tbl 146 [(V.c a100), (V.c a200)] m Q :=
 wc_eq (n := 2) rfl (by kernel_rfl) (by kernel_rfl) h
end
end Go.Proofs.YtmlaphekbnanjaaGreat

namespace Go.Proofs.YtmlaphekbnanjaaGreat
open _root_.Go.Proofs.Tryz
open Go.Abs
set_option maxRecDepth 100000
noncomputable section
theorem w8 {a100 : Int} {a101 : C} {a102 : C} {a103 : C} {a200 : C} {a300 : Int} {a400 : Int} {m : M} {Q : V → M → Prop} (h :
 (∀ m0 : M, (m0 = (M.new m (AO.cells 4 [(Il a100), a101, a102, a103] false))) → ∃ x1, ∃ c2 : C, 
 ∃ c3 : C, ∃ c4 : C, ((ldA m0 (C.ptr m.nxt 0) 4) = (some [(Il x1), c2, c3, c4])) ∧ 
 Wc prog tbl 44 [(V.agg 4 [(Il x1), c2, c3, c4])] m0 (fun v5 m6 => ∃ b7 : Bool, (v5 = (V.c (C.bool b7))) ∧ 
 ifB (!b7) (Wc prog tbl 12 [] m6 (fun v8 m9 => ∃ b10 : Bool, (v8 = (V.c (C.bool b10))) ∧ Q (V.c (C.bool b10)) m9)) (∃ x11, 
 ∃ c12 : C, ∃ c13 : C, ∃ c14 : C, ((ldA m6 (C.ptr m.nxt 0) 4) = (some [(Il x11), 
 c12, c13, c14])) ∧ Wc prog tbl 45 [(V.agg 4 [(Il x11), c12, c13, c14]), 
 (V.c a200)] m6 (fun v15 m16 => ∃ x17, ∃ c18 : C, ∃ c19 : C, ∃ c20 : C, ∃ c21 : C, 
 (v15 = (V.tup [(U.agg 4 [(Il x17), c18, c19, c20]), (U.c c21)])) ∧ 
 ∀ m22 : M, (m22 = (M.new m16 (AO.cells 4 [(Il 0), C.sl0, 
 C.sl0, C.sl0] false))) → ∃ m23 : M, ((stC m22 (C.ptr m16.nxt 0) 4 [(Il x17), 
 c18, c19, c20]) = (some m23)) ∧ ∃ x24, ∃ c25 : C, ∃ c26 : C, 
 ∃ c27 : C, ((ldA m23 (C.ptr m16.nxt 0) 4) = (some [(Il x24), 
 c25, c26, c27])) ∧ Wc prog tbl 14 [(V.agg 4 [(Il x24), c25, c26, 
 c27])] m23 (fun v28 m29 => ∃ x30, ∃ c31 : C, ∃ c32 : C, ∃ c33 : C, 
 (v28 = (V.agg 4 [(Il x30), c31, c32, c33])) ∧ Wc prog tbl 40 [(V.agg 4 [(Il x30), 
 c31, c32, c33])] m29 (fun v34 m35 => ∃ c36 : C, ∃ x37, (v34 = (V.tup [(U.c c36), 
 (U.c (Il x37))])) ∧ ∃ x38, ∃ c39 : C, ∃ c40 : C, ∃ c41 : C, 
 ((ldA m35 (C.ptr m16.nxt 0) 4) = (some [(Il x38), c39, 
 c40, c41])) ∧ Wc prog tbl 14 [(V.agg 4 [(Il x38), c39, c40, c41])] m35 (fun v42 m43 => 
 ∃ x44, ∃ c45 : C, ∃ c46 : C, ∃ c47 : C, (v42 = (V.agg 4 [(Il x44), 
 c45, c46, c47])) ∧ Wc prog tbl 39 [(V.agg 4 [(Il x44), c45, c46, 
 c47])] m43 (fun v48 m49 => ∃ x50, ∃ x51, (v48 = (V.tup [(U.c (Il x50)), 
 (U.c (Il x51))])) ∧ ∃ x52, ∃ c53 : C, ∃ c54 : C, ∃ c55 : C, 
 ((ldA m49 (C.ptr m16.nxt 0) 4) = (some [(Il x52), c53, 
 c54, c55])) ∧ Wc prog tbl 14 [(V.agg 4 [(Il x52), c53, c54, c55])] m49 (fun v56 m57 => 
 ∃ x58, ∃ c59 : C, ∃ c60 : C, ∃ c61 : C, (v56 = (V.agg 4 [(Il x58), 
 c59, c60, c61])) ∧ Wc prog tbl 13 [(V.agg 4 [(Il x58), c59, c60, 
 c61])] m57 (fun v62 m63 => ∃ c64 : C, ∃ x65, (v62 = (V.tup [(U.c c64), 
 (U.c (Il x65))])) ∧ ifB (!decide (x37 = 0)) (Q (V.c (C.bool false)) m63) (isSl c36 ∧ 
 ifB (!decide ((((slLen c36) : Nat) : Int) = (0 : Int))) (Q (V.c (C.bool false)) m63) (ifB (!decide (x51 = 7)) (Q (V.c (C.bool false)) m63) (ifB (!decide (x65 = 0)) (Q (V.c (C.bool false)) m63) (isSl c64 ∧ 
 isSl c21 ∧ ifB (!decide ((((slLen c64) : Nat) : Int) = (((slLen c21) : Nat) : Int))) (Q (V.c (C.bool false)) m63) (isPt (C.ptr m.nxt 0) ∧ 
 ∃ x66, ((ldC m63 (C.ptr m.nxt 0)) = (some (Il x66))) ∧ 
 fitsP .i64 (x66 + 1) ∧ ((0 : Int) ≤ (wrapZ .i64 a300)) ∧ 
 ((0 : Int) < (x66 + 1)) ∧ fitsP .i64 ((wrapZ .i64 a300) % (x66 + 1)) ∧ 
 ((0 : Int) ≤ (wrapZ .i64 a400)) ∧ ((0 : Int) < (101 : Int)) ∧ fitsP .i64 ((wrapZ .i64 a400) % (101 : Int)) ∧ 
 ∀ R67 : List V → M → Prop, (∀ b68 : Bool, ∀ x69 : Int, ∀ m70 : M, (isSl c21 ∧ 
 ifB (decide (x69 < (((slLen c21) : Nat) : Int))) (∃ n71 : Nat, (x69 = ((n71 : Nat) : Int)) ∧ 
 (n71 < (slLen c21)) ∧ ∃ x72, ∃ x73, ∃ x74, ((ldA m70 (slAt c21 (n71 * 3)) 3) = (some [(Il x72), 
 (Il x73), (Il x74)])) ∧ ∀ m75 : M, (m75 = (M.new m70 (AO.cells 3 [(Il 0), 
 (Il 0), (Il 0)] false))) → ∃ m76 : M, 
 ((stC m75 (C.ptr m70.nxt 0) 3 [(Il x72), (Il x73), 
 (Il x74)]) = (some m76)) ∧ ∃ x77, ∃ c78 : C, ∃ c79 : C, 
 ∃ c80 : C, ((ldA m76 (C.ptr m16.nxt 0) 4) = (some [(Il x77), 
 c78, c79, c80])) ∧ Wc prog tbl 14 [(V.agg 4 [(Il x77), c78, c79, 
 c80])] m76 (fun v81 m82 => ∃ x83, ∃ c84 : C, ∃ c85 : C, ∃ c86 : C, 
 (v81 = (V.agg 4 [(Il x83), c84, c85, c86])) ∧ ∃ x87, ∃ x88, 
 ∃ x89, ((ldA m82 (C.ptr m70.nxt 0) 3) = (some [(Il x87), 
 (Il x88), (Il x89)])) ∧ ((ldA m76 (C.ptr m70.nxt 0) 3) = (some [(Il x87), 
 (Il x88), (Il x89)])) ∧ Wc prog tbl 23 [(V.agg 3 [(Il x87), 
 (Il x88), (Il x89)])] m82 (fun v90 m91 => ∃ x92, 
 ∃ x93, ∃ x94, (v90 = (V.agg 3 [(Il x92), (Il x93), 
 (Il x94)])) ∧ Wc prog tbl 22 [(V.agg 4 [(Il x83), 
 c84, c85, c86]), (V.c (Il x69)), (V.agg 3 [(Il x92), 
 (Il x93), (Il x94)])] m91 (fun v95 m96 => ∃ x97, 
 (v95 = (V.c (Il x97))) ∧ ∃ x98, ∃ c99 : C, ∃ c100 : C, 
 ∃ c101 : C, ((ldA m96 (C.ptr m16.nxt 0) 4) = (some [(Il x98), 
 c99, c100, c101])) ∧ Wc prog tbl 14 [(V.agg 4 [(Il x98), c99, 
 c100, c101])] m96 (fun v102 m103 => ∃ x104, ∃ c105 : C, ∃ c106 : C, 
 ∃ c107 : C, (v102 = (V.agg 4 [(Il x104), c105, c106, c107])) ∧ 
 Wc prog tbl 21 [(V.agg 4 [(Il x104), c105, c106, c107]), (V.c (Il x69)), 
 (V.c (Il ((wrapZ .i64 a300) % (x66 + 1))))] m103 (fun v108 m109 => 
 ∃ x110, ∃ x111, ∃ x112, (v108 = (V.tup [(U.agg 2 [(Il x110), 
 (Il x111)]), (U.c (Il x112))])) ∧ ∀ m113 : M, 
 (m113 = (M.new m109 (AO.cells 2 [(Il 0), (Il 0)] false))) → 
 ∃ m114 : M, ((stC m113 (C.ptr m109.nxt 0) 2 [(Il x110), (Il x111)]) = (some m114)) ∧ 
 ∃ x115, ∃ c116 : C, ∃ c117 : C, ∃ c118 : C, ((ldA m114 (C.ptr m16.nxt 0) 4) = (some [(Il x115), 
 c116, c117, c118])) ∧ Wc prog tbl 14 [(V.agg 4 [(Il x115), c116, 
 c117, c118])] m114 (fun v119 m120 => ∃ x121, ∃ c122 : C, ∃ c123 : C, 
 ∃ c124 : C, (v119 = (V.agg 4 [(Il x121), c122, c123, c124])) ∧ 
 Wc prog tbl 34 [(V.agg 4 [(Il x121), c122, c123, c124]), (V.c (Il x69)), 
 (V.c (Il ((wrapZ .i64 a400) % (101 : Int))))] m120 (fun v125 m126 => 
 ∃ x127, ∃ x128, (v125 = (V.tup [(U.c (Il x127)), 
 (U.c (Il x128))])) ∧ ifB (!decide (x112 = 0)) (Q (V.c (C.bool false)) m126) (ifB (!decide (x128 = 0)) (Q (V.c (C.bool false)) m126) (isPt (C.ptr m70.nxt 0) ∧ 
 ∃ x129, ((ldC m126 (C.ptr m70.nxt 0)) = (some (Il x129))) ∧ 
 ∃ n130 : Nat, (x69 = ((n130 : Nat) : Int)) ∧ (n130 < (slLen c64)) ∧ isPt (slAt c64 (n130 * 8)) ∧ 
 ∃ x131, ∃ x132, ((ldA m126 (ptAdd (slAt c64 (n130 * 8)) 0) 2) = (some [(Il x131), 
 (Il x132)])) ∧ Wc prog tbl 46 [(V.c (Il x129)), 
 (V.agg 2 [(Il x131), (Il x132)])] m126 (fun v133 m134 => 
 ∃ b135 : Bool, (v133 = (V.c (C.bool b135))) ∧ ifB (!b135) (Q (V.c (C.bool false)) m134) (isPt (C.ptr m70.nxt 0) ∧ 
 ∃ x136, ((ldC m134 (C.ptr m70.nxt 1)) = (some (Il x136))) ∧ 
 ∃ n137 : Nat, (x69 = ((n137 : Nat) : Int)) ∧ (n137 < (slLen c64)) ∧ isPt (slAt c64 (n137 * 8)) ∧ 
 ∃ x138, ∃ x139, ((ldA m134 (ptAdd (slAt c64 (n137 * 8)) 2) 2) = (some [(Il x138), 
 (Il x139)])) ∧ Wc prog tbl 46 [(V.c (Il x136)), 
 (V.agg 2 [(Il x138), (Il x139)])] m134 (fun v140 m141 => 
 ∃ b142 : Bool, (v140 = (V.c (C.bool b142))) ∧ ifB (!b142) (Q (V.c (C.bool false)) m141) (isPt (C.ptr m70.nxt 0) ∧ 
 ∃ x143, ((ldC m141 (C.ptr m70.nxt 2)) = (some (Il x143))) ∧ 
 ∃ n144 : Nat, (x69 = ((n144 : Nat) : Int)) ∧ (n144 < (slLen c64)) ∧ isPt (slAt c64 (n144 * 8)) ∧ 
 ∃ x145, ∃ x146, ((ldA m141 (ptAdd (slAt c64 (n144 * 8)) 4) 2) = (some [(Il x145), 
 (Il x146)])) ∧ Wc prog tbl 46 [(V.c (Il x143)), 
 (V.agg 2 [(Il x145), (Il x146)])] m141 (fun v147 m148 => 
 ∃ b149 : Bool, (v147 = (V.c (C.bool b149))) ∧ ifB (!b149) (Q (V.c (C.bool false)) m148) (∃ n150 : Nat, 
 (x69 = ((n150 : Nat) : Int)) ∧ (n150 < (slLen c64)) ∧ isPt (slAt c64 (n150 * 8)) ∧ 
 ∃ x151, ∃ x152, ((ldA m148 (ptAdd (slAt c64 (n150 * 8)) 6) 2) = (some [(Il x151), 
 (Il x152)])) ∧ Wc prog tbl 46 [(V.c (Il x97)), 
 (V.agg 2 [(Il x151), (Il x152)])] m148 (fun v153 m154 => 
 ∃ b155 : Bool, (v153 = (V.c (C.bool b155))) ∧ ifB (!b155) (Q (V.c (C.bool false)) m154) (∃ x156, 
 ∃ c157 : C, ∃ c158 : C, ∃ c159 : C, ((ldA m154 (C.ptr m16.nxt 0) 4) = (some [(Il x156), 
 c157, c158, c159])) ∧ ∃ x160, ∃ x161, ∃ x162, ((ldA m154 (C.ptr m70.nxt 0) 3) = (some [(Il x160), 
 (Il x161), (Il x162)])) ∧ Wc prog tbl 47 [(V.agg 4 [(Il x156), 
 c157, c158, c159]), (V.c (Il x69)), (V.agg 3 [(Il x160), 
 (Il x161), (Il x162)]), (V.c (Il ((wrapZ .i64 a300) % (x66 + 1))))] m154 (fun v163 m164 => 
 ∃ x165, (v163 = (V.c (Il x165))) ∧ ∃ x166, ∃ x167, 
 ((ldA m164 (C.ptr m109.nxt 0) 2) = (some [(Il x166), 
 (Il x167)])) ∧ ((ldA m154 (C.ptr m109.nxt 0) 2) = (some [(Il x166), 
 (Il x167)])) ∧ Wc prog tbl 46 [(V.c (Il x165)), 
 (V.agg 2 [(Il x166), (Il x167)])] m164 (fun v168 m169 => 
 ∃ b170 : Bool, (v168 = (V.c (C.bool b170))) ∧ ifB (!b170) (Q (V.c (C.bool false)) m169) (ifB (decide (x127 = 1)) (ifB (decide (x97 ≤ ((wrapZ .i64 a400) % (101 : Int)))) (Q (V.c (C.bool false)) m169) (ifB (decide (x127 = 2)) (ifB (decide (((wrapZ .i64 a400) % (101 : Int)) < x97)) (Q (V.c (C.bool false)) m169) (∃ x171, 
 ∃ c172 : C, ∃ c173 : C, ∃ c174 : C, ((ldA m169 (C.ptr m16.nxt 0) 4) = (some [(Il x171), 
 c172, c173, c174])) ∧ Wc prog tbl 14 [(V.agg 4 [(Il x171), c172, 
 c173, c174])] m169 (fun v175 m176 => ∃ x177, ∃ c178 : C, ∃ c179 : C, 
 ∃ c180 : C, (v175 = (V.agg 4 [(Il x177), c178, c179, c180])) ∧ 
 ∃ x181, ∃ x182, ∃ x183, ((ldA m176 (C.ptr m70.nxt 0) 3) = (some [(Il x181), 
 (Il x182), (Il x183)])) ∧ ((ldA m169 (C.ptr m70.nxt 0) 3) = (some [(Il x181), 
 (Il x182), (Il x183)])) ∧ Wc prog tbl 23 [(V.agg 3 [(Il x181), 
 (Il x182), (Il x183)])] m176 (fun v184 m185 => 
 ∃ x186, ∃ x187, ∃ x188, (v184 = (V.agg 3 [(Il x186), 
 (Il x187), (Il x188)])) ∧ Wc prog tbl 24 [(V.agg 4 [(Il x177), 
 c178, c179, c180]), (V.c (Il x69)), (V.agg 3 [(Il x186), 
 (Il x187), (Il x188)])] m185 (fun v189 m190 => 
 ∃ b191 : Bool, (v189 = (V.c (C.bool b191))) ∧ ifB (!b191) (Q (V.c (C.bool false)) m190) (fitsP .i64 (x69 + 1) ∧ 
 R67 [(V.c (C.bool b68)), (V.c (Il (x69 + 1)))] m190)))))) (∃ x192, 
 ∃ c193 : C, ∃ c194 : C, ∃ c195 : C, ((ldA m169 (C.ptr m16.nxt 0) 4) = (some [(Il x192), 
 c193, c194, c195])) ∧ Wc prog tbl 14 [(V.agg 4 [(Il x192), c193, 
 c194, c195])] m169 (fun v196 m197 => ∃ x198, ∃ c199 : C, ∃ c200 : C, 
 ∃ c201 : C, (v196 = (V.agg 4 [(Il x198), c199, c200, c201])) ∧ 
 ∃ x202, ∃ x203, ∃ x204, ((ldA m197 (C.ptr m70.nxt 0) 3) = (some [(Il x202), 
 (Il x203), (Il x204)])) ∧ ((ldA m169 (C.ptr m70.nxt 0) 3) = (some [(Il x202), 
 (Il x203), (Il x204)])) ∧ Wc prog tbl 23 [(V.agg 3 [(Il x202), 
 (Il x203), (Il x204)])] m197 (fun v205 m206 => 
 ∃ x207, ∃ x208, ∃ x209, (v205 = (V.agg 3 [(Il x207), 
 (Il x208), (Il x209)])) ∧ Wc prog tbl 24 [(V.agg 4 [(Il x198), 
 c199, c200, c201]), (V.c (Il x69)), (V.agg 3 [(Il x207), 
 (Il x208), (Il x209)])] m206 (fun v210 m211 => 
 ∃ b212 : Bool, (v210 = (V.c (C.bool b212))) ∧ ifB (!b212) (Q (V.c (C.bool false)) m211) (fitsP .i64 (x69 + 1) ∧ 
 R67 [(V.c (C.bool b68)), (V.c (Il (x69 + 1)))] m211))))))) (ifB (decide (x127 = 2)) (ifB (decide (((wrapZ .i64 a400) % (101 : Int)) < x97)) (Q (V.c (C.bool false)) m169) (∃ x213, 
 ∃ c214 : C, ∃ c215 : C, ∃ c216 : C, ((ldA m169 (C.ptr m16.nxt 0) 4) = (some [(Il x213), 
 c214, c215, c216])) ∧ Wc prog tbl 14 [(V.agg 4 [(Il x213), c214, 
 c215, c216])] m169 (fun v217 m218 => ∃ x219, ∃ c220 : C, ∃ c221 : C, 
 ∃ c222 : C, (v217 = (V.agg 4 [(Il x219), c220, c221, c222])) ∧ 
 ∃ x223, ∃ x224, ∃ x225, ((ldA m218 (C.ptr m70.nxt 0) 3) = (some [(Il x223), 
 (Il x224), (Il x225)])) ∧ ((ldA m169 (C.ptr m70.nxt 0) 3) = (some [(Il x223), 
 (Il x224), (Il x225)])) ∧ Wc prog tbl 23 [(V.agg 3 [(Il x223), 
 (Il x224), (Il x225)])] m218 (fun v226 m227 => 
 ∃ x228, ∃ x229, ∃ x230, (v226 = (V.agg 3 [(Il x228), 
 (Il x229), (Il x230)])) ∧ Wc prog tbl 24 [(V.agg 4 [(Il x219), 
 c220, c221, c222]), (V.c (Il x69)), (V.agg 3 [(Il x228), 
 (Il x229), (Il x230)])] m227 (fun v231 m232 => 
 ∃ b233 : Bool, (v231 = (V.c (C.bool b233))) ∧ ifB (!b233) (Q (V.c (C.bool false)) m232) (fitsP .i64 (x69 + 1) ∧ 
 R67 [(V.c (C.bool b68)), (V.c (Il (x69 + 1)))] m232)))))) (∃ x234, 
 ∃ c235 : C, ∃ c236 : C, ∃ c237 : C, ((ldA m169 (C.ptr m16.nxt 0) 4) = (some [(Il x234), 
 c235, c236, c237])) ∧ Wc prog tbl 14 [(V.agg 4 [(Il x234), c235, 
 c236, c237])] m169 (fun v238 m239 => ∃ x240, ∃ c241 : C, ∃ c242 : C, 
 ∃ c243 : C, (v238 = (V.agg 4 [(Il x240), c241, c242, c243])) ∧ 
 ∃ x244, ∃ x245, ∃ x246, ((ldA m239 (C.ptr m70.nxt 0) 3) = (some [(Il x244), 
 (Il x245), (Il x246)])) ∧ ((ldA m169 (C.ptr m70.nxt 0) 3) = (some [(Il x244), 
 (Il x245), (Il x246)])) ∧ Wc prog tbl 23 [(V.agg 3 [(Il x244), 
 (Il x245), (Il x246)])] m239 (fun v247 m248 => 
 ∃ x249, ∃ x250, ∃ x251, (v247 = (V.agg 3 [(Il x249), 
 (Il x250), (Il x251)])) ∧ Wc prog tbl 24 [(V.agg 4 [(Il x240), 
 c241, c242, c243]), (V.c (Il x69)), (V.agg 3 [(Il x249), 
 (Il x250), (Il x251)])] m248 (fun v252 m253 => 
 ∃ b254 : Bool, (v252 = (V.c (C.bool b254))) ∧ ifB (!b254) (Q (V.c (C.bool false)) m253) (fitsP .i64 (x69 + 1) ∧ 
 R67 [(V.c (C.bool b68)), (V.c (Il (x69 + 1)))] m253))))))))))))))))))))))))))) (Wc prog tbl 12 [] m70 (fun v255 m256 => 
 ∃ b257 : Bool, (v255 = (V.c (C.bool b257))) ∧ Q (V.c (C.bool b257)) m256))) → 
 R67 [(V.c (C.bool b68)), (V.c (Il x69))] m70) → R67 [(V.c (C.bool false)), 
 (V.c (Il 0))] m63)))))))))))))))) : Wc prog tbl 8 [(V.agg 4 [(Il a100), a101, a102, a103]), (V.c a200), (V.c (C.int .u8 a300)), (V.c (C.int .u8 a400))] m Q :=
 wc_eq (n := 4) rfl (by kernel_rfl) (by kernel_rfl) h
theorem w11 {a100 : Int} {a101 : C} {a102 : C} {a103 : C} {m : M} {Q : V → M → Prop} (h :
 (∀ m0 : M, (m0 = (M.new m (AO.cells 4 [(Il a100), a101, a102, a103] false))) → isPt (C.ptr m.nxt 0) ∧ 
 ∃ c1 : C, ((ldC m0 (C.ptr m.nxt 1)) = (some c1)) ∧ isSl c1 ∧ ifB (decide ((5 : Int) < (((slLen c1) : Nat) : Int))) (Q (V.c (C.bool false)) m0) (isPt (C.ptr m.nxt 0) ∧ 
 ∃ c2 : C, ((ldC m0 (C.ptr m.nxt 2)) = (some c2)) ∧ isSl c2 ∧ ifB (decide ((5 : Int) < (((slLen c2) : Nat) : Int))) (Q (V.c (C.bool false)) m0) (isPt (C.ptr m.nxt 0) ∧ 
 ∃ c3 : C, ((ldC m0 (C.ptr m.nxt 3)) = (some c3)) ∧ isSl c3 ∧ ifB (decide ((9 : Int) < (((slLen c3) : Nat) : Int))) (Q (V.c (C.bool false)) m0) (∀ R4 : List V → 
 M → Prop, (∀ b5 : Bool, ∀ x6 : Int, ∀ m7 : M, (isPt (C.ptr m.nxt 0) ∧ ∃ c8 : C, ((ldC m7 (C.ptr m.nxt 1)) = (some c8)) ∧ 
 isSl c8 ∧ ifB (decide (x6 < (((slLen c8) : Nat) : Int))) (isPt (C.ptr m.nxt 0) ∧ 
 ∃ c9 : C, ((ldC m7 (C.ptr m.nxt 1)) = (some c9)) ∧ ∃ n10 : Nat, (x6 = ((n10 : Nat) : Int)) ∧ 
 (n10 < (slLen c9)) ∧ ∃ c11 : C, ((ldC m7 (slAt c9 (n10 * 1))) = (some c11)) ∧ 
 isSl c11 ∧ ifB (decide ((20 : Int) < (((slLen c11) : Nat) : Int))) (Q (V.c (C.bool false)) m7) (fitsP .i64 (x6 + 1) ∧ 
 R4 [(V.c (C.bool b5)), (V.c (Il (x6 + 1)))] m7)) (∃ x12, 
 ∃ c13 : C, ∃ c14 : C, ∃ c15 : C, ((ldA m7 (C.ptr m.nxt 0) 4) = (some [(Il x12), 
 c13, c14, c15])) ∧ Wc prog tbl 55 [(V.agg 4 [(Il x12), c13, c14, 
 c15])] m7 (fun v16 m17 => ∃ x18, (v16 = (V.c (Il x18))) ∧ 
 ∀ R19 : List V → M → Prop, (∀ b20 : Bool, ∀ x21 : Int, ∀ m22 : M, (isPt (C.ptr m.nxt 0) ∧ 
 ∃ c23 : C, ((ldC m22 (C.ptr m.nxt 2)) = (some c23)) ∧ isSl c23 ∧ 
 ifB (decide (x21 < (((slLen c23) : Nat) : Int))) (ifB (!(!decide (x18 = 0))) (isPt (C.ptr m.nxt 0) ∧ 
 ∃ c24 : C, ((ldC m22 (C.ptr m.nxt 2)) = (some c24)) ∧ ∃ n25 : Nat, 
 (x21 = ((n25 : Nat) : Int)) ∧ (n25 < (slLen c24)) ∧ ∃ x26, ∃ x27, 
 ∃ x28, ∃ x29, ∃ x30, ∃ x31, ∃ x32, ((ldA m22 (slAt c24 (n25 * 7)) 7) = (some [(Il x26), 
 (Il x27), (Il x28), (Il x29), (Il x30), 
 (Il x31), (Il x32)])) ∧ Wc prog tbl 49 [(V.agg 7 [(Il x26), 
 (Il x27), (Il x28), (Il x29), (Il x30), 
 (Il x31), (Il x32)])] m22 (fun v33 m34 => ∃ x35, 
 (v33 = (V.c (Il x35))) ∧ ifB (decide ((200 : Int) < x35)) (Q (V.c (C.bool false)) m34) (fitsP .i64 (x21 + 1) ∧ 
 R19 [(V.c (C.bool b20)), (V.c (Il (x21 + 1)))] m34))) (fitsP .i64 (x21 + 1) ∧ 
 R19 [(V.c (C.bool b20)), (V.c (Il (x21 + 1)))] m22)) (Q (V.c (C.bool true)) m22)) → 
 R19 [(V.c (C.bool b20)), (V.c (Il x21))] m22) → R19 [(V.c (C.bool b5)), 
 (V.c (Il 0))] m17))) → R4 [(V.c (C.bool b5)), 
 (V.c (Il x6))] m7) → R4 [(V.c (C.bool false)), (V.c (Il 0))] m0))))) : Wc prog tbl 11 [(V.agg 4 [(Il a100), a101, a102, a103])] m Q :=
 wc_eq (n := 1) rfl (by kernel_rfl) (by kernel_rfl) h
theorem w15 {a100 : Int} {a101 : C} {a102 : C} {a103 : C} {m : M} {Q : V → M → Prop} (h :
 (∀ m0 : M, (m0 = (M.new m (AO.cells 4 [(Il a100), a101, a102, a103] false))) → ∃ x1, ∃ c2 : C, 
 ∃ c3 : C, ∃ c4 : C, ((ldA m0 (C.ptr m.nxt 0) 4) = (some [(Il x1), c2, c3, c4])) ∧ 
 Wc prog tbl 60 [(V.agg 4 [(Il x1), c2, c3, c4])] m0 (fun v5 m6 => ∃ b7 : Bool, (v5 = (V.c (C.bool b7))) ∧ 
 ifB b7 (Q (V.c (Il (3 : Int))) m6) (∃ x8, ∃ c9 : C, ∃ c10 : C, ∃ c11 : C, 
 ((ldA m6 (C.ptr m.nxt 0) 4) = (some [(Il x8), c9, c10, c11])) ∧ Wc prog tbl 61 [(V.agg 4 [(Il x8), 
 c9, c10, c11])] m6 (fun v12 m13 => ∃ b14 : Bool, (v12 = (V.c (C.bool b14))) ∧ ifB (!b14) (Q (V.c (Il (1 : Int))) m13) (isPt (C.ptr m.nxt 0) ∧ 
 ∃ c15 : C, ((ldC m13 (C.ptr m.nxt 2)) = (some c15)) ∧ Wc prog tbl 62 [(V.c c15), 
 (V.c (C.fn (Fn.func 63) [] []))] m13 (fun v16 m17 => ∃ b18 : Bool, (v16 = (V.c (C.bool b18))) ∧ 
 ifB (!b18) (Q (V.c (Il (3 : Int))) m17) (Q (V.c (Il 0)) m17)))))))) : Wc prog tbl 15 [(V.agg 4 [(Il a100), a101, a102, a103])] m Q :=
 wc_eq (n := 1) rfl (by kernel_rfl) (by kernel_rfl) h
theorem w21 {a100 : Int} {a101 : C} {a102 : C} {a103 : C} {a200 : Int} {a300 : Int} {m : M} {Q : V → M → Prop} (h :
 (∀ m0 : M, (m0 = (M.new m (AO.cells 4 [(Il a100), a101, a102, a103] false))) → ∀ m1 : M, (m1 = (M.new m0 (AO.cells 1 [(Il a300)] false))) → 
 ∀ m2 : M, (m2 = (M.new m1 (AO.cells 2 [(Il 0), (Il 0)] false))) → 
 ∀ m3 : M, (m3 = (mGrow m2 1)) → ∃ x4, ∃ c5 : C, ∃ c6 : C, ∃ c7 : C, ((ldA m3 (C.ptr m.nxt 0) 4) = (some [(Il x4), 
 c5, c6, c7])) ∧ ∃ x8, ∃ c9 : C, ∃ c10 : C, ∃ c11 : C, ((ldA m3 (C.ptr m.nxt 0) 4) = (some [(Il x8), 
 c9, c10, c11])) ∧ ∃ x12, ((ldC m3 (C.ptr m0.nxt 0)) = (some (Il x12))) ∧ 
 Wc prog tbl 69 [(V.agg 4 [(Il x8), c9, c10, c11]), (V.c (Il x12))] m3 (fun v13 m14 => 
 ∃ b15 : Bool, (v13 = (V.c (C.bool b15))) ∧ (ifB (allS noFnC [(Il x4), 
 c5, c6, c7]) ((ldA m14 (C.ptr m.nxt 0) 4) = (some [(Il x4), 
 c5, c6, c7])) False) ∧ Wc prog tbl 68 [(V.agg 4 [(Il x4), c5, 
 c6, c7]), (V.c (Il a200)), (V.c (C.bool b15))] m14 (fun v16 m17 => 
 ∃ x18, ∃ c19 : C, ∃ c20 : C, ∃ c21 : C, ∃ c22 : C, ∃ x23, (v16 = (V.tup [(U.agg 5 [(Il x18), 
 c19, c20, c21, c22]), (U.c (Il x23))])) ∧ ∀ m24 : M, (m24 = (M.set m17 (m2.nxt + 0) (AO.cells 5 [(Il 0), 
 C.sl0, C.sl0, C.sl0, C.map0] false))) → ((ldC m24 (C.ptr m0.nxt 0)) = (some (Il x12))) ∧ 
 (ifB (allS noFnC [(Il x8), c9, c10, c11]) ((ldA m24 (C.ptr m.nxt 0) 4) = (some [(Il x8), 
 c9, c10, c11])) False) ∧ (ifB (allS noFnC [(Il x4), c5, c6, c7]) ((ldA m24 (C.ptr m.nxt 0) 4) = (some [(Il x4), 
 c5, c6, c7])) False) ∧ ∃ m25 : M, ((stC m24 (C.ptr (m2.nxt + 0) 0) 5 [(Il x18), 
 c19, c20, c21, c22]) = (some m25)) ∧ ifB (!decide (x23 = 0)) (∃ m26 : M, 
 ((stC m25 (C.ptr m1.nxt 0) 2 [(Il 0), (Il 0)]) = (some m26)) ∧ 
 ∃ x27, ∃ x28, ((ldA m26 (C.ptr m1.nxt 0) 2) = (some [(Il x27), 
 (Il x28)])) ∧ Q (V.tup [(U.agg 2 [(Il x27), (Il x28)]), 
 (U.c (Il x23))]) m26) (∃ x29, ∃ c30 : C, ∃ c31 : C, 
 ∃ c32 : C, ∃ c33 : C, ((ldA m25 (C.ptr (m2.nxt + 0) 0) 5) = (some [(Il x29), 
 c30, c31, c32, c33])) ∧ Wc prog tbl 70 [(V.agg 5 [(Il x29), c30, 
 c31, c32, c33]), (V.c (Il a200)), (V.agg 1 [(C.fn (Fn.func 71) [] [(W.c (C0.ptr m0.nxt 0))])])] m25 (fun v34 m35 => 
 ∃ x36, ∃ x37, (v34 = (V.agg 2 [(Il x36), (Il x37)])) ∧ 
 ∃ m38 : M, ((stC m35 (C.ptr m1.nxt 0) 2 [(Il x36), (Il x37)]) = (some m38)) ∧ 
 ∃ x39, ∃ x40, ((ldA m38 (C.ptr m1.nxt 0) 2) = (some [(Il x39), 
 (Il x40)])) ∧ Q (V.tup [(U.agg 2 [(Il x39), (Il x40)]), 
 (U.c (Il 0))]) m38)))))) : Wc prog tbl 21 [(V.agg 4 [(Il a100), a101, a102, a103]), (V.c (Il a200)), (V.c (Il a300))] m Q :=
 wc_eq (n := 3) rfl (by kernel_rfl) (by kernel_rfl) h
theorem w24 {a100 : Int} {a101 : C} {a102 : C} {a103 : C} {a200 : Int} {a300 : Int} {a301 : Int} {a302 : Int} {m : M} {Q : V → M → Prop} (h :
 (∀ m0 : M, (m0 = (M.new m (AO.cells 4 [(Il a100), a101, a102, a103] false))) → ∀ m1 : M, (m1 = (M.new m0 (AO.cells 3 [(Il a300), 
 (Il a301), (Il a302)] false))) → ∃ x2, ∃ c3 : C, ∃ c4 : C, ∃ c5 : C, 
 ((ldA m1 (C.ptr m.nxt 0) 4) = (some [(Il x2), c3, c4, c5])) ∧ ∃ x6, 
 ∃ x7, ∃ x8, ((ldA m1 (C.ptr m0.nxt 0) 3) = (some [(Il x6), 
 (Il x7), (Il x8)])) ∧ Wc prog tbl 73 [(V.agg 4 [(Il x2), 
 c3, c4, c5]), (V.c (Il a200)), (V.agg 3 [(Il x6), (Il x7), 
 (Il x8)])] m1 (fun v9 m10 => ∃ x11, ∃ x12, ∃ x13, ∃ x14, 
 ∃ x15, ∃ x16, ∃ x17, ∃ x18, ∃ x19, ∃ x20, ∃ x21, 
 ∃ x22, ∃ x23, ∃ x24, ∃ x25, ∃ x26, ∃ b27 : Bool, 
 (v9 = (V.tup [(U.agg 16 [(Il x11), (Il x12), (Il x13), 
 (Il x14), (Il x15), (Il x16), (Il x17), 
 (Il x18), (Il x19), (Il x20), (Il x21), 
 (Il x22), (Il x23), (Il x24), (Il x25), 
 (Il x26)]), (U.c (C.bool b27))])) ∧ ∀ m28 : M, (m28 = (M.new m10 (AO.cells 16 [(Il 0), 
 (Il 0), (Il 0), (Il 0), 
 (Il 0), (Il 0), (Il 0), 
 (Il 0), (Il 0), (Il 0), 
 (Il 0), (Il 0), (Il 0), 
 (Il 0), (Il 0), (Il 0)] false))) → 
 ∃ m29 : M, ((stC m28 (C.ptr m10.nxt 0) 16 [(Il x11), (Il x12), 
 (Il x13), (Il x14), (Il x15), (Il x16), 
 (Il x17), (Il x18), (Il x19), (Il x20), 
 (Il x21), (Il x22), (Il x23), (Il x24), 
 (Il x25), (Il x26)]) = (some m29)) ∧ ifB b27 (∃ x30, 
 ∃ c31 : C, ∃ c32 : C, ∃ c33 : C, ((ldA m29 (C.ptr m.nxt 0) 4) = (some [(Il x30), 
 c31, c32, c33])) ∧ ∃ x34, ∃ x35, ∃ x36, ∃ x37, ∃ x38, 
 ∃ x39, ∃ x40, ∃ x41, ∃ x42, ∃ x43, ∃ x44, 
 ∃ x45, ∃ x46, ∃ x47, ∃ x48, ∃ x49, ((ldA m29 (C.ptr m10.nxt 0) 16) = (some [(Il x34), 
 (Il x35), (Il x36), (Il x37), (Il x38), 
 (Il x39), (Il x40), (Il x41), (Il x42), 
 (Il x43), (Il x44), (Il x45), (Il x46), 
 (Il x47), (Il x48), (Il x49)])) ∧ 
 Wc prog tbl 75 [(V.agg 4 [(Il x30), c31, c32, c33]), (V.c (Il a200)), 
 (V.agg 16 [(Il x34), (Il x35), (Il x36), 
 (Il x37), (Il x38), (Il x39), (Il x40), 
 (Il x41), (Il x42), (Il x43), (Il x44), 
 (Il x45), (Il x46), (Il x47), (Il x48), 
 (Il x49)])] m29 (fun v50 m51 => ∃ b52 : Bool, (v50 = (V.c (C.bool b52))) ∧ 
 Q (V.c (C.bool b52)) m51)) (Q (V.c (C.bool false)) m29)))) : Wc prog tbl 24 [(V.agg 4 [(Il a100), a101, a102, a103]), (V.c (Il a200)), (V.agg 3 [(Il a300), (Il a301), (Il a302)])] m Q :=
 wc_eq (n := 3) rfl (by kernel_rfl) (by kernel_rfl) h
theorem w30 {a100 : Int} {a101 : Int} {m : M} {Q : V → M → Prop} (h :
 (∀ m0 : M, (m0 = (M.new m (AO.cells 2 [(Il a100), (Il a101)] false))) → ∀ m1 : M, 
 (m1 = (M.new m0 (AO.cells 2 [(Il 0), (Il 0)] false))) → isPt (C.ptr m.nxt 0) ∧ 
 ∃ x2, ((ldC m1 (C.ptr m.nxt 0)) = (some (Il x2))) ∧ isPt (C.ptr m.nxt 0) ∧ 
 ∃ x3, ((ldC m1 (C.ptr m.nxt 1)) = (some (Il x3))) ∧ ∃ m4 : M, ((stC m1 (C.ptr m0.nxt 0) 2 [(Il x2), 
 (Il x3)]) = (some m4)) ∧ ∃ x5, ∃ x6, ((ldA m4 (C.ptr m0.nxt 0) 2) = (some [(Il x5), 
 (Il x6)])) ∧ Q (V.agg 2 [(Il x5), (Il x6)]) m4)) : Wc prog tbl 30 [(V.agg 2 [(Il a100), (Il a101)])] m Q :=
 wc_eq (n := 1) rfl (by kernel_rfl) (by kernel_rfl) h
theorem w39 {a100 : Int} {a101 : C} {a102 : C} {a103 : C} {m : M} {Q : V → M → Prop} (h :
 (∀ m0 : M, (m0 = (M.new m (AO.cells 4 [(Il a100), a101, a102, a103] false))) → ∃ x1, ∃ c2 : C, 
 ∃ c3 : C, ∃ c4 : C, ((ldA m0 (C.ptr m.nxt 0) 4) = (some [(Il x1), c2, c3, c4])) ∧ 
 Wc prog tbl 15 [(V.agg 4 [(Il x1), c2, c3, c4])] m0 (fun v5 m6 => ∃ x7, (v5 = (V.c (Il x7))) ∧ 
 ifB (!decide (x7 = 0)) (Q (V.tup [(U.c (Il 0)), (U.c (Il x7))]) m6) (∃ x8, 
 ∃ c9 : C, ∃ c10 : C, ∃ c11 : C, ((ldA m6 (C.ptr m.nxt 0) 4) = (some [(Il x8), 
 c9, c10, c11])) ∧ Wc prog tbl 90 [(V.agg 4 [(Il x8), c9, c10, c11])] m6 (fun v12 m13 => 
 ∃ x14, ∃ c15 : C, ∃ c16 : C, ∃ c17 : C, ∃ c18 : C, (v12 = (V.agg 5 [(Il x14), 
 c15, c16, c17, c18])) ∧ ∀ m19 : M, (m19 = (M.new m13 (AO.cells 5 [(Il 0), 
 C.sl0, C.sl0, C.sl0, C.map0] false))) → ∃ m20 : M, ((stC m19 (C.ptr m13.nxt 0) 5 [(Il x14), 
 c15, c16, c17, c18]) = (some m20)) ∧ isPt (C.ptr m.nxt 0) ∧ ∃ c21 : C, 
 ((ldC m20 (C.ptr m.nxt 3)) = (some c21)) ∧ isSl c21 ∧ ∀ R22 : List V → 
 M → Prop, (∀ x23 : Int, ∀ x24 : Int, ∀ x25 : Int, ∀ m26 : M, (ifB (decide (x25 < (((slLen c21) : Nat) : Int))) (∃ x27, 
 ∃ c28 : C, ∃ c29 : C, ∃ c30 : C, ∃ c31 : C, ((ldA m26 (C.ptr m13.nxt 0) 5) = (some [(Il x27), 
 c28, c29, c30, c31])) ∧ isPt (C.ptr m.nxt 0) ∧ ∃ c32 : C, ((ldC m26 (C.ptr m.nxt 3)) = (some c32)) ∧ 
 fitsP .i64 (x25 + 1) ∧ ∃ n33 : Nat, ∃ n34 : Nat, (n33 = 0) ∧ 
 ((x25 + 1) = ((n34 : Nat) : Int)) ∧ ∃ c35 : C, ((subC 4 c32 n33 n34) = (some c35)) ∧ 
 Wc prog tbl 91 [(V.agg 5 [(Il x27), c28, c29, c30, c31]), (V.c c35)] m26 (fun v36 m37 => 
 ∃ x38, ∃ c39 : C, ∃ c40 : C, ∃ c41 : C, ∃ c42 : C, (v36 = (V.agg 5 [(Il x38), 
 c39, c40, c41, c42])) ∧ Wc prog tbl 92 [(V.agg 5 [(Il x38), c39, 
 c40, c41, c42])] m37 (fun v43 m44 => ∃ b45 : Bool, (v43 = (V.c (C.bool b45))) ∧ 
 ifB (!b45) (Q (V.tup [(U.c (Il x25)), (U.c (Il 0))]) m44) (fitsP .i64 (x25 + 1) ∧ 
 R22 [(V.c (Il x23)), (V.c (Il x24)), (V.c (Il (x25 + 1)))] m44)))) (Q (V.tup [(U.c (Il 0)), 
 (U.c (Il (7 : Int)))]) m26)) → R22 [(V.c (Il x23)), 
 (V.c (Il x24)), (V.c (Il x25))] m26) → R22 [(V.c (Il 0)), 
 (V.c (Il 0)), (V.c (Il 0))] m20))))) : Wc prog tbl 39 [(V.agg 4 [(Il a100), a101, a102, a103])] m Q :=
 wc_eq (n := 1) rfl (by kernel_rfl) (by kernel_rfl) h
theorem w45 {a100 : Int} {a101 : C} {a102 : C} {a103 : C} {a200 : C} {m : M} {Q : V → M → Prop} (h :
 (∀ m0 : M, (m0 = (M.new m (AO.cells 4 [(Il a100), a101, a102, a103] false))) → ∀ m1 : M, (m1 = (M.new m0 (AO.cells 4 [(Il 0), 
 C.sl0, C.sl0, C.sl0] false))) → ∀ R2 : List V → M → Prop, (∀ c3 : C, ∀ x4 : Int, ∀ m5 : M, (isPt (C.ptr m.nxt 0) ∧ 
 ∃ c6 : C, ((ldC m5 (C.ptr m.nxt 2)) = (some c6)) ∧ isSl c6 ∧ ifB (decide (x4 < (((slLen c6) : Nat) : Int))) (isPt (C.ptr m.nxt 0) ∧ 
 ∃ c7 : C, ((ldC m5 (C.ptr m.nxt 2)) = (some c7)) ∧ ∃ n8 : Nat, (x4 = ((n8 : Nat) : Int)) ∧ 
 (n8 < (slLen c7)) ∧ ∃ x9, ∃ x10, ∃ x11, ∃ x12, ∃ x13, 
 ∃ x14, ∃ x15, ((ldA m5 (slAt c7 (n8 * 7)) 7) = (some [(Il x9), 
 (Il x10), (Il x11), (Il x12), (Il x13), 
 (Il x14), (Il x15)])) ∧ Wc prog tbl 95 [(V.c a200), 
 (V.c (Il x4))] m5 (fun v16 m17 => ∃ x18, (v16 = (V.c (Il x18))) ∧ 
 ((ldA m17 (slAt c7 (n8 * 7)) 7) = (some [(Il x9), (Il x10), 
 (Il x11), (Il x12), (Il x13), (Il x14), 
 (Il x15)])) ∧ (ifB (noFnC c7) ((ldC m17 (C.ptr m.nxt 2)) = (some c7)) False) ∧ 
 isPt (C.ptr m.nxt 0) ∧ ∃ c19 : C, ((ldC m17 (C.ptr m.nxt 2)) = (some c19)) ∧ 
 (ifB (noFnC c19) ((ldC m5 (C.ptr m.nxt 2)) = (some c19)) False) ∧ ∃ n20 : Nat, 
 (x4 = ((n20 : Nat) : Int)) ∧ (n20 < (slLen c19)) ∧ ∃ x21, ∃ x22, 
 ∃ x23, ∃ x24, ∃ x25, ∃ x26, ∃ x27, ((ldA m17 (slAt c19 (n20 * 7)) 7) = (some [(Il x21), 
 (Il x22), (Il x23), (Il x24), (Il x25), 
 (Il x26), (Il x27)])) ∧ ((ldA m5 (slAt c19 (n20 * 7)) 7) = (some [(Il x21), 
 (Il x22), (Il x23), (Il x24), (Il x25), 
 (Il x26), (Il x27)])) ∧ Wc prog tbl 49 [(V.agg 7 [(Il x21), 
 (Il x22), (Il x23), (Il x24), (Il x25), 
 (Il x26), (Il x27)])] m17 (fun v28 m29 => ∃ x30, 
 (v28 = (V.c (Il x30))) ∧ ((ldA m29 (slAt c7 (n8 * 7)) 7) = (some [(Il x9), 
 (Il x10), (Il x11), (Il x12), (Il x13), 
 (Il x14), (Il x15)])) ∧ (ifB (noFnC c7) ((ldC m29 (C.ptr m.nxt 2)) = (some c7)) False) ∧ 
 ((0 : Int) ≤ x18) ∧ ((0 : Int) < x30) ∧ fitsP .i64 (x18 % x30) ∧ Wc prog tbl 48 [(V.agg 7 [(Il x9), 
 (Il x10), (Il x11), (Il x12), (Il x13), 
 (Il x14), (Il x15)]), (V.c (Il (x18 % x30)))] m29 (fun v31 m32 => 
 ∃ x33, ∃ x34, ∃ x35, (v31 = (V.agg 3 [(Il x33), 
 (Il x34), (Il x35)])) ∧ ∀ m36 : M, (m36 = (M.new m32 (AO.cells 3 [(Il x33), 
 (Il x34), (Il x35)] false))) → ∃ c37 : C, ∃ m38 : M, 
 (ApR prog 49 m36 c3 (C.sl m32.nxt 0 1 0 (some 1)) c37 m38) ∧ fitsP .i64 (x4 + 1) ∧ 
 R2 [(V.c c37), (V.c (Il (x4 + 1)))] m38)))) (∃ x39, 
 ∃ c40 : C, ∃ c41 : C, ∃ c42 : C, ((ldA m5 (C.ptr m.nxt 0) 4) = (some [(Il x39), 
 c40, c41, c42])) ∧ ∀ m43 : M, (m43 = (M.new m5 (AO.cells 4 [(Il 0), 
 C.sl0, C.sl0, C.sl0] false))) → ∃ m44 : M, ((stC m43 (C.ptr m5.nxt 0) 4 [(Il x39), 
 c40, c41, c42]) = (some m44)) ∧ isPt (C.ptr m5.nxt 0) ∧ ∃ m45 : M, ((stC m44 (C.ptr m5.nxt 3) 1 [C.sl0]) = (some m45)) ∧ 
 ∀ R46 : List V → M → Prop, (∀ x47 : Int, ∀ m48 : M, (Wc prog tbl 95 [(V.c a200), 
 (V.c (Il (1 : Int)))] m48 (fun v49 m50 => ∃ x51, (v49 = (V.c (Il x51))) ∧ 
 ((0 : Int) ≤ x51) ∧ ((0 : Int) < (7 : Int)) ∧ fitsP .i64 (x51 % 7) ∧ 
 ifB (decide (x47 < (x51 % 7))) (fitsP .i64 (x47 + 3) ∧ 
 Wc prog tbl 95 [(V.c a200), (V.c (Il (x47 + 3)))] m50 (fun v52 m53 => 
 ∃ x54, (v52 = (V.c (Il x54))) ∧ isPt (C.ptr m.nxt 0) ∧ 
 ∃ c55 : C, ((ldC m53 (C.ptr m.nxt 2)) = (some c55)) ∧ isSl c55 ∧ 
 ((0 : Int) ≤ x54) ∧ ((0 : Int) < (((slLen c55) : Nat) : Int)) ∧ fitsP .i64 (x54 % (((slLen c55) : Nat) : Int)) ∧ 
 ((0 : Int) ≤ x54) ∧ ((0 : Int) < (4 : Int)) ∧ fitsP .i64 (x54 / 4) ∧ 
 isPt (C.ptr m.nxt 0) ∧ ∃ x56, ((ldC m53 (C.ptr m.nxt 0)) = (some (Il x56))) ∧ 
 fitsP .i64 (x56 + 1) ∧ ((0 : Int) ≤ (x54 / 4)) ∧ ((0 : Int) < (x56 + 1)) ∧ 
 fitsP .i64 ((x54 / 4) % (x56 + 1)) ∧ ∀ m57 : M, (m57 = (M.new m53 (AO.cells 4 [(Il 0), 
 (Il 0), (Il 0), (Il 0)] false))) → 
 ((ldC m57 (C.ptr m.nxt 0)) = (some (Il x56))) ∧ (isSl c55 ∧ 
 (V.c (Il (((slLen c55) : Nat) : Int))) = (V.c (Il (((slLen c55) : Nat) : Int)))) ∧ 
 (ifB (noFnC c55) ((ldC m57 (C.ptr m.nxt 2)) = (some c55)) False) ∧ 
 ∃ m58 : M, ((stC m57 (C.ptr m53.nxt 0) 4 [(Il (x54 % (((slLen c55) : Nat) : Int))), 
 (Il ((x54 / 4) % (x56 + 1))), (Il 0), 
 (Il 0)]) = (some m58)) ∧ ∃ x59, ∃ c60 : C, 
 ∃ c61 : C, ∃ c62 : C, ((ldA m58 (C.ptr m.nxt 0) 4) = (some [(Il x59), 
 c60, c61, c62])) ∧ isPt (C.ptr m53.nxt 0) ∧ ∃ x63, ((ldC m58 (C.ptr m53.nxt 0)) = (some (Il x63))) ∧ 
 isPt (C.ptr m53.nxt 0) ∧ ∃ x64, ((ldC m58 (C.ptr m53.nxt 0)) = (some (Il x64))) ∧ 
 ∃ n65 : Nat, (x64 = ((n65 : Nat) : Int)) ∧ (n65 < (slLen c3)) ∧ ∃ x66, 
 ∃ x67, ∃ x68, ((ldA m58 (slAt c3 (n65 * 3)) 3) = (some [(Il x66), 
 (Il x67), (Il x68)])) ∧ isPt (C.ptr m53.nxt 0) ∧ 
 ∃ x69, ((ldC m58 (C.ptr m53.nxt 1)) = (some (Il x69))) ∧ 
 Wc prog tbl 47 [(V.agg 4 [(Il x59), c60, c61, c62]), (V.c (Il x63)), 
 (V.agg 3 [(Il x66), (Il x67), (Il x68)]), 
 (V.c (Il x69))] m58 (fun v70 m71 => ∃ x72, (v70 = (V.c (Il x72))) ∧ 
 ((0 : Int) ≤ x54) ∧ ((0 : Int) < (64 : Int)) ∧ fitsP .i64 (x54 / 64) ∧ 
 ((0 : Int) ≤ (x54 / 64)) ∧ ((0 : Int) < (6 : Int)) ∧ fitsP .i64 ((x54 / 64) % (6 : Int)) ∧ 
 fitsP .i64 (x72 - ((x54 / 64) % (6 : Int))) ∧ ((0 : Int) ≤ x54) ∧ 
 ((0 : Int) < (512 : Int)) ∧ fitsP .i64 (x54 / 512) ∧ ((0 : Int) ≤ (x54 / 512)) ∧ 
 ((0 : Int) < (6 : Int)) ∧ fitsP .i64 ((x54 / 512) % (6 : Int)) ∧ 
 fitsP .i64 (x72 + ((x54 / 512) % (6 : Int))) ∧ isPt (C.ptr m53.nxt 0) ∧ 
 ∃ m73 : M, ((stC m71 (C.ptr m53.nxt 2) 2 [(Il (Max.max (0 : Int) (x72 - ((x54 / 64) % (6 : Int))))), 
 (Il (Min.min (100 : Int) (x72 + ((x54 / 512) % (6 : Int)))))]) = (some m73)) ∧ 
 isPt (C.ptr m5.nxt 0) ∧ ∃ c74 : C, ((ldC m73 (C.ptr m5.nxt 3)) = (some c74)) ∧ 
 ∃ x75, ∃ x76, ∃ x77, ∃ x78, ((ldA m73 (C.ptr m53.nxt 0) 4) = (some [(Il x75), 
 (Il x76), (Il x77), (Il x78)])) ∧ 
 ∀ m79 : M, (m79 = (M.new m73 (AO.cells 4 [(Il x75), (Il x76), 
 (Il x77), (Il x78)] false))) → ∃ c80 : C, ∃ m81 : M, 
 (ApR prog 24 m79 c74 (C.sl m73.nxt 0 1 0 (some 1)) c80 m81) ∧ isPt (C.ptr m5.nxt 0) ∧ 
 ∃ m82 : M, ((stC m81 (C.ptr m5.nxt 3) 1 [c80]) = (some m82)) ∧ fitsP .i64 (x47 + 1) ∧ 
 R46 [(V.c (Il (x47 + 1)))] m82))) (∃ x83, 
 ∃ c84 : C, ∃ c85 : C, ∃ c86 : C, ((ldA m50 (C.ptr m5.nxt 0) 4) = (some [(Il x83), 
 c84, c85, c86])) ∧ ∃ m87 : M, ((stC m50 (C.ptr m0.nxt 0) 4 [(Il x83), 
 c84, c85, c86]) = (some m87)) ∧ ∃ x88, ∃ c89 : C, ∃ c90 : C, 
 ∃ c91 : C, ((ldA m87 (C.ptr m0.nxt 0) 4) = (some [(Il x88), 
 c89, c90, c91])) ∧ Q (V.tup [(U.agg 4 [(Il x88), c89, c90, c91]), 
 (U.c c3)]) m87))) → R46 [(V.c (Il x47))] m48) → 
 R46 [(V.c (Il 0))] m45)) → R2 [(V.c c3), 
 (V.c (Il x4))] m5) → R2 [(V.c C.sl0), (V.c (Il 0))] m1)) : Wc prog tbl 45 [(V.agg 4 [(Il a100), a101, a102, a103]), (V.c a200)] m Q :=
 wc_eq (n := 2) rfl (by kernel_rfl) (by kernel_rfl) h
theorem w48 {a100 : Int} {a101 : Int} {a102 : Int} {a103 : Int} {a104 : Int} {a105 : Int} {a106 : Int} {a200 : Int} {m : M} {Q : V → M → Prop} (h :
 (∀ m0 : M, (m0 = (M.new m (AO.cells 7 [(Il a100), (Il a101), (Il a102), 
 (Il a103), (Il a104), (Il a105), (Il a106)] false))) → 
 ∀ m1 : M, (m1 = (M.new m0 (AO.cells 3 [(Il 0), (Il 0), (Il 0)] false))) → 
 ∀ m2 : M, (m2 = (M.new m1 (AO.cells 3 [(Il 0), (Il 0), 
 (Il 0)] false))) → isPt (C.ptr m.nxt 0) ∧ isPt (C.ptr m.nxt 1) ∧ ∃ x3, 
 ((ldC m2 (C.ptr m.nxt 1)) = (some (Il x3))) ∧ isPt (C.ptr m.nxt 0) ∧ ∃ x4, 
 ∃ x5, ((ldA m2 (C.ptr m.nxt 1) 2) = (some [(Il x4), (Il x5)])) ∧ 
 Wc prog tbl 96 [(V.agg 2 [(Il x4), (Il x5)])] m2 (fun v6 m7 => 
 ∃ x8, (v6 = (V.c (Il x8))) ∧ ((ldC m7 (C.ptr m.nxt 1)) = (some (Il x3))) ∧ 
 ((0 : Int) ≤ a200) ∧ ((0 : Int) < x8) ∧ fitsP .i64 (a200 % x8) ∧ fitsP .i64 (x3 + (a200 % x8)) ∧ 
 isPt (C.ptr m.nxt 0) ∧ ∃ x9, ∃ x10, ((ldA m7 (C.ptr m.nxt 1) 2) = (some [(Il x9), 
 (Il x10)])) ∧ ((ldA m2 (C.ptr m.nxt 1) 2) = (some [(Il x9), 
 (Il x10)])) ∧ Wc prog tbl 96 [(V.agg 2 [(Il x9), 
 (Il x10)])] m7 (fun v11 m12 => ∃ x13, (v11 = (V.c (Il x13))) ∧ 
 ((ldC m12 (C.ptr m.nxt 1)) = (some (Il x3))) ∧ ((0 : Int) ≤ a200) ∧ 
 ((0 : Int) < x13) ∧ fitsP .i64 (a200 / x13) ∧ isPt (C.ptr m1.nxt 0) ∧ 
 ∃ m14 : M, ((stC m12 (C.ptr m1.nxt 0) 1 [(Il (x3 + (a200 % x8)))]) = (some m14)) ∧ 
 isPt (C.ptr m.nxt 0) ∧ isPt (C.ptr m.nxt 3) ∧ ∃ x15, ((ldC m14 (C.ptr m.nxt 3)) = (some (Il x15))) ∧ 
 isPt (C.ptr m.nxt 0) ∧ ∃ x16, ∃ x17, ((ldA m14 (C.ptr m.nxt 3) 2) = (some [(Il x16), 
 (Il x17)])) ∧ Wc prog tbl 96 [(V.agg 2 [(Il x16), 
 (Il x17)])] m14 (fun v18 m19 => ∃ x20, (v18 = (V.c (Il x20))) ∧ 
 ((ldC m19 (C.ptr m.nxt 3)) = (some (Il x15))) ∧ ((0 : Int) ≤ (a200 / x13)) ∧ 
 ((0 : Int) < x20) ∧ fitsP .i64 ((a200 / x13) % x20) ∧ fitsP .i64 (x15 + ((a200 / x13) % x20)) ∧ 
 isPt (C.ptr m.nxt 0) ∧ ∃ x21, ∃ x22, ((ldA m19 (C.ptr m.nxt 3) 2) = (some [(Il x21), 
 (Il x22)])) ∧ ((ldA m14 (C.ptr m.nxt 3) 2) = (some [(Il x21), 
 (Il x22)])) ∧ Wc prog tbl 96 [(V.agg 2 [(Il x21), 
 (Il x22)])] m19 (fun v23 m24 => ∃ x25, (v23 = (V.c (Il x25))) ∧ 
 ((ldC m24 (C.ptr m.nxt 3)) = (some (Il x15))) ∧ ((0 : Int) ≤ (a200 / x13)) ∧ 
 ((0 : Int) < x25) ∧ fitsP .i64 ((a200 / x13) / x25) ∧ isPt (C.ptr m1.nxt 0) ∧ 
 ∃ m26 : M, ((stC m24 (C.ptr m1.nxt 1) 1 [(Il (x15 + ((a200 / x13) % x20)))]) = (some m26)) ∧ 
 isPt (C.ptr m.nxt 0) ∧ isPt (C.ptr m.nxt 5) ∧ ∃ x27, ((ldC m26 (C.ptr m.nxt 5)) = (some (Il x27))) ∧ 
 fitsP .i64 (x27 + ((a200 / x13) / x25)) ∧ isPt (C.ptr m1.nxt 0) ∧ 
 ∃ m28 : M, ((stC m26 (C.ptr m1.nxt 2) 1 [(Il (x27 + ((a200 / x13) / x25)))]) = (some m28)) ∧ 
 ∃ x29, ∃ x30, ∃ x31, ((ldA m28 (C.ptr m1.nxt 0) 3) = (some [(Il x29), 
 (Il x30), (Il x31)])) ∧ ∃ m32 : M, ((stC m28 (C.ptr m0.nxt 0) 3 [(Il x29), 
 (Il x30), (Il x31)]) = (some m32)) ∧ ∃ x33, 
 ∃ x34, ∃ x35, ((ldA m32 (C.ptr m0.nxt 0) 3) = (some [(Il x33), 
 (Il x34), (Il x35)])) ∧ Q (V.agg 3 [(Il x33), 
 (Il x34), (Il x35)]) m32)))))) : Wc prog tbl 48 [(V.agg 7 [(Il a100), (Il a101), (Il a102), (Il a103), (Il a104), (Il a105), (Il a106)]), (V.c (Il a200))] m Q :=
 wc_eq (n := 2) rfl (by kernel_rfl) (by kernel_rfl) h
theorem w59 {a100 : Int} {a101 : C} {a102 : C} {a103 : C} {a104 : C} {a200 : Int} {m : M} {Q : V → M → Prop} (h :
 (∀ m0 : M, (m0 = (M.new m (AO.cells 5 [(Il a100), a101, a102, a103, a104] false))) → ∀ m1 : M, 
 (m1 = (M.new m0 (AO.cells 8 [(Il 0), (Il 0), (Il 0), 
 (Il 0), (Il 0), (Il 0), (Il 0), 
 (Il 0)] false))) → ∃ x2, ∃ c3 : C, ∃ c4 : C, ∃ c5 : C, ∃ c6 : C, 
 ((ldA m1 (C.ptr m.nxt 0) 5) = (some [(Il x2), c3, c4, c5, c6])) ∧ Wc prog tbl 70 [(V.agg 5 [(Il x2), 
 c3, c4, c5, c6]), (V.c (Il a200)), (V.agg 1 [(C.fn (Fn.func 100) [] [])])] m1 (fun v7 m8 => 
 ∃ x9, ∃ x10, (v7 = (V.agg 2 [(Il x9), (Il x10)])) ∧ 
 ∃ x11, ∃ c12 : C, ∃ c13 : C, ∃ c14 : C, ∃ c15 : C, ((ldA m8 (C.ptr m.nxt 0) 5) = (some [(Il x11), 
 c12, c13, c14, c15])) ∧ (ifB (allS noFnC [(Il x11), c12, c13, c14, 
 c15]) ((ldA m1 (C.ptr m.nxt 0) 5) = (some [(Il x11), c12, 
 c13, c14, c15])) False) ∧ Wc prog tbl 70 [(V.agg 5 [(Il x11), c12, 
 c13, c14, c15]), (V.c (Il a200)), (V.agg 1 [(C.fn (Fn.func 101) [] [])])] m8 (fun v16 m17 => 
 ∃ x18, ∃ x19, (v16 = (V.agg 2 [(Il x18), (Il x19)])) ∧ 
 ∃ x20, ∃ c21 : C, ∃ c22 : C, ∃ c23 : C, ∃ c24 : C, ((ldA m17 (C.ptr m.nxt 0) 5) = (some [(Il x20), 
 c21, c22, c23, c24])) ∧ (ifB (allS noFnC [(Il x20), c21, c22, 
 c23, c24]) ((ldA m8 (C.ptr m.nxt 0) 5) = (some [(Il x20), 
 c21, c22, c23, c24])) False) ∧ (ifB (allS noFnC [(Il x20), c21, 
 c22, c23, c24]) ((ldA m1 (C.ptr m.nxt 0) 5) = (some [(Il x20), 
 c21, c22, c23, c24])) False) ∧ Wc prog tbl 70 [(V.agg 5 [(Il x20), 
 c21, c22, c23, c24]), (V.c (Il a200)), (V.agg 1 [(C.fn (Fn.func 102) [] [])])] m17 (fun v25 m26 => 
 ∃ x27, ∃ x28, (v25 = (V.agg 2 [(Il x27), (Il x28)])) ∧ 
 ∃ x29, ∃ c30 : C, ∃ c31 : C, ∃ c32 : C, ∃ c33 : C, ((ldA m26 (C.ptr m.nxt 0) 5) = (some [(Il x29), 
 c30, c31, c32, c33])) ∧ (ifB (allS noFnC [(Il x29), c30, c31, 
 c32, c33]) ((ldA m17 (C.ptr m.nxt 0) 5) = (some [(Il x29), 
 c30, c31, c32, c33])) False) ∧ (ifB (allS noFnC [(Il x29), c30, 
 c31, c32, c33]) ((ldA m8 (C.ptr m.nxt 0) 5) = (some [(Il x29), 
 c30, c31, c32, c33])) False) ∧ (ifB (allS noFnC [(Il x29), c30, 
 c31, c32, c33]) ((ldA m1 (C.ptr m.nxt 0) 5) = (some [(Il x29), 
 c30, c31, c32, c33])) False) ∧ Wc prog tbl 70 [(V.agg 5 [(Il x29), 
 c30, c31, c32, c33]), (V.c (Il a200)), (V.agg 1 [(C.fn (Fn.methodOf 130 "hailstone/growth.harvest") [] [])])] m26 (fun v34 m35 => 
 ∃ x36, ∃ x37, (v34 = (V.agg 2 [(Il x36), (Il x37)])) ∧ 
 ∃ m38 : M, ((stC m35 (C.ptr m0.nxt 0) 8 [(Il x9), (Il x10), 
 (Il x18), (Il x19), (Il x27), (Il x28), 
 (Il x36), (Il x37)]) = (some m38)) ∧ ∃ x39, 
 ∃ x40, ∃ x41, ∃ x42, ∃ x43, ∃ x44, ∃ x45, 
 ∃ x46, ((ldA m38 (C.ptr m0.nxt 0) 8) = (some [(Il x39), 
 (Il x40), (Il x41), (Il x42), (Il x43), 
 (Il x44), (Il x45), (Il x46)])) ∧ 
 Q (V.agg 8 [(Il x39), (Il x40), (Il x41), 
 (Il x42), (Il x43), (Il x44), (Il x45), 
 (Il x46)]) m38)))))) : Wc prog tbl 59 [(V.agg 5 [(Il a100), a101, a102, a103, a104]), (V.c (Il a200))] m Q :=
 wc_eq (n := 2) rfl (by kernel_rfl) (by kernel_rfl) h
theorem w62 {a100 : C} {a200 : C} {m : M} {Q : V → M → Prop} (h :
 (∀ m0 : M, (m0 = (M.new m (AO.cells 1 [a200] false))) → Wc prog tbl 108 [(V.c a100), (V.c (C.fn (Fn.func 109) [] [(W.c (C0.ptr m.nxt 0))]))] m0 (fun v1 m2 => 
 ∃ b3 : Bool, (v1 = (V.c (C.bool b3))) ∧ Q (V.c (C.bool (!b3))) m2))) : Wc prog tbl 62 [(V.c a100), (V.c a200)] m Q :=
 wc_eq (n := 2) rfl (by kernel_rfl) (by kernel_rfl) h
theorem w68 {a100 : Int} {a101 : C} {a102 : C} {a103 : C} {a200 : Int} {a300 : Bool} {m : M} {Q : V → M → Prop} (h :
 (∀ m0 : M, (m0 = (M.new m (AO.cells 4 [(Il a100), a101, a102, a103] false))) → ∀ m1 : M, (m1 = (M.new m0 (AO.cells 5 [(Il 0), 
 C.sl0, C.sl0, C.sl0, C.map0] false))) → ∃ x2, ∃ c3 : C, ∃ c4 : C, ∃ c5 : C, ((ldA m1 (C.ptr m.nxt 0) 4) = (some [(Il x2), 
 c3, c4, c5])) ∧ Wc prog tbl 15 [(V.agg 4 [(Il x2), c3, c4, c5])] m1 (fun v6 m7 => 
 ∃ x8, (v6 = (V.c (Il x8))) ∧ ifB (!decide (x8 = 0)) (∃ m9 : M, ((stC m7 (C.ptr m0.nxt 0) 5 [(Il 0), 
 C.sl0, C.sl0, C.sl0, C.map0]) = (some m9)) ∧ ∃ x10, ∃ c11 : C, ∃ c12 : C, 
 ∃ c13 : C, ∃ c14 : C, ((ldA m9 (C.ptr m0.nxt 0) 5) = (some [(Il x10), 
 c11, c12, c13, c14])) ∧ Q (V.tup [(U.agg 5 [(Il x10), c11, c12, c13, 
 c14]), (U.c (Il x8))]) m9) (∃ x15, ∃ c16 : C, ∃ c17 : C, 
 ∃ c18 : C, ((ldA m7 (C.ptr m.nxt 0) 4) = (some [(Il x15), c16, c17, 
 c18])) ∧ Wc prog tbl 111 [(V.agg 4 [(Il x15), c16, c17, c18]), (V.c (Il a200))] m7 (fun v19 m20 => 
 ∃ b21 : Bool, (v19 = (V.c (C.bool b21))) ∧ ifB (!b21) (∃ m22 : M, ((stC m20 (C.ptr m0.nxt 0) 5 [(Il 0), 
 C.sl0, C.sl0, C.sl0, C.map0]) = (some m22)) ∧ ∃ x23, ∃ c24 : C, 
 ∃ c25 : C, ∃ c26 : C, ∃ c27 : C, ((ldA m22 (C.ptr m0.nxt 0) 5) = (some [(Il x23), 
 c24, c25, c26, c27])) ∧ Q (V.tup [(U.agg 5 [(Il x23), c24, c25, 
 c26, c27]), (U.c (Il (2 : Int)))]) m22) (ifB (!a300) (∃ m28 : M, 
 ((stC m20 (C.ptr m0.nxt 0) 5 [(Il 0), C.sl0, C.sl0, C.sl0, 
 C.map0]) = (some m28)) ∧ ∃ x29, ∃ c30 : C, ∃ c31 : C, ∃ c32 : C, 
 ∃ c33 : C, ((ldA m28 (C.ptr m0.nxt 0) 5) = (some [(Il x29), 
 c30, c31, c32, c33])) ∧ Q (V.tup [(U.agg 5 [(Il x29), c30, c31, 
 c32, c33]), (U.c (Il (2 : Int)))]) m28) (∃ x34, 
 ∃ c35 : C, ∃ c36 : C, ∃ c37 : C, ((ldA m20 (C.ptr m.nxt 0) 4) = (some [(Il x34), 
 c35, c36, c37])) ∧ Wc prog tbl 58 [(V.agg 4 [(Il x34), c35, c36, 
 c37])] m20 (fun v38 m39 => ∃ x40, ∃ c41 : C, ∃ c42 : C, ∃ c43 : C, 
 ∃ c44 : C, ∃ x45, (v38 = (V.tup [(U.agg 5 [(Il x40), 
 c41, c42, c43, c44]), (U.c (Il x45))])) ∧ ∃ m46 : M, ((stC m39 (C.ptr m0.nxt 0) 5 [(Il x40), 
 c41, c42, c43, c44]) = (some m46)) ∧ ∃ x47, ∃ c48 : C, ∃ c49 : C, 
 ∃ c50 : C, ∃ c51 : C, ((ldA m46 (C.ptr m0.nxt 0) 5) = (some [(Il x47), 
 c48, c49, c50, c51])) ∧ Q (V.tup [(U.agg 5 [(Il x47), c48, c49, 
 c50, c51]), (U.c (Il x45))]) m46)))))))) : Wc prog tbl 68 [(V.agg 4 [(Il a100), a101, a102, a103]), (V.c (Il a200)), (V.c (C.bool a300))] m Q :=
 wc_eq (n := 3) rfl (by kernel_rfl) (by kernel_rfl) h
theorem w72 {a100 : Int} {a101 : Int} {a102 : Int} {a103 : Int} {a104 : Int} {a105 : Int} {a106 : Int} {a107 : Int} {a108 : Int} {a109 : Int} {a110 : Int} {a111 : Int} {a112 : Int} {a113 : Int} {a114 : Int} {a115 : Int} {a200 : Int} {m : M} {Q : V → M → Prop} (h :
 (∀ m0 : M, (m0 = (M.new m (AO.cells 16 [(Il a100), (Il a101), (Il a102), 
 (Il a103), (Il a104), (Il a105), (Il a106), 
 (Il a107), (Il a108), (Il a109), (Il a110), 
 (Il a111), (Il a112), (Il a113), (Il a114), 
 (Il a115)] false))) → isPt (C.ptr m.nxt 0) ∧ isPt (C.ptr m.nxt 0) ∧ ∃ x1, 
 ((ldC m0 (C.ptr m.nxt 2)) = (some (Il x1))) ∧ isPt (C.ptr m.nxt 0) ∧ isPt (C.ptr m.nxt 3) ∧ 
 ∃ n2 : Nat, (a200 = ((n2 : Nat) : Int)) ∧ (n2 < 13) ∧ ∃ x3, ((ldC m0 (C.ptr m.nxt (3 + (n2 * 1)))) = (some (Il x3))) ∧ 
 fitsP .i64 (x1 + x3) ∧ Q (V.c (Il (Min.min (x1 + x3) (100 : Int)))) m0)) : Wc prog tbl 72 [(V.agg 16 [(Il a100), (Il a101), (Il a102), (Il a103), (Il a104), (Il a105), (Il a106), (Il a107), (Il a108), (Il a109), (Il a110), (Il a111), (Il a112), (Il a113), (Il a114), (Il a115)]), (V.c (Il a200))] m Q :=
 wc_eq (n := 2) rfl (by kernel_rfl) (by kernel_rfl) h
theorem w75 {a100 : Int} {a101 : C} {a102 : C} {a103 : C} {a200 : Int} {a300 : Int} {a301 : Int} {a302 : Int} {a303 : Int} {a304 : Int} {a305 : Int} {a306 : Int} {a307 : Int} {a308 : Int} {a309 : Int} {a310 : Int} {a311 : Int} {a312 : Int} {a313 : Int} {a314 : Int} {a315 : Int} {m : M} {Q : V → M → Prop} (h :
 (∀ m0 : M, (m0 = (M.new m (AO.cells 4 [(Il a100), a101, a102, a103] false))) → ∀ m1 : M, (m1 = (M.new m0 (AO.cells 1 [(Il a200)] false))) → 
 ∀ m2 : M, (m2 = (M.new m1 (AO.cells 16 [(Il a300), (Il a301), (Il a302), 
 (Il a303), (Il a304), (Il a305), (Il a306), 
 (Il a307), (Il a308), (Il a309), (Il a310), 
 (Il a311), (Il a312), (Il a313), (Il a314), 
 (Il a315)] false))) → isPt (C.ptr m.nxt 0) ∧ ∃ c3 : C, ((ldC m2 (C.ptr m.nxt 3)) = (some c3)) ∧ 
 Wc prog tbl 106 [(V.c c3), (V.c (C.fn (Fn.func 117) [] [(W.c (C0.ptr m0.nxt 0)), (W.c (C0.ptr m1.nxt 0))]))] m2 (fun v4 m5 => 
 ∃ b6 : Bool, (v4 = (V.c (C.bool b6))) ∧ Q (V.c (C.bool b6)) m5))) : Wc prog tbl 75 [(V.agg 4 [(Il a100), a101, a102, a103]), (V.c (Il a200)), (V.agg 16 [(Il a300), (Il a301), (Il a302), (Il a303), (Il a304), (Il a305), (Il a306), (Il a307), (Il a308), (Il a309), (Il a310), (Il a311), (Il a312), (Il a313), (Il a314), (Il a315)])] m Q :=
 wc_eq (n := 3) rfl (by kernel_rfl) (by kernel_rfl) h
theorem w84 {a100 : Int} {m : M} {Q : V → M → Prop} (h :
 (Wc prog tbl 112 [(V.agg 2 [(Il 0), (Il (100 : Int))]), (V.c (Il a100))] m (fun v0 m1 => 
 ∃ b2 : Bool, (v0 = (V.c (C.bool b2))) ∧ Q (V.c (C.bool b2)) m1))) : Wc prog tbl 84 [(V.c (Il a100))] m Q :=
 wc_eq (n := 1) rfl (by kernel_rfl) (by kernel_rfl) h
theorem w88 {a100 : C} {a200 : C} {m : M} {Q : V → M → Prop} (h :
 (Wc prog tbl 123 [(V.c a100), (V.c a200)] m (fun v0 m1 => ∃ x2, (v0 = (V.c (Il x2))) ∧ Q (V.c (C.bool (decide ((0 : Int) ≤ x2)))) m1))) : Wc prog tbl 88 [(V.c a100), (V.c a200)] m Q :=
 wc_eq (n := 2) rfl (by kernel_rfl) (by kernel_rfl) h
theorem w91 {a100 : Int} {a101 : C} {a102 : C} {a103 : C} {a104 : C} {a200 : C} {m : M} {Q : V → M → Prop} (h :
 (∀ m0 : M, (m0 = (M.new m (AO.cells 5 [(Il a100), a101, a102, a103, a104] false))) → ∀ m1 : M, 
 (m1 = (M.new m0 (AO.cells 5 [(Il 0), C.sl0, C.sl0, C.sl0, C.map0] false))) → isPt (C.ptr m.nxt 0) ∧ 
 isPt (C.ptr m.nxt 0) ∧ ∃ m2 : M, ((stC m1 (C.ptr m.nxt 3) 1 [a200]) = (some m2)) ∧ ∃ x3, 
 ∃ c4 : C, ∃ c5 : C, ∃ c6 : C, ∃ c7 : C, ((ldA m2 (C.ptr m.nxt 0) 5) = (some [(Il x3), 
 c4, c5, c6, c7])) ∧ ∃ m8 : M, ((stC m2 (C.ptr m0.nxt 0) 5 [(Il x3), c4, 
 c5, c6, c7]) = (some m8)) ∧ ∃ x9, ∃ c10 : C, ∃ c11 : C, ∃ c12 : C, ∃ c13 : C, 
 ((ldA m8 (C.ptr m0.nxt 0) 5) = (some [(Il x9), c10, c11, c12, 
 c13])) ∧ Q (V.agg 5 [(Il x9), c10, c11, c12, c13]) m8)) : Wc prog tbl 91 [(V.agg 5 [(Il a100), a101, a102, a103, a104]), (V.c a200)] m Q :=
 wc_eq (n := 2) rfl (by kernel_rfl) (by kernel_rfl) h
theorem w94 {a100 : Int} {a101 : C} {a102 : C} {a103 : C} {a104 : C} {a200 : C} {m : M} {Q : V → M → Prop} (h :
 (∀ m0 : M, (m0 = (M.new m (AO.cells 5 [(Il a100), a101, a102, a103, a104] false))) → isPt (C.ptr m.nxt 0) ∧ 
 isPt (C.ptr m.nxt 0) ∧ ∃ c1 : C, ((ldC m0 (C.ptr m.nxt 3)) = (some c1)) ∧ isSl c1 ∧ ∀ R2 : List V → 
 M → Prop, (∀ c3 : C, ∀ x4 : Int, ∀ m5 : M, (ifB (decide (x4 < (((slLen c1) : Nat) : Int))) (∃ n6 : Nat, 
 (x4 = ((n6 : Nat) : Int)) ∧ (n6 < (slLen c1)) ∧ ∃ x7, ∃ x8, ∃ x9, ∃ x10, 
 ((ldA m5 (slAt c1 (n6 * 4)) 4) = (some [(Il x7), (Il x8), 
 (Il x9), (Il x10)])) ∧ ∀ m11 : M, (m11 = (M.new m5 (AO.cells 4 [(Il 0), 
 (Il 0), (Il 0), (Il 0)] false))) → 
 ∃ m12 : M, ((stC m11 (C.ptr m5.nxt 0) 4 [(Il x7), (Il x8), 
 (Il x9), (Il x10)]) = (some m12)) ∧ Wc prog tbl 129 [(V.c a200), 
 (V.c (Il x4))] m12 (fun v13 m14 => ∃ b15 : Bool, (v13 = (V.c (C.bool b15))) ∧ 
 ifB (!b15) (∃ x16, ∃ x17, ∃ x18, ∃ x19, ((ldA m14 (C.ptr m5.nxt 0) 4) = (some [(Il x16), 
 (Il x17), (Il x18), (Il x19)])) ∧ 
 ∀ m20 : M, (m20 = (M.new m14 (AO.cells 4 [(Il x16), (Il x17), 
 (Il x18), (Il x19)] false))) → ∃ c21 : C, ∃ m22 : M, 
 (ApR prog 34 m20 c3 (C.sl m14.nxt 0 1 0 (some 1)) c21 m22) ∧ fitsP .i64 (x4 + 1) ∧ 
 R2 [(V.c c21), (V.c (Il (x4 + 1)))] m22) (fitsP .i64 (x4 + 1) ∧ 
 R2 [(V.c c3), (V.c (Il (x4 + 1)))] m14))) (∃ x23, 
 ∃ c24 : C, ∃ c25 : C, ∃ c26 : C, ∃ c27 : C, ((ldA m5 (C.ptr m.nxt 0) 5) = (some [(Il x23), 
 c24, c25, c26, c27])) ∧ Wc prog tbl 91 [(V.agg 5 [(Il x23), c24, c25, 
 c26, c27]), (V.c c3)] m5 (fun v28 m29 => ∃ x30, ∃ c31 : C, ∃ c32 : C, ∃ c33 : C, 
 ∃ c34 : C, (v28 = (V.agg 5 [(Il x30), c31, c32, c33, c34])) ∧ Wc prog tbl 92 [(V.agg 5 [(Il x30), 
 c31, c32, c33, c34])] m29 (fun v35 m36 => ∃ b37 : Bool, (v35 = (V.c (C.bool b37))) ∧ 
 Q (V.c (C.bool b37)) m36)))) → R2 [(V.c c3), (V.c (Il x4))] m5) → 
 R2 [(V.c C.sl0), (V.c (Il 0))] m0)) : Wc prog tbl 94 [(V.agg 5 [(Il a100), a101, a102, a103, a104]), (V.c a200)] m Q :=
 wc_eq (n := 2) rfl (by kernel_rfl) (by kernel_rfl) h
theorem w100 {a100 : Int} {a101 : Int} {a102 : Int} {a103 : Int} {a104 : Int} {a105 : Int} {a106 : Int} {a107 : Int} {a108 : Int} {a109 : Int} {a110 : Int} {a111 : Int} {a112 : Int} {a113 : Int} {a114 : Int} {a115 : Int} {m : M} {Q : V → M → Prop} (h :
 (∀ m0 : M, (m0 = (M.new m (AO.cells 16 [(Il a100), (Il a101), (Il a102), 
 (Il a103), (Il a104), (Il a105), (Il a106), 
 (Il a107), (Il a108), (Il a109), (Il a110), 
 (Il a111), (Il a112), (Il a113), (Il a114), 
 (Il a115)] false))) → isPt (C.ptr m.nxt 0) ∧ isPt (C.ptr m.nxt 0) ∧ ∃ x1, 
 ((ldC m0 (C.ptr m.nxt 0)) = (some (Il x1))) ∧ Q (V.c (Il x1)) m0)) : Wc prog tbl 100 [(V.agg 16 [(Il a100), (Il a101), (Il a102), (Il a103), (Il a104), (Il a105), (Il a106), (Il a107), (Il a108), (Il a109), (Il a110), (Il a111), (Il a112), (Il a113), (Il a114), (Il a115)])] m Q :=
 wc_eq (n := 1) rfl (by kernel_rfl) (by kernel_rfl) h
theorem w103 {a100 : C} {a200 : C} {m : M} {Q : V → M → Prop} (h :
 (∀ m0 : M, (m0 = (M.new m (AO.cells 1 [a200] false))) → Wc prog tbl 130 [(V.c a100), (V.c (C.fn (Fn.func 131) [] [(W.c (C0.ptr m.nxt 0))]))] m0 (fun v1 m2 => 
 ∃ b3 : Bool, (v1 = (V.c (C.bool b3))) ∧ Q (V.c (C.bool (!b3))) m2))) : Wc prog tbl 103 [(V.c a100), (V.c a200)] m Q :=
 wc_eq (n := 2) rfl (by kernel_rfl) (by kernel_rfl) h
theorem w106 {a100 : C} {a200 : C} {m : M} {Q : V → M → Prop} (h :
 (∀ m0 : M, (m0 = (M.new m (AO.cells 1 [a200] false))) → Wc prog tbl 134 [(V.c a100), (V.c (C.fn (Fn.func 135) [] [(W.c (C0.ptr m.nxt 0))]))] m0 (fun v1 m2 => 
 ∃ b3 : Bool, (v1 = (V.c (C.bool b3))) ∧ Q (V.c (C.bool (!b3))) m2))) : Wc prog tbl 106 [(V.c a100), (V.c a200)] m Q :=
 wc_eq (n := 2) rfl (by kernel_rfl) (by kernel_rfl) h
theorem w110 {a100 : Int} {a101 : Int} {m : M} {Q : V → M → Prop} (h :
 (∀ m0 : M, (m0 = (M.new m (AO.cells 2 [(Il a100), (Il a101)] false))) → isPt (C.ptr m.nxt 0) ∧ 
 ∃ x1, ((ldC m0 (C.ptr m.nxt 1)) = (some (Il x1))) ∧ isPt (C.ptr m.nxt 0) ∧ 
 ∃ x2, ((ldC m0 (C.ptr m.nxt 0)) = (some (Il x2))) ∧ fitsP .i64 (x1 - x2) ∧ 
 fitsP .i64 ((x1 - x2) + (1 : Int)) ∧ Q (V.c (Il ((x1 - x2) + (1 : Int)))) m0)) : Wc prog tbl 110 [(V.agg 2 [(Il a100), (Il a101)])] m Q :=
 wc_eq (n := 1) rfl (by kernel_rfl) (by kernel_rfl) h
theorem w113 {a100 : C} {m : M} {Q : V → M → Prop} (h :
 (isSl a100 ∧ ifB (decide ((((slLen a100) : Nat) : Int) = (0 : Int))) (Q (V.c (Il 0)) m) (∃ n0 : Nat, 
 ((0 : Int) = ((n0 : Nat) : Int)) ∧ (n0 < (slLen a100)) ∧ ∃ x1, ((ldC m (slAt a100 (n0 * 1))) = (some (Il x1))) ∧ 
 isSl a100 ∧ ∀ R2 : List V → M → Prop, (∀ x3 : Int, ∀ x4 : Int, ∀ m5 : M, (ifB (decide (x4 < (((slLen a100) : Nat) : Int))) (∃ n6 : Nat, 
 (x4 = ((n6 : Nat) : Int)) ∧ (n6 < (slLen a100)) ∧ ∃ x7, ((ldC m5 (slAt a100 (n6 * 1))) = (some (Il x7))) ∧ 
 ifB (decide (x7 < x3)) (fitsP .i64 (x4 + 1) ∧ R2 [(V.c (Il x7)), 
 (V.c (Il (x4 + 1)))] m5) (fitsP .i64 (x4 + 1) ∧ 
 R2 [(V.c (Il x3)), (V.c (Il (x4 + 1)))] m5)) (Q (V.c (Il x3)) m5)) → 
 R2 [(V.c (Il x3)), (V.c (Il x4))] m5) → R2 [(V.c (Il x1)), 
 (V.c (Il 0))] m))) : Wc prog tbl 113 [(V.c a100)] m Q :=
 wc_eq (n := 1) rfl (by kernel_rfl) (by kernel_rfl) h
theorem w116 {a100 : Int} {a101 : C} {a102 : C} {a103 : C} {a200 : Int} {a201 : Int} {a202 : Int} {a203 : Int} {m : M} {Q : V → M → Prop} (h :
 (∀ m0 : M, (m0 = (M.new m (AO.cells 4 [(Il a100), a101, a102, a103] false))) → ∀ m1 : M, (m1 = (M.new m0 (AO.cells 4 [(Il a200), 
 (Il a201), (Il a202), (Il a203)] false))) → ∀ m2 : M, 
 (m2 = (M.new m1 (AO.cells 13 [(Il 0), (Il 0), (Il 0), 
 (Il 0), (Il 0), (Il 0), (Il 0), 
 (Il 0), (Il 0), (Il 0), (Il 0), 
 (Il 0), (Il 0)] false))) → ∀ m3 : M, (m3 = (M.new m2 (AO.cells 13 [(Il 0), 
 (Il 0), (Il 0), (Il 0), (Il 0), 
 (Il 0), (Il 0), (Il 0), (Il 0), 
 (Il 0), (Il 0), (Il 0), (Il 0)] false))) → 
 ∀ R4 : List V → M → Prop, (∀ x5 : Int, ∀ x6 : Int, ∀ x7 : Int, ∀ m8 : M, (ifB (decide (x7 < 13)) (isPt (C.ptr m0.nxt 0) ∧ 
 isPt (C.ptr m0.nxt 0) ∧ ∃ x9, ((ldC m8 (C.ptr m0.nxt 0)) = (some (Il x9))) ∧ 
 ifB (decide (x7 = x9)) (isPt (C.ptr m0.nxt 0) ∧ isPt (C.ptr m0.nxt 0) ∧ ∃ x10, 
 ((ldC m8 (C.ptr m0.nxt 1)) = (some (Il x10))) ∧ isPt (C.ptr m2.nxt 0) ∧ 
 ∃ n11 : Nat, (x7 = ((n11 : Nat) : Int)) ∧ (n11 < 13) ∧ ∃ m12 : M, ((stC m8 (C.ptr m2.nxt (0 + (n11 * 1))) 1 [(Il x10)]) = (some m12)) ∧ 
 fitsP .i64 (x7 + 1) ∧ R4 [(V.c (Il x10)), (V.c (Il x10)), 
 (V.c (Il (x7 + 1)))] m12) (isPt (C.ptr m.nxt 0) ∧ 
 ∃ x13, ((ldC m8 (C.ptr m.nxt 0)) = (some (Il x13))) ∧ 
 ifB (decide (x7 ≤ x13)) (isPt (C.ptr m.nxt 0) ∧ ∃ c14 : C, ((ldC m8 (C.ptr m.nxt 1)) = (some c14)) ∧ 
 isPt (C.ptr m0.nxt 0) ∧ ∃ x15, ((ldC m8 (C.ptr m0.nxt 3)) = (some (Il x15))) ∧ 
 ∃ n16 : Nat, (x15 = ((n16 : Nat) : Int)) ∧ (n16 < (slLen c14)) ∧ ∃ c17 : C, 
 ((ldC m8 (slAt c14 (n16 * 1))) = (some c17)) ∧ ∃ n18 : Nat, (x7 = ((n18 : Nat) : Int)) ∧ 
 (n18 < (slLen c17)) ∧ ∃ x19, ((ldC m8 (slAt c17 (n18 * 1))) = (some (Il x19))) ∧ 
 ((0 : Int) ≤ x5) ∧ ((0 : Int) ≤ x19) ∧ fitsP .i64 (x5 * x19) ∧ ((0 : Int) ≤ (x5 * x19)) ∧ 
 ((0 : Int) < (100 : Int)) ∧ fitsP .i64 ((x5 * x19) / (100 : Int)) ∧ 
 fitsP .i64 (x5 - ((x5 * x19) / (100 : Int))) ∧ isPt (C.ptr m2.nxt 0) ∧ 
 ∃ n20 : Nat, (x7 = ((n20 : Nat) : Int)) ∧ (n20 < 13) ∧ ∃ m21 : M, ((stC m8 (C.ptr m2.nxt (0 + (n20 * 1))) 1 [(Il (x5 - ((x5 * x19) / (100 : Int))))]) = (some m21)) ∧ 
 fitsP .i64 (x7 + 1) ∧ R4 [(V.c (Il (x5 - ((x5 * x19) / (100 : Int))))), 
 (V.c (Il (x5 - ((x5 * x19) / (100 : Int))))), (V.c (Il (x7 + 1)))] m21) (isPt (C.ptr m2.nxt 0) ∧ 
 ∃ n22 : Nat, (x7 = ((n22 : Nat) : Int)) ∧ (n22 < 13) ∧ ∃ m23 : M, ((stC m8 (C.ptr m2.nxt (0 + (n22 * 1))) 1 [(Il x5)]) = (some m23)) ∧ 
 fitsP .i64 (x7 + 1) ∧ R4 [(V.c (Il x5)), (V.c (Il x5)), 
 (V.c (Il (x7 + 1)))] m23))) (∃ x24, 
 ∃ x25, ∃ x26, ∃ x27, ∃ x28, ∃ x29, ∃ x30, ∃ x31, 
 ∃ x32, ∃ x33, ∃ x34, ∃ x35, ∃ x36, ((ldA m8 (C.ptr m2.nxt 0) 13) = (some [(Il x24), 
 (Il x25), (Il x26), (Il x27), (Il x28), 
 (Il x29), (Il x30), (Il x31), (Il x32), 
 (Il x33), (Il x34), (Il x35), (Il x36)])) ∧ 
 ∃ m37 : M, ((stC m8 (C.ptr m1.nxt 0) 13 [(Il x24), (Il x25), 
 (Il x26), (Il x27), (Il x28), (Il x29), 
 (Il x30), (Il x31), (Il x32), (Il x33), 
 (Il x34), (Il x35), (Il x36)]) = (some m37)) ∧ 
 ∃ x38, ∃ x39, ∃ x40, ∃ x41, ∃ x42, ∃ x43, 
 ∃ x44, ∃ x45, ∃ x46, ∃ x47, ∃ x48, ∃ x49, 
 ∃ x50, ((ldA m37 (C.ptr m1.nxt 0) 13) = (some [(Il x38), 
 (Il x39), (Il x40), (Il x41), (Il x42), 
 (Il x43), (Il x44), (Il x45), (Il x46), 
 (Il x47), (Il x48), (Il x49), (Il x50)])) ∧ 
 Q (V.agg 13 [(Il x38), (Il x39), (Il x40), 
 (Il x41), (Il x42), (Il x43), (Il x44), 
 (Il x45), (Il x46), (Il x47), (Il x48), 
 (Il x49), (Il x50)]) m37)) → 
 R4 [(V.c (Il x5)), (V.c (Il x6)), (V.c (Il x7))] m8) → 
 R4 [(V.c (Il 0)), (V.c (Il 0)), (V.c (Il 0))] m3)) : Wc prog tbl 116 [(V.agg 4 [(Il a100), a101, a102, a103]), (V.agg 4 [(Il a200), (Il a201), (Il a202), (Il a203)])] m Q :=
 wc_eq (n := 2) rfl (by kernel_rfl) (by kernel_rfl) h
theorem w125 {a100 : Int} {a101 : Int} {a102 : Int} {a103 : Int} {a104 : Int} {a105 : Int} {a106 : Int} {a200 : Int} {a300 : Int} {m : M} {Q : V → M → Prop} (h :
 (∀ m0 : M, (m0 = (M.new m (AO.cells 7 [(Il a100), (Il a101), (Il a102), 
 (Il a103), (Il a104), (Il a105), (Il a106)] false))) → 
 ∀ m1 : M, (m1 = (M.new m0 (AO.cells 4 [(Il 0), (Il 0), (Il 0), 
 (Il 0)] false))) → isPt (C.ptr m.nxt 0) ∧ ∃ x2, ((ldC m1 (C.ptr m.nxt 0)) = (some (Il x2))) ∧ 
 ∃ m3 : M, ((stC m1 (C.ptr m0.nxt 0) 4 [(Il a200), (Il a300), (Il 0), 
 (Il x2)]) = (some m3)) ∧ ∃ x4, ∃ x5, ∃ x6, ∃ x7, 
 ((ldA m3 (C.ptr m0.nxt 0) 4) = (some [(Il x4), (Il x5), 
 (Il x6), (Il x7)])) ∧ Q (V.agg 4 [(Il x4), (Il x5), 
 (Il x6), (Il x7)]) m3)) : Wc prog tbl 125 [(V.agg 7 [(Il a100), (Il a101), (Il a102), (Il a103), (Il a104), (Il a105), (Il a106)]), (V.c (Il a200)), (V.c (Il a300))] m Q :=
 wc_eq (n := 3) rfl (by kernel_rfl) (by kernel_rfl) h
theorem w128 {a100 : C} {m : M} {Q : V → M → Prop} (h :
 (okN (TK.sl 3) a100 ∧ okN (TK.sl 3) a100 ∧ okN (TK.sl 3) C.sl0 ∧ (((isNilC a100) || true) = true) ∧ ifB ((isNilC a100) && true) (Q (V.c C.sl0) m) (∀ m0 : M, 
 (m0 = (M.new m (AO.cells 0 [] false))) → ∃ c1 : C, ∃ m2 : M, (ApR prog 75 m0 (C.sl m.nxt 0 0 0 (some 0)) a100 c1 m2) ∧ 
 Q (V.c c1) m2))) : Wc prog tbl 128 [(V.c a100)] m Q :=
 wc_eq (n := 1) rfl (by kernel_rfl) (by kernel_rfl) h
theorem w132 {a100 : C} {a200 : C} {m : M} {Q : V → M → Prop} (h :
 (∀ m0 : M, (m0 = (M.new m (AO.cells 1 [a200] false))) → Wc prog tbl 143 [(V.c a100), (V.c (C.fn (Fn.func 144) [] [(W.c (C0.ptr m.nxt 0))]))] m0 (fun v1 m2 => 
 ∃ b3 : Bool, (v1 = (V.c (C.bool b3))) ∧ Q (V.c (C.bool (!b3))) m2))) : Wc prog tbl 132 [(V.c a100), (V.c a200)] m Q :=
 wc_eq (n := 2) rfl (by kernel_rfl) (by kernel_rfl) h
theorem w136 {a100 : C} {a200 : C} {m : M} {Q : V → M → Prop} (h :
 (isSl a100 ∧ ∀ R0 : List V → M → Prop, (∀ x1 : Int, ∀ x2 : Int, ∀ m3 : M, (ifB (decide (x2 < (((slLen a100) : Nat) : Int))) (∃ n4 : Nat, 
 (x2 = ((n4 : Nat) : Int)) ∧ (n4 < (slLen a100)) ∧ ∃ x5, ∃ x6, ∃ x7, ∃ x8, 
 ∃ x9, ∃ x10, ∃ x11, ((ldA m3 (slAt a100 (n4 * 7)) 7) = (some [(Il x5), 
 (Il x6), (Il x7), (Il x8), (Il x9), 
 (Il x10), (Il x11)])) ∧ callP prog tbl [(V.agg 7 [(Il x5), 
 (Il x6), (Il x7), (Il x8), (Il x9), 
 (Il x10), (Il x11)])] a200 m3 (fun v12 m13 => ∃ b14 : Bool, 
 (v12 = (V.c (C.bool b14))) ∧ ifB b14 (Q (V.c (Il x2)) m13) (fitsP .i64 (x2 + 1) ∧ 
 R0 [(V.c (Il x1)), (V.c (Il (x2 + 1)))] m13))) (Q (V.c (Il (-1 : Int))) m3)) → 
 R0 [(V.c (Il x1)), (V.c (Il x2))] m3) → R0 [(V.c (Il 0)), 
 (V.c (Il 0))] m)) : Wc prog tbl 136 [(V.c a100), (V.c a200)] m Q :=
 wc_eq (n := 2) rfl (by kernel_rfl) (by kernel_rfl) h
theorem w143 {a100 : C} {a200 : C} {m : M} {Q : V → M → Prop} (h :
 (Wc prog tbl 146 [(V.c a100), (V.c a200)] m (fun v0 m1 => ∃ x2, (v0 = (V.c (Il x2))) ∧ Q (V.c (C.bool (decide ((0 : Int) ≤ x2)))) m1))) : Wc prog tbl 143 [(V.c a100), (V.c a200)] m Q :=
 wc_eq (n := 2) rfl (by kernel_rfl) (by kernel_rfl) h
end
end Go.Proofs.YtmlaphekbnanjaaGreat

namespace Go.Proofs.YtmlaphekbnanjaaGreat
open _root_.Go.Proofs.Tryz
open Go.Abs
set_option maxRecDepth 100000
noncomputable section
theorem w139 (y : C) (b b2 : Nat) {m : M} {Q : V → M → Prop} (h :
 (∀ m0 : M, (m0 = (M.new m (AO.cells 1 [y] false))) → ∃ x1, ((ldC m0 (C.ptr b 0)) = (some (Il x1))) ∧ 
 ∃ n2 : Nat, ∃ n3 : Nat, (x1 = ((n2 : Nat) : Int)) ∧ (x1 = ((n3 : Nat) : Int)) ∧ (n2 ≤ n3) ∧ (n3 ≤ 4096) ∧ 
 ∀ m4 : M, (m4 = (M.new m0 (AO.cells (n3 * 1) (repeatS [(Il 0)] n3) false))) → 
 ∀ m5 : M, (m5 = (M.new m4 (AO.cells 1 [C.sl0] false))) → ∃ m6 : M, ((stC m5 (C.ptr m4.nxt 0) 1 [(C.sl m0.nxt 0 n2 0 (some n3))]) = (some m6)) ∧ 
 ∀ m7 : M, (m7 = (M.new m6 (AO.cells 1 [C.nilFn] false))) → ∃ m8 : M, ((stC m7 (C.ptr m6.nxt 0) 1 [(C.fn (Fn.func 140) [] [(W.c (C0.ptr b 0)), 
 (W.c (C0.ptr m.nxt 0)), (W.c (C0.ptr m4.nxt 0)), (W.c (C0.ptr b2 0)), (W.c (C0.ptr m6.nxt 0))])]) = (some m8)) ∧ 
 ∃ c9 : C, ((ldC m8 (C.ptr m6.nxt 0)) = (some c9)) ∧ callP prog tbl [(V.c (Il 0)), 
 (V.c (Il 0))] c9 m8 (fun v10 m11 => ∃ b12 : Bool, (v10 = (V.c (C.bool b12))) ∧ 
 Q (V.tup []) m11))) : Wc prog tbl 139 [.c y, .c (.ptr b 0), .c (.ptr b2 0)] m Q :=
 wc_eq (n := 3) rfl (by kernel_rfl) (by kernel_rfl) h
theorem w140 (at' from' : Int) (b k h2 b2 cv : Nat) {m : M} {Q : V → M → Prop} (h :
 (∃ x0, ((ldC m (C.ptr b 0)) = (some (Il x0))) ∧ ifB (decide (at' = x0)) (∃ c1 : C, 
 ((ldC m (C.ptr k 0)) = (some c1)) ∧ ∃ c2 : C, ((ldC m (C.ptr h2 0)) = (some c2)) ∧ callP prog tbl [(V.c c2)] c1 m (fun v3 m4 => 
 ∃ b5 : Bool, (v3 = (V.c (C.bool b5))) ∧ Q (V.c (C.bool b5)) m4)) (∀ R6 : List V → M → Prop, 
 (∀ b7 : Bool, ∀ x8 : Int, ∀ m9 : M, (∃ x10, ((ldC m9 (C.ptr b2 0)) = (some (Il x10))) ∧ 
 ifB (decide (x8 < x10)) (∃ c11 : C, ((ldC m9 (C.ptr h2 0)) = (some c11)) ∧ ∃ n12 : Nat, 
 (at' = ((n12 : Nat) : Int)) ∧ (n12 < (slLen c11)) ∧ ∃ m13 : M, ((stC m9 (slAt c11 (n12 * 1)) 1 [(Il x8)]) = (some m13)) ∧ 
 ∃ c14 : C, ((ldC m13 (C.ptr cv 0)) = (some c14)) ∧ fitsP .i64 (at' + (1 : Int)) ∧ 
 fitsP .i64 (x8 + 1) ∧ callP prog tbl [(V.c (Il (at' + (1 : Int)))), 
 (V.c (Il (x8 + 1)))] c14 m13 (fun v15 m16 => ∃ b17 : Bool, 
 (v15 = (V.c (C.bool b17))) ∧ ifB (!b17) (Q (V.c (C.bool false)) m16) (fitsP .i64 (x8 + 1) ∧ 
 R6 [(V.c (C.bool b7)), (V.c (Il (x8 + 1)))] m16))) (Q (V.c (C.bool true)) m9)) → 
 R6 [(V.c (C.bool b7)), (V.c (Il x8))] m9) → R6 [(V.c (C.bool false)), (V.c (Il from'))] m))) : Wc prog tbl 140 [.c (Il at'), .c (Il from'), .c (.ptr b 0), .c (.ptr k 0), .c (.ptr h2 0), .c (.ptr b2 0), .c (.ptr cv 0)] m Q :=
 wc_eq (n := 7) rfl (by kernel_rfl) (by kernel_rfl) h
end
end Go.Proofs.YtmlaphekbnanjaaGreat

