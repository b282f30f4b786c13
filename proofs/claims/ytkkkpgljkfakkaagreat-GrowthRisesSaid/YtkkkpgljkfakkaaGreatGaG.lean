/- An evaluator of the code of a program, its soundness, what calls ask, memory, and what functions of the program do. Condition: none; a lemma text of this claim. -/
import Derived.Test.YtkkkpgljkfakkaaGreatGaF

namespace Go.Proofs.YtkkkpgljkfakkaaGreat
theorem obs {α β : Type} {a : α} {f : α → Option β} : (some a).bind f = f a := rfl
theorem gdi {α : Type} {p A : Prop} {o : Option α} {r : α} (hp : Go.Abs.gd p o = some r) (h : p → o = some r → A) : p ∧ A := have ⟨a, b⟩ := Go.Abs.gd_some hp; ⟨a, h a b⟩
end Go.Proofs.YtkkkpgljkfakkaaGreat

namespace Go.Proofs.YtkkkpgljkfakkaaGreat
open _root_.Go.Proofs.Tryz
open Go.Abs
set_option maxRecDepth 100000
noncomputable section
structure Rg where
 Lo : Int
 Hi : Int
def ok_Rg (a : Rg) : Prop := (fitsP .i64 a.Lo) ∧ (fitsP .i64 a.Hi)
instance : MK Rg := ⟨fun k => .agg 2 [.int .i64 k.Lo, .int .i64 k.Hi], fun k => fitsP .i64 k.Lo ∧ fitsP .i64 k.Hi ∧ True⟩
instance : MV Rg := ⟨fun k => .agg 2 [.int .i64 k.Lo, .int .i64 k.Hi]⟩
instance : Rp Rg := ⟨2, by omega, fun _ cs a => cs = [.int .i64 a.Lo, .int .i64 a.Hi], fun h => by rw [h]; rfl, fun h _ => h⟩
structure Fld where
 Crop : Int
 Week : Rg
 Damage : Rg
 Old : Rg
def ok_Fld (a : Fld) : Prop := (fitsP .i64 a.Crop) ∧ (ok_Rg a.Week) ∧ (ok_Rg a.Damage) ∧ (ok_Rg a.Old)
instance : MK Fld := ⟨fun k => .agg 7 [.int .i64 k.Crop, .int .i64 k.Week.Lo, .int .i64 k.Week.Hi, .int .i64 k.Damage.Lo, .int .i64 k.Damage.Hi, .int .i64 k.Old.Lo, .int .i64 k.Old.Hi], fun k => fitsP .i64 k.Crop ∧ fitsP .i64 k.Week.Lo ∧ fitsP .i64 k.Week.Hi ∧ fitsP .i64 k.Damage.Lo ∧ fitsP .i64 k.Damage.Hi ∧ fitsP .i64 k.Old.Lo ∧ fitsP .i64 k.Old.Hi ∧ True⟩
instance : MV Fld := ⟨fun k => .agg 7 [.int .i64 k.Crop, .int .i64 k.Week.Lo, .int .i64 k.Week.Hi, .int .i64 k.Damage.Lo, .int .i64 k.Damage.Hi, .int .i64 k.Old.Lo, .int .i64 k.Old.Hi]⟩
instance : Rp Fld := ⟨7, by omega, fun _ cs a => cs = [.int .i64 a.Crop, .int .i64 a.Week.Lo, .int .i64 a.Week.Hi, .int .i64 a.Damage.Lo, .int .i64 a.Damage.Hi, .int .i64 a.Old.Lo, .int .i64 a.Old.Hi], fun h => by rw [h]; rfl, fun h _ => h⟩
theorem rd_Fld {f : M} {x : C} {l : List Fld} (h : Sl f x l) {n : Nat} {a : Fld} (hi : l[n]? = some a) : ∃ _u : Unit, (∀ m, Sub f m → ldA m (slAt x (n * 7)) 7 = some [.int .i64 a.Crop, .int .i64 a.Week.Lo, .int .i64 a.Week.Hi, .int .i64 a.Damage.Lo, .int .i64 a.Damage.Hi, .int .i64 a.Old.Lo, .int .i64 a.Old.Hi] ∧ (∀ j c, ([.int .i64 a.Crop, .int .i64 a.Week.Lo, .int .i64 a.Week.Hi, .int .i64 a.Damage.Lo, .int .i64 a.Damage.Hi, .int .i64 a.Old.Lo, .int .i64 a.Old.Hi] : List C)[j]? = some c → ldC m (ptAdd (slAt x (n * 7)) j) = some c) ∧ ∀ j i, 0 < i → j + i ≤ 7 → ldA m (ptAdd (slAt x (n * 7)) j) i = some ((([.int .i64 a.Crop, .int .i64 a.Week.Lo, .int .i64 a.Week.Hi, .int .i64 a.Damage.Lo, .int .i64 a.Damage.Hi, .int .i64 a.Old.Lo, .int .i64 a.Old.Hi] : List C).drop j).take i)) := by
 obtain ⟨cs, q1, q2⟩ := h.rdP hi
 have q2 : cs = _ := q2
 subst q2
 exact ⟨(), q1⟩
structure Vis where
 Field : Int
 Week : Int
 Seen : Rg
def ok_Vis (a : Vis) : Prop := (fitsP .i64 a.Field) ∧ (fitsP .i64 a.Week) ∧ (ok_Rg a.Seen)
instance : MK Vis := ⟨fun k => .agg 4 [.int .i64 k.Field, .int .i64 k.Week, .int .i64 k.Seen.Lo, .int .i64 k.Seen.Hi], fun k => fitsP .i64 k.Field ∧ fitsP .i64 k.Week ∧ fitsP .i64 k.Seen.Lo ∧ fitsP .i64 k.Seen.Hi ∧ True⟩
instance : MV Vis := ⟨fun k => .agg 4 [.int .i64 k.Field, .int .i64 k.Week, .int .i64 k.Seen.Lo, .int .i64 k.Seen.Hi]⟩
instance : Rp Vis := ⟨4, by omega, fun _ cs a => cs = [.int .i64 a.Field, .int .i64 a.Week, .int .i64 a.Seen.Lo, .int .i64 a.Seen.Hi], fun h => by rw [h]; rfl, fun h _ => h⟩
theorem rd_Vis {f : M} {x : C} {l : List Vis} (h : Sl f x l) {n : Nat} {a : Vis} (hi : l[n]? = some a) : ∃ _u : Unit, (∀ m, Sub f m → ldA m (slAt x (n * 4)) 4 = some [.int .i64 a.Field, .int .i64 a.Week, .int .i64 a.Seen.Lo, .int .i64 a.Seen.Hi] ∧ (∀ j c, ([.int .i64 a.Field, .int .i64 a.Week, .int .i64 a.Seen.Lo, .int .i64 a.Seen.Hi] : List C)[j]? = some c → ldC m (ptAdd (slAt x (n * 4)) j) = some c) ∧ ∀ j i, 0 < i → j + i ≤ 4 → ldA m (ptAdd (slAt x (n * 4)) j) i = some ((([.int .i64 a.Field, .int .i64 a.Week, .int .i64 a.Seen.Lo, .int .i64 a.Seen.Hi] : List C).drop j).take i)) := by
 obtain ⟨cs, q1, q2⟩ := h.rdP hi
 have q2 : cs = _ := q2
 subst q2
 exact ⟨(), q1⟩
structure Ssn where
 Last : Int
 Rules : List (List Int)
 Fields : List Fld
 Visits : List Vis
def ok_Ssn (a : Ssn) : Prop := (fitsP .i64 a.Last) ∧ (a.Rules.length ≤ maxLen ∧ ∀ a0 ∈ a.Rules, a0.length ≤ maxLen ∧ ∀ a1 ∈ a0, fitsP .i64 a1) ∧ (a.Fields.length ≤ maxLen ∧ ∀ a0 ∈ a.Fields, ok_Fld a0) ∧ (a.Visits.length ≤ maxLen ∧ ∀ a0 ∈ a.Visits, ok_Vis a0)
instance : Rp Ssn := ⟨4, by omega, fun f cs a => ∃ c1 c2 c3 : C, cs = [.int .i64 a.Last, c1, c2, c3] ∧ Sl f c1 a.Rules ∧ Sl f c2 a.Fields ∧ Sl f c3 a.Visits, fun h => by obtain ⟨c1, c2, c3, h, _, _, _⟩ := h; rw [h]; rfl, fun h s => by obtain ⟨c1, c2, c3, h, h0, h1, h2⟩ := h; exact ⟨c1, c2, c3, h, h0.subv s, h1.subv s, h2.subv s⟩⟩
structure Trh where
 Week : Int
 Damage : Int
 Old : Int
instance : MK Trh := ⟨fun k => .agg 3 [.int .i64 k.Week, .int .i64 k.Damage, .int .i64 k.Old], fun k => fitsP .i64 k.Week ∧ fitsP .i64 k.Damage ∧ fitsP .i64 k.Old ∧ True⟩
instance : MV Trh := ⟨fun k => .agg 3 [.int .i64 k.Week, .int .i64 k.Damage, .int .i64 k.Old]⟩
instance : Rp Trh := ⟨3, by omega, fun _ cs a => cs = [.int .i64 a.Week, .int .i64 a.Damage, .int .i64 a.Old], fun h => by rw [h]; rfl, fun h _ => h⟩
structure Dm where
 d0 : Int
 d1 : Int
 d2 : Int
 d3 : Int
 d4 : Int
 d5 : Int
 d6 : Int
 d7 : Int
 d8 : Int
 d9 : Int
 d10 : Int
 d11 : Int
 d12 : Int
instance : MK Dm := ⟨fun k => .agg 13 [.int .i64 k.d0, .int .i64 k.d1, .int .i64 k.d2, .int .i64 k.d3, .int .i64 k.d4, .int .i64 k.d5, .int .i64 k.d6, .int .i64 k.d7, .int .i64 k.d8, .int .i64 k.d9, .int .i64 k.d10, .int .i64 k.d11, .int .i64 k.d12], fun k => fitsP .i64 k.d0 ∧ fitsP .i64 k.d1 ∧ fitsP .i64 k.d2 ∧ fitsP .i64 k.d3 ∧ fitsP .i64 k.d4 ∧ fitsP .i64 k.d5 ∧ fitsP .i64 k.d6 ∧ fitsP .i64 k.d7 ∧ fitsP .i64 k.d8 ∧ fitsP .i64 k.d9 ∧ fitsP .i64 k.d10 ∧ fitsP .i64 k.d11 ∧ fitsP .i64 k.d12 ∧ True⟩
instance : MV Dm := ⟨fun k => .agg 13 [.int .i64 k.d0, .int .i64 k.d1, .int .i64 k.d2, .int .i64 k.d3, .int .i64 k.d4, .int .i64 k.d5, .int .i64 k.d6, .int .i64 k.d7, .int .i64 k.d8, .int .i64 k.d9, .int .i64 k.d10, .int .i64 k.d11, .int .i64 k.d12]⟩
instance : Rp Dm := ⟨13, by omega, fun _ cs a => cs = [.int .i64 a.d0, .int .i64 a.d1, .int .i64 a.d2, .int .i64 a.d3, .int .i64 a.d4, .int .i64 a.d5, .int .i64 a.d6, .int .i64 a.d7, .int .i64 a.d8, .int .i64 a.d9, .int .i64 a.d10, .int .i64 a.d11, .int .i64 a.d12], fun h => by rw [h]; rfl, fun h _ => h⟩
structure Plt where
 t : Trh
 crop : Int
instance : MK Plt := ⟨fun k => .agg 4 [.int .i64 k.t.Week, .int .i64 k.t.Damage, .int .i64 k.t.Old, .int .i64 k.crop], fun k => fitsP .i64 k.t.Week ∧ fitsP .i64 k.t.Damage ∧ fitsP .i64 k.t.Old ∧ fitsP .i64 k.crop ∧ True⟩
instance : MV Plt := ⟨fun k => .agg 4 [.int .i64 k.t.Week, .int .i64 k.t.Damage, .int .i64 k.t.Old, .int .i64 k.crop]⟩
instance : Rp Plt := ⟨4, by omega, fun _ cs a => cs = [.int .i64 a.t.Week, .int .i64 a.t.Damage, .int .i64 a.t.Old, .int .i64 a.crop], fun h => by rw [h]; rfl, fun h _ => h⟩
structure Crs where
 t : Trh
 d : Dm
instance : MK Crs := ⟨fun k => .agg 16 [.int .i64 k.t.Week, .int .i64 k.t.Damage, .int .i64 k.t.Old, .int .i64 k.d.d0, .int .i64 k.d.d1, .int .i64 k.d.d2, .int .i64 k.d.d3, .int .i64 k.d.d4, .int .i64 k.d.d5, .int .i64 k.d.d6, .int .i64 k.d.d7, .int .i64 k.d.d8, .int .i64 k.d.d9, .int .i64 k.d.d10, .int .i64 k.d.d11, .int .i64 k.d.d12], fun k => fitsP .i64 k.t.Week ∧ fitsP .i64 k.t.Damage ∧ fitsP .i64 k.t.Old ∧ fitsP .i64 k.d.d0 ∧ fitsP .i64 k.d.d1 ∧ fitsP .i64 k.d.d2 ∧ fitsP .i64 k.d.d3 ∧ fitsP .i64 k.d.d4 ∧ fitsP .i64 k.d.d5 ∧ fitsP .i64 k.d.d6 ∧ fitsP .i64 k.d.d7 ∧ fitsP .i64 k.d.d8 ∧ fitsP .i64 k.d.d9 ∧ fitsP .i64 k.d.d10 ∧ fitsP .i64 k.d.d11 ∧ fitsP .i64 k.d.d12 ∧ True⟩
instance : MV Crs := ⟨fun k => .agg 16 [.int .i64 k.t.Week, .int .i64 k.t.Damage, .int .i64 k.t.Old, .int .i64 k.d.d0, .int .i64 k.d.d1, .int .i64 k.d.d2, .int .i64 k.d.d3, .int .i64 k.d.d4, .int .i64 k.d.d5, .int .i64 k.d.d6, .int .i64 k.d.d7, .int .i64 k.d.d8, .int .i64 k.d.d9, .int .i64 k.d.d10, .int .i64 k.d.d11, .int .i64 k.d.d12]⟩
instance : Rp Crs := ⟨16, by omega, fun _ cs a => cs = [.int .i64 a.t.Week, .int .i64 a.t.Damage, .int .i64 a.t.Old, .int .i64 a.d.d0, .int .i64 a.d.d1, .int .i64 a.d.d2, .int .i64 a.d.d3, .int .i64 a.d.d4, .int .i64 a.d.d5, .int .i64 a.d.d6, .int .i64 a.d.d7, .int .i64 a.d.d8, .int .i64 a.d.d9, .int .i64 a.d.d10, .int .i64 a.d.d11, .int .i64 a.d.d12], fun h => by rw [h]; rfl, fun h _ => h⟩
def pawake : Option Bool := some true
def prIn (n : Int) (low : Int) (high : Int) : Option (Bool) := (if low ≤ n then (some (decide (n ≤ high))) else (some false))
def prWithin (r : Rg) (low : Int) (high : Int) : Option (Bool) := (if low ≤ r.Lo then (if r.Lo ≤ r.Hi then (some (decide (r.Hi ≤ high))) else (some false)) else (some false))
def prCount (r : Rg) : Option (Int) := (gd (fitsP .i64 (r.Hi - r.Lo)) (gd (fitsP .i64 ((r.Hi - r.Lo) + (1 : Int))) (some ((r.Hi - r.Lo) + (1 : Int)))))
def prIsRule_L0 (s : Ssn) (l : List Int) : Nat → Int → Option (Bool)
 | 0, _ => none
 | d324 + 1, x3 => (if x3 < (l.length : Int) then ((idx l x3).bind fun x326 => ((prIn x326 (0 : Int) (100 : Int)).bind fun r328 => (if r328 = true then (gd (fitsP .i64 (x3 + 1)) (prIsRule_L0 s l d324 (x3 + 1))) else (some false)))) else (gd (fitsP .i64 (s.Last + (1 : Int))) (some (decide ((l.length : Int) = (s.Last + (1 : Int)))))))
def prIsRule (s : Ssn) (l : List Int) : Option (Bool) := (prIsRule_L0 s l (l.length + 1) (0 : Int))
def prMany (fl : Fld) : Option (Int) := ((prCount fl.Week).bind fun r342 => ((prCount fl.Damage).bind fun r348 => (gd ((0 : Int) ≤ r342) (gd ((0 : Int) ≤ r348) (gd (fitsP .i64 (r342 * r348)) ((prCount fl.Old).bind fun r357 => (gd ((0 : Int) ≤ (r342 * r348)) (gd ((0 : Int) ≤ r357) (gd (fitsP .i64 ((r342 * r348) * r357)) (some ((r342 * r348) * r357)))))))))))
def prFault_L3 (s : Ssn) : Nat → Int → Option (Int)
 | 0, _ => none
 | d495 + 1, x90 => (if x90 < (s.Fields.length : Int) then ((idx s.Fields x90).bind fun v497 => ((prMany v497).bind fun r500 => (if (3000 : Int) < r500 then (some (3 : Int)) else (gd (fitsP .i64 (x90 + 1)) (prFault_L3 s d495 (x90 + 1)))))) else (some (0 : Int)))
def prFault_L2 (s : Ssn) : Nat → Int → Int → Option (Int)
 | 0, _, _ => none
 | d450 + 1, x61, x62 => (if x62 < (s.Visits.length : Int) then ((idx s.Visits x62).bind fun v452 => (gd (fitsP .i64 ((s.Fields.length : Int) - (1 : Int))) ((prIn v452.Field (0 : Int) ((s.Fields.length : Int) - (1 : Int))).bind fun r468 => (if r468 = true then ((prIn v452.Week (0 : Int) s.Last).bind fun r476 => (if r476 = true then ((prWithin v452.Seen (0 : Int) (100 : Int)).bind fun r484 => (if r484 = true then (gd (fitsP .i64 (x62 + 1)) (prFault_L2 s d450 x61 (x62 + 1))) else (some (1 : Int)))) else (some (1 : Int)))) else (some (1 : Int)))))) else (prFault_L3 s 1000000 (0 : Int)))
def prFault_L1 (s : Ssn) : Nat → Int → Int → Option (Int)
 | 0, _, _ => none
 | d397 + 1, x24, x25 => (if x25 < (s.Fields.length : Int) then ((idx s.Fields x25).bind fun v399 => (gd (fitsP .i64 ((s.Rules.length : Int) - (1 : Int))) ((prIn v399.Crop (0 : Int) ((s.Rules.length : Int) - (1 : Int))).bind fun r415 => (if r415 = true then ((prWithin v399.Week (0 : Int) s.Last).bind fun r423 => (if r423 = true then ((prWithin v399.Damage (0 : Int) (100 : Int)).bind fun r431 => (if r431 = true then ((prWithin v399.Old (0 : Int) (100 : Int)).bind fun r439 => (if r439 = true then (gd (fitsP .i64 (x25 + 1)) (prFault_L1 s d397 x24 (x25 + 1))) else (some (1 : Int)))) else (some (1 : Int)))) else (some (1 : Int)))) else (some (1 : Int)))))) else (prFault_L2 s 1000000 x24 (0 : Int)))
def prFault_L0 (s : Ssn) : Nat → Int → Int → Option (Int)
 | 0, _, _ => none
 | d380 + 1, x9, x10 => (if x10 < (s.Rules.length : Int) then ((idx s.Rules x10).bind fun v382 => ((prIsRule s v382).bind fun r387 => (if r387 = true then (gd (fitsP .i64 (x10 + 1)) (prFault_L0 s d380 x9 (x10 + 1))) else (some (1 : Int))))) else (prFault_L1 s 1000000 x9 (0 : Int)))
def prFault (s : Ssn) : Option (Int) := (if (12 : Int) < s.Last then (some (3 : Int)) else (if (3 : Int) < (s.Rules.length : Int) then (some (3 : Int)) else (if (3 : Int) < (s.Fields.length : Int) then (some (3 : Int)) else (if (6 : Int) < (s.Visits.length : Int) then (some (3 : Int)) else (if s.Last < (0 : Int) then (some (1 : Int)) else (if (s.Rules.length : Int) = (0 : Int) then (some (1 : Int)) else (if (s.Fields.length : Int) = (0 : Int) then (some (1 : Int)) else (prFault_L0 s 1000000 (0 : Int) (0 : Int)))))))))
def prNth (fl : Fld) (n : Int) : Option (Trh) := ((prCount fl.Week).bind fun r526 => (gd ((0 : Int) ≤ n) (gd ((0 : Int) < r526) (gd (fitsP .i64 (n % r526)) (gd (fitsP .i64 (fl.Week.Lo + (n % r526))) ((prCount fl.Week).bind fun r538 => (gd ((0 : Int) ≤ n) (gd ((0 : Int) < r538) (gd (fitsP .i64 (n / r538)) ((prCount fl.Damage).bind fun r556 => (gd ((0 : Int) ≤ (n / r538)) (gd ((0 : Int) < r556) (gd (fitsP .i64 ((n / r538) % r556)) (gd (fitsP .i64 (fl.Damage.Lo + ((n / r538) % r556))) ((prCount fl.Damage).bind fun r568 => (gd ((0 : Int) ≤ (n / r538)) (gd ((0 : Int) < r568) (gd (fitsP .i64 ((n / r538) / r568)) (gd (fitsP .i64 (fl.Old.Lo + ((n / r538) / r568))) (some ({ Week := (fl.Week.Lo + (n % r526)), Damage := (fl.Damage.Lo + ((n / r538) % r556)), Old := (fl.Old.Lo + ((n / r538) / r568)) } : Trh)))))))))))))))))))))
def prDamage_F : Nat → Ssn → Int → Trh → Int → Option (Int)
 | 0, _, _, _, _ => none
 | d_ + 1, s, crop, t, week => (if week < t.Week then (some (0 : Int)) else (if week = t.Week then (some t.Damage) else (gd (fitsP .i64 (week - 1)) ((prDamage_F d_ s crop t (week - 1)).bind fun r615 => ((idx s.Rules crop).bind fun v622 => ((idx v622 week).bind fun x627 => (gd ((0 : Int) ≤ r615) (gd ((0 : Int) ≤ x627) (gd (fitsP .i64 (r615 * x627)) (gd ((0 : Int) ≤ (r615 * x627)) (gd ((0 : Int) < (100 : Int)) (gd (fitsP .i64 ((r615 * x627) / (100 : Int))) (gd (fitsP .i64 (r615 - ((r615 * x627) / (100 : Int)))) (some (r615 - ((r615 * x627) / (100 : Int)))))))))))))))))
def prDamage (s : Ssn) (crop : Int) (t : Trh) (week : Int) : Option (Int) := prDamage_F ((week - t.Week).toNat + 2) s crop t week
def prSeen (s : Ssn) (field : Int) (t : Trh) (week : Int) : Option (Int) := ((idx s.Fields field).bind fun v647 => ((prDamage s v647.Crop t week).bind fun r650 => (gd (fitsP .i64 (t.Old + r650)) (some (min (100 : Int) (t.Old + r650))))))
def plList (l : List Int) : Option (List Int) := (gd (([] : List Int).length + l.length ≤ 1048576) (some ([] ++ l)))
def plTo (r : Rg) : Option (Rg) := (some r)
def plSeason_L2 (s : Ssn) (y712 : List (List Int)) (y773 : List Fld) : Nat → Int → (List Vis) → Int → Option (Ssn)
 | 0, _, _, _ => none
 | d855 + 1, y851, y852, x60 => (if x60 < (s.Visits.length : Int) then ((idx s.Visits x60).bind fun v857 => ((plTo v857.Seen).bind fun r876 => (gd (y852.length < 1048576) (gd (fitsP .i64 (x60 + 1)) (plSeason_L2 s y712 y773 d855 y851 (y852 ++ [({ Field := v857.Field, Week := v857.Week, Seen := r876 } : Vis)]) (x60 + 1)))))) else (some ({ Last := y851, Rules := y712, Fields := y773, Visits := y852 } : Ssn)))
def plSeason_L1 (s : Ssn) (y712 : List (List Int)) : Nat → Int → (List Fld) → (List Vis) → Int → Option (Ssn)
 | 0, _, _, _, _ => none
 | d779 + 1, y772, y773, y776, x21 => (if x21 < (s.Fields.length : Int) then ((idx s.Fields x21).bind fun v781 => ((plTo v781.Week).bind fun r800 => ((plTo v781.Damage).bind fun r809 => ((plTo v781.Old).bind fun r818 => (gd (y773.length < 1048576) (gd (fitsP .i64 (x21 + 1)) (plSeason_L1 s y712 d779 y772 (y773 ++ [({ Crop := v781.Crop, Week := r800, Damage := r809, Old := r818 } : Fld)]) y776 (x21 + 1)))))))) else (plSeason_L2 s y712 y773 1000000 y772 y776 (0 : Int)))
def plSeason_L0 (s : Ssn) : Nat → Int → (List (List Int)) → (List Fld) → (List Vis) → Int → Option (Ssn)
 | 0, _, _, _, _, _ => none
 | d721 + 1, y711, y712, y715, y718, x6 => (if x6 < (s.Rules.length : Int) then ((idx s.Rules x6).bind fun v723 => ((plList v723).bind fun r728 => (gd (y712.length < 1048576) (gd (fitsP .i64 (x6 + 1)) (plSeason_L0 s d721 y711 (y712 ++ [r728]) y715 y718 (x6 + 1)))))) else (plSeason_L1 s y712 1000000 y711 y715 y718 (0 : Int)))
def plSeason (s : Ssn) : Option (Ssn) := (plSeason_L0 s 1000000 s.Last [] [] [] (0 : Int))
def plTruth (t : Trh) : Option (Trh) := (some t)
def plThin_L1 (s : Ssn) (r971 : Int) : Nat → Int → Option (Bool)
 | 0, _ => none
 | d979 + 1, x21 => (if x21 < (s.Fields.length : Int) then (if (!(decide (r971 = 0))) = true then (gd (fitsP .i64 (x21 + 1)) (plThin_L1 s r971 d979 (x21 + 1))) else ((idx s.Fields x21).bind fun v982 => ((prMany v982).bind fun r985 => (if (200 : Int) < r985 then (some false) else (gd (fitsP .i64 (x21 + 1)) (plThin_L1 s r971 d979 (x21 + 1))))))) else (some true))
def plThin_L0 (s : Ssn) : Nat → Bool → Int → Option (Bool)
 | 0, _, _ => none
 | d962 + 1, b5, x6 => (if x6 < (s.Rules.length : Int) then ((idx s.Rules x6).bind fun v964 => (if (20 : Int) < (v964.length : Int) then (some false) else (gd (fitsP .i64 (x6 + 1)) (plThin_L0 s d962 b5 (x6 + 1))))) else ((prFault s).bind fun r971 => (plThin_L1 s r971 1000000 (0 : Int))))
def plThin (s : Ssn) : Option (Bool) := (if (5 : Int) < (s.Rules.length : Int) then (some false) else (if (5 : Int) < (s.Fields.length : Int) then (some false) else (if (9 : Int) < (s.Visits.length : Int) then (some false) else (plThin_L0 s 1000000 false (0 : Int)))))
def plReady (s : Ssn) : Option (Bool) := ((plThin s).bind fun r999 => (if r999 = true then ((prFault s).bind fun r1006 => (some (decide (r1006 = 0)))) else (some false)))
def phas (r : Rg) (n : Int) : Option (Bool) := (if r.Lo ≤ n then (some (decide (n ≤ r.Hi))) else (some false))
def pcount (r : Rg) : Option (Int) := (gd (fitsP .i64 (r.Hi - r.Lo)) (gd (fitsP .i64 ((r.Hi - r.Lo) + (1 : Int))) (some ((r.Hi - r.Lo) + (1 : Int)))))
def pwithin (r : Rg) (low : Int) (high : Int) : Option (Bool) := (if low ≤ r.Lo then (if r.Lo ≤ r.Hi then (some (decide (r.Hi ≤ high))) else (some false)) else (some false))
def pisHundredths (n : Int) : Option (Bool) := ((phas ({ Lo := (0 : Int), Hi := (100 : Int) } : Rg) n).bind fun r1032 => (some r1032))
def phasField (s : Ssn) (n : Int) : Option (Bool) := (gd (fitsP .i64 ((s.Fields.length : Int) - (1 : Int))) ((phas ({ Lo := (0 : Int), Hi := ((s.Fields.length : Int) - (1 : Int)) } : Rg) n).bind fun r1043 => (some r1043)))
def phasWeek (s : Ssn) (n : Int) : Option (Bool) := ((phas ({ Lo := (0 : Int), Hi := s.Last } : Rg) n).bind fun r1054 => (some r1054))
def ptooMany (s : Ssn) : Option (Bool) := (if (12 : Int) < s.Last then (some true) else (if (3 : Int) < (s.Rules.length : Int) then (some true) else (if (3 : Int) < (s.Fields.length : Int) then (some true) else (some (decide ((6 : Int) < (s.Visits.length : Int)))))))
def peachI1 (x : Int) (passes : Int → Option (Bool)) : Option (Bool) := ((passes x).bind fun r1068 => (some (!r1068)))
def pindexI_L0 (l : List Int) (p : Int → Option (Bool)) : Nat → Int → Option (Int)
 | 0, _ => none
 | d1075 + 1, x2 => (if x2 < (l.length : Int) then ((idx l x2).bind fun x1077 => ((p x1077).bind fun r1079 => (if r1079 = true then (some x2) else (gd (fitsP .i64 (x2 + 1)) (pindexI_L0 l p d1075 (x2 + 1)))))) else (some (-1 : Int)))
def pindexI (l : List Int) (p : Int → Option (Bool)) : Option (Int) := (pindexI_L0 l p (l.length + 1) (0 : Int))
def pcontainsI (l : List Int) (p : Int → Option (Bool)) : Option (Bool) := ((pindexI l p).bind fun r1086 => (some (decide ((0 : Int) ≤ r1086))))
def peachI (l : List Int) (passes : Int → Option (Bool)) : Option (Bool) := ((pcontainsI l (fun a1100 => peachI1 a1100 passes)).bind fun r1102 => (some (!r1102)))
def peachL1 (x : List Int) (passes : List Int → Option (Bool)) : Option (Bool) := ((passes x).bind fun r1107 => (some (!r1107)))
def pindexL_L0 (l : List (List Int)) (p : List Int → Option (Bool)) : Nat → Int → Option (Int)
 | 0, _ => none
 | d1114 + 1, x2 => (if x2 < (l.length : Int) then ((idx l x2).bind fun v1116 => ((p v1116).bind fun r1121 => (if r1121 = true then (some x2) else (gd (fitsP .i64 (x2 + 1)) (pindexL_L0 l p d1114 (x2 + 1)))))) else (some (-1 : Int)))
def pindexL (l : List (List Int)) (p : List Int → Option (Bool)) : Option (Int) := (pindexL_L0 l p (l.length + 1) (0 : Int))
def pcontainsL (l : List (List Int)) (p : List Int → Option (Bool)) : Option (Bool) := ((pindexL l p).bind fun r1128 => (some (decide ((0 : Int) ≤ r1128))))
def peachL (l : List (List Int)) (passes : List Int → Option (Bool)) : Option (Bool) := ((pcontainsL l (fun a1142 => peachL1 a1142 passes)).bind fun r1146 => (some (!r1146)))
def peachF1 (x : Fld) (passes : Fld → Option (Bool)) : Option (Bool) := ((passes x).bind fun r1156 => (some (!r1156)))
def pindexF_L0 (l : List Fld) (p : Fld → Option (Bool)) : Nat → Int → Option (Int)
 | 0, _ => none
 | d1164 + 1, x2 => (if x2 < (l.length : Int) then ((idx l x2).bind fun v1166 => ((p v1166).bind fun r1169 => (if r1169 = true then (some x2) else (gd (fitsP .i64 (x2 + 1)) (pindexF_L0 l p d1164 (x2 + 1)))))) else (some (-1 : Int)))
def pindexF (l : List Fld) (p : Fld → Option (Bool)) : Option (Int) := (pindexF_L0 l p (l.length + 1) (0 : Int))
def pcontainsF (l : List Fld) (p : Fld → Option (Bool)) : Option (Bool) := ((pindexF l p).bind fun r1176 => (some (decide ((0 : Int) ≤ r1176))))
def peachF (l : List Fld) (passes : Fld → Option (Bool)) : Option (Bool) := ((pcontainsF l (fun a1190 => peachF1 a1190 passes)).bind fun r1192 => (some (!r1192)))
def peachV1 (x : Vis) (passes : Vis → Option (Bool)) : Option (Bool) := ((passes x).bind fun r1202 => (some (!r1202)))
def pindexV_L0 (l : List Vis) (p : Vis → Option (Bool)) : Nat → Int → Option (Int)
 | 0, _ => none
 | d1210 + 1, x2 => (if x2 < (l.length : Int) then ((idx l x2).bind fun v1212 => ((p v1212).bind fun r1215 => (if r1215 = true then (some x2) else (gd (fitsP .i64 (x2 + 1)) (pindexV_L0 l p d1210 (x2 + 1)))))) else (some (-1 : Int)))
def pindexV (l : List Vis) (p : Vis → Option (Bool)) : Option (Int) := (pindexV_L0 l p (l.length + 1) (0 : Int))
def pcontainsV (l : List Vis) (p : Vis → Option (Bool)) : Option (Bool) := ((pindexV l p).bind fun r1222 => (some (decide ((0 : Int) ≤ r1222))))
def peachV (l : List Vis) (passes : Vis → Option (Bool)) : Option (Bool) := ((pcontainsV l (fun a1236 => peachV1 a1236 passes)).bind fun r1238 => (some (!r1238)))
def pvalidRule (s : Ssn) (rule : List Int) : Option (Bool) := (gd (fitsP .i64 (s.Last + (1 : Int))) (if (rule.length : Int) = (s.Last + (1 : Int)) then ((peachI rule (fun a1261 => pisHundredths a1261)).bind fun r1263 => (some r1263)) else (some false)))
def pvalidField (s : Ssn) (fl : Fld) : Option (Bool) := (gd (fitsP .i64 ((s.Rules.length : Int) - (1 : Int))) ((phas ({ Lo := (0 : Int), Hi := ((s.Rules.length : Int) - (1 : Int)) } : Rg) fl.Crop).bind fun r1281 => (if r1281 = true then ((pwithin fl.Week (0 : Int) s.Last).bind fun r1289 => (if r1289 = true then ((pwithin fl.Damage (0 : Int) (100 : Int)).bind fun r1297 => (if r1297 = true then ((pwithin fl.Old (0 : Int) (100 : Int)).bind fun r1305 => (some r1305)) else (some false))) else (some false))) else (some false))))
def pvalidVisit (s : Ssn) (v : Vis) : Option (Bool) := ((phasField s v.Field).bind fun r1323 => (if r1323 = true then ((phasWeek s v.Week).bind fun r1331 => (if r1331 = true then ((pwithin v.Seen (0 : Int) (100 : Int)).bind fun r1339 => (some r1339)) else (some false))) else (some false)))
def phasFew (fl : Fld) : Option (Bool) := ((pcount fl.Week).bind fun r1351 => ((pcount fl.Damage).bind fun r1357 => (gd ((0 : Int) ≤ r1351) (gd ((0 : Int) ≤ r1357) (gd (fitsP .i64 (r1351 * r1357)) ((pcount fl.Old).bind fun r1366 => (gd ((0 : Int) ≤ (r1351 * r1357)) (gd ((0 : Int) ≤ r1366) (gd (fitsP .i64 ((r1351 * r1357) * r1366)) (some (decide (((r1351 * r1357) * r1366) ≤ (3000 : Int)))))))))))))
def pisChoice (fl : Fld) (t : Trh) : Option (Bool) := ((phas fl.Week t.Week).bind fun r1386 => (if r1386 = true then ((phas fl.Damage t.Damage).bind fun r1394 => (if r1394 = true then ((phas fl.Old t.Old).bind fun r1402 => (some r1402)) else (some false))) else (some false)))
def pvalid (s : Ssn) : Option (Bool) := (if (0 : Int) ≤ s.Last then (if (0 : Int) < (s.Rules.length : Int) then (if (0 : Int) < (s.Fields.length : Int) then ((peachL s.Rules (fun a1417 => pvalidRule s a1417)).bind fun r1421 => (if r1421 = true then ((peachF s.Fields (fun a1428 => pvalidField s a1428)).bind fun r1430 => (if r1430 = true then ((peachV s.Visits (fun a1437 => pvalidVisit s a1437)).bind fun r1439 => (some r1439)) else (some false))) else (some false))) else (some false)) else (some false)) else (some false))
def pcheck (s : Ssn) : Option (Int) := ((ptooMany s).bind fun r1450 => (if r1450 = true then (some (3 : Int)) else ((pvalid s).bind fun r1457 => (if r1457 = true then ((peachF s.Fields (fun a1464 => phasFew a1464)).bind fun r1466 => (if r1466 = true then (some (0 : Int)) else (some (3 : Int)))) else (some (1 : Int))))))
def pgrow_L0 (s : Ssn) (p : Plt) : Nat → Int → Int → Int → Int → Int → Int → Int → Int → Int → Int → Int → Int → Int → Int → Int → Option (Dm)
 | 0, _, _, _, _, _, _, _, _, _, _, _, _, _, _, _ => none
 | d1514 + 1, y1501, y1502, y1503, y1504, y1505, y1506, y1507, y1508, y1509, y1510, y1511, y1512, y1513, x5, x7 => (if x7 < 13 then (if x7 = p.t.Week then (gd (0 ≤ x7 ∧ x7 < 13) (gd (fitsP .i64 (x7 + 1)) (pgrow_L0 s p d1514 (sti x7 0 p.t.Damage y1501) (sti x7 1 p.t.Damage y1502) (sti x7 2 p.t.Damage y1503) (sti x7 3 p.t.Damage y1504) (sti x7 4 p.t.Damage y1505) (sti x7 5 p.t.Damage y1506) (sti x7 6 p.t.Damage y1507) (sti x7 7 p.t.Damage y1508) (sti x7 8 p.t.Damage y1509) (sti x7 9 p.t.Damage y1510) (sti x7 10 p.t.Damage y1511) (sti x7 11 p.t.Damage y1512) (sti x7 12 p.t.Damage y1513) p.t.Damage (x7 + 1)))) else (if x7 ≤ s.Last then ((idx s.Rules p.crop).bind fun v1528 => ((idx v1528 x7).bind fun x1533 => (gd ((0 : Int) ≤ x5) (gd ((0 : Int) ≤ x1533) (gd (fitsP .i64 (x5 * x1533)) (gd ((0 : Int) ≤ (x5 * x1533)) (gd ((0 : Int) < (100 : Int)) (gd (fitsP .i64 ((x5 * x1533) / (100 : Int))) (gd (fitsP .i64 (x5 - ((x5 * x1533) / (100 : Int)))) (gd (0 ≤ x7 ∧ x7 < 13) (gd (fitsP .i64 (x7 + 1)) (pgrow_L0 s p d1514 (sti x7 0 (x5 - ((x5 * x1533) / (100 : Int))) y1501) (sti x7 1 (x5 - ((x5 * x1533) / (100 : Int))) y1502) (sti x7 2 (x5 - ((x5 * x1533) / (100 : Int))) y1503) (sti x7 3 (x5 - ((x5 * x1533) / (100 : Int))) y1504) (sti x7 4 (x5 - ((x5 * x1533) / (100 : Int))) y1505) (sti x7 5 (x5 - ((x5 * x1533) / (100 : Int))) y1506) (sti x7 6 (x5 - ((x5 * x1533) / (100 : Int))) y1507) (sti x7 7 (x5 - ((x5 * x1533) / (100 : Int))) y1508) (sti x7 8 (x5 - ((x5 * x1533) / (100 : Int))) y1509) (sti x7 9 (x5 - ((x5 * x1533) / (100 : Int))) y1510) (sti x7 10 (x5 - ((x5 * x1533) / (100 : Int))) y1511) (sti x7 11 (x5 - ((x5 * x1533) / (100 : Int))) y1512) (sti x7 12 (x5 - ((x5 * x1533) / (100 : Int))) y1513) (x5 - ((x5 * x1533) / (100 : Int))) (x7 + 1))))))))))))) else (gd (0 ≤ x7 ∧ x7 < 13) (gd (fitsP .i64 (x7 + 1)) (pgrow_L0 s p d1514 (sti x7 0 x5 y1501) (sti x7 1 x5 y1502) (sti x7 2 x5 y1503) (sti x7 3 x5 y1504) (sti x7 4 x5 y1505) (sti x7 5 x5 y1506) (sti x7 6 x5 y1507) (sti x7 7 x5 y1508) (sti x7 8 x5 y1509) (sti x7 9 x5 y1510) (sti x7 10 x5 y1511) (sti x7 11 x5 y1512) (sti x7 12 x5 y1513) x5 (x7 + 1)))))) else (some ({ d0 := y1501, d1 := y1502, d2 := y1503, d3 := y1504, d4 := y1505, d5 := y1506, d6 := y1507, d7 := y1508, d8 := y1509, d9 := y1510, d10 := y1511, d11 := y1512, d12 := y1513 } : Dm)))
def pgrow (s : Ssn) (p : Plt) : Option (Dm) := (pgrow_L0 s p (Int.toNat (13 : Int) + 1) (0 : Int) (0 : Int) (0 : Int) (0 : Int) (0 : Int) (0 : Int) (0 : Int) (0 : Int) (0 : Int) (0 : Int) (0 : Int) (0 : Int) (0 : Int) (0 : Int) (0 : Int))
def pfollow (s : Ssn) (field : Int) (t : Trh) : Option (Crs × Bool) := ((pcheck s).bind fun r1588 => (if r1588 = 0 then ((phasField s field).bind fun r1604 => (if r1604 = true then ((idx s.Fields field).bind fun v1620 => ((pisChoice v1620 t).bind fun r1623 => (if r1623 = true then ((idx s.Fields field).bind fun v1639 => ((pgrow s ({ t := t, crop := v1639.Crop } : Plt)).bind fun r1642 => (some (({ t := t, d := r1642 } : Crs), true)))) else (some (({ t := ({ Week := (0 : Int), Damage := (0 : Int), Old := (0 : Int) } : Trh), d := ({ d0 := (0 : Int), d1 := (0 : Int), d2 := (0 : Int), d3 := (0 : Int), d4 := (0 : Int), d5 := (0 : Int), d6 := (0 : Int), d7 := (0 : Int), d8 := (0 : Int), d9 := (0 : Int), d10 := (0 : Int), d11 := (0 : Int), d12 := (0 : Int) } : Dm) } : Crs), false))))) else (some (({ t := ({ Week := (0 : Int), Damage := (0 : Int), Old := (0 : Int) } : Trh), d := ({ d0 := (0 : Int), d1 := (0 : Int), d2 := (0 : Int), d3 := (0 : Int), d4 := (0 : Int), d5 := (0 : Int), d6 := (0 : Int), d7 := (0 : Int), d8 := (0 : Int), d9 := (0 : Int), d10 := (0 : Int), d11 := (0 : Int), d12 := (0 : Int) } : Dm) } : Crs), false)))) else (some (({ t := ({ Week := (0 : Int), Damage := (0 : Int), Old := (0 : Int) } : Trh), d := ({ d0 := (0 : Int), d1 := (0 : Int), d2 := (0 : Int), d3 := (0 : Int), d4 := (0 : Int), d5 := (0 : Int), d6 := (0 : Int), d7 := (0 : Int), d8 := (0 : Int), d9 := (0 : Int), d10 := (0 : Int), d11 := (0 : Int), d12 := (0 : Int) } : Dm) } : Crs), false))))
def pharvestD (d : Dm) : Option (Int) := ((idx ([d.d0, d.d1, d.d2, d.d3, d.d4, d.d5, d.d6, d.d7, d.d8, d.d9, d.d10, d.d11, d.d12] : List Int) (12 : Int)).bind fun v1663 => (some v1663))
def pHarvest (s : Ssn) (field : Int) (t : Trh) : Option (Int) := ((pfollow s field t).bind fun r1698 => (if r1698.2 = true then ((pharvestD r1698.1.d).bind fun r1720 => (some r1720)) else (some (0 : Int))))
def pGrowthRises_L0 (s : Ssn) (which : Int) (more : Int) (v1899 : Fld) (r1933 : Trh) : Nat → Int → (List (List Int)) → Int → (List (List Int)) → Int → Option (Bool)
 | 0, _, _, _, _, _ => none
 | d2062 + 1, y2054, y2055, y2058, y2059, x72 => (if x72 < (s.Rules.length : Int) then ((idx s.Rules x72).bind fun v2064 => ((plList v2064).bind fun r2069 => (gd ((0 : Int) ≤ (wrapZ .i64 more)) (gd ((0 : Int) < (r2069.length : Int)) (gd (fitsP .i64 ((wrapZ .i64 more) % (r2069.length : Int))) ((idx r2069 ((wrapZ .i64 more) % (r2069.length : Int))).bind fun x2088 => (gd ((0 : Int) ≤ (wrapZ .i64 more)) (gd ((0 : Int) < (8 : Int)) (gd (fitsP .i64 ((wrapZ .i64 more) / (8 : Int))) (gd (fitsP .i64 (x2088 + ((wrapZ .i64 more) / (8 : Int)))) ((idx r2069 ((wrapZ .i64 more) % (r2069.length : Int))).bind fun _ => (gd (y2055.length < 1048576) (gd (0 ≤ ((r2069.set (Int.toNat ((wrapZ .i64 more) % (r2069.length : Int))) (min (100 : Int) (x2088 + ((wrapZ .i64 more) / (8 : Int))))).length : Int) ∧ ((r2069.set (Int.toNat ((wrapZ .i64 more) % (r2069.length : Int))) (min (100 : Int) (x2088 + ((wrapZ .i64 more) / (8 : Int))))).length : Int) ≤ (4096 : Int)) (gd (y2059.length + ([(List.replicate (Int.toNat ((r2069.set (Int.toNat ((wrapZ .i64 more) % (r2069.length : Int))) (min (100 : Int) (x2088 + ((wrapZ .i64 more) / (8 : Int))))).length : Int)) (0 : Int))] : List (List Int)).length ≤ 1048576) (gd (fitsP .i64 (x72 + 1)) (pGrowthRises_L0 s which more v1899 r1933 d2062 y2054 (y2055 ++ [(r2069.set (Int.toNat ((wrapZ .i64 more) % (r2069.length : Int))) (min (100 : Int) (x2088 + ((wrapZ .i64 more) / (8 : Int)))))]) y2058 (y2059 ++ ([(List.replicate (Int.toNat ((r2069.set (Int.toNat ((wrapZ .i64 more) % (r2069.length : Int))) (min (100 : Int) (x2088 + ((wrapZ .i64 more) / (8 : Int))))).length : Int)) (0 : Int))] : List (List Int))) (x72 + 1))))))))))))))))) else ((plSeason s).bind fun r2245 => ((plTruth r1933).bind fun r2263 => ((pHarvest r2245 ((wrapZ .i64 which) % (s.Fields.length : Int)) r2263).bind fun r2274 => ((plSeason s).bind fun r2285 => ((plTruth ({ Week := r1933.Week, Damage := (min v1899.Damage.Hi (r1933.Damage + ((wrapZ .i64 more) % (9 : Int)))), Old := r1933.Old } : Trh)).bind fun r2303 => ((pHarvest r2285 ((wrapZ .i64 which) % (s.Fields.length : Int)) r2303).bind fun r2314 => ((plSeason ({ Last := y2054, Rules := y2055, Fields := s.Fields, Visits := s.Visits } : Ssn)).bind fun r2335 => ((plTruth r1933).bind fun r2354 => ((pHarvest r2335 ((wrapZ .i64 which) % (s.Fields.length : Int)) r2354).bind fun r2366 => ((plSeason ({ Last := y2058, Rules := y2059, Fields := s.Fields, Visits := s.Visits } : Ssn)).bind fun r2389 => ((plTruth r1933).bind fun r2409 => ((pHarvest r2389 ((wrapZ .i64 which) % (s.Fields.length : Int)) r2409).bind fun r2422 => ((prSeen s ((wrapZ .i64 which) % (s.Fields.length : Int)) r1933 s.Last).bind fun r2435 => (if r2274 ≤ r2314 then (if r2366 ≤ r2274 then (if r2274 ≤ r1933.Damage then (if (0 : Int) ≤ r2274 then (if r2422 = r1933.Damage then (if r2435 = 100 then ((pawake).bind fun r2454 => (some r2454)) else (gd (fitsP .i64 (r2274 + r1933.Old)) (if r2435 = (r2274 + r1933.Old) then ((pawake).bind fun r2469 => (some r2469)) else (some false)))) else (some false)) else (some false)) else (some false)) else (some false)) else (some false))))))))))))))))
def pGrowthRises (s : Ssn) (which : Int) (number : Int) (more : Int) : Option (Bool) := ((plReady s).bind fun r1883 => (if r1883 = true then (gd ((0 : Int) ≤ (wrapZ .i64 which)) (gd ((0 : Int) < (s.Fields.length : Int)) (gd (fitsP .i64 ((wrapZ .i64 which) % (s.Fields.length : Int))) ((idx s.Fields ((wrapZ .i64 which) % (s.Fields.length : Int))).bind fun v1899 => ((prMany v1899).bind fun r1922 => (gd ((0 : Int) ≤ (wrapZ .i64 number)) (gd ((0 : Int) < r1922) (gd (fitsP .i64 ((wrapZ .i64 number) % r1922)) ((prNth v1899 ((wrapZ .i64 number) % r1922)).bind fun r1933 => (gd ((0 : Int) ≤ (wrapZ .i64 more)) (gd ((0 : Int) < (9 : Int)) (gd (fitsP .i64 ((wrapZ .i64 more) % (9 : Int))) (gd (fitsP .i64 (r1933.Damage + ((wrapZ .i64 more) % (9 : Int)))) (pGrowthRises_L0 s which more v1899 r1933 1000000 s.Last [] s.Last [] (0 : Int))))))))))))))) else ((pawake).bind fun r1890 => (some r1890))))
end
end Go.Proofs.YtkkkpgljkfakkaaGreat

namespace Go.Proofs.YtkkkpgljkfakkaaGreat
open _root_.Go.Proofs.Tryz
open Go.Abs
set_option maxRecDepth 100000
noncomputable section
theorem c102 {a100 : Int} {b0 : Nat} {m : M} {Q : V → M → Prop} (h :
 (∃ c0 : C, ((ldC m (.ptr b0 0)) = (some c0)) ∧ callP prog tbl [(.c (Il a100))] c0 m (fun v1 m2 => 
 ∃ b3 : Bool, (v1 = (.c (.bool b3))) ∧ Q (.c (.bool (!b3))) m2))) : Wc prog tbl 102 [.c (Il a100), .c (.ptr b0 0)] m Q :=
 wc_eq (n := 2) rfl (by kernel_rfl) (by kernel_rfl) h
theorem c95 {a100 : C} {b0 : Nat} {m : M} {Q : V → M → Prop} (h :
 (∃ c0 : C, ((ldC m (.ptr b0 0)) = (some c0)) ∧ callP prog tbl [(.c a100)] c0 m (fun v1 m2 => ∃ b3 : Bool, 
 (v1 = (.c (.bool b3))) ∧ Q (.c (.bool (!b3))) m2))) : Wc prog tbl 95 [.c (a100), .c (.ptr b0 0)] m Q :=
 wc_eq (n := 2) rfl (by kernel_rfl) (by kernel_rfl) h
theorem c86 {a100 : Int} {a101 : Int} {a102 : Int} {a103 : Int} {a104 : Int} {a105 : Int} {a106 : Int} {b0 : Nat} {m : M} {Q : V → M → Prop} (h :
 (∀ m0 : M, (m0 = (M.new m (AO.cells 7 [(Il a100), (Il a101), (Il a102), 
 (Il a103), (Il a104), (Il a105), (Il a106)] false))) → 
 ∃ c1 : C, ((ldC m0 (.ptr b0 0)) = (some c1)) ∧ ∃ x2 x3 x4 x5, 
 ∃ x6 x7 x8, ((ldA m0 (.ptr m.nxt 0) 7) = (some [(Il x2), 
 (Il x3), (Il x4), (Il x5), (Il x6), 
 (Il x7), (Il x8)])) ∧ callP prog tbl [(.agg 7 [(Il x2), 
 (Il x3), (Il x4), (Il x5), (Il x6), 
 (Il x7), (Il x8)])] c1 m0 (fun v9 m10 => ∃ b11 : Bool, (v9 = (.c (.bool b11))) ∧ 
 Q (.c (.bool (!b11))) m10))) : Wc prog tbl 86 [.agg 7 [Il a100, Il a101, Il a102, Il a103, Il a104, Il a105, Il a106], .c (.ptr b0 0)] m Q :=
 wc_eq (n := 2) rfl (by kernel_rfl) (by kernel_rfl) h
theorem c93 {a100 : Int} {a101 : Int} {a102 : Int} {a103 : Int} {b0 : Nat} {m : M} {Q : V → M → Prop} (h :
 (∀ m0 : M, (m0 = (M.new m (AO.cells 4 [(Il a100), (Il a101), (Il a102), 
 (Il a103)] false))) → ∃ c1 : C, ((ldC m0 (.ptr b0 0)) = (some c1)) ∧ ∃ x2, 
 ∃ x3 x4 x5, ((ldA m0 (.ptr m.nxt 0) 4) = (some [(Il x2), 
 (Il x3), (Il x4), (Il x5)])) ∧ callP prog tbl [(.agg 4 [(Il x2), 
 (Il x3), (Il x4), (Il x5)])] c1 m0 (fun v6 m7 => 
 ∃ b8 : Bool, (v6 = (.c (.bool b8))) ∧ Q (.c (.bool (!b8))) m7))) : Wc prog tbl 93 [.agg 4 [Il a100, Il a101, Il a102, Il a103], .c (.ptr b0 0)] m Q :=
 wc_eq (n := 2) rfl (by kernel_rfl) (by kernel_rfl) h
end
end Go.Proofs.YtkkkpgljkfakkaaGreat

namespace Go.Proofs.YtkkkpgljkfakkaaGreat
open _root_.Go.Proofs.Tryz
open Go.Abs
set_option maxRecDepth 100000
noncomputable section
theorem w3 {a100 : Int} {a101 : C} {a102 : C} {a103 : C} {a200 : Int} {a300 : Int} {a400 : Int} {m : M} {Q : V → M → Prop} (h :
 (∀ m0 : M, (m0 = (M.new m (AO.cells 4 [(Il a100), a101, a102, a103] false))) → ∃ x1, ∃ c2 : C, 
 ∃ c3 : C, ∃ c4 : C, ((ldA m0 (.ptr m.nxt 0) 4) = (some [(Il x1), c2, c3, c4])) ∧ 
 Wc prog tbl 4 [(.agg 4 [(Il x1), c2, c3, c4])] m0 (fun v5 m6 => ∃ b7 : Bool, (v5 = (.c (.bool b7))) ∧ 
 ifB (!b7) (Wc prog tbl 5 [] m6 (fun v8 m9 => ∃ b10 : Bool, (v8 = (.c (.bool b10))) ∧ Q (.c (.bool b10)) m9)) (isPt (.ptr m.nxt 0) ∧ 
 ∃ c11 : C, ((ldC m6 (.ptr m.nxt 2)) = (some c11)) ∧ isSl c11 ∧ ((0 : Int) ≤ (wrapZ .i64 a200)) ∧ 
 ((0 : Int) < (((slLen c11) : Nat) : Int)) ∧ fitsP .i64 ((wrapZ .i64 a200) % (((slLen c11) : Nat) : Int)) ∧ 
 isPt (.ptr m.nxt 0) ∧ ∃ c12 : C, ((ldC m6 (.ptr m.nxt 2)) = (some c12)) ∧ 
 ∃ n13 : Nat, (((wrapZ .i64 a200) % (((slLen c11) : Nat) : Int)) = ((n13 : Nat) : Int)) ∧ 
 (n13 < (slLen c12)) ∧ ∃ x14 x15 x16 x17 x18, 
 ∃ x19 x20, ((ldA m6 (slAt c12 (n13 * 7)) 7) = (some [(Il x14), 
 (Il x15), (Il x16), (Il x17), (Il x18), 
 (Il x19), (Il x20)])) ∧ ∀ m21 : M, (m21 = (M.new m6 (AO.cells 7 [(Il 0), 
 (Il 0), (Il 0), (Il 0), 
 (Il 0), (Il 0), (Il 0)] false))) → 
 ∃ m22 : M, ((stC m21 (.ptr m6.nxt 0) 7 [(Il x14), (Il x15), 
 (Il x16), (Il x17), (Il x18), (Il x19), 
 (Il x20)]) = (some m22)) ∧ ∀ m23 : M, (m23 = (mGrow m22 1)) → 
 ∃ x24 x25 x26 x27 x28 x29, 
 ∃ x30, ((ldA m23 (.ptr m6.nxt 0) 7) = (some [(Il x24), 
 (Il x25), (Il x26), (Il x27), (Il x28), 
 (Il x29), (Il x30)])) ∧ ∃ x31 x32, 
 ∃ x33 x34 x35 x36 x37, ((ldA m23 (.ptr m6.nxt 0) 7) = (some [(Il x31), 
 (Il x32), (Il x33), (Il x34), (Il x35), 
 (Il x36), (Il x37)])) ∧ Wc prog tbl 7 [(.agg 7 [(Il x31), 
 (Il x32), (Il x33), (Il x34), (Il x35), 
 (Il x36), (Il x37)])] m23 (fun v38 m39 => ∃ x40, 
 (v38 = (.c (Il x40))) ∧ ((ldA m39 (.ptr m6.nxt 0) 7) = (some [(Il x24), 
 (Il x25), (Il x26), (Il x27), (Il x28), 
 (Il x29), (Il x30)])) ∧ ((0 : Int) ≤ (wrapZ .i64 a300)) ∧ 
 ((0 : Int) < x40) ∧ fitsP .i64 ((wrapZ .i64 a300) % x40) ∧ Wc prog tbl 6 [(.agg 7 [(Il x24), 
 (Il x25), (Il x26), (Il x27), (Il x28), 
 (Il x29), (Il x30)]), (.c (Il ((wrapZ .i64 a300) % x40)))] m39 (fun v41 m42 => 
 ∃ x43 x44 x45, (v41 = (.agg 3 [(Il x43), 
 (Il x44), (Il x45)])) ∧ ∀ m46 : M, (m46 = (M.set m42 (m22.nxt + 0) (AO.cells 3 [(Il 0), 
 (Il 0), (Il 0)] false))) → ((ldA m46 (.ptr m6.nxt 0) 7) = (some [(Il x31), 
 (Il x32), (Il x33), (Il x34), (Il x35), 
 (Il x36), (Il x37)])) ∧ ((ldA m46 (.ptr m6.nxt 0) 7) = (some [(Il x24), 
 (Il x25), (Il x26), (Il x27), (Il x28), 
 (Il x29), (Il x30)])) ∧ ∃ m47 : M, ((stC m46 (.ptr (m22.nxt + 0) 0) 3 [(Il x43), 
 (Il x44), (Il x45)]) = (some m47)) ∧ ∃ x48, 
 ∃ x49 x50, ((ldA m47 (.ptr (m22.nxt + 0) 0) 3) = (some [(Il x48), 
 (Il x49), (Il x50)])) ∧ ∀ m51 : M, (m51 = (M.new m47 (AO.cells 3 [(Il 0), 
 (Il 0), (Il 0)] false))) → ∃ m52 : M, 
 ((stC m51 (.ptr m47.nxt 0) 3 [(Il x48), (Il x49), 
 (Il x50)]) = (some m52)) ∧ isPt (.ptr m6.nxt 0) ∧ isPt (.ptr m6.nxt 3) ∧ 
 ∃ x53, ((ldC m52 (.ptr m6.nxt 4)) = (some (Il x53))) ∧ 
 isPt (.ptr (m22.nxt + 0) 0) ∧ ∃ x54, ((ldC m52 (.ptr (m22.nxt + 0) 1)) = (some (Il x54))) ∧ 
 ((0 : Int) ≤ (wrapZ .i64 a400)) ∧ ((0 : Int) < (9 : Int)) ∧ fitsP .i64 ((wrapZ .i64 a400) % (9 : Int)) ∧ 
 fitsP .i64 (x54 + ((wrapZ .i64 a400) % (9 : Int))) ∧ isPt (.ptr m47.nxt 0) ∧ 
 ∃ m55 : M, ((stC m52 (.ptr m47.nxt 1) 1 [(Il (Min.min x53 (x54 + ((wrapZ .i64 a400) % (9 : Int)))))]) = (some m55)) ∧ 
 ∀ m56 : M, (m56 = (mGrow m55 1)) → ∃ x57, ∃ c58 : C, ∃ c59 : C, ∃ c60 : C, 
 ((ldA m56 (.ptr m.nxt 0) 4) = (some [(Il x57), c58, 
 c59, c60])) ∧ ∃ x61, ∃ c62 : C, ∃ c63 : C, ∃ c64 : C, ((ldA m56 (.ptr m.nxt 0) 4) = (some [(Il x61), 
 c62, c63, c64])) ∧ ∀ m65 : M, (m65 = (M.new m56 (AO.cells 4 [(Il 0), 
 C.sl0, C.sl0, C.sl0] false))) → (ifB (allS cmC [(Il x61), c62, 
 c63, c64]) ((ldA m65 (.ptr m.nxt 0) 4) = (some [(Il x61), 
 c62, c63, c64])) False) ∧ (ifB (allS cmC [(Il x57), c58, c59, 
 c60]) ((ldA m65 (.ptr m.nxt 0) 4) = (some [(Il x57), 
 c58, c59, c60])) False) ∧ ∀ m66 : M, (m66 = (M.set m65 (m55.nxt + 0) (AO.cells 4 [(Il 0), 
 C.sl0, C.sl0, C.sl0] false))) → (ifB (allS cmC [(Il x61), c62, 
 c63, c64]) ((ldA m66 (.ptr m.nxt 0) 4) = (some [(Il x61), 
 c62, c63, c64])) False) ∧ (ifB (allS cmC [(Il x57), c58, c59, 
 c60]) ((ldA m66 (.ptr m.nxt 0) 4) = (some [(Il x57), 
 c58, c59, c60])) False) ∧ ∃ m67 : M, ((stC m66 (.ptr m56.nxt 0) 4 [(Il x57), 
 c58, c59, c60]) = (some m67)) ∧ (ifB (allS cmC [(Il x61), 
 c62, c63, c64]) ((ldA m67 (.ptr m.nxt 0) 4) = (some [(Il x61), 
 c62, c63, c64])) False) ∧ ∃ m68 : M, ((stC m67 (.ptr (m55.nxt + 0) 0) 4 [(Il x61), 
 c62, c63, c64]) = (some m68)) ∧ isPt (.ptr m56.nxt 0) ∧ ∃ m69 : M, 
 ((stC m68 (.ptr m56.nxt 1) 1 [C.sl0]) = (some m69)) ∧ isPt (.ptr (m55.nxt + 0) 0) ∧ 
 ∃ m70 : M, ((stC m69 (.ptr (m55.nxt + 0) 1) 1 [C.sl0]) = (some m70)) ∧ 
 ∀ R71 : List V → M → Prop, (∀ x72 : Int, ∀ m73 : M, (isPt (.ptr m.nxt 0) ∧ 
 ∃ c74 : C, ((ldC m73 (.ptr m.nxt 1)) = (some c74)) ∧ isSl c74 ∧ 
 ifB (decide (x72 < (((slLen c74) : Nat) : Int))) (isPt (.ptr m.nxt 0) ∧ ∃ c75 : C, 
 ((ldC m73 (.ptr m.nxt 1)) = (some c75)) ∧ ∃ n76 : Nat, (x72 = ((n76 : Nat) : Int)) ∧ 
 (n76 < (slLen c75)) ∧ ∃ c77 : C, ((ldC m73 (slAt c75 (n76 * 1))) = (some c77)) ∧ 
 Wc prog tbl 8 [(.c c77)] m73 (fun v78 m79 => ∃ c80 : C, (v78 = (.c c80)) ∧ 
 isSl c80 ∧ ((0 : Int) ≤ (wrapZ .i64 a400)) ∧ ((0 : Int) < (((slLen c80) : Nat) : Int)) ∧ 
 fitsP .i64 ((wrapZ .i64 a400) % (((slLen c80) : Nat) : Int)) ∧ 
 ∃ n81 : Nat, (((wrapZ .i64 a400) % (((slLen c80) : Nat) : Int)) = ((n81 : Nat) : Int)) ∧ 
 (n81 < (slLen c80)) ∧ ∃ x82, ((ldC m79 (slAt c80 (n81 * 1))) = (some (Il x82))) ∧ 
 ((0 : Int) ≤ (wrapZ .i64 a400)) ∧ ((0 : Int) < (8 : Int)) ∧ fitsP .i64 ((wrapZ .i64 a400) / (8 : Int)) ∧ 
 fitsP .i64 (x82 + ((wrapZ .i64 a400) / (8 : Int))) ∧ ∃ n83 : Nat, 
 (((wrapZ .i64 a400) % (((slLen c80) : Nat) : Int)) = ((n83 : Nat) : Int)) ∧ 
 (n83 < (slLen c80)) ∧ ∃ m84 : M, ((stC m79 (slAt c80 (n83 * 1)) 1 [(Il (Min.min (100 : Int) (x82 + ((wrapZ .i64 a400) / (8 : Int)))))]) = (some m84)) ∧ 
 ∀ m85 : M, (m85 = (mGrow m84 2)) → isPt (.ptr m56.nxt 0) ∧ ∃ c86 : C, 
 ((ldC m85 (.ptr m56.nxt 1)) = (some c86)) ∧ ∀ m87 : M, (m87 = (M.new m85 (AO.cells 1 [c80] false))) → 
 (ifB (cmC c86) ((ldC m87 (.ptr m56.nxt 1)) = (some c86)) False) ∧ 
 ∃ c88 : C, ∃ m89 : M, (ApR prog 22 m87 c86 (.sl m85.nxt 0 1 0 (some 1)) c88 m89) ∧ 
 isPt (.ptr (m55.nxt + 0) 0) ∧ ∃ c90 : C, ((ldC m89 (.ptr (m55.nxt + 0) 1)) = (some c90)) ∧ 
 (ifB (cmC c90) ((ldC m87 (.ptr (m55.nxt + 0) 1)) = (some c90)) False) ∧ 
 (ifB (cmC c90) ((ldC m85 (.ptr (m55.nxt + 0) 1)) = (some c90)) False) ∧ 
 isSl c80 ∧ (isSl c80 ∧ (V.c (Il (((slLen c80) : Nat) : Int))) = (V.c (Il (((slLen c80) : Nat) : Int)))) ∧ 
 (isSl c80 ∧ (V.c (Il (((slLen c80) : Nat) : Int))) = (V.c (Il (((slLen c80) : Nat) : Int)))) ∧ 
 ∃ n91 : Nat, ∃ n92 : Nat, ((((slLen c80) : Nat) : Int) = ((n91 : Nat) : Int)) ∧ 
 ((((slLen c80) : Nat) : Int) = ((n92 : Nat) : Int)) ∧ (n91 ≤ n92) ∧ (n92 ≤ 4096) ∧ 
 ∀ m93 : M, (m93 = (M.set m89 (m84.nxt + 0) (AO.cells (n92 * 1) (repeatS [(Il 0)] n92) false))) → 
 (ifB (cmC c90) ((ldC m93 (.ptr (m55.nxt + 0) 1)) = (some c90)) False) ∧ 
 (ifB (cmC c86) ((ldC m93 (.ptr m56.nxt 1)) = (some c86)) False) ∧ 
 ∀ m94 : M, (m94 = (M.set m93 (m84.nxt + 1) (AO.cells 1 [(.sl (m84.nxt + 0) 0 n91 0 (some n92))] false))) → 
 (ifB (cmC c90) ((ldC m94 (.ptr (m55.nxt + 0) 1)) = (some c90)) False) ∧ 
 (ifB (cmC c86) ((ldC m94 (.ptr m56.nxt 1)) = (some c86)) False) ∧ 
 ∃ c95 : C, ∃ m96 : M, (ApR prog 22 m94 c90 (.sl (m84.nxt + 1) 0 1 0 (some 1)) c95 m96) ∧ 
 isPt (.ptr m56.nxt 0) ∧ ∃ m97 : M, ((stC m96 (.ptr m56.nxt 1) 1 [c88]) = (some m97)) ∧ 
 isPt (.ptr (m55.nxt + 0) 0) ∧ ∃ m98 : M, ((stC m97 (.ptr (m55.nxt + 0) 1) 1 [c95]) = (some m98)) ∧ 
 fitsP .i64 (x72 + 1) ∧ R71 [(.c (Il (x72 + 1)))] m98)) (∃ x99, 
 ∃ c100 : C, ∃ c101 : C, ∃ c102 : C, ((ldA m73 (.ptr m.nxt 0) 4) = (some [(Il x99), 
 c100, c101, c102])) ∧ Wc prog tbl 10 [(.agg 4 [(Il x99), c100, 
 c101, c102])] m73 (fun v103 m104 => ∃ x105, ∃ c106 : C, ∃ c107 : C, 
 ∃ c108 : C, (v103 = (.agg 4 [(Il x105), c106, c107, c108])) ∧ 
 ∃ x109 x110 x111, ((ldA m104 (.ptr (m22.nxt + 0) 0) 3) = (some [(Il x109), 
 (Il x110), (Il x111)])) ∧ ((ldA m73 (.ptr (m22.nxt + 0) 0) 3) = (some [(Il x109), 
 (Il x110), (Il x111)])) ∧ Wc prog tbl 11 [(.agg 3 [(Il x109), 
 (Il x110), (Il x111)])] m104 (fun v112 m113 => 
 ∃ x114 x115 x116, (v112 = (.agg 3 [(Il x114), 
 (Il x115), (Il x116)])) ∧ Wc prog tbl 9 [(.agg 4 [(Il x105), 
 c106, c107, c108]), (.c (Il ((wrapZ .i64 a200) % (((slLen c11) : Nat) : Int)))), 
 (.agg 3 [(Il x114), (Il x115), (Il x116)])] m113 (fun v117 m118 => 
 ∃ x119, (v117 = (.c (Il x119))) ∧ ∃ x120, ∃ c121 : C, 
 ∃ c122 : C, ∃ c123 : C, ((ldA m118 (.ptr m.nxt 0) 4) = (some [(Il x120), 
 c121, c122, c123])) ∧ Wc prog tbl 10 [(.agg 4 [(Il x120), c121, 
 c122, c123])] m118 (fun v124 m125 => ∃ x126, ∃ c127 : C, ∃ c128 : C, 
 ∃ c129 : C, (v124 = (.agg 4 [(Il x126), c127, c128, c129])) ∧ 
 ∃ x130 x131 x132, ((ldA m125 (.ptr m47.nxt 0) 3) = (some [(Il x130), 
 (Il x131), (Il x132)])) ∧ ((ldA m118 (.ptr m47.nxt 0) 3) = (some [(Il x130), 
 (Il x131), (Il x132)])) ∧ Wc prog tbl 11 [(.agg 3 [(Il x130), 
 (Il x131), (Il x132)])] m125 (fun v133 m134 => 
 ∃ x135 x136 x137, (v133 = (.agg 3 [(Il x135), 
 (Il x136), (Il x137)])) ∧ Wc prog tbl 9 [(.agg 4 [(Il x126), 
 c127, c128, c129]), (.c (Il ((wrapZ .i64 a200) % (((slLen c11) : Nat) : Int)))), 
 (.agg 3 [(Il x135), (Il x136), (Il x137)])] m134 (fun v138 m139 => 
 ∃ x140, (v138 = (.c (Il x140))) ∧ ∃ x141, ∃ c142 : C, 
 ∃ c143 : C, ∃ c144 : C, ((ldA m139 (.ptr m56.nxt 0) 4) = (some [(Il x141), 
 c142, c143, c144])) ∧ Wc prog tbl 10 [(.agg 4 [(Il x141), c142, 
 c143, c144])] m139 (fun v145 m146 => ∃ x147, ∃ c148 : C, ∃ c149 : C, 
 ∃ c150 : C, (v145 = (.agg 4 [(Il x147), c148, c149, c150])) ∧ 
 ∃ x151 x152 x153, ((ldA m146 (.ptr (m22.nxt + 0) 0) 3) = (some [(Il x151), 
 (Il x152), (Il x153)])) ∧ ((ldA m139 (.ptr (m22.nxt + 0) 0) 3) = (some [(Il x151), 
 (Il x152), (Il x153)])) ∧ Wc prog tbl 11 [(.agg 3 [(Il x151), 
 (Il x152), (Il x153)])] m146 (fun v154 m155 => 
 ∃ x156 x157 x158, (v154 = (.agg 3 [(Il x156), 
 (Il x157), (Il x158)])) ∧ Wc prog tbl 9 [(.agg 4 [(Il x147), 
 c148, c149, c150]), (.c (Il ((wrapZ .i64 a200) % (((slLen c11) : Nat) : Int)))), 
 (.agg 3 [(Il x156), (Il x157), (Il x158)])] m155 (fun v159 m160 => 
 ∃ x161, (v159 = (.c (Il x161))) ∧ ∃ x162, ∃ c163 : C, 
 ∃ c164 : C, ∃ c165 : C, ((ldA m160 (.ptr (m55.nxt + 0) 0) 4) = (some [(Il x162), 
 c163, c164, c165])) ∧ Wc prog tbl 10 [(.agg 4 [(Il x162), c163, 
 c164, c165])] m160 (fun v166 m167 => ∃ x168, ∃ c169 : C, ∃ c170 : C, 
 ∃ c171 : C, (v166 = (.agg 4 [(Il x168), c169, c170, c171])) ∧ 
 ∃ x172 x173 x174, ((ldA m167 (.ptr (m22.nxt + 0) 0) 3) = (some [(Il x172), 
 (Il x173), (Il x174)])) ∧ ((ldA m160 (.ptr (m22.nxt + 0) 0) 3) = (some [(Il x172), 
 (Il x173), (Il x174)])) ∧ Wc prog tbl 11 [(.agg 3 [(Il x172), 
 (Il x173), (Il x174)])] m167 (fun v175 m176 => 
 ∃ x177 x178 x179, (v175 = (.agg 3 [(Il x177), 
 (Il x178), (Il x179)])) ∧ Wc prog tbl 9 [(.agg 4 [(Il x168), 
 c169, c170, c171]), (.c (Il ((wrapZ .i64 a200) % (((slLen c11) : Nat) : Int)))), 
 (.agg 3 [(Il x177), (Il x178), (Il x179)])] m176 (fun v180 m181 => 
 ∃ x182, (v180 = (.c (Il x182))) ∧ ∃ x183, ∃ c184 : C, 
 ∃ c185 : C, ∃ c186 : C, ((ldA m181 (.ptr m.nxt 0) 4) = (some [(Il x183), 
 c184, c185, c186])) ∧ ∃ x187 x188 x189, ((ldA m181 (.ptr (m22.nxt + 0) 0) 3) = (some [(Il x187), 
 (Il x188), (Il x189)])) ∧ isPt (.ptr m.nxt 0) ∧ 
 ∃ x190, ((ldC m181 (.ptr m.nxt 0)) = (some (Il x190))) ∧ 
 Wc prog tbl 12 [(.agg 4 [(Il x183), c184, c185, c186]), (.c (Il ((wrapZ .i64 a200) % (((slLen c11) : Nat) : Int)))), 
 (.agg 3 [(Il x187), (Il x188), (Il x189)]), 
 (.c (Il x190))] m181 (fun v191 m192 => ∃ x193, (v191 = (.c (Il x193))) ∧ 
 ifB (decide (x119 ≤ x140)) (ifB (decide (x161 ≤ x119)) (isPt (.ptr (m22.nxt + 0) 0) ∧ 
 ∃ x194, ((ldC m192 (.ptr (m22.nxt + 0) 1)) = (some (Il x194))) ∧ 
 ifB (decide (x119 ≤ x194)) (ifB (decide ((0 : Int) ≤ x119)) (isPt (.ptr (m22.nxt + 0) 0) ∧ 
 ∃ x195, ((ldC m192 (.ptr (m22.nxt + 0) 1)) = (some (Il x195))) ∧ 
 ifB (decide (x182 = x195)) (ifB (decide (x193 = 100)) (Wc prog tbl 5 [] m192 (fun v196 m197 => 
 ∃ b198 : Bool, (v196 = (.c (.bool b198))) ∧ Q (.c (.bool b198)) m197)) (isPt (.ptr (m22.nxt + 0) 0) ∧ 
 ∃ x199, ((ldC m192 (.ptr (m22.nxt + 0) 2)) = (some (Il x199))) ∧ 
 fitsP .i64 (x119 + x199) ∧ ifB (decide (x193 = (x119 + x199))) (Wc prog tbl 5 [] m192 (fun v200 m201 => 
 ∃ b202 : Bool, (v200 = (.c (.bool b202))) ∧ Q (.c (.bool b202)) m201)) (Q (.c (.bool false)) m192))) (Q (.c (.bool false)) m192)) (Q (.c (.bool false)) m192)) (Q (.c (.bool false)) m192)) (Q (.c (.bool false)) m192)) (Q (.c (.bool false)) m192)))))))))))))))) → 
 R71 [(.c (Il x72))] m73) → R71 [(.c (Il 0))] m70)))))) : Wc prog tbl 3 [(.agg 4 [(Il a100), a101, a102, a103]), (.c (C.int .u8 a200)), (.c (C.int .u16 a300)), (.c (C.int .u8 a400))] m Q :=
 wc_eq (n := 4) rfl (by kernel_rfl) (by kernel_rfl) h
theorem w6 {a100 : Int} {a101 : Int} {a102 : Int} {a103 : Int} {a104 : Int} {a105 : Int} {a106 : Int} {a200 : Int} {m : M} {Q : V → M → Prop} (h :
 (∀ m0 : M, (m0 = (M.new m (AO.cells 7 [(Il a100), (Il a101), (Il a102), 
 (Il a103), (Il a104), (Il a105), (Il a106)] false))) → 
 ∀ m1 : M, (m1 = (M.new m0 (AO.cells 3 [(Il 0), (Il 0), (Il 0)] false))) → 
 ∀ m2 : M, (m2 = (M.new m1 (AO.cells 3 [(Il 0), (Il 0), 
 (Il 0)] false))) → isPt (.ptr m.nxt 0) ∧ isPt (.ptr m.nxt 1) ∧ ∃ x3, 
 ((ldC m2 (.ptr m.nxt 1)) = (some (Il x3))) ∧ isPt (.ptr m.nxt 0) ∧ ∃ x4, 
 ∃ x5, ((ldA m2 (.ptr m.nxt 1) 2) = (some [(Il x4), (Il x5)])) ∧ 
 Wc prog tbl 24 [(.agg 2 [(Il x4), (Il x5)])] m2 (fun v6 m7 => 
 ∃ x8, (v6 = (.c (Il x8))) ∧ ((ldC m7 (.ptr m.nxt 1)) = (some (Il x3))) ∧ 
 ((0 : Int) ≤ a200) ∧ ((0 : Int) < x8) ∧ fitsP .i64 (a200 % x8) ∧ fitsP .i64 (x3 + (a200 % x8)) ∧ 
 isPt (.ptr m.nxt 0) ∧ ∃ x9 x10, ((ldA m7 (.ptr m.nxt 1) 2) = (some [(Il x9), 
 (Il x10)])) ∧ ((ldA m2 (.ptr m.nxt 1) 2) = (some [(Il x9), 
 (Il x10)])) ∧ Wc prog tbl 24 [(.agg 2 [(Il x9), 
 (Il x10)])] m7 (fun v11 m12 => ∃ x13, (v11 = (.c (Il x13))) ∧ 
 ((ldC m12 (.ptr m.nxt 1)) = (some (Il x3))) ∧ ((0 : Int) ≤ a200) ∧ 
 ((0 : Int) < x13) ∧ fitsP .i64 (a200 / x13) ∧ isPt (.ptr m1.nxt 0) ∧ 
 ∃ m14 : M, ((stC m12 (.ptr m1.nxt 0) 1 [(Il (x3 + (a200 % x8)))]) = (some m14)) ∧ 
 isPt (.ptr m.nxt 0) ∧ isPt (.ptr m.nxt 3) ∧ ∃ x15, ((ldC m14 (.ptr m.nxt 3)) = (some (Il x15))) ∧ 
 isPt (.ptr m.nxt 0) ∧ ∃ x16 x17, ((ldA m14 (.ptr m.nxt 3) 2) = (some [(Il x16), 
 (Il x17)])) ∧ Wc prog tbl 24 [(.agg 2 [(Il x16), 
 (Il x17)])] m14 (fun v18 m19 => ∃ x20, (v18 = (.c (Il x20))) ∧ 
 ((ldC m19 (.ptr m.nxt 3)) = (some (Il x15))) ∧ ((0 : Int) ≤ (a200 / x13)) ∧ 
 ((0 : Int) < x20) ∧ fitsP .i64 ((a200 / x13) % x20) ∧ fitsP .i64 (x15 + ((a200 / x13) % x20)) ∧ 
 isPt (.ptr m.nxt 0) ∧ ∃ x21 x22, ((ldA m19 (.ptr m.nxt 3) 2) = (some [(Il x21), 
 (Il x22)])) ∧ ((ldA m14 (.ptr m.nxt 3) 2) = (some [(Il x21), 
 (Il x22)])) ∧ Wc prog tbl 24 [(.agg 2 [(Il x21), 
 (Il x22)])] m19 (fun v23 m24 => ∃ x25, (v23 = (.c (Il x25))) ∧ 
 ((ldC m24 (.ptr m.nxt 3)) = (some (Il x15))) ∧ ((0 : Int) ≤ (a200 / x13)) ∧ 
 ((0 : Int) < x25) ∧ fitsP .i64 ((a200 / x13) / x25) ∧ isPt (.ptr m1.nxt 0) ∧ 
 ∃ m26 : M, ((stC m24 (.ptr m1.nxt 1) 1 [(Il (x15 + ((a200 / x13) % x20)))]) = (some m26)) ∧ 
 isPt (.ptr m.nxt 0) ∧ isPt (.ptr m.nxt 5) ∧ ∃ x27, ((ldC m26 (.ptr m.nxt 5)) = (some (Il x27))) ∧ 
 fitsP .i64 (x27 + ((a200 / x13) / x25)) ∧ isPt (.ptr m1.nxt 0) ∧ 
 ∃ m28 : M, ((stC m26 (.ptr m1.nxt 2) 1 [(Il (x27 + ((a200 / x13) / x25)))]) = (some m28)) ∧ 
 ∃ x29 x30 x31, ((ldA m28 (.ptr m1.nxt 0) 3) = (some [(Il x29), 
 (Il x30), (Il x31)])) ∧ ∃ m32 : M, ((stC m28 (.ptr m0.nxt 0) 3 [(Il x29), 
 (Il x30), (Il x31)]) = (some m32)) ∧ ∃ x33, 
 ∃ x34 x35, ((ldA m32 (.ptr m0.nxt 0) 3) = (some [(Il x33), 
 (Il x34), (Il x35)])) ∧ Q (.agg 3 [(Il x33), 
 (Il x34), (Il x35)]) m32)))))) : Wc prog tbl 6 [(.agg 7 [(Il a100), (Il a101), (Il a102), (Il a103), (Il a104), (Il a105), (Il a106)]), (.c (Il a200))] m Q :=
 wc_eq (n := 2) rfl (by kernel_rfl) (by kernel_rfl) h
theorem w8 {a100 : C} {m : M} {Q : V → M → Prop} (h :
 (∃ c0 : C, ∃ m1 : M, (ApR prog 38 m C.sl0 a100 c0 m1) ∧ Q (.c c0) m1)) : Wc prog tbl 8 [(.c a100)] m Q :=
 wc_eq (n := 1) rfl (by kernel_rfl) (by kernel_rfl) h
theorem w10 {a100 : Int} {a101 : C} {a102 : C} {a103 : C} {m : M} {Q : V → M → Prop} (h :
 (∀ m0 : M, (m0 = (M.new m (AO.cells 4 [(Il a100), a101, a102, a103] false))) → ∀ m1 : M, (m1 = (M.new m0 (AO.cells 4 [(Il 0), 
 C.sl0, C.sl0, C.sl0] false))) → isPt (.ptr m.nxt 0) ∧ ∃ x2, ((ldC m1 (.ptr m.nxt 0)) = (some (Il x2))) ∧ 
 ∀ m3 : M, (m3 = (M.new m1 (AO.cells 4 [(Il 0), C.sl0, C.sl0, C.sl0] false))) → 
 ∃ m4 : M, ((stC m3 (.ptr m1.nxt 0) 4 [(Il x2), C.sl0, C.sl0, C.sl0]) = (some m4)) ∧ 
 ∀ R5 : List V → M → Prop, (∀ x6 : Int, ∀ m7 : M, (isPt (.ptr m.nxt 0) ∧ ∃ c8 : C, ((ldC m7 (.ptr m.nxt 1)) = (some c8)) ∧ 
 isSl c8 ∧ ifB (decide (x6 < (((slLen c8) : Nat) : Int))) (isPt (.ptr m1.nxt 0) ∧ ∃ c9 : C, 
 ((ldC m7 (.ptr m1.nxt 1)) = (some c9)) ∧ isPt (.ptr m.nxt 0) ∧ ∃ c10 : C, 
 ((ldC m7 (.ptr m.nxt 1)) = (some c10)) ∧ ∃ n11 : Nat, (x6 = ((n11 : Nat) : Int)) ∧ 
 (n11 < (slLen c10)) ∧ ∃ c12 : C, ((ldC m7 (slAt c10 (n11 * 1))) = (some c12)) ∧ 
 Wc prog tbl 8 [(.c c12)] m7 (fun v13 m14 => ∃ c15 : C, (v13 = (.c c15)) ∧ 
 (ifB (cmC c9) ((ldC m14 (.ptr m1.nxt 1)) = (some c9)) False) ∧ ∀ m16 : M, 
 (m16 = (M.new m14 (AO.cells 1 [c15] false))) → (ifB (cmC c9) ((ldC m16 (.ptr m1.nxt 1)) = (some c9)) False) ∧ 
 ∃ c17 : C, ∃ m18 : M, (ApR prog 22 m16 c9 (.sl m14.nxt 0 1 0 (some 1)) c17 m18) ∧ 
 isPt (.ptr m1.nxt 0) ∧ ∃ m19 : M, ((stC m18 (.ptr m1.nxt 1) 1 [c17]) = (some m19)) ∧ 
 fitsP .i64 (x6 + 1) ∧ R5 [(.c (Il (x6 + 1)))] m19)) (∀ R20 : List V → 
 M → Prop, (∀ x21 : Int, ∀ m22 : M, (isPt (.ptr m.nxt 0) ∧ ∃ c23 : C, ((ldC m22 (.ptr m.nxt 2)) = (some c23)) ∧ 
 isSl c23 ∧ ifB (decide (x21 < (((slLen c23) : Nat) : Int))) (isPt (.ptr m.nxt 0) ∧ 
 ∃ c24 : C, ((ldC m22 (.ptr m.nxt 2)) = (some c24)) ∧ ∃ n25 : Nat, 
 (x21 = ((n25 : Nat) : Int)) ∧ (n25 < (slLen c24)) ∧ ∃ x26 x27, 
 ∃ x28 x29 x30 x31 x32, ((ldA m22 (slAt c24 (n25 * 7)) 7) = (some [(Il x26), 
 (Il x27), (Il x28), (Il x29), (Il x30), 
 (Il x31), (Il x32)])) ∧ ∀ m33 : M, (m33 = (M.new m22 (AO.cells 7 [(Il 0), 
 (Il 0), (Il 0), (Il 0), 
 (Il 0), (Il 0), (Il 0)] false))) → 
 ∃ m34 : M, ((stC m33 (.ptr m22.nxt 0) 7 [(Il x26), (Il x27), 
 (Il x28), (Il x29), (Il x30), (Il x31), 
 (Il x32)]) = (some m34)) ∧ isPt (.ptr m1.nxt 0) ∧ ∃ c35 : C, 
 ((ldC m34 (.ptr m1.nxt 2)) = (some c35)) ∧ isPt (.ptr m22.nxt 0) ∧ 
 ∃ x36, ((ldC m34 (.ptr m22.nxt 0)) = (some (Il x36))) ∧ 
 isPt (.ptr m22.nxt 0) ∧ ∃ x37 x38, ((ldA m34 (.ptr m22.nxt 1) 2) = (some [(Il x37), 
 (Il x38)])) ∧ Wc prog tbl 27 [(.agg 2 [(Il x37), 
 (Il x38)])] m34 (fun v39 m40 => ∃ x41 x42, (v39 = (.agg 2 [(Il x41), 
 (Il x42)])) ∧ ((ldC m40 (.ptr m22.nxt 0)) = (some (Il x36))) ∧ 
 (ifB (cmC c35) ((ldC m40 (.ptr m1.nxt 2)) = (some c35)) False) ∧ isPt (.ptr m22.nxt 0) ∧ 
 ∃ x43 x44, ((ldA m40 (.ptr m22.nxt 3) 2) = (some [(Il x43), 
 (Il x44)])) ∧ ((ldA m34 (.ptr m22.nxt 3) 2) = (some [(Il x43), 
 (Il x44)])) ∧ Wc prog tbl 27 [(.agg 2 [(Il x43), 
 (Il x44)])] m40 (fun v45 m46 => ∃ x47 x48, (v45 = (.agg 2 [(Il x47), 
 (Il x48)])) ∧ ((ldC m46 (.ptr m22.nxt 0)) = (some (Il x36))) ∧ 
 (ifB (cmC c35) ((ldC m46 (.ptr m1.nxt 2)) = (some c35)) False) ∧ isPt (.ptr m22.nxt 0) ∧ 
 ∃ x49 x50, ((ldA m46 (.ptr m22.nxt 5) 2) = (some [(Il x49), 
 (Il x50)])) ∧ ((ldA m40 (.ptr m22.nxt 5) 2) = (some [(Il x49), 
 (Il x50)])) ∧ ((ldA m34 (.ptr m22.nxt 5) 2) = (some [(Il x49), 
 (Il x50)])) ∧ Wc prog tbl 27 [(.agg 2 [(Il x49), 
 (Il x50)])] m46 (fun v51 m52 => ∃ x53 x54, (v51 = (.agg 2 [(Il x53), 
 (Il x54)])) ∧ ((ldC m52 (.ptr m22.nxt 0)) = (some (Il x36))) ∧ 
 (ifB (cmC c35) ((ldC m52 (.ptr m1.nxt 2)) = (some c35)) False) ∧ ∀ m55 : M, 
 (m55 = (M.new m52 (AO.cells 7 [(Il x36), (Il x41), 
 (Il x42), (Il x47), (Il x48), (Il x53), 
 (Il x54)] false))) → (ifB (cmC c35) ((ldC m55 (.ptr m1.nxt 2)) = (some c35)) False) ∧ 
 ∃ c56 : C, ∃ m57 : M, (ApR prog 41 m55 c35 (.sl m52.nxt 0 1 0 (some 1)) c56 m57) ∧ 
 isPt (.ptr m1.nxt 0) ∧ ∃ m58 : M, ((stC m57 (.ptr m1.nxt 2) 1 [c56]) = (some m58)) ∧ 
 fitsP .i64 (x21 + 1) ∧ R20 [(.c (Il (x21 + 1)))] m58)))) (∀ R59 : List V → 
 M → Prop, (∀ x60 : Int, ∀ m61 : M, (isPt (.ptr m.nxt 0) ∧ ∃ c62 : C, ((ldC m61 (.ptr m.nxt 3)) = (some c62)) ∧ 
 isSl c62 ∧ ifB (decide (x60 < (((slLen c62) : Nat) : Int))) (isPt (.ptr m.nxt 0) ∧ 
 ∃ c63 : C, ((ldC m61 (.ptr m.nxt 3)) = (some c63)) ∧ ∃ n64 : Nat, 
 (x60 = ((n64 : Nat) : Int)) ∧ (n64 < (slLen c63)) ∧ ∃ x65 x66, 
 ∃ x67 x68, ((ldA m61 (slAt c63 (n64 * 4)) 4) = (some [(Il x65), 
 (Il x66), (Il x67), (Il x68)])) ∧ 
 ∀ m69 : M, (m69 = (M.new m61 (AO.cells 4 [(Il 0), (Il 0), 
 (Il 0), (Il 0)] false))) → ∃ m70 : M, 
 ((stC m69 (.ptr m61.nxt 0) 4 [(Il x65), (Il x66), 
 (Il x67), (Il x68)]) = (some m70)) ∧ isPt (.ptr m1.nxt 0) ∧ 
 ∃ c71 : C, ((ldC m70 (.ptr m1.nxt 3)) = (some c71)) ∧ isPt (.ptr m61.nxt 0) ∧ 
 ∃ x72, ((ldC m70 (.ptr m61.nxt 0)) = (some (Il x72))) ∧ 
 isPt (.ptr m61.nxt 0) ∧ ∃ x73, ((ldC m70 (.ptr m61.nxt 1)) = (some (Il x73))) ∧ 
 isPt (.ptr m61.nxt 0) ∧ ∃ x74 x75, ((ldA m70 (.ptr m61.nxt 2) 2) = (some [(Il x74), 
 (Il x75)])) ∧ Wc prog tbl 27 [(.agg 2 [(Il x74), 
 (Il x75)])] m70 (fun v76 m77 => ∃ x78 x79, (v76 = (.agg 2 [(Il x78), 
 (Il x79)])) ∧ ((ldC m77 (.ptr m61.nxt 1)) = (some (Il x73))) ∧ 
 ((ldC m77 (.ptr m61.nxt 0)) = (some (Il x72))) ∧ (ifB (cmC c71) ((ldC m77 (.ptr m1.nxt 3)) = (some c71)) False) ∧ 
 ∀ m80 : M, (m80 = (M.new m77 (AO.cells 4 [(Il x72), (Il x73), 
 (Il x78), (Il x79)] false))) → (ifB (cmC c71) ((ldC m80 (.ptr m1.nxt 3)) = (some c71)) False) ∧ 
 ∃ c81 : C, ∃ m82 : M, (ApR prog 42 m80 c71 (.sl m77.nxt 0 1 0 (some 1)) c81 m82) ∧ 
 isPt (.ptr m1.nxt 0) ∧ ∃ m83 : M, ((stC m82 (.ptr m1.nxt 3) 1 [c81]) = (some m83)) ∧ 
 fitsP .i64 (x60 + 1) ∧ R59 [(.c (Il (x60 + 1)))] m83)) (∃ x84, 
 ∃ c85 : C, ∃ c86 : C, ∃ c87 : C, ((ldA m61 (.ptr m1.nxt 0) 4) = (some [(Il x84), 
 c85, c86, c87])) ∧ ∃ m88 : M, ((stC m61 (.ptr m0.nxt 0) 4 [(Il x84), 
 c85, c86, c87]) = (some m88)) ∧ ∃ x89, ∃ c90 : C, ∃ c91 : C, 
 ∃ c92 : C, ((ldA m88 (.ptr m0.nxt 0) 4) = (some [(Il x89), 
 c90, c91, c92])) ∧ Q (.agg 4 [(Il x89), c90, c91, c92]) m88)) → 
 R59 [(.c (Il x60))] m61) → R59 [(.c (Il 0))] m22)) → 
 R20 [(.c (Il x21))] m22) → R20 [(.c (Il 0))] m7)) → 
 R5 [(.c (Il x6))] m7) → R5 [(.c (Il 0))] m4)) : Wc prog tbl 10 [(.agg 4 [(Il a100), a101, a102, a103])] m Q :=
 wc_eq (n := 1) rfl (by kernel_rfl) (by kernel_rfl) h
theorem w12 {a100 : Int} {a101 : C} {a102 : C} {a103 : C} {a200 : Int} {a300 : Int} {a301 : Int} {a302 : Int} {a400 : Int} {m : M} {Q : V → M → Prop} (h :
 (∀ m0 : M, (m0 = (M.new m (AO.cells 4 [(Il a100), a101, a102, a103] false))) → ∀ m1 : M, (m1 = (M.new m0 (AO.cells 3 [(Il a300), 
 (Il a301), (Il a302)] false))) → isPt (.ptr m0.nxt 0) ∧ ∃ x2, 
 ((ldC m1 (.ptr m0.nxt 2)) = (some (Il x2))) ∧ ∃ x3, ∃ c4 : C, ∃ c5 : C, 
 ∃ c6 : C, ((ldA m1 (.ptr m.nxt 0) 4) = (some [(Il x3), c4, c5, c6])) ∧ 
 isPt (.ptr m.nxt 0) ∧ ∃ c7 : C, ((ldC m1 (.ptr m.nxt 2)) = (some c7)) ∧ ∃ n8 : Nat, 
 (a200 = ((n8 : Nat) : Int)) ∧ (n8 < (slLen c7)) ∧ isPt (slAt c7 (n8 * 7)) ∧ ∃ x9, 
 ((ldC m1 (ptAdd (slAt c7 (n8 * 7)) 0)) = (some (Il x9))) ∧ ∃ x10, 
 ∃ x11 x12, ((ldA m1 (.ptr m0.nxt 0) 3) = (some [(Il x10), 
 (Il x11), (Il x12)])) ∧ Wc prog tbl 28 [(.agg 4 [(Il x3), 
 c4, c5, c6]), (.c (Il x9)), (.agg 3 [(Il x10), 
 (Il x11), (Il x12)]), (.c (Il a400))] m1 (fun v13 m14 => 
 ∃ x15, (v13 = (.c (Il x15))) ∧ ((ldC m14 (.ptr m0.nxt 2)) = (some (Il x2))) ∧ 
 fitsP .i64 (x2 + x15) ∧ Q (.c (Il (Min.min (100 : Int) (x2 + x15)))) m14))) : Wc prog tbl 12 [(.agg 4 [(Il a100), a101, a102, a103]), (.c (Il a200)), (.agg 3 [(Il a300), (Il a301), (Il a302)]), (.c (Il a400))] m Q :=
 wc_eq (n := 4) rfl (by kernel_rfl) (by kernel_rfl) h
theorem w14 {a100 : Int} {a101 : C} {a102 : C} {a103 : C} {m : M} {Q : V → M → Prop} (h :
 (∀ m0 : M, (m0 = (M.new m (AO.cells 4 [(Il a100), a101, a102, a103] false))) → isPt (.ptr m.nxt 0) ∧ 
 ∃ x1, ((ldC m0 (.ptr m.nxt 0)) = (some (Il x1))) ∧ ifB (decide ((12 : Int) < x1)) (Q (.c (Il (3 : Int))) m0) (isPt (.ptr m.nxt 0) ∧ 
 ∃ c2 : C, ((ldC m0 (.ptr m.nxt 1)) = (some c2)) ∧ isSl c2 ∧ ifB (decide ((3 : Int) < (((slLen c2) : Nat) : Int))) (Q (.c (Il (3 : Int))) m0) (isPt (.ptr m.nxt 0) ∧ 
 ∃ c3 : C, ((ldC m0 (.ptr m.nxt 2)) = (some c3)) ∧ isSl c3 ∧ ifB (decide ((3 : Int) < (((slLen c3) : Nat) : Int))) (Q (.c (Il (3 : Int))) m0) (isPt (.ptr m.nxt 0) ∧ 
 ∃ c4 : C, ((ldC m0 (.ptr m.nxt 3)) = (some c4)) ∧ isSl c4 ∧ ifB (decide ((6 : Int) < (((slLen c4) : Nat) : Int))) (Q (.c (Il (3 : Int))) m0) (isPt (.ptr m.nxt 0) ∧ 
 ∃ x5, ((ldC m0 (.ptr m.nxt 0)) = (some (Il x5))) ∧ ifB (decide (x5 < 0)) (Q (.c (Il (1 : Int))) m0) (isPt (.ptr m.nxt 0) ∧ 
 ∃ c6 : C, ((ldC m0 (.ptr m.nxt 1)) = (some c6)) ∧ isSl c6 ∧ ifB (decide ((((slLen c6) : Nat) : Int) = (0 : Int))) (Q (.c (Il (1 : Int))) m0) (isPt (.ptr m.nxt 0) ∧ 
 ∃ c7 : C, ((ldC m0 (.ptr m.nxt 2)) = (some c7)) ∧ isSl c7 ∧ ifB (decide ((((slLen c7) : Nat) : Int) = (0 : Int))) (Q (.c (Il (1 : Int))) m0) (∀ R8 : List V → 
 M → Prop, (∀ x9 : Int, ∀ x10 : Int, ∀ m11 : M, (isPt (.ptr m.nxt 0) ∧ 
 ∃ c12 : C, ((ldC m11 (.ptr m.nxt 1)) = (some c12)) ∧ isSl c12 ∧ 
 ifB (decide (x10 < (((slLen c12) : Nat) : Int))) (∃ x13, ∃ c14 : C, ∃ c15 : C, 
 ∃ c16 : C, ((ldA m11 (.ptr m.nxt 0) 4) = (some [(Il x13), 
 c14, c15, c16])) ∧ isPt (.ptr m.nxt 0) ∧ ∃ c17 : C, ((ldC m11 (.ptr m.nxt 1)) = (some c17)) ∧ 
 ∃ n18 : Nat, (x10 = ((n18 : Nat) : Int)) ∧ (n18 < (slLen c17)) ∧ ∃ c19 : C, 
 ((ldC m11 (slAt c17 (n18 * 1))) = (some c19)) ∧ Wc prog tbl 29 [(.agg 4 [(Il x13), 
 c14, c15, c16]), (.c c19)] m11 (fun v20 m21 => ∃ b22 : Bool, (v20 = (.c (.bool b22))) ∧ 
 ifB (!b22) (Q (.c (Il (1 : Int))) m21) (fitsP .i64 (x10 + 1) ∧ 
 R8 [(.c (Il x9)), (.c (Il (x10 + 1)))] m21))) (∀ R23 : List V → 
 M → Prop, (∀ x24 : Int, ∀ x25 : Int, ∀ m26 : M, (isPt (.ptr m.nxt 0) ∧ 
 ∃ c27 : C, ((ldC m26 (.ptr m.nxt 2)) = (some c27)) ∧ isSl c27 ∧ 
 ifB (decide (x25 < (((slLen c27) : Nat) : Int))) (isPt (.ptr m.nxt 0) ∧ ∃ c28 : C, 
 ((ldC m26 (.ptr m.nxt 2)) = (some c28)) ∧ ∃ n29 : Nat, (x25 = ((n29 : Nat) : Int)) ∧ 
 (n29 < (slLen c28)) ∧ ∃ x30 x31 x32 x33, 
 ∃ x34 x35 x36, ((ldA m26 (slAt c28 (n29 * 7)) 7) = (some [(Il x30), 
 (Il x31), (Il x32), (Il x33), (Il x34), 
 (Il x35), (Il x36)])) ∧ ∀ m37 : M, (m37 = (M.new m26 (AO.cells 7 [(Il 0), 
 (Il 0), (Il 0), (Il 0), 
 (Il 0), (Il 0), (Il 0)] false))) → 
 ∃ m38 : M, ((stC m37 (.ptr m26.nxt 0) 7 [(Il x30), (Il x31), 
 (Il x32), (Il x33), (Il x34), (Il x35), 
 (Il x36)]) = (some m38)) ∧ isPt (.ptr m26.nxt 0) ∧ 
 ∃ x39, ((ldC m38 (.ptr m26.nxt 0)) = (some (Il x39))) ∧ 
 isPt (.ptr m.nxt 0) ∧ ∃ c40 : C, ((ldC m38 (.ptr m.nxt 1)) = (some c40)) ∧ 
 isSl c40 ∧ fitsP .i64 ((((slLen c40) : Nat) : Int) - (1 : Int)) ∧ Wc prog tbl 30 [(.c (Il x39)), 
 (.c (Il 0)), (.c (Il ((((slLen c40) : Nat) : Int) - (1 : Int))))] m38 (fun v41 m42 => 
 ∃ b43 : Bool, (v41 = (.c (.bool b43))) ∧ ifB (!b43) (Q (.c (Il (1 : Int))) m42) (isPt (.ptr m26.nxt 0) ∧ 
 ∃ x44 x45, ((ldA m42 (.ptr m26.nxt 1) 2) = (some [(Il x44), 
 (Il x45)])) ∧ isPt (.ptr m.nxt 0) ∧ ∃ x46, ((ldC m42 (.ptr m.nxt 0)) = (some (Il x46))) ∧ 
 Wc prog tbl 31 [(.agg 2 [(Il x44), (Il x45)]), 
 (.c (Il 0)), (.c (Il x46))] m42 (fun v47 m48 => 
 ∃ b49 : Bool, (v47 = (.c (.bool b49))) ∧ ifB (!b49) (Q (.c (Il (1 : Int))) m48) (isPt (.ptr m26.nxt 0) ∧ 
 ∃ x50 x51, ((ldA m48 (.ptr m26.nxt 3) 2) = (some [(Il x50), 
 (Il x51)])) ∧ Wc prog tbl 31 [(.agg 2 [(Il x50), 
 (Il x51)]), (.c (Il 0)), (.c (Il (100 : Int)))] m48 (fun v52 m53 => 
 ∃ b54 : Bool, (v52 = (.c (.bool b54))) ∧ ifB (!b54) (Q (.c (Il (1 : Int))) m53) (isPt (.ptr m26.nxt 0) ∧ 
 ∃ x55 x56, ((ldA m53 (.ptr m26.nxt 5) 2) = (some [(Il x55), 
 (Il x56)])) ∧ Wc prog tbl 31 [(.agg 2 [(Il x55), 
 (Il x56)]), (.c (Il 0)), (.c (Il (100 : Int)))] m53 (fun v57 m58 => 
 ∃ b59 : Bool, (v57 = (.c (.bool b59))) ∧ ifB (!b59) (Q (.c (Il (1 : Int))) m58) (fitsP .i64 (x25 + 1) ∧ 
 R23 [(.c (Il x24)), (.c (Il (x25 + 1)))] m58))))))))) (∀ R60 : List V → 
 M → Prop, (∀ x61 : Int, ∀ x62 : Int, ∀ m63 : M, (isPt (.ptr m.nxt 0) ∧ 
 ∃ c64 : C, ((ldC m63 (.ptr m.nxt 3)) = (some c64)) ∧ isSl c64 ∧ 
 ifB (decide (x62 < (((slLen c64) : Nat) : Int))) (isPt (.ptr m.nxt 0) ∧ ∃ c65 : C, 
 ((ldC m63 (.ptr m.nxt 3)) = (some c65)) ∧ ∃ n66 : Nat, (x62 = ((n66 : Nat) : Int)) ∧ 
 (n66 < (slLen c65)) ∧ ∃ x67 x68 x69 x70, 
 ((ldA m63 (slAt c65 (n66 * 4)) 4) = (some [(Il x67), (Il x68), 
 (Il x69), (Il x70)])) ∧ ∀ m71 : M, (m71 = (M.new m63 (AO.cells 4 [(Il 0), 
 (Il 0), (Il 0), (Il 0)] false))) → 
 ∃ m72 : M, ((stC m71 (.ptr m63.nxt 0) 4 [(Il x67), (Il x68), 
 (Il x69), (Il x70)]) = (some m72)) ∧ isPt (.ptr m63.nxt 0) ∧ 
 ∃ x73, ((ldC m72 (.ptr m63.nxt 0)) = (some (Il x73))) ∧ 
 isPt (.ptr m.nxt 0) ∧ ∃ c74 : C, ((ldC m72 (.ptr m.nxt 2)) = (some c74)) ∧ 
 isSl c74 ∧ fitsP .i64 ((((slLen c74) : Nat) : Int) - (1 : Int)) ∧ Wc prog tbl 30 [(.c (Il x73)), 
 (.c (Il 0)), (.c (Il ((((slLen c74) : Nat) : Int) - (1 : Int))))] m72 (fun v75 m76 => 
 ∃ b77 : Bool, (v75 = (.c (.bool b77))) ∧ ifB (!b77) (Q (.c (Il (1 : Int))) m76) (isPt (.ptr m63.nxt 0) ∧ 
 ∃ x78, ((ldC m76 (.ptr m63.nxt 1)) = (some (Il x78))) ∧ 
 isPt (.ptr m.nxt 0) ∧ ∃ x79, ((ldC m76 (.ptr m.nxt 0)) = (some (Il x79))) ∧ 
 Wc prog tbl 30 [(.c (Il x78)), (.c (Il 0)), 
 (.c (Il x79))] m76 (fun v80 m81 => ∃ b82 : Bool, (v80 = (.c (.bool b82))) ∧ 
 ifB (!b82) (Q (.c (Il (1 : Int))) m81) (isPt (.ptr m63.nxt 0) ∧ 
 ∃ x83 x84, ((ldA m81 (.ptr m63.nxt 2) 2) = (some [(Il x83), 
 (Il x84)])) ∧ Wc prog tbl 31 [(.agg 2 [(Il x83), 
 (Il x84)]), (.c (Il 0)), (.c (Il (100 : Int)))] m81 (fun v85 m86 => 
 ∃ b87 : Bool, (v85 = (.c (.bool b87))) ∧ ifB (!b87) (Q (.c (Il (1 : Int))) m86) (fitsP .i64 (x62 + 1) ∧ 
 R60 [(.c (Il x61)), (.c (Il (x62 + 1)))] m86))))))) (∀ R88 : List V → 
 M → Prop, (∀ x89 : Int, ∀ x90 : Int, ∀ m91 : M, (isPt (.ptr m.nxt 0) ∧ 
 ∃ c92 : C, ((ldC m91 (.ptr m.nxt 2)) = (some c92)) ∧ isSl c92 ∧ 
 ifB (decide (x90 < (((slLen c92) : Nat) : Int))) (isPt (.ptr m.nxt 0) ∧ ∃ c93 : C, 
 ((ldC m91 (.ptr m.nxt 2)) = (some c93)) ∧ ∃ n94 : Nat, (x90 = ((n94 : Nat) : Int)) ∧ 
 (n94 < (slLen c93)) ∧ ∃ x95 x96 x97 x98, 
 ∃ x99 x100 x101, ((ldA m91 (slAt c93 (n94 * 7)) 7) = (some [(Il x95), 
 (Il x96), (Il x97), (Il x98), (Il x99), 
 (Il x100), (Il x101)])) ∧ Wc prog tbl 7 [(.agg 7 [(Il x95), 
 (Il x96), (Il x97), (Il x98), (Il x99), 
 (Il x100), (Il x101)])] m91 (fun v102 m103 => ∃ x104, 
 (v102 = (.c (Il x104))) ∧ ifB (decide ((3000 : Int) < x104)) (Q (.c (Il (3 : Int))) m103) (fitsP .i64 (x90 + 1) ∧ 
 R88 [(.c (Il x89)), (.c (Il (x90 + 1)))] m103))) (Q (.c (Il 0)) m91)) → 
 R88 [(.c (Il x89)), (.c (Il x90))] m91) → 
 R88 [(.c (Il x61)), (.c (Il 0))] m63)) → 
 R60 [(.c (Il x61)), (.c (Il x62))] m63) → 
 R60 [(.c (Il x24)), (.c (Il 0))] m26)) → 
 R23 [(.c (Il x24)), (.c (Il x25))] m26) → 
 R23 [(.c (Il x9)), (.c (Il 0))] m11)) → 
 R8 [(.c (Il x9)), (.c (Il x10))] m11) → 
 R8 [(.c (Il 0)), (.c (Il 0))] m0))))))))) : Wc prog tbl 14 [(.agg 4 [(Il a100), a101, a102, a103])] m Q :=
 wc_eq (n := 1) rfl (by kernel_rfl) (by kernel_rfl) h
theorem w25 {a100 : Int} {a101 : C} {a102 : C} {a103 : C} {a200 : Int} {a300 : Int} {a301 : Int} {a302 : Int} {m : M} {Q : V → M → Prop} (h :
 (∀ m0 : M, (m0 = (M.new m (AO.cells 4 [(Il a100), a101, a102, a103] false))) → ∀ m1 : M, (m1 = (M.new m0 (AO.cells 3 [(Il a300), 
 (Il a301), (Il a302)] false))) → ∀ m2 : M, (m2 = (M.new m1 (AO.cells 16 [(Il 0), 
 (Il 0), (Il 0), (Il 0), (Il 0), 
 (Il 0), (Il 0), (Il 0), (Il 0), 
 (Il 0), (Il 0), (Il 0), (Il 0), 
 (Il 0), (Il 0), (Il 0)] false))) → 
 ∃ x3, ∃ c4 : C, ∃ c5 : C, ∃ c6 : C, ((ldA m2 (.ptr m.nxt 0) 4) = (some [(Il x3), 
 c4, c5, c6])) ∧ Wc prog tbl 47 [(.agg 4 [(Il x3), c4, c5, c6])] m2 (fun v7 m8 => 
 ∃ x9, (v7 = (.c (Il x9))) ∧ ifB (!decide (x9 = 0)) (∃ m10 : M, 
 ((stC m8 (.ptr m1.nxt 0) 16 [(Il 0), (Il 0), 
 (Il 0), (Il 0), (Il 0), 
 (Il 0), (Il 0), (Il 0), 
 (Il 0), (Il 0), (Il 0), 
 (Il 0), (Il 0), (Il 0), 
 (Il 0), (Il 0)]) = (some m10)) ∧ 
 ∃ x11 x12 x13 x14 x15 x16 x17, 
 ∃ x18 x19 x20 x21 x22 x23, 
 ∃ x24 x25 x26, ((ldA m10 (.ptr m1.nxt 0) 16) = (some [(Il x11), 
 (Il x12), (Il x13), (Il x14), (Il x15), 
 (Il x16), (Il x17), (Il x18), (Il x19), 
 (Il x20), (Il x21), (Il x22), (Il x23), 
 (Il x24), (Il x25), (Il x26)])) ∧ 
 Q (.tup [(.agg 16 [(Il x11), (Il x12), (Il x13), 
 (Il x14), (Il x15), (Il x16), (Il x17), 
 (Il x18), (Il x19), (Il x20), (Il x21), 
 (Il x22), (Il x23), (Il x24), (Il x25), 
 (Il x26)]), (.c (.bool false))]) m10) (∃ x27, 
 ∃ c28 : C, ∃ c29 : C, ∃ c30 : C, ((ldA m8 (.ptr m.nxt 0) 4) = (some [(Il x27), 
 c28, c29, c30])) ∧ Wc prog tbl 53 [(.agg 4 [(Il x27), c28, c29, c30]), 
 (.c (Il a200))] m8 (fun v31 m32 => ∃ b33 : Bool, (v31 = (.c (.bool b33))) ∧ 
 ifB (!b33) (∃ m34 : M, ((stC m32 (.ptr m1.nxt 0) 16 [(Il 0), 
 (Il 0), (Il 0), (Il 0), 
 (Il 0), (Il 0), (Il 0), 
 (Il 0), (Il 0), (Il 0), 
 (Il 0), (Il 0), (Il 0), 
 (Il 0), (Il 0), (Il 0)]) = (some m34)) ∧ 
 ∃ x35 x36 x37 x38 x39 x40, 
 ∃ x41 x42 x43 x44 x45 x46, 
 ∃ x47 x48 x49 x50, ((ldA m34 (.ptr m1.nxt 0) 16) = (some [(Il x35), 
 (Il x36), (Il x37), (Il x38), (Il x39), 
 (Il x40), (Il x41), (Il x42), (Il x43), 
 (Il x44), (Il x45), (Il x46), (Il x47), 
 (Il x48), (Il x49), (Il x50)])) ∧ 
 Q (.tup [(.agg 16 [(Il x35), (Il x36), (Il x37), 
 (Il x38), (Il x39), (Il x40), (Il x41), 
 (Il x42), (Il x43), (Il x44), (Il x45), 
 (Il x46), (Il x47), (Il x48), (Il x49), 
 (Il x50)]), (.c (.bool false))]) m34) (isPt (.ptr m.nxt 0) ∧ 
 ∃ c51 : C, ((ldC m32 (.ptr m.nxt 2)) = (some c51)) ∧ ∃ n52 : Nat, (a200 = ((n52 : Nat) : Int)) ∧ 
 (n52 < (slLen c51)) ∧ ∃ x53 x54 x55 x56, 
 ∃ x57 x58 x59, ((ldA m32 (slAt c51 (n52 * 7)) 7) = (some [(Il x53), 
 (Il x54), (Il x55), (Il x56), (Il x57), 
 (Il x58), (Il x59)])) ∧ ∃ x60 x61, 
 ∃ x62, ((ldA m32 (.ptr m0.nxt 0) 3) = (some [(Il x60), 
 (Il x61), (Il x62)])) ∧ Wc prog tbl 54 [(.agg 7 [(Il x53), 
 (Il x54), (Il x55), (Il x56), (Il x57), 
 (Il x58), (Il x59)]), (.agg 3 [(Il x60), 
 (Il x61), (Il x62)])] m32 (fun v63 m64 => ∃ b65 : Bool, 
 (v63 = (.c (.bool b65))) ∧ ifB (!b65) (∃ m66 : M, ((stC m64 (.ptr m1.nxt 0) 16 [(Il 0), 
 (Il 0), (Il 0), (Il 0), 
 (Il 0), (Il 0), (Il 0), 
 (Il 0), (Il 0), (Il 0), 
 (Il 0), (Il 0), (Il 0), 
 (Il 0), (Il 0), (Il 0)]) = (some m66)) ∧ 
 ∃ x67 x68 x69 x70 x71 x72, 
 ∃ x73 x74 x75 x76 x77 x78, 
 ∃ x79 x80 x81 x82, ((ldA m66 (.ptr m1.nxt 0) 16) = (some [(Il x67), 
 (Il x68), (Il x69), (Il x70), (Il x71), 
 (Il x72), (Il x73), (Il x74), (Il x75), 
 (Il x76), (Il x77), (Il x78), (Il x79), 
 (Il x80), (Il x81), (Il x82)])) ∧ 
 Q (.tup [(.agg 16 [(Il x67), (Il x68), (Il x69), 
 (Il x70), (Il x71), (Il x72), (Il x73), 
 (Il x74), (Il x75), (Il x76), (Il x77), 
 (Il x78), (Il x79), (Il x80), (Il x81), 
 (Il x82)]), (.c (.bool false))]) m66) (∃ x83, 
 ∃ x84 x85, ((ldA m64 (.ptr m0.nxt 0) 3) = (some [(Il x83), 
 (Il x84), (Il x85)])) ∧ ∃ x86, ∃ c87 : C, 
 ∃ c88 : C, ∃ c89 : C, ((ldA m64 (.ptr m.nxt 0) 4) = (some [(Il x86), 
 c87, c88, c89])) ∧ ∃ x90 x91 x92, ((ldA m64 (.ptr m0.nxt 0) 3) = (some [(Il x90), 
 (Il x91), (Il x92)])) ∧ isPt (.ptr m.nxt 0) ∧ 
 ∃ c93 : C, ((ldC m64 (.ptr m.nxt 2)) = (some c93)) ∧ ∃ n94 : Nat, 
 (a200 = ((n94 : Nat) : Int)) ∧ (n94 < (slLen c93)) ∧ isPt (slAt c93 (n94 * 7)) ∧ 
 ∃ x95, ((ldC m64 (ptAdd (slAt c93 (n94 * 7)) 0)) = (some (Il x95))) ∧ 
 Wc prog tbl 55 [(.agg 4 [(Il x86), c87, c88, c89]), (.agg 4 [(Il x90), 
 (Il x91), (Il x92), (Il x95)])] m64 (fun v96 m97 => 
 ∃ x98 x99 x100 x101 x102 x103, 
 ∃ x104 x105 x106 x107 x108 x109, 
 ∃ x110, (v96 = (.agg 13 [(Il x98), (Il x99), 
 (Il x100), (Il x101), (Il x102), 
 (Il x103), (Il x104), (Il x105), 
 (Il x106), (Il x107), (Il x108), 
 (Il x109), (Il x110)])) ∧ ((ldA m97 (.ptr m0.nxt 0) 3) = (some [(Il x83), 
 (Il x84), (Il x85)])) ∧ ∃ m111 : M, ((stC m97 (.ptr m1.nxt 0) 16 [(Il x83), 
 (Il x84), (Il x85), (Il x98), (Il x99), 
 (Il x100), (Il x101), (Il x102), 
 (Il x103), (Il x104), (Il x105), 
 (Il x106), (Il x107), (Il x108), 
 (Il x109), (Il x110)]) = (some m111)) ∧ 
 ∃ x112 x113 x114 x115 x116 x117, 
 ∃ x118 x119 x120 x121 x122 x123, 
 ∃ x124 x125 x126 x127, ((ldA m111 (.ptr m1.nxt 0) 16) = (some [(Il x112), 
 (Il x113), (Il x114), (Il x115), 
 (Il x116), (Il x117), (Il x118), 
 (Il x119), (Il x120), (Il x121), 
 (Il x122), (Il x123), (Il x124), 
 (Il x125), (Il x126), (Il x127)])) ∧ 
 Q (.tup [(.agg 16 [(Il x112), (Il x113), (Il x114), 
 (Il x115), (Il x116), (Il x117), 
 (Il x118), (Il x119), (Il x120), 
 (Il x121), (Il x122), (Il x123), 
 (Il x124), (Il x125), (Il x126), 
 (Il x127)]), (.c (.bool true))]) m111))))))))) : Wc prog tbl 25 [(.agg 4 [(Il a100), a101, a102, a103]), (.c (Il a200)), (.agg 3 [(Il a300), (Il a301), (Il a302)])] m Q :=
 wc_eq (n := 3) rfl (by kernel_rfl) (by kernel_rfl) h
theorem w27 {a100 : Int} {a101 : Int} {m : M} {Q : V → M → Prop} (h :
 (∀ m0 : M, (m0 = (M.new m (AO.cells 2 [(Il a100), (Il a101)] false))) → ∀ m1 : M, 
 (m1 = (M.new m0 (AO.cells 2 [(Il 0), (Il 0)] false))) → isPt (.ptr m.nxt 0) ∧ 
 ∃ x2, ((ldC m1 (.ptr m.nxt 0)) = (some (Il x2))) ∧ isPt (.ptr m.nxt 0) ∧ 
 ∃ x3, ((ldC m1 (.ptr m.nxt 1)) = (some (Il x3))) ∧ ∃ m4 : M, ((stC m1 (.ptr m0.nxt 0) 2 [(Il x2), 
 (Il x3)]) = (some m4)) ∧ ∃ x5 x6, ((ldA m4 (.ptr m0.nxt 0) 2) = (some [(Il x5), 
 (Il x6)])) ∧ Q (.agg 2 [(Il x5), (Il x6)]) m4)) : Wc prog tbl 27 [(.agg 2 [(Il a100), (Il a101)])] m Q :=
 wc_eq (n := 1) rfl (by kernel_rfl) (by kernel_rfl) h
theorem w29 {a100 : Int} {a101 : C} {a102 : C} {a103 : C} {a200 : C} {m : M} {Q : V → M → Prop} (h :
 (∀ m0 : M, (m0 = (M.new m (AO.cells 4 [(Il a100), a101, a102, a103] false))) → ∀ R1 : List V → 
 M → Prop, (∀ b2 : Bool, ∀ x3 : Int, ∀ m4 : M, (isSl a200 ∧ ifB (decide (x3 < (((slLen a200) : Nat) : Int))) (∃ n5 : Nat, 
 (x3 = ((n5 : Nat) : Int)) ∧ (n5 < (slLen a200)) ∧ ∃ x6, ((ldC m4 (slAt a200 (n5 * 1))) = (some (Il x6))) ∧ 
 Wc prog tbl 30 [(.c (Il x6)), (.c (Il 0)), (.c (Il (100 : Int)))] m4 (fun v7 m8 => 
 ∃ b9 : Bool, (v7 = (.c (.bool b9))) ∧ ifB (!b9) (Q (.c (.bool false)) m8) (fitsP .i64 (x3 + 1) ∧ 
 R1 [(.c (.bool b2)), (.c (Il (x3 + 1)))] m8))) (isSl a200 ∧ 
 isPt (.ptr m.nxt 0) ∧ ∃ x10, ((ldC m4 (.ptr m.nxt 0)) = (some (Il x10))) ∧ 
 fitsP .i64 (x10 + 1) ∧ Q (.c (.bool (decide ((((slLen a200) : Nat) : Int) = (x10 + 1))))) m4)) → 
 R1 [(.c (.bool b2)), (.c (Il x3))] m4) → R1 [(.c (.bool false)), (.c (Il 0))] m0)) : Wc prog tbl 29 [(.agg 4 [(Il a100), a101, a102, a103]), (.c a200)] m Q :=
 wc_eq (n := 2) rfl (by kernel_rfl) (by kernel_rfl) h
theorem w31 {a100 : Int} {a101 : Int} {a200 : Int} {a300 : Int} {m : M} {Q : V → M → Prop} (h :
 (∀ m0 : M, (m0 = (M.new m (AO.cells 2 [(Il a100), (Il a101)] false))) → isPt (.ptr m.nxt 0) ∧ 
 ∃ x1, ((ldC m0 (.ptr m.nxt 0)) = (some (Il x1))) ∧ ifB (decide (a200 ≤ x1)) (isPt (.ptr m.nxt 0) ∧ 
 ∃ x2, ((ldC m0 (.ptr m.nxt 0)) = (some (Il x2))) ∧ isPt (.ptr m.nxt 0) ∧ 
 ∃ x3, ((ldC m0 (.ptr m.nxt 1)) = (some (Il x3))) ∧ ifB (decide (x2 ≤ x3)) (isPt (.ptr m.nxt 0) ∧ 
 ∃ x4, ((ldC m0 (.ptr m.nxt 1)) = (some (Il x4))) ∧ Q (.c (.bool (decide (x4 ≤ a300)))) m0) (Q (.c (.bool false)) m0)) (Q (.c (.bool false)) m0))) : Wc prog tbl 31 [(.agg 2 [(Il a100), (Il a101)]), (.c (Il a200)), (.c (Il a300))] m Q :=
 wc_eq (n := 3) rfl (by kernel_rfl) (by kernel_rfl) h
theorem w47 {a100 : Int} {a101 : C} {a102 : C} {a103 : C} {m : M} {Q : V → M → Prop} (h :
 (∀ m0 : M, (m0 = (M.new m (AO.cells 4 [(Il a100), a101, a102, a103] false))) → ∃ x1, ∃ c2 : C, 
 ∃ c3 : C, ∃ c4 : C, ((ldA m0 (.ptr m.nxt 0) 4) = (some [(Il x1), c2, c3, c4])) ∧ 
 Wc prog tbl 68 [(.agg 4 [(Il x1), c2, c3, c4])] m0 (fun v5 m6 => ∃ b7 : Bool, (v5 = (.c (.bool b7))) ∧ 
 ifB b7 (Q (.c (Il (3 : Int))) m6) (∃ x8, ∃ c9 : C, ∃ c10 : C, ∃ c11 : C, 
 ((ldA m6 (.ptr m.nxt 0) 4) = (some [(Il x8), c9, c10, c11])) ∧ Wc prog tbl 69 [(.agg 4 [(Il x8), 
 c9, c10, c11])] m6 (fun v12 m13 => ∃ b14 : Bool, (v12 = (.c (.bool b14))) ∧ ifB (!b14) (Q (.c (Il (1 : Int))) m13) (isPt (.ptr m.nxt 0) ∧ 
 ∃ c15 : C, ((ldC m13 (.ptr m.nxt 2)) = (some c15)) ∧ Wc prog tbl 70 [(.c c15), 
 (.c (C.fn (Fn.func 71) [] []))] m13 (fun v16 m17 => ∃ b18 : Bool, (v16 = (.c (.bool b18))) ∧ 
 ifB (!b18) (Q (.c (Il (3 : Int))) m17) (Q (.c (Il 0)) m17)))))))) : Wc prog tbl 47 [(.agg 4 [(Il a100), a101, a102, a103])] m Q :=
 wc_eq (n := 1) rfl (by kernel_rfl) (by kernel_rfl) h
theorem w54 {a100 : Int} {a101 : Int} {a102 : Int} {a103 : Int} {a104 : Int} {a105 : Int} {a106 : Int} {a200 : Int} {a201 : Int} {a202 : Int} {m : M} {Q : V → M → Prop} (h :
 (∀ m0 : M, (m0 = (M.new m (AO.cells 7 [(Il a100), (Il a101), (Il a102), 
 (Il a103), (Il a104), (Il a105), (Il a106)] false))) → 
 ∀ m1 : M, (m1 = (M.new m0 (AO.cells 3 [(Il a200), (Il a201), (Il a202)] false))) → 
 isPt (.ptr m.nxt 0) ∧ ∃ x2 x3, ((ldA m1 (.ptr m.nxt 1) 2) = (some [(Il x2), 
 (Il x3)])) ∧ isPt (.ptr m0.nxt 0) ∧ ∃ x4, ((ldC m1 (.ptr m0.nxt 0)) = (some (Il x4))) ∧ 
 Wc prog tbl 59 [(.agg 2 [(Il x2), (Il x3)]), (.c (Il x4))] m1 (fun v5 m6 => 
 ∃ b7 : Bool, (v5 = (.c (.bool b7))) ∧ ifB b7 (isPt (.ptr m.nxt 0) ∧ ∃ x8 x9, 
 ((ldA m6 (.ptr m.nxt 3) 2) = (some [(Il x8), (Il x9)])) ∧ 
 isPt (.ptr m0.nxt 0) ∧ ∃ x10, ((ldC m6 (.ptr m0.nxt 1)) = (some (Il x10))) ∧ 
 Wc prog tbl 59 [(.agg 2 [(Il x8), (Il x9)]), (.c (Il x10))] m6 (fun v11 m12 => 
 ∃ b13 : Bool, (v11 = (.c (.bool b13))) ∧ ifB b13 (isPt (.ptr m.nxt 0) ∧ ∃ x14, 
 ∃ x15, ((ldA m12 (.ptr m.nxt 5) 2) = (some [(Il x14), 
 (Il x15)])) ∧ isPt (.ptr m0.nxt 0) ∧ ∃ x16, ((ldC m12 (.ptr m0.nxt 2)) = (some (Il x16))) ∧ 
 Wc prog tbl 59 [(.agg 2 [(Il x14), (Il x15)]), 
 (.c (Il x16))] m12 (fun v17 m18 => ∃ b19 : Bool, (v17 = (.c (.bool b19))) ∧ 
 Q (.c (.bool b19)) m18)) (Q (.c (.bool false)) m12))) (Q (.c (.bool false)) m6)))) : Wc prog tbl 54 [(.agg 7 [(Il a100), (Il a101), (Il a102), (Il a103), (Il a104), (Il a105), (Il a106)]), (.agg 3 [(Il a200), (Il a201), (Il a202)])] m Q :=
 wc_eq (n := 2) rfl (by kernel_rfl) (by kernel_rfl) h
theorem w69 {a100 : Int} {a101 : C} {a102 : C} {a103 : C} {m : M} {Q : V → M → Prop} (h :
 (∀ m0 : M, (m0 = (M.new m (AO.cells 4 [(Il a100), a101, a102, a103] false))) → isPt (.ptr m.nxt 0) ∧ 
 ∃ x1, ((ldC m0 (.ptr m.nxt 0)) = (some (Il x1))) ∧ ifB (decide ((0 : Int) ≤ x1)) (isPt (.ptr m.nxt 0) ∧ 
 ∃ c2 : C, ((ldC m0 (.ptr m.nxt 1)) = (some c2)) ∧ isSl c2 ∧ ifB (decide ((0 : Int) < (((slLen c2) : Nat) : Int))) (isPt (.ptr m.nxt 0) ∧ 
 ∃ c3 : C, ((ldC m0 (.ptr m.nxt 2)) = (some c3)) ∧ isSl c3 ∧ ifB (decide ((0 : Int) < (((slLen c3) : Nat) : Int))) (isPt (.ptr m.nxt 0) ∧ 
 ∃ c4 : C, ((ldC m0 (.ptr m.nxt 1)) = (some c4)) ∧ ∃ x5, ∃ c6 : C, ∃ c7 : C, 
 ∃ c8 : C, ((ldA m0 (.ptr m.nxt 0) 4) = (some [(Il x5), c6, 
 c7, c8])) ∧ optB (mapO vW [(.agg 4 [(Il x5), c6, c7, c8])]) False fun l9 => 
 Wc prog tbl 81 [(.c c4), (.c (C.fn (Fn.func 82) l9 []))] m0 (fun v10 m11 => ∃ b12 : Bool, 
 (v10 = (.c (.bool b12))) ∧ ifB b12 (isPt (.ptr m.nxt 0) ∧ ∃ c13 : C, ((ldC m11 (.ptr m.nxt 2)) = (some c13)) ∧ 
 ∃ x14, ∃ c15 : C, ∃ c16 : C, ∃ c17 : C, ((ldA m11 (.ptr m.nxt 0) 4) = (some [(Il x14), 
 c15, c16, c17])) ∧ optB (mapO vW [(.agg 4 [(Il x14), c15, c16, 
 c17])]) False fun l18 => Wc prog tbl 70 [(.c c13), (.c (C.fn (Fn.func 83) l18 []))] m11 (fun v19 m20 => 
 ∃ b21 : Bool, (v19 = (.c (.bool b21))) ∧ ifB b21 (isPt (.ptr m.nxt 0) ∧ 
 ∃ c22 : C, ((ldC m20 (.ptr m.nxt 3)) = (some c22)) ∧ ∃ x23, 
 ∃ c24 : C, ∃ c25 : C, ∃ c26 : C, ((ldA m20 (.ptr m.nxt 0) 4) = (some [(Il x23), 
 c24, c25, c26])) ∧ optB (mapO vW [(.agg 4 [(Il x23), c24, c25, 
 c26])]) False fun l27 => Wc prog tbl 79 [(.c c22), (.c (C.fn (Fn.func 84) l27 []))] m20 (fun v28 m29 => 
 ∃ b30 : Bool, (v28 = (.c (.bool b30))) ∧ Q (.c (.bool b30)) m29)) (Q (.c (.bool false)) m20))) (Q (.c (.bool false)) m11))) (Q (.c (.bool false)) m0)) (Q (.c (.bool false)) m0)) (Q (.c (.bool false)) m0))) : Wc prog tbl 69 [(.agg 4 [(Il a100), a101, a102, a103])] m Q :=
 wc_eq (n := 1) rfl (by kernel_rfl) (by kernel_rfl) h
theorem w71 {a100 : Int} {a101 : Int} {a102 : Int} {a103 : Int} {a104 : Int} {a105 : Int} {a106 : Int} {m : M} {Q : V → M → Prop} (h :
 (∀ m0 : M, (m0 = (M.new m (AO.cells 7 [(Il a100), (Il a101), (Il a102), 
 (Il a103), (Il a104), (Il a105), (Il a106)] false))) → 
 isPt (.ptr m.nxt 0) ∧ ∃ x1 x2, ((ldA m0 (.ptr m.nxt 1) 2) = (some [(Il x1), 
 (Il x2)])) ∧ Wc prog tbl 87 [(.agg 2 [(Il x1), (Il x2)])] m0 (fun v3 m4 => 
 ∃ x5, (v3 = (.c (Il x5))) ∧ isPt (.ptr m.nxt 0) ∧ ∃ x6 x7, 
 ((ldA m4 (.ptr m.nxt 3) 2) = (some [(Il x6), (Il x7)])) ∧ 
 ((ldA m0 (.ptr m.nxt 3) 2) = (some [(Il x6), (Il x7)])) ∧ 
 Wc prog tbl 87 [(.agg 2 [(Il x6), (Il x7)])] m4 (fun v8 m9 => 
 ∃ x10, (v8 = (.c (Il x10))) ∧ ((0 : Int) ≤ x5) ∧ ((0 : Int) ≤ x10) ∧ 
 fitsP .i64 (x5 * x10) ∧ isPt (.ptr m.nxt 0) ∧ ∃ x11 x12, 
 ((ldA m9 (.ptr m.nxt 5) 2) = (some [(Il x11), (Il x12)])) ∧ 
 ((ldA m4 (.ptr m.nxt 5) 2) = (some [(Il x11), (Il x12)])) ∧ 
 ((ldA m0 (.ptr m.nxt 5) 2) = (some [(Il x11), (Il x12)])) ∧ 
 Wc prog tbl 87 [(.agg 2 [(Il x11), (Il x12)])] m9 (fun v13 m14 => 
 ∃ x15, (v13 = (.c (Il x15))) ∧ ((0 : Int) ≤ (x5 * x10)) ∧ 
 ((0 : Int) ≤ x15) ∧ fitsP .i64 ((x5 * x10) * x15) ∧ Q (.c (.bool (decide (((x5 * x10) * x15) ≤ (3000 : Int))))) m14))))) : Wc prog tbl 71 [(.agg 7 [(Il a100), (Il a101), (Il a102), (Il a103), (Il a104), (Il a105), (Il a106)])] m Q :=
 wc_eq (n := 1) rfl (by kernel_rfl) (by kernel_rfl) h
theorem w81 {a100 : C} {a200 : C} {m : M} {Q : V → M → Prop} (h :
 (∀ m0 : M, (m0 = (M.new m (AO.cells 1 [a200] false))) → Wc prog tbl 94 [(.c a100), (.c (C.fn (Fn.func 95) [] [(W.c (C0.ptr m.nxt 0))]))] m0 (fun v1 m2 => 
 ∃ b3 : Bool, (v1 = (.c (.bool b3))) ∧ Q (.c (.bool (!b3))) m2))) : Wc prog tbl 81 [(.c a100), (.c a200)] m Q :=
 wc_eq (n := 2) rfl (by kernel_rfl) (by kernel_rfl) h
theorem w83 {a100 : Int} {a101 : C} {a102 : C} {a103 : C} {a200 : Int} {a201 : Int} {a202 : Int} {a203 : Int} {a204 : Int} {a205 : Int} {a206 : Int} {m : M} {Q : V → M → Prop} (h :
 (∀ m0 : M, (m0 = (M.new m (AO.cells 4 [(Il a100), a101, a102, a103] false))) → ∀ m1 : M, (m1 = (M.new m0 (AO.cells 7 [(Il a200), 
 (Il a201), (Il a202), (Il a203), (Il a204), 
 (Il a205), (Il a206)] false))) → isPt (.ptr m.nxt 0) ∧ ∃ c2 : C, 
 ((ldC m1 (.ptr m.nxt 1)) = (some c2)) ∧ isSl c2 ∧ fitsP .i64 ((((slLen c2) : Nat) : Int) - (1 : Int)) ∧ 
 isPt (.ptr m0.nxt 0) ∧ ∃ x3, ((ldC m1 (.ptr m0.nxt 0)) = (some (Il x3))) ∧ 
 Wc prog tbl 59 [(.agg 2 [(Il 0), (Il ((((slLen c2) : Nat) : Int) - (1 : Int)))]), 
 (.c (Il x3))] m1 (fun v4 m5 => ∃ b6 : Bool, (v4 = (.c (.bool b6))) ∧ ifB b6 (isPt (.ptr m0.nxt 0) ∧ 
 ∃ x7 x8, ((ldA m5 (.ptr m0.nxt 1) 2) = (some [(Il x7), 
 (Il x8)])) ∧ isPt (.ptr m.nxt 0) ∧ ∃ x9, ((ldC m5 (.ptr m.nxt 0)) = (some (Il x9))) ∧ 
 Wc prog tbl 97 [(.agg 2 [(Il x7), (Il x8)]), (.c (Il 0)), 
 (.c (Il x9))] m5 (fun v10 m11 => ∃ b12 : Bool, (v10 = (.c (.bool b12))) ∧ 
 ifB b12 (isPt (.ptr m0.nxt 0) ∧ ∃ x13 x14, ((ldA m11 (.ptr m0.nxt 3) 2) = (some [(Il x13), 
 (Il x14)])) ∧ Wc prog tbl 97 [(.agg 2 [(Il x13), 
 (Il x14)]), (.c (Il 0)), (.c (Il (100 : Int)))] m11 (fun v15 m16 => 
 ∃ b17 : Bool, (v15 = (.c (.bool b17))) ∧ ifB b17 (isPt (.ptr m0.nxt 0) ∧ 
 ∃ x18 x19, ((ldA m16 (.ptr m0.nxt 5) 2) = (some [(Il x18), 
 (Il x19)])) ∧ Wc prog tbl 97 [(.agg 2 [(Il x18), 
 (Il x19)]), (.c (Il 0)), (.c (Il (100 : Int)))] m16 (fun v20 m21 => 
 ∃ b22 : Bool, (v20 = (.c (.bool b22))) ∧ Q (.c (.bool b22)) m21)) (Q (.c (.bool false)) m16))) (Q (.c (.bool false)) m11))) (Q (.c (.bool false)) m5)))) : Wc prog tbl 83 [(.agg 4 [(Il a100), a101, a102, a103]), (.agg 7 [(Il a200), (Il a201), (Il a202), (Il a203), (Il a204), (Il a205), (Il a206)])] m Q :=
 wc_eq (n := 2) rfl (by kernel_rfl) (by kernel_rfl) h
theorem w85 {a100 : C} {a200 : C} {m : M} {Q : V → M → Prop} (h :
 (Wc prog tbl 98 [(.c a100), (.c a200)] m (fun v0 m1 => ∃ x2, (v0 = (.c (Il x2))) ∧ Q (.c (.bool (decide ((0 : Int) ≤ x2)))) m1))) : Wc prog tbl 85 [(.c a100), (.c a200)] m Q :=
 wc_eq (n := 2) rfl (by kernel_rfl) (by kernel_rfl) h
theorem w94 {a100 : C} {a200 : C} {m : M} {Q : V → M → Prop} (h :
 (Wc prog tbl 100 [(.c a100), (.c a200)] m (fun v0 m1 => ∃ x2, (v0 = (.c (Il x2))) ∧ Q (.c (.bool (decide ((0 : Int) ≤ x2)))) m1))) : Wc prog tbl 94 [(.c a100), (.c a200)] m Q :=
 wc_eq (n := 2) rfl (by kernel_rfl) (by kernel_rfl) h
theorem w97 {a100 : Int} {a101 : Int} {a200 : Int} {a300 : Int} {m : M} {Q : V → M → Prop} (h :
 (∀ m0 : M, (m0 = (M.new m (AO.cells 2 [(Il a100), (Il a101)] false))) → isPt (.ptr m.nxt 0) ∧ 
 ∃ x1, ((ldC m0 (.ptr m.nxt 0)) = (some (Il x1))) ∧ ifB (decide (a200 ≤ x1)) (isPt (.ptr m.nxt 0) ∧ 
 ∃ x2, ((ldC m0 (.ptr m.nxt 0)) = (some (Il x2))) ∧ isPt (.ptr m.nxt 0) ∧ 
 ∃ x3, ((ldC m0 (.ptr m.nxt 1)) = (some (Il x3))) ∧ ifB (decide (x2 ≤ x3)) (isPt (.ptr m.nxt 0) ∧ 
 ∃ x4, ((ldC m0 (.ptr m.nxt 1)) = (some (Il x4))) ∧ Q (.c (.bool (decide (x4 ≤ a300)))) m0) (Q (.c (.bool false)) m0)) (Q (.c (.bool false)) m0))) : Wc prog tbl 97 [(.agg 2 [(Il a100), (Il a101)]), (.c (Il a200)), (.c (Il a300))] m Q :=
 wc_eq (n := 3) rfl (by kernel_rfl) (by kernel_rfl) h
theorem w99 {a100 : C} {a200 : C} {m : M} {Q : V → M → Prop} (h :
 (isSl a100 ∧ ∀ R0 : List V → M → Prop, (∀ x1 : Int, ∀ x2 : Int, ∀ m3 : M, (ifB (decide (x2 < (((slLen a100) : Nat) : Int))) (∃ n4 : Nat, 
 (x2 = ((n4 : Nat) : Int)) ∧ (n4 < (slLen a100)) ∧ ∃ x5 x6 x7 x8, 
 ((ldA m3 (slAt a100 (n4 * 4)) 4) = (some [(Il x5), (Il x6), 
 (Il x7), (Il x8)])) ∧ callP prog tbl [(.agg 4 [(Il x5), 
 (Il x6), (Il x7), (Il x8)])] a200 m3 (fun v9 m10 => 
 ∃ b11 : Bool, (v9 = (.c (.bool b11))) ∧ ifB b11 (Q (.c (Il x2)) m10) (fitsP .i64 (x2 + 1) ∧ 
 R0 [(.c (Il x1)), (.c (Il (x2 + 1)))] m10))) (Q (.c (Il (-1 : Int))) m3)) → 
 R0 [(.c (Il x1)), (.c (Il x2))] m3) → R0 [(.c (Il 0)), 
 (.c (Il 0))] m)) : Wc prog tbl 99 [(.c a100), (.c a200)] m Q :=
 wc_eq (n := 2) rfl (by kernel_rfl) (by kernel_rfl) h
theorem w101 {a100 : C} {a200 : C} {m : M} {Q : V → M → Prop} (h :
 (Wc prog tbl 103 [(.c a100), (.c a200)] m (fun v0 m1 => ∃ x2, (v0 = (.c (Il x2))) ∧ Q (.c (.bool (decide ((0 : Int) ≤ x2)))) m1))) : Wc prog tbl 101 [(.c a100), (.c a200)] m Q :=
 wc_eq (n := 2) rfl (by kernel_rfl) (by kernel_rfl) h
theorem w103 {a100 : C} {a200 : C} {m : M} {Q : V → M → Prop} (h :
 (isSl a100 ∧ ∀ R0 : List V → M → Prop, (∀ x1 : Int, ∀ x2 : Int, ∀ m3 : M, (ifB (decide (x2 < (((slLen a100) : Nat) : Int))) (∃ n4 : Nat, 
 (x2 = ((n4 : Nat) : Int)) ∧ (n4 < (slLen a100)) ∧ ∃ x5, ((ldC m3 (slAt a100 (n4 * 1))) = (some (Il x5))) ∧ 
 callP prog tbl [(.c (Il x5))] a200 m3 (fun v6 m7 => ∃ b8 : Bool, (v6 = (.c (.bool b8))) ∧ 
 ifB b8 (Q (.c (Il x2)) m7) (fitsP .i64 (x2 + 1) ∧ R0 [(.c (Il x1)), 
 (.c (Il (x2 + 1)))] m7))) (Q (.c (Il (-1 : Int))) m3)) → 
 R0 [(.c (Il x1)), (.c (Il x2))] m3) → R0 [(.c (Il 0)), 
 (.c (Il 0))] m)) : Wc prog tbl 103 [(.c a100), (.c a200)] m Q :=
 wc_eq (n := 2) rfl (by kernel_rfl) (by kernel_rfl) h
end
end Go.Proofs.YtkkkpgljkfakkaaGreat

namespace Go.Proofs.YtkkkpgljkfakkaaGreat
open _root_.Go.Proofs.Tryz
open Go.Abs
set_option maxRecDepth 100000
noncomputable section
theorem w4 {a100 : Int} {a101 : C} {a102 : C} {a103 : C} {m : M} {Q : V → M → Prop} (h :
 (∀ m0 : M, (m0 = (M.new m (AO.cells 4 [(Il a100), a101, a102, a103] false))) → ∃ x1, ∃ c2 : C, 
 ∃ c3 : C, ∃ c4 : C, ((ldA m0 (.ptr m.nxt 0) 4) = (some [(Il x1), c2, c3, c4])) ∧ 
 Wc prog tbl 13 [(.agg 4 [(Il x1), c2, c3, c4])] m0 (fun v5 m6 => ∃ b7 : Bool, (v5 = (.c (.bool b7))) ∧ 
 ifB b7 (∃ x8, ∃ c9 : C, ∃ c10 : C, ∃ c11 : C, ((ldA m6 (.ptr m.nxt 0) 4) = (some [(Il x8), 
 c9, c10, c11])) ∧ Wc prog tbl 14 [(.agg 4 [(Il x8), c9, c10, c11])] m6 (fun v12 m13 => 
 ∃ x14, (v12 = (.c (Il x14))) ∧ Q (.c (.bool (decide (x14 = 0)))) m13)) (Q (.c (.bool false)) m6)))) : Wc prog tbl 4 [(.agg 4 [(Il a100), a101, a102, a103])] m Q :=
 wc_eq (n := 1) rfl (by kernel_rfl) (by kernel_rfl) h
theorem w7 {a100 : Int} {a101 : Int} {a102 : Int} {a103 : Int} {a104 : Int} {a105 : Int} {a106 : Int} {m : M} {Q : V → M → Prop} (h :
 (∀ m0 : M, (m0 = (M.new m (AO.cells 7 [(Il a100), (Il a101), (Il a102), 
 (Il a103), (Il a104), (Il a105), (Il a106)] false))) → 
 isPt (.ptr m.nxt 0) ∧ ∃ x1 x2, ((ldA m0 (.ptr m.nxt 1) 2) = (some [(Il x1), 
 (Il x2)])) ∧ Wc prog tbl 24 [(.agg 2 [(Il x1), (Il x2)])] m0 (fun v3 m4 => 
 ∃ x5, (v3 = (.c (Il x5))) ∧ isPt (.ptr m.nxt 0) ∧ ∃ x6 x7, 
 ((ldA m4 (.ptr m.nxt 3) 2) = (some [(Il x6), (Il x7)])) ∧ 
 ((ldA m0 (.ptr m.nxt 3) 2) = (some [(Il x6), (Il x7)])) ∧ 
 Wc prog tbl 24 [(.agg 2 [(Il x6), (Il x7)])] m4 (fun v8 m9 => 
 ∃ x10, (v8 = (.c (Il x10))) ∧ ((0 : Int) ≤ x5) ∧ ((0 : Int) ≤ x10) ∧ 
 fitsP .i64 (x5 * x10) ∧ isPt (.ptr m.nxt 0) ∧ ∃ x11 x12, 
 ((ldA m9 (.ptr m.nxt 5) 2) = (some [(Il x11), (Il x12)])) ∧ 
 ((ldA m4 (.ptr m.nxt 5) 2) = (some [(Il x11), (Il x12)])) ∧ 
 ((ldA m0 (.ptr m.nxt 5) 2) = (some [(Il x11), (Il x12)])) ∧ 
 Wc prog tbl 24 [(.agg 2 [(Il x11), (Il x12)])] m9 (fun v13 m14 => 
 ∃ x15, (v13 = (.c (Il x15))) ∧ ((0 : Int) ≤ (x5 * x10)) ∧ 
 ((0 : Int) ≤ x15) ∧ fitsP .i64 ((x5 * x10) * x15) ∧ Q (.c (Il ((x5 * x10) * x15))) m14))))) : Wc prog tbl 7 [(.agg 7 [(Il a100), (Il a101), (Il a102), (Il a103), (Il a104), (Il a105), (Il a106)])] m Q :=
 wc_eq (n := 1) rfl (by kernel_rfl) (by kernel_rfl) h
theorem w9 {a100 : Int} {a101 : C} {a102 : C} {a103 : C} {a200 : Int} {a300 : Int} {a301 : Int} {a302 : Int} {m : M} {Q : V → M → Prop} (h :
 (∀ m0 : M, (m0 = (M.new m (AO.cells 4 [(Il a100), a101, a102, a103] false))) → ∀ m1 : M, (m1 = (M.new m0 (AO.cells 3 [(Il a300), 
 (Il a301), (Il a302)] false))) → ∃ x2, ∃ c3 : C, ∃ c4 : C, ∃ c5 : C, 
 ((ldA m1 (.ptr m.nxt 0) 4) = (some [(Il x2), c3, c4, c5])) ∧ ∃ x6, 
 ∃ x7 x8, ((ldA m1 (.ptr m0.nxt 0) 3) = (some [(Il x6), 
 (Il x7), (Il x8)])) ∧ Wc prog tbl 25 [(.agg 4 [(Il x2), 
 c3, c4, c5]), (.c (Il a200)), (.agg 3 [(Il x6), (Il x7), 
 (Il x8)])] m1 (fun v9 m10 => ∃ x11 x12 x13 x14, 
 ∃ x15 x16 x17 x18 x19 x20 x21, 
 ∃ x22 x23 x24 x25 x26, ∃ b27 : Bool, 
 (v9 = (.tup [(.agg 16 [(Il x11), (Il x12), (Il x13), 
 (Il x14), (Il x15), (Il x16), (Il x17), 
 (Il x18), (Il x19), (Il x20), (Il x21), 
 (Il x22), (Il x23), (Il x24), (Il x25), 
 (Il x26)]), (.c (.bool b27))])) ∧ ∀ m28 : M, (m28 = (M.new m10 (AO.cells 16 [(Il 0), 
 (Il 0), (Il 0), (Il 0), 
 (Il 0), (Il 0), (Il 0), 
 (Il 0), (Il 0), (Il 0), 
 (Il 0), (Il 0), (Il 0), 
 (Il 0), (Il 0), (Il 0)] false))) → 
 ∃ m29 : M, ((stC m28 (.ptr m10.nxt 0) 16 [(Il x11), (Il x12), 
 (Il x13), (Il x14), (Il x15), (Il x16), 
 (Il x17), (Il x18), (Il x19), (Il x20), 
 (Il x21), (Il x22), (Il x23), (Il x24), 
 (Il x25), (Il x26)]) = (some m29)) ∧ ifB (!b27) (Q (.c (Il 0)) m29) (isPt (.ptr m10.nxt 0) ∧ 
 ∃ x30 x31 x32 x33 x34 x35, 
 ∃ x36 x37 x38 x39 x40 x41, 
 ∃ x42, ((ldA m29 (.ptr m10.nxt 3) 13) = (some [(Il x30), 
 (Il x31), (Il x32), (Il x33), (Il x34), 
 (Il x35), (Il x36), (Il x37), (Il x38), 
 (Il x39), (Il x40), (Il x41), (Il x42)])) ∧ 
 Wc prog tbl 26 [(.agg 13 [(Il x30), (Il x31), 
 (Il x32), (Il x33), (Il x34), (Il x35), 
 (Il x36), (Il x37), (Il x38), (Il x39), 
 (Il x40), (Il x41), (Il x42)])] m29 (fun v43 m44 => 
 ∃ x45, (v43 = (.c (Il x45))) ∧ Q (.c (Il x45)) m44))))) : Wc prog tbl 9 [(.agg 4 [(Il a100), a101, a102, a103]), (.c (Il a200)), (.agg 3 [(Il a300), (Il a301), (Il a302)])] m Q :=
 wc_eq (n := 3) rfl (by kernel_rfl) (by kernel_rfl) h
theorem w11 {a100 : Int} {a101 : Int} {a102 : Int} {m : M} {Q : V → M → Prop} (h :
 (∀ m0 : M, (m0 = (M.new m (AO.cells 3 [(Il a100), (Il a101), (Il a102)] false))) → 
 ∀ m1 : M, (m1 = (M.new m0 (AO.cells 3 [(Il 0), (Il 0), (Il 0)] false))) → 
 isPt (.ptr m.nxt 0) ∧ ∃ x2, ((ldC m1 (.ptr m.nxt 0)) = (some (Il x2))) ∧ 
 isPt (.ptr m.nxt 0) ∧ ∃ x3, ((ldC m1 (.ptr m.nxt 1)) = (some (Il x3))) ∧ 
 isPt (.ptr m.nxt 0) ∧ ∃ x4, ((ldC m1 (.ptr m.nxt 2)) = (some (Il x4))) ∧ 
 ∃ m5 : M, ((stC m1 (.ptr m0.nxt 0) 3 [(Il x2), (Il x3), (Il x4)]) = (some m5)) ∧ 
 ∃ x6 x7 x8, ((ldA m5 (.ptr m0.nxt 0) 3) = (some [(Il x6), 
 (Il x7), (Il x8)])) ∧ Q (.agg 3 [(Il x6), 
 (Il x7), (Il x8)]) m5)) : Wc prog tbl 11 [(.agg 3 [(Il a100), (Il a101), (Il a102)])] m Q :=
 wc_eq (n := 1) rfl (by kernel_rfl) (by kernel_rfl) h
theorem w13 {a100 : Int} {a101 : C} {a102 : C} {a103 : C} {m : M} {Q : V → M → Prop} (h :
 (∀ m0 : M, (m0 = (M.new m (AO.cells 4 [(Il a100), a101, a102, a103] false))) → isPt (.ptr m.nxt 0) ∧ 
 ∃ c1 : C, ((ldC m0 (.ptr m.nxt 1)) = (some c1)) ∧ isSl c1 ∧ ifB (decide ((5 : Int) < (((slLen c1) : Nat) : Int))) (Q (.c (.bool false)) m0) (isPt (.ptr m.nxt 0) ∧ 
 ∃ c2 : C, ((ldC m0 (.ptr m.nxt 2)) = (some c2)) ∧ isSl c2 ∧ ifB (decide ((5 : Int) < (((slLen c2) : Nat) : Int))) (Q (.c (.bool false)) m0) (isPt (.ptr m.nxt 0) ∧ 
 ∃ c3 : C, ((ldC m0 (.ptr m.nxt 3)) = (some c3)) ∧ isSl c3 ∧ ifB (decide ((9 : Int) < (((slLen c3) : Nat) : Int))) (Q (.c (.bool false)) m0) (∀ R4 : List V → 
 M → Prop, (∀ b5 : Bool, ∀ x6 : Int, ∀ m7 : M, (isPt (.ptr m.nxt 0) ∧ ∃ c8 : C, ((ldC m7 (.ptr m.nxt 1)) = (some c8)) ∧ 
 isSl c8 ∧ ifB (decide (x6 < (((slLen c8) : Nat) : Int))) (isPt (.ptr m.nxt 0) ∧ 
 ∃ c9 : C, ((ldC m7 (.ptr m.nxt 1)) = (some c9)) ∧ ∃ n10 : Nat, (x6 = ((n10 : Nat) : Int)) ∧ 
 (n10 < (slLen c9)) ∧ ∃ c11 : C, ((ldC m7 (slAt c9 (n10 * 1))) = (some c11)) ∧ 
 isSl c11 ∧ ifB (decide ((20 : Int) < (((slLen c11) : Nat) : Int))) (Q (.c (.bool false)) m7) (fitsP .i64 (x6 + 1) ∧ 
 R4 [(.c (.bool b5)), (.c (Il (x6 + 1)))] m7)) (∃ x12, 
 ∃ c13 : C, ∃ c14 : C, ∃ c15 : C, ((ldA m7 (.ptr m.nxt 0) 4) = (some [(Il x12), 
 c13, c14, c15])) ∧ Wc prog tbl 14 [(.agg 4 [(Il x12), c13, c14, 
 c15])] m7 (fun v16 m17 => ∃ x18, (v16 = (.c (Il x18))) ∧ 
 ∀ R19 : List V → M → Prop, (∀ b20 : Bool, ∀ x21 : Int, ∀ m22 : M, (isPt (.ptr m.nxt 0) ∧ 
 ∃ c23 : C, ((ldC m22 (.ptr m.nxt 2)) = (some c23)) ∧ isSl c23 ∧ 
 ifB (decide (x21 < (((slLen c23) : Nat) : Int))) (ifB (!(!decide (x18 = 0))) (isPt (.ptr m.nxt 0) ∧ 
 ∃ c24 : C, ((ldC m22 (.ptr m.nxt 2)) = (some c24)) ∧ ∃ n25 : Nat, 
 (x21 = ((n25 : Nat) : Int)) ∧ (n25 < (slLen c24)) ∧ ∃ x26 x27, 
 ∃ x28 x29 x30 x31 x32, ((ldA m22 (slAt c24 (n25 * 7)) 7) = (some [(Il x26), 
 (Il x27), (Il x28), (Il x29), (Il x30), 
 (Il x31), (Il x32)])) ∧ Wc prog tbl 7 [(.agg 7 [(Il x26), 
 (Il x27), (Il x28), (Il x29), (Il x30), 
 (Il x31), (Il x32)])] m22 (fun v33 m34 => ∃ x35, 
 (v33 = (.c (Il x35))) ∧ ifB (decide ((200 : Int) < x35)) (Q (.c (.bool false)) m34) (fitsP .i64 (x21 + 1) ∧ 
 R19 [(.c (.bool b20)), (.c (Il (x21 + 1)))] m34))) (fitsP .i64 (x21 + 1) ∧ 
 R19 [(.c (.bool b20)), (.c (Il (x21 + 1)))] m22)) (Q (.c (.bool true)) m22)) → 
 R19 [(.c (.bool b20)), (.c (Il x21))] m22) → R19 [(.c (.bool b5)), 
 (.c (Il 0))] m17))) → R4 [(.c (.bool b5)), 
 (.c (Il x6))] m7) → R4 [(.c (.bool false)), (.c (Il 0))] m0))))) : Wc prog tbl 13 [(.agg 4 [(Il a100), a101, a102, a103])] m Q :=
 wc_eq (n := 1) rfl (by kernel_rfl) (by kernel_rfl) h
theorem w24 {a100 : Int} {a101 : Int} {m : M} {Q : V → M → Prop} (h :
 (∀ m0 : M, (m0 = (M.new m (AO.cells 2 [(Il a100), (Il a101)] false))) → isPt (.ptr m.nxt 0) ∧ 
 ∃ x1, ((ldC m0 (.ptr m.nxt 1)) = (some (Il x1))) ∧ isPt (.ptr m.nxt 0) ∧ 
 ∃ x2, ((ldC m0 (.ptr m.nxt 0)) = (some (Il x2))) ∧ fitsP .i64 (x1 - x2) ∧ 
 fitsP .i64 ((x1 - x2) + (1 : Int)) ∧ Q (.c (Il ((x1 - x2) + (1 : Int)))) m0)) : Wc prog tbl 24 [(.agg 2 [(Il a100), (Il a101)])] m Q :=
 wc_eq (n := 1) rfl (by kernel_rfl) (by kernel_rfl) h
theorem w26 {a100 : Int} {a101 : Int} {a102 : Int} {a103 : Int} {a104 : Int} {a105 : Int} {a106 : Int} {a107 : Int} {a108 : Int} {a109 : Int} {a110 : Int} {a111 : Int} {a112 : Int} {m : M} {Q : V → M → Prop} (h :
 (∀ m0 : M, (m0 = (M.new m (AO.cells 13 [(Il a100), (Il a101), (Il a102), 
 (Il a103), (Il a104), (Il a105), (Il a106), 
 (Il a107), (Il a108), (Il a109), (Il a110), 
 (Il a111), (Il a112)] false))) → isPt (.ptr m.nxt 0) ∧ ∃ n1 : Nat, 
 ((12 : Int) = ((n1 : Nat) : Int)) ∧ (n1 < 13) ∧ ∃ x2, ((ldC m0 (.ptr m.nxt (0 + (n1 * 1)))) = (some (Il x2))) ∧ 
 Q (.c (Il x2)) m0)) : Wc prog tbl 26 [(.agg 13 [(Il a100), (Il a101), (Il a102), (Il a103), (Il a104), (Il a105), (Il a106), (Il a107), (Il a108), (Il a109), (Il a110), (Il a111), (Il a112)])] m Q :=
 wc_eq (n := 1) rfl (by kernel_rfl) (by kernel_rfl) h
theorem w28 {a100 : Int} {a101 : C} {a102 : C} {a103 : C} {a200 : Int} {a300 : Int} {a301 : Int} {a302 : Int} {a400 : Int} {m : M} {Q : V → M → Prop} (h :
 (∀ m0 : M, (m0 = (M.new m (AO.cells 4 [(Il a100), a101, a102, a103] false))) → ∀ m1 : M, (m1 = (M.new m0 (AO.cells 3 [(Il a300), 
 (Il a301), (Il a302)] false))) → isPt (.ptr m0.nxt 0) ∧ ∃ x2, 
 ((ldC m1 (.ptr m0.nxt 0)) = (some (Il x2))) ∧ ifB (decide (a400 < x2)) (Q (.c (Il 0)) m1) (isPt (.ptr m0.nxt 0) ∧ 
 ∃ x3, ((ldC m1 (.ptr m0.nxt 0)) = (some (Il x3))) ∧ ifB (decide (a400 = x3)) (isPt (.ptr m0.nxt 0) ∧ 
 ∃ x4, ((ldC m1 (.ptr m0.nxt 1)) = (some (Il x4))) ∧ Q (.c (Il x4)) m1) (∃ x5, 
 ∃ c6 : C, ∃ c7 : C, ∃ c8 : C, ((ldA m1 (.ptr m.nxt 0) 4) = (some [(Il x5), 
 c6, c7, c8])) ∧ ∃ x9 x10 x11, ((ldA m1 (.ptr m0.nxt 0) 3) = (some [(Il x9), 
 (Il x10), (Il x11)])) ∧ fitsP .i64 (a400 - 1) ∧ 
 Wc prog tbl 28 [(.agg 4 [(Il x5), c6, c7, c8]), (.c (Il a200)), 
 (.agg 3 [(Il x9), (Il x10), (Il x11)]), 
 (.c (Il (a400 - 1)))] m1 (fun v12 m13 => ∃ x14, (v12 = (.c (Il x14))) ∧ 
 isPt (.ptr m.nxt 0) ∧ ∃ c15 : C, ((ldC m13 (.ptr m.nxt 1)) = (some c15)) ∧ 
 ∃ n16 : Nat, (a200 = ((n16 : Nat) : Int)) ∧ (n16 < (slLen c15)) ∧ ∃ c17 : C, 
 ((ldC m13 (slAt c15 (n16 * 1))) = (some c17)) ∧ ∃ n18 : Nat, (a400 = ((n18 : Nat) : Int)) ∧ 
 (n18 < (slLen c17)) ∧ ∃ x19, ((ldC m13 (slAt c17 (n18 * 1))) = (some (Il x19))) ∧ 
 ((0 : Int) ≤ x14) ∧ ((0 : Int) ≤ x19) ∧ fitsP .i64 (x14 * x19) ∧ ((0 : Int) ≤ (x14 * x19)) ∧ 
 ((0 : Int) < (100 : Int)) ∧ fitsP .i64 ((x14 * x19) / (100 : Int)) ∧ 
 fitsP .i64 (x14 - ((x14 * x19) / (100 : Int))) ∧ Q (.c (Il (x14 - ((x14 * x19) / (100 : Int))))) m13))))) : Wc prog tbl 28 [(.agg 4 [(Il a100), a101, a102, a103]), (.c (Il a200)), (.agg 3 [(Il a300), (Il a301), (Il a302)]), (.c (Il a400))] m Q :=
 wc_eq (n := 4) rfl (by kernel_rfl) (by kernel_rfl) h
theorem w30 {a100 : Int} {a200 : Int} {a300 : Int} {m : M} {Q : V → M → Prop} (h :
 (ifB (decide (a200 ≤ a100)) (Q (.c (.bool (decide (a100 ≤ a300)))) m) (Q (.c (.bool false)) m))) : Wc prog tbl 30 [(.c (Il a100)), (.c (Il a200)), (.c (Il a300))] m Q :=
 wc_eq (n := 3) rfl (by kernel_rfl) (by kernel_rfl) h
theorem w35 {a100 : Int} {a101 : C} {a102 : C} {a103 : C} {a200 : Int} {m : M} {Q : V → M → Prop} (h :
 (∀ m0 : M, (m0 = (M.new m (AO.cells 4 [(Il a100), a101, a102, a103] false))) → isPt (.ptr m.nxt 0) ∧ 
 ∃ x1, ((ldC m0 (.ptr m.nxt 0)) = (some (Il x1))) ∧ Wc prog tbl 59 [(.agg 2 [(Il 0), 
 (Il x1)]), (.c (Il a200))] m0 (fun v2 m3 => ∃ b4 : Bool, (v2 = (.c (.bool b4))) ∧ 
 Q (.c (.bool b4)) m3))) : Wc prog tbl 35 [(.agg 4 [(Il a100), a101, a102, a103]), (.c (Il a200))] m Q :=
 wc_eq (n := 2) rfl (by kernel_rfl) (by kernel_rfl) h
theorem w39 {a100 : Int} {m : M} {Q : V → M → Prop} (h :
 (Wc prog tbl 59 [(.agg 2 [(Il 0), (Il (100 : Int))]), (.c (Il a100))] m (fun v0 m1 => 
 ∃ b2 : Bool, (v0 = (.c (.bool b2))) ∧ Q (.c (.bool b2)) m1))) : Wc prog tbl 39 [(.c (Il a100))] m Q :=
 wc_eq (n := 1) rfl (by kernel_rfl) (by kernel_rfl) h
theorem w53 {a100 : Int} {a101 : C} {a102 : C} {a103 : C} {a200 : Int} {m : M} {Q : V → M → Prop} (h :
 (∀ m0 : M, (m0 = (M.new m (AO.cells 4 [(Il a100), a101, a102, a103] false))) → isPt (.ptr m.nxt 0) ∧ 
 ∃ c1 : C, ((ldC m0 (.ptr m.nxt 2)) = (some c1)) ∧ isSl c1 ∧ fitsP .i64 ((((slLen c1) : Nat) : Int) - (1 : Int)) ∧ 
 Wc prog tbl 59 [(.agg 2 [(Il 0), (Il ((((slLen c1) : Nat) : Int) - (1 : Int)))]), 
 (.c (Il a200))] m0 (fun v2 m3 => ∃ b4 : Bool, (v2 = (.c (.bool b4))) ∧ Q (.c (.bool b4)) m3))) : Wc prog tbl 53 [(.agg 4 [(Il a100), a101, a102, a103]), (.c (Il a200))] m Q :=
 wc_eq (n := 2) rfl (by kernel_rfl) (by kernel_rfl) h
theorem w55 {a100 : Int} {a101 : C} {a102 : C} {a103 : C} {a200 : Int} {a201 : Int} {a202 : Int} {a203 : Int} {m : M} {Q : V → M → Prop} (h :
 (∀ m0 : M, (m0 = (M.new m (AO.cells 4 [(Il a100), a101, a102, a103] false))) → ∀ m1 : M, (m1 = (M.new m0 (AO.cells 4 [(Il a200), 
 (Il a201), (Il a202), (Il a203)] false))) → ∀ m2 : M, 
 (m2 = (M.new m1 (AO.cells 13 [(Il 0), (Il 0), (Il 0), 
 (Il 0), (Il 0), (Il 0), (Il 0), 
 (Il 0), (Il 0), (Il 0), (Il 0), 
 (Il 0), (Il 0)] false))) → ∀ m3 : M, (m3 = (M.new m2 (AO.cells 13 [(Il 0), 
 (Il 0), (Il 0), (Il 0), (Il 0), 
 (Il 0), (Il 0), (Il 0), (Il 0), 
 (Il 0), (Il 0), (Il 0), (Il 0)] false))) → 
 ∀ R4 : List V → M → Prop, (∀ x5 : Int, ∀ x6 : Int, ∀ x7 : Int, ∀ m8 : M, (ifB (decide (x7 < 13)) (isPt (.ptr m0.nxt 0) ∧ 
 isPt (.ptr m0.nxt 0) ∧ ∃ x9, ((ldC m8 (.ptr m0.nxt 0)) = (some (Il x9))) ∧ 
 ifB (decide (x7 = x9)) (isPt (.ptr m0.nxt 0) ∧ isPt (.ptr m0.nxt 0) ∧ ∃ x10, 
 ((ldC m8 (.ptr m0.nxt 1)) = (some (Il x10))) ∧ isPt (.ptr m2.nxt 0) ∧ 
 ∃ n11 : Nat, (x7 = ((n11 : Nat) : Int)) ∧ (n11 < 13) ∧ ∃ m12 : M, ((stC m8 (.ptr m2.nxt (0 + (n11 * 1))) 1 [(Il x10)]) = (some m12)) ∧ 
 fitsP .i64 (x7 + 1) ∧ R4 [(.c (Il x10)), (.c (Il x10)), 
 (.c (Il (x7 + 1)))] m12) (isPt (.ptr m.nxt 0) ∧ 
 ∃ x13, ((ldC m8 (.ptr m.nxt 0)) = (some (Il x13))) ∧ 
 ifB (decide (x7 ≤ x13)) (isPt (.ptr m.nxt 0) ∧ ∃ c14 : C, ((ldC m8 (.ptr m.nxt 1)) = (some c14)) ∧ 
 isPt (.ptr m0.nxt 0) ∧ ∃ x15, ((ldC m8 (.ptr m0.nxt 3)) = (some (Il x15))) ∧ 
 ∃ n16 : Nat, (x15 = ((n16 : Nat) : Int)) ∧ (n16 < (slLen c14)) ∧ ∃ c17 : C, 
 ((ldC m8 (slAt c14 (n16 * 1))) = (some c17)) ∧ ∃ n18 : Nat, (x7 = ((n18 : Nat) : Int)) ∧ 
 (n18 < (slLen c17)) ∧ ∃ x19, ((ldC m8 (slAt c17 (n18 * 1))) = (some (Il x19))) ∧ 
 ((0 : Int) ≤ x5) ∧ ((0 : Int) ≤ x19) ∧ fitsP .i64 (x5 * x19) ∧ ((0 : Int) ≤ (x5 * x19)) ∧ 
 ((0 : Int) < (100 : Int)) ∧ fitsP .i64 ((x5 * x19) / (100 : Int)) ∧ 
 fitsP .i64 (x5 - ((x5 * x19) / (100 : Int))) ∧ isPt (.ptr m2.nxt 0) ∧ 
 ∃ n20 : Nat, (x7 = ((n20 : Nat) : Int)) ∧ (n20 < 13) ∧ ∃ m21 : M, ((stC m8 (.ptr m2.nxt (0 + (n20 * 1))) 1 [(Il (x5 - ((x5 * x19) / (100 : Int))))]) = (some m21)) ∧ 
 fitsP .i64 (x7 + 1) ∧ R4 [(.c (Il (x5 - ((x5 * x19) / (100 : Int))))), 
 (.c (Il (x5 - ((x5 * x19) / (100 : Int))))), (.c (Il (x7 + 1)))] m21) (isPt (.ptr m2.nxt 0) ∧ 
 ∃ n22 : Nat, (x7 = ((n22 : Nat) : Int)) ∧ (n22 < 13) ∧ ∃ m23 : M, ((stC m8 (.ptr m2.nxt (0 + (n22 * 1))) 1 [(Il x5)]) = (some m23)) ∧ 
 fitsP .i64 (x7 + 1) ∧ R4 [(.c (Il x5)), (.c (Il x5)), 
 (.c (Il (x7 + 1)))] m23))) (∃ x24, 
 ∃ x25 x26 x27 x28 x29 x30 x31, 
 ∃ x32 x33 x34 x35 x36, ((ldA m8 (.ptr m2.nxt 0) 13) = (some [(Il x24), 
 (Il x25), (Il x26), (Il x27), (Il x28), 
 (Il x29), (Il x30), (Il x31), (Il x32), 
 (Il x33), (Il x34), (Il x35), (Il x36)])) ∧ 
 ∃ m37 : M, ((stC m8 (.ptr m1.nxt 0) 13 [(Il x24), (Il x25), 
 (Il x26), (Il x27), (Il x28), (Il x29), 
 (Il x30), (Il x31), (Il x32), (Il x33), 
 (Il x34), (Il x35), (Il x36)]) = (some m37)) ∧ 
 ∃ x38 x39 x40 x41 x42 x43, 
 ∃ x44 x45 x46 x47 x48 x49, 
 ∃ x50, ((ldA m37 (.ptr m1.nxt 0) 13) = (some [(Il x38), 
 (Il x39), (Il x40), (Il x41), (Il x42), 
 (Il x43), (Il x44), (Il x45), (Il x46), 
 (Il x47), (Il x48), (Il x49), (Il x50)])) ∧ 
 Q (.agg 13 [(Il x38), (Il x39), (Il x40), 
 (Il x41), (Il x42), (Il x43), (Il x44), 
 (Il x45), (Il x46), (Il x47), (Il x48), 
 (Il x49), (Il x50)]) m37)) → 
 R4 [(.c (Il x5)), (.c (Il x6)), (.c (Il x7))] m8) → 
 R4 [(.c (Il 0)), (.c (Il 0)), (.c (Il 0))] m3)) : Wc prog tbl 55 [(.agg 4 [(Il a100), a101, a102, a103]), (.agg 4 [(Il a200), (Il a201), (Il a202), (Il a203)])] m Q :=
 wc_eq (n := 2) rfl (by kernel_rfl) (by kernel_rfl) h
theorem w59 {a100 : Int} {a101 : Int} {a200 : Int} {m : M} {Q : V → M → Prop} (h :
 (∀ m0 : M, (m0 = (M.new m (AO.cells 2 [(Il a100), (Il a101)] false))) → isPt (.ptr m.nxt 0) ∧ 
 ∃ x1, ((ldC m0 (.ptr m.nxt 0)) = (some (Il x1))) ∧ ifB (decide (x1 ≤ a200)) (isPt (.ptr m.nxt 0) ∧ 
 ∃ x2, ((ldC m0 (.ptr m.nxt 1)) = (some (Il x2))) ∧ Q (.c (.bool (decide (a200 ≤ x2)))) m0) (Q (.c (.bool false)) m0))) : Wc prog tbl 59 [(.agg 2 [(Il a100), (Il a101)]), (.c (Il a200))] m Q :=
 wc_eq (n := 2) rfl (by kernel_rfl) (by kernel_rfl) h
theorem w68 {a100 : Int} {a101 : C} {a102 : C} {a103 : C} {m : M} {Q : V → M → Prop} (h :
 (∀ m0 : M, (m0 = (M.new m (AO.cells 4 [(Il a100), a101, a102, a103] false))) → isPt (.ptr m.nxt 0) ∧ 
 ∃ x1, ((ldC m0 (.ptr m.nxt 0)) = (some (Il x1))) ∧ ifB (decide ((12 : Int) < x1)) (Q (.c (.bool true)) m0) (isPt (.ptr m.nxt 0) ∧ 
 ∃ c2 : C, ((ldC m0 (.ptr m.nxt 1)) = (some c2)) ∧ isSl c2 ∧ ifB (decide ((3 : Int) < (((slLen c2) : Nat) : Int))) (Q (.c (.bool true)) m0) (isPt (.ptr m.nxt 0) ∧ 
 ∃ c3 : C, ((ldC m0 (.ptr m.nxt 2)) = (some c3)) ∧ isSl c3 ∧ ifB (decide ((3 : Int) < (((slLen c3) : Nat) : Int))) (Q (.c (.bool true)) m0) (isPt (.ptr m.nxt 0) ∧ 
 ∃ c4 : C, ((ldC m0 (.ptr m.nxt 3)) = (some c4)) ∧ isSl c4 ∧ Q (.c (.bool (decide ((6 : Int) < (((slLen c4) : Nat) : Int))))) m0))))) : Wc prog tbl 68 [(.agg 4 [(Il a100), a101, a102, a103])] m Q :=
 wc_eq (n := 1) rfl (by kernel_rfl) (by kernel_rfl) h
theorem w70 {a100 : C} {a200 : C} {m : M} {Q : V → M → Prop} (h :
 (∀ m0 : M, (m0 = (M.new m (AO.cells 1 [a200] false))) → Wc prog tbl 85 [(.c a100), (.c (C.fn (Fn.func 86) [] [(W.c (C0.ptr m.nxt 0))]))] m0 (fun v1 m2 => 
 ∃ b3 : Bool, (v1 = (.c (.bool b3))) ∧ Q (.c (.bool (!b3))) m2))) : Wc prog tbl 70 [(.c a100), (.c a200)] m Q :=
 wc_eq (n := 2) rfl (by kernel_rfl) (by kernel_rfl) h
theorem w79 {a100 : C} {a200 : C} {m : M} {Q : V → M → Prop} (h :
 (∀ m0 : M, (m0 = (M.new m (AO.cells 1 [a200] false))) → Wc prog tbl 92 [(.c a100), (.c (C.fn (Fn.func 93) [] [(W.c (C0.ptr m.nxt 0))]))] m0 (fun v1 m2 => 
 ∃ b3 : Bool, (v1 = (.c (.bool b3))) ∧ Q (.c (.bool (!b3))) m2))) : Wc prog tbl 79 [(.c a100), (.c a200)] m Q :=
 wc_eq (n := 2) rfl (by kernel_rfl) (by kernel_rfl) h
theorem w82 {a100 : Int} {a101 : C} {a102 : C} {a103 : C} {a200 : C} {m : M} {Q : V → M → Prop} (h :
 (∀ m0 : M, (m0 = (M.new m (AO.cells 4 [(Il a100), a101, a102, a103] false))) → isSl a200 ∧ isPt (.ptr m.nxt 0) ∧ 
 ∃ x1, ((ldC m0 (.ptr m.nxt 0)) = (some (Il x1))) ∧ fitsP .i64 (x1 + 1) ∧ 
 ifB (decide ((((slLen a200) : Nat) : Int) = (x1 + 1))) (Wc prog tbl 96 [(.c a200), (.c (C.fn (Fn.func 39) [] []))] m0 (fun v2 m3 => 
 ∃ b4 : Bool, (v2 = (.c (.bool b4))) ∧ Q (.c (.bool b4)) m3)) (Q (.c (.bool false)) m0))) : Wc prog tbl 82 [(.agg 4 [(Il a100), a101, a102, a103]), (.c a200)] m Q :=
 wc_eq (n := 2) rfl (by kernel_rfl) (by kernel_rfl) h
theorem w84 {a100 : Int} {a101 : C} {a102 : C} {a103 : C} {a200 : Int} {a201 : Int} {a202 : Int} {a203 : Int} {m : M} {Q : V → M → Prop} (h :
 (∀ m0 : M, (m0 = (M.new m (AO.cells 4 [(Il a100), a101, a102, a103] false))) → ∀ m1 : M, (m1 = (M.new m0 (AO.cells 4 [(Il a200), 
 (Il a201), (Il a202), (Il a203)] false))) → ∃ x2, 
 ∃ c3 : C, ∃ c4 : C, ∃ c5 : C, ((ldA m1 (.ptr m.nxt 0) 4) = (some [(Il x2), 
 c3, c4, c5])) ∧ isPt (.ptr m0.nxt 0) ∧ ∃ x6, ((ldC m1 (.ptr m0.nxt 0)) = (some (Il x6))) ∧ 
 Wc prog tbl 53 [(.agg 4 [(Il x2), c3, c4, c5]), (.c (Il x6))] m1 (fun v7 m8 => 
 ∃ b9 : Bool, (v7 = (.c (.bool b9))) ∧ ifB b9 (∃ x10, ∃ c11 : C, ∃ c12 : C, ∃ c13 : C, 
 ((ldA m8 (.ptr m.nxt 0) 4) = (some [(Il x10), c11, c12, c13])) ∧ 
 isPt (.ptr m0.nxt 0) ∧ ∃ x14, ((ldC m8 (.ptr m0.nxt 1)) = (some (Il x14))) ∧ 
 Wc prog tbl 35 [(.agg 4 [(Il x10), c11, c12, c13]), (.c (Il x14))] m8 (fun v15 m16 => 
 ∃ b17 : Bool, (v15 = (.c (.bool b17))) ∧ ifB b17 (isPt (.ptr m0.nxt 0) ∧ 
 ∃ x18 x19, ((ldA m16 (.ptr m0.nxt 2) 2) = (some [(Il x18), 
 (Il x19)])) ∧ Wc prog tbl 97 [(.agg 2 [(Il x18), 
 (Il x19)]), (.c (Il 0)), (.c (Il (100 : Int)))] m16 (fun v20 m21 => 
 ∃ b22 : Bool, (v20 = (.c (.bool b22))) ∧ Q (.c (.bool b22)) m21)) (Q (.c (.bool false)) m16))) (Q (.c (.bool false)) m8)))) : Wc prog tbl 84 [(.agg 4 [(Il a100), a101, a102, a103]), (.agg 4 [(Il a200), (Il a201), (Il a202), (Il a203)])] m Q :=
 wc_eq (n := 2) rfl (by kernel_rfl) (by kernel_rfl) h
theorem w87 {a100 : Int} {a101 : Int} {m : M} {Q : V → M → Prop} (h :
 (∀ m0 : M, (m0 = (M.new m (AO.cells 2 [(Il a100), (Il a101)] false))) → isPt (.ptr m.nxt 0) ∧ 
 ∃ x1, ((ldC m0 (.ptr m.nxt 1)) = (some (Il x1))) ∧ isPt (.ptr m.nxt 0) ∧ 
 ∃ x2, ((ldC m0 (.ptr m.nxt 0)) = (some (Il x2))) ∧ fitsP .i64 (x1 - x2) ∧ 
 fitsP .i64 ((x1 - x2) + (1 : Int)) ∧ Q (.c (Il ((x1 - x2) + (1 : Int)))) m0)) : Wc prog tbl 87 [(.agg 2 [(Il a100), (Il a101)])] m Q :=
 wc_eq (n := 1) rfl (by kernel_rfl) (by kernel_rfl) h
theorem w92 {a100 : C} {a200 : C} {m : M} {Q : V → M → Prop} (h :
 (Wc prog tbl 99 [(.c a100), (.c a200)] m (fun v0 m1 => ∃ x2, (v0 = (.c (Il x2))) ∧ Q (.c (.bool (decide ((0 : Int) ≤ x2)))) m1))) : Wc prog tbl 92 [(.c a100), (.c a200)] m Q :=
 wc_eq (n := 2) rfl (by kernel_rfl) (by kernel_rfl) h
theorem w96 {a100 : C} {a200 : C} {m : M} {Q : V → M → Prop} (h :
 (∀ m0 : M, (m0 = (M.new m (AO.cells 1 [a200] false))) → Wc prog tbl 101 [(.c a100), (.c (C.fn (Fn.func 102) [] [(W.c (C0.ptr m.nxt 0))]))] m0 (fun v1 m2 => 
 ∃ b3 : Bool, (v1 = (.c (.bool b3))) ∧ Q (.c (.bool (!b3))) m2))) : Wc prog tbl 96 [(.c a100), (.c a200)] m Q :=
 wc_eq (n := 2) rfl (by kernel_rfl) (by kernel_rfl) h
theorem w98 {a100 : C} {a200 : C} {m : M} {Q : V → M → Prop} (h :
 (isSl a100 ∧ ∀ R0 : List V → M → Prop, (∀ x1 : Int, ∀ x2 : Int, ∀ m3 : M, (ifB (decide (x2 < (((slLen a100) : Nat) : Int))) (∃ n4 : Nat, 
 (x2 = ((n4 : Nat) : Int)) ∧ (n4 < (slLen a100)) ∧ ∃ x5 x6 x7 x8, 
 ∃ x9 x10 x11, ((ldA m3 (slAt a100 (n4 * 7)) 7) = (some [(Il x5), 
 (Il x6), (Il x7), (Il x8), (Il x9), 
 (Il x10), (Il x11)])) ∧ callP prog tbl [(.agg 7 [(Il x5), 
 (Il x6), (Il x7), (Il x8), (Il x9), 
 (Il x10), (Il x11)])] a200 m3 (fun v12 m13 => ∃ b14 : Bool, 
 (v12 = (.c (.bool b14))) ∧ ifB b14 (Q (.c (Il x2)) m13) (fitsP .i64 (x2 + 1) ∧ 
 R0 [(.c (Il x1)), (.c (Il (x2 + 1)))] m13))) (Q (.c (Il (-1 : Int))) m3)) → 
 R0 [(.c (Il x1)), (.c (Il x2))] m3) → R0 [(.c (Il 0)), 
 (.c (Il 0))] m)) : Wc prog tbl 98 [(.c a100), (.c a200)] m Q :=
 wc_eq (n := 2) rfl (by kernel_rfl) (by kernel_rfl) h
theorem w100 {a100 : C} {a200 : C} {m : M} {Q : V → M → Prop} (h :
 (isSl a100 ∧ ∀ R0 : List V → M → Prop, (∀ x1 : Int, ∀ x2 : Int, ∀ m3 : M, (ifB (decide (x2 < (((slLen a100) : Nat) : Int))) (∃ n4 : Nat, 
 (x2 = ((n4 : Nat) : Int)) ∧ (n4 < (slLen a100)) ∧ ∃ c5 : C, ((ldC m3 (slAt a100 (n4 * 1))) = (some c5)) ∧ 
 callP prog tbl [(.c c5)] a200 m3 (fun v6 m7 => ∃ b8 : Bool, (v6 = (.c (.bool b8))) ∧ ifB b8 (Q (.c (Il x2)) m7) (fitsP .i64 (x2 + 1) ∧ 
 R0 [(.c (Il x1)), (.c (Il (x2 + 1)))] m7))) (Q (.c (Il (-1 : Int))) m3)) → 
 R0 [(.c (Il x1)), (.c (Il x2))] m3) → R0 [(.c (Il 0)), 
 (.c (Il 0))] m)) : Wc prog tbl 100 [(.c a100), (.c a200)] m Q :=
 wc_eq (n := 2) rfl (by kernel_rfl) (by kernel_rfl) h
end
end Go.Proofs.YtkkkpgljkfakkaaGreat

