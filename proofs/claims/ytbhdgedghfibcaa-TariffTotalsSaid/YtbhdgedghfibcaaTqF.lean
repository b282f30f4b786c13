/- An evaluator of the code of a program, its soundness, what calls ask, memory, and what functions of the program do. Condition: none; a lemma text of this claim. -/
import Derived.Test.YtbhdgedghfibcaaTqE
import GoSem.Step
import GoSem.ClaimKeys
import Derived.DeepKeys2
import Derived.RangeFuncLeaves
import Derived.OrdersIn
import Derived.Laws.World
import Derived.Laws.Sem
import Derived.RangeFuncRecord
import Derived.Laws.CopyRow
import Derived.Laws.Append
import Derived.Laws.Rows
import Derived.Laws.Slices
import Derived.Laws.Entries
import Derived.ChangeKeysEq
import Derived.IntWalk
import Derived.DeepKeys
import Derived.DeepKeys3
import Derived.Laws.StructEq
import Derived.MapKept
import Derived.Laws.AppendOwn
import Derived.ChangeArms
import Derived.ChangeOld
import Derived.Carry
import Derived.ChangeShapes
import Derived.KernelRfl
import Derived.ProofKit

namespace Go.Proofs.Ytbhdgedghfibcaa
open _root_.Go.Proofs.Try
open Go.Abs
set_option maxRecDepth 100000
noncomputable section
structure Rg where
 Lo : Int
 Hi : Int
def ok_Rg (a : Rg) : Prop := (fitsP .i64 a.Lo) ∧ (fitsP .i64 a.Hi)
instance : MK Rg := ⟨fun k => .agg 2 [.int .i64 k.Lo, .int .i64 k.Hi], fun k => fitsP .i64 k.Lo ∧ fitsP .i64 k.Hi ∧ True⟩
instance : MV Rg := ⟨fun k => .agg 2 [.int .i64 k.Lo, .int .i64 k.Hi]⟩
instance : Rp Rg := ⟨2, by omega, fun _ cs a => cs = [.int .i64 a.Lo, .int .i64 a.Hi], fun h => by rw [h]; rfl, fun h _ => h⟩
structure Tf where
 From : Int
 Whole : Bool
 Least : Int
 Weeks : List Int
 Counts : List Int
 Rates : List (List (List Int))
def ok_Tf (a : Tf) : Prop := (fitsP .i64 a.From) ∧ (True) ∧ (fitsP .i64 a.Least) ∧ (a.Weeks.length ≤ maxLen ∧ ∀ a0 ∈ a.Weeks, fitsP .i64 a0) ∧ (a.Counts.length ≤ maxLen ∧ ∀ a0 ∈ a.Counts, fitsP .i64 a0) ∧ (a.Rates.length ≤ maxLen ∧ ∀ a0 ∈ a.Rates, a0.length ≤ maxLen ∧ ∀ a1 ∈ a0, a1.length ≤ maxLen ∧ ∀ a2 ∈ a1, fitsP .i64 a2)
instance : Rp Tf := ⟨6, by omega, fun f cs a => ∃ c3 c4 c5 : C, cs = [.int .i64 a.From, .bool a.Whole, .int .i64 a.Least, c3, c4, c5] ∧ Sl f c3 a.Weeks ∧ Sl f c4 a.Counts ∧ Sl f c5 a.Rates, fun h => by obtain ⟨c3, c4, c5, h, _, _, _⟩ := h; rw [h]; rfl, fun h s => by obtain ⟨c3, c4, c5, h, h0, h1, h2⟩ := h; exact ⟨c3, c4, c5, h, h0.subv s, h1.subv s, h2.subv s⟩⟩
theorem rd_Tf {f : M} {x : C} {l : List Tf} (h : Sl f x l) {n : Nat} {a : Tf} (hi : l[n]? = some a) : ∃ c3 c4 c5 : C, (∀ m, Sub f m → ldA m (slAt x (n * 6)) 6 = some [.int .i64 a.From, .bool a.Whole, .int .i64 a.Least, c3, c4, c5] ∧ (∀ j c, ([.int .i64 a.From, .bool a.Whole, .int .i64 a.Least, c3, c4, c5] : List C)[j]? = some c → ldC m (ptAdd (slAt x (n * 6)) j) = some c) ∧ ∀ j i, 0 < i → j + i ≤ 6 → ldA m (ptAdd (slAt x (n * 6)) j) i = some ((([.int .i64 a.From, .bool a.Whole, .int .i64 a.Least, c3, c4, c5] : List C).drop j).take i)) ∧ Sl f c3 a.Weeks ∧ Sl f c4 a.Counts ∧ Sl f c5 a.Rates := by
 obtain ⟨cs, q1, q2⟩ := h.rdP hi
 obtain ⟨c3, c4, c5, rfl, z0, z1, z2⟩ := q2
 exact ⟨c3, c4, c5, q1, z0, z1, z2⟩
structure Clm where
 Crop : Int
 Value : Int
 Day : Rg
 Count : Rg
def ok_Clm (a : Clm) : Prop := (fitsP .i64 a.Crop) ∧ (fitsP .i64 a.Value) ∧ (ok_Rg a.Day) ∧ (ok_Rg a.Count)
instance : MK Clm := ⟨fun k => .agg 6 [.int .i64 k.Crop, .int .i64 k.Value, .int .i64 k.Day.Lo, .int .i64 k.Day.Hi, .int .i64 k.Count.Lo, .int .i64 k.Count.Hi], fun k => fitsP .i64 k.Crop ∧ fitsP .i64 k.Value ∧ fitsP .i64 k.Day.Lo ∧ fitsP .i64 k.Day.Hi ∧ fitsP .i64 k.Count.Lo ∧ fitsP .i64 k.Count.Hi ∧ True⟩
instance : MV Clm := ⟨fun k => .agg 6 [.int .i64 k.Crop, .int .i64 k.Value, .int .i64 k.Day.Lo, .int .i64 k.Day.Hi, .int .i64 k.Count.Lo, .int .i64 k.Count.Hi]⟩
instance : Rp Clm := ⟨6, by omega, fun _ cs a => cs = [.int .i64 a.Crop, .int .i64 a.Value, .int .i64 a.Day.Lo, .int .i64 a.Day.Hi, .int .i64 a.Count.Lo, .int .i64 a.Count.Hi], fun h => by rw [h]; rfl, fun h _ => h⟩
theorem rd_Clm {f : M} {x : C} {l : List Clm} (h : Sl f x l) {n : Nat} {a : Clm} (hi : l[n]? = some a) : ∃ _u : Unit, (∀ m, Sub f m → ldA m (slAt x (n * 6)) 6 = some [.int .i64 a.Crop, .int .i64 a.Value, .int .i64 a.Day.Lo, .int .i64 a.Day.Hi, .int .i64 a.Count.Lo, .int .i64 a.Count.Hi] ∧ (∀ j c, ([.int .i64 a.Crop, .int .i64 a.Value, .int .i64 a.Day.Lo, .int .i64 a.Day.Hi, .int .i64 a.Count.Lo, .int .i64 a.Count.Hi] : List C)[j]? = some c → ldC m (ptAdd (slAt x (n * 6)) j) = some c) ∧ ∀ j i, 0 < i → j + i ≤ 6 → ldA m (ptAdd (slAt x (n * 6)) j) i = some ((([.int .i64 a.Crop, .int .i64 a.Value, .int .i64 a.Day.Lo, .int .i64 a.Day.Hi, .int .i64 a.Count.Lo, .int .i64 a.Count.Hi] : List C).drop j).take i)) := by
 obtain ⟨cs, q1, q2⟩ := h.rdP hi
 have q2 : cs = _ := q2
 subst q2
 exact ⟨(), q1⟩
structure Tr where
 Day : Int
 Count : Int
instance : MK Tr := ⟨fun k => .agg 2 [.int .i64 k.Day, .int .i64 k.Count], fun k => fitsP .i64 k.Day ∧ fitsP .i64 k.Count ∧ True⟩
instance : MV Tr := ⟨fun k => .agg 2 [.int .i64 k.Day, .int .i64 k.Count]⟩
instance : Rp Tr := ⟨2, by omega, fun _ cs a => cs = [.int .i64 a.Day, .int .i64 a.Count], fun h => by rw [h]; rfl, fun h _ => h⟩
structure Ht where
 Day : Int
 Count : Int
 crop : Int
instance : MK Ht := ⟨fun k => .agg 3 [.int .i64 k.Day, .int .i64 k.Count, .int .i64 k.crop], fun k => fitsP .i64 k.Day ∧ fitsP .i64 k.Count ∧ fitsP .i64 k.crop ∧ True⟩
instance : MV Ht := ⟨fun k => .agg 3 [.int .i64 k.Day, .int .i64 k.Count, .int .i64 k.crop]⟩
instance : Rp Ht := ⟨3, by omega, fun _ cs a => cs = [.int .i64 a.Day, .int .i64 a.Count, .int .i64 a.crop], fun h => by rw [h]; rfl, fun h _ => h⟩
structure Mnr where
 paid : Tf → Int → Option (Int)
structure Wk where
 tariffs : List Tf
 parts : Option (Ht → Option (Int))
def pawake : Option Bool := some true
def prIn (n : Int) (low : Int) (high : Int) : Option (Bool) := (if low ≤ n then (some (decide (n ≤ high))) else (some false))
def prRises_L0 (l : List Int) (most : Int) : Nat → Int → Option (Bool)
 | 0, _ => none
 | d4 + 1, x2 => (if x2 < (l.length : Int) then ((idx l x2).bind fun x6 => ((prIn x6 (0 : Int) most).bind fun r8 => (if r8 = true then (if (0 : Int) < x2 then ((idx l x2).bind fun x15 => (gd (fitsP .i64 (x2 - 1)) ((idx l (x2 - 1)).bind fun x18 => (if x15 ≤ x18 then (some false) else (gd (fitsP .i64 (x2 + 1)) (prRises_L0 l most d4 (x2 + 1))))))) else (gd (fitsP .i64 (x2 + 1)) (prRises_L0 l most d4 (x2 + 1)))) else (some false)))) else (if (0 : Int) < (l.length : Int) then ((idx l (0 : Int)).bind fun x24 => (some (decide (x24 = 0)))) else (some false)))
def prRises (l : List Int) (most : Int) : Option (Bool) := (prRises_L0 l most (l.length + 1) (0 : Int))
def prIsTariff_L2 (t : Tf) (x26 : Int) (x36 : Int) (K_R33 : Bool → Int → Option (Bool)) : Nat → Bool → Int → Option (Bool)
 | 0, _, _ => none
 | d91 + 1, b46, x47 => (if x47 < (t.Counts.length : Int) then ((idx t.Rates x26).bind fun v93 => ((idx v93 x36).bind fun v98 => ((idx v98 x47).bind fun x103 => ((prIn x103 (0 : Int) (100 : Int)).bind fun r105 => (if r105 = true then (gd (fitsP .i64 (x47 + 1)) (prIsTariff_L2 t x26 x36 K_R33 d91 b46 (x47 + 1))) else (some false)))))) else (gd (fitsP .i64 (x36 + 1)) (K_R33 b46 (x36 + 1))))
def prIsTariff_L1 (t : Tf) (x26 : Int) (K_R22 : Bool → Int → Option (Bool)) : Nat → Bool → Int → Option (Bool)
 | 0, _, _ => none
 | d76 + 1, b34, x36 => (if x36 < (t.Weeks.length : Int) then ((idx t.Rates x26).bind fun v78 => ((idx v78 x36).bind fun v83 => (if (v83.length : Int) = (t.Counts.length : Int) then (prIsTariff_L2 t x26 x36 (prIsTariff_L1 t x26 K_R22 d76) 1000000 b34 (0 : Int)) else (some false)))) else (gd (fitsP .i64 (x26 + 1)) (K_R22 b34 (x26 + 1))))
def prIsTariff_L0 (t : Tf) : Nat → Bool → Int → Option (Bool)
 | 0, _, _ => none
 | d66 + 1, b23, x26 => (if x26 < (t.Rates.length : Int) then ((idx t.Rates x26).bind fun v68 => (if (v68.length : Int) = (t.Weeks.length : Int) then (prIsTariff_L1 t x26 (prIsTariff_L0 t d66) 1000000 b23 (0 : Int)) else (some false))) else (some true))
def prIsTariff (t : Tf) : Option (Bool) := ((prIn t.From (0 : Int) (120 : Int)).bind fun r31 => (if r31 = true then ((prIn t.Least (0 : Int) (100 : Int)).bind fun r38 => (if r38 = true then ((prRises t.Weeks (120 : Int)).bind fun r45 => (if r45 = true then ((prRises t.Counts (100 : Int)).bind fun r52 => (if r52 = true then (gd (fitsP .i64 ((t.Counts.length : Int) - (1 : Int))) ((idx t.Counts ((t.Counts.length : Int) - (1 : Int))).bind fun x60 => (if x60 = 100 then (if (t.Rates.length : Int) = (0 : Int) then (some false) else (prIsTariff_L0 t 1000000 false (0 : Int))) else (some false)))) else (some false))) else (some false))) else (some false))) else (some false)))
def prFault_L1 (l : List Tf) : Nat → Int → Option (Int)
 | 0, _ => none
 | d153 + 1, x12 => (if x12 < (l.length : Int) then ((idx l x12).bind fun v155 => ((prIsTariff v155).bind fun r164 => (if r164 = true then ((idx l x12).bind fun v170 => ((idx l (0 : Int)).bind fun v179 => (if (v170.Rates.length : Int) = (v179.Rates.length : Int) then (if x12 = 0 then ((idx l x12).bind fun v190 => (if v190.From = (0 : Int) then (if (0 : Int) < x12 then ((idx l x12).bind fun v201 => (gd (fitsP .i64 (x12 - 1)) ((idx l (x12 - 1)).bind fun v211 => (if v201.From ≤ v211.From then (some (1 : Int)) else (gd (fitsP .i64 (x12 + 1)) (prFault_L1 l d153 (x12 + 1))))))) else (gd (fitsP .i64 (x12 + 1)) (prFault_L1 l d153 (x12 + 1)))) else (some (1 : Int)))) else (if (0 : Int) < x12 then ((idx l x12).bind fun v224 => (gd (fitsP .i64 (x12 - 1)) ((idx l (x12 - 1)).bind fun v234 => (if v224.From ≤ v234.From then (some (1 : Int)) else (gd (fitsP .i64 (x12 + 1)) (prFault_L1 l d153 (x12 + 1))))))) else (gd (fitsP .i64 (x12 + 1)) (prFault_L1 l d153 (x12 + 1))))) else (some (1 : Int))))) else (some (1 : Int))))) else (if (l.length : Int) = (0 : Int) then (some (1 : Int)) else (some (0 : Int))))
def prFault_L0 (l : List Tf) : Nat → Int → Int → Option (Int)
 | 0, _, _ => none
 | d118 + 1, x1, x2 => (if x2 < (l.length : Int) then ((idx l x2).bind fun v120 => (if (4 : Int) < (v120.Weeks.length : Int) then (some (3 : Int)) else ((idx l x2).bind fun v130 => (if (5 : Int) < (v130.Counts.length : Int) then (some (3 : Int)) else ((idx l x2).bind fun v140 => (if (3 : Int) < (v140.Rates.length : Int) then (some (3 : Int)) else (gd (fitsP .i64 (x2 + 1)) (prFault_L0 l d118 x1 (x2 + 1))))))))) else (prFault_L1 l (l.length + 1) (0 : Int)))
def prFault (l : List Tf) : Option (Int) := (if (3 : Int) < (l.length : Int) then (some (3 : Int)) else (prFault_L0 l (l.length + 1) (0 : Int) (0 : Int)))
def prLast_L0 (l : List Int) (n : Int) : Nat → Int → Option (Int)
 | 0, _ => none
 | d249 + 1, x1 => (gd (fitsP .i64 (x1 + 1)) (if (x1 + 1) < (l.length : Int) then (gd (fitsP .i64 (x1 + 1)) ((idx l (x1 + 1)).bind fun x253 => (if x253 ≤ n then (gd (fitsP .i64 (x1 + 1)) (prLast_L0 l n d249 (x1 + 1))) else (some x1)))) else (some x1)))
def prLast (l : List Int) (n : Int) : Option (Int) := (prLast_L0 l n 1000000 (0 : Int))
def prOf_L0 (l : List Tf) (day : Int) : Nat → (List Int) → Int → Option (Tf)
 | 0, _, _ => none
 | d266 + 1, l264, x3 => (if x3 < (l.length : Int) then ((idx l x3).bind fun v268 => (gd (l264.length < 1048576) (gd (fitsP .i64 (x3 + 1)) (prOf_L0 l day d266 (l264 ++ [v268.From]) (x3 + 1))))) else ((prLast l264 day).bind fun r293 => ((idx l r293).bind fun v300 => (some v300))))
def prOf (l : List Tf) (day : Int) : Option (Tf) := (prOf_L0 l day (l.length + 1) [] (0 : Int))
def prLoss (t : Tf) (crop : Int) (day : Int) (count : Int) : Option (Int) := ((idx t.Rates crop).bind fun v320 => ((prLast t.Weeks day).bind fun r325 => ((idx v320 r325).bind fun v331 => ((prLast t.Counts count).bind fun r336 => ((idx t.Counts r336).bind fun x342 => (if x342 = count then ((idx v331 r336).bind fun x345 => (some x345)) else (gd (fitsP .i64 (r336 + 1)) ((idx t.Counts (r336 + 1)).bind fun x348 => ((idx v331 r336).bind fun x350 => (gd (fitsP .i64 (x348 - count)) (gd ((0 : Int) ≤ x350) (gd ((0 : Int) ≤ (x348 - count)) (gd (fitsP .i64 (x350 * (x348 - count))) (gd (fitsP .i64 (r336 + 1)) ((idx v331 (r336 + 1)).bind fun x357 => (gd (fitsP .i64 (count - x342)) (gd ((0 : Int) ≤ x357) (gd ((0 : Int) ≤ (count - x342)) (gd (fitsP .i64 (x357 * (count - x342))) (gd (fitsP .i64 ((x350 * (x348 - count)) + (x357 * (count - x342)))) (gd (fitsP .i64 (x348 - x342)) (gd ((0 : Int) ≤ ((x350 * (x348 - count)) + (x357 * (count - x342)))) (gd ((0 : Int) < (x348 - x342)) (gd (fitsP .i64 (((x350 * (x348 - count)) + (x357 * (count - x342))) / (x348 - x342))) (some (((x350 * (x348 - count)) + (x357 * (count - x342))) / (x348 - x342)))))))))))))))))))))))))))
def prPart (l : List Tf) (crop : Int) (day : Int) (count : Int) : Option (Int) := ((prOf l day).bind fun r368 => ((prLoss r368 crop day count).bind fun r390 => (if r390 < r368.Least then (some (0 : Int)) else (if r368.Whole = true then (some r390) else (gd (fitsP .i64 (r390 - r368.Least)) (some (r390 - r368.Least)))))))
def prCrops (l : List Tf) : Option (Int) := ((idx l (0 : Int)).bind fun v399 => (some (v399.Rates.length : Int)))
def prIsClaim (l : List Tf) (c : Clm) : Option (Bool) := ((prCrops l).bind fun r413 => (gd (fitsP .i64 (r413 - 1)) ((prIn c.Crop (0 : Int) (r413 - 1)).bind fun r420 => (if r420 = true then ((prIn c.Value (0 : Int) (100000 : Int)).bind fun r427 => (if r427 = true then (if (0 : Int) ≤ c.Day.Lo then (if c.Day.Lo ≤ c.Day.Hi then (if c.Day.Hi ≤ (120 : Int) then (gd (fitsP .i64 (c.Day.Hi - c.Day.Lo)) (if (c.Day.Hi - c.Day.Lo) ≤ (10 : Int) then (if (0 : Int) ≤ c.Count.Lo then (if c.Count.Lo ≤ c.Count.Hi then (some (decide (c.Count.Hi ≤ (100 : Int)))) else (some false)) else (some false)) else (some false))) else (some false)) else (some false)) else (some false)) else (some false))) else (some false)))))
def prPay (l : List Tf) (c : Clm) (t : Tr) : Option (Int) := ((prPart l c.Crop t.Day t.Count).bind fun r478 => (gd ((0 : Int) ≤ c.Value) (gd ((0 : Int) ≤ r478) (gd (fitsP .i64 (c.Value * r478)) (gd ((0 : Int) ≤ (c.Value * r478)) (gd ((0 : Int) < (100 : Int)) (gd (fitsP .i64 ((c.Value * r478) / (100 : Int))) (some ((c.Value * r478) / (100 : Int))))))))))
def prBounds_L1 (l : List Tf) (c : Clm) (x10 : Int) (K_R9 : Int → Int → Int → Int → Int → Int → Int → Option (Rg × Tr × Tr)) : Nat → Int → Int → Int → Int → Int → Int → Int → Option (Rg × Tr × Tr)
 | 0, _, _, _, _, _, _, _ => none
 | d574 + 1, y568, y569, y570, y571, y572, y573, x15 => (if x15 ≤ c.Count.Hi then ((prPay l c ({ Day := x10, Count := x15 } : Tr)).bind fun r600 => (if r600 < y568 then (if y569 < r600 then (gd (fitsP .i64 (x15 + 1)) (prBounds_L1 l c x10 K_R9 d574 r600 r600 x10 x15 x10 x15 (x15 + 1))) else (gd (fitsP .i64 (x15 + 1)) (prBounds_L1 l c x10 K_R9 d574 r600 y569 x10 x15 y572 y573 (x15 + 1)))) else (if y569 < r600 then (gd (fitsP .i64 (x15 + 1)) (prBounds_L1 l c x10 K_R9 d574 y568 r600 y570 y571 x10 x15 (x15 + 1))) else (gd (fitsP .i64 (x15 + 1)) (prBounds_L1 l c x10 K_R9 d574 y568 y569 y570 y571 y572 y573 (x15 + 1)))))) else (gd (fitsP .i64 (x10 + 1)) (K_R9 y568 y569 y570 y571 y572 y573 (x10 + 1))))
def prBounds_L0 (l : List Tf) (c : Clm) : Nat → Int → Int → Int → Int → Int → Int → Int → Option (Rg × Tr × Tr)
 | 0, _, _, _, _, _, _, _ => none
 | d564 + 1, y558, y559, y560, y561, y562, y563, x10 => (if x10 ≤ c.Day.Hi then (prBounds_L1 l c x10 (prBounds_L0 l c d564) 1000000 y558 y559 y560 y561 y562 y563 c.Count.Lo) else (some (({ Lo := y558, Hi := y559 } : Rg), ({ Day := y560, Count := y561 } : Tr), ({ Day := y562, Count := y563 } : Tr))))
def prBounds (l : List Tf) (c : Clm) : Option (Rg × Tr × Tr) := (prBounds_L0 l c 1000000 (1099511627776 : Int) (-1 : Int) (0 : Int) (0 : Int) (0 : Int) (0 : Int) c.Day.Lo)
def prLeast_L0 (l : List Tf) (crop : Int) (day : Int) : Nat → Int → Option (Int)
 | 0, _ => none
 | d735 + 1, x2 => (if x2 ≤ 100 then ((prPart l crop day x2).bind fun r737 => (if (0 : Int) < r737 then (some x2) else (gd (fitsP .i64 (x2 + 1)) (prLeast_L0 l crop day d735 (x2 + 1))))) else (some (-1 : Int)))
def prLeast (l : List Tf) (crop : Int) (day : Int) : Option (Int) := (prLeast_L0 l crop day (((100 : Int) - (0 : Int) + 1).toNat + 1) (0 : Int))
def plTo (r : Rg) : Option (Rg) := (some r)
def plClaim (c : Clm) : Option (Clm) := ((plTo c.Day).bind fun r806 => ((plTo c.Count).bind fun r813 => (some ({ Crop := c.Crop, Value := c.Value, Day := r806, Count := r813 } : Clm))))
def plList (l : List Int) : Option (List Int) := (gd (([] : List Int).length + l.length ≤ 1048576) (some ([] ++ l)))
def plClaims_L0 (l : List Clm) : Nat → (List Clm) → Int → Option (List Clm)
 | 0, _, _ => none
 | d864 + 1, l862, x2 => (if x2 < (l.length : Int) then ((idx l x2).bind fun v866 => ((plClaim v866).bind fun r869 => (gd (l862.length < 1048576) (gd (fitsP .i64 (x2 + 1)) (plClaims_L0 l d864 (l862 ++ [r869]) (x2 + 1)))))) else (some l862))
def plClaims (l : List Clm) : Option (List Clm) := (plClaims_L0 l (l.length + 1) [] (0 : Int))
def plThin_L2 (l : List Tf) (x4 : Int) (x15 : Int) (K_R12 : Bool → Int → Option (Bool)) : Nat → Bool → Int → Option (Bool)
 | 0, _, _ => none
 | d953 + 1, b24, x25 => ((idx l x4).bind fun v954 => ((idx v954.Rates x15).bind fun v963 => (if x25 < (v963.length : Int) then ((idx l x4).bind fun v969 => ((idx v969.Rates x15).bind fun v978 => ((idx v978 x25).bind fun v983 => (if (7 : Int) < (v983.length : Int) then (some false) else (gd (fitsP .i64 (x25 + 1)) (plThin_L2 l x4 x15 K_R12 d953 b24 (x25 + 1))))))) else (gd (fitsP .i64 (x15 + 1)) (K_R12 b24 (x15 + 1))))))
def plThin_L1 (l : List Tf) (x4 : Int) (K_R0 : Bool → Int → Option (Bool)) : Nat → Bool → Int → Option (Bool)
 | 0, _, _ => none
 | d925 + 1, b13, x15 => ((idx l x4).bind fun v926 => (if x15 < (v926.Rates.length : Int) then ((idx l x4).bind fun v936 => ((idx v936.Rates x15).bind fun v945 => (if (7 : Int) < (v945.length : Int) then (some false) else (plThin_L2 l x4 x15 (plThin_L1 l x4 K_R0 d925) 1000000 b13 (0 : Int))))) else (gd (fitsP .i64 (x4 + 1)) (K_R0 b13 (x4 + 1)))))
def plThin_L0 (l : List Tf) : Nat → Bool → Int → Option (Bool)
 | 0, _, _ => none
 | d891 + 1, b1, x4 => (if x4 < (l.length : Int) then ((idx l x4).bind fun v893 => (if (7 : Int) < (v893.Weeks.length : Int) then (some false) else ((idx l x4).bind fun v903 => (if (7 : Int) < (v903.Counts.length : Int) then (some false) else ((idx l x4).bind fun v913 => (if (5 : Int) < (v913.Rates.length : Int) then (some false) else (plThin_L1 l x4 (plThin_L0 l d891) 1000000 b1 (0 : Int)))))))) else (some true))
def plThin (l : List Tf) : Option (Bool) := (if (5 : Int) < (l.length : Int) then (some false) else (plThin_L0 l (l.length + 1) false (0 : Int)))
def plFault (l : List Tf) : Option (Int) := ((prFault l).bind fun r992 => (some r992))
def plClaimed (l : List Tf) (c : Clm) : Option (Int) := ((plFault l).bind fun r1002 => (if r1002 = 0 then ((prIsClaim l c).bind fun r1009 => (if r1009 = true then (some (0 : Int)) else (some (2 : Int)))) else (some r1002)))
def phas (r : Rg) (n : Int) : Option (Bool) := (if r.Lo ≤ n then (some (decide (n ≤ r.Hi))) else (some false))
def pisIndex (n : Int) (size : Int) : Option (Bool) := (gd (fitsP .i64 (size - 1)) ((phas ({ Lo := (0 : Int), Hi := (size - 1) } : Rg) n).bind fun r1091 => (some r1091)))
def pisDay (n : Int) : Option (Bool) := ((phas ({ Lo := (0 : Int), Hi := (120 : Int) } : Rg) n).bind fun r1096 => (some r1096))
def pisCount (n : Int) : Option (Bool) := ((phas ({ Lo := (0 : Int), Hi := (100 : Int) } : Rg) n).bind fun r1101 => (some r1101))
def pisHundredths (n : Int) : Option (Bool) := ((phas ({ Lo := (0 : Int), Hi := (100 : Int) } : Rg) n).bind fun r1106 => (some r1106))
def prises_L0 (l : List Int) : Nat → Int → Option (Bool)
 | 0, _ => none
 | d1113 + 1, x2 => (if x2 < (l.length : Int) then ((idx l x2).bind fun x1115 => (if (0 : Int) < x2 then (gd (fitsP .i64 (x2 - 1)) ((idx l (x2 - 1)).bind fun x1119 => (if x1115 ≤ x1119 then (some false) else (gd (fitsP .i64 (x2 + 1)) (prises_L0 l d1113 (x2 + 1)))))) else (gd (fitsP .i64 (x2 + 1)) (prises_L0 l d1113 (x2 + 1))))) else (if (0 : Int) < (l.length : Int) then ((idx l (0 : Int)).bind fun x1125 => (some (decide (x1125 = 0)))) else (some false)))
def prises (l : List Int) : Option (Bool) := (prises_L0 l (l.length + 1) (0 : Int))
def pfroms_L0 (l : List Tf) : Nat → (List Int) → Int → Option (List Int)
 | 0, _, _ => none
 | d1131 + 1, l1129, x2 => (if x2 < (l.length : Int) then ((idx l x2).bind fun v1133 => (gd (l1129.length < 1048576) (gd (fitsP .i64 (x2 + 1)) (pfroms_L0 l d1131 (l1129 ++ [v1133.From]) (x2 + 1))))) else (some l1129))
def pfroms (l : List Tf) : Option (List Int) := (pfroms_L0 l (l.length + 1) [] (0 : Int))
def psameCrops (l : List Tf) (t : Tf) : Option (Bool) := ((idx l (0 : Int)).bind fun v1172 => (some (decide ((t.Rates.length : Int) = (v1172.Rates.length : Int)))))
def phasCrop (l : List Tf) (n : Int) : Option (Bool) := ((idx l (0 : Int)).bind fun v1181 => ((pisIndex n (v1181.Rates.length : Int)).bind fun r1190 => (some r1190)))
def ptfTooMany (t : Tf) : Option (Bool) := (if (4 : Int) < (t.Weeks.length : Int) then (some true) else (if (5 : Int) < (t.Counts.length : Int) then (some true) else (some (decide ((3 : Int) < (t.Rates.length : Int))))))
def pisNaN (x : Int) : Option (Bool) := (some (!(decide (x = x))))
def psNaN (x : Int) : Option (Bool) := (some (!(decide (x = x))))
def pless (x : Int) (y : Int) : Option (Bool) := ((pisNaN x).bind fun r1228 => (if r1228 = true then ((pisNaN y).bind fun r1234 => (if r1234 = true then (some (decide (x < y))) else (some true))) else (some (decide (x < y)))))
def pbsearch_L0 (l : List Int) (x : Int) : Nat → Int → Int → Option (Int × Bool)
 | 0, _, _ => none
 | d1257 + 1, x1, x2 => (if x1 < x2 then (gd (fitsP .i64 (x1 + x2)) (gd ((0 : Int) ≤ (wrapZ .u64 (x1 + x2))) (gd ((0 : Int) ≤ (1 : Int)) (gd ((1 : Int) ≤ (64 : Int)) (gd (fitsP .u64 ((wrapZ .u64 (x1 + x2)) / (2 : Int))) ((idx l (wrapZ .i64 ((wrapZ .u64 (x1 + x2)) / (2 : Int)))).bind fun x1264 => ((pless x1264 x).bind fun r1266 => (if r1266 = true then (gd (fitsP .i64 ((wrapZ .i64 ((wrapZ .u64 (x1 + x2)) / (2 : Int))) + (1 : Int))) (pbsearch_L0 l x d1257 ((wrapZ .i64 ((wrapZ .u64 (x1 + x2)) / (2 : Int))) + (1 : Int)) x2)) else (pbsearch_L0 l x d1257 x1 (wrapZ .i64 ((wrapZ .u64 (x1 + x2)) / (2 : Int)))))))))))) else (if x1 < (l.length : Int) then ((idx l x1).bind fun x1274 => (if x1274 = x then (some (x1, true)) else ((idx l x1).bind fun x1277 => ((psNaN x1277).bind fun r1279 => (if r1279 = true then ((psNaN x).bind fun r1285 => (some (x1, r1285))) else (some (x1, false))))))) else (some (x1, false))))
def pbsearch (l : List Int) (x : Int) : Option (Int × Bool) := (pbsearch_L0 l x (l.length + 1) (0 : Int) (l.length : Int))
def plast (days : List Int) (day : Int) : Option (Int) := (gd (fitsP .i64 (day + 1)) ((pbsearch days (day + 1)).bind fun r1291 => (gd (fitsP .i64 (r1291.1 - (1 : Int))) (some (r1291.1 - (1 : Int))))))
def ptfOf (l : List Tf) (day : Int) : Option (Tf) := ((pfroms l).bind fun r1302 => ((plast r1302 day).bind fun r1311 => ((idx l r1311).bind fun v1317 => (some v1317))))
def pwhole (t : Tf) (loss : Int) : Option (Int) := (some loss)
def paboveLeast (t : Tf) (loss : Int) : Option (Int) := (gd (fitsP .i64 (loss - t.Least)) (some (loss - t.Least)))
def ploss (t : Tf) (h : Ht) : Option (Int) := ((idx t.Rates h.crop).bind fun v1353 => ((plast t.Weeks h.Day).bind fun r1358 => ((idx v1353 r1358).bind fun v1365 => ((pbsearch t.Counts h.Count).bind fun r1370 => (if r1370.2 = true then ((idx v1365 r1370.1).bind fun x1378 => (some x1378)) else (gd (fitsP .i64 (r1370.1 - (1 : Int))) ((idx t.Counts (r1370.1 - (1 : Int))).bind fun x1381 => ((idx t.Counts r1370.1).bind fun x1383 => (gd (fitsP .i64 (r1370.1 - (1 : Int))) ((idx v1365 (r1370.1 - (1 : Int))).bind fun x1386 => (gd (fitsP .i64 (x1383 - h.Count)) (gd ((0 : Int) ≤ x1386) (gd ((0 : Int) ≤ (x1383 - h.Count)) (gd (fitsP .i64 (x1386 * (x1383 - h.Count))) ((idx v1365 r1370.1).bind fun x1392 => (gd (fitsP .i64 (h.Count - x1381)) (gd ((0 : Int) ≤ x1392) (gd ((0 : Int) ≤ (h.Count - x1381)) (gd (fitsP .i64 (x1392 * (h.Count - x1381))) (gd (fitsP .i64 ((x1386 * (x1383 - h.Count)) + (x1392 * (h.Count - x1381)))) (gd (fitsP .i64 (x1383 - x1381)) (gd ((0 : Int) ≤ ((x1386 * (x1383 - h.Count)) + (x1392 * (h.Count - x1381)))) (gd ((0 : Int) < (x1383 - x1381)) (gd (fitsP .i64 (((x1386 * (x1383 - h.Count)) + (x1392 * (h.Count - x1381))) / (x1383 - x1381))) (some (((x1386 * (x1383 - h.Count)) + (x1392 * (h.Count - x1381))) / (x1383 - x1381)))))))))))))))))))))))))))
def pminimum_L0 (l : List Int) : Nat → Int → Int → Option (Int)
 | 0, _, _ => none
 | d1408 + 1, x3, x4 => (if x4 < (l.length : Int) then ((idx l x4).bind fun x1410 => (if x1410 < x3 then (gd (fitsP .i64 (x4 + 1)) (pminimum_L0 l d1408 x1410 (x4 + 1))) else (gd (fitsP .i64 (x4 + 1)) (pminimum_L0 l d1408 x3 (x4 + 1))))) else (some x3))
def pminimum (l : List Int) : Option (Int) := (if (l.length : Int) = (0 : Int) then (some (0 : Int)) else ((idx l (0 : Int)).bind fun x1404 => (pminimum_L0 l (l.length + 1) x1404 (0 : Int))))
def psMax_L0 (l : List Int) : Nat → Int → Int → Option (Int)
 | 0, _, _ => none
 | d1420 + 1, x3, x4 => (if x4 < (l.length : Int) then ((idx l x4).bind fun x1422 => (gd (fitsP .i64 (x4 + 1)) (psMax_L0 l d1420 (max x3 x1422) (x4 + 1)))) else (some x3))
def psMax (l : List Int) : Option (Int) := (if (l.length : Int) < (1 : Int) then none else ((idx l (0 : Int)).bind fun x1416 => (psMax_L0 l (((l.length : Int) - (1 : Int)).toNat + 1) x1416 (1 : Int))))
def peachTf1 (x : Tf) (passes : Tf → Option (Bool)) : Option (Bool) := ((passes x).bind fun r1430 => (some (!r1430)))
def pindexTf_L0 (l : List Tf) (p : Tf → Option (Bool)) : Nat → Int → Option (Int)
 | 0, _ => none
 | d1438 + 1, x2 => (if x2 < (l.length : Int) then ((idx l x2).bind fun v1440 => ((p v1440).bind fun r1449 => (if r1449 = true then (some x2) else (gd (fitsP .i64 (x2 + 1)) (pindexTf_L0 l p d1438 (x2 + 1)))))) else (some (-1 : Int)))
def pindexTf (l : List Tf) (p : Tf → Option (Bool)) : Option (Int) := (pindexTf_L0 l p (l.length + 1) (0 : Int))
def pcontainsTf (l : List Tf) (p : Tf → Option (Bool)) : Option (Bool) := ((pindexTf l p).bind fun r1456 => (some (decide ((0 : Int) ≤ r1456))))
def peachTf (l : List Tf) (passes : Tf → Option (Bool)) : Option (Bool) := ((pcontainsTf l (fun a1470 => peachTf1 a1470 passes)).bind fun r1478 => (some (!r1478)))
def pindexTfs_L0 (l : List Tf) (p : Tf → Option (Bool)) : Nat → Int → Option (Int)
 | 0, _ => none
 | d1485 + 1, x2 => (if x2 < (l.length : Int) then ((idx l x2).bind fun v1487 => ((p v1487).bind fun r1496 => (if r1496 = true then (some x2) else (gd (fitsP .i64 (x2 + 1)) (pindexTfs_L0 l p d1485 (x2 + 1)))))) else (some (-1 : Int)))
def pindexTfs (l : List Tf) (p : Tf → Option (Bool)) : Option (Int) := (pindexTfs_L0 l p (l.length + 1) (0 : Int))
def pcontainsTfs (l : List Tf) (p : Tf → Option (Bool)) : Option (Bool) := ((pindexTfs l p).bind fun r1503 => (some (decide ((0 : Int) ≤ r1503))))
def peachCl1 (x : Clm) (passes : Clm → Option (Bool)) : Option (Bool) := ((passes x).bind fun r1513 => (some (!r1513)))
def pindexCl_L0 (l : List Clm) (p : Clm → Option (Bool)) : Nat → Int → Option (Int)
 | 0, _ => none
 | d1521 + 1, x2 => (if x2 < (l.length : Int) then ((idx l x2).bind fun v1523 => ((p v1523).bind fun r1526 => (if r1526 = true then (some x2) else (gd (fitsP .i64 (x2 + 1)) (pindexCl_L0 l p d1521 (x2 + 1)))))) else (some (-1 : Int)))
def pindexCl (l : List Clm) (p : Clm → Option (Bool)) : Option (Int) := (pindexCl_L0 l p (l.length + 1) (0 : Int))
def pcontainsCl (l : List Clm) (p : Clm → Option (Bool)) : Option (Bool) := ((pindexCl l p).bind fun r1533 => (some (decide ((0 : Int) ≤ r1533))))
def peachCl (l : List Clm) (passes : Clm → Option (Bool)) : Option (Bool) := ((pcontainsCl l (fun a1547 => peachCl1 a1547 passes)).bind fun r1549 => (some (!r1549)))
def peachI1 (x : Int) (passes : Int → Option (Bool)) : Option (Bool) := ((passes x).bind fun r1554 => (some (!r1554)))
def pindexI_L0 (l : List Int) (p : Int → Option (Bool)) : Nat → Int → Option (Int)
 | 0, _ => none
 | d1561 + 1, x2 => (if x2 < (l.length : Int) then ((idx l x2).bind fun x1563 => ((p x1563).bind fun r1565 => (if r1565 = true then (some x2) else (gd (fitsP .i64 (x2 + 1)) (pindexI_L0 l p d1561 (x2 + 1)))))) else (some (-1 : Int)))
def pindexI (l : List Int) (p : Int → Option (Bool)) : Option (Int) := (pindexI_L0 l p (l.length + 1) (0 : Int))
def pcontainsI (l : List Int) (p : Int → Option (Bool)) : Option (Bool) := ((pindexI l p).bind fun r1572 => (some (decide ((0 : Int) ≤ r1572))))
def peachI (l : List Int) (passes : Int → Option (Bool)) : Option (Bool) := ((pcontainsI l (fun a1586 => peachI1 a1586 passes)).bind fun r1588 => (some (!r1588)))
def peachL1 (x : List Int) (passes : List Int → Option (Bool)) : Option (Bool) := ((passes x).bind fun r1593 => (some (!r1593)))
def pindexL_L0 (l : List (List Int)) (p : List Int → Option (Bool)) : Nat → Int → Option (Int)
 | 0, _ => none
 | d1600 + 1, x2 => (if x2 < (l.length : Int) then ((idx l x2).bind fun v1602 => ((p v1602).bind fun r1607 => (if r1607 = true then (some x2) else (gd (fitsP .i64 (x2 + 1)) (pindexL_L0 l p d1600 (x2 + 1)))))) else (some (-1 : Int)))
def pindexL (l : List (List Int)) (p : List Int → Option (Bool)) : Option (Int) := (pindexL_L0 l p (l.length + 1) (0 : Int))
def pcontainsL (l : List (List Int)) (p : List Int → Option (Bool)) : Option (Bool) := ((pindexL l p).bind fun r1614 => (some (decide ((0 : Int) ≤ r1614))))
def peachL (l : List (List Int)) (passes : List Int → Option (Bool)) : Option (Bool) := ((pcontainsL l (fun a1628 => peachL1 a1628 passes)).bind fun r1632 => (some (!r1632)))
def peachLL1 (x : List (List Int)) (passes : List (List Int) → Option (Bool)) : Option (Bool) := ((passes x).bind fun r1637 => (some (!r1637)))
def pindexLL_L0 (l : List (List (List Int))) (p : List (List Int) → Option (Bool)) : Nat → Int → Option (Int)
 | 0, _ => none
 | d1644 + 1, x2 => (if x2 < (l.length : Int) then ((idx l x2).bind fun v1646 => ((p v1646).bind fun r1651 => (if r1651 = true then (some x2) else (gd (fitsP .i64 (x2 + 1)) (pindexLL_L0 l p d1644 (x2 + 1)))))) else (some (-1 : Int)))
def pindexLL (l : List (List (List Int))) (p : List (List Int) → Option (Bool)) : Option (Int) := (pindexLL_L0 l p (l.length + 1) (0 : Int))
def pcontainsLL (l : List (List (List Int))) (p : List (List Int) → Option (Bool)) : Option (Bool) := ((pindexLL l p).bind fun r1658 => (some (decide ((0 : Int) ≤ r1658))))
def peachLL (l : List (List (List Int))) (passes : List (List Int) → Option (Bool)) : Option (Bool) := ((pcontainsLL l (fun a1672 => peachLL1 a1672 passes)).bind fun r1676 => (some (!r1676)))
def pwithin (r : Rg) (passes : Int → Option (Bool)) : Option (Bool) := (if r.Lo ≤ r.Hi then ((passes r.Lo).bind fun r1687 => (if r1687 = true then ((passes r.Hi).bind fun r1694 => (some r1694)) else (some false))) else (some false))
def pvalidWeek (t : Tf) (rates : List Int) : Option (Bool) := (if (rates.length : Int) = (t.Counts.length : Int) then ((peachI rates (fun a1706 => pisHundredths a1706)).bind fun r1708 => (some r1708)) else (some false))
def pvalidCrop (t : Tf) (weeks : List (List Int)) : Option (Bool) := (if (weeks.length : Int) = (t.Weeks.length : Int) then ((peachL weeks (fun a1720 => pvalidWeek t a1720)).bind fun r1724 => (some r1724)) else (some false))
def ptfValid (t : Tf) : Option (Bool) := ((pisDay t.From).bind fun r1735 => (if r1735 = true then ((pisHundredths t.Least).bind fun r1742 => (if r1742 = true then ((prises t.Weeks).bind fun r1749 => (if r1749 = true then ((peachI t.Weeks (fun a1756 => pisDay a1756)).bind fun r1758 => (if r1758 = true then ((prises t.Counts).bind fun r1765 => (if r1765 = true then (gd (fitsP .i64 ((t.Counts.length : Int) - (1 : Int))) ((idx t.Counts ((t.Counts.length : Int) - (1 : Int))).bind fun x1773 => (if x1773 = 100 then (if (0 : Int) < (t.Rates.length : Int) then ((peachLL t.Rates (fun a1777 => pvalidCrop t a1777)).bind fun r1781 => (some r1781)) else (some false)) else (some false)))) else (some false))) else (some false))) else (some false))) else (some false))) else (some false)))
def ptooMany (l : List Tf) : Option (Bool) := (if (3 : Int) < (l.length : Int) then (some true) else ((pcontainsTfs l (fun a1788 => ptfTooMany a1788)).bind fun r1796 => (some r1796)))
def ptfsValid (l : List Tf) : Option (Bool) := ((peachTf l (fun a1801 => ptfValid a1801)).bind fun r1809 => (if r1809 = true then ((pfroms l).bind fun r1815 => ((prises r1815).bind fun r1823 => (if r1823 = true then ((peachTf l (fun a1829 => psameCrops l a1829)).bind fun r1837 => (some r1837)) else (some false)))) else (some false)))
def pvalidClaim (l : List Tf) (c : Clm) : Option (Bool) := ((phasCrop l c.Crop).bind fun r1847 => (if r1847 = true then ((phas ({ Lo := (0 : Int), Hi := (100000 : Int) } : Rg) c.Value).bind fun r1854 => (if r1854 = true then ((pwithin c.Day (fun a1861 => pisDay a1861)).bind fun r1863 => (if r1863 = true then (gd (fitsP .i64 (c.Day.Hi - c.Day.Lo)) (if (c.Day.Hi - c.Day.Lo) ≤ (10 : Int) then ((pwithin c.Count (fun a1872 => pisCount a1872)).bind fun r1874 => (some r1874)) else (some false))) else (some false))) else (some false))) else (some false)))
def pcheck (l : List Tf) : Option (Int) := ((ptooMany l).bind fun r1880 => (if r1880 = true then (some (3 : Int)) else ((ptfsValid l).bind fun r1886 => (if r1886 = true then (some (0 : Int)) else (some (1 : Int))))))
def pmanner (t : Tf) : Option (Mnr) := (if t.Whole = true then (some ({ paid := (fun a1936 a1937 => pwhole a1936 a1937) } : Mnr)) else (some ({ paid := (fun a1951 a1952 => paboveLeast a1951 a1952) } : Mnr)))
def ptfPart (t : Tf) (h : Ht) : Option (Int) := ((ploss t h).bind fun r1971 => (if r1971 < t.Least then (some (0 : Int)) else ((pmanner t).bind fun r1979 => ((r1979.paid t r1971).bind fun r1989 => (some r1989)))))
def popen (l : List Tf) : Option (Wk × Int) := ((pcheck l).bind fun r2001 => (if r2001 = 0 then (some (({ tariffs := l, parts := (some fun _ => none : Option (Ht → Option (Int))) } : Wk), (0 : Int))) else (some (({ tariffs := [], parts := none } : Wk), r2001))))
def popenFor (l : List Tf) (claims : List Clm) : Option (Wk × Int) := ((popen l).bind fun r2030 => (if r2030.2 = (0 : Int) then (if (5 : Int) < (claims.length : Int) then (some (({ tariffs := [], parts := none } : Wk), (3 : Int))) else ((peachCl claims (fun a2073 => pvalidClaim r2030.1.tariffs a2073)).bind fun r2075 => (if r2075 = true then (some (r2030.1, (0 : Int))) else (some (({ tariffs := [], parts := none } : Wk), (2 : Int)))))) else (some (({ tariffs := [], parts := none } : Wk), r2030.2))))
def ppart (w : Wk) (h : Ht) : Option (Int × Option (Ht → Option (Int))) := (gd (MK.fit h) (mcase (mget w.parts h) ((ptfOf w.tariffs h.Day).bind fun r2114 => ((ptfPart r2114 h).bind fun r2129 => (gd (MK.fit h) ((mset w.parts h r2129).bind fun w2138 => (some (r2129, w2138)))))) fun w2113 => (some (w2113, w.parts))))
def ppayment (w : Wk) (c : Clm) (t : Tr) : Option (Int × Option (Ht → Option (Int))) := ((ppart w ({ Day := t.Day, Count := t.Count, crop := c.Crop } : Ht)).bind fun r2168 => (gd ((0 : Int) ≤ c.Value) (gd ((0 : Int) ≤ r2168.1) (gd (fitsP .i64 (c.Value * r2168.1)) (gd ((0 : Int) ≤ (c.Value * r2168.1)) (gd ((0 : Int) < (100 : Int)) (gd (fitsP .i64 ((c.Value * r2168.1) / (100 : Int))) (some (((c.Value * r2168.1) / (100 : Int)), r2168.2)))))))))
def ptruthsI_L1 (c : Clm) (x2 : Int) (K_R1 : Int → Option (List Tr)) : Nat → Int → Option (List Tr)
 | 0, _ => none
 | d2196 + 1, x7 => (if x7 ≤ c.Count.Hi then (((gd (fitsP .i64 (x7 + 1)) (ptruthsI_L1 c x2 K_R1 d2196 (x7 + 1)))).bind fun r2198 => some (({ Day := x2, Count := x7 } : Tr) :: r2198)) else (gd (fitsP .i64 (x2 + 1)) (K_R1 (x2 + 1))))
def ptruthsI_L0 (c : Clm) : Nat → Int → Option (List Tr)
 | 0, _ => none
 | d2189 + 1, x2 => (if x2 ≤ c.Day.Hi then (ptruthsI_L1 c x2 (ptruthsI_L0 c d2189) 1000000 c.Count.Lo) else (some []))
def ptruthsI (c : Clm) : Option (List Tr) := (ptruthsI_L0 c 1000000 c.Day.Lo)
def ptruths (c : Clm) : Option (List Tr) := ((ptruthsI c).bind fun l2222 => (some l2222))
def pbounds_L0 (w : Wk) (c : Clm) : List Tr → (List Int) → (Option (Ht → Option (Int))) → Option (Rg × Option (Ht → Option (Int)))
 | [], y2351, w2355 => ((pminimum y2351).bind fun r2457 => ((psMax y2351).bind fun r2468 => (some (({ Lo := r2457, Hi := r2468 } : Rg), w2355))))
 | a2357 :: q2358, y2351, w2355 => ((ppayment ({ tariffs := w.tariffs, parts := w2355 } : Wk) c a2357).bind fun r2404 => (gd (y2351.length < 1048576) ((pbounds_L0 w c q2358) (y2351 ++ [r2404.1]) r2404.2)))
def pbounds (w : Wk) (c : Clm) : Option (Rg × Option (Ht → Option (Int))) := ((ptruths c).bind fun r2335 => (pbounds_L0 w c r2335 [] w.parts))
def pmaxFunc_L0 (l : List Tr) (cmp : Tr → Tr → (Option (Ht → Option (Int))) → Option (Int × Option (Ht → Option (Int)))) : Nat → Int → Int → (Option (Ht → Option (Int))) → Int → Option (Tr × Option (Ht → Option (Int)))
 | 0, _, _, _, _ => none
 | d2557 + 1, y2554, y2555, w2556, x7 => (if x7 < (l.length : Int) then ((idx l x7).bind fun v2559 => ((cmp v2559 ({ Day := y2554, Count := y2555 } : Tr) w2556).bind fun r2562 => (if (0 : Int) < r2562.1 then ((idx l x7).bind fun v2572 => (gd (fitsP .i64 (x7 + 1)) (pmaxFunc_L0 l cmp d2557 v2572.Day v2572.Count r2562.2 (x7 + 1)))) else (gd (fitsP .i64 (x7 + 1)) (pmaxFunc_L0 l cmp d2557 y2554 y2555 r2562.2 (x7 + 1)))))) else (some (({ Day := y2554, Count := y2555 } : Tr), w2556)))
def pTotal_L0 (claims : List Clm) (r2916 : Wk × Int) : Nat → Int → Int → (Option (Ht → Option (Int))) → Int → Option (Rg × Int)
 | 0, _, _, _, _ => none
 | d2964 + 1, y2961, y2962, w2963, x13 => (if x13 < (claims.length : Int) then ((idx claims x13).bind fun v2966 => ((pbounds ({ tariffs := r2916.1.tariffs, parts := w2963 } : Wk) v2966).bind fun r2987 => (gd (fitsP .i64 (y2961 + r2987.1.Lo)) (gd (fitsP .i64 (y2962 + r2987.1.Hi)) (gd (fitsP .i64 (x13 + 1)) (pTotal_L0 claims r2916 d2964 (y2961 + r2987.1.Lo) (y2962 + r2987.1.Hi) r2987.2 (x13 + 1))))))) else (some (({ Lo := y2961, Hi := y2962 } : Rg), (0 : Int))))
def pTotal (l : List Tf) (claims : List Clm) : Option (Rg × Int) := ((popenFor l claims).bind fun r2916 => (if r2916.2 = (0 : Int) then (pTotal_L0 claims r2916 (claims.length + 1) (0 : Int) (0 : Int) r2916.1.parts (0 : Int)) else (some (({ Lo := (0 : Int), Hi := (0 : Int) } : Rg), r2916.2))))
def pLeast_L0 (crop : Int) (day : Int) (r3201 : Wk × Int) : Nat → (Option (Ht → Option (Int))) → Int → Option (Int × Int)
 | 0, _, _ => none
 | d3245 + 1, w3244, x17 => (if x17 < 101 then ((ppart ({ tariffs := r3201.1.tariffs, parts := w3244 } : Wk) ({ Day := day, Count := x17, crop := crop } : Ht)).bind fun r3247 => (if (0 : Int) < r3247.1 then (some (x17, (0 : Int))) else (gd (fitsP .i64 (x17 + 1)) (pLeast_L0 crop day r3201 d3245 r3247.2 (x17 + 1))))) else (some ((0 : Int), (7 : Int))))
def pLeast (l : List Tf) (crop : Int) (day : Int) : Option (Int × Int) := ((popen l).bind fun r3201 => (if r3201.2 = (0 : Int) then ((phasCrop r3201.1.tariffs crop).bind fun r3226 => (if r3226 = true then ((pisDay day).bind fun r3234 => (if r3234 = true then (pLeast_L0 crop day r3201 (Int.toNat (101 : Int) + 1) r3201.1.parts (0 : Int)) else (some ((0 : Int), (2 : Int))))) else (some ((0 : Int), (2 : Int))))) else (some ((0 : Int), r3201.2))))
def plTariffs_L2 (l : List Tf) (x2 : Int) (y3345 : Int) (y3346 : Bool) (y3347 : Int) (y3348 : List (List (List Int))) (x24 : Int) (K_R23 : Int → Bool → Int → (List (List (List Int))) → Int → Option (List Tf)) : Nat → (List (List Int)) → Int → Option (List Tf)
 | 0, _, _ => none
 | d3367 + 1, l3365, x30 => ((idx l x2).bind fun v3368 => ((idx v3368.Rates x24).bind fun v3377 => (if x30 < (v3377.length : Int) then ((idx l x2).bind fun v3383 => ((idx v3383.Rates x24).bind fun v3392 => ((idx v3392 x30).bind fun v3397 => ((plList v3397).bind fun r3402 => (gd (l3365.length < 1048576) (gd (fitsP .i64 (x30 + 1)) (plTariffs_L2 l x2 y3345 y3346 y3347 y3348 x24 K_R23 d3367 (l3365 ++ [r3402]) (x30 + 1)))))))) else (gd (y3348.length < 1048576) (gd (fitsP .i64 (x24 + 1)) (K_R23 y3345 y3346 y3347 (y3348 ++ [l3365]) (x24 + 1)))))))
def plTariffs_L1 (l : List Tf) (l3260 : List Tf) (x2 : Int) (r3306 : List Int) (r3324 : List Int) (K_R0 : (List Tf) → Int → Option (List Tf)) : Nat → Int → Bool → Int → (List (List (List Int))) → Int → Option (List Tf)
 | 0, _, _, _, _, _ => none
 | d3351 + 1, y3345, y3346, y3347, y3348, x24 => ((idx l x2).bind fun v3352 => (if x24 < (v3352.Rates.length : Int) then (plTariffs_L2 l x2 y3345 y3346 y3347 y3348 x24 (plTariffs_L1 l l3260 x2 r3306 r3324 K_R0 d3351) 1000000 [] (0 : Int)) else (gd (l3260.length < 1048576) (gd (fitsP .i64 (x2 + 1)) (K_R0 (l3260 ++ [({ From := y3345, Whole := y3346, Least := y3347, Weeks := r3306, Counts := r3324, Rates := y3348 } : Tf)]) (x2 + 1))))))
def plTariffs_L0 (l : List Tf) : Nat → (List Tf) → Int → Option (List Tf)
 | 0, _, _ => none
 | d3262 + 1, l3260, x2 => (if x2 < (l.length : Int) then ((idx l x2).bind fun v3270 => ((idx l x2).bind fun v3279 => ((idx l x2).bind fun v3288 => ((idx l x2).bind fun v3297 => ((plList v3297.Weeks).bind fun r3306 => ((idx l x2).bind fun v3315 => ((plList v3315.Counts).bind fun r3324 => (plTariffs_L1 l l3260 x2 r3306 r3324 (plTariffs_L0 l d3262) 1000000 v3270.From v3279.Whole v3288.Least [] (0 : Int))))))))) else (some l3260))
def plTariffs (l : List Tf) : Option (List Tf) := (plTariffs_L0 l (l.length + 1) [] (0 : Int))
end
end Go.Proofs.Ytbhdgedghfibcaa

namespace Go.Proofs.Ytbhdgedghfibcaa
open _root_.Go.Proofs.Try
open Go.Abs
set_option maxRecDepth 100000
noncomputable section
def pTariffTotals_L0 (l : List Tf) (claims : List Clm) (r47 : Rg × Int) : Nat → Int → Int → Int → Int → Option (Bool)
 | 0, _, _, _, _ => none
 | d103 + 1, y101, y102, x43, x44 => (if x44 < (claims.length : Int) then (if x43 = 0 then ((idx claims x44).bind fun v106 => ((plClaimed l v106).bind fun r109 => (if r109 = 0 then ((idx claims x44).bind fun v117 => ((prBounds l v117).bind fun r120 => (gd (fitsP .i64 (y101 + r120.1.Lo)) (gd (fitsP .i64 (y102 + r120.1.Hi)) (gd (fitsP .i64 (x44 + 1)) (pTariffTotals_L0 l claims r47 d103 (y101 + r120.1.Lo) (y102 + r120.1.Hi) r109 (x44 + 1))))))) else (gd (fitsP .i64 (x44 + 1)) (pTariffTotals_L0 l claims r47 d103 y101 y102 r109 (x44 + 1)))))) else (if r47.2 = x43 then (gd (fitsP .i64 r47.1.Lo) (gd (fitsP .i64 (0 : Int)) (gd (fitsP .i64 r47.1.Hi) (gd (fitsP .i64 (0 : Int)) (if ((decide (r47.1.Lo = (0 : Int))) && (decide (r47.1.Hi = (0 : Int)))) = true then ((pawake).bind fun r197 => (some r197)) else (some false)))))) else (some false))) else (if x43 = 0 then (if r47.2 = (0 : Int) then ((plTo ({ Lo := y101, Hi := y102 } : Rg)).bind fun r219 => (gd (fitsP .i64 r47.1.Lo) (gd (fitsP .i64 r219.Lo) (gd (fitsP .i64 r47.1.Hi) (gd (fitsP .i64 r219.Hi) (if ((decide (r47.1.Lo = r219.Lo)) && (decide (r47.1.Hi = r219.Hi))) = true then ((pawake).bind fun r231 => (some r231)) else (some false))))))) else (some false)) else (if r47.2 = x43 then (gd (fitsP .i64 r47.1.Lo) (gd (fitsP .i64 (0 : Int)) (gd (fitsP .i64 r47.1.Hi) (gd (fitsP .i64 (0 : Int)) (if ((decide (r47.1.Lo = (0 : Int))) && (decide (r47.1.Hi = (0 : Int)))) = true then ((pawake).bind fun r211 => (some r211)) else (some false)))))) else (some false))))
def pTariffTotals_L1 (l : List Tf) (claims : List Clm) (r47 : Rg × Int) : Nat → Int → Int → Int → Int → Option (Bool)
 | 0, _, _, _, _ => none
 | d248 + 1, y246, y247, x116, x117 => (if x117 < (claims.length : Int) then (if x116 = 0 then ((idx claims x117).bind fun v251 => ((plClaimed l v251).bind fun r254 => (if r254 = 0 then ((idx claims x117).bind fun v262 => ((prBounds l v262).bind fun r265 => (gd (fitsP .i64 (y246 + r265.1.Lo)) (gd (fitsP .i64 (y247 + r265.1.Hi)) (gd (fitsP .i64 (x117 + 1)) (pTariffTotals_L1 l claims r47 d248 (y246 + r265.1.Lo) (y247 + r265.1.Hi) r254 (x117 + 1))))))) else (gd (fitsP .i64 (x117 + 1)) (pTariffTotals_L1 l claims r47 d248 y246 y247 r254 (x117 + 1)))))) else (if r47.2 = x116 then (gd (fitsP .i64 r47.1.Lo) (gd (fitsP .i64 (0 : Int)) (gd (fitsP .i64 r47.1.Hi) (gd (fitsP .i64 (0 : Int)) (if ((decide (r47.1.Lo = (0 : Int))) && (decide (r47.1.Hi = (0 : Int)))) = true then ((pawake).bind fun r342 => (some r342)) else (some false)))))) else (some false))) else (if x116 = 0 then (if r47.2 = (0 : Int) then ((plTo ({ Lo := y246, Hi := y247 } : Rg)).bind fun r364 => (gd (fitsP .i64 r47.1.Lo) (gd (fitsP .i64 r364.Lo) (gd (fitsP .i64 r47.1.Hi) (gd (fitsP .i64 r364.Hi) (if ((decide (r47.1.Lo = r364.Lo)) && (decide (r47.1.Hi = r364.Hi))) = true then ((pawake).bind fun r376 => (some r376)) else (some false))))))) else (some false)) else (if r47.2 = x116 then (gd (fitsP .i64 r47.1.Lo) (gd (fitsP .i64 (0 : Int)) (gd (fitsP .i64 r47.1.Hi) (gd (fitsP .i64 (0 : Int)) (if ((decide (r47.1.Lo = (0 : Int))) && (decide (r47.1.Hi = (0 : Int)))) = true then ((pawake).bind fun r356 => (some r356)) else (some false)))))) else (some false))))
def pTariffTotals_L2 (l : List Tf) (claims : List Clm) (r47 : Rg × Int) : Nat → Int → Int → Int → Int → Option (Bool)
 | 0, _, _, _, _ => none
 | d393 + 1, y391, y392, x189, x190 => (if x190 < (claims.length : Int) then (if x189 = 0 then ((idx claims x190).bind fun v396 => ((plClaimed l v396).bind fun r399 => (if r399 = 0 then ((idx claims x190).bind fun v407 => ((prBounds l v407).bind fun r410 => (gd (fitsP .i64 (y391 + r410.1.Lo)) (gd (fitsP .i64 (y392 + r410.1.Hi)) (gd (fitsP .i64 (x190 + 1)) (pTariffTotals_L2 l claims r47 d393 (y391 + r410.1.Lo) (y392 + r410.1.Hi) r399 (x190 + 1))))))) else (gd (fitsP .i64 (x190 + 1)) (pTariffTotals_L2 l claims r47 d393 y391 y392 r399 (x190 + 1)))))) else (if r47.2 = x189 then (gd (fitsP .i64 r47.1.Lo) (gd (fitsP .i64 (0 : Int)) (gd (fitsP .i64 r47.1.Hi) (gd (fitsP .i64 (0 : Int)) (if ((decide (r47.1.Lo = (0 : Int))) && (decide (r47.1.Hi = (0 : Int)))) = true then ((pawake).bind fun r487 => (some r487)) else (some false)))))) else (some false))) else (if x189 = 0 then (if r47.2 = (0 : Int) then ((plTo ({ Lo := y391, Hi := y392 } : Rg)).bind fun r509 => (gd (fitsP .i64 r47.1.Lo) (gd (fitsP .i64 r509.Lo) (gd (fitsP .i64 r47.1.Hi) (gd (fitsP .i64 r509.Hi) (if ((decide (r47.1.Lo = r509.Lo)) && (decide (r47.1.Hi = r509.Hi))) = true then ((pawake).bind fun r521 => (some r521)) else (some false))))))) else (some false)) else (if r47.2 = x189 then (gd (fitsP .i64 r47.1.Lo) (gd (fitsP .i64 (0 : Int)) (gd (fitsP .i64 r47.1.Hi) (gd (fitsP .i64 (0 : Int)) (if ((decide (r47.1.Lo = (0 : Int))) && (decide (r47.1.Hi = (0 : Int)))) = true then ((pawake).bind fun r501 => (some r501)) else (some false)))))) else (some false))))
def pTariffTotals_L3 (l : List Tf) (claims : List Clm) (r47 : Rg × Int) : Nat → Int → Int → Int → Int → Option (Bool)
 | 0, _, _, _, _ => none
 | d549 + 1, y547, y548, x265, x266 => (if x266 < (claims.length : Int) then (if x265 = 0 then ((idx claims x266).bind fun v552 => ((plClaimed l v552).bind fun r555 => (if r555 = 0 then ((idx claims x266).bind fun v563 => ((prBounds l v563).bind fun r566 => (gd (fitsP .i64 (y547 + r566.1.Lo)) (gd (fitsP .i64 (y548 + r566.1.Hi)) (gd (fitsP .i64 (x266 + 1)) (pTariffTotals_L3 l claims r47 d549 (y547 + r566.1.Lo) (y548 + r566.1.Hi) r555 (x266 + 1))))))) else (gd (fitsP .i64 (x266 + 1)) (pTariffTotals_L3 l claims r47 d549 y547 y548 r555 (x266 + 1)))))) else (if r47.2 = x265 then (gd (fitsP .i64 r47.1.Lo) (gd (fitsP .i64 (0 : Int)) (gd (fitsP .i64 r47.1.Hi) (gd (fitsP .i64 (0 : Int)) (if ((decide (r47.1.Lo = (0 : Int))) && (decide (r47.1.Hi = (0 : Int)))) = true then ((pawake).bind fun r643 => (some r643)) else (some false)))))) else (some false))) else (if x265 = 0 then (if r47.2 = (0 : Int) then ((plTo ({ Lo := y547, Hi := y548 } : Rg)).bind fun r665 => (gd (fitsP .i64 r47.1.Lo) (gd (fitsP .i64 r665.Lo) (gd (fitsP .i64 r47.1.Hi) (gd (fitsP .i64 r665.Hi) (if ((decide (r47.1.Lo = r665.Lo)) && (decide (r47.1.Hi = r665.Hi))) = true then ((pawake).bind fun r677 => (some r677)) else (some false))))))) else (some false)) else (if r47.2 = x265 then (gd (fitsP .i64 r47.1.Lo) (gd (fitsP .i64 (0 : Int)) (gd (fitsP .i64 r47.1.Hi) (gd (fitsP .i64 (0 : Int)) (if ((decide (r47.1.Lo = (0 : Int))) && (decide (r47.1.Hi = (0 : Int)))) = true then ((pawake).bind fun r657 => (some r657)) else (some false)))))) else (some false))))
def pTariffTotals_L4 (l : List Tf) (claims : List Clm) (r47 : Rg × Int) : Nat → Int → Int → Int → Int → Option (Bool)
 | 0, _, _, _, _ => none
 | d694 + 1, y692, y693, x338, x339 => (if x339 < (claims.length : Int) then (if x338 = 0 then ((idx claims x339).bind fun v697 => ((plClaimed l v697).bind fun r700 => (if r700 = 0 then ((idx claims x339).bind fun v708 => ((prBounds l v708).bind fun r711 => (gd (fitsP .i64 (y692 + r711.1.Lo)) (gd (fitsP .i64 (y693 + r711.1.Hi)) (gd (fitsP .i64 (x339 + 1)) (pTariffTotals_L4 l claims r47 d694 (y692 + r711.1.Lo) (y693 + r711.1.Hi) r700 (x339 + 1))))))) else (gd (fitsP .i64 (x339 + 1)) (pTariffTotals_L4 l claims r47 d694 y692 y693 r700 (x339 + 1)))))) else (if r47.2 = x338 then (gd (fitsP .i64 r47.1.Lo) (gd (fitsP .i64 (0 : Int)) (gd (fitsP .i64 r47.1.Hi) (gd (fitsP .i64 (0 : Int)) (if ((decide (r47.1.Lo = (0 : Int))) && (decide (r47.1.Hi = (0 : Int)))) = true then ((pawake).bind fun r788 => (some r788)) else (some false)))))) else (some false))) else (if x338 = 0 then (if r47.2 = (0 : Int) then ((plTo ({ Lo := y692, Hi := y693 } : Rg)).bind fun r810 => (gd (fitsP .i64 r47.1.Lo) (gd (fitsP .i64 r810.Lo) (gd (fitsP .i64 r47.1.Hi) (gd (fitsP .i64 r810.Hi) (if ((decide (r47.1.Lo = r810.Lo)) && (decide (r47.1.Hi = r810.Hi))) = true then ((pawake).bind fun r822 => (some r822)) else (some false))))))) else (some false)) else (if r47.2 = x338 then (gd (fitsP .i64 r47.1.Lo) (gd (fitsP .i64 (0 : Int)) (gd (fitsP .i64 r47.1.Hi) (gd (fitsP .i64 (0 : Int)) (if ((decide (r47.1.Lo = (0 : Int))) && (decide (r47.1.Hi = (0 : Int)))) = true then ((pawake).bind fun r802 => (some r802)) else (some false)))))) else (some false))))
def pTariffTotals_L5 (l : List Tf) (claims : List Clm) (r47 : Rg × Int) : Nat → Int → Int → Int → Int → Option (Bool)
 | 0, _, _, _, _ => none
 | d839 + 1, y837, y838, x411, x412 => (if x412 < (claims.length : Int) then (if x411 = 0 then ((idx claims x412).bind fun v842 => ((plClaimed l v842).bind fun r845 => (if r845 = 0 then ((idx claims x412).bind fun v853 => ((prBounds l v853).bind fun r856 => (gd (fitsP .i64 (y837 + r856.1.Lo)) (gd (fitsP .i64 (y838 + r856.1.Hi)) (gd (fitsP .i64 (x412 + 1)) (pTariffTotals_L5 l claims r47 d839 (y837 + r856.1.Lo) (y838 + r856.1.Hi) r845 (x412 + 1))))))) else (gd (fitsP .i64 (x412 + 1)) (pTariffTotals_L5 l claims r47 d839 y837 y838 r845 (x412 + 1)))))) else (if r47.2 = x411 then (gd (fitsP .i64 r47.1.Lo) (gd (fitsP .i64 (0 : Int)) (gd (fitsP .i64 r47.1.Hi) (gd (fitsP .i64 (0 : Int)) (if ((decide (r47.1.Lo = (0 : Int))) && (decide (r47.1.Hi = (0 : Int)))) = true then ((pawake).bind fun r933 => (some r933)) else (some false)))))) else (some false))) else (if x411 = 0 then (if r47.2 = (0 : Int) then ((plTo ({ Lo := y837, Hi := y838 } : Rg)).bind fun r955 => (gd (fitsP .i64 r47.1.Lo) (gd (fitsP .i64 r955.Lo) (gd (fitsP .i64 r47.1.Hi) (gd (fitsP .i64 r955.Hi) (if ((decide (r47.1.Lo = r955.Lo)) && (decide (r47.1.Hi = r955.Hi))) = true then ((pawake).bind fun r967 => (some r967)) else (some false))))))) else (some false)) else (if r47.2 = x411 then (gd (fitsP .i64 r47.1.Lo) (gd (fitsP .i64 (0 : Int)) (gd (fitsP .i64 r47.1.Hi) (gd (fitsP .i64 (0 : Int)) (if ((decide (r47.1.Lo = (0 : Int))) && (decide (r47.1.Hi = (0 : Int)))) = true then ((pawake).bind fun r947 => (some r947)) else (some false)))))) else (some false))))
def pTariffTotals_L6 (l : List Tf) (claims : List Clm) (r47 : Rg × Int) : Nat → Int → Int → Int → Int → Option (Bool)
 | 0, _, _, _, _ => none
 | d995 + 1, y993, y994, x487, x488 => (if x488 < (claims.length : Int) then (if x487 = 0 then ((idx claims x488).bind fun v998 => ((plClaimed l v998).bind fun r1001 => (if r1001 = 0 then ((idx claims x488).bind fun v1009 => ((prBounds l v1009).bind fun r1012 => (gd (fitsP .i64 (y993 + r1012.1.Lo)) (gd (fitsP .i64 (y994 + r1012.1.Hi)) (gd (fitsP .i64 (x488 + 1)) (pTariffTotals_L6 l claims r47 d995 (y993 + r1012.1.Lo) (y994 + r1012.1.Hi) r1001 (x488 + 1))))))) else (gd (fitsP .i64 (x488 + 1)) (pTariffTotals_L6 l claims r47 d995 y993 y994 r1001 (x488 + 1)))))) else (if r47.2 = x487 then (gd (fitsP .i64 r47.1.Lo) (gd (fitsP .i64 (0 : Int)) (gd (fitsP .i64 r47.1.Hi) (gd (fitsP .i64 (0 : Int)) (if ((decide (r47.1.Lo = (0 : Int))) && (decide (r47.1.Hi = (0 : Int)))) = true then ((pawake).bind fun r1089 => (some r1089)) else (some false)))))) else (some false))) else (if x487 = 0 then (if r47.2 = (0 : Int) then ((plTo ({ Lo := y993, Hi := y994 } : Rg)).bind fun r1111 => (gd (fitsP .i64 r47.1.Lo) (gd (fitsP .i64 r1111.Lo) (gd (fitsP .i64 r47.1.Hi) (gd (fitsP .i64 r1111.Hi) (if ((decide (r47.1.Lo = r1111.Lo)) && (decide (r47.1.Hi = r1111.Hi))) = true then ((pawake).bind fun r1123 => (some r1123)) else (some false))))))) else (some false)) else (if r47.2 = x487 then (gd (fitsP .i64 r47.1.Lo) (gd (fitsP .i64 (0 : Int)) (gd (fitsP .i64 r47.1.Hi) (gd (fitsP .i64 (0 : Int)) (if ((decide (r47.1.Lo = (0 : Int))) && (decide (r47.1.Hi = (0 : Int)))) = true then ((pawake).bind fun r1103 => (some r1103)) else (some false)))))) else (some false))))
def pTariffTotals_L7 (l : List Tf) (claims : List Clm) (r47 : Rg × Int) : Nat → Int → Int → Int → Int → Option (Bool)
 | 0, _, _, _, _ => none
 | d1140 + 1, y1138, y1139, x560, x561 => (if x561 < (claims.length : Int) then (if x560 = 0 then ((idx claims x561).bind fun v1143 => ((plClaimed l v1143).bind fun r1146 => (if r1146 = 0 then ((idx claims x561).bind fun v1154 => ((prBounds l v1154).bind fun r1157 => (gd (fitsP .i64 (y1138 + r1157.1.Lo)) (gd (fitsP .i64 (y1139 + r1157.1.Hi)) (gd (fitsP .i64 (x561 + 1)) (pTariffTotals_L7 l claims r47 d1140 (y1138 + r1157.1.Lo) (y1139 + r1157.1.Hi) r1146 (x561 + 1))))))) else (gd (fitsP .i64 (x561 + 1)) (pTariffTotals_L7 l claims r47 d1140 y1138 y1139 r1146 (x561 + 1)))))) else (if r47.2 = x560 then (gd (fitsP .i64 r47.1.Lo) (gd (fitsP .i64 (0 : Int)) (gd (fitsP .i64 r47.1.Hi) (gd (fitsP .i64 (0 : Int)) (if ((decide (r47.1.Lo = (0 : Int))) && (decide (r47.1.Hi = (0 : Int)))) = true then ((pawake).bind fun r1234 => (some r1234)) else (some false)))))) else (some false))) else (if x560 = 0 then (if r47.2 = (0 : Int) then ((plTo ({ Lo := y1138, Hi := y1139 } : Rg)).bind fun r1256 => (gd (fitsP .i64 r47.1.Lo) (gd (fitsP .i64 r1256.Lo) (gd (fitsP .i64 r47.1.Hi) (gd (fitsP .i64 r1256.Hi) (if ((decide (r47.1.Lo = r1256.Lo)) && (decide (r47.1.Hi = r1256.Hi))) = true then ((pawake).bind fun r1268 => (some r1268)) else (some false))))))) else (some false)) else (if r47.2 = x560 then (gd (fitsP .i64 r47.1.Lo) (gd (fitsP .i64 (0 : Int)) (gd (fitsP .i64 r47.1.Hi) (gd (fitsP .i64 (0 : Int)) (if ((decide (r47.1.Lo = (0 : Int))) && (decide (r47.1.Hi = (0 : Int)))) = true then ((pawake).bind fun r1248 => (some r1248)) else (some false)))))) else (some false))))
def pTariffTotals_L8 (l : List Tf) (claims : List Clm) (r47 : Rg × Int) : Nat → Int → Int → Int → Int → Option (Bool)
 | 0, _, _, _, _ => none
 | d1285 + 1, y1283, y1284, x633, x634 => (if x634 < (claims.length : Int) then (if x633 = 0 then ((idx claims x634).bind fun v1288 => ((plClaimed l v1288).bind fun r1291 => (if r1291 = 0 then ((idx claims x634).bind fun v1299 => ((prBounds l v1299).bind fun r1302 => (gd (fitsP .i64 (y1283 + r1302.1.Lo)) (gd (fitsP .i64 (y1284 + r1302.1.Hi)) (gd (fitsP .i64 (x634 + 1)) (pTariffTotals_L8 l claims r47 d1285 (y1283 + r1302.1.Lo) (y1284 + r1302.1.Hi) r1291 (x634 + 1))))))) else (gd (fitsP .i64 (x634 + 1)) (pTariffTotals_L8 l claims r47 d1285 y1283 y1284 r1291 (x634 + 1)))))) else (if r47.2 = x633 then (gd (fitsP .i64 r47.1.Lo) (gd (fitsP .i64 (0 : Int)) (gd (fitsP .i64 r47.1.Hi) (gd (fitsP .i64 (0 : Int)) (if ((decide (r47.1.Lo = (0 : Int))) && (decide (r47.1.Hi = (0 : Int)))) = true then ((pawake).bind fun r1379 => (some r1379)) else (some false)))))) else (some false))) else (if x633 = 0 then (if r47.2 = (0 : Int) then ((plTo ({ Lo := y1283, Hi := y1284 } : Rg)).bind fun r1401 => (gd (fitsP .i64 r47.1.Lo) (gd (fitsP .i64 r1401.Lo) (gd (fitsP .i64 r47.1.Hi) (gd (fitsP .i64 r1401.Hi) (if ((decide (r47.1.Lo = r1401.Lo)) && (decide (r47.1.Hi = r1401.Hi))) = true then ((pawake).bind fun r1413 => (some r1413)) else (some false))))))) else (some false)) else (if r47.2 = x633 then (gd (fitsP .i64 r47.1.Lo) (gd (fitsP .i64 (0 : Int)) (gd (fitsP .i64 r47.1.Hi) (gd (fitsP .i64 (0 : Int)) (if ((decide (r47.1.Lo = (0 : Int))) && (decide (r47.1.Hi = (0 : Int)))) = true then ((pawake).bind fun r1393 => (some r1393)) else (some false)))))) else (some false))))
def pTariffTotals_L9 (l : List Tf) (claims : List Clm) (r47 : Rg × Int) : Nat → Int → Int → Int → Int → Option (Bool)
 | 0, _, _, _, _ => none
 | d1434 + 1, y1432, y1433, x706, x707 => (if x707 < (claims.length : Int) then (if x706 = 0 then ((idx claims x707).bind fun v1437 => ((plClaimed l v1437).bind fun r1440 => (if r1440 = 0 then ((idx claims x707).bind fun v1448 => ((prBounds l v1448).bind fun r1451 => (gd (fitsP .i64 (y1432 + r1451.1.Lo)) (gd (fitsP .i64 (y1433 + r1451.1.Hi)) (gd (fitsP .i64 (x707 + 1)) (pTariffTotals_L9 l claims r47 d1434 (y1432 + r1451.1.Lo) (y1433 + r1451.1.Hi) r1440 (x707 + 1))))))) else (gd (fitsP .i64 (x707 + 1)) (pTariffTotals_L9 l claims r47 d1434 y1432 y1433 r1440 (x707 + 1)))))) else (if r47.2 = x706 then (gd (fitsP .i64 r47.1.Lo) (gd (fitsP .i64 (0 : Int)) (gd (fitsP .i64 r47.1.Hi) (gd (fitsP .i64 (0 : Int)) (if ((decide (r47.1.Lo = (0 : Int))) && (decide (r47.1.Hi = (0 : Int)))) = true then ((pawake).bind fun r1528 => (some r1528)) else (some false)))))) else (some false))) else (if x706 = 0 then (if r47.2 = (0 : Int) then ((plTo ({ Lo := y1432, Hi := y1433 } : Rg)).bind fun r1550 => (gd (fitsP .i64 r47.1.Lo) (gd (fitsP .i64 r1550.Lo) (gd (fitsP .i64 r47.1.Hi) (gd (fitsP .i64 r1550.Hi) (if ((decide (r47.1.Lo = r1550.Lo)) && (decide (r47.1.Hi = r1550.Hi))) = true then ((pawake).bind fun r1562 => (some r1562)) else (some false))))))) else (some false)) else (if r47.2 = x706 then (gd (fitsP .i64 r47.1.Lo) (gd (fitsP .i64 (0 : Int)) (gd (fitsP .i64 r47.1.Hi) (gd (fitsP .i64 (0 : Int)) (if ((decide (r47.1.Lo = (0 : Int))) && (decide (r47.1.Hi = (0 : Int)))) = true then ((pawake).bind fun r1542 => (some r1542)) else (some false)))))) else (some false))))
def pTariffTotals_L10 (l : List Tf) (claims : List Clm) (r47 : Rg × Int) : Nat → Int → Int → Int → Int → Option (Bool)
 | 0, _, _, _, _ => none
 | d1579 + 1, y1577, y1578, x779, x780 => (if x780 < (claims.length : Int) then (if x779 = 0 then ((idx claims x780).bind fun v1582 => ((plClaimed l v1582).bind fun r1585 => (if r1585 = 0 then ((idx claims x780).bind fun v1593 => ((prBounds l v1593).bind fun r1596 => (gd (fitsP .i64 (y1577 + r1596.1.Lo)) (gd (fitsP .i64 (y1578 + r1596.1.Hi)) (gd (fitsP .i64 (x780 + 1)) (pTariffTotals_L10 l claims r47 d1579 (y1577 + r1596.1.Lo) (y1578 + r1596.1.Hi) r1585 (x780 + 1))))))) else (gd (fitsP .i64 (x780 + 1)) (pTariffTotals_L10 l claims r47 d1579 y1577 y1578 r1585 (x780 + 1)))))) else (if r47.2 = x779 then (gd (fitsP .i64 r47.1.Lo) (gd (fitsP .i64 (0 : Int)) (gd (fitsP .i64 r47.1.Hi) (gd (fitsP .i64 (0 : Int)) (if ((decide (r47.1.Lo = (0 : Int))) && (decide (r47.1.Hi = (0 : Int)))) = true then ((pawake).bind fun r1673 => (some r1673)) else (some false)))))) else (some false))) else (if x779 = 0 then (if r47.2 = (0 : Int) then ((plTo ({ Lo := y1577, Hi := y1578 } : Rg)).bind fun r1695 => (gd (fitsP .i64 r47.1.Lo) (gd (fitsP .i64 r1695.Lo) (gd (fitsP .i64 r47.1.Hi) (gd (fitsP .i64 r1695.Hi) (if ((decide (r47.1.Lo = r1695.Lo)) && (decide (r47.1.Hi = r1695.Hi))) = true then ((pawake).bind fun r1707 => (some r1707)) else (some false))))))) else (some false)) else (if r47.2 = x779 then (gd (fitsP .i64 r47.1.Lo) (gd (fitsP .i64 (0 : Int)) (gd (fitsP .i64 r47.1.Hi) (gd (fitsP .i64 (0 : Int)) (if ((decide (r47.1.Lo = (0 : Int))) && (decide (r47.1.Hi = (0 : Int)))) = true then ((pawake).bind fun r1687 => (some r1687)) else (some false)))))) else (some false))))
def pTariffTotals_L11 (l : List Tf) (claims : List Clm) (r47 : Rg × Int) : Nat → Int → Int → Int → Int → Option (Bool)
 | 0, _, _, _, _ => none
 | d1724 + 1, y1722, y1723, x852, x853 => (if x853 < (claims.length : Int) then (if x852 = 0 then ((idx claims x853).bind fun v1727 => ((plClaimed l v1727).bind fun r1730 => (if r1730 = 0 then ((idx claims x853).bind fun v1738 => ((prBounds l v1738).bind fun r1741 => (gd (fitsP .i64 (y1722 + r1741.1.Lo)) (gd (fitsP .i64 (y1723 + r1741.1.Hi)) (gd (fitsP .i64 (x853 + 1)) (pTariffTotals_L11 l claims r47 d1724 (y1722 + r1741.1.Lo) (y1723 + r1741.1.Hi) r1730 (x853 + 1))))))) else (gd (fitsP .i64 (x853 + 1)) (pTariffTotals_L11 l claims r47 d1724 y1722 y1723 r1730 (x853 + 1)))))) else (if r47.2 = x852 then (gd (fitsP .i64 r47.1.Lo) (gd (fitsP .i64 (0 : Int)) (gd (fitsP .i64 r47.1.Hi) (gd (fitsP .i64 (0 : Int)) (if ((decide (r47.1.Lo = (0 : Int))) && (decide (r47.1.Hi = (0 : Int)))) = true then ((pawake).bind fun r1818 => (some r1818)) else (some false)))))) else (some false))) else (if x852 = 0 then (if r47.2 = (0 : Int) then ((plTo ({ Lo := y1722, Hi := y1723 } : Rg)).bind fun r1840 => (gd (fitsP .i64 r47.1.Lo) (gd (fitsP .i64 r1840.Lo) (gd (fitsP .i64 r47.1.Hi) (gd (fitsP .i64 r1840.Hi) (if ((decide (r47.1.Lo = r1840.Lo)) && (decide (r47.1.Hi = r1840.Hi))) = true then ((pawake).bind fun r1852 => (some r1852)) else (some false))))))) else (some false)) else (if r47.2 = x852 then (gd (fitsP .i64 r47.1.Lo) (gd (fitsP .i64 (0 : Int)) (gd (fitsP .i64 r47.1.Hi) (gd (fitsP .i64 (0 : Int)) (if ((decide (r47.1.Lo = (0 : Int))) && (decide (r47.1.Hi = (0 : Int)))) = true then ((pawake).bind fun r1832 => (some r1832)) else (some false)))))) else (some false))))
def pTariffTotals_L12 (l : List Tf) (claims : List Clm) (r47 : Rg × Int) : Nat → Int → Int → Int → Int → Option (Bool)
 | 0, _, _, _, _ => none
 | d1873 + 1, y1871, y1872, x1585, x1586 => (if x1586 < (claims.length : Int) then (if x1585 = 0 then ((idx claims x1586).bind fun v1876 => ((plClaimed l v1876).bind fun r1879 => (if r1879 = 0 then ((idx claims x1586).bind fun v1887 => ((prBounds l v1887).bind fun r1890 => (gd (fitsP .i64 (y1871 + r1890.1.Lo)) (gd (fitsP .i64 (y1872 + r1890.1.Hi)) (gd (fitsP .i64 (x1586 + 1)) (pTariffTotals_L12 l claims r47 d1873 (y1871 + r1890.1.Lo) (y1872 + r1890.1.Hi) r1879 (x1586 + 1))))))) else (gd (fitsP .i64 (x1586 + 1)) (pTariffTotals_L12 l claims r47 d1873 y1871 y1872 r1879 (x1586 + 1)))))) else (if r47.2 = x1585 then (gd (fitsP .i64 r47.1.Lo) (gd (fitsP .i64 (0 : Int)) (gd (fitsP .i64 r47.1.Hi) (gd (fitsP .i64 (0 : Int)) (if ((decide (r47.1.Lo = (0 : Int))) && (decide (r47.1.Hi = (0 : Int)))) = true then ((pawake).bind fun r1967 => (some r1967)) else (some false)))))) else (some false))) else (if x1585 = 0 then (if r47.2 = (0 : Int) then ((plTo ({ Lo := y1871, Hi := y1872 } : Rg)).bind fun r1989 => (gd (fitsP .i64 r47.1.Lo) (gd (fitsP .i64 r1989.Lo) (gd (fitsP .i64 r47.1.Hi) (gd (fitsP .i64 r1989.Hi) (if ((decide (r47.1.Lo = r1989.Lo)) && (decide (r47.1.Hi = r1989.Hi))) = true then ((pawake).bind fun r2001 => (some r2001)) else (some false))))))) else (some false)) else (if r47.2 = x1585 then (gd (fitsP .i64 r47.1.Lo) (gd (fitsP .i64 (0 : Int)) (gd (fitsP .i64 r47.1.Hi) (gd (fitsP .i64 (0 : Int)) (if ((decide (r47.1.Lo = (0 : Int))) && (decide (r47.1.Hi = (0 : Int)))) = true then ((pawake).bind fun r1981 => (some r1981)) else (some false)))))) else (some false))))
def pTariffTotals_L13 (l : List Tf) (claims : List Clm) (r47 : Rg × Int) : Nat → Int → Int → Int → Int → Option (Bool)
 | 0, _, _, _, _ => none
 | d2018 + 1, y2016, y2017, x1658, x1659 => (if x1659 < (claims.length : Int) then (if x1658 = 0 then ((idx claims x1659).bind fun v2021 => ((plClaimed l v2021).bind fun r2024 => (if r2024 = 0 then ((idx claims x1659).bind fun v2032 => ((prBounds l v2032).bind fun r2035 => (gd (fitsP .i64 (y2016 + r2035.1.Lo)) (gd (fitsP .i64 (y2017 + r2035.1.Hi)) (gd (fitsP .i64 (x1659 + 1)) (pTariffTotals_L13 l claims r47 d2018 (y2016 + r2035.1.Lo) (y2017 + r2035.1.Hi) r2024 (x1659 + 1))))))) else (gd (fitsP .i64 (x1659 + 1)) (pTariffTotals_L13 l claims r47 d2018 y2016 y2017 r2024 (x1659 + 1)))))) else (if r47.2 = x1658 then (gd (fitsP .i64 r47.1.Lo) (gd (fitsP .i64 (0 : Int)) (gd (fitsP .i64 r47.1.Hi) (gd (fitsP .i64 (0 : Int)) (if ((decide (r47.1.Lo = (0 : Int))) && (decide (r47.1.Hi = (0 : Int)))) = true then ((pawake).bind fun r2112 => (some r2112)) else (some false)))))) else (some false))) else (if x1658 = 0 then (if r47.2 = (0 : Int) then ((plTo ({ Lo := y2016, Hi := y2017 } : Rg)).bind fun r2134 => (gd (fitsP .i64 r47.1.Lo) (gd (fitsP .i64 r2134.Lo) (gd (fitsP .i64 r47.1.Hi) (gd (fitsP .i64 r2134.Hi) (if ((decide (r47.1.Lo = r2134.Lo)) && (decide (r47.1.Hi = r2134.Hi))) = true then ((pawake).bind fun r2146 => (some r2146)) else (some false))))))) else (some false)) else (if r47.2 = x1658 then (gd (fitsP .i64 r47.1.Lo) (gd (fitsP .i64 (0 : Int)) (gd (fitsP .i64 r47.1.Hi) (gd (fitsP .i64 (0 : Int)) (if ((decide (r47.1.Lo = (0 : Int))) && (decide (r47.1.Hi = (0 : Int)))) = true then ((pawake).bind fun r2126 => (some r2126)) else (some false)))))) else (some false))))
def pTariffTotals_L14 (l : List Tf) (claims : List Clm) (r47 : Rg × Int) : Nat → Int → Int → Int → Int → Option (Bool)
 | 0, _, _, _, _ => none
 | d2163 + 1, y2161, y2162, x1731, x1732 => (if x1732 < (claims.length : Int) then (if x1731 = 0 then ((idx claims x1732).bind fun v2166 => ((plClaimed l v2166).bind fun r2169 => (if r2169 = 0 then ((idx claims x1732).bind fun v2177 => ((prBounds l v2177).bind fun r2180 => (gd (fitsP .i64 (y2161 + r2180.1.Lo)) (gd (fitsP .i64 (y2162 + r2180.1.Hi)) (gd (fitsP .i64 (x1732 + 1)) (pTariffTotals_L14 l claims r47 d2163 (y2161 + r2180.1.Lo) (y2162 + r2180.1.Hi) r2169 (x1732 + 1))))))) else (gd (fitsP .i64 (x1732 + 1)) (pTariffTotals_L14 l claims r47 d2163 y2161 y2162 r2169 (x1732 + 1)))))) else (if r47.2 = x1731 then (gd (fitsP .i64 r47.1.Lo) (gd (fitsP .i64 (0 : Int)) (gd (fitsP .i64 r47.1.Hi) (gd (fitsP .i64 (0 : Int)) (if ((decide (r47.1.Lo = (0 : Int))) && (decide (r47.1.Hi = (0 : Int)))) = true then ((pawake).bind fun r2257 => (some r2257)) else (some false)))))) else (some false))) else (if x1731 = 0 then (if r47.2 = (0 : Int) then ((plTo ({ Lo := y2161, Hi := y2162 } : Rg)).bind fun r2279 => (gd (fitsP .i64 r47.1.Lo) (gd (fitsP .i64 r2279.Lo) (gd (fitsP .i64 r47.1.Hi) (gd (fitsP .i64 r2279.Hi) (if ((decide (r47.1.Lo = r2279.Lo)) && (decide (r47.1.Hi = r2279.Hi))) = true then ((pawake).bind fun r2291 => (some r2291)) else (some false))))))) else (some false)) else (if r47.2 = x1731 then (gd (fitsP .i64 r47.1.Lo) (gd (fitsP .i64 (0 : Int)) (gd (fitsP .i64 r47.1.Hi) (gd (fitsP .i64 (0 : Int)) (if ((decide (r47.1.Lo = (0 : Int))) && (decide (r47.1.Hi = (0 : Int)))) = true then ((pawake).bind fun r2271 => (some r2271)) else (some false)))))) else (some false))))
def pTariffTotals (l : List Tf) (claims : List Clm) (crop : Int) (day : Int) : Option (Bool) := ((plThin l).bind fun r1 => (if r1 = true then (if (7 : Int) < (claims.length : Int) then ((pawake).bind fun r13 => (some r13)) else ((plTariffs l).bind fun r18 => ((pLeast r18 crop day).bind fun r26 => ((plTariffs l).bind fun r31 => ((plClaims claims).bind fun r39 => ((pTotal r31 r39).bind fun r47 => ((plFault l).bind fun r62 => ((plFault l).bind fun r68 => (if r62 = 0 then ((prCrops l).bind fun r75 => (gd (fitsP .i64 (r75 - 1)) ((prIn crop (0 : Int) (r75 - 1)).bind fun r82 => (if r82 = true then ((prIn day (0 : Int) (120 : Int)).bind fun r528 => (if r528 = true then ((prLeast l crop day).bind fun r974 => (if r974 < 0 then (if r26.2 = (7 : Int) then (if r26.1 = (max r974 (0 : Int)) then (if r68 = 0 then (if (5 : Int) < (claims.length : Int) then (pTariffTotals_L6 l claims r47 (claims.length + 1) (0 : Int) (0 : Int) (3 : Int) (0 : Int)) else (pTariffTotals_L7 l claims r47 (claims.length + 1) (0 : Int) (0 : Int) r68 (0 : Int))) else (pTariffTotals_L8 l claims r47 (claims.length + 1) (0 : Int) (0 : Int) r68 (0 : Int))) else (some false)) else (some false)) else (if r26.2 = r62 then (if r26.1 = (max r974 (0 : Int)) then (if r68 = 0 then (if (5 : Int) < (claims.length : Int) then (pTariffTotals_L9 l claims r47 (claims.length + 1) (0 : Int) (0 : Int) (3 : Int) (0 : Int)) else (pTariffTotals_L10 l claims r47 (claims.length + 1) (0 : Int) (0 : Int) r68 (0 : Int))) else (pTariffTotals_L11 l claims r47 (claims.length + 1) (0 : Int) (0 : Int) r68 (0 : Int))) else (some false)) else (some false)))) else (if r26.2 = (2 : Int) then (if r26.1 = (0 : Int) then (if r68 = 0 then (if (5 : Int) < (claims.length : Int) then (pTariffTotals_L3 l claims r47 (claims.length + 1) (0 : Int) (0 : Int) (3 : Int) (0 : Int)) else (pTariffTotals_L4 l claims r47 (claims.length + 1) (0 : Int) (0 : Int) r68 (0 : Int))) else (pTariffTotals_L5 l claims r47 (claims.length + 1) (0 : Int) (0 : Int) r68 (0 : Int))) else (some false)) else (some false)))) else (if r26.2 = (2 : Int) then (if r26.1 = (0 : Int) then (if r68 = 0 then (if (5 : Int) < (claims.length : Int) then (pTariffTotals_L0 l claims r47 (claims.length + 1) (0 : Int) (0 : Int) (3 : Int) (0 : Int)) else (pTariffTotals_L1 l claims r47 (claims.length + 1) (0 : Int) (0 : Int) r68 (0 : Int))) else (pTariffTotals_L2 l claims r47 (claims.length + 1) (0 : Int) (0 : Int) r68 (0 : Int))) else (some false)) else (some false)))))) else (if r26.2 = r62 then (if r26.1 = (0 : Int) then (if r68 = 0 then (if (5 : Int) < (claims.length : Int) then (pTariffTotals_L12 l claims r47 (claims.length + 1) (0 : Int) (0 : Int) (3 : Int) (0 : Int)) else (pTariffTotals_L13 l claims r47 (claims.length + 1) (0 : Int) (0 : Int) r68 (0 : Int))) else (pTariffTotals_L14 l claims r47 (claims.length + 1) (0 : Int) (0 : Int) r68 (0 : Int))) else (some false)) else (some false))))))))))) else ((pawake).bind fun r7 => (some r7))))
end
end Go.Proofs.Ytbhdgedghfibcaa

namespace Go.Proofs.Ytbhdgedghfibcaa
open _root_.Go.Proofs.Try
open Go.Abs
set_option maxRecDepth 100000
noncomputable section
theorem w6 {a100 : C} {a200 : C} {a300 : Int} {a400 : Int} {m : M} {Q : V → M → Prop} (h :
 (Wc prog tbl 16 [(V.c a100)] m (fun v0 m1 => ∃ b2 : Bool, (v0 = (V.c (C.bool b2))) ∧ ifB (!b2) (Wc prog tbl 17 [] m1 (fun v3 m4 => 
 ∃ b5 : Bool, (v3 = (V.c (C.bool b5))) ∧ Q (V.c (C.bool b5)) m4)) (isSl a200 ∧ ifB (decide ((7 : Int) < (((slLen a200) : Nat) : Int))) (Wc prog tbl 17 [] m1 (fun v6 m7 => 
 ∃ b8 : Bool, (v6 = (V.c (C.bool b8))) ∧ Q (V.c (C.bool b8)) m7)) (Wc prog tbl 19 [(V.c a100)] m1 (fun v9 m10 => 
 ∃ c11 : C, (v9 = (V.c c11)) ∧ Wc prog tbl 38 [(V.c c11), (V.c (Il a300)), (V.c (Il a400))] m10 (fun v12 m13 => 
 ∃ x14, ∃ x15, (v12 = (V.tup [(U.c (Il x14)), (U.c (Il x15))])) ∧ 
 Wc prog tbl 19 [(V.c a100)] m13 (fun v16 m17 => ∃ c18 : C, (v16 = (V.c c18)) ∧ Wc prog tbl 40 [(V.c a200)] m17 (fun v19 m20 => 
 ∃ c21 : C, (v19 = (V.c c21)) ∧ Wc prog tbl 39 [(V.c c18), (V.c c21)] m20 (fun v22 m23 => 
 ∃ x24, ∃ x25, ∃ x26, (v22 = (V.tup [(U.agg 2 [(Il x24), 
 (Il x25)]), (U.c (Il x26))])) ∧ ∀ m27 : M, (m27 = (M.new m23 (AO.cells 2 [(Il 0), 
 (Il 0)] false))) → ∃ m28 : M, ((stC m27 (C.ptr m23.nxt 0) 2 [(Il x24), 
 (Il x25)]) = (some m28)) ∧ Wc prog tbl 20 [(V.c a100)] m28 (fun v29 m30 => 
 ∃ x31, (v29 = (V.c (Il x31))) ∧ Wc prog tbl 20 [(V.c a100)] m30 (fun v32 m33 => 
 ∃ x34, (v32 = (V.c (Il x34))) ∧ ifB (decide (x31 = 0)) (Wc prog tbl 23 [(V.c a100)] m33 (fun v35 m36 => 
 ∃ x37, (v35 = (V.c (Il x37))) ∧ fitsP .i64 (x37 - 1) ∧ 
 Wc prog tbl 22 [(V.c (Il a300)), (V.c (Il 0)), 
 (V.c (Il (x37 - 1)))] m36 (fun v38 m39 => ∃ b40 : Bool, 
 (v38 = (V.c (C.bool b40))) ∧ ifB (!b40) (ifB (!decide (x15 = 2)) (Q (V.c (C.bool false)) m39) (ifB (!decide (x14 = 0)) (Q (V.c (C.bool false)) m39) (ifB (decide (x34 = 0)) (isSl a200 ∧ 
 ifB (decide ((5 : Int) < (((slLen a200) : Nat) : Int))) (∀ m41 : M, (m41 = (M.new m39 (AO.cells 2 [(Il 0), 
 (Il 0)] false))) → ∀ R42 : List V → M → Prop, (∀ x43 : Int, 
 ∀ x44 : Int, ∀ m45 : M, (isSl a200 ∧ ifB (decide (x44 < (((slLen a200) : Nat) : Int))) (ifB (decide (x43 = 0)) (∃ n46 : Nat, 
 (x44 = ((n46 : Nat) : Int)) ∧ (n46 < (slLen a200)) ∧ ∃ x47, ∃ x48, 
 ∃ x49, ∃ x50, ∃ x51, ∃ x52, ((ldA m45 (slAt a200 (n46 * 6)) 6) = (some [(Il x47), 
 (Il x48), (Il x49), (Il x50), (Il x51), 
 (Il x52)])) ∧ Wc prog tbl 29 [(V.c a100), (V.agg 6 [(Il x47), 
 (Il x48), (Il x49), (Il x50), (Il x51), 
 (Il x52)])] m45 (fun v53 m54 => ∃ x55, (v53 = (V.c (Il x55))) ∧ 
 ifB (decide (x55 = 0)) (∃ n56 : Nat, (x44 = ((n56 : Nat) : Int)) ∧ 
 (n56 < (slLen a200)) ∧ ∃ x57, ∃ x58, ∃ x59, ∃ x60, 
 ∃ x61, ∃ x62, ((ldA m54 (slAt a200 (n56 * 6)) 6) = (some [(Il x57), 
 (Il x58), (Il x59), (Il x60), (Il x61), 
 (Il x62)])) ∧ Wc prog tbl 35 [(V.c a100), (V.agg 6 [(Il x57), 
 (Il x58), (Il x59), (Il x60), (Il x61), 
 (Il x62)])] m54 (fun v63 m64 => ∃ x65, ∃ x66, ∃ x67, 
 ∃ x68, ∃ x69, ∃ x70, (v63 = (V.tup [(U.agg 2 [(Il x65), 
 (Il x66)]), (U.agg 2 [(Il x67), (Il x68)]), 
 (U.agg 2 [(Il x69), (Il x70)])])) ∧ ∀ m71 : M, 
 (m71 = (M.new m64 (AO.cells 2 [(Il 0), (Il 0)] false))) → 
 ∀ m72 : M, (m72 = (M.new m71 (AO.cells 2 [(Il 0), (Il 0)] false))) → 
 ∀ m73 : M, (m73 = (M.new m72 (AO.cells 2 [(Il 0), (Il 0)] false))) → 
 ∃ m74 : M, ((stC m73 (C.ptr m64.nxt 0) 2 [(Il x65), (Il x66)]) = (some m74)) ∧ 
 ∃ m75 : M, ((stC m74 (C.ptr m71.nxt 0) 2 [(Il x67), (Il x68)]) = (some m75)) ∧ 
 ∃ m76 : M, ((stC m75 (C.ptr m72.nxt 0) 2 [(Il x69), (Il x70)]) = (some m76)) ∧ 
 isPt (C.ptr m39.nxt 0) ∧ ∃ x77, ((ldC m76 (C.ptr m39.nxt 0)) = (some (Il x77))) ∧ 
 isPt (C.ptr m64.nxt 0) ∧ ∃ x78, ((ldC m76 (C.ptr m64.nxt 0)) = (some (Il x78))) ∧ 
 fitsP .i64 (x77 + x78) ∧ isPt (C.ptr m39.nxt 0) ∧ ∃ x79, ((ldC m76 (C.ptr m39.nxt 1)) = (some (Il x79))) ∧ 
 isPt (C.ptr m64.nxt 0) ∧ ∃ x80, ((ldC m76 (C.ptr m64.nxt 1)) = (some (Il x80))) ∧ 
 fitsP .i64 (x79 + x80) ∧ ∃ m81 : M, ((stC m76 (C.ptr m39.nxt 0) 2 [(Il (x77 + x78)), 
 (Il (x79 + x80))]) = (some m81)) ∧ fitsP .i64 (x44 + 1) ∧ 
 R42 [(V.c (Il x55)), (V.c (Il (x44 + 1)))] m81)) (fitsP .i64 (x44 + 1) ∧ 
 R42 [(V.c (Il x55)), (V.c (Il (x44 + 1)))] m54))) (ifB (!decide (x43 = 0)) (ifB (decide (x26 = x43)) (∃ x82, 
 ∃ x83, ((ldA m45 (C.ptr m23.nxt 0) 2) = (some [(Il x82), 
 (Il x83)])) ∧ fitsP .i64 x82 ∧ fitsP .i64 (0 : Int) ∧ 
 fitsP .i64 x83 ∧ fitsP .i64 (0 : Int) ∧ ifB ((decide (x82 = 0)) && (decide (x83 = 0))) (Wc prog tbl 17 [] m45 (fun v84 m85 => 
 ∃ b86 : Bool, (v84 = (V.c (C.bool b86))) ∧ Q (V.c (C.bool b86)) m85)) (Q (V.c (C.bool false)) m45)) (Q (V.c (C.bool false)) m45)) (ifB (decide (x26 = 0)) (∃ x87, 
 ∃ x88, ((ldA m45 (C.ptr m23.nxt 0) 2) = (some [(Il x87), 
 (Il x88)])) ∧ ∃ x89, ∃ x90, ((ldA m45 (C.ptr m39.nxt 0) 2) = (some [(Il x89), 
 (Il x90)])) ∧ Wc prog tbl 36 [(V.agg 2 [(Il x89), 
 (Il x90)])] m45 (fun v91 m92 => ∃ x93, ∃ x94, (v91 = (V.agg 2 [(Il x93), 
 (Il x94)])) ∧ ((ldA m92 (C.ptr m23.nxt 0) 2) = (some [(Il x87), 
 (Il x88)])) ∧ fitsP .i64 x87 ∧ fitsP .i64 x93 ∧ 
 fitsP .i64 x88 ∧ fitsP .i64 x94 ∧ ifB ((decide (x87 = x93)) && (decide (x88 = x94))) (Wc prog tbl 17 [] m92 (fun v95 m96 => 
 ∃ b97 : Bool, (v95 = (V.c (C.bool b97))) ∧ Q (V.c (C.bool b97)) m96)) (Q (V.c (C.bool false)) m92))) (Q (V.c (C.bool false)) m45)))) (ifB (!decide (x43 = 0)) (ifB (decide (x26 = x43)) (∃ x98, 
 ∃ x99, ((ldA m45 (C.ptr m23.nxt 0) 2) = (some [(Il x98), 
 (Il x99)])) ∧ fitsP .i64 x98 ∧ fitsP .i64 (0 : Int) ∧ 
 fitsP .i64 x99 ∧ fitsP .i64 (0 : Int) ∧ ifB ((decide (x98 = 0)) && (decide (x99 = 0))) (Wc prog tbl 17 [] m45 (fun v100 m101 => 
 ∃ b102 : Bool, (v100 = (V.c (C.bool b102))) ∧ Q (V.c (C.bool b102)) m101)) (Q (V.c (C.bool false)) m45)) (Q (V.c (C.bool false)) m45)) (ifB (decide (x26 = 0)) (∃ x103, 
 ∃ x104, ((ldA m45 (C.ptr m23.nxt 0) 2) = (some [(Il x103), 
 (Il x104)])) ∧ ∃ x105, ∃ x106, ((ldA m45 (C.ptr m39.nxt 0) 2) = (some [(Il x105), 
 (Il x106)])) ∧ Wc prog tbl 36 [(V.agg 2 [(Il x105), 
 (Il x106)])] m45 (fun v107 m108 => ∃ x109, ∃ x110, 
 (v107 = (V.agg 2 [(Il x109), (Il x110)])) ∧ ((ldA m108 (C.ptr m23.nxt 0) 2) = (some [(Il x103), 
 (Il x104)])) ∧ fitsP .i64 x103 ∧ fitsP .i64 x109 ∧ 
 fitsP .i64 x104 ∧ fitsP .i64 x110 ∧ ifB ((decide (x103 = x109)) && (decide (x104 = x110))) (Wc prog tbl 17 [] m108 (fun v111 m112 => 
 ∃ b113 : Bool, (v111 = (V.c (C.bool b113))) ∧ Q (V.c (C.bool b113)) m112)) (Q (V.c (C.bool false)) m108))) (Q (V.c (C.bool false)) m45)))) → 
 R42 [(V.c (Il x43)), (V.c (Il x44))] m45) → 
 R42 [(V.c (Il (3 : Int))), (V.c (Il 0))] m41) (∀ m114 : M, 
 (m114 = (M.new m39 (AO.cells 2 [(Il 0), (Il 0)] false))) → 
 ∀ R115 : List V → M → Prop, (∀ x116 : Int, ∀ x117 : Int, ∀ m118 : M, (isSl a200 ∧ 
 ifB (decide (x117 < (((slLen a200) : Nat) : Int))) (ifB (decide (x116 = 0)) (∃ n119 : Nat, 
 (x117 = ((n119 : Nat) : Int)) ∧ (n119 < (slLen a200)) ∧ ∃ x120, ∃ x121, 
 ∃ x122, ∃ x123, ∃ x124, ∃ x125, ((ldA m118 (slAt a200 (n119 * 6)) 6) = (some [(Il x120), 
 (Il x121), (Il x122), (Il x123), 
 (Il x124), (Il x125)])) ∧ Wc prog tbl 29 [(V.c a100), 
 (V.agg 6 [(Il x120), (Il x121), (Il x122), 
 (Il x123), (Il x124), (Il x125)])] m118 (fun v126 m127 => 
 ∃ x128, (v126 = (V.c (Il x128))) ∧ ifB (decide (x128 = 0)) (∃ n129 : Nat, 
 (x117 = ((n129 : Nat) : Int)) ∧ (n129 < (slLen a200)) ∧ ∃ x130, ∃ x131, 
 ∃ x132, ∃ x133, ∃ x134, ∃ x135, ((ldA m127 (slAt a200 (n129 * 6)) 6) = (some [(Il x130), 
 (Il x131), (Il x132), (Il x133), 
 (Il x134), (Il x135)])) ∧ Wc prog tbl 35 [(V.c a100), 
 (V.agg 6 [(Il x130), (Il x131), (Il x132), 
 (Il x133), (Il x134), (Il x135)])] m127 (fun v136 m137 => 
 ∃ x138, ∃ x139, ∃ x140, ∃ x141, ∃ x142, ∃ x143, 
 (v136 = (V.tup [(U.agg 2 [(Il x138), (Il x139)]), 
 (U.agg 2 [(Il x140), (Il x141)]), (U.agg 2 [(Il x142), 
 (Il x143)])])) ∧ ∀ m144 : M, (m144 = (M.new m137 (AO.cells 2 [(Il 0), 
 (Il 0)] false))) → ∀ m145 : M, (m145 = (M.new m144 (AO.cells 2 [(Il 0), 
 (Il 0)] false))) → ∀ m146 : M, (m146 = (M.new m145 (AO.cells 2 [(Il 0), 
 (Il 0)] false))) → ∃ m147 : M, ((stC m146 (C.ptr m137.nxt 0) 2 [(Il x138), 
 (Il x139)]) = (some m147)) ∧ ∃ m148 : M, ((stC m147 (C.ptr m144.nxt 0) 2 [(Il x140), 
 (Il x141)]) = (some m148)) ∧ ∃ m149 : M, ((stC m148 (C.ptr m145.nxt 0) 2 [(Il x142), 
 (Il x143)]) = (some m149)) ∧ isPt (C.ptr m39.nxt 0) ∧ 
 ∃ x150, ((ldC m149 (C.ptr m39.nxt 0)) = (some (Il x150))) ∧ 
 isPt (C.ptr m137.nxt 0) ∧ ∃ x151, ((ldC m149 (C.ptr m137.nxt 0)) = (some (Il x151))) ∧ 
 fitsP .i64 (x150 + x151) ∧ isPt (C.ptr m39.nxt 0) ∧ ∃ x152, 
 ((ldC m149 (C.ptr m39.nxt 1)) = (some (Il x152))) ∧ 
 isPt (C.ptr m137.nxt 0) ∧ ∃ x153, ((ldC m149 (C.ptr m137.nxt 1)) = (some (Il x153))) ∧ 
 fitsP .i64 (x152 + x153) ∧ ∃ m154 : M, ((stC m149 (C.ptr m39.nxt 0) 2 [(Il (x150 + x151)), 
 (Il (x152 + x153))]) = (some m154)) ∧ fitsP .i64 (x117 + 1) ∧ 
 R115 [(V.c (Il x128)), (V.c (Il (x117 + 1)))] m154)) (fitsP .i64 (x117 + 1) ∧ 
 R115 [(V.c (Il x128)), (V.c (Il (x117 + 1)))] m127))) (ifB (!decide (x116 = 0)) (ifB (decide (x26 = x116)) (∃ x155, 
 ∃ x156, ((ldA m118 (C.ptr m23.nxt 0) 2) = (some [(Il x155), 
 (Il x156)])) ∧ fitsP .i64 x155 ∧ fitsP .i64 (0 : Int) ∧ 
 fitsP .i64 x156 ∧ fitsP .i64 (0 : Int) ∧ ifB ((decide (x155 = 0)) && (decide (x156 = 0))) (Wc prog tbl 17 [] m118 (fun v157 m158 => 
 ∃ b159 : Bool, (v157 = (V.c (C.bool b159))) ∧ Q (V.c (C.bool b159)) m158)) (Q (V.c (C.bool false)) m118)) (Q (V.c (C.bool false)) m118)) (ifB (decide (x26 = 0)) (∃ x160, 
 ∃ x161, ((ldA m118 (C.ptr m23.nxt 0) 2) = (some [(Il x160), 
 (Il x161)])) ∧ ∃ x162, ∃ x163, ((ldA m118 (C.ptr m39.nxt 0) 2) = (some [(Il x162), 
 (Il x163)])) ∧ Wc prog tbl 36 [(V.agg 2 [(Il x162), 
 (Il x163)])] m118 (fun v164 m165 => ∃ x166, ∃ x167, 
 (v164 = (V.agg 2 [(Il x166), (Il x167)])) ∧ ((ldA m165 (C.ptr m23.nxt 0) 2) = (some [(Il x160), 
 (Il x161)])) ∧ fitsP .i64 x160 ∧ fitsP .i64 x166 ∧ 
 fitsP .i64 x161 ∧ fitsP .i64 x167 ∧ ifB ((decide (x160 = x166)) && (decide (x161 = x167))) (Wc prog tbl 17 [] m165 (fun v168 m169 => 
 ∃ b170 : Bool, (v168 = (V.c (C.bool b170))) ∧ Q (V.c (C.bool b170)) m169)) (Q (V.c (C.bool false)) m165))) (Q (V.c (C.bool false)) m118)))) (ifB (!decide (x116 = 0)) (ifB (decide (x26 = x116)) (∃ x171, 
 ∃ x172, ((ldA m118 (C.ptr m23.nxt 0) 2) = (some [(Il x171), 
 (Il x172)])) ∧ fitsP .i64 x171 ∧ fitsP .i64 (0 : Int) ∧ 
 fitsP .i64 x172 ∧ fitsP .i64 (0 : Int) ∧ ifB ((decide (x171 = 0)) && (decide (x172 = 0))) (Wc prog tbl 17 [] m118 (fun v173 m174 => 
 ∃ b175 : Bool, (v173 = (V.c (C.bool b175))) ∧ Q (V.c (C.bool b175)) m174)) (Q (V.c (C.bool false)) m118)) (Q (V.c (C.bool false)) m118)) (ifB (decide (x26 = 0)) (∃ x176, 
 ∃ x177, ((ldA m118 (C.ptr m23.nxt 0) 2) = (some [(Il x176), 
 (Il x177)])) ∧ ∃ x178, ∃ x179, ((ldA m118 (C.ptr m39.nxt 0) 2) = (some [(Il x178), 
 (Il x179)])) ∧ Wc prog tbl 36 [(V.agg 2 [(Il x178), 
 (Il x179)])] m118 (fun v180 m181 => ∃ x182, ∃ x183, 
 (v180 = (V.agg 2 [(Il x182), (Il x183)])) ∧ ((ldA m181 (C.ptr m23.nxt 0) 2) = (some [(Il x176), 
 (Il x177)])) ∧ fitsP .i64 x176 ∧ fitsP .i64 x182 ∧ 
 fitsP .i64 x177 ∧ fitsP .i64 x183 ∧ ifB ((decide (x176 = x182)) && (decide (x177 = x183))) (Wc prog tbl 17 [] m181 (fun v184 m185 => 
 ∃ b186 : Bool, (v184 = (V.c (C.bool b186))) ∧ Q (V.c (C.bool b186)) m185)) (Q (V.c (C.bool false)) m181))) (Q (V.c (C.bool false)) m118)))) → 
 R115 [(V.c (Il x116)), (V.c (Il x117))] m118) → 
 R115 [(V.c (Il x34)), (V.c (Il 0))] m114)) (∀ m187 : M, 
 (m187 = (M.new m39 (AO.cells 2 [(Il 0), (Il 0)] false))) → 
 ∀ R188 : List V → M → Prop, (∀ x189 : Int, ∀ x190 : Int, ∀ m191 : M, (isSl a200 ∧ 
 ifB (decide (x190 < (((slLen a200) : Nat) : Int))) (ifB (decide (x189 = 0)) (∃ n192 : Nat, 
 (x190 = ((n192 : Nat) : Int)) ∧ (n192 < (slLen a200)) ∧ ∃ x193, ∃ x194, 
 ∃ x195, ∃ x196, ∃ x197, ∃ x198, ((ldA m191 (slAt a200 (n192 * 6)) 6) = (some [(Il x193), 
 (Il x194), (Il x195), (Il x196), 
 (Il x197), (Il x198)])) ∧ Wc prog tbl 29 [(V.c a100), 
 (V.agg 6 [(Il x193), (Il x194), (Il x195), 
 (Il x196), (Il x197), (Il x198)])] m191 (fun v199 m200 => 
 ∃ x201, (v199 = (V.c (Il x201))) ∧ ifB (decide (x201 = 0)) (∃ n202 : Nat, 
 (x190 = ((n202 : Nat) : Int)) ∧ (n202 < (slLen a200)) ∧ ∃ x203, ∃ x204, 
 ∃ x205, ∃ x206, ∃ x207, ∃ x208, ((ldA m200 (slAt a200 (n202 * 6)) 6) = (some [(Il x203), 
 (Il x204), (Il x205), (Il x206), 
 (Il x207), (Il x208)])) ∧ Wc prog tbl 35 [(V.c a100), 
 (V.agg 6 [(Il x203), (Il x204), (Il x205), 
 (Il x206), (Il x207), (Il x208)])] m200 (fun v209 m210 => 
 ∃ x211, ∃ x212, ∃ x213, ∃ x214, ∃ x215, ∃ x216, 
 (v209 = (V.tup [(U.agg 2 [(Il x211), (Il x212)]), 
 (U.agg 2 [(Il x213), (Il x214)]), (U.agg 2 [(Il x215), 
 (Il x216)])])) ∧ ∀ m217 : M, (m217 = (M.new m210 (AO.cells 2 [(Il 0), 
 (Il 0)] false))) → ∀ m218 : M, (m218 = (M.new m217 (AO.cells 2 [(Il 0), 
 (Il 0)] false))) → ∀ m219 : M, (m219 = (M.new m218 (AO.cells 2 [(Il 0), 
 (Il 0)] false))) → ∃ m220 : M, ((stC m219 (C.ptr m210.nxt 0) 2 [(Il x211), 
 (Il x212)]) = (some m220)) ∧ ∃ m221 : M, ((stC m220 (C.ptr m217.nxt 0) 2 [(Il x213), 
 (Il x214)]) = (some m221)) ∧ ∃ m222 : M, ((stC m221 (C.ptr m218.nxt 0) 2 [(Il x215), 
 (Il x216)]) = (some m222)) ∧ isPt (C.ptr m39.nxt 0) ∧ 
 ∃ x223, ((ldC m222 (C.ptr m39.nxt 0)) = (some (Il x223))) ∧ 
 isPt (C.ptr m210.nxt 0) ∧ ∃ x224, ((ldC m222 (C.ptr m210.nxt 0)) = (some (Il x224))) ∧ 
 fitsP .i64 (x223 + x224) ∧ isPt (C.ptr m39.nxt 0) ∧ ∃ x225, 
 ((ldC m222 (C.ptr m39.nxt 1)) = (some (Il x225))) ∧ 
 isPt (C.ptr m210.nxt 0) ∧ ∃ x226, ((ldC m222 (C.ptr m210.nxt 1)) = (some (Il x226))) ∧ 
 fitsP .i64 (x225 + x226) ∧ ∃ m227 : M, ((stC m222 (C.ptr m39.nxt 0) 2 [(Il (x223 + x224)), 
 (Il (x225 + x226))]) = (some m227)) ∧ fitsP .i64 (x190 + 1) ∧ 
 R188 [(V.c (Il x201)), (V.c (Il (x190 + 1)))] m227)) (fitsP .i64 (x190 + 1) ∧ 
 R188 [(V.c (Il x201)), (V.c (Il (x190 + 1)))] m200))) (ifB (!decide (x189 = 0)) (ifB (decide (x26 = x189)) (∃ x228, 
 ∃ x229, ((ldA m191 (C.ptr m23.nxt 0) 2) = (some [(Il x228), 
 (Il x229)])) ∧ fitsP .i64 x228 ∧ fitsP .i64 (0 : Int) ∧ 
 fitsP .i64 x229 ∧ fitsP .i64 (0 : Int) ∧ ifB ((decide (x228 = 0)) && (decide (x229 = 0))) (Wc prog tbl 17 [] m191 (fun v230 m231 => 
 ∃ b232 : Bool, (v230 = (V.c (C.bool b232))) ∧ Q (V.c (C.bool b232)) m231)) (Q (V.c (C.bool false)) m191)) (Q (V.c (C.bool false)) m191)) (ifB (decide (x26 = 0)) (∃ x233, 
 ∃ x234, ((ldA m191 (C.ptr m23.nxt 0) 2) = (some [(Il x233), 
 (Il x234)])) ∧ ∃ x235, ∃ x236, ((ldA m191 (C.ptr m39.nxt 0) 2) = (some [(Il x235), 
 (Il x236)])) ∧ Wc prog tbl 36 [(V.agg 2 [(Il x235), 
 (Il x236)])] m191 (fun v237 m238 => ∃ x239, ∃ x240, 
 (v237 = (V.agg 2 [(Il x239), (Il x240)])) ∧ ((ldA m238 (C.ptr m23.nxt 0) 2) = (some [(Il x233), 
 (Il x234)])) ∧ fitsP .i64 x233 ∧ fitsP .i64 x239 ∧ 
 fitsP .i64 x234 ∧ fitsP .i64 x240 ∧ ifB ((decide (x233 = x239)) && (decide (x234 = x240))) (Wc prog tbl 17 [] m238 (fun v241 m242 => 
 ∃ b243 : Bool, (v241 = (V.c (C.bool b243))) ∧ Q (V.c (C.bool b243)) m242)) (Q (V.c (C.bool false)) m238))) (Q (V.c (C.bool false)) m191)))) (ifB (!decide (x189 = 0)) (ifB (decide (x26 = x189)) (∃ x244, 
 ∃ x245, ((ldA m191 (C.ptr m23.nxt 0) 2) = (some [(Il x244), 
 (Il x245)])) ∧ fitsP .i64 x244 ∧ fitsP .i64 (0 : Int) ∧ 
 fitsP .i64 x245 ∧ fitsP .i64 (0 : Int) ∧ ifB ((decide (x244 = 0)) && (decide (x245 = 0))) (Wc prog tbl 17 [] m191 (fun v246 m247 => 
 ∃ b248 : Bool, (v246 = (V.c (C.bool b248))) ∧ Q (V.c (C.bool b248)) m247)) (Q (V.c (C.bool false)) m191)) (Q (V.c (C.bool false)) m191)) (ifB (decide (x26 = 0)) (∃ x249, 
 ∃ x250, ((ldA m191 (C.ptr m23.nxt 0) 2) = (some [(Il x249), 
 (Il x250)])) ∧ ∃ x251, ∃ x252, ((ldA m191 (C.ptr m39.nxt 0) 2) = (some [(Il x251), 
 (Il x252)])) ∧ Wc prog tbl 36 [(V.agg 2 [(Il x251), 
 (Il x252)])] m191 (fun v253 m254 => ∃ x255, ∃ x256, 
 (v253 = (V.agg 2 [(Il x255), (Il x256)])) ∧ ((ldA m254 (C.ptr m23.nxt 0) 2) = (some [(Il x249), 
 (Il x250)])) ∧ fitsP .i64 x249 ∧ fitsP .i64 x255 ∧ 
 fitsP .i64 x250 ∧ fitsP .i64 x256 ∧ ifB ((decide (x249 = x255)) && (decide (x250 = x256))) (Wc prog tbl 17 [] m254 (fun v257 m258 => 
 ∃ b259 : Bool, (v257 = (V.c (C.bool b259))) ∧ Q (V.c (C.bool b259)) m258)) (Q (V.c (C.bool false)) m254))) (Q (V.c (C.bool false)) m191)))) → 
 R188 [(V.c (Il x189)), (V.c (Il x190))] m191) → 
 R188 [(V.c (Il x34)), (V.c (Il 0))] m187)))) (Wc prog tbl 22 [(V.c (Il a400)), 
 (V.c (Il 0)), (V.c (Il (120 : Int)))] m39 (fun v260 m261 => 
 ∃ b262 : Bool, (v260 = (V.c (C.bool b262))) ∧ ifB (!b262) (ifB (!decide (x15 = 2)) (Q (V.c (C.bool false)) m261) (ifB (!decide (x14 = 0)) (Q (V.c (C.bool false)) m261) (ifB (decide (x34 = 0)) (isSl a200 ∧ 
 ifB (decide ((5 : Int) < (((slLen a200) : Nat) : Int))) (∀ m263 : M, (m263 = (M.new m261 (AO.cells 2 [(Il 0), 
 (Il 0)] false))) → ∀ R264 : List V → M → Prop, (∀ x265 : Int, 
 ∀ x266 : Int, ∀ m267 : M, (isSl a200 ∧ ifB (decide (x266 < (((slLen a200) : Nat) : Int))) (ifB (decide (x265 = 0)) (∃ n268 : Nat, 
 (x266 = ((n268 : Nat) : Int)) ∧ (n268 < (slLen a200)) ∧ ∃ x269, ∃ x270, 
 ∃ x271, ∃ x272, ∃ x273, ∃ x274, ((ldA m267 (slAt a200 (n268 * 6)) 6) = (some [(Il x269), 
 (Il x270), (Il x271), (Il x272), 
 (Il x273), (Il x274)])) ∧ Wc prog tbl 29 [(V.c a100), 
 (V.agg 6 [(Il x269), (Il x270), (Il x271), 
 (Il x272), (Il x273), (Il x274)])] m267 (fun v275 m276 => 
 ∃ x277, (v275 = (V.c (Il x277))) ∧ ifB (decide (x277 = 0)) (∃ n278 : Nat, 
 (x266 = ((n278 : Nat) : Int)) ∧ (n278 < (slLen a200)) ∧ ∃ x279, ∃ x280, 
 ∃ x281, ∃ x282, ∃ x283, ∃ x284, ((ldA m276 (slAt a200 (n278 * 6)) 6) = (some [(Il x279), 
 (Il x280), (Il x281), (Il x282), 
 (Il x283), (Il x284)])) ∧ Wc prog tbl 35 [(V.c a100), 
 (V.agg 6 [(Il x279), (Il x280), (Il x281), 
 (Il x282), (Il x283), (Il x284)])] m276 (fun v285 m286 => 
 ∃ x287, ∃ x288, ∃ x289, ∃ x290, ∃ x291, ∃ x292, 
 (v285 = (V.tup [(U.agg 2 [(Il x287), (Il x288)]), 
 (U.agg 2 [(Il x289), (Il x290)]), (U.agg 2 [(Il x291), 
 (Il x292)])])) ∧ ∀ m293 : M, (m293 = (M.new m286 (AO.cells 2 [(Il 0), 
 (Il 0)] false))) → ∀ m294 : M, (m294 = (M.new m293 (AO.cells 2 [(Il 0), 
 (Il 0)] false))) → ∀ m295 : M, (m295 = (M.new m294 (AO.cells 2 [(Il 0), 
 (Il 0)] false))) → ∃ m296 : M, ((stC m295 (C.ptr m286.nxt 0) 2 [(Il x287), 
 (Il x288)]) = (some m296)) ∧ ∃ m297 : M, ((stC m296 (C.ptr m293.nxt 0) 2 [(Il x289), 
 (Il x290)]) = (some m297)) ∧ ∃ m298 : M, ((stC m297 (C.ptr m294.nxt 0) 2 [(Il x291), 
 (Il x292)]) = (some m298)) ∧ isPt (C.ptr m261.nxt 0) ∧ 
 ∃ x299, ((ldC m298 (C.ptr m261.nxt 0)) = (some (Il x299))) ∧ 
 isPt (C.ptr m286.nxt 0) ∧ ∃ x300, ((ldC m298 (C.ptr m286.nxt 0)) = (some (Il x300))) ∧ 
 fitsP .i64 (x299 + x300) ∧ isPt (C.ptr m261.nxt 0) ∧ ∃ x301, 
 ((ldC m298 (C.ptr m261.nxt 1)) = (some (Il x301))) ∧ 
 isPt (C.ptr m286.nxt 0) ∧ ∃ x302, ((ldC m298 (C.ptr m286.nxt 1)) = (some (Il x302))) ∧ 
 fitsP .i64 (x301 + x302) ∧ ∃ m303 : M, ((stC m298 (C.ptr m261.nxt 0) 2 [(Il (x299 + x300)), 
 (Il (x301 + x302))]) = (some m303)) ∧ fitsP .i64 (x266 + 1) ∧ 
 R264 [(V.c (Il x277)), (V.c (Il (x266 + 1)))] m303)) (fitsP .i64 (x266 + 1) ∧ 
 R264 [(V.c (Il x277)), (V.c (Il (x266 + 1)))] m276))) (ifB (!decide (x265 = 0)) (ifB (decide (x26 = x265)) (∃ x304, 
 ∃ x305, ((ldA m267 (C.ptr m23.nxt 0) 2) = (some [(Il x304), 
 (Il x305)])) ∧ fitsP .i64 x304 ∧ fitsP .i64 (0 : Int) ∧ 
 fitsP .i64 x305 ∧ fitsP .i64 (0 : Int) ∧ ifB ((decide (x304 = 0)) && (decide (x305 = 0))) (Wc prog tbl 17 [] m267 (fun v306 m307 => 
 ∃ b308 : Bool, (v306 = (V.c (C.bool b308))) ∧ Q (V.c (C.bool b308)) m307)) (Q (V.c (C.bool false)) m267)) (Q (V.c (C.bool false)) m267)) (ifB (decide (x26 = 0)) (∃ x309, 
 ∃ x310, ((ldA m267 (C.ptr m23.nxt 0) 2) = (some [(Il x309), 
 (Il x310)])) ∧ ∃ x311, ∃ x312, ((ldA m267 (C.ptr m261.nxt 0) 2) = (some [(Il x311), 
 (Il x312)])) ∧ Wc prog tbl 36 [(V.agg 2 [(Il x311), 
 (Il x312)])] m267 (fun v313 m314 => ∃ x315, ∃ x316, 
 (v313 = (V.agg 2 [(Il x315), (Il x316)])) ∧ ((ldA m314 (C.ptr m23.nxt 0) 2) = (some [(Il x309), 
 (Il x310)])) ∧ fitsP .i64 x309 ∧ fitsP .i64 x315 ∧ 
 fitsP .i64 x310 ∧ fitsP .i64 x316 ∧ ifB ((decide (x309 = x315)) && (decide (x310 = x316))) (Wc prog tbl 17 [] m314 (fun v317 m318 => 
 ∃ b319 : Bool, (v317 = (V.c (C.bool b319))) ∧ Q (V.c (C.bool b319)) m318)) (Q (V.c (C.bool false)) m314))) (Q (V.c (C.bool false)) m267)))) (ifB (!decide (x265 = 0)) (ifB (decide (x26 = x265)) (∃ x320, 
 ∃ x321, ((ldA m267 (C.ptr m23.nxt 0) 2) = (some [(Il x320), 
 (Il x321)])) ∧ fitsP .i64 x320 ∧ fitsP .i64 (0 : Int) ∧ 
 fitsP .i64 x321 ∧ fitsP .i64 (0 : Int) ∧ ifB ((decide (x320 = 0)) && (decide (x321 = 0))) (Wc prog tbl 17 [] m267 (fun v322 m323 => 
 ∃ b324 : Bool, (v322 = (V.c (C.bool b324))) ∧ Q (V.c (C.bool b324)) m323)) (Q (V.c (C.bool false)) m267)) (Q (V.c (C.bool false)) m267)) (ifB (decide (x26 = 0)) (∃ x325, 
 ∃ x326, ((ldA m267 (C.ptr m23.nxt 0) 2) = (some [(Il x325), 
 (Il x326)])) ∧ ∃ x327, ∃ x328, ((ldA m267 (C.ptr m261.nxt 0) 2) = (some [(Il x327), 
 (Il x328)])) ∧ Wc prog tbl 36 [(V.agg 2 [(Il x327), 
 (Il x328)])] m267 (fun v329 m330 => ∃ x331, ∃ x332, 
 (v329 = (V.agg 2 [(Il x331), (Il x332)])) ∧ ((ldA m330 (C.ptr m23.nxt 0) 2) = (some [(Il x325), 
 (Il x326)])) ∧ fitsP .i64 x325 ∧ fitsP .i64 x331 ∧ 
 fitsP .i64 x326 ∧ fitsP .i64 x332 ∧ ifB ((decide (x325 = x331)) && (decide (x326 = x332))) (Wc prog tbl 17 [] m330 (fun v333 m334 => 
 ∃ b335 : Bool, (v333 = (V.c (C.bool b335))) ∧ Q (V.c (C.bool b335)) m334)) (Q (V.c (C.bool false)) m330))) (Q (V.c (C.bool false)) m267)))) → 
 R264 [(V.c (Il x265)), (V.c (Il x266))] m267) → 
 R264 [(V.c (Il (3 : Int))), (V.c (Il 0))] m263) (∀ m336 : M, 
 (m336 = (M.new m261 (AO.cells 2 [(Il 0), (Il 0)] false))) → 
 ∀ R337 : List V → M → Prop, (∀ x338 : Int, ∀ x339 : Int, ∀ m340 : M, (isSl a200 ∧ 
 ifB (decide (x339 < (((slLen a200) : Nat) : Int))) (ifB (decide (x338 = 0)) (∃ n341 : Nat, 
 (x339 = ((n341 : Nat) : Int)) ∧ (n341 < (slLen a200)) ∧ ∃ x342, ∃ x343, 
 ∃ x344, ∃ x345, ∃ x346, ∃ x347, ((ldA m340 (slAt a200 (n341 * 6)) 6) = (some [(Il x342), 
 (Il x343), (Il x344), (Il x345), 
 (Il x346), (Il x347)])) ∧ Wc prog tbl 29 [(V.c a100), 
 (V.agg 6 [(Il x342), (Il x343), (Il x344), 
 (Il x345), (Il x346), (Il x347)])] m340 (fun v348 m349 => 
 ∃ x350, (v348 = (V.c (Il x350))) ∧ ifB (decide (x350 = 0)) (∃ n351 : Nat, 
 (x339 = ((n351 : Nat) : Int)) ∧ (n351 < (slLen a200)) ∧ ∃ x352, ∃ x353, 
 ∃ x354, ∃ x355, ∃ x356, ∃ x357, ((ldA m349 (slAt a200 (n351 * 6)) 6) = (some [(Il x352), 
 (Il x353), (Il x354), (Il x355), 
 (Il x356), (Il x357)])) ∧ Wc prog tbl 35 [(V.c a100), 
 (V.agg 6 [(Il x352), (Il x353), (Il x354), 
 (Il x355), (Il x356), (Il x357)])] m349 (fun v358 m359 => 
 ∃ x360, ∃ x361, ∃ x362, ∃ x363, ∃ x364, ∃ x365, 
 (v358 = (V.tup [(U.agg 2 [(Il x360), (Il x361)]), 
 (U.agg 2 [(Il x362), (Il x363)]), (U.agg 2 [(Il x364), 
 (Il x365)])])) ∧ ∀ m366 : M, (m366 = (M.new m359 (AO.cells 2 [(Il 0), 
 (Il 0)] false))) → ∀ m367 : M, (m367 = (M.new m366 (AO.cells 2 [(Il 0), 
 (Il 0)] false))) → ∀ m368 : M, (m368 = (M.new m367 (AO.cells 2 [(Il 0), 
 (Il 0)] false))) → ∃ m369 : M, ((stC m368 (C.ptr m359.nxt 0) 2 [(Il x360), 
 (Il x361)]) = (some m369)) ∧ ∃ m370 : M, ((stC m369 (C.ptr m366.nxt 0) 2 [(Il x362), 
 (Il x363)]) = (some m370)) ∧ ∃ m371 : M, ((stC m370 (C.ptr m367.nxt 0) 2 [(Il x364), 
 (Il x365)]) = (some m371)) ∧ isPt (C.ptr m261.nxt 0) ∧ 
 ∃ x372, ((ldC m371 (C.ptr m261.nxt 0)) = (some (Il x372))) ∧ 
 isPt (C.ptr m359.nxt 0) ∧ ∃ x373, ((ldC m371 (C.ptr m359.nxt 0)) = (some (Il x373))) ∧ 
 fitsP .i64 (x372 + x373) ∧ isPt (C.ptr m261.nxt 0) ∧ ∃ x374, 
 ((ldC m371 (C.ptr m261.nxt 1)) = (some (Il x374))) ∧ 
 isPt (C.ptr m359.nxt 0) ∧ ∃ x375, ((ldC m371 (C.ptr m359.nxt 1)) = (some (Il x375))) ∧ 
 fitsP .i64 (x374 + x375) ∧ ∃ m376 : M, ((stC m371 (C.ptr m261.nxt 0) 2 [(Il (x372 + x373)), 
 (Il (x374 + x375))]) = (some m376)) ∧ fitsP .i64 (x339 + 1) ∧ 
 R337 [(V.c (Il x350)), (V.c (Il (x339 + 1)))] m376)) (fitsP .i64 (x339 + 1) ∧ 
 R337 [(V.c (Il x350)), (V.c (Il (x339 + 1)))] m349))) (ifB (!decide (x338 = 0)) (ifB (decide (x26 = x338)) (∃ x377, 
 ∃ x378, ((ldA m340 (C.ptr m23.nxt 0) 2) = (some [(Il x377), 
 (Il x378)])) ∧ fitsP .i64 x377 ∧ fitsP .i64 (0 : Int) ∧ 
 fitsP .i64 x378 ∧ fitsP .i64 (0 : Int) ∧ ifB ((decide (x377 = 0)) && (decide (x378 = 0))) (Wc prog tbl 17 [] m340 (fun v379 m380 => 
 ∃ b381 : Bool, (v379 = (V.c (C.bool b381))) ∧ Q (V.c (C.bool b381)) m380)) (Q (V.c (C.bool false)) m340)) (Q (V.c (C.bool false)) m340)) (ifB (decide (x26 = 0)) (∃ x382, 
 ∃ x383, ((ldA m340 (C.ptr m23.nxt 0) 2) = (some [(Il x382), 
 (Il x383)])) ∧ ∃ x384, ∃ x385, ((ldA m340 (C.ptr m261.nxt 0) 2) = (some [(Il x384), 
 (Il x385)])) ∧ Wc prog tbl 36 [(V.agg 2 [(Il x384), 
 (Il x385)])] m340 (fun v386 m387 => ∃ x388, ∃ x389, 
 (v386 = (V.agg 2 [(Il x388), (Il x389)])) ∧ ((ldA m387 (C.ptr m23.nxt 0) 2) = (some [(Il x382), 
 (Il x383)])) ∧ fitsP .i64 x382 ∧ fitsP .i64 x388 ∧ 
 fitsP .i64 x383 ∧ fitsP .i64 x389 ∧ ifB ((decide (x382 = x388)) && (decide (x383 = x389))) (Wc prog tbl 17 [] m387 (fun v390 m391 => 
 ∃ b392 : Bool, (v390 = (V.c (C.bool b392))) ∧ Q (V.c (C.bool b392)) m391)) (Q (V.c (C.bool false)) m387))) (Q (V.c (C.bool false)) m340)))) (ifB (!decide (x338 = 0)) (ifB (decide (x26 = x338)) (∃ x393, 
 ∃ x394, ((ldA m340 (C.ptr m23.nxt 0) 2) = (some [(Il x393), 
 (Il x394)])) ∧ fitsP .i64 x393 ∧ fitsP .i64 (0 : Int) ∧ 
 fitsP .i64 x394 ∧ fitsP .i64 (0 : Int) ∧ ifB ((decide (x393 = 0)) && (decide (x394 = 0))) (Wc prog tbl 17 [] m340 (fun v395 m396 => 
 ∃ b397 : Bool, (v395 = (V.c (C.bool b397))) ∧ Q (V.c (C.bool b397)) m396)) (Q (V.c (C.bool false)) m340)) (Q (V.c (C.bool false)) m340)) (ifB (decide (x26 = 0)) (∃ x398, 
 ∃ x399, ((ldA m340 (C.ptr m23.nxt 0) 2) = (some [(Il x398), 
 (Il x399)])) ∧ ∃ x400, ∃ x401, ((ldA m340 (C.ptr m261.nxt 0) 2) = (some [(Il x400), 
 (Il x401)])) ∧ Wc prog tbl 36 [(V.agg 2 [(Il x400), 
 (Il x401)])] m340 (fun v402 m403 => ∃ x404, ∃ x405, 
 (v402 = (V.agg 2 [(Il x404), (Il x405)])) ∧ ((ldA m403 (C.ptr m23.nxt 0) 2) = (some [(Il x398), 
 (Il x399)])) ∧ fitsP .i64 x398 ∧ fitsP .i64 x404 ∧ 
 fitsP .i64 x399 ∧ fitsP .i64 x405 ∧ ifB ((decide (x398 = x404)) && (decide (x399 = x405))) (Wc prog tbl 17 [] m403 (fun v406 m407 => 
 ∃ b408 : Bool, (v406 = (V.c (C.bool b408))) ∧ Q (V.c (C.bool b408)) m407)) (Q (V.c (C.bool false)) m403))) (Q (V.c (C.bool false)) m340)))) → 
 R337 [(V.c (Il x338)), (V.c (Il x339))] m340) → 
 R337 [(V.c (Il x34)), (V.c (Il 0))] m336)) (∀ m409 : M, 
 (m409 = (M.new m261 (AO.cells 2 [(Il 0), (Il 0)] false))) → 
 ∀ R410 : List V → M → Prop, (∀ x411 : Int, ∀ x412 : Int, ∀ m413 : M, (isSl a200 ∧ 
 ifB (decide (x412 < (((slLen a200) : Nat) : Int))) (ifB (decide (x411 = 0)) (∃ n414 : Nat, 
 (x412 = ((n414 : Nat) : Int)) ∧ (n414 < (slLen a200)) ∧ ∃ x415, ∃ x416, 
 ∃ x417, ∃ x418, ∃ x419, ∃ x420, ((ldA m413 (slAt a200 (n414 * 6)) 6) = (some [(Il x415), 
 (Il x416), (Il x417), (Il x418), 
 (Il x419), (Il x420)])) ∧ Wc prog tbl 29 [(V.c a100), 
 (V.agg 6 [(Il x415), (Il x416), (Il x417), 
 (Il x418), (Il x419), (Il x420)])] m413 (fun v421 m422 => 
 ∃ x423, (v421 = (V.c (Il x423))) ∧ ifB (decide (x423 = 0)) (∃ n424 : Nat, 
 (x412 = ((n424 : Nat) : Int)) ∧ (n424 < (slLen a200)) ∧ ∃ x425, ∃ x426, 
 ∃ x427, ∃ x428, ∃ x429, ∃ x430, ((ldA m422 (slAt a200 (n424 * 6)) 6) = (some [(Il x425), 
 (Il x426), (Il x427), (Il x428), 
 (Il x429), (Il x430)])) ∧ Wc prog tbl 35 [(V.c a100), 
 (V.agg 6 [(Il x425), (Il x426), (Il x427), 
 (Il x428), (Il x429), (Il x430)])] m422 (fun v431 m432 => 
 ∃ x433, ∃ x434, ∃ x435, ∃ x436, ∃ x437, ∃ x438, 
 (v431 = (V.tup [(U.agg 2 [(Il x433), (Il x434)]), 
 (U.agg 2 [(Il x435), (Il x436)]), (U.agg 2 [(Il x437), 
 (Il x438)])])) ∧ ∀ m439 : M, (m439 = (M.new m432 (AO.cells 2 [(Il 0), 
 (Il 0)] false))) → ∀ m440 : M, (m440 = (M.new m439 (AO.cells 2 [(Il 0), 
 (Il 0)] false))) → ∀ m441 : M, (m441 = (M.new m440 (AO.cells 2 [(Il 0), 
 (Il 0)] false))) → ∃ m442 : M, ((stC m441 (C.ptr m432.nxt 0) 2 [(Il x433), 
 (Il x434)]) = (some m442)) ∧ ∃ m443 : M, ((stC m442 (C.ptr m439.nxt 0) 2 [(Il x435), 
 (Il x436)]) = (some m443)) ∧ ∃ m444 : M, ((stC m443 (C.ptr m440.nxt 0) 2 [(Il x437), 
 (Il x438)]) = (some m444)) ∧ isPt (C.ptr m261.nxt 0) ∧ 
 ∃ x445, ((ldC m444 (C.ptr m261.nxt 0)) = (some (Il x445))) ∧ 
 isPt (C.ptr m432.nxt 0) ∧ ∃ x446, ((ldC m444 (C.ptr m432.nxt 0)) = (some (Il x446))) ∧ 
 fitsP .i64 (x445 + x446) ∧ isPt (C.ptr m261.nxt 0) ∧ ∃ x447, 
 ((ldC m444 (C.ptr m261.nxt 1)) = (some (Il x447))) ∧ 
 isPt (C.ptr m432.nxt 0) ∧ ∃ x448, ((ldC m444 (C.ptr m432.nxt 1)) = (some (Il x448))) ∧ 
 fitsP .i64 (x447 + x448) ∧ ∃ m449 : M, ((stC m444 (C.ptr m261.nxt 0) 2 [(Il (x445 + x446)), 
 (Il (x447 + x448))]) = (some m449)) ∧ fitsP .i64 (x412 + 1) ∧ 
 R410 [(V.c (Il x423)), (V.c (Il (x412 + 1)))] m449)) (fitsP .i64 (x412 + 1) ∧ 
 R410 [(V.c (Il x423)), (V.c (Il (x412 + 1)))] m422))) (ifB (!decide (x411 = 0)) (ifB (decide (x26 = x411)) (∃ x450, 
 ∃ x451, ((ldA m413 (C.ptr m23.nxt 0) 2) = (some [(Il x450), 
 (Il x451)])) ∧ fitsP .i64 x450 ∧ fitsP .i64 (0 : Int) ∧ 
 fitsP .i64 x451 ∧ fitsP .i64 (0 : Int) ∧ ifB ((decide (x450 = 0)) && (decide (x451 = 0))) (Wc prog tbl 17 [] m413 (fun v452 m453 => 
 ∃ b454 : Bool, (v452 = (V.c (C.bool b454))) ∧ Q (V.c (C.bool b454)) m453)) (Q (V.c (C.bool false)) m413)) (Q (V.c (C.bool false)) m413)) (ifB (decide (x26 = 0)) (∃ x455, 
 ∃ x456, ((ldA m413 (C.ptr m23.nxt 0) 2) = (some [(Il x455), 
 (Il x456)])) ∧ ∃ x457, ∃ x458, ((ldA m413 (C.ptr m261.nxt 0) 2) = (some [(Il x457), 
 (Il x458)])) ∧ Wc prog tbl 36 [(V.agg 2 [(Il x457), 
 (Il x458)])] m413 (fun v459 m460 => ∃ x461, ∃ x462, 
 (v459 = (V.agg 2 [(Il x461), (Il x462)])) ∧ ((ldA m460 (C.ptr m23.nxt 0) 2) = (some [(Il x455), 
 (Il x456)])) ∧ fitsP .i64 x455 ∧ fitsP .i64 x461 ∧ 
 fitsP .i64 x456 ∧ fitsP .i64 x462 ∧ ifB ((decide (x455 = x461)) && (decide (x456 = x462))) (Wc prog tbl 17 [] m460 (fun v463 m464 => 
 ∃ b465 : Bool, (v463 = (V.c (C.bool b465))) ∧ Q (V.c (C.bool b465)) m464)) (Q (V.c (C.bool false)) m460))) (Q (V.c (C.bool false)) m413)))) (ifB (!decide (x411 = 0)) (ifB (decide (x26 = x411)) (∃ x466, 
 ∃ x467, ((ldA m413 (C.ptr m23.nxt 0) 2) = (some [(Il x466), 
 (Il x467)])) ∧ fitsP .i64 x466 ∧ fitsP .i64 (0 : Int) ∧ 
 fitsP .i64 x467 ∧ fitsP .i64 (0 : Int) ∧ ifB ((decide (x466 = 0)) && (decide (x467 = 0))) (Wc prog tbl 17 [] m413 (fun v468 m469 => 
 ∃ b470 : Bool, (v468 = (V.c (C.bool b470))) ∧ Q (V.c (C.bool b470)) m469)) (Q (V.c (C.bool false)) m413)) (Q (V.c (C.bool false)) m413)) (ifB (decide (x26 = 0)) (∃ x471, 
 ∃ x472, ((ldA m413 (C.ptr m23.nxt 0) 2) = (some [(Il x471), 
 (Il x472)])) ∧ ∃ x473, ∃ x474, ((ldA m413 (C.ptr m261.nxt 0) 2) = (some [(Il x473), 
 (Il x474)])) ∧ Wc prog tbl 36 [(V.agg 2 [(Il x473), 
 (Il x474)])] m413 (fun v475 m476 => ∃ x477, ∃ x478, 
 (v475 = (V.agg 2 [(Il x477), (Il x478)])) ∧ ((ldA m476 (C.ptr m23.nxt 0) 2) = (some [(Il x471), 
 (Il x472)])) ∧ fitsP .i64 x471 ∧ fitsP .i64 x477 ∧ 
 fitsP .i64 x472 ∧ fitsP .i64 x478 ∧ ifB ((decide (x471 = x477)) && (decide (x472 = x478))) (Wc prog tbl 17 [] m476 (fun v479 m480 => 
 ∃ b481 : Bool, (v479 = (V.c (C.bool b481))) ∧ Q (V.c (C.bool b481)) m480)) (Q (V.c (C.bool false)) m476))) (Q (V.c (C.bool false)) m413)))) → 
 R410 [(V.c (Il x411)), (V.c (Il x412))] m413) → 
 R410 [(V.c (Il x34)), (V.c (Il 0))] m409)))) (ifB (decide (x31 = 0)) (Wc prog tbl 41 [(V.c a100), 
 (V.c (Il a300)), (V.c (Il a400))] m261 (fun v482 m483 => 
 ∃ x484, (v482 = (V.c (Il x484))) ∧ ifB (decide (x484 < 0)) (ifB (!decide (x15 = 7)) (Q (V.c (C.bool false)) m483) (ifB (!decide (x14 = (Max.max x484 (0 : Int)))) (Q (V.c (C.bool false)) m483) (ifB (decide (x34 = 0)) (isSl a200 ∧ 
 ifB (decide ((5 : Int) < (((slLen a200) : Nat) : Int))) (∀ m485 : M, (m485 = (M.new m483 (AO.cells 2 [(Il 0), 
 (Il 0)] false))) → ∀ R486 : List V → M → Prop, (∀ x487 : Int, 
 ∀ x488 : Int, ∀ m489 : M, (isSl a200 ∧ ifB (decide (x488 < (((slLen a200) : Nat) : Int))) (ifB (decide (x487 = 0)) (∃ n490 : Nat, 
 (x488 = ((n490 : Nat) : Int)) ∧ (n490 < (slLen a200)) ∧ ∃ x491, ∃ x492, 
 ∃ x493, ∃ x494, ∃ x495, ∃ x496, ((ldA m489 (slAt a200 (n490 * 6)) 6) = (some [(Il x491), 
 (Il x492), (Il x493), (Il x494), 
 (Il x495), (Il x496)])) ∧ Wc prog tbl 29 [(V.c a100), 
 (V.agg 6 [(Il x491), (Il x492), (Il x493), 
 (Il x494), (Il x495), (Il x496)])] m489 (fun v497 m498 => 
 ∃ x499, (v497 = (V.c (Il x499))) ∧ ifB (decide (x499 = 0)) (∃ n500 : Nat, 
 (x488 = ((n500 : Nat) : Int)) ∧ (n500 < (slLen a200)) ∧ ∃ x501, ∃ x502, 
 ∃ x503, ∃ x504, ∃ x505, ∃ x506, ((ldA m498 (slAt a200 (n500 * 6)) 6) = (some [(Il x501), 
 (Il x502), (Il x503), (Il x504), 
 (Il x505), (Il x506)])) ∧ Wc prog tbl 35 [(V.c a100), 
 (V.agg 6 [(Il x501), (Il x502), (Il x503), 
 (Il x504), (Il x505), (Il x506)])] m498 (fun v507 m508 => 
 ∃ x509, ∃ x510, ∃ x511, ∃ x512, ∃ x513, ∃ x514, 
 (v507 = (V.tup [(U.agg 2 [(Il x509), (Il x510)]), 
 (U.agg 2 [(Il x511), (Il x512)]), (U.agg 2 [(Il x513), 
 (Il x514)])])) ∧ ∀ m515 : M, (m515 = (M.new m508 (AO.cells 2 [(Il 0), 
 (Il 0)] false))) → ∀ m516 : M, (m516 = (M.new m515 (AO.cells 2 [(Il 0), 
 (Il 0)] false))) → ∀ m517 : M, (m517 = (M.new m516 (AO.cells 2 [(Il 0), 
 (Il 0)] false))) → ∃ m518 : M, ((stC m517 (C.ptr m508.nxt 0) 2 [(Il x509), 
 (Il x510)]) = (some m518)) ∧ ∃ m519 : M, ((stC m518 (C.ptr m515.nxt 0) 2 [(Il x511), 
 (Il x512)]) = (some m519)) ∧ ∃ m520 : M, ((stC m519 (C.ptr m516.nxt 0) 2 [(Il x513), 
 (Il x514)]) = (some m520)) ∧ isPt (C.ptr m483.nxt 0) ∧ 
 ∃ x521, ((ldC m520 (C.ptr m483.nxt 0)) = (some (Il x521))) ∧ 
 isPt (C.ptr m508.nxt 0) ∧ ∃ x522, ((ldC m520 (C.ptr m508.nxt 0)) = (some (Il x522))) ∧ 
 fitsP .i64 (x521 + x522) ∧ isPt (C.ptr m483.nxt 0) ∧ ∃ x523, 
 ((ldC m520 (C.ptr m483.nxt 1)) = (some (Il x523))) ∧ 
 isPt (C.ptr m508.nxt 0) ∧ ∃ x524, ((ldC m520 (C.ptr m508.nxt 1)) = (some (Il x524))) ∧ 
 fitsP .i64 (x523 + x524) ∧ ∃ m525 : M, ((stC m520 (C.ptr m483.nxt 0) 2 [(Il (x521 + x522)), 
 (Il (x523 + x524))]) = (some m525)) ∧ fitsP .i64 (x488 + 1) ∧ 
 R486 [(V.c (Il x499)), (V.c (Il (x488 + 1)))] m525)) (fitsP .i64 (x488 + 1) ∧ 
 R486 [(V.c (Il x499)), (V.c (Il (x488 + 1)))] m498))) (ifB (!decide (x487 = 0)) (ifB (decide (x26 = x487)) (∃ x526, 
 ∃ x527, ((ldA m489 (C.ptr m23.nxt 0) 2) = (some [(Il x526), 
 (Il x527)])) ∧ fitsP .i64 x526 ∧ fitsP .i64 (0 : Int) ∧ 
 fitsP .i64 x527 ∧ fitsP .i64 (0 : Int) ∧ ifB ((decide (x526 = 0)) && (decide (x527 = 0))) (Wc prog tbl 17 [] m489 (fun v528 m529 => 
 ∃ b530 : Bool, (v528 = (V.c (C.bool b530))) ∧ Q (V.c (C.bool b530)) m529)) (Q (V.c (C.bool false)) m489)) (Q (V.c (C.bool false)) m489)) (ifB (decide (x26 = 0)) (∃ x531, 
 ∃ x532, ((ldA m489 (C.ptr m23.nxt 0) 2) = (some [(Il x531), 
 (Il x532)])) ∧ ∃ x533, ∃ x534, ((ldA m489 (C.ptr m483.nxt 0) 2) = (some [(Il x533), 
 (Il x534)])) ∧ Wc prog tbl 36 [(V.agg 2 [(Il x533), 
 (Il x534)])] m489 (fun v535 m536 => ∃ x537, ∃ x538, 
 (v535 = (V.agg 2 [(Il x537), (Il x538)])) ∧ ((ldA m536 (C.ptr m23.nxt 0) 2) = (some [(Il x531), 
 (Il x532)])) ∧ fitsP .i64 x531 ∧ fitsP .i64 x537 ∧ 
 fitsP .i64 x532 ∧ fitsP .i64 x538 ∧ ifB ((decide (x531 = x537)) && (decide (x532 = x538))) (Wc prog tbl 17 [] m536 (fun v539 m540 => 
 ∃ b541 : Bool, (v539 = (V.c (C.bool b541))) ∧ Q (V.c (C.bool b541)) m540)) (Q (V.c (C.bool false)) m536))) (Q (V.c (C.bool false)) m489)))) (ifB (!decide (x487 = 0)) (ifB (decide (x26 = x487)) (∃ x542, 
 ∃ x543, ((ldA m489 (C.ptr m23.nxt 0) 2) = (some [(Il x542), 
 (Il x543)])) ∧ fitsP .i64 x542 ∧ fitsP .i64 (0 : Int) ∧ 
 fitsP .i64 x543 ∧ fitsP .i64 (0 : Int) ∧ ifB ((decide (x542 = 0)) && (decide (x543 = 0))) (Wc prog tbl 17 [] m489 (fun v544 m545 => 
 ∃ b546 : Bool, (v544 = (V.c (C.bool b546))) ∧ Q (V.c (C.bool b546)) m545)) (Q (V.c (C.bool false)) m489)) (Q (V.c (C.bool false)) m489)) (ifB (decide (x26 = 0)) (∃ x547, 
 ∃ x548, ((ldA m489 (C.ptr m23.nxt 0) 2) = (some [(Il x547), 
 (Il x548)])) ∧ ∃ x549, ∃ x550, ((ldA m489 (C.ptr m483.nxt 0) 2) = (some [(Il x549), 
 (Il x550)])) ∧ Wc prog tbl 36 [(V.agg 2 [(Il x549), 
 (Il x550)])] m489 (fun v551 m552 => ∃ x553, ∃ x554, 
 (v551 = (V.agg 2 [(Il x553), (Il x554)])) ∧ ((ldA m552 (C.ptr m23.nxt 0) 2) = (some [(Il x547), 
 (Il x548)])) ∧ fitsP .i64 x547 ∧ fitsP .i64 x553 ∧ 
 fitsP .i64 x548 ∧ fitsP .i64 x554 ∧ ifB ((decide (x547 = x553)) && (decide (x548 = x554))) (Wc prog tbl 17 [] m552 (fun v555 m556 => 
 ∃ b557 : Bool, (v555 = (V.c (C.bool b557))) ∧ Q (V.c (C.bool b557)) m556)) (Q (V.c (C.bool false)) m552))) (Q (V.c (C.bool false)) m489)))) → 
 R486 [(V.c (Il x487)), (V.c (Il x488))] m489) → 
 R486 [(V.c (Il (3 : Int))), (V.c (Il 0))] m485) (∀ m558 : M, 
 (m558 = (M.new m483 (AO.cells 2 [(Il 0), (Il 0)] false))) → 
 ∀ R559 : List V → M → Prop, (∀ x560 : Int, ∀ x561 : Int, ∀ m562 : M, (isSl a200 ∧ 
 ifB (decide (x561 < (((slLen a200) : Nat) : Int))) (ifB (decide (x560 = 0)) (∃ n563 : Nat, 
 (x561 = ((n563 : Nat) : Int)) ∧ (n563 < (slLen a200)) ∧ ∃ x564, ∃ x565, 
 ∃ x566, ∃ x567, ∃ x568, ∃ x569, ((ldA m562 (slAt a200 (n563 * 6)) 6) = (some [(Il x564), 
 (Il x565), (Il x566), (Il x567), 
 (Il x568), (Il x569)])) ∧ Wc prog tbl 29 [(V.c a100), 
 (V.agg 6 [(Il x564), (Il x565), (Il x566), 
 (Il x567), (Il x568), (Il x569)])] m562 (fun v570 m571 => 
 ∃ x572, (v570 = (V.c (Il x572))) ∧ ifB (decide (x572 = 0)) (∃ n573 : Nat, 
 (x561 = ((n573 : Nat) : Int)) ∧ (n573 < (slLen a200)) ∧ ∃ x574, ∃ x575, 
 ∃ x576, ∃ x577, ∃ x578, ∃ x579, ((ldA m571 (slAt a200 (n573 * 6)) 6) = (some [(Il x574), 
 (Il x575), (Il x576), (Il x577), 
 (Il x578), (Il x579)])) ∧ Wc prog tbl 35 [(V.c a100), 
 (V.agg 6 [(Il x574), (Il x575), (Il x576), 
 (Il x577), (Il x578), (Il x579)])] m571 (fun v580 m581 => 
 ∃ x582, ∃ x583, ∃ x584, ∃ x585, ∃ x586, ∃ x587, 
 (v580 = (V.tup [(U.agg 2 [(Il x582), (Il x583)]), 
 (U.agg 2 [(Il x584), (Il x585)]), (U.agg 2 [(Il x586), 
 (Il x587)])])) ∧ ∀ m588 : M, (m588 = (M.new m581 (AO.cells 2 [(Il 0), 
 (Il 0)] false))) → ∀ m589 : M, (m589 = (M.new m588 (AO.cells 2 [(Il 0), 
 (Il 0)] false))) → ∀ m590 : M, (m590 = (M.new m589 (AO.cells 2 [(Il 0), 
 (Il 0)] false))) → ∃ m591 : M, ((stC m590 (C.ptr m581.nxt 0) 2 [(Il x582), 
 (Il x583)]) = (some m591)) ∧ ∃ m592 : M, ((stC m591 (C.ptr m588.nxt 0) 2 [(Il x584), 
 (Il x585)]) = (some m592)) ∧ ∃ m593 : M, ((stC m592 (C.ptr m589.nxt 0) 2 [(Il x586), 
 (Il x587)]) = (some m593)) ∧ isPt (C.ptr m483.nxt 0) ∧ 
 ∃ x594, ((ldC m593 (C.ptr m483.nxt 0)) = (some (Il x594))) ∧ 
 isPt (C.ptr m581.nxt 0) ∧ ∃ x595, ((ldC m593 (C.ptr m581.nxt 0)) = (some (Il x595))) ∧ 
 fitsP .i64 (x594 + x595) ∧ isPt (C.ptr m483.nxt 0) ∧ ∃ x596, 
 ((ldC m593 (C.ptr m483.nxt 1)) = (some (Il x596))) ∧ 
 isPt (C.ptr m581.nxt 0) ∧ ∃ x597, ((ldC m593 (C.ptr m581.nxt 1)) = (some (Il x597))) ∧ 
 fitsP .i64 (x596 + x597) ∧ ∃ m598 : M, ((stC m593 (C.ptr m483.nxt 0) 2 [(Il (x594 + x595)), 
 (Il (x596 + x597))]) = (some m598)) ∧ fitsP .i64 (x561 + 1) ∧ 
 R559 [(V.c (Il x572)), (V.c (Il (x561 + 1)))] m598)) (fitsP .i64 (x561 + 1) ∧ 
 R559 [(V.c (Il x572)), (V.c (Il (x561 + 1)))] m571))) (ifB (!decide (x560 = 0)) (ifB (decide (x26 = x560)) (∃ x599, 
 ∃ x600, ((ldA m562 (C.ptr m23.nxt 0) 2) = (some [(Il x599), 
 (Il x600)])) ∧ fitsP .i64 x599 ∧ fitsP .i64 (0 : Int) ∧ 
 fitsP .i64 x600 ∧ fitsP .i64 (0 : Int) ∧ ifB ((decide (x599 = 0)) && (decide (x600 = 0))) (Wc prog tbl 17 [] m562 (fun v601 m602 => 
 ∃ b603 : Bool, (v601 = (V.c (C.bool b603))) ∧ Q (V.c (C.bool b603)) m602)) (Q (V.c (C.bool false)) m562)) (Q (V.c (C.bool false)) m562)) (ifB (decide (x26 = 0)) (∃ x604, 
 ∃ x605, ((ldA m562 (C.ptr m23.nxt 0) 2) = (some [(Il x604), 
 (Il x605)])) ∧ ∃ x606, ∃ x607, ((ldA m562 (C.ptr m483.nxt 0) 2) = (some [(Il x606), 
 (Il x607)])) ∧ Wc prog tbl 36 [(V.agg 2 [(Il x606), 
 (Il x607)])] m562 (fun v608 m609 => ∃ x610, ∃ x611, 
 (v608 = (V.agg 2 [(Il x610), (Il x611)])) ∧ ((ldA m609 (C.ptr m23.nxt 0) 2) = (some [(Il x604), 
 (Il x605)])) ∧ fitsP .i64 x604 ∧ fitsP .i64 x610 ∧ 
 fitsP .i64 x605 ∧ fitsP .i64 x611 ∧ ifB ((decide (x604 = x610)) && (decide (x605 = x611))) (Wc prog tbl 17 [] m609 (fun v612 m613 => 
 ∃ b614 : Bool, (v612 = (V.c (C.bool b614))) ∧ Q (V.c (C.bool b614)) m613)) (Q (V.c (C.bool false)) m609))) (Q (V.c (C.bool false)) m562)))) (ifB (!decide (x560 = 0)) (ifB (decide (x26 = x560)) (∃ x615, 
 ∃ x616, ((ldA m562 (C.ptr m23.nxt 0) 2) = (some [(Il x615), 
 (Il x616)])) ∧ fitsP .i64 x615 ∧ fitsP .i64 (0 : Int) ∧ 
 fitsP .i64 x616 ∧ fitsP .i64 (0 : Int) ∧ ifB ((decide (x615 = 0)) && (decide (x616 = 0))) (Wc prog tbl 17 [] m562 (fun v617 m618 => 
 ∃ b619 : Bool, (v617 = (V.c (C.bool b619))) ∧ Q (V.c (C.bool b619)) m618)) (Q (V.c (C.bool false)) m562)) (Q (V.c (C.bool false)) m562)) (ifB (decide (x26 = 0)) (∃ x620, 
 ∃ x621, ((ldA m562 (C.ptr m23.nxt 0) 2) = (some [(Il x620), 
 (Il x621)])) ∧ ∃ x622, ∃ x623, ((ldA m562 (C.ptr m483.nxt 0) 2) = (some [(Il x622), 
 (Il x623)])) ∧ Wc prog tbl 36 [(V.agg 2 [(Il x622), 
 (Il x623)])] m562 (fun v624 m625 => ∃ x626, ∃ x627, 
 (v624 = (V.agg 2 [(Il x626), (Il x627)])) ∧ ((ldA m625 (C.ptr m23.nxt 0) 2) = (some [(Il x620), 
 (Il x621)])) ∧ fitsP .i64 x620 ∧ fitsP .i64 x626 ∧ 
 fitsP .i64 x621 ∧ fitsP .i64 x627 ∧ ifB ((decide (x620 = x626)) && (decide (x621 = x627))) (Wc prog tbl 17 [] m625 (fun v628 m629 => 
 ∃ b630 : Bool, (v628 = (V.c (C.bool b630))) ∧ Q (V.c (C.bool b630)) m629)) (Q (V.c (C.bool false)) m625))) (Q (V.c (C.bool false)) m562)))) → 
 R559 [(V.c (Il x560)), (V.c (Il x561))] m562) → 
 R559 [(V.c (Il x34)), (V.c (Il 0))] m558)) (∀ m631 : M, 
 (m631 = (M.new m483 (AO.cells 2 [(Il 0), (Il 0)] false))) → 
 ∀ R632 : List V → M → Prop, (∀ x633 : Int, ∀ x634 : Int, ∀ m635 : M, (isSl a200 ∧ 
 ifB (decide (x634 < (((slLen a200) : Nat) : Int))) (ifB (decide (x633 = 0)) (∃ n636 : Nat, 
 (x634 = ((n636 : Nat) : Int)) ∧ (n636 < (slLen a200)) ∧ ∃ x637, ∃ x638, 
 ∃ x639, ∃ x640, ∃ x641, ∃ x642, ((ldA m635 (slAt a200 (n636 * 6)) 6) = (some [(Il x637), 
 (Il x638), (Il x639), (Il x640), 
 (Il x641), (Il x642)])) ∧ Wc prog tbl 29 [(V.c a100), 
 (V.agg 6 [(Il x637), (Il x638), (Il x639), 
 (Il x640), (Il x641), (Il x642)])] m635 (fun v643 m644 => 
 ∃ x645, (v643 = (V.c (Il x645))) ∧ ifB (decide (x645 = 0)) (∃ n646 : Nat, 
 (x634 = ((n646 : Nat) : Int)) ∧ (n646 < (slLen a200)) ∧ ∃ x647, ∃ x648, 
 ∃ x649, ∃ x650, ∃ x651, ∃ x652, ((ldA m644 (slAt a200 (n646 * 6)) 6) = (some [(Il x647), 
 (Il x648), (Il x649), (Il x650), 
 (Il x651), (Il x652)])) ∧ Wc prog tbl 35 [(V.c a100), 
 (V.agg 6 [(Il x647), (Il x648), (Il x649), 
 (Il x650), (Il x651), (Il x652)])] m644 (fun v653 m654 => 
 ∃ x655, ∃ x656, ∃ x657, ∃ x658, ∃ x659, ∃ x660, 
 (v653 = (V.tup [(U.agg 2 [(Il x655), (Il x656)]), 
 (U.agg 2 [(Il x657), (Il x658)]), (U.agg 2 [(Il x659), 
 (Il x660)])])) ∧ ∀ m661 : M, (m661 = (M.new m654 (AO.cells 2 [(Il 0), 
 (Il 0)] false))) → ∀ m662 : M, (m662 = (M.new m661 (AO.cells 2 [(Il 0), 
 (Il 0)] false))) → ∀ m663 : M, (m663 = (M.new m662 (AO.cells 2 [(Il 0), 
 (Il 0)] false))) → ∃ m664 : M, ((stC m663 (C.ptr m654.nxt 0) 2 [(Il x655), 
 (Il x656)]) = (some m664)) ∧ ∃ m665 : M, ((stC m664 (C.ptr m661.nxt 0) 2 [(Il x657), 
 (Il x658)]) = (some m665)) ∧ ∃ m666 : M, ((stC m665 (C.ptr m662.nxt 0) 2 [(Il x659), 
 (Il x660)]) = (some m666)) ∧ isPt (C.ptr m483.nxt 0) ∧ 
 ∃ x667, ((ldC m666 (C.ptr m483.nxt 0)) = (some (Il x667))) ∧ 
 isPt (C.ptr m654.nxt 0) ∧ ∃ x668, ((ldC m666 (C.ptr m654.nxt 0)) = (some (Il x668))) ∧ 
 fitsP .i64 (x667 + x668) ∧ isPt (C.ptr m483.nxt 0) ∧ ∃ x669, 
 ((ldC m666 (C.ptr m483.nxt 1)) = (some (Il x669))) ∧ 
 isPt (C.ptr m654.nxt 0) ∧ ∃ x670, ((ldC m666 (C.ptr m654.nxt 1)) = (some (Il x670))) ∧ 
 fitsP .i64 (x669 + x670) ∧ ∃ m671 : M, ((stC m666 (C.ptr m483.nxt 0) 2 [(Il (x667 + x668)), 
 (Il (x669 + x670))]) = (some m671)) ∧ fitsP .i64 (x634 + 1) ∧ 
 R632 [(V.c (Il x645)), (V.c (Il (x634 + 1)))] m671)) (fitsP .i64 (x634 + 1) ∧ 
 R632 [(V.c (Il x645)), (V.c (Il (x634 + 1)))] m644))) (ifB (!decide (x633 = 0)) (ifB (decide (x26 = x633)) (∃ x672, 
 ∃ x673, ((ldA m635 (C.ptr m23.nxt 0) 2) = (some [(Il x672), 
 (Il x673)])) ∧ fitsP .i64 x672 ∧ fitsP .i64 (0 : Int) ∧ 
 fitsP .i64 x673 ∧ fitsP .i64 (0 : Int) ∧ ifB ((decide (x672 = 0)) && (decide (x673 = 0))) (Wc prog tbl 17 [] m635 (fun v674 m675 => 
 ∃ b676 : Bool, (v674 = (V.c (C.bool b676))) ∧ Q (V.c (C.bool b676)) m675)) (Q (V.c (C.bool false)) m635)) (Q (V.c (C.bool false)) m635)) (ifB (decide (x26 = 0)) (∃ x677, 
 ∃ x678, ((ldA m635 (C.ptr m23.nxt 0) 2) = (some [(Il x677), 
 (Il x678)])) ∧ ∃ x679, ∃ x680, ((ldA m635 (C.ptr m483.nxt 0) 2) = (some [(Il x679), 
 (Il x680)])) ∧ Wc prog tbl 36 [(V.agg 2 [(Il x679), 
 (Il x680)])] m635 (fun v681 m682 => ∃ x683, ∃ x684, 
 (v681 = (V.agg 2 [(Il x683), (Il x684)])) ∧ ((ldA m682 (C.ptr m23.nxt 0) 2) = (some [(Il x677), 
 (Il x678)])) ∧ fitsP .i64 x677 ∧ fitsP .i64 x683 ∧ 
 fitsP .i64 x678 ∧ fitsP .i64 x684 ∧ ifB ((decide (x677 = x683)) && (decide (x678 = x684))) (Wc prog tbl 17 [] m682 (fun v685 m686 => 
 ∃ b687 : Bool, (v685 = (V.c (C.bool b687))) ∧ Q (V.c (C.bool b687)) m686)) (Q (V.c (C.bool false)) m682))) (Q (V.c (C.bool false)) m635)))) (ifB (!decide (x633 = 0)) (ifB (decide (x26 = x633)) (∃ x688, 
 ∃ x689, ((ldA m635 (C.ptr m23.nxt 0) 2) = (some [(Il x688), 
 (Il x689)])) ∧ fitsP .i64 x688 ∧ fitsP .i64 (0 : Int) ∧ 
 fitsP .i64 x689 ∧ fitsP .i64 (0 : Int) ∧ ifB ((decide (x688 = 0)) && (decide (x689 = 0))) (Wc prog tbl 17 [] m635 (fun v690 m691 => 
 ∃ b692 : Bool, (v690 = (V.c (C.bool b692))) ∧ Q (V.c (C.bool b692)) m691)) (Q (V.c (C.bool false)) m635)) (Q (V.c (C.bool false)) m635)) (ifB (decide (x26 = 0)) (∃ x693, 
 ∃ x694, ((ldA m635 (C.ptr m23.nxt 0) 2) = (some [(Il x693), 
 (Il x694)])) ∧ ∃ x695, ∃ x696, ((ldA m635 (C.ptr m483.nxt 0) 2) = (some [(Il x695), 
 (Il x696)])) ∧ Wc prog tbl 36 [(V.agg 2 [(Il x695), 
 (Il x696)])] m635 (fun v697 m698 => ∃ x699, ∃ x700, 
 (v697 = (V.agg 2 [(Il x699), (Il x700)])) ∧ ((ldA m698 (C.ptr m23.nxt 0) 2) = (some [(Il x693), 
 (Il x694)])) ∧ fitsP .i64 x693 ∧ fitsP .i64 x699 ∧ 
 fitsP .i64 x694 ∧ fitsP .i64 x700 ∧ ifB ((decide (x693 = x699)) && (decide (x694 = x700))) (Wc prog tbl 17 [] m698 (fun v701 m702 => 
 ∃ b703 : Bool, (v701 = (V.c (C.bool b703))) ∧ Q (V.c (C.bool b703)) m702)) (Q (V.c (C.bool false)) m698))) (Q (V.c (C.bool false)) m635)))) → 
 R632 [(V.c (Il x633)), (V.c (Il x634))] m635) → 
 R632 [(V.c (Il x34)), (V.c (Il 0))] m631)))) (ifB (!decide (x15 = x31)) (Q (V.c (C.bool false)) m483) (ifB (!decide (x14 = (Max.max x484 (0 : Int)))) (Q (V.c (C.bool false)) m483) (ifB (decide (x34 = 0)) (isSl a200 ∧ 
 ifB (decide ((5 : Int) < (((slLen a200) : Nat) : Int))) (∀ m704 : M, (m704 = (M.new m483 (AO.cells 2 [(Il 0), 
 (Il 0)] false))) → ∀ R705 : List V → M → Prop, (∀ x706 : Int, 
 ∀ x707 : Int, ∀ m708 : M, (isSl a200 ∧ ifB (decide (x707 < (((slLen a200) : Nat) : Int))) (ifB (decide (x706 = 0)) (∃ n709 : Nat, 
 (x707 = ((n709 : Nat) : Int)) ∧ (n709 < (slLen a200)) ∧ ∃ x710, ∃ x711, 
 ∃ x712, ∃ x713, ∃ x714, ∃ x715, ((ldA m708 (slAt a200 (n709 * 6)) 6) = (some [(Il x710), 
 (Il x711), (Il x712), (Il x713), 
 (Il x714), (Il x715)])) ∧ Wc prog tbl 29 [(V.c a100), 
 (V.agg 6 [(Il x710), (Il x711), (Il x712), 
 (Il x713), (Il x714), (Il x715)])] m708 (fun v716 m717 => 
 ∃ x718, (v716 = (V.c (Il x718))) ∧ ifB (decide (x718 = 0)) (∃ n719 : Nat, 
 (x707 = ((n719 : Nat) : Int)) ∧ (n719 < (slLen a200)) ∧ ∃ x720, ∃ x721, 
 ∃ x722, ∃ x723, ∃ x724, ∃ x725, ((ldA m717 (slAt a200 (n719 * 6)) 6) = (some [(Il x720), 
 (Il x721), (Il x722), (Il x723), 
 (Il x724), (Il x725)])) ∧ Wc prog tbl 35 [(V.c a100), 
 (V.agg 6 [(Il x720), (Il x721), (Il x722), 
 (Il x723), (Il x724), (Il x725)])] m717 (fun v726 m727 => 
 ∃ x728, ∃ x729, ∃ x730, ∃ x731, ∃ x732, ∃ x733, 
 (v726 = (V.tup [(U.agg 2 [(Il x728), (Il x729)]), 
 (U.agg 2 [(Il x730), (Il x731)]), (U.agg 2 [(Il x732), 
 (Il x733)])])) ∧ ∀ m734 : M, (m734 = (M.new m727 (AO.cells 2 [(Il 0), 
 (Il 0)] false))) → ∀ m735 : M, (m735 = (M.new m734 (AO.cells 2 [(Il 0), 
 (Il 0)] false))) → ∀ m736 : M, (m736 = (M.new m735 (AO.cells 2 [(Il 0), 
 (Il 0)] false))) → ∃ m737 : M, ((stC m736 (C.ptr m727.nxt 0) 2 [(Il x728), 
 (Il x729)]) = (some m737)) ∧ ∃ m738 : M, ((stC m737 (C.ptr m734.nxt 0) 2 [(Il x730), 
 (Il x731)]) = (some m738)) ∧ ∃ m739 : M, ((stC m738 (C.ptr m735.nxt 0) 2 [(Il x732), 
 (Il x733)]) = (some m739)) ∧ isPt (C.ptr m483.nxt 0) ∧ 
 ∃ x740, ((ldC m739 (C.ptr m483.nxt 0)) = (some (Il x740))) ∧ 
 isPt (C.ptr m727.nxt 0) ∧ ∃ x741, ((ldC m739 (C.ptr m727.nxt 0)) = (some (Il x741))) ∧ 
 fitsP .i64 (x740 + x741) ∧ isPt (C.ptr m483.nxt 0) ∧ ∃ x742, 
 ((ldC m739 (C.ptr m483.nxt 1)) = (some (Il x742))) ∧ 
 isPt (C.ptr m727.nxt 0) ∧ ∃ x743, ((ldC m739 (C.ptr m727.nxt 1)) = (some (Il x743))) ∧ 
 fitsP .i64 (x742 + x743) ∧ ∃ m744 : M, ((stC m739 (C.ptr m483.nxt 0) 2 [(Il (x740 + x741)), 
 (Il (x742 + x743))]) = (some m744)) ∧ fitsP .i64 (x707 + 1) ∧ 
 R705 [(V.c (Il x718)), (V.c (Il (x707 + 1)))] m744)) (fitsP .i64 (x707 + 1) ∧ 
 R705 [(V.c (Il x718)), (V.c (Il (x707 + 1)))] m717))) (ifB (!decide (x706 = 0)) (ifB (decide (x26 = x706)) (∃ x745, 
 ∃ x746, ((ldA m708 (C.ptr m23.nxt 0) 2) = (some [(Il x745), 
 (Il x746)])) ∧ fitsP .i64 x745 ∧ fitsP .i64 (0 : Int) ∧ 
 fitsP .i64 x746 ∧ fitsP .i64 (0 : Int) ∧ ifB ((decide (x745 = 0)) && (decide (x746 = 0))) (Wc prog tbl 17 [] m708 (fun v747 m748 => 
 ∃ b749 : Bool, (v747 = (V.c (C.bool b749))) ∧ Q (V.c (C.bool b749)) m748)) (Q (V.c (C.bool false)) m708)) (Q (V.c (C.bool false)) m708)) (ifB (decide (x26 = 0)) (∃ x750, 
 ∃ x751, ((ldA m708 (C.ptr m23.nxt 0) 2) = (some [(Il x750), 
 (Il x751)])) ∧ ∃ x752, ∃ x753, ((ldA m708 (C.ptr m483.nxt 0) 2) = (some [(Il x752), 
 (Il x753)])) ∧ Wc prog tbl 36 [(V.agg 2 [(Il x752), 
 (Il x753)])] m708 (fun v754 m755 => ∃ x756, ∃ x757, 
 (v754 = (V.agg 2 [(Il x756), (Il x757)])) ∧ ((ldA m755 (C.ptr m23.nxt 0) 2) = (some [(Il x750), 
 (Il x751)])) ∧ fitsP .i64 x750 ∧ fitsP .i64 x756 ∧ 
 fitsP .i64 x751 ∧ fitsP .i64 x757 ∧ ifB ((decide (x750 = x756)) && (decide (x751 = x757))) (Wc prog tbl 17 [] m755 (fun v758 m759 => 
 ∃ b760 : Bool, (v758 = (V.c (C.bool b760))) ∧ Q (V.c (C.bool b760)) m759)) (Q (V.c (C.bool false)) m755))) (Q (V.c (C.bool false)) m708)))) (ifB (!decide (x706 = 0)) (ifB (decide (x26 = x706)) (∃ x761, 
 ∃ x762, ((ldA m708 (C.ptr m23.nxt 0) 2) = (some [(Il x761), 
 (Il x762)])) ∧ fitsP .i64 x761 ∧ fitsP .i64 (0 : Int) ∧ 
 fitsP .i64 x762 ∧ fitsP .i64 (0 : Int) ∧ ifB ((decide (x761 = 0)) && (decide (x762 = 0))) (Wc prog tbl 17 [] m708 (fun v763 m764 => 
 ∃ b765 : Bool, (v763 = (V.c (C.bool b765))) ∧ Q (V.c (C.bool b765)) m764)) (Q (V.c (C.bool false)) m708)) (Q (V.c (C.bool false)) m708)) (ifB (decide (x26 = 0)) (∃ x766, 
 ∃ x767, ((ldA m708 (C.ptr m23.nxt 0) 2) = (some [(Il x766), 
 (Il x767)])) ∧ ∃ x768, ∃ x769, ((ldA m708 (C.ptr m483.nxt 0) 2) = (some [(Il x768), 
 (Il x769)])) ∧ Wc prog tbl 36 [(V.agg 2 [(Il x768), 
 (Il x769)])] m708 (fun v770 m771 => ∃ x772, ∃ x773, 
 (v770 = (V.agg 2 [(Il x772), (Il x773)])) ∧ ((ldA m771 (C.ptr m23.nxt 0) 2) = (some [(Il x766), 
 (Il x767)])) ∧ fitsP .i64 x766 ∧ fitsP .i64 x772 ∧ 
 fitsP .i64 x767 ∧ fitsP .i64 x773 ∧ ifB ((decide (x766 = x772)) && (decide (x767 = x773))) (Wc prog tbl 17 [] m771 (fun v774 m775 => 
 ∃ b776 : Bool, (v774 = (V.c (C.bool b776))) ∧ Q (V.c (C.bool b776)) m775)) (Q (V.c (C.bool false)) m771))) (Q (V.c (C.bool false)) m708)))) → 
 R705 [(V.c (Il x706)), (V.c (Il x707))] m708) → 
 R705 [(V.c (Il (3 : Int))), (V.c (Il 0))] m704) (∀ m777 : M, 
 (m777 = (M.new m483 (AO.cells 2 [(Il 0), (Il 0)] false))) → 
 ∀ R778 : List V → M → Prop, (∀ x779 : Int, ∀ x780 : Int, ∀ m781 : M, (isSl a200 ∧ 
 ifB (decide (x780 < (((slLen a200) : Nat) : Int))) (ifB (decide (x779 = 0)) (∃ n782 : Nat, 
 (x780 = ((n782 : Nat) : Int)) ∧ (n782 < (slLen a200)) ∧ ∃ x783, ∃ x784, 
 ∃ x785, ∃ x786, ∃ x787, ∃ x788, ((ldA m781 (slAt a200 (n782 * 6)) 6) = (some [(Il x783), 
 (Il x784), (Il x785), (Il x786), 
 (Il x787), (Il x788)])) ∧ Wc prog tbl 29 [(V.c a100), 
 (V.agg 6 [(Il x783), (Il x784), (Il x785), 
 (Il x786), (Il x787), (Il x788)])] m781 (fun v789 m790 => 
 ∃ x791, (v789 = (V.c (Il x791))) ∧ ifB (decide (x791 = 0)) (∃ n792 : Nat, 
 (x780 = ((n792 : Nat) : Int)) ∧ (n792 < (slLen a200)) ∧ ∃ x793, ∃ x794, 
 ∃ x795, ∃ x796, ∃ x797, ∃ x798, ((ldA m790 (slAt a200 (n792 * 6)) 6) = (some [(Il x793), 
 (Il x794), (Il x795), (Il x796), 
 (Il x797), (Il x798)])) ∧ Wc prog tbl 35 [(V.c a100), 
 (V.agg 6 [(Il x793), (Il x794), (Il x795), 
 (Il x796), (Il x797), (Il x798)])] m790 (fun v799 m800 => 
 ∃ x801, ∃ x802, ∃ x803, ∃ x804, ∃ x805, ∃ x806, 
 (v799 = (V.tup [(U.agg 2 [(Il x801), (Il x802)]), 
 (U.agg 2 [(Il x803), (Il x804)]), (U.agg 2 [(Il x805), 
 (Il x806)])])) ∧ ∀ m807 : M, (m807 = (M.new m800 (AO.cells 2 [(Il 0), 
 (Il 0)] false))) → ∀ m808 : M, (m808 = (M.new m807 (AO.cells 2 [(Il 0), 
 (Il 0)] false))) → ∀ m809 : M, (m809 = (M.new m808 (AO.cells 2 [(Il 0), 
 (Il 0)] false))) → ∃ m810 : M, ((stC m809 (C.ptr m800.nxt 0) 2 [(Il x801), 
 (Il x802)]) = (some m810)) ∧ ∃ m811 : M, ((stC m810 (C.ptr m807.nxt 0) 2 [(Il x803), 
 (Il x804)]) = (some m811)) ∧ ∃ m812 : M, ((stC m811 (C.ptr m808.nxt 0) 2 [(Il x805), 
 (Il x806)]) = (some m812)) ∧ isPt (C.ptr m483.nxt 0) ∧ 
 ∃ x813, ((ldC m812 (C.ptr m483.nxt 0)) = (some (Il x813))) ∧ 
 isPt (C.ptr m800.nxt 0) ∧ ∃ x814, ((ldC m812 (C.ptr m800.nxt 0)) = (some (Il x814))) ∧ 
 fitsP .i64 (x813 + x814) ∧ isPt (C.ptr m483.nxt 0) ∧ ∃ x815, 
 ((ldC m812 (C.ptr m483.nxt 1)) = (some (Il x815))) ∧ 
 isPt (C.ptr m800.nxt 0) ∧ ∃ x816, ((ldC m812 (C.ptr m800.nxt 1)) = (some (Il x816))) ∧ 
 fitsP .i64 (x815 + x816) ∧ ∃ m817 : M, ((stC m812 (C.ptr m483.nxt 0) 2 [(Il (x813 + x814)), 
 (Il (x815 + x816))]) = (some m817)) ∧ fitsP .i64 (x780 + 1) ∧ 
 R778 [(V.c (Il x791)), (V.c (Il (x780 + 1)))] m817)) (fitsP .i64 (x780 + 1) ∧ 
 R778 [(V.c (Il x791)), (V.c (Il (x780 + 1)))] m790))) (ifB (!decide (x779 = 0)) (ifB (decide (x26 = x779)) (∃ x818, 
 ∃ x819, ((ldA m781 (C.ptr m23.nxt 0) 2) = (some [(Il x818), 
 (Il x819)])) ∧ fitsP .i64 x818 ∧ fitsP .i64 (0 : Int) ∧ 
 fitsP .i64 x819 ∧ fitsP .i64 (0 : Int) ∧ ifB ((decide (x818 = 0)) && (decide (x819 = 0))) (Wc prog tbl 17 [] m781 (fun v820 m821 => 
 ∃ b822 : Bool, (v820 = (V.c (C.bool b822))) ∧ Q (V.c (C.bool b822)) m821)) (Q (V.c (C.bool false)) m781)) (Q (V.c (C.bool false)) m781)) (ifB (decide (x26 = 0)) (∃ x823, 
 ∃ x824, ((ldA m781 (C.ptr m23.nxt 0) 2) = (some [(Il x823), 
 (Il x824)])) ∧ ∃ x825, ∃ x826, ((ldA m781 (C.ptr m483.nxt 0) 2) = (some [(Il x825), 
 (Il x826)])) ∧ Wc prog tbl 36 [(V.agg 2 [(Il x825), 
 (Il x826)])] m781 (fun v827 m828 => ∃ x829, ∃ x830, 
 (v827 = (V.agg 2 [(Il x829), (Il x830)])) ∧ ((ldA m828 (C.ptr m23.nxt 0) 2) = (some [(Il x823), 
 (Il x824)])) ∧ fitsP .i64 x823 ∧ fitsP .i64 x829 ∧ 
 fitsP .i64 x824 ∧ fitsP .i64 x830 ∧ ifB ((decide (x823 = x829)) && (decide (x824 = x830))) (Wc prog tbl 17 [] m828 (fun v831 m832 => 
 ∃ b833 : Bool, (v831 = (V.c (C.bool b833))) ∧ Q (V.c (C.bool b833)) m832)) (Q (V.c (C.bool false)) m828))) (Q (V.c (C.bool false)) m781)))) (ifB (!decide (x779 = 0)) (ifB (decide (x26 = x779)) (∃ x834, 
 ∃ x835, ((ldA m781 (C.ptr m23.nxt 0) 2) = (some [(Il x834), 
 (Il x835)])) ∧ fitsP .i64 x834 ∧ fitsP .i64 (0 : Int) ∧ 
 fitsP .i64 x835 ∧ fitsP .i64 (0 : Int) ∧ ifB ((decide (x834 = 0)) && (decide (x835 = 0))) (Wc prog tbl 17 [] m781 (fun v836 m837 => 
 ∃ b838 : Bool, (v836 = (V.c (C.bool b838))) ∧ Q (V.c (C.bool b838)) m837)) (Q (V.c (C.bool false)) m781)) (Q (V.c (C.bool false)) m781)) (ifB (decide (x26 = 0)) (∃ x839, 
 ∃ x840, ((ldA m781 (C.ptr m23.nxt 0) 2) = (some [(Il x839), 
 (Il x840)])) ∧ ∃ x841, ∃ x842, ((ldA m781 (C.ptr m483.nxt 0) 2) = (some [(Il x841), 
 (Il x842)])) ∧ Wc prog tbl 36 [(V.agg 2 [(Il x841), 
 (Il x842)])] m781 (fun v843 m844 => ∃ x845, ∃ x846, 
 (v843 = (V.agg 2 [(Il x845), (Il x846)])) ∧ ((ldA m844 (C.ptr m23.nxt 0) 2) = (some [(Il x839), 
 (Il x840)])) ∧ fitsP .i64 x839 ∧ fitsP .i64 x845 ∧ 
 fitsP .i64 x840 ∧ fitsP .i64 x846 ∧ ifB ((decide (x839 = x845)) && (decide (x840 = x846))) (Wc prog tbl 17 [] m844 (fun v847 m848 => 
 ∃ b849 : Bool, (v847 = (V.c (C.bool b849))) ∧ Q (V.c (C.bool b849)) m848)) (Q (V.c (C.bool false)) m844))) (Q (V.c (C.bool false)) m781)))) → 
 R778 [(V.c (Il x779)), (V.c (Il x780))] m781) → 
 R778 [(V.c (Il x34)), (V.c (Il 0))] m777)) (∀ m850 : M, 
 (m850 = (M.new m483 (AO.cells 2 [(Il 0), (Il 0)] false))) → 
 ∀ R851 : List V → M → Prop, (∀ x852 : Int, ∀ x853 : Int, ∀ m854 : M, (isSl a200 ∧ 
 ifB (decide (x853 < (((slLen a200) : Nat) : Int))) (ifB (decide (x852 = 0)) (∃ n855 : Nat, 
 (x853 = ((n855 : Nat) : Int)) ∧ (n855 < (slLen a200)) ∧ ∃ x856, ∃ x857, 
 ∃ x858, ∃ x859, ∃ x860, ∃ x861, ((ldA m854 (slAt a200 (n855 * 6)) 6) = (some [(Il x856), 
 (Il x857), (Il x858), (Il x859), 
 (Il x860), (Il x861)])) ∧ Wc prog tbl 29 [(V.c a100), 
 (V.agg 6 [(Il x856), (Il x857), (Il x858), 
 (Il x859), (Il x860), (Il x861)])] m854 (fun v862 m863 => 
 ∃ x864, (v862 = (V.c (Il x864))) ∧ ifB (decide (x864 = 0)) (∃ n865 : Nat, 
 (x853 = ((n865 : Nat) : Int)) ∧ (n865 < (slLen a200)) ∧ ∃ x866, ∃ x867, 
 ∃ x868, ∃ x869, ∃ x870, ∃ x871, ((ldA m863 (slAt a200 (n865 * 6)) 6) = (some [(Il x866), 
 (Il x867), (Il x868), (Il x869), 
 (Il x870), (Il x871)])) ∧ Wc prog tbl 35 [(V.c a100), 
 (V.agg 6 [(Il x866), (Il x867), (Il x868), 
 (Il x869), (Il x870), (Il x871)])] m863 (fun v872 m873 => 
 ∃ x874, ∃ x875, ∃ x876, ∃ x877, ∃ x878, ∃ x879, 
 (v872 = (V.tup [(U.agg 2 [(Il x874), (Il x875)]), 
 (U.agg 2 [(Il x876), (Il x877)]), (U.agg 2 [(Il x878), 
 (Il x879)])])) ∧ ∀ m880 : M, (m880 = (M.new m873 (AO.cells 2 [(Il 0), 
 (Il 0)] false))) → ∀ m881 : M, (m881 = (M.new m880 (AO.cells 2 [(Il 0), 
 (Il 0)] false))) → ∀ m882 : M, (m882 = (M.new m881 (AO.cells 2 [(Il 0), 
 (Il 0)] false))) → ∃ m883 : M, ((stC m882 (C.ptr m873.nxt 0) 2 [(Il x874), 
 (Il x875)]) = (some m883)) ∧ ∃ m884 : M, ((stC m883 (C.ptr m880.nxt 0) 2 [(Il x876), 
 (Il x877)]) = (some m884)) ∧ ∃ m885 : M, ((stC m884 (C.ptr m881.nxt 0) 2 [(Il x878), 
 (Il x879)]) = (some m885)) ∧ isPt (C.ptr m483.nxt 0) ∧ 
 ∃ x886, ((ldC m885 (C.ptr m483.nxt 0)) = (some (Il x886))) ∧ 
 isPt (C.ptr m873.nxt 0) ∧ ∃ x887, ((ldC m885 (C.ptr m873.nxt 0)) = (some (Il x887))) ∧ 
 fitsP .i64 (x886 + x887) ∧ isPt (C.ptr m483.nxt 0) ∧ ∃ x888, 
 ((ldC m885 (C.ptr m483.nxt 1)) = (some (Il x888))) ∧ 
 isPt (C.ptr m873.nxt 0) ∧ ∃ x889, ((ldC m885 (C.ptr m873.nxt 1)) = (some (Il x889))) ∧ 
 fitsP .i64 (x888 + x889) ∧ ∃ m890 : M, ((stC m885 (C.ptr m483.nxt 0) 2 [(Il (x886 + x887)), 
 (Il (x888 + x889))]) = (some m890)) ∧ fitsP .i64 (x853 + 1) ∧ 
 R851 [(V.c (Il x864)), (V.c (Il (x853 + 1)))] m890)) (fitsP .i64 (x853 + 1) ∧ 
 R851 [(V.c (Il x864)), (V.c (Il (x853 + 1)))] m863))) (ifB (!decide (x852 = 0)) (ifB (decide (x26 = x852)) (∃ x891, 
 ∃ x892, ((ldA m854 (C.ptr m23.nxt 0) 2) = (some [(Il x891), 
 (Il x892)])) ∧ fitsP .i64 x891 ∧ fitsP .i64 (0 : Int) ∧ 
 fitsP .i64 x892 ∧ fitsP .i64 (0 : Int) ∧ ifB ((decide (x891 = 0)) && (decide (x892 = 0))) (Wc prog tbl 17 [] m854 (fun v893 m894 => 
 ∃ b895 : Bool, (v893 = (V.c (C.bool b895))) ∧ Q (V.c (C.bool b895)) m894)) (Q (V.c (C.bool false)) m854)) (Q (V.c (C.bool false)) m854)) (ifB (decide (x26 = 0)) (∃ x896, 
 ∃ x897, ((ldA m854 (C.ptr m23.nxt 0) 2) = (some [(Il x896), 
 (Il x897)])) ∧ ∃ x898, ∃ x899, ((ldA m854 (C.ptr m483.nxt 0) 2) = (some [(Il x898), 
 (Il x899)])) ∧ Wc prog tbl 36 [(V.agg 2 [(Il x898), 
 (Il x899)])] m854 (fun v900 m901 => ∃ x902, ∃ x903, 
 (v900 = (V.agg 2 [(Il x902), (Il x903)])) ∧ ((ldA m901 (C.ptr m23.nxt 0) 2) = (some [(Il x896), 
 (Il x897)])) ∧ fitsP .i64 x896 ∧ fitsP .i64 x902 ∧ 
 fitsP .i64 x897 ∧ fitsP .i64 x903 ∧ ifB ((decide (x896 = x902)) && (decide (x897 = x903))) (Wc prog tbl 17 [] m901 (fun v904 m905 => 
 ∃ b906 : Bool, (v904 = (V.c (C.bool b906))) ∧ Q (V.c (C.bool b906)) m905)) (Q (V.c (C.bool false)) m901))) (Q (V.c (C.bool false)) m854)))) (ifB (!decide (x852 = 0)) (ifB (decide (x26 = x852)) (∃ x907, 
 ∃ x908, ((ldA m854 (C.ptr m23.nxt 0) 2) = (some [(Il x907), 
 (Il x908)])) ∧ fitsP .i64 x907 ∧ fitsP .i64 (0 : Int) ∧ 
 fitsP .i64 x908 ∧ fitsP .i64 (0 : Int) ∧ ifB ((decide (x907 = 0)) && (decide (x908 = 0))) (Wc prog tbl 17 [] m854 (fun v909 m910 => 
 ∃ b911 : Bool, (v909 = (V.c (C.bool b911))) ∧ Q (V.c (C.bool b911)) m910)) (Q (V.c (C.bool false)) m854)) (Q (V.c (C.bool false)) m854)) (ifB (decide (x26 = 0)) (∃ x912, 
 ∃ x913, ((ldA m854 (C.ptr m23.nxt 0) 2) = (some [(Il x912), 
 (Il x913)])) ∧ ∃ x914, ∃ x915, ((ldA m854 (C.ptr m483.nxt 0) 2) = (some [(Il x914), 
 (Il x915)])) ∧ Wc prog tbl 36 [(V.agg 2 [(Il x914), 
 (Il x915)])] m854 (fun v916 m917 => ∃ x918, ∃ x919, 
 (v916 = (V.agg 2 [(Il x918), (Il x919)])) ∧ ((ldA m917 (C.ptr m23.nxt 0) 2) = (some [(Il x912), 
 (Il x913)])) ∧ fitsP .i64 x912 ∧ fitsP .i64 x918 ∧ 
 fitsP .i64 x913 ∧ fitsP .i64 x919 ∧ ifB ((decide (x912 = x918)) && (decide (x913 = x919))) (Wc prog tbl 17 [] m917 (fun v920 m921 => 
 ∃ b922 : Bool, (v920 = (V.c (C.bool b922))) ∧ Q (V.c (C.bool b922)) m921)) (Q (V.c (C.bool false)) m917))) (Q (V.c (C.bool false)) m854)))) → 
 R851 [(V.c (Il x852)), (V.c (Il x853))] m854) → 
 R851 [(V.c (Il x34)), (V.c (Il 0))] m850)))))) (ifB (!decide (x15 = x31)) (Q (V.c (C.bool false)) m261) (ifB (!decide (x14 = 0)) (Q (V.c (C.bool false)) m261) (ifB (decide (x34 = 0)) (isSl a200 ∧ 
 ifB (decide ((5 : Int) < (((slLen a200) : Nat) : Int))) (∀ m923 : M, (m923 = (M.new m261 (AO.cells 2 [(Il 0), 
 (Il 0)] false))) → ∀ R924 : List V → M → Prop, (∀ x925 : Int, 
 ∀ x926 : Int, ∀ m927 : M, (isSl a200 ∧ ifB (decide (x926 < (((slLen a200) : Nat) : Int))) (ifB (decide (x925 = 0)) (∃ n928 : Nat, 
 (x926 = ((n928 : Nat) : Int)) ∧ (n928 < (slLen a200)) ∧ ∃ x929, ∃ x930, 
 ∃ x931, ∃ x932, ∃ x933, ∃ x934, ((ldA m927 (slAt a200 (n928 * 6)) 6) = (some [(Il x929), 
 (Il x930), (Il x931), (Il x932), 
 (Il x933), (Il x934)])) ∧ Wc prog tbl 29 [(V.c a100), 
 (V.agg 6 [(Il x929), (Il x930), (Il x931), 
 (Il x932), (Il x933), (Il x934)])] m927 (fun v935 m936 => 
 ∃ x937, (v935 = (V.c (Il x937))) ∧ ifB (decide (x937 = 0)) (∃ n938 : Nat, 
 (x926 = ((n938 : Nat) : Int)) ∧ (n938 < (slLen a200)) ∧ ∃ x939, ∃ x940, 
 ∃ x941, ∃ x942, ∃ x943, ∃ x944, ((ldA m936 (slAt a200 (n938 * 6)) 6) = (some [(Il x939), 
 (Il x940), (Il x941), (Il x942), 
 (Il x943), (Il x944)])) ∧ Wc prog tbl 35 [(V.c a100), 
 (V.agg 6 [(Il x939), (Il x940), (Il x941), 
 (Il x942), (Il x943), (Il x944)])] m936 (fun v945 m946 => 
 ∃ x947, ∃ x948, ∃ x949, ∃ x950, ∃ x951, ∃ x952, 
 (v945 = (V.tup [(U.agg 2 [(Il x947), (Il x948)]), 
 (U.agg 2 [(Il x949), (Il x950)]), (U.agg 2 [(Il x951), 
 (Il x952)])])) ∧ ∀ m953 : M, (m953 = (M.new m946 (AO.cells 2 [(Il 0), 
 (Il 0)] false))) → ∀ m954 : M, (m954 = (M.new m953 (AO.cells 2 [(Il 0), 
 (Il 0)] false))) → ∀ m955 : M, (m955 = (M.new m954 (AO.cells 2 [(Il 0), 
 (Il 0)] false))) → ∃ m956 : M, ((stC m955 (C.ptr m946.nxt 0) 2 [(Il x947), 
 (Il x948)]) = (some m956)) ∧ ∃ m957 : M, ((stC m956 (C.ptr m953.nxt 0) 2 [(Il x949), 
 (Il x950)]) = (some m957)) ∧ ∃ m958 : M, ((stC m957 (C.ptr m954.nxt 0) 2 [(Il x951), 
 (Il x952)]) = (some m958)) ∧ isPt (C.ptr m261.nxt 0) ∧ 
 ∃ x959, ((ldC m958 (C.ptr m261.nxt 0)) = (some (Il x959))) ∧ 
 isPt (C.ptr m946.nxt 0) ∧ ∃ x960, ((ldC m958 (C.ptr m946.nxt 0)) = (some (Il x960))) ∧ 
 fitsP .i64 (x959 + x960) ∧ isPt (C.ptr m261.nxt 0) ∧ ∃ x961, 
 ((ldC m958 (C.ptr m261.nxt 1)) = (some (Il x961))) ∧ 
 isPt (C.ptr m946.nxt 0) ∧ ∃ x962, ((ldC m958 (C.ptr m946.nxt 1)) = (some (Il x962))) ∧ 
 fitsP .i64 (x961 + x962) ∧ ∃ m963 : M, ((stC m958 (C.ptr m261.nxt 0) 2 [(Il (x959 + x960)), 
 (Il (x961 + x962))]) = (some m963)) ∧ fitsP .i64 (x926 + 1) ∧ 
 R924 [(V.c (Il x937)), (V.c (Il (x926 + 1)))] m963)) (fitsP .i64 (x926 + 1) ∧ 
 R924 [(V.c (Il x937)), (V.c (Il (x926 + 1)))] m936))) (ifB (!decide (x925 = 0)) (ifB (decide (x26 = x925)) (∃ x964, 
 ∃ x965, ((ldA m927 (C.ptr m23.nxt 0) 2) = (some [(Il x964), 
 (Il x965)])) ∧ fitsP .i64 x964 ∧ fitsP .i64 (0 : Int) ∧ 
 fitsP .i64 x965 ∧ fitsP .i64 (0 : Int) ∧ ifB ((decide (x964 = 0)) && (decide (x965 = 0))) (Wc prog tbl 17 [] m927 (fun v966 m967 => 
 ∃ b968 : Bool, (v966 = (V.c (C.bool b968))) ∧ Q (V.c (C.bool b968)) m967)) (Q (V.c (C.bool false)) m927)) (Q (V.c (C.bool false)) m927)) (ifB (decide (x26 = 0)) (∃ x969, 
 ∃ x970, ((ldA m927 (C.ptr m23.nxt 0) 2) = (some [(Il x969), 
 (Il x970)])) ∧ ∃ x971, ∃ x972, ((ldA m927 (C.ptr m261.nxt 0) 2) = (some [(Il x971), 
 (Il x972)])) ∧ Wc prog tbl 36 [(V.agg 2 [(Il x971), 
 (Il x972)])] m927 (fun v973 m974 => ∃ x975, ∃ x976, 
 (v973 = (V.agg 2 [(Il x975), (Il x976)])) ∧ ((ldA m974 (C.ptr m23.nxt 0) 2) = (some [(Il x969), 
 (Il x970)])) ∧ fitsP .i64 x969 ∧ fitsP .i64 x975 ∧ 
 fitsP .i64 x970 ∧ fitsP .i64 x976 ∧ ifB ((decide (x969 = x975)) && (decide (x970 = x976))) (Wc prog tbl 17 [] m974 (fun v977 m978 => 
 ∃ b979 : Bool, (v977 = (V.c (C.bool b979))) ∧ Q (V.c (C.bool b979)) m978)) (Q (V.c (C.bool false)) m974))) (Q (V.c (C.bool false)) m927)))) (ifB (!decide (x925 = 0)) (ifB (decide (x26 = x925)) (∃ x980, 
 ∃ x981, ((ldA m927 (C.ptr m23.nxt 0) 2) = (some [(Il x980), 
 (Il x981)])) ∧ fitsP .i64 x980 ∧ fitsP .i64 (0 : Int) ∧ 
 fitsP .i64 x981 ∧ fitsP .i64 (0 : Int) ∧ ifB ((decide (x980 = 0)) && (decide (x981 = 0))) (Wc prog tbl 17 [] m927 (fun v982 m983 => 
 ∃ b984 : Bool, (v982 = (V.c (C.bool b984))) ∧ Q (V.c (C.bool b984)) m983)) (Q (V.c (C.bool false)) m927)) (Q (V.c (C.bool false)) m927)) (ifB (decide (x26 = 0)) (∃ x985, 
 ∃ x986, ((ldA m927 (C.ptr m23.nxt 0) 2) = (some [(Il x985), 
 (Il x986)])) ∧ ∃ x987, ∃ x988, ((ldA m927 (C.ptr m261.nxt 0) 2) = (some [(Il x987), 
 (Il x988)])) ∧ Wc prog tbl 36 [(V.agg 2 [(Il x987), 
 (Il x988)])] m927 (fun v989 m990 => ∃ x991, ∃ x992, 
 (v989 = (V.agg 2 [(Il x991), (Il x992)])) ∧ ((ldA m990 (C.ptr m23.nxt 0) 2) = (some [(Il x985), 
 (Il x986)])) ∧ fitsP .i64 x985 ∧ fitsP .i64 x991 ∧ 
 fitsP .i64 x986 ∧ fitsP .i64 x992 ∧ ifB ((decide (x985 = x991)) && (decide (x986 = x992))) (Wc prog tbl 17 [] m990 (fun v993 m994 => 
 ∃ b995 : Bool, (v993 = (V.c (C.bool b995))) ∧ Q (V.c (C.bool b995)) m994)) (Q (V.c (C.bool false)) m990))) (Q (V.c (C.bool false)) m927)))) → 
 R924 [(V.c (Il x925)), (V.c (Il x926))] m927) → 
 R924 [(V.c (Il (3 : Int))), (V.c (Il 0))] m923) (∀ m996 : M, 
 (m996 = (M.new m261 (AO.cells 2 [(Il 0), (Il 0)] false))) → 
 ∀ R997 : List V → M → Prop, (∀ x998 : Int, ∀ x999 : Int, ∀ m1000 : M, (isSl a200 ∧ 
 ifB (decide (x999 < (((slLen a200) : Nat) : Int))) (ifB (decide (x998 = 0)) (∃ n1001 : Nat, 
 (x999 = ((n1001 : Nat) : Int)) ∧ (n1001 < (slLen a200)) ∧ ∃ x1002, ∃ x1003, 
 ∃ x1004, ∃ x1005, ∃ x1006, ∃ x1007, ((ldA m1000 (slAt a200 (n1001 * 6)) 6) = (some [(Il x1002), 
 (Il x1003), (Il x1004), (Il x1005), 
 (Il x1006), (Il x1007)])) ∧ Wc prog tbl 29 [(V.c a100), 
 (V.agg 6 [(Il x1002), (Il x1003), (Il x1004), 
 (Il x1005), (Il x1006), (Il x1007)])] m1000 (fun v1008 m1009 => 
 ∃ x1010, (v1008 = (V.c (Il x1010))) ∧ ifB (decide (x1010 = 0)) (∃ n1011 : Nat, 
 (x999 = ((n1011 : Nat) : Int)) ∧ (n1011 < (slLen a200)) ∧ ∃ x1012, ∃ x1013, 
 ∃ x1014, ∃ x1015, ∃ x1016, ∃ x1017, ((ldA m1009 (slAt a200 (n1011 * 6)) 6) = (some [(Il x1012), 
 (Il x1013), (Il x1014), (Il x1015), 
 (Il x1016), (Il x1017)])) ∧ Wc prog tbl 35 [(V.c a100), 
 (V.agg 6 [(Il x1012), (Il x1013), (Il x1014), 
 (Il x1015), (Il x1016), (Il x1017)])] m1009 (fun v1018 m1019 => 
 ∃ x1020, ∃ x1021, ∃ x1022, ∃ x1023, ∃ x1024, 
 ∃ x1025, (v1018 = (V.tup [(U.agg 2 [(Il x1020), (Il x1021)]), 
 (U.agg 2 [(Il x1022), (Il x1023)]), (U.agg 2 [(Il x1024), 
 (Il x1025)])])) ∧ ∀ m1026 : M, (m1026 = (M.new m1019 (AO.cells 2 [(Il 0), 
 (Il 0)] false))) → ∀ m1027 : M, (m1027 = (M.new m1026 (AO.cells 2 [(Il 0), 
 (Il 0)] false))) → ∀ m1028 : M, (m1028 = (M.new m1027 (AO.cells 2 [(Il 0), 
 (Il 0)] false))) → ∃ m1029 : M, ((stC m1028 (C.ptr m1019.nxt 0) 2 [(Il x1020), 
 (Il x1021)]) = (some m1029)) ∧ ∃ m1030 : M, ((stC m1029 (C.ptr m1026.nxt 0) 2 [(Il x1022), 
 (Il x1023)]) = (some m1030)) ∧ ∃ m1031 : M, ((stC m1030 (C.ptr m1027.nxt 0) 2 [(Il x1024), 
 (Il x1025)]) = (some m1031)) ∧ isPt (C.ptr m261.nxt 0) ∧ 
 ∃ x1032, ((ldC m1031 (C.ptr m261.nxt 0)) = (some (Il x1032))) ∧ 
 isPt (C.ptr m1019.nxt 0) ∧ ∃ x1033, ((ldC m1031 (C.ptr m1019.nxt 0)) = (some (Il x1033))) ∧ 
 fitsP .i64 (x1032 + x1033) ∧ isPt (C.ptr m261.nxt 0) ∧ ∃ x1034, 
 ((ldC m1031 (C.ptr m261.nxt 1)) = (some (Il x1034))) ∧ 
 isPt (C.ptr m1019.nxt 0) ∧ ∃ x1035, ((ldC m1031 (C.ptr m1019.nxt 1)) = (some (Il x1035))) ∧ 
 fitsP .i64 (x1034 + x1035) ∧ ∃ m1036 : M, ((stC m1031 (C.ptr m261.nxt 0) 2 [(Il (x1032 + x1033)), 
 (Il (x1034 + x1035))]) = (some m1036)) ∧ fitsP .i64 (x999 + 1) ∧ 
 R997 [(V.c (Il x1010)), (V.c (Il (x999 + 1)))] m1036)) (fitsP .i64 (x999 + 1) ∧ 
 R997 [(V.c (Il x1010)), (V.c (Il (x999 + 1)))] m1009))) (ifB (!decide (x998 = 0)) (ifB (decide (x26 = x998)) (∃ x1037, 
 ∃ x1038, ((ldA m1000 (C.ptr m23.nxt 0) 2) = (some [(Il x1037), 
 (Il x1038)])) ∧ fitsP .i64 x1037 ∧ fitsP .i64 (0 : Int) ∧ 
 fitsP .i64 x1038 ∧ fitsP .i64 (0 : Int) ∧ ifB ((decide (x1037 = 0)) && (decide (x1038 = 0))) (Wc prog tbl 17 [] m1000 (fun v1039 m1040 => 
 ∃ b1041 : Bool, (v1039 = (V.c (C.bool b1041))) ∧ Q (V.c (C.bool b1041)) m1040)) (Q (V.c (C.bool false)) m1000)) (Q (V.c (C.bool false)) m1000)) (ifB (decide (x26 = 0)) (∃ x1042, 
 ∃ x1043, ((ldA m1000 (C.ptr m23.nxt 0) 2) = (some [(Il x1042), 
 (Il x1043)])) ∧ ∃ x1044, ∃ x1045, ((ldA m1000 (C.ptr m261.nxt 0) 2) = (some [(Il x1044), 
 (Il x1045)])) ∧ Wc prog tbl 36 [(V.agg 2 [(Il x1044), 
 (Il x1045)])] m1000 (fun v1046 m1047 => ∃ x1048, ∃ x1049, 
 (v1046 = (V.agg 2 [(Il x1048), (Il x1049)])) ∧ 
 ((ldA m1047 (C.ptr m23.nxt 0) 2) = (some [(Il x1042), 
 (Il x1043)])) ∧ fitsP .i64 x1042 ∧ fitsP .i64 x1048 ∧ 
 fitsP .i64 x1043 ∧ fitsP .i64 x1049 ∧ ifB ((decide (x1042 = x1048)) && (decide (x1043 = x1049))) (Wc prog tbl 17 [] m1047 (fun v1050 m1051 => 
 ∃ b1052 : Bool, (v1050 = (V.c (C.bool b1052))) ∧ Q (V.c (C.bool b1052)) m1051)) (Q (V.c (C.bool false)) m1047))) (Q (V.c (C.bool false)) m1000)))) (ifB (!decide (x998 = 0)) (ifB (decide (x26 = x998)) (∃ x1053, 
 ∃ x1054, ((ldA m1000 (C.ptr m23.nxt 0) 2) = (some [(Il x1053), 
 (Il x1054)])) ∧ fitsP .i64 x1053 ∧ fitsP .i64 (0 : Int) ∧ 
 fitsP .i64 x1054 ∧ fitsP .i64 (0 : Int) ∧ ifB ((decide (x1053 = 0)) && (decide (x1054 = 0))) (Wc prog tbl 17 [] m1000 (fun v1055 m1056 => 
 ∃ b1057 : Bool, (v1055 = (V.c (C.bool b1057))) ∧ Q (V.c (C.bool b1057)) m1056)) (Q (V.c (C.bool false)) m1000)) (Q (V.c (C.bool false)) m1000)) (ifB (decide (x26 = 0)) (∃ x1058, 
 ∃ x1059, ((ldA m1000 (C.ptr m23.nxt 0) 2) = (some [(Il x1058), 
 (Il x1059)])) ∧ ∃ x1060, ∃ x1061, ((ldA m1000 (C.ptr m261.nxt 0) 2) = (some [(Il x1060), 
 (Il x1061)])) ∧ Wc prog tbl 36 [(V.agg 2 [(Il x1060), 
 (Il x1061)])] m1000 (fun v1062 m1063 => ∃ x1064, ∃ x1065, 
 (v1062 = (V.agg 2 [(Il x1064), (Il x1065)])) ∧ 
 ((ldA m1063 (C.ptr m23.nxt 0) 2) = (some [(Il x1058), 
 (Il x1059)])) ∧ fitsP .i64 x1058 ∧ fitsP .i64 x1064 ∧ 
 fitsP .i64 x1059 ∧ fitsP .i64 x1065 ∧ ifB ((decide (x1058 = x1064)) && (decide (x1059 = x1065))) (Wc prog tbl 17 [] m1063 (fun v1066 m1067 => 
 ∃ b1068 : Bool, (v1066 = (V.c (C.bool b1068))) ∧ Q (V.c (C.bool b1068)) m1067)) (Q (V.c (C.bool false)) m1063))) (Q (V.c (C.bool false)) m1000)))) → 
 R997 [(V.c (Il x998)), (V.c (Il x999))] m1000) → 
 R997 [(V.c (Il x34)), (V.c (Il 0))] m996)) (∀ m1069 : M, 
 (m1069 = (M.new m261 (AO.cells 2 [(Il 0), (Il 0)] false))) → 
 ∀ R1070 : List V → M → Prop, (∀ x1071 : Int, ∀ x1072 : Int, ∀ m1073 : M, 
 (isSl a200 ∧ ifB (decide (x1072 < (((slLen a200) : Nat) : Int))) (ifB (decide (x1071 = 0)) (∃ n1074 : Nat, 
 (x1072 = ((n1074 : Nat) : Int)) ∧ (n1074 < (slLen a200)) ∧ ∃ x1075, 
 ∃ x1076, ∃ x1077, ∃ x1078, ∃ x1079, ∃ x1080, 
 ((ldA m1073 (slAt a200 (n1074 * 6)) 6) = (some [(Il x1075), 
 (Il x1076), (Il x1077), (Il x1078), 
 (Il x1079), (Il x1080)])) ∧ Wc prog tbl 29 [(V.c a100), 
 (V.agg 6 [(Il x1075), (Il x1076), (Il x1077), 
 (Il x1078), (Il x1079), (Il x1080)])] m1073 (fun v1081 m1082 => 
 ∃ x1083, (v1081 = (V.c (Il x1083))) ∧ ifB (decide (x1083 = 0)) (∃ n1084 : Nat, 
 (x1072 = ((n1084 : Nat) : Int)) ∧ (n1084 < (slLen a200)) ∧ ∃ x1085, 
 ∃ x1086, ∃ x1087, ∃ x1088, ∃ x1089, ∃ x1090, 
 ((ldA m1082 (slAt a200 (n1084 * 6)) 6) = (some [(Il x1085), 
 (Il x1086), (Il x1087), (Il x1088), 
 (Il x1089), (Il x1090)])) ∧ Wc prog tbl 35 [(V.c a100), 
 (V.agg 6 [(Il x1085), (Il x1086), (Il x1087), 
 (Il x1088), (Il x1089), (Il x1090)])] m1082 (fun v1091 m1092 => 
 ∃ x1093, ∃ x1094, ∃ x1095, ∃ x1096, ∃ x1097, 
 ∃ x1098, (v1091 = (V.tup [(U.agg 2 [(Il x1093), (Il x1094)]), 
 (U.agg 2 [(Il x1095), (Il x1096)]), (U.agg 2 [(Il x1097), 
 (Il x1098)])])) ∧ ∀ m1099 : M, (m1099 = (M.new m1092 (AO.cells 2 [(Il 0), 
 (Il 0)] false))) → ∀ m1100 : M, (m1100 = (M.new m1099 (AO.cells 2 [(Il 0), 
 (Il 0)] false))) → ∀ m1101 : M, (m1101 = (M.new m1100 (AO.cells 2 [(Il 0), 
 (Il 0)] false))) → ∃ m1102 : M, ((stC m1101 (C.ptr m1092.nxt 0) 2 [(Il x1093), 
 (Il x1094)]) = (some m1102)) ∧ ∃ m1103 : M, ((stC m1102 (C.ptr m1099.nxt 0) 2 [(Il x1095), 
 (Il x1096)]) = (some m1103)) ∧ ∃ m1104 : M, ((stC m1103 (C.ptr m1100.nxt 0) 2 [(Il x1097), 
 (Il x1098)]) = (some m1104)) ∧ isPt (C.ptr m261.nxt 0) ∧ 
 ∃ x1105, ((ldC m1104 (C.ptr m261.nxt 0)) = (some (Il x1105))) ∧ 
 isPt (C.ptr m1092.nxt 0) ∧ ∃ x1106, ((ldC m1104 (C.ptr m1092.nxt 0)) = (some (Il x1106))) ∧ 
 fitsP .i64 (x1105 + x1106) ∧ isPt (C.ptr m261.nxt 0) ∧ ∃ x1107, 
 ((ldC m1104 (C.ptr m261.nxt 1)) = (some (Il x1107))) ∧ 
 isPt (C.ptr m1092.nxt 0) ∧ ∃ x1108, ((ldC m1104 (C.ptr m1092.nxt 1)) = (some (Il x1108))) ∧ 
 fitsP .i64 (x1107 + x1108) ∧ ∃ m1109 : M, ((stC m1104 (C.ptr m261.nxt 0) 2 [(Il (x1105 + x1106)), 
 (Il (x1107 + x1108))]) = (some m1109)) ∧ fitsP .i64 (x1072 + 1) ∧ 
 R1070 [(V.c (Il x1083)), (V.c (Il (x1072 + 1)))] m1109)) (fitsP .i64 (x1072 + 1) ∧ 
 R1070 [(V.c (Il x1083)), (V.c (Il (x1072 + 1)))] m1082))) (ifB (!decide (x1071 = 0)) (ifB (decide (x26 = x1071)) (∃ x1110, 
 ∃ x1111, ((ldA m1073 (C.ptr m23.nxt 0) 2) = (some [(Il x1110), 
 (Il x1111)])) ∧ fitsP .i64 x1110 ∧ fitsP .i64 (0 : Int) ∧ 
 fitsP .i64 x1111 ∧ fitsP .i64 (0 : Int) ∧ ifB ((decide (x1110 = 0)) && (decide (x1111 = 0))) (Wc prog tbl 17 [] m1073 (fun v1112 m1113 => 
 ∃ b1114 : Bool, (v1112 = (V.c (C.bool b1114))) ∧ Q (V.c (C.bool b1114)) m1113)) (Q (V.c (C.bool false)) m1073)) (Q (V.c (C.bool false)) m1073)) (ifB (decide (x26 = 0)) (∃ x1115, 
 ∃ x1116, ((ldA m1073 (C.ptr m23.nxt 0) 2) = (some [(Il x1115), 
 (Il x1116)])) ∧ ∃ x1117, ∃ x1118, ((ldA m1073 (C.ptr m261.nxt 0) 2) = (some [(Il x1117), 
 (Il x1118)])) ∧ Wc prog tbl 36 [(V.agg 2 [(Il x1117), 
 (Il x1118)])] m1073 (fun v1119 m1120 => ∃ x1121, ∃ x1122, 
 (v1119 = (V.agg 2 [(Il x1121), (Il x1122)])) ∧ 
 ((ldA m1120 (C.ptr m23.nxt 0) 2) = (some [(Il x1115), 
 (Il x1116)])) ∧ fitsP .i64 x1115 ∧ fitsP .i64 x1121 ∧ 
 fitsP .i64 x1116 ∧ fitsP .i64 x1122 ∧ ifB ((decide (x1115 = x1121)) && (decide (x1116 = x1122))) (Wc prog tbl 17 [] m1120 (fun v1123 m1124 => 
 ∃ b1125 : Bool, (v1123 = (V.c (C.bool b1125))) ∧ Q (V.c (C.bool b1125)) m1124)) (Q (V.c (C.bool false)) m1120))) (Q (V.c (C.bool false)) m1073)))) (ifB (!decide (x1071 = 0)) (ifB (decide (x26 = x1071)) (∃ x1126, 
 ∃ x1127, ((ldA m1073 (C.ptr m23.nxt 0) 2) = (some [(Il x1126), 
 (Il x1127)])) ∧ fitsP .i64 x1126 ∧ fitsP .i64 (0 : Int) ∧ 
 fitsP .i64 x1127 ∧ fitsP .i64 (0 : Int) ∧ ifB ((decide (x1126 = 0)) && (decide (x1127 = 0))) (Wc prog tbl 17 [] m1073 (fun v1128 m1129 => 
 ∃ b1130 : Bool, (v1128 = (V.c (C.bool b1130))) ∧ Q (V.c (C.bool b1130)) m1129)) (Q (V.c (C.bool false)) m1073)) (Q (V.c (C.bool false)) m1073)) (ifB (decide (x26 = 0)) (∃ x1131, 
 ∃ x1132, ((ldA m1073 (C.ptr m23.nxt 0) 2) = (some [(Il x1131), 
 (Il x1132)])) ∧ ∃ x1133, ∃ x1134, ((ldA m1073 (C.ptr m261.nxt 0) 2) = (some [(Il x1133), 
 (Il x1134)])) ∧ Wc prog tbl 36 [(V.agg 2 [(Il x1133), 
 (Il x1134)])] m1073 (fun v1135 m1136 => ∃ x1137, ∃ x1138, 
 (v1135 = (V.agg 2 [(Il x1137), (Il x1138)])) ∧ 
 ((ldA m1136 (C.ptr m23.nxt 0) 2) = (some [(Il x1131), 
 (Il x1132)])) ∧ fitsP .i64 x1131 ∧ fitsP .i64 x1137 ∧ 
 fitsP .i64 x1132 ∧ fitsP .i64 x1138 ∧ ifB ((decide (x1131 = x1137)) && (decide (x1132 = x1138))) (Wc prog tbl 17 [] m1136 (fun v1139 m1140 => 
 ∃ b1141 : Bool, (v1139 = (V.c (C.bool b1141))) ∧ Q (V.c (C.bool b1141)) m1140)) (Q (V.c (C.bool false)) m1136))) (Q (V.c (C.bool false)) m1073)))) → 
 R1070 [(V.c (Il x1071)), (V.c (Il x1072))] m1073) → 
 R1070 [(V.c (Il x34)), (V.c (Il 0))] m1069)))))))))) (ifB (decide (x31 = 0)) (Wc prog tbl 41 [(V.c a100), 
 (V.c (Il a300)), (V.c (Il a400))] m33 (fun v1142 m1143 => 
 ∃ x1144, (v1142 = (V.c (Il x1144))) ∧ ifB (decide (x1144 < 0)) (ifB (!decide (x15 = 7)) (Q (V.c (C.bool false)) m1143) (ifB (!decide (x14 = (Max.max x1144 (0 : Int)))) (Q (V.c (C.bool false)) m1143) (ifB (decide (x34 = 0)) (isSl a200 ∧ 
 ifB (decide ((5 : Int) < (((slLen a200) : Nat) : Int))) (∀ m1145 : M, (m1145 = (M.new m1143 (AO.cells 2 [(Il 0), 
 (Il 0)] false))) → ∀ R1146 : List V → M → Prop, (∀ x1147 : Int, 
 ∀ x1148 : Int, ∀ m1149 : M, (isSl a200 ∧ ifB (decide (x1148 < (((slLen a200) : Nat) : Int))) (ifB (decide (x1147 = 0)) (∃ n1150 : Nat, 
 (x1148 = ((n1150 : Nat) : Int)) ∧ (n1150 < (slLen a200)) ∧ ∃ x1151, 
 ∃ x1152, ∃ x1153, ∃ x1154, ∃ x1155, ∃ x1156, 
 ((ldA m1149 (slAt a200 (n1150 * 6)) 6) = (some [(Il x1151), 
 (Il x1152), (Il x1153), (Il x1154), 
 (Il x1155), (Il x1156)])) ∧ Wc prog tbl 29 [(V.c a100), 
 (V.agg 6 [(Il x1151), (Il x1152), (Il x1153), 
 (Il x1154), (Il x1155), (Il x1156)])] m1149 (fun v1157 m1158 => 
 ∃ x1159, (v1157 = (V.c (Il x1159))) ∧ ifB (decide (x1159 = 0)) (∃ n1160 : Nat, 
 (x1148 = ((n1160 : Nat) : Int)) ∧ (n1160 < (slLen a200)) ∧ ∃ x1161, 
 ∃ x1162, ∃ x1163, ∃ x1164, ∃ x1165, ∃ x1166, 
 ((ldA m1158 (slAt a200 (n1160 * 6)) 6) = (some [(Il x1161), 
 (Il x1162), (Il x1163), (Il x1164), 
 (Il x1165), (Il x1166)])) ∧ Wc prog tbl 35 [(V.c a100), 
 (V.agg 6 [(Il x1161), (Il x1162), (Il x1163), 
 (Il x1164), (Il x1165), (Il x1166)])] m1158 (fun v1167 m1168 => 
 ∃ x1169, ∃ x1170, ∃ x1171, ∃ x1172, ∃ x1173, 
 ∃ x1174, (v1167 = (V.tup [(U.agg 2 [(Il x1169), (Il x1170)]), 
 (U.agg 2 [(Il x1171), (Il x1172)]), (U.agg 2 [(Il x1173), 
 (Il x1174)])])) ∧ ∀ m1175 : M, (m1175 = (M.new m1168 (AO.cells 2 [(Il 0), 
 (Il 0)] false))) → ∀ m1176 : M, (m1176 = (M.new m1175 (AO.cells 2 [(Il 0), 
 (Il 0)] false))) → ∀ m1177 : M, (m1177 = (M.new m1176 (AO.cells 2 [(Il 0), 
 (Il 0)] false))) → ∃ m1178 : M, ((stC m1177 (C.ptr m1168.nxt 0) 2 [(Il x1169), 
 (Il x1170)]) = (some m1178)) ∧ ∃ m1179 : M, ((stC m1178 (C.ptr m1175.nxt 0) 2 [(Il x1171), 
 (Il x1172)]) = (some m1179)) ∧ ∃ m1180 : M, ((stC m1179 (C.ptr m1176.nxt 0) 2 [(Il x1173), 
 (Il x1174)]) = (some m1180)) ∧ isPt (C.ptr m1143.nxt 0) ∧ 
 ∃ x1181, ((ldC m1180 (C.ptr m1143.nxt 0)) = (some (Il x1181))) ∧ 
 isPt (C.ptr m1168.nxt 0) ∧ ∃ x1182, ((ldC m1180 (C.ptr m1168.nxt 0)) = (some (Il x1182))) ∧ 
 fitsP .i64 (x1181 + x1182) ∧ isPt (C.ptr m1143.nxt 0) ∧ ∃ x1183, 
 ((ldC m1180 (C.ptr m1143.nxt 1)) = (some (Il x1183))) ∧ 
 isPt (C.ptr m1168.nxt 0) ∧ ∃ x1184, ((ldC m1180 (C.ptr m1168.nxt 1)) = (some (Il x1184))) ∧ 
 fitsP .i64 (x1183 + x1184) ∧ ∃ m1185 : M, ((stC m1180 (C.ptr m1143.nxt 0) 2 [(Il (x1181 + x1182)), 
 (Il (x1183 + x1184))]) = (some m1185)) ∧ fitsP .i64 (x1148 + 1) ∧ 
 R1146 [(V.c (Il x1159)), (V.c (Il (x1148 + 1)))] m1185)) (fitsP .i64 (x1148 + 1) ∧ 
 R1146 [(V.c (Il x1159)), (V.c (Il (x1148 + 1)))] m1158))) (ifB (!decide (x1147 = 0)) (ifB (decide (x26 = x1147)) (∃ x1186, 
 ∃ x1187, ((ldA m1149 (C.ptr m23.nxt 0) 2) = (some [(Il x1186), 
 (Il x1187)])) ∧ fitsP .i64 x1186 ∧ fitsP .i64 (0 : Int) ∧ 
 fitsP .i64 x1187 ∧ fitsP .i64 (0 : Int) ∧ ifB ((decide (x1186 = 0)) && (decide (x1187 = 0))) (Wc prog tbl 17 [] m1149 (fun v1188 m1189 => 
 ∃ b1190 : Bool, (v1188 = (V.c (C.bool b1190))) ∧ Q (V.c (C.bool b1190)) m1189)) (Q (V.c (C.bool false)) m1149)) (Q (V.c (C.bool false)) m1149)) (ifB (decide (x26 = 0)) (∃ x1191, 
 ∃ x1192, ((ldA m1149 (C.ptr m23.nxt 0) 2) = (some [(Il x1191), 
 (Il x1192)])) ∧ ∃ x1193, ∃ x1194, ((ldA m1149 (C.ptr m1143.nxt 0) 2) = (some [(Il x1193), 
 (Il x1194)])) ∧ Wc prog tbl 36 [(V.agg 2 [(Il x1193), 
 (Il x1194)])] m1149 (fun v1195 m1196 => ∃ x1197, ∃ x1198, 
 (v1195 = (V.agg 2 [(Il x1197), (Il x1198)])) ∧ 
 ((ldA m1196 (C.ptr m23.nxt 0) 2) = (some [(Il x1191), 
 (Il x1192)])) ∧ fitsP .i64 x1191 ∧ fitsP .i64 x1197 ∧ 
 fitsP .i64 x1192 ∧ fitsP .i64 x1198 ∧ ifB ((decide (x1191 = x1197)) && (decide (x1192 = x1198))) (Wc prog tbl 17 [] m1196 (fun v1199 m1200 => 
 ∃ b1201 : Bool, (v1199 = (V.c (C.bool b1201))) ∧ Q (V.c (C.bool b1201)) m1200)) (Q (V.c (C.bool false)) m1196))) (Q (V.c (C.bool false)) m1149)))) (ifB (!decide (x1147 = 0)) (ifB (decide (x26 = x1147)) (∃ x1202, 
 ∃ x1203, ((ldA m1149 (C.ptr m23.nxt 0) 2) = (some [(Il x1202), 
 (Il x1203)])) ∧ fitsP .i64 x1202 ∧ fitsP .i64 (0 : Int) ∧ 
 fitsP .i64 x1203 ∧ fitsP .i64 (0 : Int) ∧ ifB ((decide (x1202 = 0)) && (decide (x1203 = 0))) (Wc prog tbl 17 [] m1149 (fun v1204 m1205 => 
 ∃ b1206 : Bool, (v1204 = (V.c (C.bool b1206))) ∧ Q (V.c (C.bool b1206)) m1205)) (Q (V.c (C.bool false)) m1149)) (Q (V.c (C.bool false)) m1149)) (ifB (decide (x26 = 0)) (∃ x1207, 
 ∃ x1208, ((ldA m1149 (C.ptr m23.nxt 0) 2) = (some [(Il x1207), 
 (Il x1208)])) ∧ ∃ x1209, ∃ x1210, ((ldA m1149 (C.ptr m1143.nxt 0) 2) = (some [(Il x1209), 
 (Il x1210)])) ∧ Wc prog tbl 36 [(V.agg 2 [(Il x1209), 
 (Il x1210)])] m1149 (fun v1211 m1212 => ∃ x1213, ∃ x1214, 
 (v1211 = (V.agg 2 [(Il x1213), (Il x1214)])) ∧ 
 ((ldA m1212 (C.ptr m23.nxt 0) 2) = (some [(Il x1207), 
 (Il x1208)])) ∧ fitsP .i64 x1207 ∧ fitsP .i64 x1213 ∧ 
 fitsP .i64 x1208 ∧ fitsP .i64 x1214 ∧ ifB ((decide (x1207 = x1213)) && (decide (x1208 = x1214))) (Wc prog tbl 17 [] m1212 (fun v1215 m1216 => 
 ∃ b1217 : Bool, (v1215 = (V.c (C.bool b1217))) ∧ Q (V.c (C.bool b1217)) m1216)) (Q (V.c (C.bool false)) m1212))) (Q (V.c (C.bool false)) m1149)))) → 
 R1146 [(V.c (Il x1147)), (V.c (Il x1148))] m1149) → 
 R1146 [(V.c (Il (3 : Int))), (V.c (Il 0))] m1145) (∀ m1218 : M, 
 (m1218 = (M.new m1143 (AO.cells 2 [(Il 0), (Il 0)] false))) → 
 ∀ R1219 : List V → M → Prop, (∀ x1220 : Int, ∀ x1221 : Int, ∀ m1222 : M, 
 (isSl a200 ∧ ifB (decide (x1221 < (((slLen a200) : Nat) : Int))) (ifB (decide (x1220 = 0)) (∃ n1223 : Nat, 
 (x1221 = ((n1223 : Nat) : Int)) ∧ (n1223 < (slLen a200)) ∧ ∃ x1224, 
 ∃ x1225, ∃ x1226, ∃ x1227, ∃ x1228, ∃ x1229, 
 ((ldA m1222 (slAt a200 (n1223 * 6)) 6) = (some [(Il x1224), 
 (Il x1225), (Il x1226), (Il x1227), 
 (Il x1228), (Il x1229)])) ∧ Wc prog tbl 29 [(V.c a100), 
 (V.agg 6 [(Il x1224), (Il x1225), (Il x1226), 
 (Il x1227), (Il x1228), (Il x1229)])] m1222 (fun v1230 m1231 => 
 ∃ x1232, (v1230 = (V.c (Il x1232))) ∧ ifB (decide (x1232 = 0)) (∃ n1233 : Nat, 
 (x1221 = ((n1233 : Nat) : Int)) ∧ (n1233 < (slLen a200)) ∧ ∃ x1234, 
 ∃ x1235, ∃ x1236, ∃ x1237, ∃ x1238, ∃ x1239, 
 ((ldA m1231 (slAt a200 (n1233 * 6)) 6) = (some [(Il x1234), 
 (Il x1235), (Il x1236), (Il x1237), 
 (Il x1238), (Il x1239)])) ∧ Wc prog tbl 35 [(V.c a100), 
 (V.agg 6 [(Il x1234), (Il x1235), (Il x1236), 
 (Il x1237), (Il x1238), (Il x1239)])] m1231 (fun v1240 m1241 => 
 ∃ x1242, ∃ x1243, ∃ x1244, ∃ x1245, ∃ x1246, 
 ∃ x1247, (v1240 = (V.tup [(U.agg 2 [(Il x1242), (Il x1243)]), 
 (U.agg 2 [(Il x1244), (Il x1245)]), (U.agg 2 [(Il x1246), 
 (Il x1247)])])) ∧ ∀ m1248 : M, (m1248 = (M.new m1241 (AO.cells 2 [(Il 0), 
 (Il 0)] false))) → ∀ m1249 : M, (m1249 = (M.new m1248 (AO.cells 2 [(Il 0), 
 (Il 0)] false))) → ∀ m1250 : M, (m1250 = (M.new m1249 (AO.cells 2 [(Il 0), 
 (Il 0)] false))) → ∃ m1251 : M, ((stC m1250 (C.ptr m1241.nxt 0) 2 [(Il x1242), 
 (Il x1243)]) = (some m1251)) ∧ ∃ m1252 : M, ((stC m1251 (C.ptr m1248.nxt 0) 2 [(Il x1244), 
 (Il x1245)]) = (some m1252)) ∧ ∃ m1253 : M, ((stC m1252 (C.ptr m1249.nxt 0) 2 [(Il x1246), 
 (Il x1247)]) = (some m1253)) ∧ isPt (C.ptr m1143.nxt 0) ∧ 
 ∃ x1254, ((ldC m1253 (C.ptr m1143.nxt 0)) = (some (Il x1254))) ∧ 
 isPt (C.ptr m1241.nxt 0) ∧ ∃ x1255, ((ldC m1253 (C.ptr m1241.nxt 0)) = (some (Il x1255))) ∧ 
 fitsP .i64 (x1254 + x1255) ∧ isPt (C.ptr m1143.nxt 0) ∧ ∃ x1256, 
 ((ldC m1253 (C.ptr m1143.nxt 1)) = (some (Il x1256))) ∧ 
 isPt (C.ptr m1241.nxt 0) ∧ ∃ x1257, ((ldC m1253 (C.ptr m1241.nxt 1)) = (some (Il x1257))) ∧ 
 fitsP .i64 (x1256 + x1257) ∧ ∃ m1258 : M, ((stC m1253 (C.ptr m1143.nxt 0) 2 [(Il (x1254 + x1255)), 
 (Il (x1256 + x1257))]) = (some m1258)) ∧ fitsP .i64 (x1221 + 1) ∧ 
 R1219 [(V.c (Il x1232)), (V.c (Il (x1221 + 1)))] m1258)) (fitsP .i64 (x1221 + 1) ∧ 
 R1219 [(V.c (Il x1232)), (V.c (Il (x1221 + 1)))] m1231))) (ifB (!decide (x1220 = 0)) (ifB (decide (x26 = x1220)) (∃ x1259, 
 ∃ x1260, ((ldA m1222 (C.ptr m23.nxt 0) 2) = (some [(Il x1259), 
 (Il x1260)])) ∧ fitsP .i64 x1259 ∧ fitsP .i64 (0 : Int) ∧ 
 fitsP .i64 x1260 ∧ fitsP .i64 (0 : Int) ∧ ifB ((decide (x1259 = 0)) && (decide (x1260 = 0))) (Wc prog tbl 17 [] m1222 (fun v1261 m1262 => 
 ∃ b1263 : Bool, (v1261 = (V.c (C.bool b1263))) ∧ Q (V.c (C.bool b1263)) m1262)) (Q (V.c (C.bool false)) m1222)) (Q (V.c (C.bool false)) m1222)) (ifB (decide (x26 = 0)) (∃ x1264, 
 ∃ x1265, ((ldA m1222 (C.ptr m23.nxt 0) 2) = (some [(Il x1264), 
 (Il x1265)])) ∧ ∃ x1266, ∃ x1267, ((ldA m1222 (C.ptr m1143.nxt 0) 2) = (some [(Il x1266), 
 (Il x1267)])) ∧ Wc prog tbl 36 [(V.agg 2 [(Il x1266), 
 (Il x1267)])] m1222 (fun v1268 m1269 => ∃ x1270, ∃ x1271, 
 (v1268 = (V.agg 2 [(Il x1270), (Il x1271)])) ∧ 
 ((ldA m1269 (C.ptr m23.nxt 0) 2) = (some [(Il x1264), 
 (Il x1265)])) ∧ fitsP .i64 x1264 ∧ fitsP .i64 x1270 ∧ 
 fitsP .i64 x1265 ∧ fitsP .i64 x1271 ∧ ifB ((decide (x1264 = x1270)) && (decide (x1265 = x1271))) (Wc prog tbl 17 [] m1269 (fun v1272 m1273 => 
 ∃ b1274 : Bool, (v1272 = (V.c (C.bool b1274))) ∧ Q (V.c (C.bool b1274)) m1273)) (Q (V.c (C.bool false)) m1269))) (Q (V.c (C.bool false)) m1222)))) (ifB (!decide (x1220 = 0)) (ifB (decide (x26 = x1220)) (∃ x1275, 
 ∃ x1276, ((ldA m1222 (C.ptr m23.nxt 0) 2) = (some [(Il x1275), 
 (Il x1276)])) ∧ fitsP .i64 x1275 ∧ fitsP .i64 (0 : Int) ∧ 
 fitsP .i64 x1276 ∧ fitsP .i64 (0 : Int) ∧ ifB ((decide (x1275 = 0)) && (decide (x1276 = 0))) (Wc prog tbl 17 [] m1222 (fun v1277 m1278 => 
 ∃ b1279 : Bool, (v1277 = (V.c (C.bool b1279))) ∧ Q (V.c (C.bool b1279)) m1278)) (Q (V.c (C.bool false)) m1222)) (Q (V.c (C.bool false)) m1222)) (ifB (decide (x26 = 0)) (∃ x1280, 
 ∃ x1281, ((ldA m1222 (C.ptr m23.nxt 0) 2) = (some [(Il x1280), 
 (Il x1281)])) ∧ ∃ x1282, ∃ x1283, ((ldA m1222 (C.ptr m1143.nxt 0) 2) = (some [(Il x1282), 
 (Il x1283)])) ∧ Wc prog tbl 36 [(V.agg 2 [(Il x1282), 
 (Il x1283)])] m1222 (fun v1284 m1285 => ∃ x1286, ∃ x1287, 
 (v1284 = (V.agg 2 [(Il x1286), (Il x1287)])) ∧ 
 ((ldA m1285 (C.ptr m23.nxt 0) 2) = (some [(Il x1280), 
 (Il x1281)])) ∧ fitsP .i64 x1280 ∧ fitsP .i64 x1286 ∧ 
 fitsP .i64 x1281 ∧ fitsP .i64 x1287 ∧ ifB ((decide (x1280 = x1286)) && (decide (x1281 = x1287))) (Wc prog tbl 17 [] m1285 (fun v1288 m1289 => 
 ∃ b1290 : Bool, (v1288 = (V.c (C.bool b1290))) ∧ Q (V.c (C.bool b1290)) m1289)) (Q (V.c (C.bool false)) m1285))) (Q (V.c (C.bool false)) m1222)))) → 
 R1219 [(V.c (Il x1220)), (V.c (Il x1221))] m1222) → 
 R1219 [(V.c (Il x34)), (V.c (Il 0))] m1218)) (∀ m1291 : M, 
 (m1291 = (M.new m1143 (AO.cells 2 [(Il 0), (Il 0)] false))) → 
 ∀ R1292 : List V → M → Prop, (∀ x1293 : Int, ∀ x1294 : Int, ∀ m1295 : M, 
 (isSl a200 ∧ ifB (decide (x1294 < (((slLen a200) : Nat) : Int))) (ifB (decide (x1293 = 0)) (∃ n1296 : Nat, 
 (x1294 = ((n1296 : Nat) : Int)) ∧ (n1296 < (slLen a200)) ∧ ∃ x1297, 
 ∃ x1298, ∃ x1299, ∃ x1300, ∃ x1301, ∃ x1302, 
 ((ldA m1295 (slAt a200 (n1296 * 6)) 6) = (some [(Il x1297), 
 (Il x1298), (Il x1299), (Il x1300), 
 (Il x1301), (Il x1302)])) ∧ Wc prog tbl 29 [(V.c a100), 
 (V.agg 6 [(Il x1297), (Il x1298), (Il x1299), 
 (Il x1300), (Il x1301), (Il x1302)])] m1295 (fun v1303 m1304 => 
 ∃ x1305, (v1303 = (V.c (Il x1305))) ∧ ifB (decide (x1305 = 0)) (∃ n1306 : Nat, 
 (x1294 = ((n1306 : Nat) : Int)) ∧ (n1306 < (slLen a200)) ∧ ∃ x1307, 
 ∃ x1308, ∃ x1309, ∃ x1310, ∃ x1311, ∃ x1312, 
 ((ldA m1304 (slAt a200 (n1306 * 6)) 6) = (some [(Il x1307), 
 (Il x1308), (Il x1309), (Il x1310), 
 (Il x1311), (Il x1312)])) ∧ Wc prog tbl 35 [(V.c a100), 
 (V.agg 6 [(Il x1307), (Il x1308), (Il x1309), 
 (Il x1310), (Il x1311), (Il x1312)])] m1304 (fun v1313 m1314 => 
 ∃ x1315, ∃ x1316, ∃ x1317, ∃ x1318, ∃ x1319, 
 ∃ x1320, (v1313 = (V.tup [(U.agg 2 [(Il x1315), (Il x1316)]), 
 (U.agg 2 [(Il x1317), (Il x1318)]), (U.agg 2 [(Il x1319), 
 (Il x1320)])])) ∧ ∀ m1321 : M, (m1321 = (M.new m1314 (AO.cells 2 [(Il 0), 
 (Il 0)] false))) → ∀ m1322 : M, (m1322 = (M.new m1321 (AO.cells 2 [(Il 0), 
 (Il 0)] false))) → ∀ m1323 : M, (m1323 = (M.new m1322 (AO.cells 2 [(Il 0), 
 (Il 0)] false))) → ∃ m1324 : M, ((stC m1323 (C.ptr m1314.nxt 0) 2 [(Il x1315), 
 (Il x1316)]) = (some m1324)) ∧ ∃ m1325 : M, ((stC m1324 (C.ptr m1321.nxt 0) 2 [(Il x1317), 
 (Il x1318)]) = (some m1325)) ∧ ∃ m1326 : M, ((stC m1325 (C.ptr m1322.nxt 0) 2 [(Il x1319), 
 (Il x1320)]) = (some m1326)) ∧ isPt (C.ptr m1143.nxt 0) ∧ 
 ∃ x1327, ((ldC m1326 (C.ptr m1143.nxt 0)) = (some (Il x1327))) ∧ 
 isPt (C.ptr m1314.nxt 0) ∧ ∃ x1328, ((ldC m1326 (C.ptr m1314.nxt 0)) = (some (Il x1328))) ∧ 
 fitsP .i64 (x1327 + x1328) ∧ isPt (C.ptr m1143.nxt 0) ∧ ∃ x1329, 
 ((ldC m1326 (C.ptr m1143.nxt 1)) = (some (Il x1329))) ∧ 
 isPt (C.ptr m1314.nxt 0) ∧ ∃ x1330, ((ldC m1326 (C.ptr m1314.nxt 1)) = (some (Il x1330))) ∧ 
 fitsP .i64 (x1329 + x1330) ∧ ∃ m1331 : M, ((stC m1326 (C.ptr m1143.nxt 0) 2 [(Il (x1327 + x1328)), 
 (Il (x1329 + x1330))]) = (some m1331)) ∧ fitsP .i64 (x1294 + 1) ∧ 
 R1292 [(V.c (Il x1305)), (V.c (Il (x1294 + 1)))] m1331)) (fitsP .i64 (x1294 + 1) ∧ 
 R1292 [(V.c (Il x1305)), (V.c (Il (x1294 + 1)))] m1304))) (ifB (!decide (x1293 = 0)) (ifB (decide (x26 = x1293)) (∃ x1332, 
 ∃ x1333, ((ldA m1295 (C.ptr m23.nxt 0) 2) = (some [(Il x1332), 
 (Il x1333)])) ∧ fitsP .i64 x1332 ∧ fitsP .i64 (0 : Int) ∧ 
 fitsP .i64 x1333 ∧ fitsP .i64 (0 : Int) ∧ ifB ((decide (x1332 = 0)) && (decide (x1333 = 0))) (Wc prog tbl 17 [] m1295 (fun v1334 m1335 => 
 ∃ b1336 : Bool, (v1334 = (V.c (C.bool b1336))) ∧ Q (V.c (C.bool b1336)) m1335)) (Q (V.c (C.bool false)) m1295)) (Q (V.c (C.bool false)) m1295)) (ifB (decide (x26 = 0)) (∃ x1337, 
 ∃ x1338, ((ldA m1295 (C.ptr m23.nxt 0) 2) = (some [(Il x1337), 
 (Il x1338)])) ∧ ∃ x1339, ∃ x1340, ((ldA m1295 (C.ptr m1143.nxt 0) 2) = (some [(Il x1339), 
 (Il x1340)])) ∧ Wc prog tbl 36 [(V.agg 2 [(Il x1339), 
 (Il x1340)])] m1295 (fun v1341 m1342 => ∃ x1343, ∃ x1344, 
 (v1341 = (V.agg 2 [(Il x1343), (Il x1344)])) ∧ 
 ((ldA m1342 (C.ptr m23.nxt 0) 2) = (some [(Il x1337), 
 (Il x1338)])) ∧ fitsP .i64 x1337 ∧ fitsP .i64 x1343 ∧ 
 fitsP .i64 x1338 ∧ fitsP .i64 x1344 ∧ ifB ((decide (x1337 = x1343)) && (decide (x1338 = x1344))) (Wc prog tbl 17 [] m1342 (fun v1345 m1346 => 
 ∃ b1347 : Bool, (v1345 = (V.c (C.bool b1347))) ∧ Q (V.c (C.bool b1347)) m1346)) (Q (V.c (C.bool false)) m1342))) (Q (V.c (C.bool false)) m1295)))) (ifB (!decide (x1293 = 0)) (ifB (decide (x26 = x1293)) (∃ x1348, 
 ∃ x1349, ((ldA m1295 (C.ptr m23.nxt 0) 2) = (some [(Il x1348), 
 (Il x1349)])) ∧ fitsP .i64 x1348 ∧ fitsP .i64 (0 : Int) ∧ 
 fitsP .i64 x1349 ∧ fitsP .i64 (0 : Int) ∧ ifB ((decide (x1348 = 0)) && (decide (x1349 = 0))) (Wc prog tbl 17 [] m1295 (fun v1350 m1351 => 
 ∃ b1352 : Bool, (v1350 = (V.c (C.bool b1352))) ∧ Q (V.c (C.bool b1352)) m1351)) (Q (V.c (C.bool false)) m1295)) (Q (V.c (C.bool false)) m1295)) (ifB (decide (x26 = 0)) (∃ x1353, 
 ∃ x1354, ((ldA m1295 (C.ptr m23.nxt 0) 2) = (some [(Il x1353), 
 (Il x1354)])) ∧ ∃ x1355, ∃ x1356, ((ldA m1295 (C.ptr m1143.nxt 0) 2) = (some [(Il x1355), 
 (Il x1356)])) ∧ Wc prog tbl 36 [(V.agg 2 [(Il x1355), 
 (Il x1356)])] m1295 (fun v1357 m1358 => ∃ x1359, ∃ x1360, 
 (v1357 = (V.agg 2 [(Il x1359), (Il x1360)])) ∧ 
 ((ldA m1358 (C.ptr m23.nxt 0) 2) = (some [(Il x1353), 
 (Il x1354)])) ∧ fitsP .i64 x1353 ∧ fitsP .i64 x1359 ∧ 
 fitsP .i64 x1354 ∧ fitsP .i64 x1360 ∧ ifB ((decide (x1353 = x1359)) && (decide (x1354 = x1360))) (Wc prog tbl 17 [] m1358 (fun v1361 m1362 => 
 ∃ b1363 : Bool, (v1361 = (V.c (C.bool b1363))) ∧ Q (V.c (C.bool b1363)) m1362)) (Q (V.c (C.bool false)) m1358))) (Q (V.c (C.bool false)) m1295)))) → 
 R1292 [(V.c (Il x1293)), (V.c (Il x1294))] m1295) → 
 R1292 [(V.c (Il x34)), (V.c (Il 0))] m1291)))) (ifB (!decide (x15 = x31)) (Q (V.c (C.bool false)) m1143) (ifB (!decide (x14 = (Max.max x1144 (0 : Int)))) (Q (V.c (C.bool false)) m1143) (ifB (decide (x34 = 0)) (isSl a200 ∧ 
 ifB (decide ((5 : Int) < (((slLen a200) : Nat) : Int))) (∀ m1364 : M, (m1364 = (M.new m1143 (AO.cells 2 [(Il 0), 
 (Il 0)] false))) → ∀ R1365 : List V → M → Prop, (∀ x1366 : Int, 
 ∀ x1367 : Int, ∀ m1368 : M, (isSl a200 ∧ ifB (decide (x1367 < (((slLen a200) : Nat) : Int))) (ifB (decide (x1366 = 0)) (∃ n1369 : Nat, 
 (x1367 = ((n1369 : Nat) : Int)) ∧ (n1369 < (slLen a200)) ∧ ∃ x1370, 
 ∃ x1371, ∃ x1372, ∃ x1373, ∃ x1374, ∃ x1375, 
 ((ldA m1368 (slAt a200 (n1369 * 6)) 6) = (some [(Il x1370), 
 (Il x1371), (Il x1372), (Il x1373), 
 (Il x1374), (Il x1375)])) ∧ Wc prog tbl 29 [(V.c a100), 
 (V.agg 6 [(Il x1370), (Il x1371), (Il x1372), 
 (Il x1373), (Il x1374), (Il x1375)])] m1368 (fun v1376 m1377 => 
 ∃ x1378, (v1376 = (V.c (Il x1378))) ∧ ifB (decide (x1378 = 0)) (∃ n1379 : Nat, 
 (x1367 = ((n1379 : Nat) : Int)) ∧ (n1379 < (slLen a200)) ∧ ∃ x1380, 
 ∃ x1381, ∃ x1382, ∃ x1383, ∃ x1384, ∃ x1385, 
 ((ldA m1377 (slAt a200 (n1379 * 6)) 6) = (some [(Il x1380), 
 (Il x1381), (Il x1382), (Il x1383), 
 (Il x1384), (Il x1385)])) ∧ Wc prog tbl 35 [(V.c a100), 
 (V.agg 6 [(Il x1380), (Il x1381), (Il x1382), 
 (Il x1383), (Il x1384), (Il x1385)])] m1377 (fun v1386 m1387 => 
 ∃ x1388, ∃ x1389, ∃ x1390, ∃ x1391, ∃ x1392, 
 ∃ x1393, (v1386 = (V.tup [(U.agg 2 [(Il x1388), (Il x1389)]), 
 (U.agg 2 [(Il x1390), (Il x1391)]), (U.agg 2 [(Il x1392), 
 (Il x1393)])])) ∧ ∀ m1394 : M, (m1394 = (M.new m1387 (AO.cells 2 [(Il 0), 
 (Il 0)] false))) → ∀ m1395 : M, (m1395 = (M.new m1394 (AO.cells 2 [(Il 0), 
 (Il 0)] false))) → ∀ m1396 : M, (m1396 = (M.new m1395 (AO.cells 2 [(Il 0), 
 (Il 0)] false))) → ∃ m1397 : M, ((stC m1396 (C.ptr m1387.nxt 0) 2 [(Il x1388), 
 (Il x1389)]) = (some m1397)) ∧ ∃ m1398 : M, ((stC m1397 (C.ptr m1394.nxt 0) 2 [(Il x1390), 
 (Il x1391)]) = (some m1398)) ∧ ∃ m1399 : M, ((stC m1398 (C.ptr m1395.nxt 0) 2 [(Il x1392), 
 (Il x1393)]) = (some m1399)) ∧ isPt (C.ptr m1143.nxt 0) ∧ 
 ∃ x1400, ((ldC m1399 (C.ptr m1143.nxt 0)) = (some (Il x1400))) ∧ 
 isPt (C.ptr m1387.nxt 0) ∧ ∃ x1401, ((ldC m1399 (C.ptr m1387.nxt 0)) = (some (Il x1401))) ∧ 
 fitsP .i64 (x1400 + x1401) ∧ isPt (C.ptr m1143.nxt 0) ∧ ∃ x1402, 
 ((ldC m1399 (C.ptr m1143.nxt 1)) = (some (Il x1402))) ∧ 
 isPt (C.ptr m1387.nxt 0) ∧ ∃ x1403, ((ldC m1399 (C.ptr m1387.nxt 1)) = (some (Il x1403))) ∧ 
 fitsP .i64 (x1402 + x1403) ∧ ∃ m1404 : M, ((stC m1399 (C.ptr m1143.nxt 0) 2 [(Il (x1400 + x1401)), 
 (Il (x1402 + x1403))]) = (some m1404)) ∧ fitsP .i64 (x1367 + 1) ∧ 
 R1365 [(V.c (Il x1378)), (V.c (Il (x1367 + 1)))] m1404)) (fitsP .i64 (x1367 + 1) ∧ 
 R1365 [(V.c (Il x1378)), (V.c (Il (x1367 + 1)))] m1377))) (ifB (!decide (x1366 = 0)) (ifB (decide (x26 = x1366)) (∃ x1405, 
 ∃ x1406, ((ldA m1368 (C.ptr m23.nxt 0) 2) = (some [(Il x1405), 
 (Il x1406)])) ∧ fitsP .i64 x1405 ∧ fitsP .i64 (0 : Int) ∧ 
 fitsP .i64 x1406 ∧ fitsP .i64 (0 : Int) ∧ ifB ((decide (x1405 = 0)) && (decide (x1406 = 0))) (Wc prog tbl 17 [] m1368 (fun v1407 m1408 => 
 ∃ b1409 : Bool, (v1407 = (V.c (C.bool b1409))) ∧ Q (V.c (C.bool b1409)) m1408)) (Q (V.c (C.bool false)) m1368)) (Q (V.c (C.bool false)) m1368)) (ifB (decide (x26 = 0)) (∃ x1410, 
 ∃ x1411, ((ldA m1368 (C.ptr m23.nxt 0) 2) = (some [(Il x1410), 
 (Il x1411)])) ∧ ∃ x1412, ∃ x1413, ((ldA m1368 (C.ptr m1143.nxt 0) 2) = (some [(Il x1412), 
 (Il x1413)])) ∧ Wc prog tbl 36 [(V.agg 2 [(Il x1412), 
 (Il x1413)])] m1368 (fun v1414 m1415 => ∃ x1416, ∃ x1417, 
 (v1414 = (V.agg 2 [(Il x1416), (Il x1417)])) ∧ 
 ((ldA m1415 (C.ptr m23.nxt 0) 2) = (some [(Il x1410), 
 (Il x1411)])) ∧ fitsP .i64 x1410 ∧ fitsP .i64 x1416 ∧ 
 fitsP .i64 x1411 ∧ fitsP .i64 x1417 ∧ ifB ((decide (x1410 = x1416)) && (decide (x1411 = x1417))) (Wc prog tbl 17 [] m1415 (fun v1418 m1419 => 
 ∃ b1420 : Bool, (v1418 = (V.c (C.bool b1420))) ∧ Q (V.c (C.bool b1420)) m1419)) (Q (V.c (C.bool false)) m1415))) (Q (V.c (C.bool false)) m1368)))) (ifB (!decide (x1366 = 0)) (ifB (decide (x26 = x1366)) (∃ x1421, 
 ∃ x1422, ((ldA m1368 (C.ptr m23.nxt 0) 2) = (some [(Il x1421), 
 (Il x1422)])) ∧ fitsP .i64 x1421 ∧ fitsP .i64 (0 : Int) ∧ 
 fitsP .i64 x1422 ∧ fitsP .i64 (0 : Int) ∧ ifB ((decide (x1421 = 0)) && (decide (x1422 = 0))) (Wc prog tbl 17 [] m1368 (fun v1423 m1424 => 
 ∃ b1425 : Bool, (v1423 = (V.c (C.bool b1425))) ∧ Q (V.c (C.bool b1425)) m1424)) (Q (V.c (C.bool false)) m1368)) (Q (V.c (C.bool false)) m1368)) (ifB (decide (x26 = 0)) (∃ x1426, 
 ∃ x1427, ((ldA m1368 (C.ptr m23.nxt 0) 2) = (some [(Il x1426), 
 (Il x1427)])) ∧ ∃ x1428, ∃ x1429, ((ldA m1368 (C.ptr m1143.nxt 0) 2) = (some [(Il x1428), 
 (Il x1429)])) ∧ Wc prog tbl 36 [(V.agg 2 [(Il x1428), 
 (Il x1429)])] m1368 (fun v1430 m1431 => ∃ x1432, ∃ x1433, 
 (v1430 = (V.agg 2 [(Il x1432), (Il x1433)])) ∧ 
 ((ldA m1431 (C.ptr m23.nxt 0) 2) = (some [(Il x1426), 
 (Il x1427)])) ∧ fitsP .i64 x1426 ∧ fitsP .i64 x1432 ∧ 
 fitsP .i64 x1427 ∧ fitsP .i64 x1433 ∧ ifB ((decide (x1426 = x1432)) && (decide (x1427 = x1433))) (Wc prog tbl 17 [] m1431 (fun v1434 m1435 => 
 ∃ b1436 : Bool, (v1434 = (V.c (C.bool b1436))) ∧ Q (V.c (C.bool b1436)) m1435)) (Q (V.c (C.bool false)) m1431))) (Q (V.c (C.bool false)) m1368)))) → 
 R1365 [(V.c (Il x1366)), (V.c (Il x1367))] m1368) → 
 R1365 [(V.c (Il (3 : Int))), (V.c (Il 0))] m1364) (∀ m1437 : M, 
 (m1437 = (M.new m1143 (AO.cells 2 [(Il 0), (Il 0)] false))) → 
 ∀ R1438 : List V → M → Prop, (∀ x1439 : Int, ∀ x1440 : Int, ∀ m1441 : M, 
 (isSl a200 ∧ ifB (decide (x1440 < (((slLen a200) : Nat) : Int))) (ifB (decide (x1439 = 0)) (∃ n1442 : Nat, 
 (x1440 = ((n1442 : Nat) : Int)) ∧ (n1442 < (slLen a200)) ∧ ∃ x1443, 
 ∃ x1444, ∃ x1445, ∃ x1446, ∃ x1447, ∃ x1448, 
 ((ldA m1441 (slAt a200 (n1442 * 6)) 6) = (some [(Il x1443), 
 (Il x1444), (Il x1445), (Il x1446), 
 (Il x1447), (Il x1448)])) ∧ Wc prog tbl 29 [(V.c a100), 
 (V.agg 6 [(Il x1443), (Il x1444), (Il x1445), 
 (Il x1446), (Il x1447), (Il x1448)])] m1441 (fun v1449 m1450 => 
 ∃ x1451, (v1449 = (V.c (Il x1451))) ∧ ifB (decide (x1451 = 0)) (∃ n1452 : Nat, 
 (x1440 = ((n1452 : Nat) : Int)) ∧ (n1452 < (slLen a200)) ∧ ∃ x1453, 
 ∃ x1454, ∃ x1455, ∃ x1456, ∃ x1457, ∃ x1458, 
 ((ldA m1450 (slAt a200 (n1452 * 6)) 6) = (some [(Il x1453), 
 (Il x1454), (Il x1455), (Il x1456), 
 (Il x1457), (Il x1458)])) ∧ Wc prog tbl 35 [(V.c a100), 
 (V.agg 6 [(Il x1453), (Il x1454), (Il x1455), 
 (Il x1456), (Il x1457), (Il x1458)])] m1450 (fun v1459 m1460 => 
 ∃ x1461, ∃ x1462, ∃ x1463, ∃ x1464, ∃ x1465, 
 ∃ x1466, (v1459 = (V.tup [(U.agg 2 [(Il x1461), (Il x1462)]), 
 (U.agg 2 [(Il x1463), (Il x1464)]), (U.agg 2 [(Il x1465), 
 (Il x1466)])])) ∧ ∀ m1467 : M, (m1467 = (M.new m1460 (AO.cells 2 [(Il 0), 
 (Il 0)] false))) → ∀ m1468 : M, (m1468 = (M.new m1467 (AO.cells 2 [(Il 0), 
 (Il 0)] false))) → ∀ m1469 : M, (m1469 = (M.new m1468 (AO.cells 2 [(Il 0), 
 (Il 0)] false))) → ∃ m1470 : M, ((stC m1469 (C.ptr m1460.nxt 0) 2 [(Il x1461), 
 (Il x1462)]) = (some m1470)) ∧ ∃ m1471 : M, ((stC m1470 (C.ptr m1467.nxt 0) 2 [(Il x1463), 
 (Il x1464)]) = (some m1471)) ∧ ∃ m1472 : M, ((stC m1471 (C.ptr m1468.nxt 0) 2 [(Il x1465), 
 (Il x1466)]) = (some m1472)) ∧ isPt (C.ptr m1143.nxt 0) ∧ 
 ∃ x1473, ((ldC m1472 (C.ptr m1143.nxt 0)) = (some (Il x1473))) ∧ 
 isPt (C.ptr m1460.nxt 0) ∧ ∃ x1474, ((ldC m1472 (C.ptr m1460.nxt 0)) = (some (Il x1474))) ∧ 
 fitsP .i64 (x1473 + x1474) ∧ isPt (C.ptr m1143.nxt 0) ∧ ∃ x1475, 
 ((ldC m1472 (C.ptr m1143.nxt 1)) = (some (Il x1475))) ∧ 
 isPt (C.ptr m1460.nxt 0) ∧ ∃ x1476, ((ldC m1472 (C.ptr m1460.nxt 1)) = (some (Il x1476))) ∧ 
 fitsP .i64 (x1475 + x1476) ∧ ∃ m1477 : M, ((stC m1472 (C.ptr m1143.nxt 0) 2 [(Il (x1473 + x1474)), 
 (Il (x1475 + x1476))]) = (some m1477)) ∧ fitsP .i64 (x1440 + 1) ∧ 
 R1438 [(V.c (Il x1451)), (V.c (Il (x1440 + 1)))] m1477)) (fitsP .i64 (x1440 + 1) ∧ 
 R1438 [(V.c (Il x1451)), (V.c (Il (x1440 + 1)))] m1450))) (ifB (!decide (x1439 = 0)) (ifB (decide (x26 = x1439)) (∃ x1478, 
 ∃ x1479, ((ldA m1441 (C.ptr m23.nxt 0) 2) = (some [(Il x1478), 
 (Il x1479)])) ∧ fitsP .i64 x1478 ∧ fitsP .i64 (0 : Int) ∧ 
 fitsP .i64 x1479 ∧ fitsP .i64 (0 : Int) ∧ ifB ((decide (x1478 = 0)) && (decide (x1479 = 0))) (Wc prog tbl 17 [] m1441 (fun v1480 m1481 => 
 ∃ b1482 : Bool, (v1480 = (V.c (C.bool b1482))) ∧ Q (V.c (C.bool b1482)) m1481)) (Q (V.c (C.bool false)) m1441)) (Q (V.c (C.bool false)) m1441)) (ifB (decide (x26 = 0)) (∃ x1483, 
 ∃ x1484, ((ldA m1441 (C.ptr m23.nxt 0) 2) = (some [(Il x1483), 
 (Il x1484)])) ∧ ∃ x1485, ∃ x1486, ((ldA m1441 (C.ptr m1143.nxt 0) 2) = (some [(Il x1485), 
 (Il x1486)])) ∧ Wc prog tbl 36 [(V.agg 2 [(Il x1485), 
 (Il x1486)])] m1441 (fun v1487 m1488 => ∃ x1489, ∃ x1490, 
 (v1487 = (V.agg 2 [(Il x1489), (Il x1490)])) ∧ 
 ((ldA m1488 (C.ptr m23.nxt 0) 2) = (some [(Il x1483), 
 (Il x1484)])) ∧ fitsP .i64 x1483 ∧ fitsP .i64 x1489 ∧ 
 fitsP .i64 x1484 ∧ fitsP .i64 x1490 ∧ ifB ((decide (x1483 = x1489)) && (decide (x1484 = x1490))) (Wc prog tbl 17 [] m1488 (fun v1491 m1492 => 
 ∃ b1493 : Bool, (v1491 = (V.c (C.bool b1493))) ∧ Q (V.c (C.bool b1493)) m1492)) (Q (V.c (C.bool false)) m1488))) (Q (V.c (C.bool false)) m1441)))) (ifB (!decide (x1439 = 0)) (ifB (decide (x26 = x1439)) (∃ x1494, 
 ∃ x1495, ((ldA m1441 (C.ptr m23.nxt 0) 2) = (some [(Il x1494), 
 (Il x1495)])) ∧ fitsP .i64 x1494 ∧ fitsP .i64 (0 : Int) ∧ 
 fitsP .i64 x1495 ∧ fitsP .i64 (0 : Int) ∧ ifB ((decide (x1494 = 0)) && (decide (x1495 = 0))) (Wc prog tbl 17 [] m1441 (fun v1496 m1497 => 
 ∃ b1498 : Bool, (v1496 = (V.c (C.bool b1498))) ∧ Q (V.c (C.bool b1498)) m1497)) (Q (V.c (C.bool false)) m1441)) (Q (V.c (C.bool false)) m1441)) (ifB (decide (x26 = 0)) (∃ x1499, 
 ∃ x1500, ((ldA m1441 (C.ptr m23.nxt 0) 2) = (some [(Il x1499), 
 (Il x1500)])) ∧ ∃ x1501, ∃ x1502, ((ldA m1441 (C.ptr m1143.nxt 0) 2) = (some [(Il x1501), 
 (Il x1502)])) ∧ Wc prog tbl 36 [(V.agg 2 [(Il x1501), 
 (Il x1502)])] m1441 (fun v1503 m1504 => ∃ x1505, ∃ x1506, 
 (v1503 = (V.agg 2 [(Il x1505), (Il x1506)])) ∧ 
 ((ldA m1504 (C.ptr m23.nxt 0) 2) = (some [(Il x1499), 
 (Il x1500)])) ∧ fitsP .i64 x1499 ∧ fitsP .i64 x1505 ∧ 
 fitsP .i64 x1500 ∧ fitsP .i64 x1506 ∧ ifB ((decide (x1499 = x1505)) && (decide (x1500 = x1506))) (Wc prog tbl 17 [] m1504 (fun v1507 m1508 => 
 ∃ b1509 : Bool, (v1507 = (V.c (C.bool b1509))) ∧ Q (V.c (C.bool b1509)) m1508)) (Q (V.c (C.bool false)) m1504))) (Q (V.c (C.bool false)) m1441)))) → 
 R1438 [(V.c (Il x1439)), (V.c (Il x1440))] m1441) → 
 R1438 [(V.c (Il x34)), (V.c (Il 0))] m1437)) (∀ m1510 : M, 
 (m1510 = (M.new m1143 (AO.cells 2 [(Il 0), (Il 0)] false))) → 
 ∀ R1511 : List V → M → Prop, (∀ x1512 : Int, ∀ x1513 : Int, ∀ m1514 : M, 
 (isSl a200 ∧ ifB (decide (x1513 < (((slLen a200) : Nat) : Int))) (ifB (decide (x1512 = 0)) (∃ n1515 : Nat, 
 (x1513 = ((n1515 : Nat) : Int)) ∧ (n1515 < (slLen a200)) ∧ ∃ x1516, 
 ∃ x1517, ∃ x1518, ∃ x1519, ∃ x1520, ∃ x1521, 
 ((ldA m1514 (slAt a200 (n1515 * 6)) 6) = (some [(Il x1516), 
 (Il x1517), (Il x1518), (Il x1519), 
 (Il x1520), (Il x1521)])) ∧ Wc prog tbl 29 [(V.c a100), 
 (V.agg 6 [(Il x1516), (Il x1517), (Il x1518), 
 (Il x1519), (Il x1520), (Il x1521)])] m1514 (fun v1522 m1523 => 
 ∃ x1524, (v1522 = (V.c (Il x1524))) ∧ ifB (decide (x1524 = 0)) (∃ n1525 : Nat, 
 (x1513 = ((n1525 : Nat) : Int)) ∧ (n1525 < (slLen a200)) ∧ ∃ x1526, 
 ∃ x1527, ∃ x1528, ∃ x1529, ∃ x1530, ∃ x1531, 
 ((ldA m1523 (slAt a200 (n1525 * 6)) 6) = (some [(Il x1526), 
 (Il x1527), (Il x1528), (Il x1529), 
 (Il x1530), (Il x1531)])) ∧ Wc prog tbl 35 [(V.c a100), 
 (V.agg 6 [(Il x1526), (Il x1527), (Il x1528), 
 (Il x1529), (Il x1530), (Il x1531)])] m1523 (fun v1532 m1533 => 
 ∃ x1534, ∃ x1535, ∃ x1536, ∃ x1537, ∃ x1538, 
 ∃ x1539, (v1532 = (V.tup [(U.agg 2 [(Il x1534), (Il x1535)]), 
 (U.agg 2 [(Il x1536), (Il x1537)]), (U.agg 2 [(Il x1538), 
 (Il x1539)])])) ∧ ∀ m1540 : M, (m1540 = (M.new m1533 (AO.cells 2 [(Il 0), 
 (Il 0)] false))) → ∀ m1541 : M, (m1541 = (M.new m1540 (AO.cells 2 [(Il 0), 
 (Il 0)] false))) → ∀ m1542 : M, (m1542 = (M.new m1541 (AO.cells 2 [(Il 0), 
 (Il 0)] false))) → ∃ m1543 : M, ((stC m1542 (C.ptr m1533.nxt 0) 2 [(Il x1534), 
 (Il x1535)]) = (some m1543)) ∧ ∃ m1544 : M, ((stC m1543 (C.ptr m1540.nxt 0) 2 [(Il x1536), 
 (Il x1537)]) = (some m1544)) ∧ ∃ m1545 : M, ((stC m1544 (C.ptr m1541.nxt 0) 2 [(Il x1538), 
 (Il x1539)]) = (some m1545)) ∧ isPt (C.ptr m1143.nxt 0) ∧ 
 ∃ x1546, ((ldC m1545 (C.ptr m1143.nxt 0)) = (some (Il x1546))) ∧ 
 isPt (C.ptr m1533.nxt 0) ∧ ∃ x1547, ((ldC m1545 (C.ptr m1533.nxt 0)) = (some (Il x1547))) ∧ 
 fitsP .i64 (x1546 + x1547) ∧ isPt (C.ptr m1143.nxt 0) ∧ ∃ x1548, 
 ((ldC m1545 (C.ptr m1143.nxt 1)) = (some (Il x1548))) ∧ 
 isPt (C.ptr m1533.nxt 0) ∧ ∃ x1549, ((ldC m1545 (C.ptr m1533.nxt 1)) = (some (Il x1549))) ∧ 
 fitsP .i64 (x1548 + x1549) ∧ ∃ m1550 : M, ((stC m1545 (C.ptr m1143.nxt 0) 2 [(Il (x1546 + x1547)), 
 (Il (x1548 + x1549))]) = (some m1550)) ∧ fitsP .i64 (x1513 + 1) ∧ 
 R1511 [(V.c (Il x1524)), (V.c (Il (x1513 + 1)))] m1550)) (fitsP .i64 (x1513 + 1) ∧ 
 R1511 [(V.c (Il x1524)), (V.c (Il (x1513 + 1)))] m1523))) (ifB (!decide (x1512 = 0)) (ifB (decide (x26 = x1512)) (∃ x1551, 
 ∃ x1552, ((ldA m1514 (C.ptr m23.nxt 0) 2) = (some [(Il x1551), 
 (Il x1552)])) ∧ fitsP .i64 x1551 ∧ fitsP .i64 (0 : Int) ∧ 
 fitsP .i64 x1552 ∧ fitsP .i64 (0 : Int) ∧ ifB ((decide (x1551 = 0)) && (decide (x1552 = 0))) (Wc prog tbl 17 [] m1514 (fun v1553 m1554 => 
 ∃ b1555 : Bool, (v1553 = (V.c (C.bool b1555))) ∧ Q (V.c (C.bool b1555)) m1554)) (Q (V.c (C.bool false)) m1514)) (Q (V.c (C.bool false)) m1514)) (ifB (decide (x26 = 0)) (∃ x1556, 
 ∃ x1557, ((ldA m1514 (C.ptr m23.nxt 0) 2) = (some [(Il x1556), 
 (Il x1557)])) ∧ ∃ x1558, ∃ x1559, ((ldA m1514 (C.ptr m1143.nxt 0) 2) = (some [(Il x1558), 
 (Il x1559)])) ∧ Wc prog tbl 36 [(V.agg 2 [(Il x1558), 
 (Il x1559)])] m1514 (fun v1560 m1561 => ∃ x1562, ∃ x1563, 
 (v1560 = (V.agg 2 [(Il x1562), (Il x1563)])) ∧ 
 ((ldA m1561 (C.ptr m23.nxt 0) 2) = (some [(Il x1556), 
 (Il x1557)])) ∧ fitsP .i64 x1556 ∧ fitsP .i64 x1562 ∧ 
 fitsP .i64 x1557 ∧ fitsP .i64 x1563 ∧ ifB ((decide (x1556 = x1562)) && (decide (x1557 = x1563))) (Wc prog tbl 17 [] m1561 (fun v1564 m1565 => 
 ∃ b1566 : Bool, (v1564 = (V.c (C.bool b1566))) ∧ Q (V.c (C.bool b1566)) m1565)) (Q (V.c (C.bool false)) m1561))) (Q (V.c (C.bool false)) m1514)))) (ifB (!decide (x1512 = 0)) (ifB (decide (x26 = x1512)) (∃ x1567, 
 ∃ x1568, ((ldA m1514 (C.ptr m23.nxt 0) 2) = (some [(Il x1567), 
 (Il x1568)])) ∧ fitsP .i64 x1567 ∧ fitsP .i64 (0 : Int) ∧ 
 fitsP .i64 x1568 ∧ fitsP .i64 (0 : Int) ∧ ifB ((decide (x1567 = 0)) && (decide (x1568 = 0))) (Wc prog tbl 17 [] m1514 (fun v1569 m1570 => 
 ∃ b1571 : Bool, (v1569 = (V.c (C.bool b1571))) ∧ Q (V.c (C.bool b1571)) m1570)) (Q (V.c (C.bool false)) m1514)) (Q (V.c (C.bool false)) m1514)) (ifB (decide (x26 = 0)) (∃ x1572, 
 ∃ x1573, ((ldA m1514 (C.ptr m23.nxt 0) 2) = (some [(Il x1572), 
 (Il x1573)])) ∧ ∃ x1574, ∃ x1575, ((ldA m1514 (C.ptr m1143.nxt 0) 2) = (some [(Il x1574), 
 (Il x1575)])) ∧ Wc prog tbl 36 [(V.agg 2 [(Il x1574), 
 (Il x1575)])] m1514 (fun v1576 m1577 => ∃ x1578, ∃ x1579, 
 (v1576 = (V.agg 2 [(Il x1578), (Il x1579)])) ∧ 
 ((ldA m1577 (C.ptr m23.nxt 0) 2) = (some [(Il x1572), 
 (Il x1573)])) ∧ fitsP .i64 x1572 ∧ fitsP .i64 x1578 ∧ 
 fitsP .i64 x1573 ∧ fitsP .i64 x1579 ∧ ifB ((decide (x1572 = x1578)) && (decide (x1573 = x1579))) (Wc prog tbl 17 [] m1577 (fun v1580 m1581 => 
 ∃ b1582 : Bool, (v1580 = (V.c (C.bool b1582))) ∧ Q (V.c (C.bool b1582)) m1581)) (Q (V.c (C.bool false)) m1577))) (Q (V.c (C.bool false)) m1514)))) → 
 R1511 [(V.c (Il x1512)), (V.c (Il x1513))] m1514) → 
 R1511 [(V.c (Il x34)), (V.c (Il 0))] m1510)))))) (ifB (!decide (x15 = x31)) (Q (V.c (C.bool false)) m33) (ifB (!decide (x14 = 0)) (Q (V.c (C.bool false)) m33) (ifB (decide (x34 = 0)) (isSl a200 ∧ 
 ifB (decide ((5 : Int) < (((slLen a200) : Nat) : Int))) (∀ m1583 : M, (m1583 = (M.new m33 (AO.cells 2 [(Il 0), 
 (Il 0)] false))) → ∀ R1584 : List V → M → Prop, (∀ x1585 : Int, 
 ∀ x1586 : Int, ∀ m1587 : M, (isSl a200 ∧ ifB (decide (x1586 < (((slLen a200) : Nat) : Int))) (ifB (decide (x1585 = 0)) (∃ n1588 : Nat, 
 (x1586 = ((n1588 : Nat) : Int)) ∧ (n1588 < (slLen a200)) ∧ ∃ x1589, 
 ∃ x1590, ∃ x1591, ∃ x1592, ∃ x1593, ∃ x1594, 
 ((ldA m1587 (slAt a200 (n1588 * 6)) 6) = (some [(Il x1589), 
 (Il x1590), (Il x1591), (Il x1592), 
 (Il x1593), (Il x1594)])) ∧ Wc prog tbl 29 [(V.c a100), 
 (V.agg 6 [(Il x1589), (Il x1590), (Il x1591), 
 (Il x1592), (Il x1593), (Il x1594)])] m1587 (fun v1595 m1596 => 
 ∃ x1597, (v1595 = (V.c (Il x1597))) ∧ ifB (decide (x1597 = 0)) (∃ n1598 : Nat, 
 (x1586 = ((n1598 : Nat) : Int)) ∧ (n1598 < (slLen a200)) ∧ ∃ x1599, 
 ∃ x1600, ∃ x1601, ∃ x1602, ∃ x1603, ∃ x1604, 
 ((ldA m1596 (slAt a200 (n1598 * 6)) 6) = (some [(Il x1599), 
 (Il x1600), (Il x1601), (Il x1602), 
 (Il x1603), (Il x1604)])) ∧ Wc prog tbl 35 [(V.c a100), 
 (V.agg 6 [(Il x1599), (Il x1600), (Il x1601), 
 (Il x1602), (Il x1603), (Il x1604)])] m1596 (fun v1605 m1606 => 
 ∃ x1607, ∃ x1608, ∃ x1609, ∃ x1610, ∃ x1611, 
 ∃ x1612, (v1605 = (V.tup [(U.agg 2 [(Il x1607), (Il x1608)]), 
 (U.agg 2 [(Il x1609), (Il x1610)]), (U.agg 2 [(Il x1611), 
 (Il x1612)])])) ∧ ∀ m1613 : M, (m1613 = (M.new m1606 (AO.cells 2 [(Il 0), 
 (Il 0)] false))) → ∀ m1614 : M, (m1614 = (M.new m1613 (AO.cells 2 [(Il 0), 
 (Il 0)] false))) → ∀ m1615 : M, (m1615 = (M.new m1614 (AO.cells 2 [(Il 0), 
 (Il 0)] false))) → ∃ m1616 : M, ((stC m1615 (C.ptr m1606.nxt 0) 2 [(Il x1607), 
 (Il x1608)]) = (some m1616)) ∧ ∃ m1617 : M, ((stC m1616 (C.ptr m1613.nxt 0) 2 [(Il x1609), 
 (Il x1610)]) = (some m1617)) ∧ ∃ m1618 : M, ((stC m1617 (C.ptr m1614.nxt 0) 2 [(Il x1611), 
 (Il x1612)]) = (some m1618)) ∧ isPt (C.ptr m33.nxt 0) ∧ 
 ∃ x1619, ((ldC m1618 (C.ptr m33.nxt 0)) = (some (Il x1619))) ∧ 
 isPt (C.ptr m1606.nxt 0) ∧ ∃ x1620, ((ldC m1618 (C.ptr m1606.nxt 0)) = (some (Il x1620))) ∧ 
 fitsP .i64 (x1619 + x1620) ∧ isPt (C.ptr m33.nxt 0) ∧ ∃ x1621, 
 ((ldC m1618 (C.ptr m33.nxt 1)) = (some (Il x1621))) ∧ 
 isPt (C.ptr m1606.nxt 0) ∧ ∃ x1622, ((ldC m1618 (C.ptr m1606.nxt 1)) = (some (Il x1622))) ∧ 
 fitsP .i64 (x1621 + x1622) ∧ ∃ m1623 : M, ((stC m1618 (C.ptr m33.nxt 0) 2 [(Il (x1619 + x1620)), 
 (Il (x1621 + x1622))]) = (some m1623)) ∧ fitsP .i64 (x1586 + 1) ∧ 
 R1584 [(V.c (Il x1597)), (V.c (Il (x1586 + 1)))] m1623)) (fitsP .i64 (x1586 + 1) ∧ 
 R1584 [(V.c (Il x1597)), (V.c (Il (x1586 + 1)))] m1596))) (ifB (!decide (x1585 = 0)) (ifB (decide (x26 = x1585)) (∃ x1624, 
 ∃ x1625, ((ldA m1587 (C.ptr m23.nxt 0) 2) = (some [(Il x1624), 
 (Il x1625)])) ∧ fitsP .i64 x1624 ∧ fitsP .i64 (0 : Int) ∧ 
 fitsP .i64 x1625 ∧ fitsP .i64 (0 : Int) ∧ ifB ((decide (x1624 = 0)) && (decide (x1625 = 0))) (Wc prog tbl 17 [] m1587 (fun v1626 m1627 => 
 ∃ b1628 : Bool, (v1626 = (V.c (C.bool b1628))) ∧ Q (V.c (C.bool b1628)) m1627)) (Q (V.c (C.bool false)) m1587)) (Q (V.c (C.bool false)) m1587)) (ifB (decide (x26 = 0)) (∃ x1629, 
 ∃ x1630, ((ldA m1587 (C.ptr m23.nxt 0) 2) = (some [(Il x1629), 
 (Il x1630)])) ∧ ∃ x1631, ∃ x1632, ((ldA m1587 (C.ptr m33.nxt 0) 2) = (some [(Il x1631), 
 (Il x1632)])) ∧ Wc prog tbl 36 [(V.agg 2 [(Il x1631), 
 (Il x1632)])] m1587 (fun v1633 m1634 => ∃ x1635, ∃ x1636, 
 (v1633 = (V.agg 2 [(Il x1635), (Il x1636)])) ∧ 
 ((ldA m1634 (C.ptr m23.nxt 0) 2) = (some [(Il x1629), 
 (Il x1630)])) ∧ fitsP .i64 x1629 ∧ fitsP .i64 x1635 ∧ 
 fitsP .i64 x1630 ∧ fitsP .i64 x1636 ∧ ifB ((decide (x1629 = x1635)) && (decide (x1630 = x1636))) (Wc prog tbl 17 [] m1634 (fun v1637 m1638 => 
 ∃ b1639 : Bool, (v1637 = (V.c (C.bool b1639))) ∧ Q (V.c (C.bool b1639)) m1638)) (Q (V.c (C.bool false)) m1634))) (Q (V.c (C.bool false)) m1587)))) (ifB (!decide (x1585 = 0)) (ifB (decide (x26 = x1585)) (∃ x1640, 
 ∃ x1641, ((ldA m1587 (C.ptr m23.nxt 0) 2) = (some [(Il x1640), 
 (Il x1641)])) ∧ fitsP .i64 x1640 ∧ fitsP .i64 (0 : Int) ∧ 
 fitsP .i64 x1641 ∧ fitsP .i64 (0 : Int) ∧ ifB ((decide (x1640 = 0)) && (decide (x1641 = 0))) (Wc prog tbl 17 [] m1587 (fun v1642 m1643 => 
 ∃ b1644 : Bool, (v1642 = (V.c (C.bool b1644))) ∧ Q (V.c (C.bool b1644)) m1643)) (Q (V.c (C.bool false)) m1587)) (Q (V.c (C.bool false)) m1587)) (ifB (decide (x26 = 0)) (∃ x1645, 
 ∃ x1646, ((ldA m1587 (C.ptr m23.nxt 0) 2) = (some [(Il x1645), 
 (Il x1646)])) ∧ ∃ x1647, ∃ x1648, ((ldA m1587 (C.ptr m33.nxt 0) 2) = (some [(Il x1647), 
 (Il x1648)])) ∧ Wc prog tbl 36 [(V.agg 2 [(Il x1647), 
 (Il x1648)])] m1587 (fun v1649 m1650 => ∃ x1651, ∃ x1652, 
 (v1649 = (V.agg 2 [(Il x1651), (Il x1652)])) ∧ 
 ((ldA m1650 (C.ptr m23.nxt 0) 2) = (some [(Il x1645), 
 (Il x1646)])) ∧ fitsP .i64 x1645 ∧ fitsP .i64 x1651 ∧ 
 fitsP .i64 x1646 ∧ fitsP .i64 x1652 ∧ ifB ((decide (x1645 = x1651)) && (decide (x1646 = x1652))) (Wc prog tbl 17 [] m1650 (fun v1653 m1654 => 
 ∃ b1655 : Bool, (v1653 = (V.c (C.bool b1655))) ∧ Q (V.c (C.bool b1655)) m1654)) (Q (V.c (C.bool false)) m1650))) (Q (V.c (C.bool false)) m1587)))) → 
 R1584 [(V.c (Il x1585)), (V.c (Il x1586))] m1587) → 
 R1584 [(V.c (Il (3 : Int))), (V.c (Il 0))] m1583) (∀ m1656 : M, 
 (m1656 = (M.new m33 (AO.cells 2 [(Il 0), (Il 0)] false))) → 
 ∀ R1657 : List V → M → Prop, (∀ x1658 : Int, ∀ x1659 : Int, ∀ m1660 : M, 
 (isSl a200 ∧ ifB (decide (x1659 < (((slLen a200) : Nat) : Int))) (ifB (decide (x1658 = 0)) (∃ n1661 : Nat, 
 (x1659 = ((n1661 : Nat) : Int)) ∧ (n1661 < (slLen a200)) ∧ ∃ x1662, 
 ∃ x1663, ∃ x1664, ∃ x1665, ∃ x1666, ∃ x1667, 
 ((ldA m1660 (slAt a200 (n1661 * 6)) 6) = (some [(Il x1662), 
 (Il x1663), (Il x1664), (Il x1665), 
 (Il x1666), (Il x1667)])) ∧ Wc prog tbl 29 [(V.c a100), 
 (V.agg 6 [(Il x1662), (Il x1663), (Il x1664), 
 (Il x1665), (Il x1666), (Il x1667)])] m1660 (fun v1668 m1669 => 
 ∃ x1670, (v1668 = (V.c (Il x1670))) ∧ ifB (decide (x1670 = 0)) (∃ n1671 : Nat, 
 (x1659 = ((n1671 : Nat) : Int)) ∧ (n1671 < (slLen a200)) ∧ ∃ x1672, 
 ∃ x1673, ∃ x1674, ∃ x1675, ∃ x1676, ∃ x1677, 
 ((ldA m1669 (slAt a200 (n1671 * 6)) 6) = (some [(Il x1672), 
 (Il x1673), (Il x1674), (Il x1675), 
 (Il x1676), (Il x1677)])) ∧ Wc prog tbl 35 [(V.c a100), 
 (V.agg 6 [(Il x1672), (Il x1673), (Il x1674), 
 (Il x1675), (Il x1676), (Il x1677)])] m1669 (fun v1678 m1679 => 
 ∃ x1680, ∃ x1681, ∃ x1682, ∃ x1683, ∃ x1684, 
 ∃ x1685, (v1678 = (V.tup [(U.agg 2 [(Il x1680), (Il x1681)]), 
 (U.agg 2 [(Il x1682), (Il x1683)]), (U.agg 2 [(Il x1684), 
 (Il x1685)])])) ∧ ∀ m1686 : M, (m1686 = (M.new m1679 (AO.cells 2 [(Il 0), 
 (Il 0)] false))) → ∀ m1687 : M, (m1687 = (M.new m1686 (AO.cells 2 [(Il 0), 
 (Il 0)] false))) → ∀ m1688 : M, (m1688 = (M.new m1687 (AO.cells 2 [(Il 0), 
 (Il 0)] false))) → ∃ m1689 : M, ((stC m1688 (C.ptr m1679.nxt 0) 2 [(Il x1680), 
 (Il x1681)]) = (some m1689)) ∧ ∃ m1690 : M, ((stC m1689 (C.ptr m1686.nxt 0) 2 [(Il x1682), 
 (Il x1683)]) = (some m1690)) ∧ ∃ m1691 : M, ((stC m1690 (C.ptr m1687.nxt 0) 2 [(Il x1684), 
 (Il x1685)]) = (some m1691)) ∧ isPt (C.ptr m33.nxt 0) ∧ 
 ∃ x1692, ((ldC m1691 (C.ptr m33.nxt 0)) = (some (Il x1692))) ∧ 
 isPt (C.ptr m1679.nxt 0) ∧ ∃ x1693, ((ldC m1691 (C.ptr m1679.nxt 0)) = (some (Il x1693))) ∧ 
 fitsP .i64 (x1692 + x1693) ∧ isPt (C.ptr m33.nxt 0) ∧ ∃ x1694, 
 ((ldC m1691 (C.ptr m33.nxt 1)) = (some (Il x1694))) ∧ 
 isPt (C.ptr m1679.nxt 0) ∧ ∃ x1695, ((ldC m1691 (C.ptr m1679.nxt 1)) = (some (Il x1695))) ∧ 
 fitsP .i64 (x1694 + x1695) ∧ ∃ m1696 : M, ((stC m1691 (C.ptr m33.nxt 0) 2 [(Il (x1692 + x1693)), 
 (Il (x1694 + x1695))]) = (some m1696)) ∧ fitsP .i64 (x1659 + 1) ∧ 
 R1657 [(V.c (Il x1670)), (V.c (Il (x1659 + 1)))] m1696)) (fitsP .i64 (x1659 + 1) ∧ 
 R1657 [(V.c (Il x1670)), (V.c (Il (x1659 + 1)))] m1669))) (ifB (!decide (x1658 = 0)) (ifB (decide (x26 = x1658)) (∃ x1697, 
 ∃ x1698, ((ldA m1660 (C.ptr m23.nxt 0) 2) = (some [(Il x1697), 
 (Il x1698)])) ∧ fitsP .i64 x1697 ∧ fitsP .i64 (0 : Int) ∧ 
 fitsP .i64 x1698 ∧ fitsP .i64 (0 : Int) ∧ ifB ((decide (x1697 = 0)) && (decide (x1698 = 0))) (Wc prog tbl 17 [] m1660 (fun v1699 m1700 => 
 ∃ b1701 : Bool, (v1699 = (V.c (C.bool b1701))) ∧ Q (V.c (C.bool b1701)) m1700)) (Q (V.c (C.bool false)) m1660)) (Q (V.c (C.bool false)) m1660)) (ifB (decide (x26 = 0)) (∃ x1702, 
 ∃ x1703, ((ldA m1660 (C.ptr m23.nxt 0) 2) = (some [(Il x1702), 
 (Il x1703)])) ∧ ∃ x1704, ∃ x1705, ((ldA m1660 (C.ptr m33.nxt 0) 2) = (some [(Il x1704), 
 (Il x1705)])) ∧ Wc prog tbl 36 [(V.agg 2 [(Il x1704), 
 (Il x1705)])] m1660 (fun v1706 m1707 => ∃ x1708, ∃ x1709, 
 (v1706 = (V.agg 2 [(Il x1708), (Il x1709)])) ∧ 
 ((ldA m1707 (C.ptr m23.nxt 0) 2) = (some [(Il x1702), 
 (Il x1703)])) ∧ fitsP .i64 x1702 ∧ fitsP .i64 x1708 ∧ 
 fitsP .i64 x1703 ∧ fitsP .i64 x1709 ∧ ifB ((decide (x1702 = x1708)) && (decide (x1703 = x1709))) (Wc prog tbl 17 [] m1707 (fun v1710 m1711 => 
 ∃ b1712 : Bool, (v1710 = (V.c (C.bool b1712))) ∧ Q (V.c (C.bool b1712)) m1711)) (Q (V.c (C.bool false)) m1707))) (Q (V.c (C.bool false)) m1660)))) (ifB (!decide (x1658 = 0)) (ifB (decide (x26 = x1658)) (∃ x1713, 
 ∃ x1714, ((ldA m1660 (C.ptr m23.nxt 0) 2) = (some [(Il x1713), 
 (Il x1714)])) ∧ fitsP .i64 x1713 ∧ fitsP .i64 (0 : Int) ∧ 
 fitsP .i64 x1714 ∧ fitsP .i64 (0 : Int) ∧ ifB ((decide (x1713 = 0)) && (decide (x1714 = 0))) (Wc prog tbl 17 [] m1660 (fun v1715 m1716 => 
 ∃ b1717 : Bool, (v1715 = (V.c (C.bool b1717))) ∧ Q (V.c (C.bool b1717)) m1716)) (Q (V.c (C.bool false)) m1660)) (Q (V.c (C.bool false)) m1660)) (ifB (decide (x26 = 0)) (∃ x1718, 
 ∃ x1719, ((ldA m1660 (C.ptr m23.nxt 0) 2) = (some [(Il x1718), 
 (Il x1719)])) ∧ ∃ x1720, ∃ x1721, ((ldA m1660 (C.ptr m33.nxt 0) 2) = (some [(Il x1720), 
 (Il x1721)])) ∧ Wc prog tbl 36 [(V.agg 2 [(Il x1720), 
 (Il x1721)])] m1660 (fun v1722 m1723 => ∃ x1724, ∃ x1725, 
 (v1722 = (V.agg 2 [(Il x1724), (Il x1725)])) ∧ 
 ((ldA m1723 (C.ptr m23.nxt 0) 2) = (some [(Il x1718), 
 (Il x1719)])) ∧ fitsP .i64 x1718 ∧ fitsP .i64 x1724 ∧ 
 fitsP .i64 x1719 ∧ fitsP .i64 x1725 ∧ ifB ((decide (x1718 = x1724)) && (decide (x1719 = x1725))) (Wc prog tbl 17 [] m1723 (fun v1726 m1727 => 
 ∃ b1728 : Bool, (v1726 = (V.c (C.bool b1728))) ∧ Q (V.c (C.bool b1728)) m1727)) (Q (V.c (C.bool false)) m1723))) (Q (V.c (C.bool false)) m1660)))) → 
 R1657 [(V.c (Il x1658)), (V.c (Il x1659))] m1660) → 
 R1657 [(V.c (Il x34)), (V.c (Il 0))] m1656)) (∀ m1729 : M, 
 (m1729 = (M.new m33 (AO.cells 2 [(Il 0), (Il 0)] false))) → 
 ∀ R1730 : List V → M → Prop, (∀ x1731 : Int, ∀ x1732 : Int, ∀ m1733 : M, 
 (isSl a200 ∧ ifB (decide (x1732 < (((slLen a200) : Nat) : Int))) (ifB (decide (x1731 = 0)) (∃ n1734 : Nat, 
 (x1732 = ((n1734 : Nat) : Int)) ∧ (n1734 < (slLen a200)) ∧ ∃ x1735, 
 ∃ x1736, ∃ x1737, ∃ x1738, ∃ x1739, ∃ x1740, 
 ((ldA m1733 (slAt a200 (n1734 * 6)) 6) = (some [(Il x1735), 
 (Il x1736), (Il x1737), (Il x1738), 
 (Il x1739), (Il x1740)])) ∧ Wc prog tbl 29 [(V.c a100), 
 (V.agg 6 [(Il x1735), (Il x1736), (Il x1737), 
 (Il x1738), (Il x1739), (Il x1740)])] m1733 (fun v1741 m1742 => 
 ∃ x1743, (v1741 = (V.c (Il x1743))) ∧ ifB (decide (x1743 = 0)) (∃ n1744 : Nat, 
 (x1732 = ((n1744 : Nat) : Int)) ∧ (n1744 < (slLen a200)) ∧ ∃ x1745, 
 ∃ x1746, ∃ x1747, ∃ x1748, ∃ x1749, ∃ x1750, 
 ((ldA m1742 (slAt a200 (n1744 * 6)) 6) = (some [(Il x1745), 
 (Il x1746), (Il x1747), (Il x1748), 
 (Il x1749), (Il x1750)])) ∧ Wc prog tbl 35 [(V.c a100), 
 (V.agg 6 [(Il x1745), (Il x1746), (Il x1747), 
 (Il x1748), (Il x1749), (Il x1750)])] m1742 (fun v1751 m1752 => 
 ∃ x1753, ∃ x1754, ∃ x1755, ∃ x1756, ∃ x1757, 
 ∃ x1758, (v1751 = (V.tup [(U.agg 2 [(Il x1753), (Il x1754)]), 
 (U.agg 2 [(Il x1755), (Il x1756)]), (U.agg 2 [(Il x1757), 
 (Il x1758)])])) ∧ ∀ m1759 : M, (m1759 = (M.new m1752 (AO.cells 2 [(Il 0), 
 (Il 0)] false))) → ∀ m1760 : M, (m1760 = (M.new m1759 (AO.cells 2 [(Il 0), 
 (Il 0)] false))) → ∀ m1761 : M, (m1761 = (M.new m1760 (AO.cells 2 [(Il 0), 
 (Il 0)] false))) → ∃ m1762 : M, ((stC m1761 (C.ptr m1752.nxt 0) 2 [(Il x1753), 
 (Il x1754)]) = (some m1762)) ∧ ∃ m1763 : M, ((stC m1762 (C.ptr m1759.nxt 0) 2 [(Il x1755), 
 (Il x1756)]) = (some m1763)) ∧ ∃ m1764 : M, ((stC m1763 (C.ptr m1760.nxt 0) 2 [(Il x1757), 
 (Il x1758)]) = (some m1764)) ∧ isPt (C.ptr m33.nxt 0) ∧ 
 ∃ x1765, ((ldC m1764 (C.ptr m33.nxt 0)) = (some (Il x1765))) ∧ 
 isPt (C.ptr m1752.nxt 0) ∧ ∃ x1766, ((ldC m1764 (C.ptr m1752.nxt 0)) = (some (Il x1766))) ∧ 
 fitsP .i64 (x1765 + x1766) ∧ isPt (C.ptr m33.nxt 0) ∧ ∃ x1767, 
 ((ldC m1764 (C.ptr m33.nxt 1)) = (some (Il x1767))) ∧ 
 isPt (C.ptr m1752.nxt 0) ∧ ∃ x1768, ((ldC m1764 (C.ptr m1752.nxt 1)) = (some (Il x1768))) ∧ 
 fitsP .i64 (x1767 + x1768) ∧ ∃ m1769 : M, ((stC m1764 (C.ptr m33.nxt 0) 2 [(Il (x1765 + x1766)), 
 (Il (x1767 + x1768))]) = (some m1769)) ∧ fitsP .i64 (x1732 + 1) ∧ 
 R1730 [(V.c (Il x1743)), (V.c (Il (x1732 + 1)))] m1769)) (fitsP .i64 (x1732 + 1) ∧ 
 R1730 [(V.c (Il x1743)), (V.c (Il (x1732 + 1)))] m1742))) (ifB (!decide (x1731 = 0)) (ifB (decide (x26 = x1731)) (∃ x1770, 
 ∃ x1771, ((ldA m1733 (C.ptr m23.nxt 0) 2) = (some [(Il x1770), 
 (Il x1771)])) ∧ fitsP .i64 x1770 ∧ fitsP .i64 (0 : Int) ∧ 
 fitsP .i64 x1771 ∧ fitsP .i64 (0 : Int) ∧ ifB ((decide (x1770 = 0)) && (decide (x1771 = 0))) (Wc prog tbl 17 [] m1733 (fun v1772 m1773 => 
 ∃ b1774 : Bool, (v1772 = (V.c (C.bool b1774))) ∧ Q (V.c (C.bool b1774)) m1773)) (Q (V.c (C.bool false)) m1733)) (Q (V.c (C.bool false)) m1733)) (ifB (decide (x26 = 0)) (∃ x1775, 
 ∃ x1776, ((ldA m1733 (C.ptr m23.nxt 0) 2) = (some [(Il x1775), 
 (Il x1776)])) ∧ ∃ x1777, ∃ x1778, ((ldA m1733 (C.ptr m33.nxt 0) 2) = (some [(Il x1777), 
 (Il x1778)])) ∧ Wc prog tbl 36 [(V.agg 2 [(Il x1777), 
 (Il x1778)])] m1733 (fun v1779 m1780 => ∃ x1781, ∃ x1782, 
 (v1779 = (V.agg 2 [(Il x1781), (Il x1782)])) ∧ 
 ((ldA m1780 (C.ptr m23.nxt 0) 2) = (some [(Il x1775), 
 (Il x1776)])) ∧ fitsP .i64 x1775 ∧ fitsP .i64 x1781 ∧ 
 fitsP .i64 x1776 ∧ fitsP .i64 x1782 ∧ ifB ((decide (x1775 = x1781)) && (decide (x1776 = x1782))) (Wc prog tbl 17 [] m1780 (fun v1783 m1784 => 
 ∃ b1785 : Bool, (v1783 = (V.c (C.bool b1785))) ∧ Q (V.c (C.bool b1785)) m1784)) (Q (V.c (C.bool false)) m1780))) (Q (V.c (C.bool false)) m1733)))) (ifB (!decide (x1731 = 0)) (ifB (decide (x26 = x1731)) (∃ x1786, 
 ∃ x1787, ((ldA m1733 (C.ptr m23.nxt 0) 2) = (some [(Il x1786), 
 (Il x1787)])) ∧ fitsP .i64 x1786 ∧ fitsP .i64 (0 : Int) ∧ 
 fitsP .i64 x1787 ∧ fitsP .i64 (0 : Int) ∧ ifB ((decide (x1786 = 0)) && (decide (x1787 = 0))) (Wc prog tbl 17 [] m1733 (fun v1788 m1789 => 
 ∃ b1790 : Bool, (v1788 = (V.c (C.bool b1790))) ∧ Q (V.c (C.bool b1790)) m1789)) (Q (V.c (C.bool false)) m1733)) (Q (V.c (C.bool false)) m1733)) (ifB (decide (x26 = 0)) (∃ x1791, 
 ∃ x1792, ((ldA m1733 (C.ptr m23.nxt 0) 2) = (some [(Il x1791), 
 (Il x1792)])) ∧ ∃ x1793, ∃ x1794, ((ldA m1733 (C.ptr m33.nxt 0) 2) = (some [(Il x1793), 
 (Il x1794)])) ∧ Wc prog tbl 36 [(V.agg 2 [(Il x1793), 
 (Il x1794)])] m1733 (fun v1795 m1796 => ∃ x1797, ∃ x1798, 
 (v1795 = (V.agg 2 [(Il x1797), (Il x1798)])) ∧ 
 ((ldA m1796 (C.ptr m23.nxt 0) 2) = (some [(Il x1791), 
 (Il x1792)])) ∧ fitsP .i64 x1791 ∧ fitsP .i64 x1797 ∧ 
 fitsP .i64 x1792 ∧ fitsP .i64 x1798 ∧ ifB ((decide (x1791 = x1797)) && (decide (x1792 = x1798))) (Wc prog tbl 17 [] m1796 (fun v1799 m1800 => 
 ∃ b1801 : Bool, (v1799 = (V.c (C.bool b1801))) ∧ Q (V.c (C.bool b1801)) m1800)) (Q (V.c (C.bool false)) m1796))) (Q (V.c (C.bool false)) m1733)))) → 
 R1730 [(V.c (Il x1731)), (V.c (Il x1732))] m1733) → 
 R1730 [(V.c (Il x34)), (V.c (Il 0))] m1729))))))))))))))))) : Wc prog tbl 6 [(V.c a100), (V.c a200), (V.c (Il a300)), (V.c (Il a400))] m Q :=
 wc_eq (n := 4) rfl (by kernel_rfl) (by kernel_rfl) h
end
end Go.Proofs.Ytbhdgedghfibcaa

namespace Go.Proofs.Ytbhdgedghfibcaa
open _root_.Go.Proofs.Try
open Go.Abs
set_option maxRecDepth 100000
noncomputable section
theorem c104 {a100 : Int} {a101 : Bool} {a102 : Int} {a103 : C} {a104 : C} {a105 : C} {b0 : Nat} {m : M} {Q : V → M → Prop} (h :
 (∀ m0 : M, (m0 = (M.new m (AO.cells 6 [(Il a100), (C.bool a101), (Il a102), a103, 
 a104, a105] false))) → ∃ c1 : C, ((ldC m0 (C.ptr b0 0)) = (some c1)) ∧ ∃ x2, ∃ b3 : Bool, 
 ∃ x4, ∃ c5 : C, ∃ c6 : C, ∃ c7 : C, ((ldA m0 (C.ptr m.nxt 0) 6) = (some [(Il x2), 
 (C.bool b3), (Il x4), c5, c6, c7])) ∧ callP prog tbl [(V.agg 6 [(Il x2), 
 (C.bool b3), (Il x4), c5, c6, c7])] c1 m0 (fun v8 m9 => ∃ b10 : Bool, (v8 = (V.c (C.bool b10))) ∧ 
 Q (V.c (C.bool (!b10))) m9))) : Wc prog tbl 104 [.agg 6 [Il a100, .bool a101, Il a102, a103, a104, a105], .c (.ptr b0 0)] m Q :=
 wc_eq (n := 2) rfl (by kernel_rfl) (by kernel_rfl) h
theorem c110 {a100 : Int} {a101 : Int} {a102 : Int} {a103 : Int} {a104 : Int} {a105 : Int} {b0 : Nat} {m : M} {Q : V → M → Prop} (h :
 (∀ m0 : M, (m0 = (M.new m (AO.cells 6 [(Il a100), (Il a101), (Il a102), 
 (Il a103), (Il a104), (Il a105)] false))) → ∃ c1 : C, ((ldC m0 (C.ptr b0 0)) = (some c1)) ∧ 
 ∃ x2, ∃ x3, ∃ x4, ∃ x5, ∃ x6, ∃ x7, ((ldA m0 (C.ptr m.nxt 0) 6) = (some [(Il x2), 
 (Il x3), (Il x4), (Il x5), (Il x6), 
 (Il x7)])) ∧ callP prog tbl [(V.agg 6 [(Il x2), (Il x3), 
 (Il x4), (Il x5), (Il x6), (Il x7)])] c1 m0 (fun v8 m9 => 
 ∃ b10 : Bool, (v8 = (V.c (C.bool b10))) ∧ Q (V.c (C.bool (!b10))) m9))) : Wc prog tbl 110 [.agg 6 [Il a100, Il a101, Il a102, Il a103, Il a104, Il a105], .c (.ptr b0 0)] m Q :=
 wc_eq (n := 2) rfl (by kernel_rfl) (by kernel_rfl) h
theorem c121 {a100 : Int} {b0 : Nat} {m : M} {Q : V → M → Prop} (h :
 (∃ c0 : C, ((ldC m (C.ptr b0 0)) = (some c0)) ∧ callP prog tbl [(V.c (Il a100))] c0 m (fun v1 m2 => 
 ∃ b3 : Bool, (v1 = (V.c (C.bool b3))) ∧ Q (V.c (C.bool (!b3))) m2))) : Wc prog tbl 121 [.c (Il a100), .c (.ptr b0 0)] m Q :=
 wc_eq (n := 2) rfl (by kernel_rfl) (by kernel_rfl) h
theorem c134 {a100 : C} {b0 : Nat} {m : M} {Q : V → M → Prop} (h :
 (∃ c0 : C, ((ldC m (C.ptr b0 0)) = (some c0)) ∧ callP prog tbl [(V.c a100)] c0 m (fun v1 m2 => ∃ b3 : Bool, 
 (v1 = (V.c (C.bool b3))) ∧ Q (V.c (C.bool (!b3))) m2))) : Wc prog tbl 134 [.c (a100), .c (.ptr b0 0)] m Q :=
 wc_eq (n := 2) rfl (by kernel_rfl) (by kernel_rfl) h
theorem c123 {a100 : C} {b0 : Nat} {m : M} {Q : V → M → Prop} (h :
 (∃ c0 : C, ((ldC m (C.ptr b0 0)) = (some c0)) ∧ callP prog tbl [(V.c a100)] c0 m (fun v1 m2 => ∃ b3 : Bool, 
 (v1 = (V.c (C.bool b3))) ∧ Q (V.c (C.bool (!b3))) m2))) : Wc prog tbl 123 [.c (a100), .c (.ptr b0 0)] m Q :=
 wc_eq (n := 2) rfl (by kernel_rfl) (by kernel_rfl) h
theorem c94 {a100 : C} {b0 : Nat} {m : M} {Q : V → M → Prop} (h :
 (isPt (C.ptr b0 0) ∧ isPt (C.ptr b0 2) ∧ ∃ x0, ((ldC m (C.ptr b0 2)) = (some (Il x0))) ∧ 
 ∀ R1 : List V → M → Prop, (∀ x2 : Int, ∀ m3 : M, (isPt (C.ptr b0 0) ∧ isPt (C.ptr b0 2) ∧ ∃ x4, 
 ((ldC m3 (C.ptr b0 3)) = (some (Il x4))) ∧ ifB (decide (x2 ≤ x4)) (isPt (C.ptr b0 0) ∧ 
 isPt (C.ptr b0 4) ∧ ∃ x5, ((ldC m3 (C.ptr b0 4)) = (some (Il x5))) ∧ 
 ∀ R6 : List V → M → Prop, (∀ x7 : Int, ∀ m8 : M, (isPt (C.ptr b0 0) ∧ isPt (C.ptr b0 4) ∧ 
 ∃ x9, ((ldC m8 (C.ptr b0 5)) = (some (Il x9))) ∧ ifB (decide (x7 ≤ x9)) (callP prog tbl [(V.agg 2 [(Il x2), 
 (Il x7)])] a100 m8 (fun v10 m11 => ∃ b12 : Bool, (v10 = (V.c (C.bool b12))) ∧ 
 ifB (!b12) (Q (V.tup []) m11) (fitsP .i64 (x7 + 1) ∧ R6 [(V.c (Il (x7 + 1)))] m11))) (fitsP .i64 (x2 + 1) ∧ 
 R1 [(V.c (Il (x2 + 1)))] m8)) → R6 [(V.c (Il x7))] m8) → 
 R6 [(V.c (Il x5))] m3) (Q (V.tup []) m3)) → R1 [(V.c (Il x2))] m3) → 
 R1 [(V.c (Il x0))] m)) : Wc prog tbl 94 [.c (a100), .c (.ptr b0 0)] m Q :=
 wc_eq (n := 2) rfl (by kernel_rfl) (by kernel_rfl) h
end
end Go.Proofs.Ytbhdgedghfibcaa

