/- An evaluator of the code of a program, its soundness, what calls ask, memory, and what functions of the program do. Condition: none; a lemma text of this claim. -/
import Derived.Test.YtbhdgedghfibcaaGreatMbE
import GoSem.Step
import GoSem.ClaimKeys
import Derived.DeepKeys2
import Derived.RangeFuncLeaves
import Derived.OrdersIn
import Derived.Laws.World
import Derived.Laws.Sem
import Derived.RangeFuncRecord
import Derived.Laws.CopyRow
import Derived.Laws.Append
import Derived.Laws.Rows
import Derived.Laws.Slices
import Derived.Laws.Entries
import Derived.ChangeKeysEq
import Derived.IntWalk
import Derived.DeepKeys
import Derived.DeepKeys3
import Derived.Laws.StructEq
import Derived.MapKept
import Derived.Laws.AppendOwn
import Derived.ChangeArms
import Derived.ChangeOld
import Derived.Carry
import Derived.ChangeShapes
import Derived.KernelRfl
import Derived.ProofKit

namespace Go.Proofs.YtbhdgedghfibcaaGreat
open _root_.Go.Proofs.Tryz
open Go.Abs
set_option maxRecDepth 100000
noncomputable section
structure Fl where
  a0 : Bool
  a1 : Bool
  a2 : Bool
  a3 : Bool
  a4 : Bool
instance : MK Fl := ⟨fun k => .agg 5 [.bool k.a0, .bool k.a1, .bool k.a2, .bool k.a3, .bool k.a4], fun k => True⟩
instance : MV Fl := ⟨fun k => .agg 5 [.bool k.a0, .bool k.a1, .bool k.a2, .bool k.a3, .bool k.a4]⟩
instance : Rp Fl := ⟨5, by omega, fun _ cs a => cs = [.bool a.a0, .bool a.a1, .bool a.a2, .bool a.a3, .bool a.a4], fun h => by rw [h]; rfl, fun h _ => h⟩
structure Rg where
  Lo : Int
  Hi : Int
instance : MK Rg := ⟨fun k => .agg 2 [.int .i64 k.Lo, .int .i64 k.Hi], fun k => fitsP .i64 k.Lo ∧ fitsP .i64 k.Hi ∧ True⟩
instance : MV Rg := ⟨fun k => .agg 2 [.int .i64 k.Lo, .int .i64 k.Hi]⟩
instance : Rp Rg := ⟨2, by omega, fun _ cs a => cs = [.int .i64 a.Lo, .int .i64 a.Hi], fun h => by rw [h]; rfl, fun h _ => h⟩
structure Tf where
  From : Int
  Whole : Bool
  Least : Int
  Weeks : List Int
  Counts : List Int
  Rates : List (List (List Int))
def ok_Tf (a : Tf) : Prop := (fitsP .i64 a.From) ∧ (True) ∧ (fitsP .i64 a.Least) ∧ (a.Weeks.length ≤ maxLen ∧ ∀ a0 ∈ a.Weeks, fitsP .i64 a0) ∧ (a.Counts.length ≤ maxLen ∧ ∀ a0 ∈ a.Counts, fitsP .i64 a0) ∧ (a.Rates.length ≤ maxLen ∧ ∀ a0 ∈ a.Rates, a0.length ≤ maxLen ∧ ∀ a1 ∈ a0, a1.length ≤ maxLen ∧ ∀ a2 ∈ a1, fitsP .i64 a2)
instance : Rp Tf := ⟨6, by omega, fun f cs a => ∃ c3 c4 c5 : C, cs = [.int .i64 a.From, .bool a.Whole, .int .i64 a.Least, c3, c4, c5] ∧ Sl f c3 a.Weeks ∧ Sl f c4 a.Counts ∧ Sl f c5 a.Rates, fun h => by obtain ⟨c3, c4, c5, h, _, _, _⟩ := h; rw [h]; rfl, fun h s => by obtain ⟨c3, c4, c5, h, h0, h1, h2⟩ := h; exact ⟨c3, c4, c5, h, h0.subv s, h1.subv s, h2.subv s⟩⟩
theorem rd_Tf {f : M} {x : C} {l : List Tf} (h : Sl f x l) {n : Nat} {a : Tf} (hi : l[n]? = some a) : ∃ c3 c4 c5 : C, (∀ m, Sub f m → ldA m (slAt x (n * 6)) 6 = some [.int .i64 a.From, .bool a.Whole, .int .i64 a.Least, c3, c4, c5] ∧ (∀ j c, ([.int .i64 a.From, .bool a.Whole, .int .i64 a.Least, c3, c4, c5] : List C)[j]? = some c → ldC m (ptAdd (slAt x (n * 6)) j) = some c) ∧ ∀ j i, 0 < i → j + i ≤ 6 → ldA m (ptAdd (slAt x (n * 6)) j) i = some ((([.int .i64 a.From, .bool a.Whole, .int .i64 a.Least, c3, c4, c5] : List C).drop j).take i)) ∧ Sl f c3 a.Weeks ∧ Sl f c4 a.Counts ∧ Sl f c5 a.Rates := by
  obtain ⟨cs, q1, q2⟩ := h.rdP hi
  obtain ⟨c3, c4, c5, rfl, z0, z1, z2⟩ := q2
  exact ⟨c3, c4, c5, q1, z0, z1, z2⟩
structure Clm where
  Crop : Int
  Value : Int
  Day : Rg
  Count : Rg
instance : MK Clm := ⟨fun k => .agg 6 [.int .i64 k.Crop, .int .i64 k.Value, .int .i64 k.Day.Lo, .int .i64 k.Day.Hi, .int .i64 k.Count.Lo, .int .i64 k.Count.Hi], fun k => fitsP .i64 k.Crop ∧ fitsP .i64 k.Value ∧ fitsP .i64 k.Day.Lo ∧ fitsP .i64 k.Day.Hi ∧ fitsP .i64 k.Count.Lo ∧ fitsP .i64 k.Count.Hi ∧ True⟩
instance : MV Clm := ⟨fun k => .agg 6 [.int .i64 k.Crop, .int .i64 k.Value, .int .i64 k.Day.Lo, .int .i64 k.Day.Hi, .int .i64 k.Count.Lo, .int .i64 k.Count.Hi]⟩
instance : Rp Clm := ⟨6, by omega, fun _ cs a => cs = [.int .i64 a.Crop, .int .i64 a.Value, .int .i64 a.Day.Lo, .int .i64 a.Day.Hi, .int .i64 a.Count.Lo, .int .i64 a.Count.Hi], fun h => by rw [h]; rfl, fun h _ => h⟩
structure Tr where
  Day : Int
  Count : Int
instance : MK Tr := ⟨fun k => .agg 2 [.int .i64 k.Day, .int .i64 k.Count], fun k => fitsP .i64 k.Day ∧ fitsP .i64 k.Count ∧ True⟩
instance : MV Tr := ⟨fun k => .agg 2 [.int .i64 k.Day, .int .i64 k.Count]⟩
instance : Rp Tr := ⟨2, by omega, fun _ cs a => cs = [.int .i64 a.Day, .int .i64 a.Count], fun h => by rw [h]; rfl, fun h _ => h⟩
structure Ht where
  Day : Int
  Count : Int
  crop : Int
instance : MK Ht := ⟨fun k => .agg 3 [.int .i64 k.Day, .int .i64 k.Count, .int .i64 k.crop], fun k => fitsP .i64 k.Day ∧ fitsP .i64 k.Count ∧ fitsP .i64 k.crop ∧ True⟩
instance : MV Ht := ⟨fun k => .agg 3 [.int .i64 k.Day, .int .i64 k.Count, .int .i64 k.crop]⟩
instance : Rp Ht := ⟨3, by omega, fun _ cs a => cs = [.int .i64 a.Day, .int .i64 a.Count, .int .i64 a.crop], fun h => by rw [h]; rfl, fun h _ => h⟩
structure Wk where
  tariffs : List Tf
  parts : Option (Ht → Option (Int))
def pawake : Option Bool := some true
def prIn (n : Int) (low : Int) (high : Int) : Option (Bool) := (if low ≤ n then (some (decide (n ≤ high))) else (some false))
def prRises_L0 (l : List Int) (most : Int) : Nat → Int → Option (Bool)
  | 0, _ => none
  | d4 + 1, x2 => (if x2 < (l.length : Int) then ((idx l x2).bind fun x6 => ((prIn x6 (0 : Int) most).bind fun r8 => (if r8 = true then (if (0 : Int) < x2 then ((idx l x2).bind fun x15 => (gd (fitsP .i64 (x2 - (1 : Int))) ((idx l (x2 - (1 : Int))).bind fun x18 => (if x15 ≤ x18 then (some false) else (gd (fitsP .i64 (x2 + (1 : Int))) (prRises_L0 l most d4 (x2 + (1 : Int)))))))) else (gd (fitsP .i64 (x2 + (1 : Int))) (prRises_L0 l most d4 (x2 + (1 : Int))))) else (some false)))) else (if (0 : Int) < (l.length : Int) then ((idx l (0 : Int)).bind fun x24 => (some (decide (x24 = (0 : Int))))) else (some false)))
def prRises (l : List Int) (most : Int) : Option (Bool) := (prRises_L0 l most (l.length + 1) (0 : Int))
def prIsTariff_L2 (t : Tf) (x26 : Int) (x36 : Int) (K_R33 : Bool → Int → Option (Bool)) : Nat → Bool → Int → Option (Bool)
  | 0, _, _ => none
  | d91 + 1, b46, x47 => (if x47 < (t.Counts.length : Int) then ((idx t.Rates x26).bind fun v93 => ((idx v93 x36).bind fun v98 => ((idx v98 x47).bind fun x103 => ((prIn x103 (0 : Int) (100 : Int)).bind fun r105 => (if r105 = true then (gd (fitsP .i64 (x47 + (1 : Int))) (prIsTariff_L2 t x26 x36 K_R33 d91 b46 (x47 + (1 : Int)))) else (some false)))))) else (gd (fitsP .i64 (x36 + (1 : Int))) (K_R33 b46 (x36 + (1 : Int)))))
def prIsTariff_L1 (t : Tf) (x26 : Int) (K_R22 : Bool → Int → Option (Bool)) : Nat → Bool → Int → Option (Bool)
  | 0, _, _ => none
  | d76 + 1, b34, x36 => (if x36 < (t.Weeks.length : Int) then ((idx t.Rates x26).bind fun v78 => ((idx v78 x36).bind fun v83 => (if (v83.length : Int) = (t.Counts.length : Int) then (prIsTariff_L2 t x26 x36 (prIsTariff_L1 t x26 K_R22 d76) 1000000 b34 (0 : Int)) else (some false)))) else (gd (fitsP .i64 (x26 + (1 : Int))) (K_R22 b34 (x26 + (1 : Int)))))
def prIsTariff_L0 (t : Tf) : Nat → Bool → Int → Option (Bool)
  | 0, _, _ => none
  | d66 + 1, b23, x26 => (if x26 < (t.Rates.length : Int) then ((idx t.Rates x26).bind fun v68 => (if (v68.length : Int) = (t.Weeks.length : Int) then (prIsTariff_L1 t x26 (prIsTariff_L0 t d66) 1000000 b23 (0 : Int)) else (some false))) else (some true))
def prIsTariff (t : Tf) : Option (Bool) := ((prIn t.From (0 : Int) (120 : Int)).bind fun r31 => (if r31 = true then ((prIn t.Least (0 : Int) (100 : Int)).bind fun r38 => (if r38 = true then ((prRises t.Weeks (120 : Int)).bind fun r45 => (if r45 = true then ((prRises t.Counts (100 : Int)).bind fun r52 => (if r52 = true then (gd (fitsP .i64 ((t.Counts.length : Int) - (1 : Int))) ((idx t.Counts ((t.Counts.length : Int) - (1 : Int))).bind fun x60 => (if x60 = (100 : Int) then (if (t.Rates.length : Int) = (0 : Int) then (some false) else (prIsTariff_L0 t 1000000 false (0 : Int))) else (some false)))) else (some false))) else (some false))) else (some false))) else (some false)))
def prFault_L1 (l : List Tf) : Nat → Int → Option (Int)
  | 0, _ => none
  | d153 + 1, x12 => (if x12 < (l.length : Int) then ((idx l x12).bind fun v155 => ((prIsTariff v155).bind fun r164 => (if r164 = true then ((idx l x12).bind fun v170 => ((idx l (0 : Int)).bind fun v179 => (if (v170.Rates.length : Int) = (v179.Rates.length : Int) then (if x12 = (0 : Int) then ((idx l x12).bind fun v190 => (if v190.From = (0 : Int) then (if (0 : Int) < x12 then ((idx l x12).bind fun v201 => (gd (fitsP .i64 (x12 - (1 : Int))) ((idx l (x12 - (1 : Int))).bind fun v211 => (if v201.From ≤ v211.From then (some (1 : Int)) else (gd (fitsP .i64 (x12 + (1 : Int))) (prFault_L1 l d153 (x12 + (1 : Int)))))))) else (gd (fitsP .i64 (x12 + (1 : Int))) (prFault_L1 l d153 (x12 + (1 : Int))))) else (some (1 : Int)))) else (if (0 : Int) < x12 then ((idx l x12).bind fun v224 => (gd (fitsP .i64 (x12 - (1 : Int))) ((idx l (x12 - (1 : Int))).bind fun v234 => (if v224.From ≤ v234.From then (some (1 : Int)) else (gd (fitsP .i64 (x12 + (1 : Int))) (prFault_L1 l d153 (x12 + (1 : Int)))))))) else (gd (fitsP .i64 (x12 + (1 : Int))) (prFault_L1 l d153 (x12 + (1 : Int)))))) else (some (1 : Int))))) else (some (1 : Int))))) else (if (l.length : Int) = (0 : Int) then (some (1 : Int)) else (some (0 : Int))))
def prFault_L0 (l : List Tf) : Nat → Int → Int → Option (Int)
  | 0, _, _ => none
  | d118 + 1, x1, x2 => (if x2 < (l.length : Int) then ((idx l x2).bind fun v120 => (if (4 : Int) < (v120.Weeks.length : Int) then (some (3 : Int)) else ((idx l x2).bind fun v130 => (if (5 : Int) < (v130.Counts.length : Int) then (some (3 : Int)) else ((idx l x2).bind fun v140 => (if (3 : Int) < (v140.Rates.length : Int) then (some (3 : Int)) else (gd (fitsP .i64 (x2 + (1 : Int))) (prFault_L0 l d118 x1 (x2 + (1 : Int)))))))))) else (prFault_L1 l (l.length + 1) (0 : Int)))
def prFault (l : List Tf) : Option (Int) := (if (3 : Int) < (l.length : Int) then (some (3 : Int)) else (prFault_L0 l (l.length + 1) (0 : Int) (0 : Int)))
def prCrops (l : List Tf) : Option (Int) := ((idx l (0 : Int)).bind fun v247 => (some (v247.Rates.length : Int)))
def prRise_L1 (l : List Int) (out : Int) (x2 : Int) (K_R0 : Bool → Int → Option (Bool)) : Nat → Bool → Int → Option (Bool)
  | 0, _, _ => none
  | d263 + 1, b5, x6 => (if x6 < (l.length : Int) then (gd ((0 : Int) ≤ out) (gd ((0 : Int) ≤ (wrapZ .u64 x2)) (gd ((wrapZ .u64 x2) ≤ (64 : Int)) (gd (fitsP .i64 (out / ((2 : Int) ^ (Int.toNat (wrapZ .u64 x2))))) (gd ((0 : Int) ≤ (out / ((2 : Int) ^ (Int.toNat (wrapZ .u64 x2))))) (gd ((0 : Int) < (2 : Int)) (gd (fitsP .i64 ((out / ((2 : Int) ^ (Int.toNat (wrapZ .u64 x2)))) % (2 : Int))) (if ((out / ((2 : Int) ^ (Int.toNat (wrapZ .u64 x2)))) % (2 : Int)) = (0 : Int) then (gd ((0 : Int) ≤ out) (gd ((0 : Int) ≤ (wrapZ .u64 x6)) (gd ((wrapZ .u64 x6) ≤ (64 : Int)) (gd (fitsP .i64 (out / ((2 : Int) ^ (Int.toNat (wrapZ .u64 x6))))) (gd ((0 : Int) ≤ (out / ((2 : Int) ^ (Int.toNat (wrapZ .u64 x6))))) (gd ((0 : Int) < (2 : Int)) (gd (fitsP .i64 ((out / ((2 : Int) ^ (Int.toNat (wrapZ .u64 x6)))) % (2 : Int))) (if ((out / ((2 : Int) ^ (Int.toNat (wrapZ .u64 x6)))) % (2 : Int)) = (0 : Int) then ((idx l x6).bind fun x281 => ((idx l x2).bind fun x283 => (if x281 < x283 then (some false) else (gd (fitsP .i64 (x6 + (1 : Int))) (prRise_L1 l out x2 K_R0 d263 b5 (x6 + (1 : Int))))))) else (gd (fitsP .i64 (x6 + (1 : Int))) (prRise_L1 l out x2 K_R0 d263 b5 (x6 + (1 : Int)))))))))))) else (gd (fitsP .i64 (x6 + (1 : Int))) (prRise_L1 l out x2 K_R0 d263 b5 (x6 + (1 : Int)))))))))))) else (gd (fitsP .i64 (x2 + (1 : Int))) (K_R0 b5 (x2 + (1 : Int)))))
def prRise_L0 (l : List Int) (out : Int) : Nat → Bool → Int → Option (Bool)
  | 0, _, _ => none
  | d258 + 1, b1, x2 => (if x2 < (l.length : Int) then (gd (fitsP .i64 (x2 + (1 : Int))) (prRise_L1 l out x2 (prRise_L0 l out d258) (((l.length : Int) - (x2 + (1 : Int))).toNat + 1) b1 (x2 + (1 : Int)))) else (some true))
def prRise (l : List Int) (out : Int) : Option (Bool) := (prRise_L0 l out (l.length + 1) false (0 : Int))
def plList (l : List Int) : Option (List Int) := (gd (([] : List Int).length + l.length ≤ 1048576) (some ([] ++ l)))
def plThin_L2 (l : List Tf) (x4 : Int) (x15 : Int) (K_R12 : Bool → Int → Option (Bool)) : Nat → Bool → Int → Option (Bool)
  | 0, _, _ => none
  | d372 + 1, b24, x25 => ((idx l x4).bind fun v373 => ((idx v373.Rates x15).bind fun v382 => (if x25 < (v382.length : Int) then ((idx l x4).bind fun v388 => ((idx v388.Rates x15).bind fun v397 => ((idx v397 x25).bind fun v402 => (if (7 : Int) < (v402.length : Int) then (some false) else (gd (fitsP .i64 (x25 + (1 : Int))) (plThin_L2 l x4 x15 K_R12 d372 b24 (x25 + (1 : Int)))))))) else (gd (fitsP .i64 (x15 + (1 : Int))) (K_R12 b24 (x15 + (1 : Int)))))))
def plThin_L1 (l : List Tf) (x4 : Int) (K_R0 : Bool → Int → Option (Bool)) : Nat → Bool → Int → Option (Bool)
  | 0, _, _ => none
  | d344 + 1, b13, x15 => ((idx l x4).bind fun v345 => (if x15 < (v345.Rates.length : Int) then ((idx l x4).bind fun v355 => ((idx v355.Rates x15).bind fun v364 => (if (7 : Int) < (v364.length : Int) then (some false) else (plThin_L2 l x4 x15 (plThin_L1 l x4 K_R0 d344) 1000000 b13 (0 : Int))))) else (gd (fitsP .i64 (x4 + (1 : Int))) (K_R0 b13 (x4 + (1 : Int))))))
def plThin_L0 (l : List Tf) : Nat → Bool → Int → Option (Bool)
  | 0, _, _ => none
  | d310 + 1, b1, x4 => (if x4 < (l.length : Int) then ((idx l x4).bind fun v312 => (if (7 : Int) < (v312.Weeks.length : Int) then (some false) else ((idx l x4).bind fun v322 => (if (7 : Int) < (v322.Counts.length : Int) then (some false) else ((idx l x4).bind fun v332 => (if (5 : Int) < (v332.Rates.length : Int) then (some false) else (plThin_L1 l x4 (plThin_L0 l d310) 1000000 b1 (0 : Int)))))))) else (some true))
def plThin (l : List Tf) : Option (Bool) := (if (5 : Int) < (l.length : Int) then (some false) else (plThin_L0 l (l.length + 1) false (0 : Int)))
def plFault (l : List Tf) : Option (Int) := ((prFault l).bind fun r411 => (some r411))
def plReady (l : List Tf) : Option (Bool) := ((plThin l).bind fun r416 => (if r416 = true then ((plFault l).bind fun r422 => (some (decide (r422 = (0 : Int))))) else (some false)))
def phas (r : Rg) (n : Int) : Option (Bool) := (if r.Lo ≤ n then (some (decide (n ≤ r.Hi))) else (some false))
def pisIndex (n : Int) (size : Int) : Option (Bool) := (gd (fitsP .i64 (size - (1 : Int))) ((phas ({ Lo := (0 : Int), Hi := (size - (1 : Int)) } : Rg) n).bind fun r444 => (some r444)))
def pisDay (n : Int) : Option (Bool) := ((phas ({ Lo := (0 : Int), Hi := (120 : Int) } : Rg) n).bind fun r449 => (some r449))
def pisHundredths (n : Int) : Option (Bool) := ((phas ({ Lo := (0 : Int), Hi := (100 : Int) } : Rg) n).bind fun r459 => (some r459))
def prises_L0 (l : List Int) : Nat → Int → Option (Bool)
  | 0, _ => none
  | d466 + 1, x2 => (if x2 < (l.length : Int) then ((idx l x2).bind fun x468 => (if (0 : Int) < x2 then (gd (fitsP .i64 (x2 - (1 : Int))) ((idx l (x2 - (1 : Int))).bind fun x472 => (if x468 ≤ x472 then (some false) else (gd (fitsP .i64 (x2 + (1 : Int))) (prises_L0 l d466 (x2 + (1 : Int))))))) else (gd (fitsP .i64 (x2 + (1 : Int))) (prises_L0 l d466 (x2 + (1 : Int)))))) else (if (0 : Int) < (l.length : Int) then ((idx l (0 : Int)).bind fun x478 => (some (decide (x478 = (0 : Int))))) else (some false)))
def prises (l : List Int) : Option (Bool) := (prises_L0 l (l.length + 1) (0 : Int))
def pfroms_L0 (l : List Tf) : Nat → (List Int) → Int → Option (List Int)
  | 0, _, _ => none
  | d484 + 1, l482, x2 => (if x2 < (l.length : Int) then ((idx l x2).bind fun v486 => (gd (l482.length < 1048576) (gd (fitsP .i64 (x2 + (1 : Int))) (pfroms_L0 l d484 (l482 ++ [v486.From]) (x2 + (1 : Int)))))) else (some l482))
def pfroms (l : List Tf) : Option (List Int) := (pfroms_L0 l (l.length + 1) [] (0 : Int))
def psameCrops (l : List Tf) (t : Tf) : Option (Bool) := ((idx l (0 : Int)).bind fun v525 => (some (decide ((t.Rates.length : Int) = (v525.Rates.length : Int)))))
def phasCrop (l : List Tf) (n : Int) : Option (Bool) := ((idx l (0 : Int)).bind fun v534 => ((pisIndex n (v534.Rates.length : Int)).bind fun r543 => (some r543)))
def ptfTooMany (t : Tf) : Option (Bool) := (if (4 : Int) < (t.Weeks.length : Int) then (some true) else (if (5 : Int) < (t.Counts.length : Int) then (some true) else (some (decide ((3 : Int) < (t.Rates.length : Int))))))
def peachTf1 (x : Tf) (passes : Tf → Option (Bool)) : Option (Bool) := ((passes x).bind fun r757 => (some (!r757)))
def pindexTf_L0 (l : List Tf) (p : Tf → Option (Bool)) : Nat → Int → Option (Int)
  | 0, _ => none
  | d765 + 1, x2 => (if x2 < (l.length : Int) then ((idx l x2).bind fun v767 => ((p v767).bind fun r776 => (if r776 = true then (some x2) else (gd (fitsP .i64 (x2 + (1 : Int))) (pindexTf_L0 l p d765 (x2 + (1 : Int))))))) else (some (-1 : Int)))
def pindexTf (l : List Tf) (p : Tf → Option (Bool)) : Option (Int) := (pindexTf_L0 l p (l.length + 1) (0 : Int))
def pcontainsTf (l : List Tf) (p : Tf → Option (Bool)) : Option (Bool) := ((pindexTf l p).bind fun r783 => (some (decide ((0 : Int) ≤ r783))))
def peachTf (l : List Tf) (passes : Tf → Option (Bool)) : Option (Bool) := ((pcontainsTf l (fun a797 => peachTf1 a797 passes)).bind fun r805 => (some (!r805)))
def pindexTfs_L0 (l : List Tf) (p : Tf → Option (Bool)) : Nat → Int → Option (Int)
  | 0, _ => none
  | d812 + 1, x2 => (if x2 < (l.length : Int) then ((idx l x2).bind fun v814 => ((p v814).bind fun r823 => (if r823 = true then (some x2) else (gd (fitsP .i64 (x2 + (1 : Int))) (pindexTfs_L0 l p d812 (x2 + (1 : Int))))))) else (some (-1 : Int)))
def pindexTfs (l : List Tf) (p : Tf → Option (Bool)) : Option (Int) := (pindexTfs_L0 l p (l.length + 1) (0 : Int))
def pcontainsTfs (l : List Tf) (p : Tf → Option (Bool)) : Option (Bool) := ((pindexTfs l p).bind fun r830 => (some (decide ((0 : Int) ≤ r830))))
def peachI1 (x : Int) (passes : Int → Option (Bool)) : Option (Bool) := ((passes x).bind fun r881 => (some (!r881)))
def pindexI_L0 (l : List Int) (p : Int → Option (Bool)) : Nat → Int → Option (Int)
  | 0, _ => none
  | d888 + 1, x2 => (if x2 < (l.length : Int) then ((idx l x2).bind fun x890 => ((p x890).bind fun r892 => (if r892 = true then (some x2) else (gd (fitsP .i64 (x2 + (1 : Int))) (pindexI_L0 l p d888 (x2 + (1 : Int))))))) else (some (-1 : Int)))
def pindexI (l : List Int) (p : Int → Option (Bool)) : Option (Int) := (pindexI_L0 l p (l.length + 1) (0 : Int))
def pcontainsI (l : List Int) (p : Int → Option (Bool)) : Option (Bool) := ((pindexI l p).bind fun r899 => (some (decide ((0 : Int) ≤ r899))))
def peachI (l : List Int) (passes : Int → Option (Bool)) : Option (Bool) := ((pcontainsI l (fun a913 => peachI1 a913 passes)).bind fun r915 => (some (!r915)))
def peachL1 (x : List Int) (passes : List Int → Option (Bool)) : Option (Bool) := ((passes x).bind fun r920 => (some (!r920)))
def pindexL_L0 (l : List (List Int)) (p : List Int → Option (Bool)) : Nat → Int → Option (Int)
  | 0, _ => none
  | d927 + 1, x2 => (if x2 < (l.length : Int) then ((idx l x2).bind fun v929 => ((p v929).bind fun r934 => (if r934 = true then (some x2) else (gd (fitsP .i64 (x2 + (1 : Int))) (pindexL_L0 l p d927 (x2 + (1 : Int))))))) else (some (-1 : Int)))
def pindexL (l : List (List Int)) (p : List Int → Option (Bool)) : Option (Int) := (pindexL_L0 l p (l.length + 1) (0 : Int))
def pcontainsL (l : List (List Int)) (p : List Int → Option (Bool)) : Option (Bool) := ((pindexL l p).bind fun r941 => (some (decide ((0 : Int) ≤ r941))))
def peachL (l : List (List Int)) (passes : List Int → Option (Bool)) : Option (Bool) := ((pcontainsL l (fun a955 => peachL1 a955 passes)).bind fun r959 => (some (!r959)))
def peachLL1 (x : List (List Int)) (passes : List (List Int) → Option (Bool)) : Option (Bool) := ((passes x).bind fun r964 => (some (!r964)))
def pindexLL_L0 (l : List (List (List Int))) (p : List (List Int) → Option (Bool)) : Nat → Int → Option (Int)
  | 0, _ => none
  | d971 + 1, x2 => (if x2 < (l.length : Int) then ((idx l x2).bind fun v973 => ((p v973).bind fun r978 => (if r978 = true then (some x2) else (gd (fitsP .i64 (x2 + (1 : Int))) (pindexLL_L0 l p d971 (x2 + (1 : Int))))))) else (some (-1 : Int)))
def pindexLL (l : List (List (List Int))) (p : List (List Int) → Option (Bool)) : Option (Int) := (pindexLL_L0 l p (l.length + 1) (0 : Int))
def pcontainsLL (l : List (List (List Int))) (p : List (List Int) → Option (Bool)) : Option (Bool) := ((pindexLL l p).bind fun r985 => (some (decide ((0 : Int) ≤ r985))))
def peachLL (l : List (List (List Int))) (passes : List (List Int) → Option (Bool)) : Option (Bool) := ((pcontainsLL l (fun a999 => peachLL1 a999 passes)).bind fun r1003 => (some (!r1003)))
def pvalidWeek (t : Tf) (rates : List Int) : Option (Bool) := (if (rates.length : Int) = (t.Counts.length : Int) then ((peachI rates (fun a1033 => pisHundredths a1033)).bind fun r1035 => (some r1035)) else (some false))
def pvalidCrop (t : Tf) (weeks : List (List Int)) : Option (Bool) := (if (weeks.length : Int) = (t.Weeks.length : Int) then ((peachL weeks (fun a1047 => pvalidWeek t a1047)).bind fun r1051 => (some r1051)) else (some false))
def ptfValid (t : Tf) : Option (Bool) := ((pisDay t.From).bind fun r1062 => (if r1062 = true then ((pisHundredths t.Least).bind fun r1069 => (if r1069 = true then ((prises t.Weeks).bind fun r1076 => (if r1076 = true then ((peachI t.Weeks (fun a1083 => pisDay a1083)).bind fun r1085 => (if r1085 = true then ((prises t.Counts).bind fun r1092 => (if r1092 = true then (gd (fitsP .i64 ((t.Counts.length : Int) - (1 : Int))) ((idx t.Counts ((t.Counts.length : Int) - (1 : Int))).bind fun x1100 => (if x1100 = (100 : Int) then (if (0 : Int) < (t.Rates.length : Int) then ((peachLL t.Rates (fun a1104 => pvalidCrop t a1104)).bind fun r1108 => (some r1108)) else (some false)) else (some false)))) else (some false))) else (some false))) else (some false))) else (some false))) else (some false)))
def ptooMany (l : List Tf) : Option (Bool) := (if (3 : Int) < (l.length : Int) then (some true) else ((pcontainsTfs l (fun a1115 => ptfTooMany a1115)).bind fun r1123 => (some r1123)))
def ptfsValid (l : List Tf) : Option (Bool) := ((peachTf l (fun a1128 => ptfValid a1128)).bind fun r1136 => (if r1136 = true then ((pfroms l).bind fun r1142 => ((prises r1142).bind fun r1150 => (if r1150 = true then ((peachTf l (fun a1156 => psameCrops l a1156)).bind fun r1164 => (some r1164)) else (some false)))) else (some false)))
def pcheck (l : List Tf) : Option (Int) := ((ptooMany l).bind fun r1207 => (if r1207 = true then (some (3 : Int)) else ((ptfsValid l).bind fun r1213 => (if r1213 = true then (some (0 : Int)) else (some (1 : Int))))))
def phasRates (l : List Tf) (which : Int) (crop : Int) (week : Int) : Option (Bool) := ((pisIndex which (l.length : Int)).bind fun r1219 => (if r1219 = true then ((phasCrop l crop).bind fun r1225 => (if r1225 = true then ((idx l which).bind fun v1231 => ((pisIndex week (v1231.Weeks.length : Int)).bind fun r1240 => (some r1240))) else (some false))) else (some false)))
def popen (l : List Tf) : Option (Wk × Int) := ((pcheck l).bind fun r1328 => (if r1328 = (0 : Int) then (some (({ tariffs := l, parts := (some fun _ => none : Option (Ht → Option (Int))) } : Wk), (0 : Int))) else (some (({ tariffs := [], parts := none } : Wk), r1328))))
def plTariffs_L2 (l : List Tf) (x2 : Int) (y2439 : Int) (y2440 : Bool) (y2441 : Int) (y2442 : List (List (List Int))) (x24 : Int) (K_R23 : Int → Bool → Int → (List (List (List Int))) → Int → Option (List Tf)) : Nat → (List (List Int)) → Int → Option (List Tf)
  | 0, _, _ => none
  | d2461 + 1, l2459, x30 => ((idx l x2).bind fun v2462 => ((idx v2462.Rates x24).bind fun v2471 => (if x30 < (v2471.length : Int) then ((idx l x2).bind fun v2477 => ((idx v2477.Rates x24).bind fun v2486 => ((idx v2486 x30).bind fun v2491 => ((plList v2491).bind fun r2496 => (gd (l2459.length < 1048576) (gd (fitsP .i64 (x30 + (1 : Int))) (plTariffs_L2 l x2 y2439 y2440 y2441 y2442 x24 K_R23 d2461 (l2459 ++ [r2496]) (x30 + (1 : Int))))))))) else (gd (y2442.length < 1048576) (gd (fitsP .i64 (x24 + (1 : Int))) (K_R23 y2439 y2440 y2441 (y2442 ++ [l2459]) (x24 + (1 : Int))))))))
def plTariffs_L1 (l : List Tf) (l2354 : List Tf) (x2 : Int) (r2400 : List Int) (r2418 : List Int) (K_R0 : (List Tf) → Int → Option (List Tf)) : Nat → Int → Bool → Int → (List (List (List Int))) → Int → Option (List Tf)
  | 0, _, _, _, _, _ => none
  | d2445 + 1, y2439, y2440, y2441, y2442, x24 => ((idx l x2).bind fun v2446 => (if x24 < (v2446.Rates.length : Int) then (plTariffs_L2 l x2 y2439 y2440 y2441 y2442 x24 (plTariffs_L1 l l2354 x2 r2400 r2418 K_R0 d2445) 1000000 [] (0 : Int)) else (gd (l2354.length < 1048576) (gd (fitsP .i64 (x2 + (1 : Int))) (K_R0 (l2354 ++ [({ From := y2439, Whole := y2440, Least := y2441, Weeks := r2400, Counts := r2418, Rates := y2442 } : Tf)]) (x2 + (1 : Int)))))))
def plTariffs_L0 (l : List Tf) : Nat → (List Tf) → Int → Option (List Tf)
  | 0, _, _ => none
  | d2356 + 1, l2354, x2 => (if x2 < (l.length : Int) then ((idx l x2).bind fun v2364 => ((idx l x2).bind fun v2373 => ((idx l x2).bind fun v2382 => ((idx l x2).bind fun v2391 => ((plList v2391.Weeks).bind fun r2400 => ((idx l x2).bind fun v2409 => ((plList v2409.Counts).bind fun r2418 => (plTariffs_L1 l l2354 x2 r2400 r2418 (plTariffs_L0 l d2356) 1000000 v2364.From v2373.Whole v2382.Least [] (0 : Int))))))))) else (some l2354))
def plTariffs (l : List Tf) : Option (List Tf) := (plTariffs_L0 l (l.length + 1) [] (0 : Int))
def pwithout_L1 (list : List Int) : Nat → Bool → Bool → Bool → Bool → Bool → Int → Option (Fl)
  | 0, _, _, _, _, _, _ => none
  | d2595 + 1, y2590, y2591, y2592, y2593, y2594, x8 => (if x8 < (list.length : Int) then ((idx list x8).bind fun x2597 => (gd (0 ≤ x2597 ∧ x2597 < (5 : Int)) (gd (fitsP .i64 (x8 + (1 : Int))) (pwithout_L1 list d2595 (sti x2597 0 false y2590) (sti x2597 1 false y2591) (sti x2597 2 false y2592) (sti x2597 3 false y2593) (sti x2597 4 false y2594) (x8 + (1 : Int)))))) else (some ({ a0 := y2590, a1 := y2591, a2 := y2592, a3 := y2593, a4 := y2594 } : Fl)))
def pwithout_L0 (r : List Int) (list : List Int) : Nat → Bool → Bool → Bool → Bool → Bool → Int → Option (Fl)
  | 0, _, _, _, _, _, _ => none
  | d2578 + 1, y2573, y2574, y2575, y2576, y2577, x3 => (if x3 < (r.length : Int) then (gd (0 ≤ x3 ∧ x3 < (5 : Int)) (gd (fitsP .i64 (x3 + (1 : Int))) (pwithout_L0 r list d2578 (sti x3 0 true y2573) (sti x3 1 true y2574) (sti x3 2 true y2575) (sti x3 3 true y2576) (sti x3 4 true y2577) (x3 + (1 : Int))))) else (pwithout_L1 list (list.length + 1) y2573 y2574 y2575 y2576 y2577 (0 : Int)))
def pwithout (r : List Int) (list : List Int) : Option (Fl) := (pwithout_L0 r list (r.length + 1) false false false false false (0 : Int))
def prising_L0 (r : List Int) : Nat → Bool → Bool → Bool → Bool → Bool → Int → Int → Option (Fl)
  | 0, _, _, _, _, _, _, _ => none
  | d2631 + 1, y2626, y2627, y2628, y2629, y2630, x3, x4 => (if x4 < (r.length : Int) then ((idx r x4).bind fun x2633 => ((idx ([y2626, y2627, y2628, y2629, y2630] : List Bool) x4).bind fun v2636 => (if v2636 = true then (gd (0 ≤ x4 ∧ x4 < (5 : Int)) (gd (fitsP .i64 (x4 + (1 : Int))) (prising_L0 r d2631 (sti x4 0 (decide (x3 ≤ x2633)) y2626) (sti x4 1 (decide (x3 ≤ x2633)) y2627) (sti x4 2 (decide (x3 ≤ x2633)) y2628) (sti x4 3 (decide (x3 ≤ x2633)) y2629) (sti x4 4 (decide (x3 ≤ x2633)) y2630) x2633 (x4 + (1 : Int))))) else (gd (fitsP .i64 (x4 + (1 : Int))) (prising_L0 r d2631 y2626 y2627 y2628 y2629 y2630 x3 (x4 + (1 : Int))))))) else (some ({ a0 := y2626, a1 := y2627, a2 := y2628, a3 := y2629, a4 := y2630 } : Fl)))
def prising (r : List Int) (kept : Fl) : Option (Fl) := (prising_L0 r (r.length + 1) kept.a0 kept.a1 kept.a2 kept.a3 kept.a4 (0 : Int) (0 : Int))
def pcanBe (r : List Int) (list : List Int) : Option (Bool) := ((pwithout r list).bind fun r2653 => ((prising r r2653).bind fun r2668 => (some ((r2668.a0 == r2653.a0) && ((r2668.a1 == r2653.a1) && ((r2668.a2 == r2653.a2) && ((r2668.a3 == r2653.a3) && (r2668.a4 == r2653.a4))))))))
def prBits_L0 (bits : Int) : Nat → (List Int) → Int → Option (List Int)
  | 0, _, _ => none
  | d2678 + 1, l2676, x2 => (gd ((0 : Int) ≤ bits) (gd ((0 : Int) ≤ (wrapZ .u64 x2)) (gd ((wrapZ .u64 x2) ≤ (64 : Int)) (gd (fitsP .i64 (bits / ((2 : Int) ^ (Int.toNat (wrapZ .u64 x2))))) (if (0 : Int) < (bits / ((2 : Int) ^ (Int.toNat (wrapZ .u64 x2)))) then (gd ((0 : Int) ≤ bits) (gd ((0 : Int) ≤ (wrapZ .u64 x2)) (gd ((wrapZ .u64 x2) ≤ (64 : Int)) (gd (fitsP .i64 (bits / ((2 : Int) ^ (Int.toNat (wrapZ .u64 x2))))) (gd ((0 : Int) ≤ (bits / ((2 : Int) ^ (Int.toNat (wrapZ .u64 x2))))) (gd ((0 : Int) < (2 : Int)) (gd (fitsP .i64 ((bits / ((2 : Int) ^ (Int.toNat (wrapZ .u64 x2)))) % (2 : Int))) (if ((bits / ((2 : Int) ^ (Int.toNat (wrapZ .u64 x2)))) % (2 : Int)) = (1 : Int) then (gd (l2676.length < 1048576) (gd (fitsP .i64 (x2 + (1 : Int))) (prBits_L0 bits d2678 (l2676 ++ [x2]) (x2 + (1 : Int))))) else (gd (fitsP .i64 (x2 + (1 : Int))) (prBits_L0 bits d2678 l2676 (x2 + (1 : Int)))))))))))) else (some l2676))))))
def prBits (bits : Int) : Option (List Int) := (prBits_L0 bits 1000000 [] (0 : Int))
def prBefore_L0 (a : List Int) (b : List Int) : Nat → Int → Option (Bool)
  | 0, _ => none
  | d2709 + 1, x2 => (if x2 < (a.length : Int) then (if x2 < (b.length : Int) then ((idx a x2).bind fun x2712 => ((idx b x2).bind fun x2714 => (if x2712 = x2714 then (gd (fitsP .i64 (x2 + (1 : Int))) (prBefore_L0 a b d2709 (x2 + (1 : Int)))) else ((idx a x2).bind fun x2717 => ((idx b x2).bind fun x2719 => (some (decide (x2717 < x2719)))))))) else (some (decide ((a.length : Int) < (b.length : Int))))) else (some (decide ((a.length : Int) < (b.length : Int)))))
def prBefore (a : List Int) (b : List Int) : Option (Bool) := (prBefore_L0 a b (a.length + 1) (0 : Int))
def prShorter (a : List Int) (b : List Int) : Option (Bool) := (if (a.length : Int) < (b.length : Int) then (some true) else (if (a.length : Int) = (b.length : Int) then ((prBefore a b).bind fun r2724 => (some r2724)) else (some false)))
end
end Go.Proofs.YtbhdgedghfibcaaGreat

namespace Go.Proofs.YtbhdgedghfibcaaGreat
open _root_.Go.Proofs.Tryz
open Go.Abs
set_option maxRecDepth 100000
noncomputable section
def pmisprints (r : List Int) : Option (List Int) := ((pshortest (r.length : Int) (fun a1 => pcanBe r a1)).bind fun r5 => (some r5))
def pMisprints (l : List Tf) (which : Int) (crop : Int) (week : Int) : Option (List Int × Int) := ((popen l).bind fun r13 => (if r13.2 = (0 : Int) then ((phasRates r13.1.tariffs which crop week).bind fun r38 => (if r38 = true then ((idx l which).bind fun v46 => ((idx v46.Rates crop).bind fun v55 => ((idx v55 week).bind fun v60 => ((pmisprints v60).bind fun r65 => (some (r65, (0 : Int))))))) else (some ([], (2 : Int))))) else (some ([], r13.2))))
def pTariffRising_L0 (bits : Int) (v258 : List Int) (r271 : List Int × Int) : Nat → Int → Int → Option (Bool)
  | 0, _, _ => none
  | d283 + 1, x26, x27 => (if x27 < (r271.1.length : Int) then ((idx r271.1 x27).bind fun x285 => (gd (fitsP .i64 ((v258.length : Int) - (1 : Int))) ((prIn x285 (0 : Int) ((v258.length : Int) - (1 : Int))).bind fun r288 => (if r288 = true then (if (0 : Int) < x27 then ((idx r271.1 x27).bind fun x295 => (gd (fitsP .i64 (x27 - (1 : Int))) ((idx r271.1 (x27 - (1 : Int))).bind fun x298 => (if x295 ≤ x298 then (some false) else ((idx r271.1 x27).bind fun x301 => (gd ((0 : Int) ≤ (1 : Int)) (gd ((0 : Int) ≤ (wrapZ .u64 x301)) (gd ((wrapZ .u64 x301) ≤ (64 : Int)) (gd (fitsP .i64 ((1 : Int) * ((2 : Int) ^ (Int.toNat (wrapZ .u64 x301))))) (gd ((0 : Int) ≤ x26) (gd ((0 : Int) ≤ ((1 : Int) * ((2 : Int) ^ (Int.toNat (wrapZ .u64 x301))))) (gd (fitsP .i64 x26) (gd (fitsP .i64 ((1 : Int) * ((2 : Int) ^ (Int.toNat (wrapZ .u64 x301))))) (gd (fitsP .i64 (((Nat.lor (Int.toNat x26) (Int.toNat ((1 : Int) * ((2 : Int) ^ (Int.toNat (wrapZ .u64 x301)))))) : Nat) : Int)) (gd (fitsP .i64 (x27 + (1 : Int))) (pTariffRising_L0 bits v258 r271 d283 (((Nat.lor (Int.toNat x26) (Int.toNat ((1 : Int) * ((2 : Int) ^ (Int.toNat (wrapZ .u64 x301)))))) : Nat) : Int) (x27 + (1 : Int)))))))))))))))))) else ((idx r271.1 x27).bind fun x313 => (gd ((0 : Int) ≤ (1 : Int)) (gd ((0 : Int) ≤ (wrapZ .u64 x313)) (gd ((wrapZ .u64 x313) ≤ (64 : Int)) (gd (fitsP .i64 ((1 : Int) * ((2 : Int) ^ (Int.toNat (wrapZ .u64 x313))))) (gd ((0 : Int) ≤ x26) (gd ((0 : Int) ≤ ((1 : Int) * ((2 : Int) ^ (Int.toNat (wrapZ .u64 x313))))) (gd (fitsP .i64 x26) (gd (fitsP .i64 ((1 : Int) * ((2 : Int) ^ (Int.toNat (wrapZ .u64 x313))))) (gd (fitsP .i64 (((Nat.lor (Int.toNat x26) (Int.toNat ((1 : Int) * ((2 : Int) ^ (Int.toNat (wrapZ .u64 x313)))))) : Nat) : Int)) (gd (fitsP .i64 (x27 + (1 : Int))) (pTariffRising_L0 bits v258 r271 d283 (((Nat.lor (Int.toNat x26) (Int.toNat ((1 : Int) * ((2 : Int) ^ (Int.toNat (wrapZ .u64 x313)))))) : Nat) : Int) (x27 + (1 : Int))))))))))))))) else (some false))))) else (gd ((0 : Int) ≤ (1 : Int)) (gd ((0 : Int) ≤ (wrapZ .u64 (v258.length : Int))) (gd ((wrapZ .u64 (v258.length : Int)) ≤ (64 : Int)) (gd (fitsP .i64 ((1 : Int) * ((2 : Int) ^ (Int.toNat (wrapZ .u64 (v258.length : Int)))))) (gd ((0 : Int) ≤ (wrapZ .i64 bits)) (gd ((0 : Int) < ((1 : Int) * ((2 : Int) ^ (Int.toNat (wrapZ .u64 (v258.length : Int)))))) (gd (fitsP .i64 ((wrapZ .i64 bits) % ((1 : Int) * ((2 : Int) ^ (Int.toNat (wrapZ .u64 (v258.length : Int))))))) ((prRise v258 x26).bind fun r332 => (if r332 = true then ((prRise v258 ((wrapZ .i64 bits) % ((1 : Int) * ((2 : Int) ^ (Int.toNat (wrapZ .u64 (v258.length : Int))))))).bind fun r338 => (if r338 = true then ((prBits ((wrapZ .i64 bits) % ((1 : Int) * ((2 : Int) ^ (Int.toNat (wrapZ .u64 (v258.length : Int))))))).bind fun r344 => ((prShorter r344 r271.1).bind fun r352 => (if r352 = true then (some false) else ((prRise v258 (0 : Int)).bind fun r358 => (if ((decide ((r271.1.length : Int) = (0 : Int))) == r358) = true then ((pawake).bind fun r364 => (some r364)) else (some false)))))) else ((prRise v258 (0 : Int)).bind fun r369 => (if ((decide ((r271.1.length : Int) = (0 : Int))) == r369) = true then ((pawake).bind fun r375 => (some r375)) else (some false))))) else (some false)))))))))))
def pTariffRising (l : List Tf) (which : Int) (crop : Int) (week : Int) (bits : Int) : Option (Bool) := ((plReady l).bind fun r210 => (if r210 = true then (gd ((0 : Int) ≤ (wrapZ .i64 which)) (gd ((0 : Int) < (l.length : Int)) (gd (fitsP .i64 ((wrapZ .i64 which) % (l.length : Int))) ((prCrops l).bind fun r224 => (gd ((0 : Int) ≤ (wrapZ .i64 crop)) (gd ((0 : Int) < r224) (gd (fitsP .i64 ((wrapZ .i64 crop) % r224)) ((idx l ((wrapZ .i64 which) % (l.length : Int))).bind fun v232 => (gd ((0 : Int) ≤ (wrapZ .i64 week)) (gd ((0 : Int) < (v232.Weeks.length : Int)) (gd (fitsP .i64 ((wrapZ .i64 week) % (v232.Weeks.length : Int))) ((idx l ((wrapZ .i64 which) % (l.length : Int))).bind fun v244 => ((idx v244.Rates ((wrapZ .i64 crop) % r224)).bind fun v253 => ((idx v253 ((wrapZ .i64 week) % (v232.Weeks.length : Int))).bind fun v258 => ((plTariffs l).bind fun r263 => ((pMisprints r263 ((wrapZ .i64 which) % (l.length : Int)) ((wrapZ .i64 crop) % r224) ((wrapZ .i64 week) % (v232.Weeks.length : Int))).bind fun r271 => (if r271.2 = (0 : Int) then (pTariffRising_L0 bits v258 r271 (r271.1.length + 1) (0 : Int) (0 : Int)) else (some false)))))))))))))))))) else ((pawake).bind fun r216 => (some r216))))
end
end Go.Proofs.YtbhdgedghfibcaaGreat

namespace Go.Proofs.YtbhdgedghfibcaaGreat
open _root_.Go.Proofs.Tryz
open Go.Abs
set_option maxRecDepth 100000
noncomputable section
theorem w80 (y : C) (b b2 : Nat) {m : M} {Q : V → M → Prop} (h :
 (∀ m0 : M, ((m0 = (M.new m (AO.cells 1 [y] false))) → (∃ x1 : Int, (((ldC m0 (C.ptr b 0)) = (some (C.int .i64 x1))) ∧ 
 (∃ n2 : Nat, (∃ n3 : Nat, ((x1 = ((n2 : Nat) : Int)) ∧ ((x1 = ((n3 : Nat) : Int)) ∧ ((n2 ≤ n3) ∧ ((n3 ≤ 4096) ∧ 
 (∀ m4 : M, ((m4 = (M.new m0 (AO.cells (n3 * 1) (repeatS [(C.int .i64 (0 : Int))] n3) false))) → 
 (∀ m5 : M, ((m5 = (M.new m4 (AO.cells 1 [C.sl0] false))) → (∃ m6 : M, (((stC m5 (C.ptr m4.nxt 0) 1 [(C.sl m0.nxt 0 n2 0 (some n3))]) = (some m6)) ∧ 
 (∀ m7 : M, ((m7 = (M.new m6 (AO.cells 1 [C.nilFn] false))) → (∃ m8 : M, (((stC m7 (C.ptr m6.nxt 0) 1 [(C.fn (Fn.func 81) [] [(W.c (C0.ptr b 0)), 
 (W.c (C0.ptr m.nxt 0)), (W.c (C0.ptr m4.nxt 0)), (W.c (C0.ptr b2 0)), (W.c (C0.ptr m6.nxt 0))])]) = (some m8)) ∧ 
 (∃ c9 : C, (((ldC m8 (C.ptr m6.nxt 0)) = (some c9)) ∧ (callP prog tbl [(V.c (C.int .i64 (0 : Int))), 
 (V.c (C.int .i64 (0 : Int)))] c9 m8 (fun v10 m11 => (∃ b12 : Bool, ((v10 = (V.c (C.bool b12))) ∧ 
 (Q (V.tup []) m11)))))))))))))))))))))))))))) : Wc prog tbl 80 [.c y, .c (.ptr b 0), .c (.ptr b2 0)] m Q :=
 wc_eq (n := 3) rfl (by kernel_rfl) (by kernel_rfl) h
theorem w81 (at' from' : Int) (b k h2 b2 cv : Nat) {m : M} {Q : V → M → Prop} (h :
 (∃ x0 : Int, (((ldC m (C.ptr b 0)) = (some (C.int .i64 x0))) ∧ (ifB (decide (at' = x0)) (∃ c1 : C, 
 (((ldC m (C.ptr k 0)) = (some c1)) ∧ (∃ c2 : C, (((ldC m (C.ptr h2 0)) = (some c2)) ∧ (callP prog tbl [(V.c c2)] c1 m (fun v3 m4 => 
 (∃ b5 : Bool, ((v3 = (V.c (C.bool b5))) ∧ (Q (V.c (C.bool b5)) m4))))))))) (∀ R6 : List V → M → Prop, 
 ((∀ b7 : Bool, (∀ x8 : Int, (∀ m9 : M, ((∃ x10 : Int, (((ldC m9 (C.ptr b2 0)) = (some (C.int .i64 x10))) ∧ 
 (ifB (decide (x8 < x10)) (∃ c11 : C, (((ldC m9 (C.ptr h2 0)) = (some c11)) ∧ (∃ n12 : Nat, 
 ((at' = ((n12 : Nat) : Int)) ∧ ((n12 < (slLen c11)) ∧ (∃ m13 : M, (((stC m9 (slAt c11 (n12 * 1)) 1 [(C.int .i64 x8)]) = (some m13)) ∧ 
 (∃ c14 : C, (((ldC m13 (C.ptr cv 0)) = (some c14)) ∧ (fitsP .i64 (at' + (1 : Int)) ∧ 
 (fitsP .i64 (x8 + (1 : Int)) ∧ (callP prog tbl [(V.c (C.int .i64 (at' + (1 : Int)))), 
 (V.c (C.int .i64 (x8 + (1 : Int))))] c14 m13 (fun v15 m16 => (∃ b17 : Bool, 
 ((v15 = (V.c (C.bool b17))) ∧ (ifB (!b17) (Q (V.c (C.bool false)) m16) (fitsP .i64 (x8 + (1 : Int)) ∧ 
 (R6 [(V.c (C.bool b7)), (V.c (C.int .i64 (x8 + (1 : Int))))] m16)))))))))))))))))) (Q (V.c (C.bool true)) m9)))) → 
 (R6 [(V.c (C.bool b7)), (V.c (C.int .i64 x8))] m9))))) → (R6 [(V.c (C.bool false)), (V.c (C.int .i64 from'))] m))))))) : Wc prog tbl 81 [.c (.int .i64 at'), .c (.int .i64 from'), .c (.ptr b 0), .c (.ptr k 0), .c (.ptr h2 0), .c (.ptr b2 0), .c (.ptr cv 0)] m Q :=
 wc_eq (n := 7) rfl (by kernel_rfl) (by kernel_rfl) h
end
end Go.Proofs.YtbhdgedghfibcaaGreat

namespace Go.Proofs.YtbhdgedghfibcaaGreat
open _root_.Go.Proofs.Tryz
open Go.Abs
set_option maxRecDepth 100000
noncomputable section
theorem w7 {a100 : C} {a200 : Int} {a300 : Int} {a400 : Int} {m : M} {Q : V → M → Prop} (h :
 (Wc prog tbl 26 [(V.c a100)] m (fun v0 m1 => (∃ c2 : C, (∃ c3 : C, (∃ x4 : Int, ((v0 = (V.tup [(U.agg 2 [c2, c3]), 
 (U.c (C.int .i64 x4))])) ∧ (∀ m5 : M, ((m5 = (M.new m1 (AO.cells 2 [C.sl0, C.map0] false))) → 
 (∃ m6 : M, (((stC m5 (C.ptr m1.nxt 0) 2 [c2, c3]) = (some m6)) ∧ (ifB (!decide (x4 = (0 : Int))) (Q (V.tup [(U.c C.sl0), 
 (U.c (C.int .i64 x4))]) m6) (isPt (C.ptr m1.nxt 0) ∧ (∃ c7 : C, (((ldC m6 (C.ptr m1.nxt 0)) = (some c7)) ∧ 
 (Wc prog tbl 27 [(V.c c7), (V.c (C.int .i64 a200)), (V.c (C.int .i64 a300)), (V.c (C.int .i64 a400))] m6 (fun v8 m9 => 
 (∃ b10 : Bool, ((v8 = (V.c (C.bool b10))) ∧ (ifB (!b10) (Q (V.tup [(U.c C.sl0), (U.c (C.int .i64 (2 : Int)))]) m9) (∃ n11 : Nat, 
 ((a200 = ((n11 : Nat) : Int)) ∧ ((n11 < (slLen a100)) ∧ (isPt (slAt a100 (n11 * 6)) ∧ (∃ c12 : C, 
 (((ldC m9 (ptAdd (slAt a100 (n11 * 6)) 5)) = (some c12)) ∧ (∃ n13 : Nat, ((a300 = ((n13 : Nat) : Int)) ∧ 
 ((n13 < (slLen c12)) ∧ (∃ c14 : C, (((ldC m9 (slAt c12 (n13 * 1))) = (some c14)) ∧ 
 (∃ n15 : Nat, ((a400 = ((n15 : Nat) : Int)) ∧ ((n15 < (slLen c14)) ∧ (∃ c16 : C, 
 (((ldC m9 (slAt c14 (n15 * 1))) = (some c16)) ∧ (Wc prog tbl 28 [(V.c c16)] m9 (fun v17 m18 => 
 (∃ c19 : C, ((v17 = (V.c c19)) ∧ (Q (V.tup [(U.c c19), (U.c (C.int .i64 (0 : Int)))]) m18))))))))))))))))))))))))))))))))))))))))) : Wc prog tbl 7 [(V.c a100), (V.c (C.int .i64 a200)), (V.c (C.int .i64 a300)), (V.c (C.int .i64 a400))] m Q :=
 wc_eq (n := 4) rfl (by kernel_rfl) (by kernel_rfl) h
theorem w10 {a100 : Int} {a200 : Int} {a300 : Int} {m : M} {Q : V → M → Prop} (h :
 (ifB (decide (a200 ≤ a100)) (Q (V.c (C.bool (decide (a100 ≤ a300)))) m) (Q (V.c (C.bool false)) m))) : Wc prog tbl 10 [(V.c (C.int .i64 a100)), (V.c (C.int .i64 a200)), (V.c (C.int .i64 a300))] m Q :=
 wc_eq (n := 3) rfl (by kernel_rfl) (by kernel_rfl) h
theorem w16 {a100 : C} {a200 : C} {m : M} {Q : V → M → Prop} (h :
 (isSl a100 ∧ (isSl a200 ∧ (ifB (decide ((((slLen a100) : Nat) : Int) < (((slLen a200) : Nat) : Int))) (Q (V.c (C.bool true)) m) (isSl a100 ∧ 
 (isSl a200 ∧ (ifB (decide ((((slLen a100) : Nat) : Int) = (((slLen a200) : Nat) : Int))) (Wc prog tbl 31 [(V.c a100), 
 (V.c a200)] m (fun v0 m1 => (∃ b2 : Bool, ((v0 = (V.c (C.bool b2))) ∧ (Q (V.c (C.bool b2)) m1))))) (Q (V.c (C.bool false)) m)))))))) : Wc prog tbl 16 [(V.c a100), (V.c a200)] m Q :=
 wc_eq (n := 2) rfl (by kernel_rfl) (by kernel_rfl) h
theorem w28 {a100 : C} {m : M} {Q : V → M → Prop} (h :
 (isSl a100 ∧ (optB (mapO vW [(V.c a100)]) False fun l0 => (Wc prog tbl 47 [(V.c (C.int .i64 (((slLen a100) : Nat) : Int))), 
 (V.c (C.fn (Fn.func 48) l0 []))] m (fun v1 m2 => (∃ c3 : C, ((v1 = (V.c c3)) ∧ (Q (V.c c3) m2)))))))) : Wc prog tbl 28 [(V.c a100)] m Q :=
 wc_eq (n := 1) rfl (by kernel_rfl) (by kernel_rfl) h
theorem w31 {a100 : C} {a200 : C} {m : M} {Q : V → M → Prop} (h :
 (∀ R0 : List V → M → Prop, ((∀ b1 : Bool, (∀ x2 : Int, (∀ m3 : M, ((isSl a100 ∧ (ifB (decide (x2 < (((slLen a100) : Nat) : Int))) (isSl a200 ∧ 
 (ifB (decide (x2 < (((slLen a200) : Nat) : Int))) (∃ n4 : Nat, ((x2 = ((n4 : Nat) : Int)) ∧ ((n4 < (slLen a100)) ∧ 
 (∃ x5 : Int, (((ldC m3 (slAt a100 (n4 * 1))) = (some (C.int .i64 x5))) ∧ (∃ n6 : Nat, 
 ((x2 = ((n6 : Nat) : Int)) ∧ ((n6 < (slLen a200)) ∧ (∃ x7 : Int, (((ldC m3 (slAt a200 (n6 * 1))) = (some (C.int .i64 x7))) ∧ 
 (ifB (!decide (x5 = x7)) (∃ n8 : Nat, ((x2 = ((n8 : Nat) : Int)) ∧ ((n8 < (slLen a100)) ∧ 
 (∃ x9 : Int, (((ldC m3 (slAt a100 (n8 * 1))) = (some (C.int .i64 x9))) ∧ 
 (∃ n10 : Nat, ((x2 = ((n10 : Nat) : Int)) ∧ ((n10 < (slLen a200)) ∧ (∃ x11 : Int, 
 (((ldC m3 (slAt a200 (n10 * 1))) = (some (C.int .i64 x11))) ∧ (Q (V.c (C.bool (decide (x9 < x11)))) m3))))))))))) (fitsP .i64 (x2 + (1 : Int)) ∧ 
 (R0 [(V.c (C.bool b1)), (V.c (C.int .i64 (x2 + (1 : Int))))] m3))))))))))))) (isSl a100 ∧ 
 (isSl a200 ∧ (Q (V.c (C.bool (decide ((((slLen a100) : Nat) : Int) < (((slLen a200) : Nat) : Int))))) m3))))) (isSl a100 ∧ 
 (isSl a200 ∧ (Q (V.c (C.bool (decide ((((slLen a100) : Nat) : Int) < (((slLen a200) : Nat) : Int))))) m3))))) → 
 (R0 [(V.c (C.bool b1)), (V.c (C.int .i64 x2))] m3))))) → (R0 [(V.c (C.bool false)), (V.c (C.int .i64 (0 : Int)))] m)))) : Wc prog tbl 31 [(V.c a100), (V.c a200)] m Q :=
 wc_eq (n := 2) rfl (by kernel_rfl) (by kernel_rfl) h
theorem w46 {a100 : Int} {a200 : Int} {m : M} {Q : V → M → Prop} (h :
 (fitsP .i64 (a200 - (1 : Int)) ∧ (Wc prog tbl 50 [(V.agg 2 [(C.int .i64 (0 : Int)), (C.int .i64 (a200 - (1 : Int)))]), 
 (V.c (C.int .i64 a100))] m (fun v0 m1 => (∃ b2 : Bool, ((v0 = (V.c (C.bool b2))) ∧ (Q (V.c (C.bool b2)) m1))))))) : Wc prog tbl 46 [(V.c (C.int .i64 a100)), (V.c (C.int .i64 a200))] m Q :=
 wc_eq (n := 2) rfl (by kernel_rfl) (by kernel_rfl) h
theorem w49 {a100 : Int} {a101 : Bool} {a102 : Int} {a103 : C} {a104 : C} {a105 : C} {m : M} {Q : V → M → Prop} (h :
 (∀ m0 : M, ((m0 = (M.new m (AO.cells 6 [(C.int .i64 a100), (C.bool a101), (C.int .i64 a102), a103, 
 a104, a105] false))) → (isPt (C.ptr m.nxt 0) ∧ (∃ x1 : Int, (((ldC m0 (C.ptr m.nxt 0)) = (some (C.int .i64 x1))) ∧ 
 (Wc prog tbl 10 [(V.c (C.int .i64 x1)), (V.c (C.int .i64 (0 : Int))), (V.c (C.int .i64 (120 : Int)))] m0 (fun v2 m3 => 
 (∃ b4 : Bool, ((v2 = (V.c (C.bool b4))) ∧ (ifB (!b4) (Q (V.c (C.bool false)) m3) (isPt (C.ptr m.nxt 0) ∧ 
 (∃ x5 : Int, (((ldC m3 (C.ptr m.nxt 2)) = (some (C.int .i64 x5))) ∧ (Wc prog tbl 10 [(V.c (C.int .i64 x5)), 
 (V.c (C.int .i64 (0 : Int))), (V.c (C.int .i64 (100 : Int)))] m3 (fun v6 m7 => 
 (∃ b8 : Bool, ((v6 = (V.c (C.bool b8))) ∧ (ifB (!b8) (Q (V.c (C.bool false)) m7) (isPt (C.ptr m.nxt 0) ∧ 
 (∃ c9 : C, (((ldC m7 (C.ptr m.nxt 3)) = (some c9)) ∧ (Wc prog tbl 66 [(V.c c9), 
 (V.c (C.int .i64 (120 : Int)))] m7 (fun v10 m11 => (∃ b12 : Bool, ((v10 = (V.c (C.bool b12))) ∧ 
 (ifB (!b12) (Q (V.c (C.bool false)) m11) (isPt (C.ptr m.nxt 0) ∧ (∃ c13 : C, (((ldC m11 (C.ptr m.nxt 4)) = (some c13)) ∧ 
 (Wc prog tbl 66 [(V.c c13), (V.c (C.int .i64 (100 : Int)))] m11 (fun v14 m15 => 
 (∃ b16 : Bool, ((v14 = (V.c (C.bool b16))) ∧ (ifB (!b16) (Q (V.c (C.bool false)) m15) (isPt (C.ptr m.nxt 0) ∧ 
 (∃ c17 : C, (((ldC m15 (C.ptr m.nxt 4)) = (some c17)) ∧ (isPt (C.ptr m.nxt 0) ∧ 
 (∃ c18 : C, (((ldC m15 (C.ptr m.nxt 4)) = (some c18)) ∧ (isSl c18 ∧ 
 (fitsP .i64 ((((slLen c18) : Nat) : Int) - (1 : Int)) ∧ (∃ n19 : Nat, 
 ((((((slLen c18) : Nat) : Int) - (1 : Int)) = ((n19 : Nat) : Int)) ∧ ((n19 < (slLen c17)) ∧ 
 (∃ x20 : Int, (((ldC m15 (slAt c17 (n19 * 1))) = (some (C.int .i64 x20))) ∧ 
 (ifB (!decide (x20 = (100 : Int))) (Q (V.c (C.bool false)) m15) (isPt (C.ptr m.nxt 0) ∧ 
 (∃ c21 : C, (((ldC m15 (C.ptr m.nxt 5)) = (some c21)) ∧ (isSl c21 ∧ 
 (ifB (decide ((((slLen c21) : Nat) : Int) = (0 : Int))) (Q (V.c (C.bool false)) m15) (∀ R22 : List V → 
 M → Prop, ((∀ b23 : Bool, (∀ b24 : Bool, (∀ b25 : Bool, (∀ x26 : Int, (∀ m27 : M, 
 ((isPt (C.ptr m.nxt 0) ∧ (∃ c28 : C, (((ldC m27 (C.ptr m.nxt 5)) = (some c28)) ∧ 
 (isSl c28 ∧ (ifB (decide (x26 < (((slLen c28) : Nat) : Int))) (isPt (C.ptr m.nxt 0) ∧ 
 (∃ c29 : C, (((ldC m27 (C.ptr m.nxt 5)) = (some c29)) ∧ (∃ n30 : Nat, 
 ((x26 = ((n30 : Nat) : Int)) ∧ ((n30 < (slLen c29)) ∧ (∃ c31 : C, (((ldC m27 (slAt c29 (n30 * 1))) = (some c31)) ∧ 
 (isSl c31 ∧ (isPt (C.ptr m.nxt 0) ∧ (∃ c32 : C, (((ldC m27 (C.ptr m.nxt 3)) = (some c32)) ∧ 
 (isSl c32 ∧ (ifB (!decide ((((slLen c31) : Nat) : Int) = (((slLen c32) : Nat) : Int))) (Q (V.c (C.bool false)) m27) (∀ R33 : List V → 
 M → Prop, ((∀ b34 : Bool, (∀ b35 : Bool, (∀ x36 : Int, (∀ m37 : M, ((isPt (C.ptr m.nxt 0) ∧ 
 (∃ c38 : C, (((ldC m37 (C.ptr m.nxt 3)) = (some c38)) ∧ (isSl c38 ∧ 
 (ifB (decide (x36 < (((slLen c38) : Nat) : Int))) (isPt (C.ptr m.nxt 0) ∧ (∃ c39 : C, 
 (((ldC m37 (C.ptr m.nxt 5)) = (some c39)) ∧ (∃ n40 : Nat, ((x26 = ((n40 : Nat) : Int)) ∧ 
 ((n40 < (slLen c39)) ∧ (∃ c41 : C, (((ldC m37 (slAt c39 (n40 * 1))) = (some c41)) ∧ 
 (∃ n42 : Nat, ((x36 = ((n42 : Nat) : Int)) ∧ ((n42 < (slLen c41)) ∧ (∃ c43 : C, 
 (((ldC m37 (slAt c41 (n42 * 1))) = (some c43)) ∧ (isSl c43 ∧ (isPt (C.ptr m.nxt 0) ∧ 
 (∃ c44 : C, (((ldC m37 (C.ptr m.nxt 4)) = (some c44)) ∧ (isSl c44 ∧ 
 (ifB (!decide ((((slLen c43) : Nat) : Int) = (((slLen c44) : Nat) : Int))) (Q (V.c (C.bool false)) m37) (∀ R45 : List V → 
 M → Prop, ((∀ b46 : Bool, (∀ x47 : Int, (∀ m48 : M, ((isPt (C.ptr m.nxt 0) ∧ 
 (∃ c49 : C, (((ldC m48 (C.ptr m.nxt 4)) = (some c49)) ∧ (isSl c49 ∧ 
 (ifB (decide (x47 < (((slLen c49) : Nat) : Int))) (isPt (C.ptr m.nxt 0) ∧ (∃ c50 : C, 
 (((ldC m48 (C.ptr m.nxt 5)) = (some c50)) ∧ (∃ n51 : Nat, ((x26 = ((n51 : Nat) : Int)) ∧ 
 ((n51 < (slLen c50)) ∧ (∃ c52 : C, (((ldC m48 (slAt c50 (n51 * 1))) = (some c52)) ∧ 
 (∃ n53 : Nat, ((x36 = ((n53 : Nat) : Int)) ∧ ((n53 < (slLen c52)) ∧ (∃ c54 : C, 
 (((ldC m48 (slAt c52 (n53 * 1))) = (some c54)) ∧ (∃ n55 : Nat, ((x47 = ((n55 : Nat) : Int)) ∧ 
 ((n55 < (slLen c54)) ∧ (∃ x56 : Int, (((ldC m48 (slAt c54 (n55 * 1))) = (some (C.int .i64 x56))) ∧ 
 (Wc prog tbl 10 [(V.c (C.int .i64 x56)), (V.c (C.int .i64 (0 : Int))), 
 (V.c (C.int .i64 (100 : Int)))] m48 (fun v57 m58 => (∃ b59 : Bool, ((v57 = (V.c (C.bool b59))) ∧ 
 (ifB (!b59) (Q (V.c (C.bool false)) m58) (fitsP .i64 (x47 + (1 : Int)) ∧ 
 (R45 [(V.c (C.bool b46)), (V.c (C.int .i64 (x47 + (1 : Int))))] m58))))))))))))))))))))))))) (fitsP .i64 (x36 + (1 : Int)) ∧ 
 (R33 [(V.c (C.bool b46)), (V.c (C.bool b46)), (V.c (C.int .i64 (x36 + (1 : Int))))] m48))))))) → 
 (R45 [(V.c (C.bool b46)), (V.c (C.int .i64 x47))] m48))))) → (R45 [(V.c (C.bool b34)), 
 (V.c (C.int .i64 (0 : Int)))] m37)))))))))))))))))))))) (fitsP .i64 (x26 + (1 : Int)) ∧ 
 (R22 [(V.c (C.bool b34)), (V.c (C.bool b34)), (V.c (C.bool b34)), (V.c (C.int .i64 (x26 + (1 : Int))))] m37))))))) → 
 (R33 [(V.c (C.bool b34)), (V.c (C.bool b35)), (V.c (C.int .i64 x36))] m37)))))) → 
 (R33 [(V.c (C.bool b23)), (V.c (C.bool b23)), (V.c (C.int .i64 (0 : Int)))] m27))))))))))))))))) (Q (V.c (C.bool true)) m27)))))) → 
 (R22 [(V.c (C.bool b23)), (V.c (C.bool b24)), (V.c (C.bool b25)), (V.c (C.int .i64 x26))] m27))))))) → 
 (R22 [(V.c (C.bool false)), (V.c (C.bool false)), (V.c (C.bool false)), (V.c (C.int .i64 (0 : Int)))] m15))))))))))))))))))))))))))))))))))))))))))))))))))))))))) : Wc prog tbl 49 [(V.agg 6 [(C.int .i64 a100), (C.bool a101), (C.int .i64 a102), a103, a104, a105])] m Q :=
 wc_eq (n := 1) rfl (by kernel_rfl) (by kernel_rfl) h
theorem w61 {a100 : C} {m : M} {Q : V → M → Prop} (h :
 (Wc prog tbl 76 [(V.c a100), (V.c (C.fn (Fn.func 77) [] []))] m (fun v0 m1 => (∃ b2 : Bool, ((v0 = (V.c (C.bool b2))) ∧ 
 (ifB b2 (Wc prog tbl 68 [(V.c a100)] m1 (fun v3 m4 => (∃ c5 : C, ((v3 = (V.c c5)) ∧ (Wc prog tbl 78 [(V.c c5)] m4 (fun v6 m7 => 
 (∃ b8 : Bool, ((v6 = (V.c (C.bool b8))) ∧ (ifB b8 (optB (mapO vW [(V.c a100)]) False fun l9 => (Wc prog tbl 76 [(V.c a100), 
 (V.c (C.fn (Fn.func 79) l9 []))] m7 (fun v10 m11 => (∃ b12 : Bool, ((v10 = (V.c (C.bool b12))) ∧ 
 (Q (V.c (C.bool b12)) m11)))))) (Q (V.c (C.bool false)) m7)))))))))) (Q (V.c (C.bool false)) m1))))))) : Wc prog tbl 61 [(V.c a100)] m Q :=
 wc_eq (n := 1) rfl (by kernel_rfl) (by kernel_rfl) h
theorem w64 {a100 : C} {a200 : C} {m : M} {Q : V → M → Prop} (h :
 (∀ m0 : M, ((m0 = (M.new m (AO.cells 5 [(C.bool false), (C.bool false), (C.bool false), (C.bool false), (C.bool false)] false))) → 
 (∀ m1 : M, ((m1 = (M.new m0 (AO.cells 5 [(C.bool false), (C.bool false), (C.bool false), (C.bool false), 
 (C.bool false)] false))) → (isSl a100 ∧ (∀ R2 : List V → M → Prop, ((∀ x3 : Int, (∀ m4 : M, ((ifB (decide (x3 < (((slLen a100) : Nat) : Int))) (isPt (C.ptr m0.nxt 0) ∧ 
 (∃ n5 : Nat, ((x3 = ((n5 : Nat) : Int)) ∧ ((n5 < 5) ∧ (∃ m6 : M, (((stC m4 (C.ptr m0.nxt (0 + (n5 * 1))) 1 [(C.bool true)]) = (some m6)) ∧ 
 (fitsP .i64 (x3 + (1 : Int)) ∧ (R2 [(V.c (C.int .i64 (x3 + (1 : Int))))] m6)))))))) (isSl a200 ∧ 
 (∀ R7 : List V → M → Prop, ((∀ x8 : Int, (∀ m9 : M, ((ifB (decide (x8 < (((slLen a200) : Nat) : Int))) (∃ n10 : Nat, 
 ((x8 = ((n10 : Nat) : Int)) ∧ ((n10 < (slLen a200)) ∧ (∃ x11 : Int, (((ldC m9 (slAt a200 (n10 * 1))) = (some (C.int .i64 x11))) ∧ 
 (isPt (C.ptr m0.nxt 0) ∧ (∃ n12 : Nat, ((x11 = ((n12 : Nat) : Int)) ∧ ((n12 < 5) ∧ 
 (∃ m13 : M, (((stC m9 (C.ptr m0.nxt (0 + (n12 * 1))) 1 [(C.bool false)]) = (some m13)) ∧ 
 (fitsP .i64 (x8 + (1 : Int)) ∧ (R7 [(V.c (C.int .i64 (x8 + (1 : Int))))] m13))))))))))))) (∃ b14 : Bool, 
 (∃ b15 : Bool, (∃ b16 : Bool, (∃ b17 : Bool, (∃ b18 : Bool, (((ldA m9 (C.ptr m0.nxt 0) 5) = (some [(C.bool b14), 
 (C.bool b15), (C.bool b16), (C.bool b17), (C.bool b18)])) ∧ (∃ m19 : M, (((stC m9 (C.ptr m.nxt 0) 5 [(C.bool b14), 
 (C.bool b15), (C.bool b16), (C.bool b17), (C.bool b18)]) = (some m19)) ∧ 
 (∃ b20 : Bool, (∃ b21 : Bool, (∃ b22 : Bool, (∃ b23 : Bool, (∃ b24 : Bool, (((ldA m19 (C.ptr m.nxt 0) 5) = (some [(C.bool b20), 
 (C.bool b21), (C.bool b22), (C.bool b23), (C.bool b24)])) ∧ (Q (V.agg 5 [(C.bool b20), 
 (C.bool b21), (C.bool b22), (C.bool b23), (C.bool b24)]) m19)))))))))))))))) → 
 (R7 [(V.c (C.int .i64 x8))] m9)))) → (R7 [(V.c (C.int .i64 (0 : Int)))] m4))))) → 
 (R2 [(V.c (C.int .i64 x3))] m4)))) → (R2 [(V.c (C.int .i64 (0 : Int)))] m1))))))))) : Wc prog tbl 64 [(V.c a100), (V.c a200)] m Q :=
 wc_eq (n := 2) rfl (by kernel_rfl) (by kernel_rfl) h
theorem w76 {a100 : C} {a200 : C} {m : M} {Q : V → M → Prop} (h :
 (∀ m0 : M, ((m0 = (M.new m (AO.cells 1 [a200] false))) → (Wc prog tbl 87 [(V.c a100), (V.c (C.fn (Fn.func 88) [] [(W.c (C0.ptr m.nxt 0))]))] m0 (fun v1 m2 => 
 (∃ b3 : Bool, ((v1 = (V.c (C.bool b3))) ∧ (Q (V.c (C.bool (!b3))) m2)))))))) : Wc prog tbl 76 [(V.c a100), (V.c a200)] m Q :=
 wc_eq (n := 2) rfl (by kernel_rfl) (by kernel_rfl) h
theorem w79 {a100 : C} {a200 : Int} {a201 : Bool} {a202 : Int} {a203 : C} {a204 : C} {a205 : C} {m : M} {Q : V → M → Prop} (h :
 (∀ m0 : M, ((m0 = (M.new m (AO.cells 6 [(C.int .i64 a200), (C.bool a201), (C.int .i64 a202), a203, 
 a204, a205] false))) → (isPt (C.ptr m.nxt 0) ∧ (∃ c1 : C, (((ldC m0 (C.ptr m.nxt 5)) = (some c1)) ∧ 
 (isSl c1 ∧ (∃ n2 : Nat, (((0 : Int) = ((n2 : Nat) : Int)) ∧ ((n2 < (slLen a100)) ∧ (isPt (slAt a100 (n2 * 6)) ∧ 
 (∃ c3 : C, (((ldC m0 (ptAdd (slAt a100 (n2 * 6)) 5)) = (some c3)) ∧ (isSl c3 ∧ (Q (V.c (C.bool (decide ((((slLen c1) : Nat) : Int) = (((slLen c3) : Nat) : Int))))) m0))))))))))))))) : Wc prog tbl 79 [(V.c a100), (V.agg 6 [(C.int .i64 a200), (C.bool a201), (C.int .i64 a202), a203, a204, a205])] m Q :=
 wc_eq (n := 2) rfl (by kernel_rfl) (by kernel_rfl) h
theorem w91 {a100 : C} {a200 : C} {m : M} {Q : V → M → Prop} (h :
 (∀ m0 : M, ((m0 = (M.new m (AO.cells 1 [a200] false))) → (Wc prog tbl 98 [(V.c a100), (V.c (C.fn (Fn.func 99) [] [(W.c (C0.ptr m.nxt 0))]))] m0 (fun v1 m2 => 
 (∃ b3 : Bool, ((v1 = (V.c (C.bool b3))) ∧ (Q (V.c (C.bool (!b3))) m2)))))))) : Wc prog tbl 91 [(V.c a100), (V.c a200)] m Q :=
 wc_eq (n := 2) rfl (by kernel_rfl) (by kernel_rfl) h
theorem w100 {a100 : C} {a200 : C} {m : M} {Q : V → M → Prop} (h :
 (∀ m0 : M, ((m0 = (M.new m (AO.cells 1 [a200] false))) → (Wc prog tbl 104 [(V.c a100), (V.c (C.fn (Fn.func 105) [] [(W.c (C0.ptr m.nxt 0))]))] m0 (fun v1 m2 => 
 (∃ b3 : Bool, ((v1 = (V.c (C.bool b3))) ∧ (Q (V.c (C.bool (!b3))) m2)))))))) : Wc prog tbl 100 [(V.c a100), (V.c a200)] m Q :=
 wc_eq (n := 2) rfl (by kernel_rfl) (by kernel_rfl) h
theorem w103 {a100 : C} {a200 : C} {m : M} {Q : V → M → Prop} (h :
 (isSl a100 ∧ (∀ R0 : List V → M → Prop, ((∀ x1 : Int, (∀ x2 : Int, (∀ m3 : M, ((ifB (decide (x2 < (((slLen a100) : Nat) : Int))) (∃ n4 : Nat, 
 ((x2 = ((n4 : Nat) : Int)) ∧ ((n4 < (slLen a100)) ∧ (∃ c5 : C, (((ldC m3 (slAt a100 (n4 * 1))) = (some c5)) ∧ 
 (callP prog tbl [(V.c c5)] a200 m3 (fun v6 m7 => (∃ b8 : Bool, ((v6 = (V.c (C.bool b8))) ∧ (ifB b8 (Q (V.c (C.int .i64 x2)) m7) (fitsP .i64 (x2 + (1 : Int)) ∧ 
 (R0 [(V.c (C.int .i64 x1)), (V.c (C.int .i64 (x2 + (1 : Int))))] m7)))))))))))) (Q (V.c (C.int .i64 (-1 : Int))) m3)) → 
 (R0 [(V.c (C.int .i64 x1)), (V.c (C.int .i64 x2))] m3))))) → (R0 [(V.c (C.int .i64 (0 : Int))), 
 (V.c (C.int .i64 (0 : Int)))] m))))) : Wc prog tbl 103 [(V.c a100), (V.c a200)] m Q :=
 wc_eq (n := 2) rfl (by kernel_rfl) (by kernel_rfl) h
theorem w106 {a100 : C} {a200 : C} {m : M} {Q : V → M → Prop} (h :
 (isSl a100 ∧ (∀ R0 : List V → M → Prop, ((∀ x1 : Int, (∀ x2 : Int, (∀ m3 : M, ((ifB (decide (x2 < (((slLen a100) : Nat) : Int))) (∃ n4 : Nat, 
 ((x2 = ((n4 : Nat) : Int)) ∧ ((n4 < (slLen a100)) ∧ (∃ c5 : C, (((ldC m3 (slAt a100 (n4 * 1))) = (some c5)) ∧ 
 (callP prog tbl [(V.c c5)] a200 m3 (fun v6 m7 => (∃ b8 : Bool, ((v6 = (V.c (C.bool b8))) ∧ (ifB b8 (Q (V.c (C.int .i64 x2)) m7) (fitsP .i64 (x2 + (1 : Int)) ∧ 
 (R0 [(V.c (C.int .i64 x1)), (V.c (C.int .i64 (x2 + (1 : Int))))] m7)))))))))))) (Q (V.c (C.int .i64 (-1 : Int))) m3)) → 
 (R0 [(V.c (C.int .i64 x1)), (V.c (C.int .i64 x2))] m3))))) → (R0 [(V.c (C.int .i64 (0 : Int))), 
 (V.c (C.int .i64 (0 : Int)))] m))))) : Wc prog tbl 106 [(V.c a100), (V.c a200)] m Q :=
 wc_eq (n := 2) rfl (by kernel_rfl) (by kernel_rfl) h
end
end Go.Proofs.YtbhdgedghfibcaaGreat

namespace Go.Proofs.YtbhdgedghfibcaaGreat
open _root_.Go.Proofs.Tryz
open Go.Abs
set_option maxRecDepth 100000
noncomputable section
theorem w4 {a100 : C} {a200 : Int} {a300 : Int} {a400 : Int} {a500 : Int} {m : M} {Q : V → M → Prop} (h :
 (Wc prog tbl 14 [(V.c a100)] m (fun v0 m1 => (∃ b2 : Bool, ((v0 = (V.c (C.bool b2))) ∧ (ifB (!b2) (Wc prog tbl 6 [] m1 (fun v3 m4 => 
 (∃ b5 : Bool, ((v3 = (V.c (C.bool b5))) ∧ (Q (V.c (C.bool b5)) m4))))) (isSl a100 ∧ (((0 : Int) ≤ (wrapZ .i64 a200)) ∧ 
 (((0 : Int) < (((slLen a100) : Nat) : Int)) ∧ (fitsP .i64 ((wrapZ .i64 a200) % (((slLen a100) : Nat) : Int)) ∧ 
 (Wc prog tbl 11 [(V.c a100)] m1 (fun v6 m7 => (∃ x8 : Int, ((v6 = (V.c (C.int .i64 x8))) ∧ 
 ((isSl a100 ∧ ((V.c (C.int .i64 (((slLen a100) : Nat) : Int))) = (V.c (C.int .i64 (((slLen a100) : Nat) : Int))))) ∧ 
 (((0 : Int) ≤ (wrapZ .i64 a300)) ∧ (((0 : Int) < x8) ∧ (fitsP .i64 ((wrapZ .i64 a300) % x8) ∧ 
 (∃ n9 : Nat, ((((wrapZ .i64 a200) % (((slLen a100) : Nat) : Int)) = ((n9 : Nat) : Int)) ∧ 
 ((n9 < (slLen a100)) ∧ (isPt (slAt a100 (n9 * 6)) ∧ (∃ c10 : C, (((ldC m7 (ptAdd (slAt a100 (n9 * 6)) 3)) = (some c10)) ∧ 
 (isSl c10 ∧ (((0 : Int) ≤ (wrapZ .i64 a400)) ∧ (((0 : Int) < (((slLen c10) : Nat) : Int)) ∧ 
 (fitsP .i64 ((wrapZ .i64 a400) % (((slLen c10) : Nat) : Int)) ∧ (∃ n11 : Nat, 
 ((((wrapZ .i64 a200) % (((slLen a100) : Nat) : Int)) = ((n11 : Nat) : Int)) ∧ 
 ((n11 < (slLen a100)) ∧ (isPt (slAt a100 (n11 * 6)) ∧ (∃ c12 : C, (((ldC m7 (ptAdd (slAt a100 (n11 * 6)) 5)) = (some c12)) ∧ 
 (∃ n13 : Nat, ((((wrapZ .i64 a300) % x8) = ((n13 : Nat) : Int)) ∧ ((n13 < (slLen c12)) ∧ 
 (∃ c14 : C, (((ldC m7 (slAt c12 (n13 * 1))) = (some c14)) ∧ (∃ n15 : Nat, 
 ((((wrapZ .i64 a400) % (((slLen c10) : Nat) : Int)) = ((n15 : Nat) : Int)) ∧ 
 ((n15 < (slLen c14)) ∧ (∃ c16 : C, (((ldC m7 (slAt c14 (n15 * 1))) = (some c16)) ∧ 
 (Wc prog tbl 8 [(V.c a100)] m7 (fun v17 m18 => (∃ c19 : C, ((v17 = (V.c c19)) ∧ 
 (Wc prog tbl 7 [(V.c c19), (V.c (C.int .i64 ((wrapZ .i64 a200) % (((slLen a100) : Nat) : Int)))), 
 (V.c (C.int .i64 ((wrapZ .i64 a300) % x8))), (V.c (C.int .i64 ((wrapZ .i64 a400) % (((slLen c10) : Nat) : Int))))] m18 (fun v20 m21 => 
 (∃ c22 : C, (∃ x23 : Int, ((v20 = (V.tup [(U.c c22), (U.c (C.int .i64 x23))])) ∧ 
 (ifB (!decide (x23 = (0 : Int))) (Q (V.c (C.bool false)) m21) (∀ R24 : List V → 
 M → Prop, ((∀ b25 : Bool, (∀ x26 : Int, (∀ x27 : Int, (∀ m28 : M, ((isSl c22 ∧ 
 (ifB (decide (x27 < (((slLen c22) : Nat) : Int))) (∃ n29 : Nat, ((x27 = ((n29 : Nat) : Int)) ∧ 
 ((n29 < (slLen c22)) ∧ (∃ x30 : Int, (((ldC m28 (slAt c22 (n29 * 1))) = (some (C.int .i64 x30))) ∧ 
 (isSl c16 ∧ (fitsP .i64 ((((slLen c16) : Nat) : Int) - (1 : Int)) ∧ (Wc prog tbl 10 [(V.c (C.int .i64 x30)), 
 (V.c (C.int .i64 (0 : Int))), (V.c (C.int .i64 ((((slLen c16) : Nat) : Int) - (1 : Int))))] m28 (fun v31 m32 => 
 (∃ b33 : Bool, ((v31 = (V.c (C.bool b33))) ∧ (ifB (!b33) (Q (V.c (C.bool false)) m32) (ifB (decide ((0 : Int) < x27)) (∃ n34 : Nat, 
 ((x27 = ((n34 : Nat) : Int)) ∧ ((n34 < (slLen c22)) ∧ (∃ x35 : Int, (((ldC m32 (slAt c22 (n34 * 1))) = (some (C.int .i64 x35))) ∧ 
 (fitsP .i64 (x27 - (1 : Int)) ∧ (∃ n36 : Nat, (((x27 - (1 : Int)) = ((n36 : Nat) : Int)) ∧ 
 ((n36 < (slLen c22)) ∧ (∃ x37 : Int, (((ldC m32 (slAt c22 (n36 * 1))) = (some (C.int .i64 x37))) ∧ 
 (ifB (decide (x35 ≤ x37)) (Q (V.c (C.bool false)) m32) (∃ n38 : Nat, ((x27 = ((n38 : Nat) : Int)) ∧ 
 ((n38 < (slLen c22)) ∧ (∃ x39 : Int, (((ldC m32 (slAt c22 (n38 * 1))) = (some (C.int .i64 x39))) ∧ 
 (((0 : Int) ≤ (1 : Int)) ∧ (((0 : Int) ≤ (wrapZ .u64 x39)) ∧ (((wrapZ .u64 x39) ≤ (64 : Int)) ∧ 
 (fitsP .i64 ((1 : Int) * ((2 : Int) ^ (Int.toNat (wrapZ .u64 x39)))) ∧ 
 (((0 : Int) ≤ x26) ∧ (((0 : Int) ≤ ((1 : Int) * ((2 : Int) ^ (Int.toNat (wrapZ .u64 x39))))) ∧ 
 (fitsP .i64 x26 ∧ (fitsP .i64 ((1 : Int) * ((2 : Int) ^ (Int.toNat (wrapZ .u64 x39)))) ∧ 
 (fitsP .i64 (((Nat.lor (Int.toNat x26) (Int.toNat ((1 : Int) * ((2 : Int) ^ (Int.toNat (wrapZ .u64 x39)))))) : Nat) : Int) ∧ 
 (fitsP .i64 (x27 + (1 : Int)) ∧ (R24 [(V.c (C.bool b25)), (V.c (C.int .i64 (((Nat.lor (Int.toNat x26) (Int.toNat ((1 : Int) * ((2 : Int) ^ (Int.toNat (wrapZ .u64 x39)))))) : Nat) : Int))), 
 (V.c (C.int .i64 (x27 + (1 : Int))))] m32)))))))))))))))))))))))))))) (∃ n40 : Nat, 
 ((x27 = ((n40 : Nat) : Int)) ∧ ((n40 < (slLen c22)) ∧ (∃ x41 : Int, (((ldC m32 (slAt c22 (n40 * 1))) = (some (C.int .i64 x41))) ∧ 
 (((0 : Int) ≤ (1 : Int)) ∧ (((0 : Int) ≤ (wrapZ .u64 x41)) ∧ (((wrapZ .u64 x41) ≤ (64 : Int)) ∧ 
 (fitsP .i64 ((1 : Int) * ((2 : Int) ^ (Int.toNat (wrapZ .u64 x41)))) ∧ 
 (((0 : Int) ≤ x26) ∧ (((0 : Int) ≤ ((1 : Int) * ((2 : Int) ^ (Int.toNat (wrapZ .u64 x41))))) ∧ 
 (fitsP .i64 x26 ∧ (fitsP .i64 ((1 : Int) * ((2 : Int) ^ (Int.toNat (wrapZ .u64 x41)))) ∧ 
 (fitsP .i64 (((Nat.lor (Int.toNat x26) (Int.toNat ((1 : Int) * ((2 : Int) ^ (Int.toNat (wrapZ .u64 x41)))))) : Nat) : Int) ∧ 
 (fitsP .i64 (x27 + (1 : Int)) ∧ (R24 [(V.c (C.bool b25)), (V.c (C.int .i64 (((Nat.lor (Int.toNat x26) (Int.toNat ((1 : Int) * ((2 : Int) ^ (Int.toNat (wrapZ .u64 x41)))))) : Nat) : Int))), 
 (V.c (C.int .i64 (x27 + (1 : Int))))] m32))))))))))))))))))))))))))))) (isSl c16 ∧ 
 (((0 : Int) ≤ (1 : Int)) ∧ (((0 : Int) ≤ (wrapZ .u64 (((slLen c16) : Nat) : Int))) ∧ 
 (((wrapZ .u64 (((slLen c16) : Nat) : Int)) ≤ (64 : Int)) ∧ (fitsP .i64 ((1 : Int) * ((2 : Int) ^ (Int.toNat (wrapZ .u64 (((slLen c16) : Nat) : Int))))) ∧ 
 (((0 : Int) ≤ (wrapZ .i64 a500)) ∧ (((0 : Int) < ((1 : Int) * ((2 : Int) ^ (Int.toNat (wrapZ .u64 (((slLen c16) : Nat) : Int)))))) ∧ 
 (fitsP .i64 ((wrapZ .i64 a500) % ((1 : Int) * ((2 : Int) ^ (Int.toNat (wrapZ .u64 (((slLen c16) : Nat) : Int)))))) ∧ 
 (Wc prog tbl 15 [(V.c c16), (V.c (C.int .i64 x26))] m28 (fun v42 m43 => 
 (∃ b44 : Bool, ((v42 = (V.c (C.bool b44))) ∧ (ifB b44 (Wc prog tbl 15 [(V.c c16), 
 (V.c (C.int .i64 ((wrapZ .i64 a500) % ((1 : Int) * ((2 : Int) ^ (Int.toNat (wrapZ .u64 (((slLen c16) : Nat) : Int))))))))] m43 (fun v45 m46 => 
 (∃ b47 : Bool, ((v45 = (V.c (C.bool b47))) ∧ (ifB b47 (Wc prog tbl 17 [(V.c (C.int .i64 ((wrapZ .i64 a500) % ((1 : Int) * ((2 : Int) ^ (Int.toNat (wrapZ .u64 (((slLen c16) : Nat) : Int))))))))] m46 (fun v48 m49 => 
 (∃ c50 : C, ((v48 = (V.c c50)) ∧ (Wc prog tbl 16 [(V.c c50), (V.c c22)] m49 (fun v51 m52 => 
 (∃ b53 : Bool, ((v51 = (V.c (C.bool b53))) ∧ (ifB (!b53) (isSl c22 ∧ (Wc prog tbl 15 [(V.c c16), 
 (V.c (C.int .i64 (0 : Int)))] m52 (fun v54 m55 => (∃ b56 : Bool, ((v54 = (V.c (C.bool b56))) ∧ 
 (ifB ((decide ((((slLen c22) : Nat) : Int) = (0 : Int))) == b56) (Wc prog tbl 6 [] m55 (fun v57 m58 => 
 (∃ b59 : Bool, ((v57 = (V.c (C.bool b59))) ∧ (Q (V.c (C.bool b59)) m58))))) (Q (V.c (C.bool false)) m55))))))) (Q (V.c (C.bool false)) m52)))))))))) (isSl c22 ∧ 
 (Wc prog tbl 15 [(V.c c16), (V.c (C.int .i64 (0 : Int)))] m46 (fun v60 m61 => 
 (∃ b62 : Bool, ((v60 = (V.c (C.bool b62))) ∧ (ifB ((decide ((((slLen c22) : Nat) : Int) = (0 : Int))) == b62) (Wc prog tbl 6 [] m61 (fun v63 m64 => 
 (∃ b65 : Bool, ((v63 = (V.c (C.bool b65))) ∧ (Q (V.c (C.bool b65)) m64))))) (Q (V.c (C.bool false)) m61)))))))))))) (Q (V.c (C.bool false)) m43)))))))))))))))) → 
 (R24 [(V.c (C.bool b25)), (V.c (C.int .i64 x26)), (V.c (C.int .i64 x27))] m28)))))) → 
 (R24 [(V.c (C.bool false)), (V.c (C.int .i64 (0 : Int))), (V.c (C.int .i64 (0 : Int)))] m21))))))))))))))))))))))))))))))))))))))))))))))))))))))))) : Wc prog tbl 4 [(V.c a100), (V.c (C.int .u8 a200)), (V.c (C.int .u8 a300)), (V.c (C.int .u8 a400)), (V.c (C.int .u8 a500))] m Q :=
 wc_eq (n := 5) rfl (by kernel_rfl) (by kernel_rfl) h
theorem w8 {a100 : C} {m : M} {Q : V → M → Prop} (h :
 (∀ R0 : List V → M → Prop, ((∀ c1 : C, (∀ x2 : Int, (∀ m3 : M, ((isSl a100 ∧ (ifB (decide (x2 < (((slLen a100) : Nat) : Int))) (∀ m4 : M, 
 ((m4 = (mGrow m3 1)) → (∃ n5 : Nat, ((x2 = ((n5 : Nat) : Int)) ∧ ((n5 < (slLen a100)) ∧ (isPt (slAt a100 (n5 * 6)) ∧ 
 (∃ x6 : Int, (((ldC m4 (ptAdd (slAt a100 (n5 * 6)) 0)) = (some (C.int .i64 x6))) ∧ 
 (∃ n7 : Nat, ((x2 = ((n7 : Nat) : Int)) ∧ ((n7 < (slLen a100)) ∧ (isPt (slAt a100 (n7 * 6)) ∧ 
 (∃ b8 : Bool, (((ldC m4 (ptAdd (slAt a100 (n7 * 6)) 1)) = (some (C.bool b8))) ∧ 
 (∃ n9 : Nat, ((x2 = ((n9 : Nat) : Int)) ∧ ((n9 < (slLen a100)) ∧ (isPt (slAt a100 (n9 * 6)) ∧ 
 (∃ x10 : Int, (((ldC m4 (ptAdd (slAt a100 (n9 * 6)) 2)) = (some (C.int .i64 x10))) ∧ 
 (∃ n11 : Nat, ((x2 = ((n11 : Nat) : Int)) ∧ ((n11 < (slLen a100)) ∧ (isPt (slAt a100 (n11 * 6)) ∧ 
 (∃ c12 : C, (((ldC m4 (ptAdd (slAt a100 (n11 * 6)) 3)) = (some c12)) ∧ 
 (Wc prog tbl 29 [(V.c c12)] m4 (fun v13 m14 => (∃ c15 : C, ((v13 = (V.c c15)) ∧ 
 (((ldC m14 (ptAdd (slAt a100 (n9 * 6)) 2)) = (some (C.int .i64 x10))) ∧ 
 (((ldC m14 (ptAdd (slAt a100 (n7 * 6)) 1)) = (some (C.bool b8))) ∧ (((ldC m14 (ptAdd (slAt a100 (n5 * 6)) 0)) = (some (C.int .i64 x6))) ∧ 
 (∃ n16 : Nat, ((x2 = ((n16 : Nat) : Int)) ∧ ((n16 < (slLen a100)) ∧ (isPt (slAt a100 (n16 * 6)) ∧ 
 (∃ c17 : C, (((ldC m14 (ptAdd (slAt a100 (n16 * 6)) 4)) = (some c17)) ∧ 
 ((ifB (noFnC c17) ((ldC m4 (ptAdd (slAt a100 (n16 * 6)) 4)) = (some c17)) False) ∧ 
 (Wc prog tbl 29 [(V.c c17)] m14 (fun v18 m19 => (∃ c20 : C, ((v18 = (V.c c20)) ∧ 
 (((ldC m19 (ptAdd (slAt a100 (n9 * 6)) 2)) = (some (C.int .i64 x10))) ∧ 
 (((ldC m19 (ptAdd (slAt a100 (n7 * 6)) 1)) = (some (C.bool b8))) ∧ (((ldC m19 (ptAdd (slAt a100 (n5 * 6)) 0)) = (some (C.int .i64 x6))) ∧ 
 (∀ m21 : M, ((m21 = (M.set m19 (m3.nxt + 0) (AO.cells 6 [(C.int .i64 (0 : Int)), 
 (C.bool false), (C.int .i64 (0 : Int)), C.sl0, C.sl0, C.sl0] false))) → 
 ((ifB (noFnC c17) ((ldC m21 (ptAdd (slAt a100 (n16 * 6)) 4)) = (some c17)) False) ∧ 
 ((ifB (noFnC c12) ((ldC m21 (ptAdd (slAt a100 (n11 * 6)) 3)) = (some c12)) False) ∧ 
 (((ldC m21 (ptAdd (slAt a100 (n9 * 6)) 2)) = (some (C.int .i64 x10))) ∧ 
 (((ldC m21 (ptAdd (slAt a100 (n7 * 6)) 1)) = (some (C.bool b8))) ∧ (((ldC m21 (ptAdd (slAt a100 (n5 * 6)) 0)) = (some (C.int .i64 x6))) ∧ 
 (∃ m22 : M, (((stC m21 (C.ptr (m3.nxt + 0) 0) 6 [(C.int .i64 x6), (C.bool b8), 
 (C.int .i64 x10), c15, c20, C.sl0]) = (some m22)) ∧ (∀ R23 : List V → 
 M → Prop, ((∀ x24 : Int, (∀ m25 : M, ((∃ n26 : Nat, ((x2 = ((n26 : Nat) : Int)) ∧ 
 ((n26 < (slLen a100)) ∧ (isPt (slAt a100 (n26 * 6)) ∧ (∃ c27 : C, (((ldC m25 (ptAdd (slAt a100 (n26 * 6)) 5)) = (some c27)) ∧ 
 (isSl c27 ∧ (ifB (decide (x24 < (((slLen c27) : Nat) : Int))) (∀ R28 : List V → 
 M → Prop, ((∀ c29 : C, (∀ x30 : Int, (∀ m31 : M, ((∃ n32 : Nat, ((x2 = ((n32 : Nat) : Int)) ∧ 
 ((n32 < (slLen a100)) ∧ (isPt (slAt a100 (n32 * 6)) ∧ (∃ c33 : C, (((ldC m31 (ptAdd (slAt a100 (n32 * 6)) 5)) = (some c33)) ∧ 
 (∃ n34 : Nat, ((x24 = ((n34 : Nat) : Int)) ∧ ((n34 < (slLen c33)) ∧ (∃ c35 : C, 
 (((ldC m31 (slAt c33 (n34 * 1))) = (some c35)) ∧ (isSl c35 ∧ (ifB (decide (x30 < (((slLen c35) : Nat) : Int))) (∃ n36 : Nat, 
 ((x2 = ((n36 : Nat) : Int)) ∧ ((n36 < (slLen a100)) ∧ (isPt (slAt a100 (n36 * 6)) ∧ 
 (∃ c37 : C, (((ldC m31 (ptAdd (slAt a100 (n36 * 6)) 5)) = (some c37)) ∧ 
 (∃ n38 : Nat, ((x24 = ((n38 : Nat) : Int)) ∧ ((n38 < (slLen c37)) ∧ (∃ c39 : C, 
 (((ldC m31 (slAt c37 (n38 * 1))) = (some c39)) ∧ (∃ n40 : Nat, ((x30 = ((n40 : Nat) : Int)) ∧ 
 ((n40 < (slLen c39)) ∧ (∃ c41 : C, (((ldC m31 (slAt c39 (n40 * 1))) = (some c41)) ∧ 
 (Wc prog tbl 29 [(V.c c41)] m31 (fun v42 m43 => (∃ c44 : C, ((v42 = (V.c c44)) ∧ 
 (∀ m45 : M, ((m45 = (M.new m43 (AO.cells 1 [c44] false))) → (∃ c46 : C, (∃ m47 : M, 
 ((ApR prog 39 m45 c29 (C.sl m43.nxt 0 1 0 (some 1)) c46 m47) ∧ (fitsP .i64 (x30 + (1 : Int)) ∧ 
 (R28 [(V.c c46), (V.c (C.int .i64 (x30 + (1 : Int))))] m47))))))))))))))))))))))))))) (isPt (C.ptr (m3.nxt + 0) 0) ∧ 
 (∃ c48 : C, (((ldC m31 (C.ptr (m3.nxt + 0) 5)) = (some c48)) ∧ (∀ m49 : M, 
 ((m49 = (M.new m31 (AO.cells 1 [c29] false))) → (∃ c50 : C, (∃ m51 : M, ((ApR prog 34 m49 c48 (C.sl m31.nxt 0 1 0 (some 1)) c50 m51) ∧ 
 (isPt (C.ptr (m3.nxt + 0) 0) ∧ (∃ m52 : M, (((stC m51 (C.ptr (m3.nxt + 0) 5) 1 [c50]) = (some m52)) ∧ 
 (fitsP .i64 (x24 + (1 : Int)) ∧ (R23 [(V.c (C.int .i64 (x24 + (1 : Int))))] m52)))))))))))))))))))))))))) → 
 (R28 [(V.c c29), (V.c (C.int .i64 x30))] m31))))) → (R28 [(V.c C.sl0), 
 (V.c (C.int .i64 (0 : Int)))] m25))) (∃ x53 : Int, (∃ b54 : Bool, (∃ x55 : Int, 
 (∃ c56 : C, (∃ c57 : C, (∃ c58 : C, (((ldA m25 (C.ptr (m3.nxt + 0) 0) 6) = (some [(C.int .i64 x53), 
 (C.bool b54), (C.int .i64 x55), c56, c57, c58])) ∧ (∀ m59 : M, ((m59 = (M.new m25 (AO.cells 6 [(C.int .i64 x53), 
 (C.bool b54), (C.int .i64 x55), c56, c57, c58] false))) → (∃ c60 : C, 
 (∃ m61 : M, ((ApR prog 29 m59 c1 (C.sl m25.nxt 0 1 0 (some 1)) c60 m61) ∧ 
 (fitsP .i64 (x2 + (1 : Int)) ∧ (R0 [(V.c c60), (V.c (C.int .i64 (x2 + (1 : Int))))] m61)))))))))))))))))))))) → 
 (R23 [(V.c (C.int .i64 x24))] m25)))) → (R23 [(V.c (C.int .i64 (0 : Int)))] m22))))))))))))))))))))))))))))))))))))))))))))))))))))))))))) (Q (V.c c1) m3))) → 
 (R0 [(V.c c1), (V.c (C.int .i64 x2))] m3))))) → (R0 [(V.c C.sl0), (V.c (C.int .i64 (0 : Int)))] m)))) : Wc prog tbl 8 [(V.c a100)] m Q :=
 wc_eq (n := 1) rfl (by kernel_rfl) (by kernel_rfl) h
theorem w11 {a100 : C} {m : M} {Q : V → M → Prop} (h :
 (∃ n0 : Nat, (((0 : Int) = ((n0 : Nat) : Int)) ∧ ((n0 < (slLen a100)) ∧ (isPt (slAt a100 (n0 * 6)) ∧ (∃ c1 : C, 
 (((ldC m (ptAdd (slAt a100 (n0 * 6)) 5)) = (some c1)) ∧ (isSl c1 ∧ (Q (V.c (C.int .i64 (((slLen c1) : Nat) : Int))) m))))))))) : Wc prog tbl 11 [(V.c a100)] m Q :=
 wc_eq (n := 1) rfl (by kernel_rfl) (by kernel_rfl) h
theorem w14 {a100 : C} {m : M} {Q : V → M → Prop} (h :
 (Wc prog tbl 5 [(V.c a100)] m (fun v0 m1 => (∃ b2 : Bool, ((v0 = (V.c (C.bool b2))) ∧ (ifB b2 (Wc prog tbl 9 [(V.c a100)] m1 (fun v3 m4 => 
 (∃ x5 : Int, ((v3 = (V.c (C.int .i64 x5))) ∧ (Q (V.c (C.bool (decide (x5 = (0 : Int))))) m4))))) (Q (V.c (C.bool false)) m1))))))) : Wc prog tbl 14 [(V.c a100)] m Q :=
 wc_eq (n := 1) rfl (by kernel_rfl) (by kernel_rfl) h
theorem w17 {a100 : Int} {m : M} {Q : V → M → Prop} (h :
 (∀ R0 : List V → M → Prop, ((∀ c1 : C, (∀ x2 : Int, (∀ m3 : M, ((((0 : Int) ≤ a100) ∧ (((0 : Int) ≤ (wrapZ .u64 x2)) ∧ 
 (((wrapZ .u64 x2) ≤ (64 : Int)) ∧ (fitsP .i64 (a100 / ((2 : Int) ^ (Int.toNat (wrapZ .u64 x2)))) ∧ 
 (ifB (decide ((0 : Int) < (a100 / ((2 : Int) ^ (Int.toNat (wrapZ .u64 x2)))))) (((0 : Int) ≤ a100) ∧ 
 (((0 : Int) ≤ (wrapZ .u64 x2)) ∧ (((wrapZ .u64 x2) ≤ (64 : Int)) ∧ (fitsP .i64 (a100 / ((2 : Int) ^ (Int.toNat (wrapZ .u64 x2)))) ∧ 
 (((0 : Int) ≤ (a100 / ((2 : Int) ^ (Int.toNat (wrapZ .u64 x2))))) ∧ (((0 : Int) < (2 : Int)) ∧ 
 (fitsP .i64 ((a100 / ((2 : Int) ^ (Int.toNat (wrapZ .u64 x2)))) % (2 : Int)) ∧ 
 (ifB (decide (((a100 / ((2 : Int) ^ (Int.toNat (wrapZ .u64 x2)))) % (2 : Int)) = (1 : Int))) (∀ m4 : M, 
 ((m4 = (M.new m3 (AO.cells 1 [(C.int .i64 x2)] false))) → (∃ c5 : C, (∃ m6 : M, 
 ((ApR prog 25 m4 c1 (C.sl m3.nxt 0 1 0 (some 1)) c5 m6) ∧ (fitsP .i64 (x2 + (1 : Int)) ∧ 
 (R0 [(V.c c5), (V.c (C.int .i64 (x2 + (1 : Int))))] m6))))))) (fitsP .i64 (x2 + (1 : Int)) ∧ 
 (R0 [(V.c c1), (V.c (C.int .i64 (x2 + (1 : Int))))] m3)))))))))) (Q (V.c c1) m3)))))) → 
 (R0 [(V.c c1), (V.c (C.int .i64 x2))] m3))))) → (R0 [(V.c C.sl0), (V.c (C.int .i64 (0 : Int)))] m)))) : Wc prog tbl 17 [(V.c (C.int .i64 a100))] m Q :=
 wc_eq (n := 1) rfl (by kernel_rfl) (by kernel_rfl) h
theorem w26 {a100 : C} {m : M} {Q : V → M → Prop} (h :
 (∀ m0 : M, ((m0 = (M.new m (AO.cells 2 [C.sl0, C.map0] false))) → (Wc prog tbl 45 [(V.c a100)] m0 (fun v1 m2 => 
 (∃ x3 : Int, ((v1 = (V.c (C.int .i64 x3))) ∧ (ifB (!decide (x3 = (0 : Int))) (∃ m4 : M, (((stC m2 (C.ptr m.nxt 0) 2 [C.sl0, 
 C.map0]) = (some m4)) ∧ (∃ c5 : C, (∃ c6 : C, (((ldA m4 (C.ptr m.nxt 0) 2) = (some [c5, 
 c6])) ∧ (Q (V.tup [(U.agg 2 [c5, c6]), (U.c (C.int .i64 x3))]) m4)))))) (∀ m7 : M, ((m7 = (M.new m2 (AO.map [] 0))) → 
 (∃ m8 : M, (((stC m7 (C.ptr m.nxt 0) 2 [a100, (C.map m2.nxt)]) = (some m8)) ∧ (∃ c9 : C, 
 (∃ c10 : C, (((ldA m8 (C.ptr m.nxt 0) 2) = (some [c9, c10])) ∧ (Q (V.tup [(U.agg 2 [c9, 
 c10]), (U.c (C.int .i64 (0 : Int)))]) m8)))))))))))))))) : Wc prog tbl 26 [(V.c a100)] m Q :=
 wc_eq (n := 1) rfl (by kernel_rfl) (by kernel_rfl) h
theorem w29 {a100 : C} {m : M} {Q : V → M → Prop} (h :
 (∀ m0 : M, ((m0 = (M.new m (AO.cells 0 [] false))) → (∃ c1 : C, (∃ m2 : M, ((ApR prog 25 m0 (C.sl m.nxt 0 0 0 (some 0)) a100 c1 m2) ∧ 
 (Q (V.c c1) m2))))))) : Wc prog tbl 29 [(V.c a100)] m Q :=
 wc_eq (n := 1) rfl (by kernel_rfl) (by kernel_rfl) h
theorem w32 {a100 : C} {a200 : Int} {m : M} {Q : V → M → Prop} (h :
 (∃ n0 : Nat, (((0 : Int) = ((n0 : Nat) : Int)) ∧ ((n0 < (slLen a100)) ∧ (isPt (slAt a100 (n0 * 6)) ∧ (∃ c1 : C, 
 (((ldC m (ptAdd (slAt a100 (n0 * 6)) 5)) = (some c1)) ∧ (isSl c1 ∧ (Wc prog tbl 46 [(V.c (C.int .i64 a200)), 
 (V.c (C.int .i64 (((slLen c1) : Nat) : Int)))] m (fun v2 m3 => (∃ b4 : Bool, ((v2 = (V.c (C.bool b4))) ∧ 
 (Q (V.c (C.bool b4)) m3))))))))))))) : Wc prog tbl 32 [(V.c a100), (V.c (C.int .i64 a200))] m Q :=
 wc_eq (n := 2) rfl (by kernel_rfl) (by kernel_rfl) h
theorem w47 {a100 : Int} {a200 : C} {m : M} {Q : V → M → Prop} (h :
 (∀ m0 : M, ((m0 = (M.new m (AO.cells 1 [a200] false))) → (∀ m1 : M, ((m1 = (M.new m0 (AO.cells 1 [C.sl0] false))) → 
 (fitsP .i64 (a100 + (1 : Int)) ∧ (∀ R2 : List V → M → Prop, ((∀ x3 : Int, (∀ m4 : M, ((ifB (decide (x3 < (a100 + (1 : Int)))) (Wc prog tbl 62 [(V.c (C.int .i64 a100)), 
 (V.c (C.int .i64 x3))] m4 (fun v5 m6 => (∃ c7 : C, ((v5 = (V.c c7)) ∧ (rangeP prog tbl c7 m6 (fun l10 m11 R12 R13 => 
 (∃ c14 : C, ((l10 = [(V.c c14)]) ∧ (R12 m11 (fun m15 => (∃ c16 : C, (((ldC m15 (C.ptr m.nxt 0)) = (some c16)) ∧ 
 (callP prog tbl [(V.c c14)] c16 m15 (fun v17 m18 => (∃ b19 : Bool, ((v17 = (V.c (C.bool b19))) ∧ 
 (ifB b19 (Wc prog tbl 63 [(V.c c14)] m18 (fun v20 m21 => (∃ c22 : C, ((v20 = (V.c c22)) ∧ 
 (∃ m23 : M, (((stC m21 (C.ptr m0.nxt 0) 1 [c22]) = (some m23)) ∧ (R13 (Ex.exit 0) m23))))))) (R13 Ex.nrm m18))))))))))))) (After.mk (fun m24 => 
 (fitsP .i64 (x3 + (1 : Int)) ∧ (R2 [(V.c (C.int .i64 (x3 + (1 : Int))))] m24))) [(0, 
 (fun m8 => (∃ c9 : C, (((ldC m8 (C.ptr m0.nxt 0)) = (some c9)) ∧ (Q (V.c c9) m8)))))] (fun m25 => 
 (Q (V.c C.sl0) m25)))))))) (∃ c26 : C, (((ldC m4 (C.ptr m0.nxt 0)) = (some c26)) ∧ 
 (Q (V.c c26) m4)))) → (R2 [(V.c (C.int .i64 x3))] m4)))) → (R2 [(V.c (C.int .i64 (0 : Int)))] m1))))))))) : Wc prog tbl 47 [(V.c (C.int .i64 a100)), (V.c a200)] m Q :=
 wc_eq (n := 2) rfl (by kernel_rfl) (by kernel_rfl) h
theorem w50 {a100 : Int} {a101 : Int} {a200 : Int} {m : M} {Q : V → M → Prop} (h :
 (∀ m0 : M, ((m0 = (M.new m (AO.cells 2 [(C.int .i64 a100), (C.int .i64 a101)] false))) → (isPt (C.ptr m.nxt 0) ∧ 
 (∃ x1 : Int, (((ldC m0 (C.ptr m.nxt 0)) = (some (C.int .i64 x1))) ∧ (ifB (decide (x1 ≤ a200)) (isPt (C.ptr m.nxt 0) ∧ 
 (∃ x2 : Int, (((ldC m0 (C.ptr m.nxt 1)) = (some (C.int .i64 x2))) ∧ (Q (V.c (C.bool (decide (a200 ≤ x2)))) m0)))) (Q (V.c (C.bool false)) m0)))))))) : Wc prog tbl 50 [(V.agg 2 [(C.int .i64 a100), (C.int .i64 a101)]), (V.c (C.int .i64 a200))] m Q :=
 wc_eq (n := 2) rfl (by kernel_rfl) (by kernel_rfl) h
theorem w62 {a100 : Int} {a200 : Int} {m : M} {Q : V → M → Prop} (h :
 (∀ m0 : M, ((m0 = (M.new m (AO.cells 1 [(C.int .i64 a100)] false))) → (∀ m1 : M, ((m1 = (M.new m0 (AO.cells 1 [(C.int .i64 a200)] false))) → 
 (Q (V.c (C.fn (Fn.func 80) [] [(W.c (C0.ptr m0.nxt 0)), (W.c (C0.ptr m.nxt 0))])) m1)))))) : Wc prog tbl 62 [(V.c (C.int .i64 a100)), (V.c (C.int .i64 a200))] m Q :=
 wc_eq (n := 2) rfl (by kernel_rfl) (by kernel_rfl) h
theorem w65 {a100 : C} {a200 : Bool} {a201 : Bool} {a202 : Bool} {a203 : Bool} {a204 : Bool} {m : M} {Q : V → M → Prop} (h :
 (∀ m0 : M, ((m0 = (M.new m (AO.cells 5 [(C.bool a200), (C.bool a201), (C.bool a202), (C.bool a203), (C.bool a204)] false))) → 
 (∀ m1 : M, ((m1 = (M.new m0 (AO.cells 5 [(C.bool false), (C.bool false), (C.bool false), (C.bool false), 
 (C.bool false)] false))) → (isSl a100 ∧ (∀ R2 : List V → M → Prop, ((∀ x3 : Int, (∀ x4 : Int, (∀ m5 : M, 
 ((ifB (decide (x4 < (((slLen a100) : Nat) : Int))) (∃ n6 : Nat, ((x4 = ((n6 : Nat) : Int)) ∧ ((n6 < (slLen a100)) ∧ 
 (∃ x7 : Int, (((ldC m5 (slAt a100 (n6 * 1))) = (some (C.int .i64 x7))) ∧ (isPt (C.ptr m.nxt 0) ∧ 
 (∃ n8 : Nat, ((x4 = ((n8 : Nat) : Int)) ∧ ((n8 < 5) ∧ (∃ b9 : Bool, (((ldC m5 (C.ptr m.nxt (0 + (n8 * 1)))) = (some (C.bool b9))) ∧ 
 (ifB b9 (isPt (C.ptr m.nxt 0) ∧ (∃ n10 : Nat, ((x4 = ((n10 : Nat) : Int)) ∧ ((n10 < 5) ∧ 
 (∃ m11 : M, (((stC m5 (C.ptr m.nxt (0 + (n10 * 1))) 1 [(C.bool (decide (x3 ≤ x7)))]) = (some m11)) ∧ 
 (fitsP .i64 (x4 + (1 : Int)) ∧ (R2 [(V.c (C.int .i64 x7)), (V.c (C.int .i64 (x4 + (1 : Int))))] m11)))))))) (fitsP .i64 (x4 + (1 : Int)) ∧ 
 (R2 [(V.c (C.int .i64 x3)), (V.c (C.int .i64 (x4 + (1 : Int))))] m5)))))))))))))) (∃ b12 : Bool, 
 (∃ b13 : Bool, (∃ b14 : Bool, (∃ b15 : Bool, (∃ b16 : Bool, (((ldA m5 (C.ptr m.nxt 0) 5) = (some [(C.bool b12), 
 (C.bool b13), (C.bool b14), (C.bool b15), (C.bool b16)])) ∧ (∃ m17 : M, (((stC m5 (C.ptr m0.nxt 0) 5 [(C.bool b12), 
 (C.bool b13), (C.bool b14), (C.bool b15), (C.bool b16)]) = (some m17)) ∧ (∃ b18 : Bool, 
 (∃ b19 : Bool, (∃ b20 : Bool, (∃ b21 : Bool, (∃ b22 : Bool, (((ldA m17 (C.ptr m0.nxt 0) 5) = (some [(C.bool b18), 
 (C.bool b19), (C.bool b20), (C.bool b21), (C.bool b22)])) ∧ (Q (V.agg 5 [(C.bool b18), 
 (C.bool b19), (C.bool b20), (C.bool b21), (C.bool b22)]) m17)))))))))))))))) → 
 (R2 [(V.c (C.int .i64 x3)), (V.c (C.int .i64 x4))] m5))))) → (R2 [(V.c (C.int .i64 (0 : Int))), 
 (V.c (C.int .i64 (0 : Int)))] m1))))))))) : Wc prog tbl 65 [(V.c a100), (V.agg 5 [(C.bool a200), (C.bool a201), (C.bool a202), (C.bool a203), (C.bool a204)])] m Q :=
 wc_eq (n := 2) rfl (by kernel_rfl) (by kernel_rfl) h
theorem w68 {a100 : C} {m : M} {Q : V → M → Prop} (h :
 (isSl a100 ∧ (∀ R0 : List V → M → Prop, ((∀ c1 : C, (∀ x2 : Int, (∀ m3 : M, ((ifB (decide (x2 < (((slLen a100) : Nat) : Int))) (∃ n4 : Nat, 
 ((x2 = ((n4 : Nat) : Int)) ∧ ((n4 < (slLen a100)) ∧ (∃ x5 : Int, (∃ b6 : Bool, (∃ x7 : Int, (∃ c8 : C, 
 (∃ c9 : C, (∃ c10 : C, (((ldA m3 (slAt a100 (n4 * 6)) 6) = (some [(C.int .i64 x5), 
 (C.bool b6), (C.int .i64 x7), c8, c9, c10])) ∧ (∀ m11 : M, ((m11 = (M.new m3 (AO.cells 6 [(C.int .i64 (0 : Int)), 
 (C.bool false), (C.int .i64 (0 : Int)), C.sl0, C.sl0, C.sl0] false))) → (∃ m12 : M, 
 (((stC m11 (C.ptr m3.nxt 0) 6 [(C.int .i64 x5), (C.bool b6), (C.int .i64 x7), 
 c8, c9, c10]) = (some m12)) ∧ (isPt (C.ptr m3.nxt 0) ∧ (∃ x13 : Int, (((ldC m12 (C.ptr m3.nxt 0)) = (some (C.int .i64 x13))) ∧ 
 (∀ m14 : M, ((m14 = (M.new m12 (AO.cells 1 [(C.int .i64 x13)] false))) → (∃ c15 : C, 
 (∃ m16 : M, ((ApR prog 25 m14 c1 (C.sl m12.nxt 0 1 0 (some 1)) c15 m16) ∧ 
 (fitsP .i64 (x2 + (1 : Int)) ∧ (R0 [(V.c c15), (V.c (C.int .i64 (x2 + (1 : Int))))] m16)))))))))))))))))))))))) (Q (V.c c1) m3)) → 
 (R0 [(V.c c1), (V.c (C.int .i64 x2))] m3))))) → (R0 [(V.c C.sl0), (V.c (C.int .i64 (0 : Int)))] m))))) : Wc prog tbl 68 [(V.c a100)] m Q :=
 wc_eq (n := 1) rfl (by kernel_rfl) (by kernel_rfl) h
theorem w74 {a100 : C} {a200 : C} {m : M} {Q : V → M → Prop} (h :
 (Wc prog tbl 86 [(V.c a100), (V.c a200)] m (fun v0 m1 => (∃ x2 : Int, ((v0 = (V.c (C.int .i64 x2))) ∧ (Q (V.c (C.bool (decide ((0 : Int) ≤ x2)))) m1)))))) : Wc prog tbl 74 [(V.c a100), (V.c a200)] m Q :=
 wc_eq (n := 2) rfl (by kernel_rfl) (by kernel_rfl) h
theorem w77 {a100 : Int} {a101 : Bool} {a102 : Int} {a103 : C} {a104 : C} {a105 : C} {m : M} {Q : V → M → Prop} (h :
 (∀ m0 : M, ((m0 = (M.new m (AO.cells 6 [(C.int .i64 a100), (C.bool a101), (C.int .i64 a102), a103, 
 a104, a105] false))) → (isPt (C.ptr m.nxt 0) ∧ (∃ x1 : Int, (((ldC m0 (C.ptr m.nxt 0)) = (some (C.int .i64 x1))) ∧ 
 (Wc prog tbl 33 [(V.c (C.int .i64 x1))] m0 (fun v2 m3 => (∃ b4 : Bool, ((v2 = (V.c (C.bool b4))) ∧ 
 (ifB b4 (isPt (C.ptr m.nxt 0) ∧ (∃ x5 : Int, (((ldC m3 (C.ptr m.nxt 2)) = (some (C.int .i64 x5))) ∧ 
 (Wc prog tbl 89 [(V.c (C.int .i64 x5))] m3 (fun v6 m7 => (∃ b8 : Bool, ((v6 = (V.c (C.bool b8))) ∧ 
 (ifB b8 (isPt (C.ptr m.nxt 0) ∧ (∃ c9 : C, (((ldC m7 (C.ptr m.nxt 3)) = (some c9)) ∧ 
 (Wc prog tbl 78 [(V.c c9)] m7 (fun v10 m11 => (∃ b12 : Bool, ((v10 = (V.c (C.bool b12))) ∧ 
 (ifB b12 (isPt (C.ptr m.nxt 0) ∧ (∃ c13 : C, (((ldC m11 (C.ptr m.nxt 3)) = (some c13)) ∧ 
 (Wc prog tbl 90 [(V.c c13), (V.c (C.fn (Fn.func 33) [] []))] m11 (fun v14 m15 => 
 (∃ b16 : Bool, ((v14 = (V.c (C.bool b16))) ∧ (ifB b16 (isPt (C.ptr m.nxt 0) ∧ 
 (∃ c17 : C, (((ldC m15 (C.ptr m.nxt 4)) = (some c17)) ∧ (Wc prog tbl 78 [(V.c c17)] m15 (fun v18 m19 => 
 (∃ b20 : Bool, ((v18 = (V.c (C.bool b20))) ∧ (ifB b20 (isPt (C.ptr m.nxt 0) ∧ 
 (∃ c21 : C, (((ldC m19 (C.ptr m.nxt 4)) = (some c21)) ∧ (isPt (C.ptr m.nxt 0) ∧ 
 (∃ c22 : C, (((ldC m19 (C.ptr m.nxt 4)) = (some c22)) ∧ (isSl c22 ∧ 
 (fitsP .i64 ((((slLen c22) : Nat) : Int) - (1 : Int)) ∧ (∃ n23 : Nat, 
 ((((((slLen c22) : Nat) : Int) - (1 : Int)) = ((n23 : Nat) : Int)) ∧ ((n23 < (slLen c21)) ∧ 
 (∃ x24 : Int, (((ldC m19 (slAt c21 (n23 * 1))) = (some (C.int .i64 x24))) ∧ 
 (ifB (decide (x24 = (100 : Int))) (isPt (C.ptr m.nxt 0) ∧ (∃ c25 : C, (((ldC m19 (C.ptr m.nxt 5)) = (some c25)) ∧ 
 (isSl c25 ∧ (ifB (decide ((0 : Int) < (((slLen c25) : Nat) : Int))) (isPt (C.ptr m.nxt 0) ∧ 
 (∃ c26 : C, (((ldC m19 (C.ptr m.nxt 5)) = (some c26)) ∧ (∃ x27 : Int, 
 (∃ b28 : Bool, (∃ x29 : Int, (∃ c30 : C, (∃ c31 : C, (∃ c32 : C, (((ldA m19 (C.ptr m.nxt 0) 6) = (some [(C.int .i64 x27), 
 (C.bool b28), (C.int .i64 x29), c30, c31, c32])) ∧ (optB (mapO vW [(V.agg 6 [(C.int .i64 x27), 
 (C.bool b28), (C.int .i64 x29), c30, c31, c32])]) False fun l33 => (Wc prog tbl 91 [(V.c c26), 
 (V.c (C.fn (Fn.func 92) l33 []))] m19 (fun v34 m35 => (∃ b36 : Bool, ((v34 = (V.c (C.bool b36))) ∧ 
 (Q (V.c (C.bool b36)) m35)))))))))))))))) (Q (V.c (C.bool false)) m19)))))) (Q (V.c (C.bool false)) m19))))))))))))))) (Q (V.c (C.bool false)) m19))))))))) (Q (V.c (C.bool false)) m15))))))))) (Q (V.c (C.bool false)) m11))))))))) (Q (V.c (C.bool false)) m7))))))))) (Q (V.c (C.bool false)) m3)))))))))))) : Wc prog tbl 77 [(V.agg 6 [(C.int .i64 a100), (C.bool a101), (C.int .i64 a102), a103, a104, a105])] m Q :=
 wc_eq (n := 1) rfl (by kernel_rfl) (by kernel_rfl) h
theorem w86 {a100 : C} {a200 : C} {m : M} {Q : V → M → Prop} (h :
 (isSl a100 ∧ (∀ R0 : List V → M → Prop, ((∀ x1 : Int, (∀ x2 : Int, (∀ m3 : M, ((ifB (decide (x2 < (((slLen a100) : Nat) : Int))) (∃ n4 : Nat, 
 ((x2 = ((n4 : Nat) : Int)) ∧ ((n4 < (slLen a100)) ∧ (∃ x5 : Int, (∃ b6 : Bool, (∃ x7 : Int, (∃ c8 : C, 
 (∃ c9 : C, (∃ c10 : C, (((ldA m3 (slAt a100 (n4 * 6)) 6) = (some [(C.int .i64 x5), 
 (C.bool b6), (C.int .i64 x7), c8, c9, c10])) ∧ (callP prog tbl [(V.agg 6 [(C.int .i64 x5), 
 (C.bool b6), (C.int .i64 x7), c8, c9, c10])] a200 m3 (fun v11 m12 => (∃ b13 : Bool, 
 ((v11 = (V.c (C.bool b13))) ∧ (ifB b13 (Q (V.c (C.int .i64 x2)) m12) (fitsP .i64 (x2 + (1 : Int)) ∧ 
 (R0 [(V.c (C.int .i64 x1)), (V.c (C.int .i64 (x2 + (1 : Int))))] m12))))))))))))))))) (Q (V.c (C.int .i64 (-1 : Int))) m3)) → 
 (R0 [(V.c (C.int .i64 x1)), (V.c (C.int .i64 x2))] m3))))) → (R0 [(V.c (C.int .i64 (0 : Int))), 
 (V.c (C.int .i64 (0 : Int)))] m))))) : Wc prog tbl 86 [(V.c a100), (V.c a200)] m Q :=
 wc_eq (n := 2) rfl (by kernel_rfl) (by kernel_rfl) h
theorem w89 {a100 : Int} {m : M} {Q : V → M → Prop} (h :
 (Wc prog tbl 50 [(V.agg 2 [(C.int .i64 (0 : Int)), (C.int .i64 (100 : Int))]), (V.c (C.int .i64 a100))] m (fun v0 m1 => 
 (∃ b2 : Bool, ((v0 = (V.c (C.bool b2))) ∧ (Q (V.c (C.bool b2)) m1)))))) : Wc prog tbl 89 [(V.c (C.int .i64 a100))] m Q :=
 wc_eq (n := 1) rfl (by kernel_rfl) (by kernel_rfl) h
theorem w92 {a100 : Int} {a101 : Bool} {a102 : Int} {a103 : C} {a104 : C} {a105 : C} {a200 : C} {m : M} {Q : V → M → Prop} (h :
 (∀ m0 : M, ((m0 = (M.new m (AO.cells 6 [(C.int .i64 a100), (C.bool a101), (C.int .i64 a102), a103, 
 a104, a105] false))) → (isSl a200 ∧ (isPt (C.ptr m.nxt 0) ∧ (∃ c1 : C, (((ldC m0 (C.ptr m.nxt 3)) = (some c1)) ∧ 
 (isSl c1 ∧ (ifB (decide ((((slLen a200) : Nat) : Int) = (((slLen c1) : Nat) : Int))) (∃ x2 : Int, (∃ b3 : Bool, 
 (∃ x4 : Int, (∃ c5 : C, (∃ c6 : C, (∃ c7 : C, (((ldA m0 (C.ptr m.nxt 0) 6) = (some [(C.int .i64 x2), 
 (C.bool b3), (C.int .i64 x4), c5, c6, c7])) ∧ (optB (mapO vW [(V.agg 6 [(C.int .i64 x2), 
 (C.bool b3), (C.int .i64 x4), c5, c6, c7])]) False fun l8 => (Wc prog tbl 100 [(V.c a200), 
 (V.c (C.fn (Fn.func 101) l8 []))] m0 (fun v9 m10 => (∃ b11 : Bool, ((v9 = (V.c (C.bool b11))) ∧ 
 (Q (V.c (C.bool b11)) m10))))))))))))) (Q (V.c (C.bool false)) m0)))))))))) : Wc prog tbl 92 [(V.agg 6 [(C.int .i64 a100), (C.bool a101), (C.int .i64 a102), a103, a104, a105]), (V.c a200)] m Q :=
 wc_eq (n := 2) rfl (by kernel_rfl) (by kernel_rfl) h
theorem w95 {a100 : C} {a200 : C} {m : M} {Q : V → M → Prop} (h :
 (isSl a100 ∧ (∀ R0 : List V → M → Prop, ((∀ x1 : Int, (∀ x2 : Int, (∀ m3 : M, ((ifB (decide (x2 < (((slLen a100) : Nat) : Int))) (∃ n4 : Nat, 
 ((x2 = ((n4 : Nat) : Int)) ∧ ((n4 < (slLen a100)) ∧ (∃ x5 : Int, (∃ b6 : Bool, (∃ x7 : Int, (∃ c8 : C, 
 (∃ c9 : C, (∃ c10 : C, (((ldA m3 (slAt a100 (n4 * 6)) 6) = (some [(C.int .i64 x5), 
 (C.bool b6), (C.int .i64 x7), c8, c9, c10])) ∧ (callP prog tbl [(V.agg 6 [(C.int .i64 x5), 
 (C.bool b6), (C.int .i64 x7), c8, c9, c10])] a200 m3 (fun v11 m12 => (∃ b13 : Bool, 
 ((v11 = (V.c (C.bool b13))) ∧ (ifB b13 (Q (V.c (C.int .i64 x2)) m12) (fitsP .i64 (x2 + (1 : Int)) ∧ 
 (R0 [(V.c (C.int .i64 x1)), (V.c (C.int .i64 (x2 + (1 : Int))))] m12))))))))))))))))) (Q (V.c (C.int .i64 (-1 : Int))) m3)) → 
 (R0 [(V.c (C.int .i64 x1)), (V.c (C.int .i64 x2))] m3))))) → (R0 [(V.c (C.int .i64 (0 : Int))), 
 (V.c (C.int .i64 (0 : Int)))] m))))) : Wc prog tbl 95 [(V.c a100), (V.c a200)] m Q :=
 wc_eq (n := 2) rfl (by kernel_rfl) (by kernel_rfl) h
theorem w98 {a100 : C} {a200 : C} {m : M} {Q : V → M → Prop} (h :
 (Wc prog tbl 103 [(V.c a100), (V.c a200)] m (fun v0 m1 => (∃ x2 : Int, ((v0 = (V.c (C.int .i64 x2))) ∧ (Q (V.c (C.bool (decide ((0 : Int) ≤ x2)))) m1)))))) : Wc prog tbl 98 [(V.c a100), (V.c a200)] m Q :=
 wc_eq (n := 2) rfl (by kernel_rfl) (by kernel_rfl) h
theorem w101 {a100 : Int} {a101 : Bool} {a102 : Int} {a103 : C} {a104 : C} {a105 : C} {a200 : C} {m : M} {Q : V → M → Prop} (h :
 (∀ m0 : M, ((m0 = (M.new m (AO.cells 6 [(C.int .i64 a100), (C.bool a101), (C.int .i64 a102), a103, 
 a104, a105] false))) → (isSl a200 ∧ (isPt (C.ptr m.nxt 0) ∧ (∃ c1 : C, (((ldC m0 (C.ptr m.nxt 4)) = (some c1)) ∧ 
 (isSl c1 ∧ (ifB (decide ((((slLen a200) : Nat) : Int) = (((slLen c1) : Nat) : Int))) (Wc prog tbl 90 [(V.c a200), 
 (V.c (C.fn (Fn.func 89) [] []))] m0 (fun v2 m3 => (∃ b4 : Bool, ((v2 = (V.c (C.bool b4))) ∧ (Q (V.c (C.bool b4)) m3))))) (Q (V.c (C.bool false)) m0)))))))))) : Wc prog tbl 101 [(V.agg 6 [(C.int .i64 a100), (C.bool a101), (C.int .i64 a102), a103, a104, a105]), (V.c a200)] m Q :=
 wc_eq (n := 2) rfl (by kernel_rfl) (by kernel_rfl) h
theorem w104 {a100 : C} {a200 : C} {m : M} {Q : V → M → Prop} (h :
 (Wc prog tbl 106 [(V.c a100), (V.c a200)] m (fun v0 m1 => (∃ x2 : Int, ((v0 = (V.c (C.int .i64 x2))) ∧ (Q (V.c (C.bool (decide ((0 : Int) ≤ x2)))) m1)))))) : Wc prog tbl 104 [(V.c a100), (V.c a200)] m Q :=
 wc_eq (n := 2) rfl (by kernel_rfl) (by kernel_rfl) h
end
end Go.Proofs.YtbhdgedghfibcaaGreat

namespace Go.Proofs.YtbhdgedghfibcaaGreat
open _root_.Go.Proofs.Tryz
open Go.Abs
set_option maxRecDepth 100000
noncomputable section
theorem w5 {a100 : C} {m : M} {Q : V → M → Prop} (h :
 (isSl a100 ∧ (ifB (decide ((5 : Int) < (((slLen a100) : Nat) : Int))) (Q (V.c (C.bool false)) m) (∀ R0 : List V → 
 M → Prop, ((∀ b1 : Bool, (∀ b2 : Bool, (∀ b3 : Bool, (∀ x4 : Int, (∀ m5 : M, ((isSl a100 ∧ (ifB (decide (x4 < (((slLen a100) : Nat) : Int))) (∃ n6 : Nat, 
 ((x4 = ((n6 : Nat) : Int)) ∧ ((n6 < (slLen a100)) ∧ (isPt (slAt a100 (n6 * 6)) ∧ (∃ c7 : C, (((ldC m5 (ptAdd (slAt a100 (n6 * 6)) 3)) = (some c7)) ∧ 
 (isSl c7 ∧ (ifB (decide ((7 : Int) < (((slLen c7) : Nat) : Int))) (Q (V.c (C.bool false)) m5) (∃ n8 : Nat, 
 ((x4 = ((n8 : Nat) : Int)) ∧ ((n8 < (slLen a100)) ∧ (isPt (slAt a100 (n8 * 6)) ∧ (∃ c9 : C, 
 (((ldC m5 (ptAdd (slAt a100 (n8 * 6)) 4)) = (some c9)) ∧ (isSl c9 ∧ (ifB (decide ((7 : Int) < (((slLen c9) : Nat) : Int))) (Q (V.c (C.bool false)) m5) (∃ n10 : Nat, 
 ((x4 = ((n10 : Nat) : Int)) ∧ ((n10 < (slLen a100)) ∧ (isPt (slAt a100 (n10 * 6)) ∧ 
 (∃ c11 : C, (((ldC m5 (ptAdd (slAt a100 (n10 * 6)) 5)) = (some c11)) ∧ 
 (isSl c11 ∧ (ifB (decide ((5 : Int) < (((slLen c11) : Nat) : Int))) (Q (V.c (C.bool false)) m5) (∀ R12 : List V → 
 M → Prop, ((∀ b13 : Bool, (∀ b14 : Bool, (∀ x15 : Int, (∀ m16 : M, ((∃ n17 : Nat, 
 ((x4 = ((n17 : Nat) : Int)) ∧ ((n17 < (slLen a100)) ∧ (isPt (slAt a100 (n17 * 6)) ∧ 
 (∃ c18 : C, (((ldC m16 (ptAdd (slAt a100 (n17 * 6)) 5)) = (some c18)) ∧ 
 (isSl c18 ∧ (ifB (decide (x15 < (((slLen c18) : Nat) : Int))) (∃ n19 : Nat, ((x4 = ((n19 : Nat) : Int)) ∧ 
 ((n19 < (slLen a100)) ∧ (isPt (slAt a100 (n19 * 6)) ∧ (∃ c20 : C, (((ldC m16 (ptAdd (slAt a100 (n19 * 6)) 5)) = (some c20)) ∧ 
 (∃ n21 : Nat, ((x15 = ((n21 : Nat) : Int)) ∧ ((n21 < (slLen c20)) ∧ (∃ c22 : C, 
 (((ldC m16 (slAt c20 (n21 * 1))) = (some c22)) ∧ (isSl c22 ∧ (ifB (decide ((7 : Int) < (((slLen c22) : Nat) : Int))) (Q (V.c (C.bool false)) m16) (∀ R23 : List V → 
 M → Prop, ((∀ b24 : Bool, (∀ x25 : Int, (∀ m26 : M, ((∃ n27 : Nat, ((x4 = ((n27 : Nat) : Int)) ∧ 
 ((n27 < (slLen a100)) ∧ (isPt (slAt a100 (n27 * 6)) ∧ (∃ c28 : C, (((ldC m26 (ptAdd (slAt a100 (n27 * 6)) 5)) = (some c28)) ∧ 
 (∃ n29 : Nat, ((x15 = ((n29 : Nat) : Int)) ∧ ((n29 < (slLen c28)) ∧ (∃ c30 : C, 
 (((ldC m26 (slAt c28 (n29 * 1))) = (some c30)) ∧ (isSl c30 ∧ (ifB (decide (x25 < (((slLen c30) : Nat) : Int))) (∃ n31 : Nat, 
 ((x4 = ((n31 : Nat) : Int)) ∧ ((n31 < (slLen a100)) ∧ (isPt (slAt a100 (n31 * 6)) ∧ 
 (∃ c32 : C, (((ldC m26 (ptAdd (slAt a100 (n31 * 6)) 5)) = (some c32)) ∧ 
 (∃ n33 : Nat, ((x15 = ((n33 : Nat) : Int)) ∧ ((n33 < (slLen c32)) ∧ (∃ c34 : C, 
 (((ldC m26 (slAt c32 (n33 * 1))) = (some c34)) ∧ (∃ n35 : Nat, ((x25 = ((n35 : Nat) : Int)) ∧ 
 ((n35 < (slLen c34)) ∧ (∃ c36 : C, (((ldC m26 (slAt c34 (n35 * 1))) = (some c36)) ∧ 
 (isSl c36 ∧ (ifB (decide ((7 : Int) < (((slLen c36) : Nat) : Int))) (Q (V.c (C.bool false)) m26) (fitsP .i64 (x25 + (1 : Int)) ∧ 
 (R23 [(V.c (C.bool b24)), (V.c (C.int .i64 (x25 + (1 : Int))))] m26)))))))))))))))))))) (fitsP .i64 (x15 + (1 : Int)) ∧ 
 (R12 [(V.c (C.bool b24)), (V.c (C.bool b24)), (V.c (C.int .i64 (x15 + (1 : Int))))] m26))))))))))))))) → 
 (R23 [(V.c (C.bool b24)), (V.c (C.int .i64 x25))] m26))))) → (R23 [(V.c (C.bool b13)), 
 (V.c (C.int .i64 (0 : Int)))] m16)))))))))))))))) (fitsP .i64 (x4 + (1 : Int)) ∧ 
 (R0 [(V.c (C.bool b13)), (V.c (C.bool b13)), (V.c (C.bool b13)), (V.c (C.int .i64 (x4 + (1 : Int))))] m16)))))))))) → 
 (R12 [(V.c (C.bool b13)), (V.c (C.bool b14)), (V.c (C.int .i64 x15))] m16)))))) → 
 (R12 [(V.c (C.bool b1)), (V.c (C.bool b1)), (V.c (C.int .i64 (0 : Int)))] m5))))))))))))))))))))))))))) (Q (V.c (C.bool true)) m5))) → 
 (R0 [(V.c (C.bool b1)), (V.c (C.bool b2)), (V.c (C.bool b3)), (V.c (C.int .i64 x4))] m5))))))) → 
 (R0 [(V.c (C.bool false)), (V.c (C.bool false)), (V.c (C.bool false)), (V.c (C.int .i64 (0 : Int)))] m)))))) : Wc prog tbl 5 [(V.c a100)] m Q :=
 wc_eq (n := 1) rfl (by kernel_rfl) (by kernel_rfl) h
theorem w9 {a100 : C} {m : M} {Q : V → M → Prop} (h :
 (Wc prog tbl 30 [(V.c a100)] m (fun v0 m1 => (∃ x2 : Int, ((v0 = (V.c (C.int .i64 x2))) ∧ (Q (V.c (C.int .i64 x2)) m1)))))) : Wc prog tbl 9 [(V.c a100)] m Q :=
 wc_eq (n := 1) rfl (by kernel_rfl) (by kernel_rfl) h
theorem w15 {a100 : C} {a200 : Int} {m : M} {Q : V → M → Prop} (h :
 (∀ R0 : List V → M → Prop, ((∀ b1 : Bool, (∀ x2 : Int, (∀ m3 : M, ((isSl a100 ∧ (ifB (decide (x2 < (((slLen a100) : Nat) : Int))) (fitsP .i64 (x2 + (1 : Int)) ∧ 
 (∀ R4 : List V → M → Prop, ((∀ b5 : Bool, (∀ x6 : Int, (∀ m7 : M, ((isSl a100 ∧ (ifB (decide (x6 < (((slLen a100) : Nat) : Int))) (((0 : Int) ≤ a200) ∧ 
 (((0 : Int) ≤ (wrapZ .u64 x2)) ∧ (((wrapZ .u64 x2) ≤ (64 : Int)) ∧ (fitsP .i64 (a200 / ((2 : Int) ^ (Int.toNat (wrapZ .u64 x2)))) ∧ 
 (((0 : Int) ≤ (a200 / ((2 : Int) ^ (Int.toNat (wrapZ .u64 x2))))) ∧ (((0 : Int) < (2 : Int)) ∧ 
 (fitsP .i64 ((a200 / ((2 : Int) ^ (Int.toNat (wrapZ .u64 x2)))) % (2 : Int)) ∧ 
 (ifB (decide (((a200 / ((2 : Int) ^ (Int.toNat (wrapZ .u64 x2)))) % (2 : Int)) = (0 : Int))) (((0 : Int) ≤ a200) ∧ 
 (((0 : Int) ≤ (wrapZ .u64 x6)) ∧ (((wrapZ .u64 x6) ≤ (64 : Int)) ∧ 
 (fitsP .i64 (a200 / ((2 : Int) ^ (Int.toNat (wrapZ .u64 x6)))) ∧ 
 (((0 : Int) ≤ (a200 / ((2 : Int) ^ (Int.toNat (wrapZ .u64 x6))))) ∧ (((0 : Int) < (2 : Int)) ∧ 
 (fitsP .i64 ((a200 / ((2 : Int) ^ (Int.toNat (wrapZ .u64 x6)))) % (2 : Int)) ∧ 
 (ifB (decide (((a200 / ((2 : Int) ^ (Int.toNat (wrapZ .u64 x6)))) % (2 : Int)) = (0 : Int))) (∃ n8 : Nat, 
 ((x6 = ((n8 : Nat) : Int)) ∧ ((n8 < (slLen a100)) ∧ (∃ x9 : Int, (((ldC m7 (slAt a100 (n8 * 1))) = (some (C.int .i64 x9))) ∧ 
 (∃ n10 : Nat, ((x2 = ((n10 : Nat) : Int)) ∧ ((n10 < (slLen a100)) ∧ (∃ x11 : Int, 
 (((ldC m7 (slAt a100 (n10 * 1))) = (some (C.int .i64 x11))) ∧ (ifB (decide (x9 < x11)) (Q (V.c (C.bool false)) m7) (fitsP .i64 (x6 + (1 : Int)) ∧ 
 (R4 [(V.c (C.bool b5)), (V.c (C.int .i64 (x6 + (1 : Int))))] m7))))))))))))) (fitsP .i64 (x6 + (1 : Int)) ∧ 
 (R4 [(V.c (C.bool b5)), (V.c (C.int .i64 (x6 + (1 : Int))))] m7)))))))))) (fitsP .i64 (x6 + (1 : Int)) ∧ 
 (R4 [(V.c (C.bool b5)), (V.c (C.int .i64 (x6 + (1 : Int))))] m7)))))))))) (fitsP .i64 (x2 + (1 : Int)) ∧ 
 (R0 [(V.c (C.bool b5)), (V.c (C.int .i64 (x2 + (1 : Int))))] m7)))) → (R4 [(V.c (C.bool b5)), 
 (V.c (C.int .i64 x6))] m7))))) → (R4 [(V.c (C.bool b1)), (V.c (C.int .i64 (x2 + (1 : Int))))] m3)))) (Q (V.c (C.bool true)) m3))) → 
 (R0 [(V.c (C.bool b1)), (V.c (C.int .i64 x2))] m3))))) → (R0 [(V.c (C.bool false)), (V.c (C.int .i64 (0 : Int)))] m)))) : Wc prog tbl 15 [(V.c a100), (V.c (C.int .i64 a200))] m Q :=
 wc_eq (n := 2) rfl (by kernel_rfl) (by kernel_rfl) h
theorem w27 {a100 : C} {a200 : Int} {a300 : Int} {a400 : Int} {m : M} {Q : V → M → Prop} (h :
 (isSl a100 ∧ (Wc prog tbl 46 [(V.c (C.int .i64 a200)), (V.c (C.int .i64 (((slLen a100) : Nat) : Int)))] m (fun v0 m1 => 
 (∃ b2 : Bool, ((v0 = (V.c (C.bool b2))) ∧ (ifB b2 (Wc prog tbl 32 [(V.c a100), (V.c (C.int .i64 a300))] m1 (fun v3 m4 => 
 (∃ b5 : Bool, ((v3 = (V.c (C.bool b5))) ∧ (ifB b5 (∃ n6 : Nat, ((a200 = ((n6 : Nat) : Int)) ∧ ((n6 < (slLen a100)) ∧ 
 (isPt (slAt a100 (n6 * 6)) ∧ (∃ c7 : C, (((ldC m4 (ptAdd (slAt a100 (n6 * 6)) 3)) = (some c7)) ∧ 
 (isSl c7 ∧ (Wc prog tbl 46 [(V.c (C.int .i64 a400)), (V.c (C.int .i64 (((slLen c7) : Nat) : Int)))] m4 (fun v8 m9 => 
 (∃ b10 : Bool, ((v8 = (V.c (C.bool b10))) ∧ (Q (V.c (C.bool b10)) m9)))))))))))) (Q (V.c (C.bool false)) m4)))))) (Q (V.c (C.bool false)) m1)))))))) : Wc prog tbl 27 [(V.c a100), (V.c (C.int .i64 a200)), (V.c (C.int .i64 a300)), (V.c (C.int .i64 a400))] m Q :=
 wc_eq (n := 4) rfl (by kernel_rfl) (by kernel_rfl) h
theorem w30 {a100 : C} {m : M} {Q : V → M → Prop} (h :
 (isSl a100 ∧ (ifB (decide ((3 : Int) < (((slLen a100) : Nat) : Int))) (Q (V.c (C.int .i64 (3 : Int))) m) (∀ R0 : List V → 
 M → Prop, ((∀ x1 : Int, (∀ x2 : Int, (∀ m3 : M, ((isSl a100 ∧ (ifB (decide (x2 < (((slLen a100) : Nat) : Int))) (∃ n4 : Nat, 
 ((x2 = ((n4 : Nat) : Int)) ∧ ((n4 < (slLen a100)) ∧ (isPt (slAt a100 (n4 * 6)) ∧ (∃ c5 : C, (((ldC m3 (ptAdd (slAt a100 (n4 * 6)) 3)) = (some c5)) ∧ 
 (isSl c5 ∧ (ifB (decide ((4 : Int) < (((slLen c5) : Nat) : Int))) (Q (V.c (C.int .i64 (3 : Int))) m3) (∃ n6 : Nat, 
 ((x2 = ((n6 : Nat) : Int)) ∧ ((n6 < (slLen a100)) ∧ (isPt (slAt a100 (n6 * 6)) ∧ (∃ c7 : C, 
 (((ldC m3 (ptAdd (slAt a100 (n6 * 6)) 4)) = (some c7)) ∧ (isSl c7 ∧ (ifB (decide ((5 : Int) < (((slLen c7) : Nat) : Int))) (Q (V.c (C.int .i64 (3 : Int))) m3) (∃ n8 : Nat, 
 ((x2 = ((n8 : Nat) : Int)) ∧ ((n8 < (slLen a100)) ∧ (isPt (slAt a100 (n8 * 6)) ∧ 
 (∃ c9 : C, (((ldC m3 (ptAdd (slAt a100 (n8 * 6)) 5)) = (some c9)) ∧ (isSl c9 ∧ 
 (ifB (decide ((3 : Int) < (((slLen c9) : Nat) : Int))) (Q (V.c (C.int .i64 (3 : Int))) m3) (fitsP .i64 (x2 + (1 : Int)) ∧ 
 (R0 [(V.c (C.int .i64 x1)), (V.c (C.int .i64 (x2 + (1 : Int))))] m3)))))))))))))))))))))))))) (∀ R10 : List V → 
 M → Prop, ((∀ x11 : Int, (∀ x12 : Int, (∀ m13 : M, ((isSl a100 ∧ (ifB (decide (x12 < (((slLen a100) : Nat) : Int))) (∃ n14 : Nat, 
 ((x12 = ((n14 : Nat) : Int)) ∧ ((n14 < (slLen a100)) ∧ (∃ x15 : Int, (∃ b16 : Bool, (∃ x17 : Int, 
 (∃ c18 : C, (∃ c19 : C, (∃ c20 : C, (((ldA m13 (slAt a100 (n14 * 6)) 6) = (some [(C.int .i64 x15), 
 (C.bool b16), (C.int .i64 x17), c18, c19, c20])) ∧ (Wc prog tbl 49 [(V.agg 6 [(C.int .i64 x15), 
 (C.bool b16), (C.int .i64 x17), c18, c19, c20])] m13 (fun v21 m22 => (∃ b23 : Bool, 
 ((v21 = (V.c (C.bool b23))) ∧ (ifB (!b23) (Q (V.c (C.int .i64 (1 : Int))) m22) (∃ n24 : Nat, 
 ((x12 = ((n24 : Nat) : Int)) ∧ ((n24 < (slLen a100)) ∧ (isPt (slAt a100 (n24 * 6)) ∧ 
 (∃ c25 : C, (((ldC m22 (ptAdd (slAt a100 (n24 * 6)) 5)) = (some c25)) ∧ 
 (isSl c25 ∧ (∃ n26 : Nat, (((0 : Int) = ((n26 : Nat) : Int)) ∧ ((n26 < (slLen a100)) ∧ 
 (isPt (slAt a100 (n26 * 6)) ∧ (∃ c27 : C, (((ldC m22 (ptAdd (slAt a100 (n26 * 6)) 5)) = (some c27)) ∧ 
 (isSl c27 ∧ (ifB (!decide ((((slLen c25) : Nat) : Int) = (((slLen c27) : Nat) : Int))) (Q (V.c (C.int .i64 (1 : Int))) m22) (ifB (decide (x12 = (0 : Int))) (∃ n28 : Nat, 
 ((x12 = ((n28 : Nat) : Int)) ∧ ((n28 < (slLen a100)) ∧ (isPt (slAt a100 (n28 * 6)) ∧ 
 (∃ x29 : Int, (((ldC m22 (ptAdd (slAt a100 (n28 * 6)) 0)) = (some (C.int .i64 x29))) ∧ 
 (ifB (!decide (x29 = (0 : Int))) (Q (V.c (C.int .i64 (1 : Int))) m22) (ifB (decide ((0 : Int) < x12)) (∃ n30 : Nat, 
 ((x12 = ((n30 : Nat) : Int)) ∧ ((n30 < (slLen a100)) ∧ (isPt (slAt a100 (n30 * 6)) ∧ 
 (∃ x31 : Int, (((ldC m22 (ptAdd (slAt a100 (n30 * 6)) 0)) = (some (C.int .i64 x31))) ∧ 
 (fitsP .i64 (x12 - (1 : Int)) ∧ (∃ n32 : Nat, (((x12 - (1 : Int)) = ((n32 : Nat) : Int)) ∧ 
 ((n32 < (slLen a100)) ∧ (isPt (slAt a100 (n32 * 6)) ∧ (∃ x33 : Int, (((ldC m22 (ptAdd (slAt a100 (n32 * 6)) 0)) = (some (C.int .i64 x33))) ∧ 
 (ifB (decide (x31 ≤ x33)) (Q (V.c (C.int .i64 (1 : Int))) m22) (fitsP .i64 (x12 + (1 : Int)) ∧ 
 (R10 [(V.c (C.int .i64 x11)), (V.c (C.int .i64 (x12 + (1 : Int))))] m22)))))))))))))))) (fitsP .i64 (x12 + (1 : Int)) ∧ 
 (R10 [(V.c (C.int .i64 x11)), (V.c (C.int .i64 (x12 + (1 : Int))))] m22)))))))))) (ifB (decide ((0 : Int) < x12)) (∃ n34 : Nat, 
 ((x12 = ((n34 : Nat) : Int)) ∧ ((n34 < (slLen a100)) ∧ (isPt (slAt a100 (n34 * 6)) ∧ 
 (∃ x35 : Int, (((ldC m22 (ptAdd (slAt a100 (n34 * 6)) 0)) = (some (C.int .i64 x35))) ∧ 
 (fitsP .i64 (x12 - (1 : Int)) ∧ (∃ n36 : Nat, (((x12 - (1 : Int)) = ((n36 : Nat) : Int)) ∧ 
 ((n36 < (slLen a100)) ∧ (isPt (slAt a100 (n36 * 6)) ∧ (∃ x37 : Int, (((ldC m22 (ptAdd (slAt a100 (n36 * 6)) 0)) = (some (C.int .i64 x37))) ∧ 
 (ifB (decide (x35 ≤ x37)) (Q (V.c (C.int .i64 (1 : Int))) m22) (fitsP .i64 (x12 + (1 : Int)) ∧ 
 (R10 [(V.c (C.int .i64 x11)), (V.c (C.int .i64 (x12 + (1 : Int))))] m22)))))))))))))))) (fitsP .i64 (x12 + (1 : Int)) ∧ 
 (R10 [(V.c (C.int .i64 x11)), (V.c (C.int .i64 (x12 + (1 : Int))))] m22)))))))))))))))))))))))))))))))))) (isSl a100 ∧ 
 (ifB (decide ((((slLen a100) : Nat) : Int) = (0 : Int))) (Q (V.c (C.int .i64 (1 : Int))) m13) (Q (V.c (C.int .i64 (0 : Int))) m13))))) → 
 (R10 [(V.c (C.int .i64 x11)), (V.c (C.int .i64 x12))] m13))))) → (R10 [(V.c (C.int .i64 x1)), 
 (V.c (C.int .i64 (0 : Int)))] m3))))) → (R0 [(V.c (C.int .i64 x1)), (V.c (C.int .i64 x2))] m3))))) → 
 (R0 [(V.c (C.int .i64 (0 : Int))), (V.c (C.int .i64 (0 : Int)))] m)))))) : Wc prog tbl 30 [(V.c a100)] m Q :=
 wc_eq (n := 1) rfl (by kernel_rfl) (by kernel_rfl) h
theorem w33 {a100 : Int} {m : M} {Q : V → M → Prop} (h :
 (Wc prog tbl 50 [(V.agg 2 [(C.int .i64 (0 : Int)), (C.int .i64 (120 : Int))]), (V.c (C.int .i64 a100))] m (fun v0 m1 => 
 (∃ b2 : Bool, ((v0 = (V.c (C.bool b2))) ∧ (Q (V.c (C.bool b2)) m1)))))) : Wc prog tbl 33 [(V.c (C.int .i64 a100))] m Q :=
 wc_eq (n := 1) rfl (by kernel_rfl) (by kernel_rfl) h
theorem w45 {a100 : C} {m : M} {Q : V → M → Prop} (h :
 (Wc prog tbl 60 [(V.c a100)] m (fun v0 m1 => (∃ b2 : Bool, ((v0 = (V.c (C.bool b2))) ∧ (ifB b2 (Q (V.c (C.int .i64 (3 : Int))) m1) (Wc prog tbl 61 [(V.c a100)] m1 (fun v3 m4 => 
 (∃ b5 : Bool, ((v3 = (V.c (C.bool b5))) ∧ (ifB (!b5) (Q (V.c (C.int .i64 (1 : Int))) m4) (Q (V.c (C.int .i64 (0 : Int))) m4)))))))))))) : Wc prog tbl 45 [(V.c a100)] m Q :=
 wc_eq (n := 1) rfl (by kernel_rfl) (by kernel_rfl) h
theorem w48 {a100 : C} {a200 : C} {m : M} {Q : V → M → Prop} (h :
 (Wc prog tbl 64 [(V.c a100), (V.c a200)] m (fun v0 m1 => (∃ b2 : Bool, (∃ b3 : Bool, (∃ b4 : Bool, (∃ b5 : Bool, 
 (∃ b6 : Bool, ((v0 = (V.agg 5 [(C.bool b2), (C.bool b3), (C.bool b4), (C.bool b5), (C.bool b6)])) ∧ (∀ m7 : M, 
 ((m7 = (M.new m1 (AO.cells 5 [(C.bool false), (C.bool false), (C.bool false), (C.bool false), (C.bool false)] false))) → 
 (∃ m8 : M, (((stC m7 (C.ptr m1.nxt 0) 5 [(C.bool b2), (C.bool b3), (C.bool b4), (C.bool b5), (C.bool b6)]) = (some m8)) ∧ 
 (∃ b9 : Bool, (∃ b10 : Bool, (∃ b11 : Bool, (∃ b12 : Bool, (∃ b13 : Bool, (((ldA m8 (C.ptr m1.nxt 0) 5) = (some [(C.bool b9), 
 (C.bool b10), (C.bool b11), (C.bool b12), (C.bool b13)])) ∧ (Wc prog tbl 65 [(V.c a100), 
 (V.agg 5 [(C.bool b9), (C.bool b10), (C.bool b11), (C.bool b12), (C.bool b13)])] m8 (fun v14 m15 => 
 (∃ b16 : Bool, (∃ b17 : Bool, (∃ b18 : Bool, (∃ b19 : Bool, (∃ b20 : Bool, ((v14 = (V.agg 5 [(C.bool b16), 
 (C.bool b17), (C.bool b18), (C.bool b19), (C.bool b20)])) ∧ (∃ b21 : Bool, (∃ b22 : Bool, 
 (∃ b23 : Bool, (∃ b24 : Bool, (∃ b25 : Bool, (((ldA m15 (C.ptr m1.nxt 0) 5) = (some [(C.bool b21), 
 (C.bool b22), (C.bool b23), (C.bool b24), (C.bool b25)])) ∧ (((ldA m8 (C.ptr m1.nxt 0) 5) = (some [(C.bool b21), 
 (C.bool b22), (C.bool b23), (C.bool b24), (C.bool b25)])) ∧ (Q (V.c (C.bool ((b16 == b21) && ((b17 == b22) && ((b18 == b23) && ((b19 == b24) && (b20 == b25))))))) m15))))))))))))))))))))))))))))))))))) : Wc prog tbl 48 [(V.c a100), (V.c a200)] m Q :=
 wc_eq (n := 2) rfl (by kernel_rfl) (by kernel_rfl) h
theorem w60 {a100 : C} {m : M} {Q : V → M → Prop} (h :
 (isSl a100 ∧ (ifB (decide ((3 : Int) < (((slLen a100) : Nat) : Int))) (Q (V.c (C.bool true)) m) (Wc prog tbl 74 [(V.c a100), 
 (V.c (C.fn (Fn.func 75) [] []))] m (fun v0 m1 => (∃ b2 : Bool, ((v0 = (V.c (C.bool b2))) ∧ (Q (V.c (C.bool b2)) m1)))))))) : Wc prog tbl 60 [(V.c a100)] m Q :=
 wc_eq (n := 1) rfl (by kernel_rfl) (by kernel_rfl) h
theorem w63 {a100 : C} {m : M} {Q : V → M → Prop} (h :
 (okN (TK.sl 3) a100 ∧ (okN (TK.sl 3) a100 ∧ (okN (TK.sl 3) C.sl0 ∧ ((((isNilC a100) || true) = true) ∧ (ifB ((isNilC a100) && true) (Q (V.c C.sl0) m) (∀ m0 : M, 
 ((m0 = (M.new m (AO.cells 0 [] false))) → (∃ c1 : C, (∃ m2 : M, ((ApR prog 25 m0 (C.sl m.nxt 0 0 0 (some 0)) a100 c1 m2) ∧ 
 (Q (V.c c1) m2)))))))))))) : Wc prog tbl 63 [(V.c a100)] m Q :=
 wc_eq (n := 1) rfl (by kernel_rfl) (by kernel_rfl) h
theorem w66 {a100 : C} {a200 : Int} {m : M} {Q : V → M → Prop} (h :
 (∀ R0 : List V → M → Prop, ((∀ b1 : Bool, (∀ x2 : Int, (∀ m3 : M, ((isSl a100 ∧ (ifB (decide (x2 < (((slLen a100) : Nat) : Int))) (∃ n4 : Nat, 
 ((x2 = ((n4 : Nat) : Int)) ∧ ((n4 < (slLen a100)) ∧ (∃ x5 : Int, (((ldC m3 (slAt a100 (n4 * 1))) = (some (C.int .i64 x5))) ∧ 
 (Wc prog tbl 10 [(V.c (C.int .i64 x5)), (V.c (C.int .i64 (0 : Int))), (V.c (C.int .i64 a200))] m3 (fun v6 m7 => 
 (∃ b8 : Bool, ((v6 = (V.c (C.bool b8))) ∧ (ifB (!b8) (Q (V.c (C.bool false)) m7) (ifB (decide ((0 : Int) < x2)) (∃ n9 : Nat, 
 ((x2 = ((n9 : Nat) : Int)) ∧ ((n9 < (slLen a100)) ∧ (∃ x10 : Int, (((ldC m7 (slAt a100 (n9 * 1))) = (some (C.int .i64 x10))) ∧ 
 (fitsP .i64 (x2 - (1 : Int)) ∧ (∃ n11 : Nat, (((x2 - (1 : Int)) = ((n11 : Nat) : Int)) ∧ 
 ((n11 < (slLen a100)) ∧ (∃ x12 : Int, (((ldC m7 (slAt a100 (n11 * 1))) = (some (C.int .i64 x12))) ∧ 
 (ifB (decide (x10 ≤ x12)) (Q (V.c (C.bool false)) m7) (fitsP .i64 (x2 + (1 : Int)) ∧ 
 (R0 [(V.c (C.bool b1)), (V.c (C.int .i64 (x2 + (1 : Int))))] m7)))))))))))))) (fitsP .i64 (x2 + (1 : Int)) ∧ 
 (R0 [(V.c (C.bool b1)), (V.c (C.int .i64 (x2 + (1 : Int))))] m7))))))))))))) (isSl a100 ∧ 
 (ifB (decide ((0 : Int) < (((slLen a100) : Nat) : Int))) (∃ n13 : Nat, (((0 : Int) = ((n13 : Nat) : Int)) ∧ 
 ((n13 < (slLen a100)) ∧ (∃ x14 : Int, (((ldC m3 (slAt a100 (n13 * 1))) = (some (C.int .i64 x14))) ∧ 
 (Q (V.c (C.bool (decide (x14 = (0 : Int))))) m3)))))) (Q (V.c (C.bool false)) m3))))) → (R0 [(V.c (C.bool b1)), 
 (V.c (C.int .i64 x2))] m3))))) → (R0 [(V.c (C.bool false)), (V.c (C.int .i64 (0 : Int)))] m)))) : Wc prog tbl 66 [(V.c a100), (V.c (C.int .i64 a200))] m Q :=
 wc_eq (n := 2) rfl (by kernel_rfl) (by kernel_rfl) h
theorem w75 {a100 : Int} {a101 : Bool} {a102 : Int} {a103 : C} {a104 : C} {a105 : C} {m : M} {Q : V → M → Prop} (h :
 (∀ m0 : M, ((m0 = (M.new m (AO.cells 6 [(C.int .i64 a100), (C.bool a101), (C.int .i64 a102), a103, 
 a104, a105] false))) → (isPt (C.ptr m.nxt 0) ∧ (∃ c1 : C, (((ldC m0 (C.ptr m.nxt 3)) = (some c1)) ∧ 
 (isSl c1 ∧ (ifB (decide ((4 : Int) < (((slLen c1) : Nat) : Int))) (Q (V.c (C.bool true)) m0) (isPt (C.ptr m.nxt 0) ∧ 
 (∃ c2 : C, (((ldC m0 (C.ptr m.nxt 4)) = (some c2)) ∧ (isSl c2 ∧ (ifB (decide ((5 : Int) < (((slLen c2) : Nat) : Int))) (Q (V.c (C.bool true)) m0) (isPt (C.ptr m.nxt 0) ∧ 
 (∃ c3 : C, (((ldC m0 (C.ptr m.nxt 5)) = (some c3)) ∧ (isSl c3 ∧ (Q (V.c (C.bool (decide ((3 : Int) < (((slLen c3) : Nat) : Int))))) m0)))))))))))))))))) : Wc prog tbl 75 [(V.agg 6 [(C.int .i64 a100), (C.bool a101), (C.int .i64 a102), a103, a104, a105])] m Q :=
 wc_eq (n := 1) rfl (by kernel_rfl) (by kernel_rfl) h
theorem w78 {a100 : C} {m : M} {Q : V → M → Prop} (h :
 (isSl a100 ∧ (∀ R0 : List V → M → Prop, ((∀ b1 : Bool, (∀ x2 : Int, (∀ m3 : M, ((ifB (decide (x2 < (((slLen a100) : Nat) : Int))) (∃ n4 : Nat, 
 ((x2 = ((n4 : Nat) : Int)) ∧ ((n4 < (slLen a100)) ∧ (∃ x5 : Int, (((ldC m3 (slAt a100 (n4 * 1))) = (some (C.int .i64 x5))) ∧ 
 (ifB (decide ((0 : Int) < x2)) (fitsP .i64 (x2 - (1 : Int)) ∧ (∃ n6 : Nat, (((x2 - (1 : Int)) = ((n6 : Nat) : Int)) ∧ 
 ((n6 < (slLen a100)) ∧ (∃ x7 : Int, (((ldC m3 (slAt a100 (n6 * 1))) = (some (C.int .i64 x7))) ∧ 
 (ifB (decide (x5 ≤ x7)) (Q (V.c (C.bool false)) m3) (fitsP .i64 (x2 + (1 : Int)) ∧ 
 (R0 [(V.c (C.bool b1)), (V.c (C.int .i64 (x2 + (1 : Int))))] m3))))))))) (fitsP .i64 (x2 + (1 : Int)) ∧ 
 (R0 [(V.c (C.bool b1)), (V.c (C.int .i64 (x2 + (1 : Int))))] m3)))))))) (isSl a100 ∧ 
 (ifB (decide ((0 : Int) < (((slLen a100) : Nat) : Int))) (∃ n8 : Nat, (((0 : Int) = ((n8 : Nat) : Int)) ∧ 
 ((n8 < (slLen a100)) ∧ (∃ x9 : Int, (((ldC m3 (slAt a100 (n8 * 1))) = (some (C.int .i64 x9))) ∧ 
 (Q (V.c (C.bool (decide (x9 = (0 : Int))))) m3)))))) (Q (V.c (C.bool false)) m3)))) → (R0 [(V.c (C.bool b1)), 
 (V.c (C.int .i64 x2))] m3))))) → (R0 [(V.c (C.bool false)), (V.c (C.int .i64 (0 : Int)))] m))))) : Wc prog tbl 78 [(V.c a100)] m Q :=
 wc_eq (n := 1) rfl (by kernel_rfl) (by kernel_rfl) h
theorem w87 {a100 : C} {a200 : C} {m : M} {Q : V → M → Prop} (h :
 (Wc prog tbl 95 [(V.c a100), (V.c a200)] m (fun v0 m1 => (∃ x2 : Int, ((v0 = (V.c (C.int .i64 x2))) ∧ (Q (V.c (C.bool (decide ((0 : Int) ≤ x2)))) m1)))))) : Wc prog tbl 87 [(V.c a100), (V.c a200)] m Q :=
 wc_eq (n := 2) rfl (by kernel_rfl) (by kernel_rfl) h
theorem w90 {a100 : C} {a200 : C} {m : M} {Q : V → M → Prop} (h :
 (∀ m0 : M, ((m0 = (M.new m (AO.cells 1 [a200] false))) → (Wc prog tbl 96 [(V.c a100), (V.c (C.fn (Fn.func 97) [] [(W.c (C0.ptr m.nxt 0))]))] m0 (fun v1 m2 => 
 (∃ b3 : Bool, ((v1 = (V.c (C.bool b3))) ∧ (Q (V.c (C.bool (!b3))) m2)))))))) : Wc prog tbl 90 [(V.c a100), (V.c a200)] m Q :=
 wc_eq (n := 2) rfl (by kernel_rfl) (by kernel_rfl) h
theorem w96 {a100 : C} {a200 : C} {m : M} {Q : V → M → Prop} (h :
 (Wc prog tbl 102 [(V.c a100), (V.c a200)] m (fun v0 m1 => (∃ x2 : Int, ((v0 = (V.c (C.int .i64 x2))) ∧ (Q (V.c (C.bool (decide ((0 : Int) ≤ x2)))) m1)))))) : Wc prog tbl 96 [(V.c a100), (V.c a200)] m Q :=
 wc_eq (n := 2) rfl (by kernel_rfl) (by kernel_rfl) h
theorem w102 {a100 : C} {a200 : C} {m : M} {Q : V → M → Prop} (h :
 (isSl a100 ∧ (∀ R0 : List V → M → Prop, ((∀ x1 : Int, (∀ x2 : Int, (∀ m3 : M, ((ifB (decide (x2 < (((slLen a100) : Nat) : Int))) (∃ n4 : Nat, 
 ((x2 = ((n4 : Nat) : Int)) ∧ ((n4 < (slLen a100)) ∧ (∃ x5 : Int, (((ldC m3 (slAt a100 (n4 * 1))) = (some (C.int .i64 x5))) ∧ 
 (callP prog tbl [(V.c (C.int .i64 x5))] a200 m3 (fun v6 m7 => (∃ b8 : Bool, ((v6 = (V.c (C.bool b8))) ∧ 
 (ifB b8 (Q (V.c (C.int .i64 x2)) m7) (fitsP .i64 (x2 + (1 : Int)) ∧ (R0 [(V.c (C.int .i64 x1)), 
 (V.c (C.int .i64 (x2 + (1 : Int))))] m7)))))))))))) (Q (V.c (C.int .i64 (-1 : Int))) m3)) → 
 (R0 [(V.c (C.int .i64 x1)), (V.c (C.int .i64 x2))] m3))))) → (R0 [(V.c (C.int .i64 (0 : Int))), 
 (V.c (C.int .i64 (0 : Int)))] m))))) : Wc prog tbl 102 [(V.c a100), (V.c a200)] m Q :=
 wc_eq (n := 2) rfl (by kernel_rfl) (by kernel_rfl) h
end
end Go.Proofs.YtbhdgedghfibcaaGreat

namespace Go.Proofs.YtbhdgedghfibcaaGreat
open _root_.Go.Proofs.Tryz
open Go.Abs
set_option maxRecDepth 100000
noncomputable section
theorem t22 : tk prog 25 = .sl 3 := by kernel_rfl
theorem g3 : growOk prog 3 = true := by kernel_rfl
theorem z3 : prog.cellsOf 3 = 1 := by kernel_rfl
theorem take_set {P : List Int} {p : Nat} (hp : p < P.length) (n : Int) : (P.set p n).take (p + 1) = P.take p ++ [n] := by
  rw [List.take_add_one, List.getElem?_set_self hp, List.take_set_of_le (Nat.le_refl _)]; rfl
theorem _root_.Go.Abs.Chg.trans {S S1 : Nat → Prop} {T : Nat → Prop} {m m1 m2 : M} (h1 : Chg (fun b => S b ∨ T b) m m1) (h2 : Chg (fun b => S1 b ∨ T b) m1 m2) (ho : Own S m S1) : Chg (fun b => S b ∨ T b) m m2 :=
  ⟨Nat.le_trans h1.nxt h2.nxt, fun b hb hS => by
    rw [h2.g b (Nat.lt_of_lt_of_le hb h1.nxt) fun h => h.elim (fun h3 => (ho b h3).elim (fun h4 => hS (.inl h4)) fun h4 => by omega) fun h3 => hS (.inr h3)]
    exact h1.g b hb hS, h2.vw.trans h1.vw⟩
theorem _root_.Go.Abs.Own.refl (S : Nat → Prop) (m : M) : Own S m S := fun _ hb => .inl hb
theorem _root_.Go.Abs.Own.trans {S S1 S2 : Nat → Prop} {m m1 : M} (h1 : Own S m S1) (h2 : Own S1 m1 S2) (hn : m.nxt ≤ m1.nxt) : Own S m S2 := fun b hb => (h2 b hb).elim (h1 b) fun h => .inr (by omega)
theorem _root_.Go.Abs.Chg.or {S T : Nat → Prop} {m m' : M} (h : Chg S m m') : Chg (fun b => S b ∨ T b) m m' := ⟨h.nxt, fun b hb hS => h.g b hb fun h2 => hS (.inl h2), h.vw⟩
theorem ints_set (L : List Int) (i : Nat) (v : Int) : (ints L).set i (.int .i64 v) = ints (L.set i v) := by unfold ints; rw [List.map_set]
theorem fits_small {n : Int} (h1 : -1000000 ≤ n) (h2 : n ≤ 1000000) : fitsP .i64 n := by simp only [fitsP]; omega
/-- all lists of hits that go on as far as all places -/
theorem mem_rests {α : Type} (g : Nat → List α) (a : α) : ∀ (e n : Nat), a ∈ rests g e n ↔ ∃ j, n ≤ j ∧ j < n + e ∧ a ∈ g j
  | 0, n => ⟨fun h => (by cases h), fun ⟨j, h1, h2, _⟩ => by omega⟩
  | e + 1, n => by
    show a ∈ g n ++ rests g e (n + 1) ↔ _
    rw [List.mem_append, mem_rests g a e (n + 1)]
    constructor
    · rintro (h | ⟨j, h1, h2, h3⟩)
      · exact ⟨n, Nat.le_refl _, by omega, h⟩
      · exact ⟨j, by omega, by omega, h3⟩
    · rintro ⟨j, h1, h2, h3⟩
      by_cases hj : j = n
      · subst hj; exact .inl h3
      · exact .inr ⟨j, by omega, by omega, h3⟩
def hdr (bl size : Nat) : C := .sl bl 0 size 0 (some size)
def flC (b k h2 b2 cv : Nat) : C := .fn (.func 81) [] [.c (.ptr b 0), .c (.ptr k 0), .c (.ptr h2 0), .c (.ptr b2 0), .c (.ptr cv 0)]
/-- what lists hands out: the one with number i lies in a block from n1 on -/
def VsL (all : List (List Int)) (n1 i : Nat) (x : List V) (m : M) : Prop := ∃ L c, all[i]? = some L ∧ x = [.c c] ∧ Li m c L ∧ (isNilC c = false ∧ slOk c 1 L.length) ∧ ∀ b o n s d, c = .sl b o n s d → n1 ≤ b
theorem _root_.Go.Abs.Bk.st1n {m : M} {b n : Nat} {vs : List C} (h : Bk m b n vs) {k : Nat} (c : C) (hk : k < vs.length) (hn : vs.length = n) : stC m (.ptr b (0 + k * 1)) 1 [c] = some (m.set b (.cells n (vs.set k c) false)) := by
  rw [show 0 + k * 1 = k by omega]
  by_cases h1 : n = 1
  · subst h1
    have hk0 : k = 0 := by omega
    subst hk0
    have : vs.set 0 c = [c] := by
      match vs, hn with
      | [a], _ => rfl
    rw [this]
    exact stC_of h.g [c]
  · exact stC_at h.g c hk hn h1
theorem rep0 (n : Nat) : repeatS [C.int .i64 0] n = ints (List.replicate n 0) := by rw [repeatS_eq]; simp [ints]
/-- fill at work -/
structure SlF (n size b b2 l k h2 bl cv : Nat) (S : Nat → Prop) (m : M) (P : List Int) : Prop where
  bb : Bk m b 1 [.int .i64 (size : Int)]
  nn : Bk m b2 1 [.int .i64 (n : Int)]
  kk : Bk m k 1 [.fn (.yield l) [] []]
  hh : Bk m h2 1 [hdr bl size]
  ll : Bk m bl size (ints P)
  cc : Bk m cv 1 [flC b k h2 b2 cv]
  ss : ∀ b', S b' → b' ≠ b ∧ b' ≠ b2 ∧ b' ≠ k ∧ b' ≠ h2 ∧ b' ≠ bl ∧ b' ≠ cv
  ne : b ≠ bl ∧ b2 ≠ bl ∧ k ≠ bl ∧ h2 ≠ bl ∧ cv ≠ bl
variable {n size b b2 l k h2 bl cv : Nat}
theorem SlF.to {S S' : Nat → Prop} {m m' : M} {P : List Int} (h : SlF n size b b2 l k h2 bl cv S m P) (hn : Chg S m m') (ho : Own S m S') : SlF n size b b2 l k h2 bl cv S' m' P := by
  have tr : ∀ {b' j : Nat} {vs : List C}, Bk m b' j vs → ¬ S b' → Bk m' b' j vs := fun hb hS => ⟨(hn.g _ hb.lt hS).trans hb.g, Nat.lt_of_lt_of_le hb.lt hn.nxt⟩
  refine ⟨tr h.bb fun h1 => (h.ss _ h1).1 rfl, tr h.nn fun h1 => (h.ss _ h1).2.1 rfl, tr h.kk fun h1 => (h.ss _ h1).2.2.1 rfl, tr h.hh fun h1 => (h.ss _ h1).2.2.2.1 rfl, tr h.ll fun h1 => (h.ss _ h1).2.2.2.2.1 rfl, tr h.cc fun h1 => (h.ss _ h1).2.2.2.2.2 rfl, fun b' hb => ?_, h.ne⟩
  rcases ho b' hb with h1 | h1
  · exact h.ss b' h1
  · have := h.bb.lt; have := h.nn.lt; have := h.kk.lt; have := h.hh.lt; have := h.ll.lt; have := h.cc.lt
    omega
theorem SlF.set {S : Nat → Prop} {m : M} {P : List Int} (h : SlF n size b b2 l k h2 bl cv S m P) (P' : List Int) : SlF n size b b2 l k h2 bl cv S (m.set bl (.cells size (ints P') false)) P' :=
  ⟨h.bb.setNe h.ne.1 _, h.nn.setNe h.ne.2.1 _, h.kk.setNe h.ne.2.2.1 _, h.hh.setNe h.ne.2.2.2.1 _, h.ll.set _, h.cc.setNe h.ne.2.2.2.2 _, h.ss, h.ne⟩
theorem SlF.li {S : Nat → Prop} {m : M} {P : List Int} (h : SlF n size b b2 l k h2 bl cv S m P) (hP : P.length = size) : Li m (hdr bl size) P := by
  refine ⟨by rw [ints_len]; omega, .inr ⟨bl, 0, 0, some size, by rw [hP]; rfl, h.ll.lt, fun _ => .inl ⟨size, ints P, false, h.ll.g, by rw [ints_len]; exact hP, by rw [ints_len]; omega, by rw [List.drop_zero, List.take_length]⟩⟩⟩
theorem sFill {n0 n1 : Nat} (hn : n ≤ 1000) (hsz : size ≤ 1000) (hn0 : n0 ≤ bl) (hn1 : n1 ≤ bl) {all : List (List Int)} {I : Nat → (Nat → Prop) → M → Prop} {E : (Nat → Prop) → M → Prop} (hcl : ClientV prog tbl n0 l (VsL all n1) I E) :
    ∀ (d p : Nat), d + p = size → ∀ (i fr : Nat) (S : Nat → Prop) (m : M) (P : List Int) (Q : V → M → Prop), SlF n size b b2 l k h2 bl cv S m P → P.length = size →
      (∀ j L, (combs n d (P.take p) fr)[j]? = some L → all[i + j]? = some L) → I i S m →
      (∀ S' m' P', Own S m S' → Chg (fun b' => S b' ∨ b' = bl) m m' → SlF n size b b2 l k h2 bl cv S' m' P' → P'.length = size → P'.take p = P.take p → I (i + (combs n d (P.take p) fr).length) S' m' → Q (.c (.bool true)) m') →
      (∀ S' m', Own S m S' → Chg (fun b' => S b' ∨ b' = bl) m m' → E S' m' → Q (.c (.bool false)) m') →
      Wc prog tbl 81 [.c (.int .i64 (p : Int)), .c (.int .i64 (fr : Int)), .c (.ptr b 0), .c (.ptr k 0), .c (.ptr h2 0), .c (.ptr b2 0), .c (.ptr cv 0)] m Q := by
  intro d
  induction d with
  | zero =>
    intro p hp i fr S m P Q hst hP hxs hI hT hF
    refine w81 (p : Int) (fr : Int) b k h2 b2 cv ⟨_, hst.bb.rc rfl, ?_⟩
    rw [ifB_dec]
    refine ⟨fun _ => ⟨_, hst.kk.rc rfl, _, hst.hh.rc rfl, ?_⟩, fun h1 => absurd (by omega) h1⟩
    have hx0 := hxs 0 (P.take p) rfl
    rw [List.take_of_length_le (by omega), Nat.add_zero] at hx0
    show Wy prog tbl l [.c (hdr bl size)] m _
    refine hcl.yield i _ S m ⟨P, hdr bl size, hx0, rfl, hst.li hP, ⟨rfl, .inr (.inl ⟨bl, 0, 0, size, by rw [hP]; rfl, by omega⟩)⟩, fun b' o n' s d h => by cases h; exact hn1⟩ hI _ (fun S' m' ho hch hI' => ⟨_, rfl, ?_⟩) fun S' m' ho hch hE => ⟨_, rfl, hF S' m' ho (Chg.or hch) hE⟩
    exact hT S' m' P ho (Chg.or hch) (hst.to hch ho) hP rfl hI'
  | succ d ih =>
    intro p hp i fr S m P Q hst hP hxs hI hT hF
    refine w81 (p : Int) (fr : Int) b k h2 b2 cv ⟨_, hst.bb.rc rfl, ?_⟩
    rw [ifB_dec]
    refine ⟨fun h1 => by omega, fun _ R6 hstep => ?_⟩
    let g : Nat → List (List Int) := fun x => combs n d (P.take p ++ [(x : Int)]) (x + 1)
    have hex : combs n (d + 1) (P.take p) fr = rests g (n - fr) fr := rfl
    rw [hex] at hxs hT
    have hgo : ∀ (e x : Nat) (b7 : Bool) (m9 : M) (S1 : Nat → Prop) (P1 : List Int) (i1 : Nat), n - x = e → Own S m S1 → Chg (fun b' => S b' ∨ b' = bl) m m9 → SlF n size b b2 l k h2 bl cv S1 m9 P1 → P1.length = size → P1.take p = P.take p → I i1 S1 m9 →
        i1 + (rests g e x).length = i + (rests g (n - fr) fr).length → (∀ j L, (rests g e x)[j]? = some L → all[i1 + j]? = some L) → R6 [.c (.bool b7), .c (.int .i64 (x : Int))] m9 := by
      intro e
      induction e with
      | zero =>
        intro x b7 m9 S1 P1 i1 hen ho hch hst1 hP1 htk hI1 hlen hxs1
        refine hstep _ _ _ ⟨_, hst1.nn.rc rfl, ?_⟩
        rw [ifB_dec]
        refine ⟨fun h1 => by omega, fun _ => hT S1 m9 P1 ho hch hst1 hP1 htk ?_⟩
        have : i1 + 0 = _ := hlen
        rw [← this, Nat.add_zero]; exact hI1
      | succ e ihe =>
        intro x b7 m9 S1 P1 i1 hen ho hch hst1 hP1 htk hI1 hlen hxs1
        refine hstep _ _ _ ⟨_, hst1.nn.rc rfl, ?_⟩
        rw [ifB_dec]
        refine ⟨fun _ => ?_, fun h1 => absurd (by omega) h1⟩
        have hp9 : p < P1.length := by omega
        refine ⟨_, hst1.hh.rc rfl, p, rfl, (by show p < size; omega), _, hst1.ll.st1n _ (by rw [ints_len]; exact hp9) (by rw [ints_len]; exact hP1), ?_⟩
        rw [ints_set]
        have hst2 := hst1.set (P1.set p (x : Int))
        have hch2 : Chg (fun b' => S1 b' ∨ b' = bl) m9 (m9.set bl (.cells size (ints (P1.set p (x : Int))) false)) := ⟨Nat.le_refl _, fun b' _ hS => by rw [M.g_set, if_neg fun h1 => hS (.inr h1)], rfl⟩
        have hI2 : I i1 S1 (m9.set bl (.cells size (ints (P1.set p (x : Int))) false)) := (hcl.li i1).st _ _ _ hI1 (Nat.le_refl _) rfl (fun b' hb => by rw [M.g_set, if_neg (hst1.ss b' hb).2.2.2.2.1]) (fun b' hb => by rw [M.g_set, if_neg (by omega)])
        have hchm := Chg.trans (T := fun b' => b' = bl) hch hch2 ho
        generalize m9.set bl (.cells size (ints (P1.set p (x : Int))) false) = m13 at hst2 hch2 hI2 hchm
        have hP2 : (P1.set p (x : Int)).length = size := by rw [List.length_set]; exact hP1
        have htk2 : (P1.set p (x : Int)).take (p + 1) = P.take p ++ [(x : Int)] := by rw [take_set hp9, htk]
        have htk3 : (P1.set p (x : Int)).take p = P.take p := by rw [List.take_set_of_le (Nat.le_refl _), htk]
        generalize P1.set p (x : Int) = P2 at hst2 htk2 htk3 hP2
        have hge : rests g (e + 1) x = g x ++ rests g e (x + 1) := rfl
        have hg : g x = combs n d (P2.take (p + 1)) (x + 1) := by rw [htk2]
        rw [hge, hg] at hlen hxs1
        rw [List.length_append] at hlen
        refine ⟨_, hst2.cc.rc rfl, fits_small (by omega) (by omega), fits_small (by omega) (by omega), ?_⟩
        show Wc prog tbl 81 [.c (.int .i64 ((p + 1 : Nat) : Int)), .c (.int .i64 ((x + 1 : Nat) : Int)), .c (.ptr b 0), .c (.ptr k 0), .c (.ptr h2 0), .c (.ptr b2 0), .c (.ptr cv 0)] m13 _
        refine ih (p + 1) (by omega) i1 (x + 1) S1 m13 P2 _ hst2 hP2 (fun j H hj => hxs1 j H (by rw [List.getElem?_append_left (List.getElem?_eq_some_iff.1 hj).1]; exact hj)) hI2 (fun S' m' P' ho' hch' hst' hP' htk' hI' => ⟨_, rfl, ?_⟩) fun S' m' ho' hch' hE => ⟨_, rfl, ?_⟩
        · have htk4 : P'.take p = P.take p := by
            have h1 := congrArg (List.take p) htk'
            rw [List.take_take, List.take_take, Nat.min_eq_left (by omega)] at h1
            rw [h1, htk3]
          refine ⟨fits_small (by omega) (by omega), ihe (x + 1) b7 m' S' P' _ (by omega) (Own.trans ho ho' hchm.nxt) (Chg.trans (T := fun b' => b' = bl) hchm hch' ho) hst' hP' htk4 hI' (by omega) fun j H hj => ?_⟩
          rw [Nat.add_assoc]
          exact hxs1 _ H (by rw [List.getElem?_append_right (by omega), Nat.add_sub_cancel_left]; exact hj)
        · exact hF S' m' (Own.trans ho ho' hchm.nxt) (Chg.trans (T := fun b' => b' = bl) hchm hch' ho) hE
    exact hgo (n - fr) fr false m S P i rfl (Own.refl S m) ⟨Nat.le_refl _, fun _ _ _ => rfl, rfl⟩ hst hP rfl hI rfl hxs
/-- lists: what it hands out -/
theorem lists_iter (hn : n ≤ 1000) (hsz : size ≤ 1000) : IterV prog tbl (.fn (.func 80) [] [.c (.ptr b 0), .c (.ptr b2 0)]) (combs n size [] 0).length (VsL (combs n size [] 0)) (fun b' => b' = b ∨ b' = b2) (fun m => Bk m b 1 [.int .i64 (size : Int)] ∧ Bk m b2 1 [.int .i64 (n : Int)]) := by
  refine ⟨fun m m' h hn' hv hg => ⟨⟨(hg b (.inl rfl)).trans h.1.g, Nat.lt_of_lt_of_le h.1.lt hn'⟩, ⟨(hg b2 (.inr rfl)).trans h.2.g, Nat.lt_of_lt_of_le h.2.lt hn'⟩⟩, fun m h b' hb => hb.elim (fun h1 => h1 ▸ h.1.lt) fun h1 => h1 ▸ h.2.lt, fun n0' l I E S m hcl hn0' hI hR hSD Q hQ => ?_⟩
  have hSlt := (hcl.li 0).lt _ _ hI
  have hb := hR.1.lt
  have hb2 := hR.2.lt
  show Wc prog tbl 80 [.c (.fn (.yield l) [] []), .c (.ptr b 0), .c (.ptr b2 0)] m Q
  refine w80 _ b b2 fun m0 e0 => ?_
  obtain ⟨b0, x0⟩ := Bk.new e0
  refine ⟨_, (hR.1.ext x0).rc rfl, size, size, rfl, rfl, Nat.le_refl _, by omega, fun m4 e4 m5 e5 => ?_⟩
  rw [rep0, Nat.mul_one] at e4
  obtain ⟨b4, x4⟩ := Bk.new e4
  obtain ⟨b5, x5⟩ := Bk.new e5
  have n0 : m0.nxt = m.nxt + 1 := by rw [e0]; rfl
  have n4 : m4.nxt = m.nxt + 2 := by rw [e4]; show m0.nxt + 1 = _; omega
  have n5 : m5.nxt = m.nxt + 3 := by rw [e5]; show m4.nxt + 1 = _; omega
  refine ⟨_, b5.st _, fun m7 e7 => ?_⟩
  have k6 := b5.set [C.sl m0.nxt 0 size 0 (some size)]
  have x6 : Ext m (m5.set m4.nxt (.cells 1 [C.sl m0.nxt 0 size 0 (some size)] false)) := ((x0.trans x4).trans x5).setR (by omega) _
  have k0 : Bk (m5.set m4.nxt (.cells 1 [C.sl m0.nxt 0 size 0 (some size)] false)) m.nxt 1 [.fn (.yield l) [] []] := ((b0.ext x4).ext x5).setNe (by omega) _
  have k4 : Bk (m5.set m4.nxt (.cells 1 [C.sl m0.nxt 0 size 0 (some size)] false)) m0.nxt size (ints (List.replicate size 0)) := (b4.ext x5).setNe (by omega) _
  have n6 : (m5.set m4.nxt (.cells 1 [C.sl m0.nxt 0 size 0 (some size)] false)).nxt = m.nxt + 3 := n5
  have e7' : m7 = (m5.set m4.nxt (.cells 1 [C.sl m0.nxt 0 size 0 (some size)] false)).new (.cells 1 [.nilFn] false) := e7
  clear e7
  generalize m5.set m4.nxt (.cells 1 [C.sl m0.nxt 0 size 0 (some size)] false) = m6 at k6 x6 k0 k4 n6 e7' ⊢
  obtain ⟨b7, x7⟩ := Bk.new e7'
  have n7 : m7.nxt = m.nxt + 4 := by rw [e7']; show m6.nxt + 1 = _; omega
  refine ⟨_, b7.st _, _, (b7.set _).rc rfl, ?_⟩
  have k8 := b7.set [flC b m.nxt m4.nxt b2 m6.nxt]
  have x8 : Ext m (m7.set m6.nxt (.cells 1 [flC b m.nxt m4.nxt b2 m6.nxt] false)) := (x6.trans x7).setR (by omega) _
  have j0 := (k0.ext x7).setNe (c := m6.nxt) (by omega) (.cells 1 [flC b m.nxt m4.nxt b2 m6.nxt] false)
  have j4 := (k4.ext x7).setNe (c := m6.nxt) (by omega) (.cells 1 [flC b m.nxt m4.nxt b2 m6.nxt] false)
  have j6 := (k6.ext x7).setNe (c := m6.nxt) (by omega) (.cells 1 [flC b m.nxt m4.nxt b2 m6.nxt] false)
  show callP prog tbl _ (flC b m.nxt m4.nxt b2 m6.nxt) (m7.set m6.nxt (.cells 1 [flC b m.nxt m4.nxt b2 m6.nxt] false)) _
  generalize m7.set m6.nxt (.cells 1 [flC b m.nxt m4.nxt b2 m6.nxt] false) = m8 at k8 x8 j0 j4 j6
  have hI8 : I 0 S m8 := (hcl.li 0).st _ _ _ hI x8.nxt x8.vw (fun b' hb => x8.g b' (hSlt b' hb)) (fun b' hb => x8.g b' (by omega))
  have hSl : SlF n size b b2 l m.nxt m4.nxt m0.nxt m6.nxt S m8 (List.replicate size 0) := ⟨hR.1.ext x8, hR.2.ext x8, j0, j6, j4, k8, fun b' hb' => by
    have h1 := hSlt b' hb'
    have h2 := hSD b' hb'
    exact ⟨fun h => h2 (.inl h), fun h => h2 (.inr h), by omega, by omega, by omega, by omega⟩, by omega⟩
  have hchg : ∀ {m' : M}, Chg (fun b' => S b' ∨ b' = m0.nxt) m8 m' → Chg S m m' := fun {m'} h => ⟨Nat.le_trans x8.nxt h.nxt, fun b' hb hSb => by
    rw [h.g b' (Nat.lt_of_lt_of_le hb x8.nxt) fun h3 => h3.elim hSb fun h4 => by omega]
    exact x8.g b' hb, h.vw.trans x8.vw⟩
  show Wc prog tbl 81 [.c (.int .i64 ((0 : Nat) : Int)), .c (.int .i64 ((0 : Nat) : Int)), .c (.ptr b 0), .c (.ptr m.nxt 0), .c (.ptr m4.nxt 0), .c (.ptr b2 0), .c (.ptr m6.nxt 0)] m8 _
  refine sFill hn hsz (n0 := n0') (n1 := m.nxt) (by omega) (by omega) hcl size 0 (by omega) 0 0 S m8 _ _ hSl (by simp) (fun j L hj => by rw [Nat.zero_add]; exact hj) hI8 (fun S' m' P' ho hch hst' _ _ hI' => ⟨_, rfl, ?_⟩) fun S' m' ho hch hE => ⟨_, rfl, ?_⟩
  · rw [Nat.zero_add] at hI'
    exact hQ _ S' m' (Own.trans (Own.refl S m) ho x8.nxt) (hchg hch) (.inl hI')
  · exact hQ _ S' m' (Own.trans (Own.refl S m) ho x8.nxt) (hchg hch) (.inr hE)
theorem isNil_ne {m : M} {z : C} {L : List Int} (hz : Li m z L) (hn : isNilC z = false) : ∃ b o n s c, z = .sl b o n s c := by
  rcases hz.val with ⟨rfl, _⟩ | ⟨b, o, s, c, rfl, _⟩
  · cases hn
  · exact ⟨_, _, _, _, _, rfl⟩
/-- slices.Clone -/
theorem sClone {z : C} {L : List Int} {m : M} {Q : V → M → Prop} (hz : Li m z L) (hn : isNilC z = false) (hL : L.length ≤ 1000) (h : ∀ z' m', Ext m m' → Li m' z' L → Fr m z' → slOk z' 1 L.length → Q (.c z') m') : Wc prog tbl 63 [.c z] m Q := by
  obtain ⟨b, o, n, s, c, rfl⟩ := isNil_ne hz hn
  refine w63 ⟨trivial, trivial, trivial, rfl, ?_⟩
  show ∀ m0 : M, _
  intro m0 e0
  obtain ⟨b0, x0⟩ := Bk.new e0
  have ho : Own1 m0 1 (.sl m.nxt 0 0 0 (some 0)) [] 0 := ⟨rfl, .lit _ b0.g b0.lt⟩
  by_cases h0 : L.length = 0
  · have hL0 : L = [] := List.eq_nil_of_length_eq_zero h0
    subst hL0
    exact ⟨_, _, ap_none t22 g3 z3 ho (hz.ext x0), h _ _ x0 ho.ls (fun b o n s d hq => by cases hq; exact Nat.le_refl _) (.inr (.inl ⟨_, _, _, _, rfl, Nat.le_refl _⟩))⟩
  · obtain ⟨m', q1, q2, q3, q4, q5⟩ := ap_own t22 g3 z3 ho (hz.ext x0) (by omega) (by omega) (by omega)
    have n0 : m0.nxt = m.nxt + 1 := by rw [e0]; rfl
    refine ⟨_, m', q1, h _ _ ⟨by omega, fun b' hb => ?_, q4.trans x0.vw⟩ ?_ (fun b o n s d hq => by cases hq; omega) (.inr (.inr ⟨_, _, by rw [Nat.zero_add]⟩))⟩
    · rw [q5 b' (by omega) (by intro hq; cases hq)]; exact x0.g b' hb
    · have := q2.ls
      rw [List.nil_append] at this
      have e : 0 + L.length = L.length := Nat.zero_add _
      rw [e] at this ⊢
      exact this
theorem rests_split {α : Type} (g : Nat → List α) (p : α → Bool) : ∀ e x, (rests g (e + 1) x).find? p = ((g x).find? p).or ((rests g e (x + 1)).find? p) := fun e x => by
  show (g x ++ rests g e (x + 1)).find? p = _
  rw [List.find?_append]
/-- a function value that tests a list -/
def Tests (n : Nat) (m : M) (fnc : C) (t : List Int → Bool) : Prop :=
  ∀ m' z L, Ext m m' → Li m' z L → slOk z 1 L.length → L ∈ allL n → ∀ Q : V → M → Prop, (∀ m'', Ext m' m'' → Q (.c (.bool (t L))) m'') → callP prog tbl [.c z] fnc m' Q
theorem drop_find {l : List (List Int)} {i : Nat} {a : List Int} (h : l[i]? = some a) (p : List Int → Bool) : (l.drop i).find? p = if p a then some a else (l.drop (i + 1)).find? p := by
  obtain ⟨hi, ha⟩ := List.getElem?_eq_some_iff.1 h
  rw [List.drop_eq_getElem_cons hi, ha, List.find?_cons]
  cases p a <;> rfl
theorem combs_len {n : Nat} {L : List Int} : ∀ {d : Nat} {pre : List Int} {fr : Nat}, L ∈ combs n d pre fr → L.length = pre.length + d
  | 0, pre, fr, h => by
    have : L = pre := List.mem_singleton.1 h
    rw [this]; rfl
  | d + 1, pre, fr, h => by
    obtain ⟨x, _, _, h3⟩ := (mem_rests _ _ _ _).1 h
    have := combs_len h3
    rw [List.length_append] at this
    simp only [List.length_cons, List.length_nil] at this
    omega
theorem sShort {n : Nat} {fnc : C} {t : List Int → Bool} {m : M} {Q : V → M → Prop} (hn : n ≤ 100) (ht : Tests n m fnc t) (h : ∀ z m', Ext m m' → Li m' z (shortL n t) → slOk z 1 (shortL n t).length → (∀ b o n' s d, z = .sl b o n' s d → m.nxt ≤ b) → Q (.c z) m') : Wc prog tbl 47 [.c (.int .i64 (n : Int)), .c fnc] m Q := by
  refine w47 fun m0 e0 m1 e1 => ?_
  obtain ⟨b0, x0⟩ := Bk.new e0
  obtain ⟨b1, x1⟩ := Bk.new e1
  have x01 := x0.trans x1
  have n0 : m0.nxt = m.nxt + 1 := by rw [e0]; rfl
  refine ⟨fits_small (by omega) (by omega), fun R2 hstep => ?_⟩
  let G : Nat → List (List Int) := fun s => combs n s [] 0
  have hgo : ∀ (e s : Nat) (m4 : M), e + s = n + 1 → Ext m m4 → Bk m4 m.nxt 1 [fnc] → Bk m4 m0.nxt 1 [.sl0] → (rests G e s).find? t = (allL n).find? t → R2 [.c (.int .i64 (s : Int))] m4 := by
    intro e
    induction e with
    | zero =>
      intro s m4 hes x4 k0 k1 hfind
      refine hstep _ _ ?_
      rw [ifB_dec]
      refine ⟨fun h1 => by omega, fun _ => ⟨_, k1.rc rfl, ?_⟩⟩
      have : shortL n t = [] := by unfold shortL; rw [← hfind]; rfl
      refine h _ _ x4 ?_ ?_ fun _ _ _ _ _ h9 => by cases h9
      · rw [this]; exact Ls.nil m4 1
      · rw [this]; exact .inl ⟨rfl, rfl⟩
    | succ e ih =>
      intro s m4 hes x4 k0 k1 hfind
      refine hstep _ _ ?_
      rw [ifB_dec]
      refine ⟨fun _ => ?_, fun h1 => absurd (by omega) h1⟩
      refine w62 fun m5 e5 m6 e6 => ?_
      obtain ⟨b5, x5⟩ := Bk.new e5
      obtain ⟨b6, x6⟩ := Bk.new e6
      have x56 := x5.trans x6
      refine ⟨_, rfl, ?_⟩
      have hk0 := k0.lt
      have hk1 := k1.lt
      have n5 : m5.nxt = m4.nxt + 1 := by rw [e5]; rfl
      have x46 := x4.trans x56
      have k06 := k0.ext x56
      have k16 := k1.ext x56
      rw [rests_split] at hfind
      refine range_iterV (lists_iter (b := m5.nxt) (b2 := m4.nxt) (n := n) (size := s) (by omega) (by omega)) ⟨b6, b5.ext x6⟩
        (J := fun i S ma => (∀ b', S b' ↔ b' = m0.nxt) ∧ Bk ma m0.nxt 1 [.sl0] ∧ ((G s).drop i).find? t = (G s).find? t ∧ m6.nxt ≤ ma.nxt ∧ ma.vw = m6.vw ∧ ∀ b', b' < m6.nxt → b' ≠ m0.nxt → ma.g b' = m6.g b')
        (X := fun ex S ma => ex = .exit 0 ∧ ∃ z L, (∀ b', S b' ↔ b' = m0.nxt ∨ ∃ o n s d, z = .sl b' o n s d) ∧ Bk ma m0.nxt 1 [z] ∧ Li ma z L ∧ (∀ b' o n s d, z = .sl b' o n s d → m.nxt ≤ b' ∧ b' < ma.nxt) ∧ ((G s).find? t = some L ∧ slOk z 1 L.length) ∧ m6.nxt ≤ ma.nxt ∧ ma.vw = m6.vw ∧ ∀ b', b' < m6.nxt → b' ≠ m0.nxt → ma.g b' = m6.g b')
        (fun i => ⟨fun S ma mb hj hn' hv hg hlow => ⟨hj.1, ⟨(hg _ ((hj.1 _).2 rfl)).trans hj.2.1.g, Nat.lt_of_lt_of_le hj.2.1.lt hn'⟩, hj.2.2.1, Nat.le_trans hj.2.2.2.1 hn', hv.trans hj.2.2.2.2.1, fun b' hb' hne => (hlow b' hb').trans (hj.2.2.2.2.2 b' hb' hne)⟩, fun S ma hj b' hb' => by rw [(hj.1 b').1 hb']; exact hj.2.1.lt⟩)
        (fun ex => ⟨fun S ma mb hj hn' hv hg hlow => ?_, fun S ma hj b' hb' => ?_⟩) (S0 := fun b' => b' = m0.nxt) ⟨fun _ => Iff.rfl, k16, rfl, Nat.le_refl _, rfl, fun _ _ _ => rfl⟩ (fun b' hb' hd => by rcases hd with hd | hd <;> omega) ?_ ?_ ?_ ?_
      · obtain ⟨h1, z, L, h2, h3, h4, h5, h6, h7, h8, h9⟩ := hj
        refine ⟨h1, z, L, h2, ⟨(hg _ ((h2 _).2 (.inl rfl))).trans h3.g, Nat.lt_of_lt_of_le h3.lt hn'⟩, h4.to hn' (fun b' _ hx' => ?_) hv, fun b' o n s d hz => ⟨(h5 b' o n s d hz).1, Nat.lt_of_lt_of_le (h5 b' o n s d hz).2 hn'⟩, h6, Nat.le_trans h7 hn', hv.trans h8, fun b' hb' hne => (hlow b' hb').trans (h9 b' hb' hne)⟩
        obtain ⟨o, s', d, hx'⟩ := hx'
        exact hg b' ((h2 b').2 (.inr ⟨_, _, _, _, hx'⟩))
      · obtain ⟨h1, z, L, h2, h3, h4, h5, h6, _⟩ := hj
        rcases (h2 b').1 hb' with rfl | ⟨o, n', s', d, hz⟩
        · exact h3.lt
        · exact (h5 _ _ _ _ _ hz).2
      · intro i xv S ma B' enter K hxv hj hlt hSl hown henter hK
        obtain ⟨L, z, hL, rfl, hz, hnil, hfr⟩ := hxv
        obtain ⟨hS, hkb, hf, hn6, hv6, hg6⟩ := hj
        refine ⟨z, rfl, henter ma _ rfl fun m15 hn15 hv15 hg15 hB15 => ?_⟩
        have hne0 : m0.nxt ≠ m6.nxt := by have := k16.lt; omega
        have hl15 : Li m15 z L := hz.to (by omega) (fun b' _ hx' => by obtain ⟨o, s', d, hx'⟩ := hx'; exact hg15 b' (by have := hfr b' _ _ _ _ hx'; omega)) hv15
        have kk15 : Bk m15 m0.nxt 1 [.sl0] := ⟨(hg15 _ hne0).trans hkb.g, by rw [hn15]; exact hkb.lt⟩
        have hold : ∀ b', b' < m6.nxt → b' ≠ m0.nxt → m15.g b' = m6.g b' := fun b' hb' hne => (hg15 b' (by omega)).trans (hg6 b' hb' hne)
        have x15 : Ext m m15 := ⟨by rw [hn15]; exact Nat.le_trans x46.nxt hn6, fun b' hb' => by rw [hold b' (Nat.lt_of_lt_of_le hb' x46.nxt) (by omega)]; exact x46.g b' hb', by rw [hv15, hv6]; exact x46.vw⟩
        have kf15 : Bk m15 m.nxt 1 [fnc] := ⟨(hold _ k06.lt (by omega)).trans k06.g, by rw [hn15]; exact Nat.lt_of_lt_of_le k06.lt hn6⟩
        have hLm : L ∈ combs n s [] 0 := List.mem_of_getElem? hL
        have hmem : L ∈ allL n := (mem_rests _ _ _ _).2 ⟨s, Nat.zero_le _, by omega, hLm⟩
        have hlen := combs_len hLm
        simp only [List.length_nil] at hlen
        refine ⟨fnc, kf15.rc rfl, ht m15 z L x15 hl15 hnil.2 hmem _ fun m18 e18 => ⟨_, rfl, ?_⟩⟩
        have kk18 := kk15.ext e18
        have hg18 : ∀ b', b' < ma.nxt → b' ≠ m6.nxt → m18.g b' = ma.g b' := fun b' hb' hne => by rw [e18.g b' (by omega)]; exact hg15 b' hne
        have hn18 : ma.nxt ≤ m18.nxt := by rw [← hn15]; exact e18.nxt
        have hv18 : m18.vw = ma.vw := e18.vw.trans hv15
        have hB18 : m18.g m6.nxt = m15.g m6.nxt := e18.g _ (by omega)
        rw [ifB_iff]
        refine ⟨fun htl => ?_, fun htl => ?_⟩
        · refine sClone (hl15.ext e18) hnil.1 (by omega) fun z' m21 e21 hz' hfr' hok' => ⟨z', rfl, _, (kk18.ext e21).st _, ?_⟩
          have hzne : ∀ b' o n s d, z' = .sl b' o n s d → b' ≠ m0.nxt := fun b' o n s d hq => by have := hfr' b' o n s d hq; have := kk18.lt; omega
          refine hK (.exit 0) (fun b' => b' = m0.nxt ∨ ∃ o n s d, z' = .sl b' o n s d) _ (hB15 _ ?_) (Nat.le_trans hn18 e21.nxt) (e21.vw.trans hv18) (fun b' hb' hSb hbl => ?_) (fun b' hb' => ?_) ⟨rfl, z', L, fun _ => Iff.rfl, (kk18.ext e21).set _, hz'.setNe hzne _, fun b' o n s d hq => ?_, ?_, ?_, ?_, fun b' hb' hne => ?_⟩
          · rw [M.g_set, if_neg (by omega), e21.g _ (by omega)]; exact hB18
          · rw [M.g_set, if_neg fun h0 => hSb ((hS b').2 h0), e21.g b' (by omega)]; exact hg18 b' hb' hbl
          · rcases hb' with h0 | ⟨o, n', s', d, hq⟩
            · exact .inl ((hS b').2 h0)
            · exact .inr (by have := hfr' _ _ _ _ _ hq; omega)
          · have hmm : m.nxt ≤ b' := by have := hfr' _ _ _ _ _ hq; have := x15.nxt; have := e18.nxt; omega
            refine ⟨hmm, ?_⟩
            subst hq
            rcases hz'.val with ⟨h0, _⟩ | ⟨b3, o3, s3, c3, h0, h1, _⟩
            · cases h0
            · cases h0; exact h1
          · exact ⟨by rw [← hf, drop_find hL, if_pos htl], hok'⟩
          · exact Nat.le_trans hn6 (Nat.le_trans hn18 e21.nxt)
          · exact (e21.vw.trans hv18).trans hv6
          · rw [M.g_set, if_neg hne, e21.g b' (by omega), hg18 b' (by omega) (by omega)]; exact hg6 b' hb' hne
        · refine hK .nrm S _ (hB15 _ hB18) hn18 hv18 (fun b' hb' _ hbl => hg18 b' hb' hbl) (Own.refl S ma) ⟨hS, kk18, ?_, Nat.le_trans hn6 hn18, hv18.trans hv6, fun b' hb' hne => by rw [hg18 b' (by omega) (by omega)]; exact hg6 b' hb' hne⟩
          rw [← hf, drop_find hL, if_neg (by rw [htl]; decide)]
      · intro S' m5' hown hlt hv hg hj
        obtain ⟨hS, hkb, hf, hn6, hv6, hg6⟩ := hj
        have hnone : (G s).find? t = none := by rw [← hf, List.drop_eq_nil_of_le (Nat.le_refl _)]; rfl
        rw [hnone] at hfind
        refine ⟨fits_small (by omega) (by omega), ih (s + 1) m5' (by omega) ⟨Nat.le_trans x46.nxt hn6, fun b' hb' => by rw [hg6 b' (Nat.lt_of_lt_of_le hb' x46.nxt) (by omega)]; exact x46.g b' hb', hv6.trans x46.vw⟩ ⟨(hg6 _ k06.lt (by omega)).trans k06.g, Nat.lt_of_lt_of_le k06.lt hn6⟩ hkb hfind⟩
      · intro id S' m5' hown hlt hv hg hj
        obtain ⟨h1, z, L, h2, h3, h4, h5, h6, hn6, hv6, hg6⟩ := hj
        cases h1
        refine ⟨z, h3.rc rfl, h z m5' ⟨Nat.le_trans x46.nxt hn6, fun b' hb' => by rw [hg6 b' (Nat.lt_of_lt_of_le hb' x46.nxt) (by omega)]; exact x46.g b' hb', hv6.trans x46.vw⟩ ?_ ?_ fun b o n' s d hz => (h5 b o n' s d hz).1⟩ <;> rw [show shortL n t = L from by unfold shortL; rw [← hfind, h6.1]; rfl]
        · exact h4
        · exact h6.2
      · intro S' m5' hown hlt hv hg hj
        exact absurd hj.1 (by intro h; cases h)
  exact hgo (n + 1) 0 m1 (by omega) x01 (b0.ext x1) b1 rfl
end
end Go.Proofs.YtbhdgedghfibcaaGreat

namespace Go.Proofs.YtbhdgedghfibcaaGreat
open _root_.Go.Proofs.Tryz
open Go.Abs
set_option maxRecDepth 100000
noncomputable section
theorem c88 {a100 : Int} {a101 : Bool} {a102 : Int} {a103 : C} {a104 : C} {a105 : C} {b0 : Nat} {m : M} {Q : V → M → Prop} (h :
 (∀ m0 : M, ((m0 = (M.new m (AO.cells 6 [(C.int .i64 a100), (C.bool a101), (C.int .i64 a102), a103, 
 a104, a105] false))) → (∃ c1 : C, (((ldC m0 (C.ptr b0 0)) = (some c1)) ∧ (∃ x2 : Int, (∃ b3 : Bool, 
 (∃ x4 : Int, (∃ c5 : C, (∃ c6 : C, (∃ c7 : C, (((ldA m0 (C.ptr m.nxt 0) 6) = (some [(C.int .i64 x2), 
 (C.bool b3), (C.int .i64 x4), c5, c6, c7])) ∧ (callP prog tbl [(V.agg 6 [(C.int .i64 x2), 
 (C.bool b3), (C.int .i64 x4), c5, c6, c7])] c1 m0 (fun v8 m9 => (∃ b10 : Bool, ((v8 = (V.c (C.bool b10))) ∧ 
 (Q (V.c (C.bool (!b10))) m9))))))))))))))))) : Wc prog tbl 88 [.agg 6 [.int .i64 a100, .bool a101, .int .i64 a102, a103, a104, a105], .c (.ptr b0 0)] m Q :=
 wc_eq (n := 2) rfl (by kernel_rfl) (by kernel_rfl) h
theorem c97 {a100 : Int} {b0 : Nat} {m : M} {Q : V → M → Prop} (h :
 (∃ c0 : C, (((ldC m (C.ptr b0 0)) = (some c0)) ∧ (callP prog tbl [(V.c (C.int .i64 a100))] c0 m (fun v1 m2 => 
 (∃ b3 : Bool, ((v1 = (V.c (C.bool b3))) ∧ (Q (V.c (C.bool (!b3))) m2)))))))) : Wc prog tbl 97 [.c (.int .i64 a100), .c (.ptr b0 0)] m Q :=
 wc_eq (n := 2) rfl (by kernel_rfl) (by kernel_rfl) h
theorem c105 {a100 : C} {b0 : Nat} {m : M} {Q : V → M → Prop} (h :
 (∃ c0 : C, (((ldC m (C.ptr b0 0)) = (some c0)) ∧ (callP prog tbl [(V.c a100)] c0 m (fun v1 m2 => (∃ b3 : Bool, 
 ((v1 = (V.c (C.bool b3))) ∧ (Q (V.c (C.bool (!b3))) m2)))))))) : Wc prog tbl 105 [.c (a100), .c (.ptr b0 0)] m Q :=
 wc_eq (n := 2) rfl (by kernel_rfl) (by kernel_rfl) h
theorem c99 {a100 : C} {b0 : Nat} {m : M} {Q : V → M → Prop} (h :
 (∃ c0 : C, (((ldC m (C.ptr b0 0)) = (some c0)) ∧ (callP prog tbl [(V.c a100)] c0 m (fun v1 m2 => (∃ b3 : Bool, 
 ((v1 = (V.c (C.bool b3))) ∧ (Q (V.c (C.bool (!b3))) m2)))))))) : Wc prog tbl 99 [.c (a100), .c (.ptr b0 0)] m Q :=
 wc_eq (n := 2) rfl (by kernel_rfl) (by kernel_rfl) h
end
end Go.Proofs.YtbhdgedghfibcaaGreat

