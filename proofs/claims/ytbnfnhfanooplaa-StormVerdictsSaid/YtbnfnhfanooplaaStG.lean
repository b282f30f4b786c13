/- An evaluator of the code of a program, its soundness, what calls ask, memory, and what functions of the program do. Condition: none; a lemma text of this claim. -/
import Derived.Test.YtbnfnhfanooplaaStF

namespace Go.Proofs.Ytbnfnhfanooplaa
theorem gdi {α : Type} {p A : Prop} {o : Option α} {r : α} (hp : Go.Abs.gd p o = some r) (h : p → o = some r → A) : p ∧ A := have ⟨a, b⟩ := Go.Abs.gd_some hp; ⟨a, h a b⟩
end Go.Proofs.Ytbnfnhfanooplaa

namespace Go.Proofs.Ytbnfnhfanooplaa
open _root_.Go.Proofs.Try
open Go.Abs
set_option maxRecDepth 100000
noncomputable section
structure Rg where
 Lo : Int
 Hi : Int
def ok_Rg (a : Rg) : Prop := (fitsP .i64 a.Lo) ∧ (fitsP .i64 a.Hi)
instance : MK Rg := ⟨fun k => .agg 2 [.int .i64 k.Lo, .int .i64 k.Hi], fun k => fitsP .i64 k.Lo ∧ fitsP .i64 k.Hi ∧ True⟩
instance : MV Rg := ⟨fun k => .agg 2 [.int .i64 k.Lo, .int .i64 k.Hi]⟩
instance : Rp Rg := ⟨2, by omega, fun _ cs a => cs = [.int .i64 a.Lo, .int .i64 a.Hi], fun h => by rw [h]; rfl, fun h _ => h⟩
structure Crd where
 X : Rg
 Y : Rg
 Hail : Bool
 Size : Rg
def ok_Crd (a : Crd) : Prop := (ok_Rg a.X) ∧ (ok_Rg a.Y) ∧ (True) ∧ (ok_Rg a.Size)
instance : MK Crd := ⟨fun k => .agg 7 [.int .i64 k.X.Lo, .int .i64 k.X.Hi, .int .i64 k.Y.Lo, .int .i64 k.Y.Hi, .bool k.Hail, .int .i64 k.Size.Lo, .int .i64 k.Size.Hi], fun k => fitsP .i64 k.X.Lo ∧ fitsP .i64 k.X.Hi ∧ fitsP .i64 k.Y.Lo ∧ fitsP .i64 k.Y.Hi ∧ fitsP .i64 k.Size.Lo ∧ fitsP .i64 k.Size.Hi ∧ True⟩
instance : MV Crd := ⟨fun k => .agg 7 [.int .i64 k.X.Lo, .int .i64 k.X.Hi, .int .i64 k.Y.Lo, .int .i64 k.Y.Hi, .bool k.Hail, .int .i64 k.Size.Lo, .int .i64 k.Size.Hi]⟩
instance : Rp Crd := ⟨7, by omega, fun _ cs a => cs = [.int .i64 a.X.Lo, .int .i64 a.X.Hi, .int .i64 a.Y.Lo, .int .i64 a.Y.Hi, .bool a.Hail, .int .i64 a.Size.Lo, .int .i64 a.Size.Hi], fun h => by rw [h]; rfl, fun h _ => h⟩
theorem rd_Crd {f : M} {x : C} {l : List Crd} (h : Sl f x l) {n : Nat} {a : Crd} (hi : l[n]? = some a) : ∃ _u : Unit, (∀ m, Sub f m → ldA m (slAt x (n * 7)) 7 = some [.int .i64 a.X.Lo, .int .i64 a.X.Hi, .int .i64 a.Y.Lo, .int .i64 a.Y.Hi, .bool a.Hail, .int .i64 a.Size.Lo, .int .i64 a.Size.Hi] ∧ (∀ j c, ([.int .i64 a.X.Lo, .int .i64 a.X.Hi, .int .i64 a.Y.Lo, .int .i64 a.Y.Hi, .bool a.Hail, .int .i64 a.Size.Lo, .int .i64 a.Size.Hi] : List C)[j]? = some c → ldC m (ptAdd (slAt x (n * 7)) j) = some c) ∧ ∀ j i, 0 < i → j + i ≤ 7 → ldA m (ptAdd (slAt x (n * 7)) j) i = some ((([.int .i64 a.X.Lo, .int .i64 a.X.Hi, .int .i64 a.Y.Lo, .int .i64 a.Y.Hi, .bool a.Hail, .int .i64 a.Size.Lo, .int .i64 a.Size.Hi] : List C).drop j).take i)) := by
 obtain ⟨cs, q1, q2⟩ := h.rdP hi
 have q2 : cs = _ := q2
 subst q2
 exact ⟨(), q1⟩
structure Stm where
 Wide : Int
 High : Int
 Fall : Int
 A : Rg
 B : Rg
 Half : Rg
 Peak : Rg
 Cards : List Crd
def ok_Stm (a : Stm) : Prop := (fitsP .i64 a.Wide) ∧ (fitsP .i64 a.High) ∧ (fitsP .i64 a.Fall) ∧ (ok_Rg a.A) ∧ (ok_Rg a.B) ∧ (ok_Rg a.Half) ∧ (ok_Rg a.Peak) ∧ (a.Cards.length ≤ maxLen ∧ ∀ a0 ∈ a.Cards, ok_Crd a0)
instance : Rp Stm := ⟨12, by omega, fun f cs a => ∃ c11 : C, cs = [.int .i64 a.Wide, .int .i64 a.High, .int .i64 a.Fall, .int .i64 a.A.Lo, .int .i64 a.A.Hi, .int .i64 a.B.Lo, .int .i64 a.B.Hi, .int .i64 a.Half.Lo, .int .i64 a.Half.Hi, .int .i64 a.Peak.Lo, .int .i64 a.Peak.Hi, c11] ∧ Sl f c11 a.Cards, fun h => by obtain ⟨c11, h, _⟩ := h; rw [h]; rfl, fun h s => by obtain ⟨c11, h, h0⟩ := h; exact ⟨c11, h, h0.subv s⟩⟩
structure Trh where
 A : Int
 B : Int
 Half : Int
 Peak : Int
instance : MK Trh := ⟨fun k => .agg 4 [.int .i64 k.A, .int .i64 k.B, .int .i64 k.Half, .int .i64 k.Peak], fun k => fitsP .i64 k.A ∧ fitsP .i64 k.B ∧ fitsP .i64 k.Half ∧ fitsP .i64 k.Peak ∧ True⟩
instance : MV Trh := ⟨fun k => .agg 4 [.int .i64 k.A, .int .i64 k.B, .int .i64 k.Half, .int .i64 k.Peak]⟩
instance : Rp Trh := ⟨4, by omega, fun _ cs a => cs = [.int .i64 a.A, .int .i64 a.B, .int .i64 a.Half, .int .i64 a.Peak], fun h => by rw [h]; rfl, fun h _ => h⟩
theorem rd_Trh {f : M} {x : C} {l : List Trh} (h : Sl f x l) {n : Nat} {a : Trh} (hi : l[n]? = some a) : ∃ _u : Unit, (∀ m, Sub f m → ldA m (slAt x (n * 4)) 4 = some [.int .i64 a.A, .int .i64 a.B, .int .i64 a.Half, .int .i64 a.Peak] ∧ (∀ j c, ([.int .i64 a.A, .int .i64 a.B, .int .i64 a.Half, .int .i64 a.Peak] : List C)[j]? = some c → ldC m (ptAdd (slAt x (n * 4)) j) = some c) ∧ ∀ j i, 0 < i → j + i ≤ 4 → ldA m (ptAdd (slAt x (n * 4)) j) i = some ((([.int .i64 a.A, .int .i64 a.B, .int .i64 a.Half, .int .i64 a.Peak] : List C).drop j).take i)) := by
 obtain ⟨cs, q1, q2⟩ := h.rdP hi
 have q2 : cs = _ := q2
 subst q2
 exact ⟨(), q1⟩
structure Rct where
 X : Rg
 Y : Rg
def ok_Rct (a : Rct) : Prop := (ok_Rg a.X) ∧ (ok_Rg a.Y)
instance : MK Rct := ⟨fun k => .agg 4 [.int .i64 k.X.Lo, .int .i64 k.X.Hi, .int .i64 k.Y.Lo, .int .i64 k.Y.Hi], fun k => fitsP .i64 k.X.Lo ∧ fitsP .i64 k.X.Hi ∧ fitsP .i64 k.Y.Lo ∧ fitsP .i64 k.Y.Hi ∧ True⟩
instance : MV Rct := ⟨fun k => .agg 4 [.int .i64 k.X.Lo, .int .i64 k.X.Hi, .int .i64 k.Y.Lo, .int .i64 k.Y.Hi]⟩
instance : Rp Rct := ⟨4, by omega, fun _ cs a => cs = [.int .i64 a.X.Lo, .int .i64 a.X.Hi, .int .i64 a.Y.Lo, .int .i64 a.Y.Hi], fun h => by rw [h]; rfl, fun h _ => h⟩
theorem rd_Rct {f : M} {x : C} {l : List Rct} (h : Sl f x l) {n : Nat} {a : Rct} (hi : l[n]? = some a) : ∃ _u : Unit, (∀ m, Sub f m → ldA m (slAt x (n * 4)) 4 = some [.int .i64 a.X.Lo, .int .i64 a.X.Hi, .int .i64 a.Y.Lo, .int .i64 a.Y.Hi] ∧ (∀ j c, ([.int .i64 a.X.Lo, .int .i64 a.X.Hi, .int .i64 a.Y.Lo, .int .i64 a.Y.Hi] : List C)[j]? = some c → ldC m (ptAdd (slAt x (n * 4)) j) = some c) ∧ ∀ j i, 0 < i → j + i ≤ 4 → ldA m (ptAdd (slAt x (n * 4)) j) i = some ((([.int .i64 a.X.Lo, .int .i64 a.X.Hi, .int .i64 a.Y.Lo, .int .i64 a.Y.Hi] : List C).drop j).take i)) := by
 obtain ⟨cs, q1, q2⟩ := h.rdP hi
 have q2 : cs = _ := q2
 subst q2
 exact ⟨(), q1⟩
structure Cds where
 c0 : Bool
 c1 : Bool
 c2 : Bool
 c3 : Bool
 c4 : Bool
 c5 : Bool
instance : MK Cds := ⟨fun k => .agg 6 [.bool k.c0, .bool k.c1, .bool k.c2, .bool k.c3, .bool k.c4, .bool k.c5], fun k => True⟩
instance : MV Cds := ⟨fun k => .agg 6 [.bool k.c0, .bool k.c1, .bool k.c2, .bool k.c3, .bool k.c4, .bool k.c5]⟩
instance : Rp Cds := ⟨6, by omega, fun _ cs a => cs = [.bool a.c0, .bool a.c1, .bool a.c2, .bool a.c3, .bool a.c4, .bool a.c5], fun h => by rw [h]; rfl, fun h _ => h⟩
structure Wk where
 s : Stm
 right : Option (Trh → Option (Cds))
def pawake : Option Bool := some true
def prIn (n : Int) (low : Int) (high : Int) : Option (Bool) := (if low ≤ n then (some (decide (n ≤ high))) else (some false))
def prWithin (r : Rg) (low : Int) (high : Int) : Option (Bool) := (if low ≤ r.Lo then (if r.Lo ≤ r.Hi then (some (decide (r.Hi ≤ high))) else (some false)) else (some false))
def prCount (r : Rg) : Option (Int) := (gd (fitsP .i64 (r.Hi - r.Lo)) (gd (fitsP .i64 ((r.Hi - r.Lo) + (1 : Int))) (some ((r.Hi - r.Lo) + (1 : Int)))))
def prIsRect (s : Stm) (r : Rct) : Option (Bool) := (gd (fitsP .i64 (s.Wide - (1 : Int))) ((prWithin r.X (0 : Int) (s.Wide - (1 : Int))).bind fun r329 => (if r329 = true then (gd (fitsP .i64 (s.High - (1 : Int))) ((prWithin r.Y (0 : Int) (s.High - (1 : Int))).bind fun r338 => (some r338))) else (some false))))
def prIsCard (s : Stm) (c : Crd) : Option (Bool) := ((prIsRect s ({ X := c.X, Y := c.Y } : Rct)).bind fun r356 => (if r356 = true then ((prWithin c.Size (0 : Int) (9 : Int)).bind fun r364 => (if r364 = true then (if c.Hail = true then (some true) else (gd (fitsP .i64 c.Size.Lo) (gd (fitsP .i64 (0 : Int)) (gd (fitsP .i64 c.Size.Hi) (gd (fitsP .i64 (0 : Int)) (some ((decide (c.Size.Lo = (0 : Int))) && (decide (c.Size.Hi = (0 : Int)))))))))) else (some false))) else (some false)))
def prMany (s : Stm) : Option (Int) := ((prCount s.A).bind fun r382 => ((prCount s.B).bind fun r388 => (gd ((0 : Int) ≤ r382) (gd ((0 : Int) ≤ r388) (gd (fitsP .i64 (r382 * r388)) ((prCount s.Half).bind fun r397 => (gd ((0 : Int) ≤ (r382 * r388)) (gd ((0 : Int) ≤ r397) (gd (fitsP .i64 ((r382 * r388) * r397)) ((prCount s.Peak).bind fun r406 => (gd ((0 : Int) ≤ ((r382 * r388) * r397)) (gd ((0 : Int) ≤ r406) (gd (fitsP .i64 (((r382 * r388) * r397) * r406)) (some (((r382 * r388) * r397) * r406)))))))))))))))
def prFault_L0 (s : Stm) : Nat → Int → Option (Int)
 | 0, _ => none
 | d464 + 1, x34 => (if x34 < (s.Cards.length : Int) then ((idx s.Cards x34).bind fun v466 => ((prIsCard s v466).bind fun r469 => (if r469 = true then (gd (fitsP .i64 (x34 + 1)) (prFault_L0 s d464 (x34 + 1))) else (some (1 : Int))))) else ((prMany s).bind fun r477 => (if (2000 : Int) < r477 then (some (3 : Int)) else (some (0 : Int)))))
def prFault (s : Stm) : Option (Int) := (if (12 : Int) < s.Wide then (some (3 : Int)) else (if (12 : Int) < s.High then (some (3 : Int)) else (if (6 : Int) < (s.Cards.length : Int) then (some (3 : Int)) else (if s.Wide < (2 : Int) then (some (1 : Int)) else (if s.High < (1 : Int) then (some (1 : Int)) else ((prIn s.Fall (0 : Int) (4 : Int)).bind fun r425 => (if r425 = true then (gd (fitsP .i64 (s.High - (1 : Int))) ((prWithin s.A (0 : Int) (s.High - (1 : Int))).bind fun r433 => (if r433 = true then (gd (fitsP .i64 (s.High - (1 : Int))) ((prWithin s.B (0 : Int) (s.High - (1 : Int))).bind fun r441 => (if r441 = true then ((prWithin s.Half (0 : Int) (3 : Int)).bind fun r448 => (if r448 = true then ((prWithin s.Peak (1 : Int) (9 : Int)).bind fun r455 => (if r455 = true then (prFault_L0 s 1000000 (0 : Int)) else (some (1 : Int)))) else (some (1 : Int)))) else (some (1 : Int))))) else (some (1 : Int))))) else (some (1 : Int)))))))))
def prNth (s : Stm) (n : Int) : Option (Trh) := ((prCount s.A).bind fun r502 => (gd ((0 : Int) ≤ n) (gd ((0 : Int) < r502) (gd (fitsP .i64 (n % r502)) (gd (fitsP .i64 (s.A.Lo + (n % r502))) ((prCount s.A).bind fun r514 => (gd ((0 : Int) ≤ n) (gd ((0 : Int) < r514) (gd (fitsP .i64 (n / r514)) ((prCount s.B).bind fun r532 => (gd ((0 : Int) ≤ (n / r514)) (gd ((0 : Int) < r532) (gd (fitsP .i64 ((n / r514) % r532)) (gd (fitsP .i64 (s.B.Lo + ((n / r514) % r532))) ((prCount s.B).bind fun r544 => (gd ((0 : Int) ≤ (n / r514)) (gd ((0 : Int) < r544) (gd (fitsP .i64 ((n / r514) / r544)) ((prCount s.Half).bind fun r562 => (gd ((0 : Int) ≤ ((n / r514) / r544)) (gd ((0 : Int) < r562) (gd (fitsP .i64 (((n / r514) / r544) % r562)) (gd (fitsP .i64 (s.Half.Lo + (((n / r514) / r544) % r562))) ((prCount s.Half).bind fun r574 => (gd ((0 : Int) ≤ ((n / r514) / r544)) (gd ((0 : Int) < r574) (gd (fitsP .i64 (((n / r514) / r544) / r574)) (gd (fitsP .i64 (s.Peak.Lo + (((n / r514) / r544) / r574))) (some ({ A := (s.A.Lo + (n % r502)), B := (s.B.Lo + ((n / r514) % r532)), Half := (s.Half.Lo + (((n / r514) / r544) % r562)), Peak := (s.Peak.Lo + (((n / r514) / r544) / r574)) } : Trh))))))))))))))))))))))))))))))
def prDistance (s : Stm) (t : Trh) (x : Int) (y : Int) : Option (Int) := (gd (fitsP .i64 (s.Wide - (1 : Int))) (gd ((0 : Int) ≤ (s.Wide - (1 : Int))) (gd ((0 : Int) ≤ y) (gd (fitsP .i64 ((s.Wide - (1 : Int)) * y)) (gd (fitsP .i64 ((s.Wide - (1 : Int)) - x)) (gd ((0 : Int) ≤ t.A) (gd ((0 : Int) ≤ ((s.Wide - (1 : Int)) - x)) (gd (fitsP .i64 (t.A * ((s.Wide - (1 : Int)) - x))) (gd (fitsP .i64 (((s.Wide - (1 : Int)) * y) - (t.A * ((s.Wide - (1 : Int)) - x)))) (gd ((0 : Int) ≤ t.B) (gd ((0 : Int) ≤ x) (gd (fitsP .i64 (t.B * x)) (gd (fitsP .i64 ((((s.Wide - (1 : Int)) * y) - (t.A * ((s.Wide - (1 : Int)) - x))) - (t.B * x))) (if ((((s.Wide - (1 : Int)) * y) - (t.A * ((s.Wide - (1 : Int)) - x))) - (t.B * x)) < (0 : Int) then (gd (fitsP .i64 ((0 : Int) - ((((s.Wide - (1 : Int)) * y) - (t.A * ((s.Wide - (1 : Int)) - x))) - (t.B * x)))) (some ((0 : Int) - ((((s.Wide - (1 : Int)) * y) - (t.A * ((s.Wide - (1 : Int)) - x))) - (t.B * x))))) else (some ((((s.Wide - (1 : Int)) * y) - (t.A * ((s.Wide - (1 : Int)) - x))) - (t.B * x)))))))))))))))))
def prHit (s : Stm) (t : Trh) (x : Int) (y : Int) : Option (Bool) := ((prDistance s t x y).bind fun r644 => (gd (fitsP .i64 (s.Wide - (1 : Int))) (gd ((0 : Int) ≤ (s.Wide - (1 : Int))) (gd ((0 : Int) ≤ t.Half) (gd (fitsP .i64 ((s.Wide - (1 : Int)) * t.Half)) (some (decide (r644 ≤ ((s.Wide - (1 : Int)) * t.Half)))))))))
def prSize (s : Stm) (t : Trh) (x : Int) (y : Int) : Option (Int) := ((prHit s t x y).bind fun r666 => (if r666 = true then ((prDistance s t x y).bind fun r674 => (gd (fitsP .i64 (s.Wide - (1 : Int))) (gd ((0 : Int) ≤ r674) (gd ((0 : Int) < (s.Wide - (1 : Int))) (gd (fitsP .i64 (r674 / (s.Wide - (1 : Int)))) (gd ((0 : Int) ≤ s.Fall) (gd ((0 : Int) ≤ (r674 / (s.Wide - (1 : Int)))) (gd (fitsP .i64 (s.Fall * (r674 / (s.Wide - (1 : Int))))) (gd (fitsP .i64 (t.Peak - (s.Fall * (r674 / (s.Wide - (1 : Int)))))) (some (max (1 : Int) (t.Peak - (s.Fall * (r674 / (s.Wide - (1 : Int)))))))))))))))) else (some (0 : Int))))
def prRight_L1 (s : Stm) (t : Trh) (c : Crd) (x7 : Int) (K_R4 : Bool → Int → Option (Bool)) : Nat → Bool → Int → Option (Bool)
 | 0, _, _ => none
 | d713 + 1, b12, x14 => (if x14 ≤ c.Y.Hi then (if c.Hail = true then ((prHit s t x7 x14).bind fun r716 => (if r716 = true then ((prSize s t x7 x14).bind fun r725 => ((prIn r725 c.Size.Lo c.Size.Hi).bind fun r733 => (if r733 = true then (some true) else (gd (fitsP .i64 (x14 + 1)) (prRight_L1 s t c x7 K_R4 d713 b12 (x14 + 1)))))) else (gd (fitsP .i64 (x14 + 1)) (prRight_L1 s t c x7 K_R4 d713 b12 (x14 + 1))))) else ((prHit s t x7 x14).bind fun r744 => (if r744 = true then (gd (fitsP .i64 (x14 + 1)) (prRight_L1 s t c x7 K_R4 d713 b12 (x14 + 1))) else (some true)))) else (gd (fitsP .i64 (x7 + 1)) (K_R4 b12 (x7 + 1))))
def prRight_L0 (s : Stm) (t : Trh) (c : Crd) : Nat → Bool → Int → Option (Bool)
 | 0, _, _ => none
 | d709 + 1, b5, x7 => (if x7 ≤ c.X.Hi then (prRight_L1 s t c x7 (prRight_L0 s t c d709) 1000000 b5 c.Y.Lo) else (some false))
def prRight (s : Stm) (t : Trh) (c : Crd) : Option (Bool) := (prRight_L0 s t c 1000000 false c.X.Lo)
def prAll_L1 (s : Stm) (l762 : List Int) (x3 : Int) (K_R1 : (List Int) → Int → Option (List Int)) : Nat → Int → Int → Option (List Int)
 | 0, _, _ => none
 | d774 + 1, x21, x22 => (if x22 < (s.Cards.length : Int) then ((prNth s x3).bind fun r776 => ((idx s.Cards x22).bind fun v782 => ((prRight s r776 v782).bind fun r785 => (if r785 = true then (gd ((0 : Int) ≤ (1 : Int)) (gd ((0 : Int) ≤ (wrapZ .u64 x22)) (gd ((wrapZ .u64 x22) ≤ (64 : Int)) (gd (fitsP .i64 ((1 : Int) * ((2 : Int) ^ (Int.toNat (wrapZ .u64 x22))))) (gd ((0 : Int) ≤ x21) (gd ((0 : Int) ≤ ((1 : Int) * ((2 : Int) ^ (Int.toNat (wrapZ .u64 x22))))) (gd (fitsP .i64 x21) (gd (fitsP .i64 ((1 : Int) * ((2 : Int) ^ (Int.toNat (wrapZ .u64 x22))))) (gd (fitsP .i64 (((Nat.lor (Int.toNat x21) (Int.toNat ((1 : Int) * ((2 : Int) ^ (Int.toNat (wrapZ .u64 x22)))))) : Nat) : Int)) (gd (fitsP .i64 (x22 + 1)) (prAll_L1 s l762 x3 K_R1 d774 (((Nat.lor (Int.toNat x21) (Int.toNat ((1 : Int) * ((2 : Int) ^ (Int.toNat (wrapZ .u64 x22)))))) : Nat) : Int) (x22 + 1)))))))))))) else (gd (fitsP .i64 (x22 + 1)) (prAll_L1 s l762 x3 K_R1 d774 x21 (x22 + 1))))))) else (gd (l762.length < 1048576) (gd (fitsP .i64 (x3 + 1)) (K_R1 (l762 ++ [x21]) (x3 + 1)))))
def prAll_L0 (s : Stm) : Nat → (List Int) → Int → Option (List Int)
 | 0, _, _ => none
 | d764 + 1, l762, x3 => ((prMany s).bind fun r765 => (if x3 < r765 then (prAll_L1 s l762 x3 (prAll_L0 s d764) 1000000 (0 : Int) (0 : Int)) else (some l762)))
def prAll (s : Stm) : Option (List Int) := (prAll_L0 s 1000000 [] (0 : Int))
def prEvery (s : Stm) : Option (Int) := (gd ((0 : Int) ≤ (1 : Int)) (gd ((0 : Int) ≤ (wrapZ .u64 (s.Cards.length : Int))) (gd ((wrapZ .u64 (s.Cards.length : Int)) ≤ (64 : Int)) (gd (fitsP .i64 ((1 : Int) * ((2 : Int) ^ (Int.toNat (wrapZ .u64 (s.Cards.length : Int)))))) (gd (fitsP .i64 (((1 : Int) * ((2 : Int) ^ (Int.toNat (wrapZ .u64 (s.Cards.length : Int))))) - (1 : Int))) (some (((1 : Int) * ((2 : Int) ^ (Int.toNat (wrapZ .u64 (s.Cards.length : Int))))) - (1 : Int))))))))
def prTruths_L0 (s : Stm) (r847 : List Int) : Nat → (List Trh) → Int → Option (List Trh)
 | 0, _, _ => none
 | d860 + 1, l858, x18 => (if x18 < (r847.length : Int) then ((idx r847 x18).bind fun x862 => ((prEvery s).bind fun r864 => (if x862 = r864 then ((prNth s x18).bind fun r871 => (gd (l858.length < 1048576) (gd (fitsP .i64 (x18 + 1)) (prTruths_L0 s r847 d860 (l858 ++ [r871]) (x18 + 1))))) else (gd (fitsP .i64 (x18 + 1)) (prTruths_L0 s r847 d860 l858 (x18 + 1)))))) else (some l858))
def prTruths (s : Stm) : Option (List Trh) := ((prAll s).bind fun r847 => (prTruths_L0 s r847 (r847.length + 1) [] (0 : Int)))
def prIsTruth_L0 (s : Stm) (t : Trh) : Nat → Int → Option (Bool)
 | 0, _ => none
 | d939 + 1, x28 => (if x28 < (s.Cards.length : Int) then ((idx s.Cards x28).bind fun v941 => ((prRight s t v941).bind fun r944 => (if r944 = true then (gd (fitsP .i64 (x28 + 1)) (prIsTruth_L0 s t d939 (x28 + 1))) else (some false)))) else (some true))
def prIsTruth (s : Stm) (t : Trh) : Option (Bool) := ((prIn t.A s.A.Lo s.A.Hi).bind fun r905 => (if r905 = true then ((prIn t.B s.B.Lo s.B.Hi).bind fun r913 => (if r913 = true then ((prIn t.Half s.Half.Lo s.Half.Hi).bind fun r921 => (if r921 = true then ((prIn t.Peak s.Peak.Lo s.Peak.Hi).bind fun r929 => (if r929 = true then (prIsTruth_L0 s t 1000000 (0 : Int)) else (some false))) else (some false))) else (some false))) else (some false)))
def prPlaces_L1 (s : Stm) (t : Trh) (r : Rct) (x7 : Int) (K_R4 : Bool → Bool → Int → Option (Bool × Bool)) : Nat → Bool → Bool → Int → Option (Bool × Bool)
 | 0, _, _, _ => none
 | d1004 + 1, b12, b13, x14 => (if x14 ≤ r.Y.Hi then ((prHit s t x7 x14).bind fun r1006 => (if r1006 = true then (gd (fitsP .i64 (x14 + 1)) (prPlaces_L1 s t r x7 K_R4 d1004 true b13 (x14 + 1))) else (gd (fitsP .i64 (x14 + 1)) (prPlaces_L1 s t r x7 K_R4 d1004 b12 false (x14 + 1))))) else (gd (fitsP .i64 (x7 + 1)) (K_R4 b12 b13 (x7 + 1))))
def prPlaces_L0 (s : Stm) (t : Trh) (r : Rct) : Nat → Bool → Bool → Int → Option (Bool × Bool)
 | 0, _, _, _ => none
 | d1000 + 1, b5, b6, x7 => (if x7 ≤ r.X.Hi then (prPlaces_L1 s t r x7 (prPlaces_L0 s t r d1000) 1000000 b5 b6 r.Y.Lo) else (some (b5, b6)))
def prPlaces (s : Stm) (t : Trh) (r : Rct) : Option (Bool × Bool) := (prPlaces_L0 s t r 1000000 false true r.X.Lo)
def prVerdict_L0 (s : Stm) (l : List Trh) (r : Rct) : Nat → Bool → Bool → Int → Option (Int)
 | 0, _, _, _ => none
 | d1031 + 1, b3, b4, x5 => (if x5 < (l.length : Int) then ((idx l x5).bind fun v1033 => ((prPlaces s v1033 r).bind fun r1036 => (if b3 = true then (if b4 = true then (gd (fitsP .i64 (x5 + 1)) (prVerdict_L0 s l r d1031 (!r1036.1) r1036.2 (x5 + 1))) else (gd (fitsP .i64 (x5 + 1)) (prVerdict_L0 s l r d1031 (!r1036.1) false (x5 + 1)))) else (if b4 = true then (gd (fitsP .i64 (x5 + 1)) (prVerdict_L0 s l r d1031 false r1036.2 (x5 + 1))) else (gd (fitsP .i64 (x5 + 1)) (prVerdict_L0 s l r d1031 false false (x5 + 1))))))) else (if b4 = true then (some (1 : Int)) else (if b3 = true then (some (2 : Int)) else (some (3 : Int)))))
def prVerdict (s : Stm) (l : List Trh) (r : Rct) : Option (Int) := (prVerdict_L0 s l r (l.length + 1) true true (0 : Int))
def plTo (r : Rg) : Option (Rg) := (some r)
def plStorm_L0 (s : Stm) : Nat → Int → Int → Int → Int → Int → Int → Int → Int → Int → Int → Int → (List Crd) → Int → Option (Stm)
 | 0, _, _, _, _, _, _, _, _, _, _, _, _, _ => none
 | d1469 + 1, y1455, y1456, y1457, y1458, y1459, y1460, y1461, y1462, y1463, y1464, y1465, y1466, x33 => (if x33 < (s.Cards.length : Int) then ((idx s.Cards x33).bind fun v1471 => ((plTo v1471.X).bind fun r1490 => ((plTo v1471.Y).bind fun r1499 => ((plTo v1471.Size).bind fun r1508 => (gd (y1466.length < 1048576) (gd (fitsP .i64 (x33 + 1)) (plStorm_L0 s d1469 y1455 y1456 y1457 y1458 y1459 y1460 y1461 y1462 y1463 y1464 y1465 (y1466 ++ [({ X := r1490, Y := r1499, Hail := v1471.Hail, Size := r1508 } : Crd)]) (x33 + 1)))))))) else (some ({ Wide := y1455, High := y1456, Fall := y1457, A := ({ Lo := y1458, Hi := y1459 } : Rg), B := ({ Lo := y1460, Hi := y1461 } : Rg), Half := ({ Lo := y1462, Hi := y1463 } : Rg), Peak := ({ Lo := y1464, Hi := y1465 } : Rg), Cards := y1466 } : Stm)))
def plStorm (s : Stm) : Option (Stm) := ((plTo s.A).bind fun r1408 => ((plTo s.B).bind fun r1416 => ((plTo s.Half).bind fun r1424 => ((plTo s.Peak).bind fun r1432 => (plStorm_L0 s 1000000 s.Wide s.High s.Fall r1408.Lo r1408.Hi r1416.Lo r1416.Hi r1424.Lo r1424.Hi r1432.Lo r1432.Hi [] (0 : Int))))))
def plBack (t : Trh) : Option (Trh) := (some t)
def plRect (r : Rct) : Option (Rct) := ((plTo r.X).bind fun r1598 => ((plTo r.Y).bind fun r1605 => (some ({ X := r1598, Y := r1605 } : Rct))))
def plThin (s : Stm) : Option (Bool) := (if (s.Cards.length : Int) ≤ (9 : Int) then ((prFault s).bind fun r1635 => (if r1635 = 0 then ((prMany s).bind fun r1642 => (some (decide (r1642 ≤ 300)))) else (some true))) else (some false))
def plFault (s : Stm) : Option (Int) := ((prFault s).bind fun r1653 => (some r1653))
def plSure (s : Stm) : Option (List Trh × Int) := ((plFault s).bind fun r1664 => (if r1664 = 0 then ((prTruths s).bind fun r1671 => (if (r1671.length : Int) = (0 : Int) then (some ([], (11 : Int))) else (some (r1671, (0 : Int))))) else (some ([], r1664))))
def phas (r : Rg) (n : Int) : Option (Bool) := (if r.Lo ≤ n then (some (decide (n ≤ r.Hi))) else (some false))
def pcount (r : Rg) : Option (Int) := (gd (fitsP .i64 (r.Hi - r.Lo)) (gd (fitsP .i64 ((r.Hi - r.Lo) + (1 : Int))) (some ((r.Hi - r.Lo) + (1 : Int)))))
def pwithin (r : Rg) (low : Int) (high : Int) : Option (Bool) := (if low ≤ r.Lo then (if r.Lo ≤ r.Hi then (some (decide (r.Hi ≤ high))) else (some false)) else (some false))
def prect (c : Crd) : Option (Rct) := (some ({ X := c.X, Y := c.Y } : Rct))
def ptooMany (s : Stm) : Option (Bool) := (if (12 : Int) < s.Wide then (some true) else (if (12 : Int) < s.High then (some true) else (some (decide ((6 : Int) < (s.Cards.length : Int))))))
def phasRect (s : Stm) (r : Rct) : Option (Bool) := (gd (fitsP .i64 (s.Wide - (1 : Int))) ((pwithin r.X (0 : Int) (s.Wide - (1 : Int))).bind fun r2337 => (if r2337 = true then (gd (fitsP .i64 (s.High - (1 : Int))) ((pwithin r.Y (0 : Int) (s.High - (1 : Int))).bind fun r2346 => (some r2346))) else (some false))))
def pvalidCard (w : Wk) (c : Crd) : Option (Bool) := ((prect c).bind fun r2364 => ((phasRect w.s r2364).bind fun r2371 => (if r2371 = true then ((pwithin c.Size (0 : Int) (9 : Int)).bind fun r2379 => (if r2379 = true then (if c.Hail = true then (some true) else (gd (fitsP .i64 c.Size.Lo) (gd (fitsP .i64 (0 : Int)) (gd (fitsP .i64 c.Size.Hi) (gd (fitsP .i64 (0 : Int)) (some ((decide (c.Size.Lo = (0 : Int))) && (decide (c.Size.Hi = (0 : Int)))))))))) else (some false))) else (some false))))
def peachC1 (x : Crd) (passes : Crd → Option (Bool)) : Option (Bool) := ((passes x).bind fun r2397 => (some (!r2397)))
def pindexC_L0 (l : List Crd) (p : Crd → Option (Bool)) : Nat → Int → Option (Int)
 | 0, _ => none
 | d2405 + 1, x2 => (if x2 < (l.length : Int) then ((idx l x2).bind fun v2407 => ((p v2407).bind fun r2410 => (if r2410 = true then (some x2) else (gd (fitsP .i64 (x2 + 1)) (pindexC_L0 l p d2405 (x2 + 1)))))) else (some (-1 : Int)))
def pindexC (l : List Crd) (p : Crd → Option (Bool)) : Option (Int) := (pindexC_L0 l p (l.length + 1) (0 : Int))
def pcontainsC (l : List Crd) (p : Crd → Option (Bool)) : Option (Bool) := ((pindexC l p).bind fun r2417 => (some (decide ((0 : Int) ≤ r2417))))
def peachC (l : List Crd) (passes : Crd → Option (Bool)) : Option (Bool) := ((pcontainsC l (fun a2431 => peachC1 a2431 passes)).bind fun r2433 => (some (!r2433)))
def peachR1 (x : Rct) (passes : Rct → Option (Bool)) : Option (Bool) := ((passes x).bind fun r2443 => (some (!r2443)))
def pindexR_L0 (l : List Rct) (p : Rct → Option (Bool)) : Nat → Int → Option (Int)
 | 0, _ => none
 | d2451 + 1, x2 => (if x2 < (l.length : Int) then ((idx l x2).bind fun v2453 => ((p v2453).bind fun r2456 => (if r2456 = true then (some x2) else (gd (fitsP .i64 (x2 + 1)) (pindexR_L0 l p d2451 (x2 + 1)))))) else (some (-1 : Int)))
def pindexR (l : List Rct) (p : Rct → Option (Bool)) : Option (Int) := (pindexR_L0 l p (l.length + 1) (0 : Int))
def pcontainsR (l : List Rct) (p : Rct → Option (Bool)) : Option (Bool) := ((pindexR l p).bind fun r2463 => (some (decide ((0 : Int) ≤ r2463))))
def peachR (l : List Rct) (passes : Rct → Option (Bool)) : Option (Bool) := ((pcontainsR l (fun a2477 => peachR1 a2477 passes)).bind fun r2479 => (some (!r2479)))
def pvalid (w : Wk) : Option (Bool) := (if (2 : Int) ≤ w.s.Wide then (if (1 : Int) ≤ w.s.High then (if (0 : Int) ≤ w.s.Fall then (if w.s.Fall ≤ (4 : Int) then (gd (fitsP .i64 (w.s.High - (1 : Int))) ((pwithin w.s.A (0 : Int) (w.s.High - (1 : Int))).bind fun r2494 => (if r2494 = true then (gd (fitsP .i64 (w.s.High - (1 : Int))) ((pwithin w.s.B (0 : Int) (w.s.High - (1 : Int))).bind fun r2502 => (if r2502 = true then ((pwithin w.s.Half (0 : Int) (3 : Int)).bind fun r2509 => (if r2509 = true then ((pwithin w.s.Peak (1 : Int) (9 : Int)).bind fun r2516 => (if r2516 = true then ((peachC w.s.Cards (fun a2523 => pvalidCard w a2523)).bind fun r2525 => (some r2525)) else (some false))) else (some false))) else (some false)))) else (some false)))) else (some false)) else (some false)) else (some false)) else (some false))
def pinAll (s : Stm) : Option (Int) := ((pcount s.A).bind fun r2536 => ((pcount s.B).bind fun r2542 => (gd ((0 : Int) ≤ r2536) (gd ((0 : Int) ≤ r2542) (gd (fitsP .i64 (r2536 * r2542)) ((pcount s.Half).bind fun r2551 => (gd ((0 : Int) ≤ (r2536 * r2542)) (gd ((0 : Int) ≤ r2551) (gd (fitsP .i64 ((r2536 * r2542) * r2551)) ((pcount s.Peak).bind fun r2560 => (gd ((0 : Int) ≤ ((r2536 * r2542) * r2551)) (gd ((0 : Int) ≤ r2560) (gd (fitsP .i64 (((r2536 * r2542) * r2551) * r2560)) (some (((r2536 * r2542) * r2551) * r2560)))))))))))))))
def pcheck (s : Stm) : Option (Int) := ((ptooMany s).bind fun r2616 => (if r2616 = true then (some (3 : Int)) else ((pvalid ({ s := s, right := none } : Wk)).bind fun r2623 => (if r2623 = true then ((pinAll s).bind fun r2630 => (if (2000 : Int) < r2630 then (some (3 : Int)) else (some (0 : Int)))) else (some (1 : Int))))))
def pdistance (s : Stm) (t : Trh) (x : Int) (y : Int) : Option (Int) := (gd (fitsP .i64 (s.Wide - (1 : Int))) (gd ((0 : Int) ≤ (s.Wide - (1 : Int))) (gd ((0 : Int) ≤ y) (gd (fitsP .i64 ((s.Wide - (1 : Int)) * y)) (gd (fitsP .i64 ((s.Wide - (1 : Int)) - x)) (gd ((0 : Int) ≤ t.A) (gd ((0 : Int) ≤ ((s.Wide - (1 : Int)) - x)) (gd (fitsP .i64 (t.A * ((s.Wide - (1 : Int)) - x))) (gd ((0 : Int) ≤ t.B) (gd ((0 : Int) ≤ x) (gd (fitsP .i64 (t.B * x)) (gd (fitsP .i64 ((t.A * ((s.Wide - (1 : Int)) - x)) + (t.B * x))) (gd (fitsP .i64 (((s.Wide - (1 : Int)) * y) - ((t.A * ((s.Wide - (1 : Int)) - x)) + (t.B * x)))) (gd (fitsP .i64 ((0 : Int) - (((s.Wide - (1 : Int)) * y) - ((t.A * ((s.Wide - (1 : Int)) - x)) + (t.B * x))))) (some (max (((s.Wide - (1 : Int)) * y) - ((t.A * ((s.Wide - (1 : Int)) - x)) + (t.B * x))) ((0 : Int) - (((s.Wide - (1 : Int)) * y) - ((t.A * ((s.Wide - (1 : Int)) - x)) + (t.B * x))))))))))))))))))))
def phits (s : Stm) (t : Trh) (x : Int) (y : Int) : Option (Bool) := ((pdistance s t x y).bind fun r2673 => (gd (fitsP .i64 (s.Wide - (1 : Int))) (gd ((0 : Int) ≤ (s.Wide - (1 : Int))) (gd ((0 : Int) ≤ t.Half) (gd (fitsP .i64 ((s.Wide - (1 : Int)) * t.Half)) (some (decide (r2673 ≤ ((s.Wide - (1 : Int)) * t.Half)))))))))
def psize (s : Stm) (t : Trh) (x : Int) (y : Int) : Option (Int) := ((phits s t x y).bind fun r2695 => (if r2695 = true then ((pdistance s t x y).bind fun r2703 => (gd (fitsP .i64 (s.Wide - (1 : Int))) (gd ((0 : Int) ≤ r2703) (gd ((0 : Int) < (s.Wide - (1 : Int))) (gd (fitsP .i64 (r2703 / (s.Wide - (1 : Int)))) (gd ((0 : Int) ≤ s.Fall) (gd ((0 : Int) ≤ (r2703 / (s.Wide - (1 : Int)))) (gd (fitsP .i64 (s.Fall * (r2703 / (s.Wide - (1 : Int))))) (gd (fitsP .i64 (t.Peak - (s.Fall * (r2703 / (s.Wide - (1 : Int)))))) (some (max (1 : Int) (t.Peak - (s.Fall * (r2703 / (s.Wide - (1 : Int)))))))))))))))) else (some (0 : Int))))
def pnumbersI_L0 (r : Rg) (r2718 : Int) : Nat → Int → Option (List Int)
 | 0, _ => none
 | d2729 + 1, x6 => (if x6 < r2718 then (gd (fitsP .i64 (r.Lo + x6)) (((gd (fitsP .i64 (x6 + 1)) (pnumbersI_L0 r r2718 d2729 (x6 + 1)))).bind fun r2732 => some ((r.Lo + x6) :: r2732))) else (some []))
def pnumbersI (r : Rg) : Option (List Int) := ((pcount r).bind fun r2718 => (pnumbersI_L0 r r2718 (Int.toNat r2718 + 1) (0 : Int)))
def pnumbers (r : Rg) : Option (List Int) := ((pnumbersI r).bind fun l2755 => (some l2755))
def pplacesI_L0_xret : Option (List (Int × Int)) := (some [])
def pplacesI_L1_xret : Option (List (Int × Int)) := (pplacesI_L0_xret)
def pplacesI_L1 (a2783 : Int) (K_X0 : Option (List (Int × Int))) : List Int → Option (List (Int × Int))
 | [] => (K_X0)
 | a2844 :: q2845 => ((((pplacesI_L1 a2783 K_X0 q2845))).bind fun r2867 => some ((a2783, a2844) :: r2867))
def pplacesI_L0 (r : Rct) : List Int → Option (List (Int × Int))
 | [] => (some [])
 | a2783 :: q2784 => ((pnumbers r.Y).bind fun r2821 => (pplacesI_L1 a2783 ((pplacesI_L0 r q2784)) r2821))
def pplacesI (r : Rct) : Option (List (Int × Int)) := ((pnumbers r.X).bind fun r2764 => (pplacesI_L0 r r2764))
def pplaces (r : Rct) : Option (List (Int × Int)) := ((pplacesI r).bind fun l2905 => (some l2905))
def pisRight_L0_xret (y2958 : Bool) : Option (Bool) := (some y2958)
def pisRight_L0 (s : Stm) (c : Crd) (t : Trh) : List (Int × Int) → Bool → Option (Bool)
 | [], y2958 => (some false)
 | a2964 :: q2965, y2958 => ((phits s t a2964.1 a2964.2).bind fun r2987 => (if (r2987 == c.Hail) = true then ((psize s t a2964.1 a2964.2).bind fun r2998 => ((phas c.Size r2998).bind fun r3008 => (if r3008 = true then (pisRight_L0_xret true) else ((pisRight_L0 s c t q2965) y2958)))) else ((pisRight_L0 s c t q2965) y2958)))
def pisRight (s : Stm) (c : Crd) (t : Trh) : Option (Bool) := ((prect c).bind fun r2934 => ((pplaces r2934).bind fun r2943 => (pisRight_L0 s c t r2943 false)))
def preaches_L0_xret (y3092 : Bool) : Option (Bool) := (some y3092)
def preaches_L0 (s : Stm) (t : Trh) (inn : Bool) : List (Int × Int) → Bool → Option (Bool)
 | [], y3092 => (some false)
 | a3098 :: q3099, y3092 => ((phits s t a3098.1 a3098.2).bind fun r3122 => (if (r3122 == inn) = true then (preaches_L0_xret true) else ((preaches_L0 s t inn q3099) y3092)))
def preaches (s : Stm) (t : Trh) (r : Rct) (inn : Bool) : Option (Bool) := ((pplaces r).bind fun r3075 => (preaches_L0 s t inn r3075 false))
def pupTo_L0 (last : Int) : Nat → Bool → Bool → Bool → Bool → Bool → Bool → Int → Option (Cds)
 | 0, _, _, _, _, _, _, _ => none
 | d3196 + 1, y3190, y3191, y3192, y3193, y3194, y3195, x3 => (if x3 < (last + 1) then (gd (0 ≤ x3 ∧ x3 < 6) (gd (fitsP .i64 (x3 + 1)) (pupTo_L0 last d3196 (sti x3 0 true y3190) (sti x3 1 true y3191) (sti x3 2 true y3192) (sti x3 3 true y3193) (sti x3 4 true y3194) (sti x3 5 true y3195) (x3 + 1)))) else (some ({ c0 := y3190, c1 := y3191, c2 := y3192, c3 := y3193, c4 := y3194, c5 := y3195 } : Cds)))
def pupTo (last : Int) : Option (Cds) := (gd (fitsP .i64 (last + 1)) (pupTo_L0 last (Int.toNat (last + 1) + 1) false false false false false false (0 : Int)))
def pamong_L0 (c : Cds) : Nat → Bool → Bool → Bool → Bool → Bool → Bool → Int → Option (Cds)
 | 0, _, _, _, _, _, _, _ => none
 | d3238 + 1, y3232, y3233, y3234, y3235, y3236, y3237, x4 => (if x4 < 6 then ((idx ([y3232, y3233, y3234, y3235, y3236, y3237] : List Bool) x4).bind fun v3241 => (if v3241 = true then ((idx ([c.c0, c.c1, c.c2, c.c3, c.c4, c.c5] : List Bool) x4).bind fun v3244 => (gd (0 ≤ x4 ∧ x4 < 6) (gd (fitsP .i64 (x4 + 1)) (pamong_L0 c d3238 (sti x4 0 v3244 y3232) (sti x4 1 v3244 y3233) (sti x4 2 v3244 y3234) (sti x4 3 v3244 y3235) (sti x4 4 v3244 y3236) (sti x4 5 v3244 y3237) (x4 + 1))))) else (gd (0 ≤ x4 ∧ x4 < 6) (gd (fitsP .i64 (x4 + 1)) (pamong_L0 c d3238 (sti x4 0 false y3232) (sti x4 1 false y3233) (sti x4 2 false y3234) (sti x4 3 false y3235) (sti x4 4 false y3236) (sti x4 5 false y3237) (x4 + 1)))))) else (some ({ c0 := y3232, c1 := y3233, c2 := y3234, c3 := y3235, c4 := y3236, c5 := y3237 } : Cds)))
def pamong (c : Cds) (these : Cds) : Option (Cds) := (pamong_L0 c (Int.toNat (6 : Int) + 1) these.c0 these.c1 these.c2 these.c3 these.c4 these.c5 (0 : Int))
def prightCards_L0 (w : Wk) (t : Trh) : Nat → Bool → Bool → Bool → Bool → Bool → Bool → Int → Option (Cds)
 | 0, _, _, _, _, _, _, _ => none
 | d3304 + 1, y3298, y3299, y3300, y3301, y3302, y3303, x6 => (if x6 < (w.s.Cards.length : Int) then ((idx w.s.Cards x6).bind fun v3306 => ((pisRight w.s v3306 t).bind fun r3327 => (gd (0 ≤ x6 ∧ x6 < 6) (gd (fitsP .i64 (x6 + 1)) (prightCards_L0 w t d3304 (sti x6 0 r3327 y3298) (sti x6 1 r3327 y3299) (sti x6 2 r3327 y3300) (sti x6 3 r3327 y3301) (sti x6 4 r3327 y3302) (sti x6 5 r3327 y3303) (x6 + 1)))))) else (some ({ c0 := y3298, c1 := y3299, c2 := y3300, c3 := y3301, c4 := y3302, c5 := y3303 } : Cds)))
def prightCards (w : Wk) (t : Trh) : Option (Cds) := (prightCards_L0 w t (w.s.Cards.length + 1) false false false false false false (0 : Int))
def pallCards (w : Wk) : Option (Cds) := (gd (fitsP .i64 ((w.s.Cards.length : Int) - (1 : Int))) ((pupTo ((w.s.Cards.length : Int) - (1 : Int))).bind fun r3368 => (some r3368)))
def pchoicesI_L0_xret : Option (List Trh) := (some [])
def pchoicesI_L1_xret : Option (List Trh) := (pchoicesI_L0_xret)
def pchoicesI_L2_xret : Option (List Trh) := (pchoicesI_L1_xret)
def pchoicesI_L3_xret : Option (List Trh) := (pchoicesI_L2_xret)
def pchoicesI_L3 (a3406 : Int) (a3467 : Int) (a3538 : Int) (K_X2 : Option (List Trh)) : List Int → Option (List Trh)
 | [] => (K_X2)
 | a3619 :: q3620 => ((((pchoicesI_L3 a3406 a3467 a3538 K_X2 q3620))).bind fun r3646 => some (({ A := a3406, B := a3467, Half := a3538, Peak := a3619 } : Trh) :: r3646))
def pchoicesI_L2 (s : Stm) (a3406 : Int) (a3467 : Int) (K_X1 : Option (List Trh)) : List Int → Option (List Trh)
 | [] => (K_X1)
 | a3538 :: q3539 => ((pnumbers s.Peak).bind fun r3588 => (pchoicesI_L3 a3406 a3467 a3538 ((pchoicesI_L2 s a3406 a3467 K_X1 q3539)) r3588))
def pchoicesI_L1 (s : Stm) (a3406 : Int) (K_X0 : Option (List Trh)) : List Int → Option (List Trh)
 | [] => (K_X0)
 | a3467 :: q3468 => ((pnumbers s.Half).bind fun r3511 => (pchoicesI_L2 s a3406 a3467 ((pchoicesI_L1 s a3406 K_X0 q3468)) r3511))
def pchoicesI_L0 (s : Stm) : List Int → Option (List Trh)
 | [] => (some [])
 | a3406 :: q3407 => ((pnumbers s.B).bind fun r3444 => (pchoicesI_L1 s a3406 ((pchoicesI_L0 s q3407)) r3444))
def pchoicesI (s : Stm) : Option (List Trh) := ((pnumbers s.A).bind fun r3387 => (pchoicesI_L0 s r3387))
def pchoices (s : Stm) : Option (List Trh) := ((pchoicesI s).bind fun l3700 => (some l3700))
def popen_L0 (s : Stm) : List Trh → (Option (Trh → Option (Cds))) → Option (Wk)
 | [], w3752 => (some ({ s := s, right := w3752 } : Wk))
 | a3754 :: q3755, w3752 => ((prightCards ({ s := s, right := w3752 } : Wk) a3754).bind fun r3807 => (gd (MK.fit a3754) ((mset w3752 a3754 r3807).bind fun w3819 => ((popen_L0 s q3755) w3819))))
def popen (s : Stm) : Option (Wk) := ((pchoices s).bind fun r3737 => (popen_L0 s r3737 (some fun _ => none : Option (Trh → Option (Cds)))))
def ptruthsI_L0_xret : Option (List Trh) := (some [])
def ptruthsI_L0 (w : Wk) (r3856 : Cds) : List Trh → Option (List Trh)
 | [] => (some [])
 | a3898 :: q3899 => (gd (MK.fit a3898) (mcase (mget w.right a3898) (if ((false == r3856.c0) && ((false == r3856.c1) && ((false == r3856.c2) && ((false == r3856.c3) && ((false == r3856.c4) && (false == r3856.c5)))))) = true then ((((ptruthsI_L0 w r3856 q3899))).bind fun r3943 => some (a3898 :: r3943)) else ((ptruthsI_L0 w r3856 q3899))) fun w3941 => (if ((w3941.c0 == r3856.c0) && ((w3941.c1 == r3856.c1) && ((w3941.c2 == r3856.c2) && ((w3941.c3 == r3856.c3) && ((w3941.c4 == r3856.c4) && (w3941.c5 == r3856.c5)))))) = true then ((((ptruthsI_L0 w r3856 q3899))).bind fun r3965 => some (a3898 :: r3965)) else ((ptruthsI_L0 w r3856 q3899)))))
def ptruthsI (w : Wk) : Option (List Trh) := ((pallCards w).bind fun r3856 => ((pchoices w.s).bind fun r3877 => (ptruthsI_L0 w r3856 r3877)))
def ptruths (w : Wk) : Option (List Trh) := ((ptruthsI w).bind fun l3999 => (some l3999))
def pcanHold_L0_xret (y4033 : Bool) : Option (Bool) := (some y4033)
def pcanHold_L0 (w : Wk) (these : Cds) : List Trh → Bool → Option (Bool)
 | [], y4033 => (some false)
 | a4039 :: q4040, y4033 => (gd (MK.fit a4039) (mcase (mget w.right a4039) ((pamong ({ c0 := false, c1 := false, c2 := false, c3 := false, c4 := false, c5 := false } : Cds) these).bind fun r4083 => (if ((r4083.c0 == these.c0) && ((r4083.c1 == these.c1) && ((r4083.c2 == these.c2) && ((r4083.c3 == these.c3) && ((r4083.c4 == these.c4) && (r4083.c5 == these.c5)))))) = true then (pcanHold_L0_xret true) else ((pcanHold_L0 w these q4040) y4033))) fun w4082 => ((pamong w4082 these).bind fun r4103 => (if ((r4103.c0 == these.c0) && ((r4103.c1 == these.c1) && ((r4103.c2 == these.c2) && ((r4103.c3 == these.c3) && ((r4103.c4 == these.c4) && (r4103.c5 == these.c5)))))) = true then (pcanHold_L0_xret true) else ((pcanHold_L0 w these q4040) y4033)))))
def pcanHold (w : Wk) (these : Cds) : Option (Bool) := ((pchoices w.s).bind fun r4020 => (pcanHold_L0 w these r4020 false))
def phasTruth (w : Wk) : Option (Bool) := ((pallCards w).bind fun r4139 => ((pcanHold w r4139).bind fun r4145 => (some r4145)))
def popenTrue (s : Stm) (asked : List Rct) : Option (Wk × Int) := ((pcheck s).bind fun r4162 => (if r4162 = 0 then ((peachR asked (fun a4176 => phasRect s a4176)).bind fun r4178 => (if r4178 = true then ((popen s).bind fun r4192 => ((phasTruth r4192).bind fun r4218 => (if r4218 = true then (some (r4192, (0 : Int))) else (some (({ s := ({ Wide := (0 : Int), High := (0 : Int), Fall := (0 : Int), A := ({ Lo := (0 : Int), Hi := (0 : Int) } : Rg), B := ({ Lo := (0 : Int), Hi := (0 : Int) } : Rg), Half := ({ Lo := (0 : Int), Hi := (0 : Int) } : Rg), Peak := ({ Lo := (0 : Int), Hi := (0 : Int) } : Rg), Cards := [] } : Stm), right := none } : Wk), (11 : Int)))))) else (some (({ s := ({ Wide := (0 : Int), High := (0 : Int), Fall := (0 : Int), A := ({ Lo := (0 : Int), Hi := (0 : Int) } : Rg), B := ({ Lo := (0 : Int), Hi := (0 : Int) } : Rg), Half := ({ Lo := (0 : Int), Hi := (0 : Int) } : Rg), Peak := ({ Lo := (0 : Int), Hi := (0 : Int) } : Rg), Cards := [] } : Stm), right := none } : Wk), (2 : Int))))) else (some (({ s := ({ Wide := (0 : Int), High := (0 : Int), Fall := (0 : Int), A := ({ Lo := (0 : Int), Hi := (0 : Int) } : Rg), B := ({ Lo := (0 : Int), Hi := (0 : Int) } : Rg), Half := ({ Lo := (0 : Int), Hi := (0 : Int) } : Rg), Peak := ({ Lo := (0 : Int), Hi := (0 : Int) } : Rg), Cards := [] } : Stm), right := none } : Wk), r4162))))
def pwitness_L0_xret (y4480 : Int) (y4481 : Int) (y4482 : Int) (y4483 : Int) (y4485 : Bool) : Option (Trh × Bool) := (some (({ A := y4480, B := y4481, Half := y4482, Peak := y4483 } : Trh), y4485))
def pwitness_L0 (w : Wk) (r : Rct) (inn : Bool) : List Trh → Int → Int → Int → Int → Bool → Option (Trh × Bool)
 | [], y4480, y4481, y4482, y4483, y4485 => (some (({ A := (0 : Int), B := (0 : Int), Half := (0 : Int), Peak := (0 : Int) } : Trh), false))
 | a4491 :: q4492, y4480, y4481, y4482, y4483, y4485 => ((preaches w.s a4491 r inn).bind fun r4538 => (if r4538 = true then (pwitness_L0_xret a4491.A a4491.B a4491.Half a4491.Peak true) else ((pwitness_L0 w r inn q4492) y4480 y4481 y4482 y4483 y4485)))
def pwitness (w : Wk) (r : Rct) (inn : Bool) : Option (Trh × Bool) := ((ptruths w).bind fun r4464 => (pwitness_L0 w r inn r4464 (0 : Int) (0 : Int) (0 : Int) (0 : Int) false))
def pVerdict (s : Stm) (r : Rct) : Option (Int × Int) := ((popenTrue s ([r] : List Rct)).bind fun r4796 => (if r4796.2 = (0 : Int) then ((pwitness r4796.1 r false).bind fun r4823 => (if r4823.2 = true then ((pwitness r4796.1 r true).bind fun r4848 => (if r4848.2 = true then (some ((3 : Int), (0 : Int))) else (some ((2 : Int), (0 : Int))))) else (some ((1 : Int), (0 : Int))))) else (some ((0 : Int), r4796.2))))
def pShow (s : Stm) (r : Rct) (inn : Bool) : Option (Trh × Int) := ((popenTrue s ([r] : List Rct)).bind fun r4910 => (if r4910.2 = (0 : Int) then ((pwitness r4910.1 r inn).bind fun r4948 => (if r4948.2 = true then (some (r4948.1, (0 : Int))) else (some (({ A := (0 : Int), B := (0 : Int), Half := (0 : Int), Peak := (0 : Int) } : Trh), (7 : Int))))) else (some (({ A := (0 : Int), B := (0 : Int), Half := (0 : Int), Peak := (0 : Int) } : Trh), r4910.2))))
def pStormVerdicts_L0 (s : Stm) (r : Rct) (inn : Bool) (r5590 : Trh × Int) (r5611 : List Trh × Int) : Nat → Bool → Int → Option (Bool)
 | 0, _, _ => none
 | d5693 + 1, b190, x191 => (if x191 < (r5611.1.length : Int) then ((idx r5611.1 x191).bind fun v5695 => ((prPlaces s v5695 r).bind fun r5698 => (if b190 = true then (gd (fitsP .i64 (x191 + 1)) (pStormVerdicts_L0 s r inn r5590 r5611 d5693 true (x191 + 1))) else (if inn = true then (if r5698.1 = true then (gd (fitsP .i64 (x191 + 1)) (pStormVerdicts_L0 s r inn r5590 r5611 d5693 true (x191 + 1))) else (gd (fitsP .i64 (x191 + 1)) (pStormVerdicts_L0 s r inn r5590 r5611 d5693 false (x191 + 1)))) else (gd (fitsP .i64 (x191 + 1)) (pStormVerdicts_L0 s r inn r5590 r5611 d5693 (!r5698.2) (x191 + 1))))))) else (if b190 = true then (if r5590.2 = (0 : Int) then ((plBack r5590.1).bind fun r5733 => ((prIsTruth s r5733).bind fun r5741 => (if r5741 = true then ((plBack r5590.1).bind fun r5750 => ((prPlaces s r5750 r).bind fun r5758 => (if inn = true then (if r5758.1 = true then ((pawake).bind fun r5768 => (some r5768)) else (some false)) else (if r5758.2 = true then (some false) else ((pawake).bind fun r5777 => (some r5777)))))) else (some false)))) else (some false)) else (if r5590.2 = (7 : Int) then (gd (fitsP .i64 r5590.1.A) (gd (fitsP .i64 (0 : Int)) (gd (fitsP .i64 r5590.1.B) (gd (fitsP .i64 (0 : Int)) (gd (fitsP .i64 r5590.1.Half) (gd (fitsP .i64 (0 : Int)) (gd (fitsP .i64 r5590.1.Peak) (gd (fitsP .i64 (0 : Int)) (if ((decide (r5590.1.A = (0 : Int))) && ((decide (r5590.1.B = (0 : Int))) && ((decide (r5590.1.Half = (0 : Int))) && (decide (r5590.1.Peak = (0 : Int)))))) = true then ((pawake).bind fun r5724 => (some r5724)) else (some false)))))))))) else (some false))))
def pStormVerdicts_L1 (s : Stm) (r : Rct) (inn : Bool) (r5590 : Trh × Int) (r5611 : List Trh × Int) : Nat → Bool → Int → Option (Bool)
 | 0, _, _ => none
 | d5818 + 1, b316, x317 => (if x317 < (r5611.1.length : Int) then ((idx r5611.1 x317).bind fun v5820 => ((prPlaces s v5820 r).bind fun r5823 => (if b316 = true then (gd (fitsP .i64 (x317 + 1)) (pStormVerdicts_L1 s r inn r5590 r5611 d5818 true (x317 + 1))) else (if inn = true then (if r5823.1 = true then (gd (fitsP .i64 (x317 + 1)) (pStormVerdicts_L1 s r inn r5590 r5611 d5818 true (x317 + 1))) else (gd (fitsP .i64 (x317 + 1)) (pStormVerdicts_L1 s r inn r5590 r5611 d5818 false (x317 + 1)))) else (gd (fitsP .i64 (x317 + 1)) (pStormVerdicts_L1 s r inn r5590 r5611 d5818 (!r5823.2) (x317 + 1))))))) else (if b316 = true then (if r5590.2 = (0 : Int) then ((plBack r5590.1).bind fun r5858 => ((prIsTruth s r5858).bind fun r5866 => (if r5866 = true then ((plBack r5590.1).bind fun r5875 => ((prPlaces s r5875 r).bind fun r5883 => (if inn = true then (if r5883.1 = true then ((pawake).bind fun r5893 => (some r5893)) else (some false)) else (if r5883.2 = true then (some false) else ((pawake).bind fun r5902 => (some r5902)))))) else (some false)))) else (some false)) else (if r5590.2 = (7 : Int) then (gd (fitsP .i64 r5590.1.A) (gd (fitsP .i64 (0 : Int)) (gd (fitsP .i64 r5590.1.B) (gd (fitsP .i64 (0 : Int)) (gd (fitsP .i64 r5590.1.Half) (gd (fitsP .i64 (0 : Int)) (gd (fitsP .i64 r5590.1.Peak) (gd (fitsP .i64 (0 : Int)) (if ((decide (r5590.1.A = (0 : Int))) && ((decide (r5590.1.B = (0 : Int))) && ((decide (r5590.1.Half = (0 : Int))) && (decide (r5590.1.Peak = (0 : Int)))))) = true then ((pawake).bind fun r5849 => (some r5849)) else (some false)))))))))) else (some false))))
def pStormVerdicts (s : Stm) (r : Rct) (inn : Bool) : Option (Bool) := ((plThin s).bind fun r5524 => (if r5524 = true then ((plStorm s).bind fun r5539 => ((plRect r).bind fun r5549 => ((pVerdict r5539 r5549).bind fun r5556 => ((plStorm s).bind fun r5571 => ((plRect r).bind fun r5582 => ((pShow r5571 r5582 inn).bind fun r5590 => ((plSure s).bind fun r5611 => ((plFault s).bind fun r5622 => (if r5622 = 0 then ((prIsRect s r).bind fun r5631 => (if r5631 = true then (if r5611.2 = (0 : Int) then (if r5556.2 = (0 : Int) then ((prVerdict s r5611.1 r).bind fun r5682 => (if r5556.1 = r5682 then (pStormVerdicts_L0 s r inn r5590 r5611 (r5611.1.length + 1) false (0 : Int)) else (some false))) else (some false)) else (if r5556.2 = r5611.2 then (if r5590.2 = r5611.2 then (if r5556.1 = (0 : Int) then (gd (fitsP .i64 r5590.1.A) (gd (fitsP .i64 (0 : Int)) (gd (fitsP .i64 r5590.1.B) (gd (fitsP .i64 (0 : Int)) (gd (fitsP .i64 r5590.1.Half) (gd (fitsP .i64 (0 : Int)) (gd (fitsP .i64 r5590.1.Peak) (gd (fitsP .i64 (0 : Int)) (if ((decide (r5590.1.A = (0 : Int))) && ((decide (r5590.1.B = (0 : Int))) && ((decide (r5590.1.Half = (0 : Int))) && (decide (r5590.1.Peak = (0 : Int)))))) = true then ((pawake).bind fun r5673 => (some r5673)) else (some false)))))))))) else (some false)) else (some false)) else (some false))) else (if r5556.2 = (2 : Int) then (if r5590.2 = (2 : Int) then (if r5556.1 = (0 : Int) then (gd (fitsP .i64 r5590.1.A) (gd (fitsP .i64 (0 : Int)) (gd (fitsP .i64 r5590.1.B) (gd (fitsP .i64 (0 : Int)) (gd (fitsP .i64 r5590.1.Half) (gd (fitsP .i64 (0 : Int)) (gd (fitsP .i64 r5590.1.Peak) (gd (fitsP .i64 (0 : Int)) (if ((decide (r5590.1.A = (0 : Int))) && ((decide (r5590.1.B = (0 : Int))) && ((decide (r5590.1.Half = (0 : Int))) && (decide (r5590.1.Peak = (0 : Int)))))) = true then ((pawake).bind fun r5652 => (some r5652)) else (some false)))))))))) else (some false)) else (some false)) else (some false)))) else (if r5611.2 = (0 : Int) then (if r5556.2 = (0 : Int) then ((prVerdict s r5611.1 r).bind fun r5807 => (if r5556.1 = r5807 then (pStormVerdicts_L1 s r inn r5590 r5611 (r5611.1.length + 1) false (0 : Int)) else (some false))) else (some false)) else (if r5556.2 = r5611.2 then (if r5590.2 = r5611.2 then (if r5556.1 = (0 : Int) then (gd (fitsP .i64 r5590.1.A) (gd (fitsP .i64 (0 : Int)) (gd (fitsP .i64 r5590.1.B) (gd (fitsP .i64 (0 : Int)) (gd (fitsP .i64 r5590.1.Half) (gd (fitsP .i64 (0 : Int)) (gd (fitsP .i64 r5590.1.Peak) (gd (fitsP .i64 (0 : Int)) (if ((decide (r5590.1.A = (0 : Int))) && ((decide (r5590.1.B = (0 : Int))) && ((decide (r5590.1.Half = (0 : Int))) && (decide (r5590.1.Peak = (0 : Int)))))) = true then ((pawake).bind fun r5798 => (some r5798)) else (some false)))))))))) else (some false)) else (some false)) else (some false)))))))))))) else ((pawake).bind fun r5532 => (some r5532))))
end
end Go.Proofs.Ytbnfnhfanooplaa

namespace Go.Proofs.Ytbnfnhfanooplaa
open _root_.Go.Proofs.Try
open Go.Abs
set_option maxRecDepth 100000
noncomputable section
theorem c135 {a100 : Int} {a101 : Int} {a102 : Int} {a103 : Int} {a104 : Bool} {a105 : Int} {a106 : Int} {b0 : Nat} {m : M} {Q : V → M → Prop} (h :
 (∀ m0 : M, (m0 = (M.new m (AO.cells 7 [(Il a100), (Il a101), (Il a102), 
 (Il a103), (C.bool a104), (Il a105), (Il a106)] false))) → 
 ∃ c1 : C, ((ldC m0 (C.ptr b0 0)) = (some c1)) ∧ ∃ x2, ∃ x3, ∃ x4, ∃ x5, 
 ∃ b6 : Bool, ∃ x7, ∃ x8, ((ldA m0 (C.ptr m.nxt 0) 7) = (some [(Il x2), 
 (Il x3), (Il x4), (Il x5), (C.bool b6), (Il x7), 
 (Il x8)])) ∧ callP prog tbl [(V.agg 7 [(Il x2), (Il x3), 
 (Il x4), (Il x5), (C.bool b6), (Il x7), (Il x8)])] c1 m0 (fun v9 m10 => 
 ∃ b11 : Bool, (v9 = (V.c (C.bool b11))) ∧ Q (V.c (C.bool (!b11))) m10))) : Wc prog tbl 135 [.agg 7 [Il a100, Il a101, Il a102, Il a103, .bool a104, Il a105, Il a106], .c (.ptr b0 0)] m Q :=
 wc_eq (n := 2) rfl (by kernel_rfl) (by kernel_rfl) h
theorem c127 {a100 : Int} {a101 : Int} {a102 : Int} {a103 : Int} {b0 : Nat} {m : M} {Q : V → M → Prop} (h :
 (∀ m0 : M, (m0 = (M.new m (AO.cells 4 [(Il a100), (Il a101), (Il a102), 
 (Il a103)] false))) → ∃ c1 : C, ((ldC m0 (C.ptr b0 0)) = (some c1)) ∧ ∃ x2, 
 ∃ x3, ∃ x4, ∃ x5, ((ldA m0 (C.ptr m.nxt 0) 4) = (some [(Il x2), 
 (Il x3), (Il x4), (Il x5)])) ∧ callP prog tbl [(V.agg 4 [(Il x2), 
 (Il x3), (Il x4), (Il x5)])] c1 m0 (fun v6 m7 => 
 ∃ b8 : Bool, (v6 = (V.c (C.bool b8))) ∧ Q (V.c (C.bool (!b8))) m7))) : Wc prog tbl 127 [.agg 4 [Il a100, Il a101, Il a102, Il a103], .c (.ptr b0 0)] m Q :=
 wc_eq (n := 2) rfl (by kernel_rfl) (by kernel_rfl) h
theorem c129 {a100 : C} {b0 : Nat} {m : M} {Q : V → M → Prop} (h :
 (∃ x0, ∃ x1, ((ldA m (C.ptr b0 0) 2) = (some [(Il x0), (Il x1)])) ∧ 
 Wc prog tbl 125 [(V.agg 2 [(Il x0), (Il x1)])] m (fun v2 m3 => ∃ x4, 
 (v2 = (V.c (Il x4))) ∧ ∀ R5 : List V → M → Prop, (∀ x6 : Int, ∀ m7 : M, (ifB (decide (x6 < x4)) (isPt (C.ptr b0 0) ∧ 
 ∃ x8, ((ldC m7 (C.ptr b0 0)) = (some (Il x8))) ∧ fitsP .i64 (x8 + x6) ∧ 
 callP prog tbl [(V.c (Il (x8 + x6)))] a100 m7 (fun v9 m10 => ∃ b11 : Bool, 
 (v9 = (V.c (C.bool b11))) ∧ ifB (!b11) (Q (V.tup []) m10) (fitsP .i64 (x6 + 1) ∧ 
 R5 [(V.c (Il (x6 + 1)))] m10))) (Q (V.tup []) m7)) → 
 R5 [(V.c (Il x6))] m7) → R5 [(V.c (Il 0))] m3))) : Wc prog tbl 129 [.c (a100), .c (.ptr b0 0)] m Q :=
 wc_eq (n := 2) rfl (by kernel_rfl) (by kernel_rfl) h
theorem c114 {a100 : C} {b0 : Nat} {m : M} {Q : V → M → Prop} (h :
 (∀ m0 : M, (m0 = (M.new m (AO.cells 1 [a100] false))) → isPt (C.ptr b0 0) ∧ ∃ x1, ∃ x2, ((ldA m0 (C.ptr b0 0) 2) = (some [(Il x1), 
 (Il x2)])) ∧ Wc prog tbl 115 [(V.agg 2 [(Il x1), (Il x2)])] m0 (fun v3 m4 => 
 ∃ c5 : C, (v3 = (V.c c5)) ∧ rangeP prog tbl c5 m4 (fun l6 m7 R8 R9 => ∃ x10, (l6 = [(V.c (Il x10))]) ∧ 
 ∀ m11 : M, (m11 = (M.new m7 (AO.cells 1 [(Il 0)] false))) → ∃ m12 : M, 
 ((stC m11 (C.ptr m7.nxt 0) 1 [(Il x10)]) = (some m12)) ∧ R8 m12 (fun m13 => 
 isPt (C.ptr b0 0) ∧ ∃ x14, ∃ x15, ((ldA m13 (C.ptr b0 2) 2) = (some [(Il x14), 
 (Il x15)])) ∧ Wc prog tbl 115 [(V.agg 2 [(Il x14), 
 (Il x15)])] m13 (fun v16 m17 => ∃ c18 : C, (v16 = (V.c c18)) ∧ 
 rangeP prog tbl c18 m17 (fun l19 m20 R21 R22 => ∃ x23, (l19 = [(V.c (Il x23))]) ∧ 
 R21 m20 (fun m24 => ∃ c25 : C, ((ldC m24 (C.ptr m.nxt 0)) = (some c25)) ∧ 
 ∃ x26, ((ldC m24 (C.ptr m7.nxt 0)) = (some (Il x26))) ∧ 
 callP prog tbl [(V.c (Il x26)), (V.c (Il x23))] c25 m24 (fun v27 m28 => 
 ∃ b29 : Bool, (v27 = (V.c (C.bool b29))) ∧ ifB (!b29) (R22 Ex.ret m28) (R22 Ex.nrm m28)))) (After.mk (fun m30 => 
 R9 Ex.nrm m30) [] (fun m31 => R9 Ex.ret m31))))) (After.mk (fun m32 => 
 Q (V.tup []) m32) [] (fun m33 => Q (V.tup []) m33))))) : Wc prog tbl 114 [.c (a100), .c (.ptr b0 0)] m Q :=
 wc_eq (n := 2) rfl (by kernel_rfl) (by kernel_rfl) h
theorem c130 {a100 : C} {b0 : Nat} {m : M} {Q : V → M → Prop} (h :
 (∀ m0 : M, (m0 = (M.new m (AO.cells 1 [a100] false))) → isPt (C.ptr b0 0) ∧ ∃ x1, ∃ x2, ((ldA m0 (C.ptr b0 3) 2) = (some [(Il x1), 
 (Il x2)])) ∧ Wc prog tbl 115 [(V.agg 2 [(Il x1), (Il x2)])] m0 (fun v3 m4 => 
 ∃ c5 : C, (v3 = (V.c c5)) ∧ rangeP prog tbl c5 m4 (fun l6 m7 R8 R9 => ∃ x10, (l6 = [(V.c (Il x10))]) ∧ 
 ∀ m11 : M, (m11 = (M.new m7 (AO.cells 1 [(Il 0)] false))) → ∃ m12 : M, 
 ((stC m11 (C.ptr m7.nxt 0) 1 [(Il x10)]) = (some m12)) ∧ R8 m12 (fun m13 => 
 isPt (C.ptr b0 0) ∧ ∃ x14, ∃ x15, ((ldA m13 (C.ptr b0 5) 2) = (some [(Il x14), 
 (Il x15)])) ∧ Wc prog tbl 115 [(V.agg 2 [(Il x14), 
 (Il x15)])] m13 (fun v16 m17 => ∃ c18 : C, (v16 = (V.c c18)) ∧ 
 rangeP prog tbl c18 m17 (fun l19 m20 R21 R22 => ∃ x23, (l19 = [(V.c (Il x23))]) ∧ 
 ∀ m24 : M, (m24 = (M.new m20 (AO.cells 1 [(Il 0)] false))) → 
 ∃ m25 : M, ((stC m24 (C.ptr m20.nxt 0) 1 [(Il x23)]) = (some m25)) ∧ 
 R21 m25 (fun m26 => isPt (C.ptr b0 0) ∧ ∃ x27, ∃ x28, ((ldA m26 (C.ptr b0 7) 2) = (some [(Il x27), 
 (Il x28)])) ∧ Wc prog tbl 115 [(V.agg 2 [(Il x27), 
 (Il x28)])] m26 (fun v29 m30 => ∃ c31 : C, (v29 = (V.c c31)) ∧ 
 rangeP prog tbl c31 m30 (fun l32 m33 R34 R35 => ∃ x36, (l32 = [(V.c (Il x36))]) ∧ 
 ∀ m37 : M, (m37 = (M.new m33 (AO.cells 1 [(Il 0)] false))) → 
 ∃ m38 : M, ((stC m37 (C.ptr m33.nxt 0) 1 [(Il x36)]) = (some m38)) ∧ 
 R34 m38 (fun m39 => isPt (C.ptr b0 0) ∧ ∃ x40, ∃ x41, ((ldA m39 (C.ptr b0 9) 2) = (some [(Il x40), 
 (Il x41)])) ∧ Wc prog tbl 115 [(V.agg 2 [(Il x40), 
 (Il x41)])] m39 (fun v42 m43 => ∃ c44 : C, (v42 = (V.c c44)) ∧ 
 rangeP prog tbl c44 m43 (fun l45 m46 R47 R48 => ∃ x49, (l45 = [(V.c (Il x49))]) ∧ 
 R47 m46 (fun m50 => ∃ c51 : C, ((ldC m50 (C.ptr m.nxt 0)) = (some c51)) ∧ 
 ∃ x52, ((ldC m50 (C.ptr m7.nxt 0)) = (some (Il x52))) ∧ 
 ∃ x53, ((ldC m50 (C.ptr m20.nxt 0)) = (some (Il x53))) ∧ 
 ∃ x54, ((ldC m50 (C.ptr m33.nxt 0)) = (some (Il x54))) ∧ 
 callP prog tbl [(V.agg 4 [(Il x52), (Il x53), 
 (Il x54), (Il x49)])] c51 m50 (fun v55 m56 => ∃ b57 : Bool, 
 (v55 = (V.c (C.bool b57))) ∧ ifB (!b57) (R48 Ex.ret m56) (R48 Ex.nrm m56)))) (After.mk (fun m58 => 
 R35 Ex.nrm m58) [] (fun m59 => R35 Ex.ret m59))))) (After.mk (fun m60 => 
 R22 Ex.nrm m60) [] (fun m61 => R22 Ex.ret m61))))) (After.mk (fun m62 => 
 R9 Ex.nrm m62) [] (fun m63 => R9 Ex.ret m63))))) (After.mk (fun m64 => 
 Q (V.tup []) m64) [] (fun m65 => Q (V.tup []) m65))))) : Wc prog tbl 130 [.c (a100), .c (.ptr b0 0)] m Q :=
 wc_eq (n := 2) rfl (by kernel_rfl) (by kernel_rfl) h
theorem c128 {a100 : C} {b0 : Nat} {m : M} {Q : V → M → Prop} (h :
 (∀ m0 : M, (m0 = (M.new m (AO.cells 1 [a100] false))) → ∃ x1, ∃ x2, ∃ x3, ∃ x4, ∃ x5, 
 ∃ x6, ∃ x7, ∃ x8, ∃ x9, ∃ x10, ∃ x11, ∃ c12 : C, ∃ c13 : C, 
 ((ldA m0 (C.ptr b0 0) 13) = (some [(Il x1), (Il x2), (Il x3), 
 (Il x4), (Il x5), (Il x6), (Il x7), 
 (Il x8), (Il x9), (Il x10), (Il x11), 
 c12, c13])) ∧ Wc prog tbl 92 [(V.agg 13 [(Il x1), (Il x2), 
 (Il x3), (Il x4), (Il x5), (Il x6), 
 (Il x7), (Il x8), (Il x9), (Il x10), 
 (Il x11), c12, c13])] m0 (fun v14 m15 => ∃ b16 : Bool, ∃ b17 : Bool, ∃ b18 : Bool, 
 ∃ b19 : Bool, ∃ b20 : Bool, ∃ b21 : Bool, (v14 = (V.agg 6 [(C.bool b16), (C.bool b17), 
 (C.bool b18), (C.bool b19), (C.bool b20), (C.bool b21)])) ∧ ∀ m22 : M, (m22 = (M.new m15 (AO.cells 6 [(C.bool false), 
 (C.bool false), (C.bool false), (C.bool false), (C.bool false), (C.bool false)] false))) → 
 ∃ m23 : M, ((stC m22 (C.ptr m15.nxt 0) 6 [(C.bool b16), (C.bool b17), (C.bool b18), 
 (C.bool b19), (C.bool b20), (C.bool b21)]) = (some m23)) ∧ isPt (C.ptr b0 0) ∧ 
 ∃ x24, ∃ x25, ∃ x26, ∃ x27, ∃ x28, ∃ x29, 
 ∃ x30, ∃ x31, ∃ x32, ∃ x33, ∃ x34, ∃ c35 : C, 
 ((ldA m23 (C.ptr b0 0) 12) = (some [(Il x24), (Il x25), 
 (Il x26), (Il x27), (Il x28), (Il x29), 
 (Il x30), (Il x31), (Il x32), (Il x33), 
 (Il x34), c35])) ∧ Wc prog tbl 116 [(V.agg 12 [(Il x24), 
 (Il x25), (Il x26), (Il x27), (Il x28), 
 (Il x29), (Il x30), (Il x31), (Il x32), 
 (Il x33), (Il x34), c35])] m23 (fun v36 m37 => 
 ∃ c38 : C, (v36 = (V.c c38)) ∧ rangeP prog tbl c38 m37 (fun l39 m40 R41 R42 => 
 ∃ x43, ∃ x44, ∃ x45, ∃ x46, (l39 = [(V.agg 4 [(Il x43), 
 (Il x44), (Il x45), (Il x46)])]) ∧ 
 ∀ m47 : M, (m47 = (M.new m40 (AO.cells 4 [(Il 0), (Il 0), 
 (Il 0), (Il 0)] false))) → ∃ m48 : M, 
 ((stC m47 (C.ptr m40.nxt 0) 4 [(Il x43), (Il x44), 
 (Il x45), (Il x46)]) = (some m48)) ∧ R41 m48 (fun m49 => 
 isPt (C.ptr b0 0) ∧ ∃ c50 : C, ((ldC m49 (C.ptr b0 12)) = (some c50)) ∧ 
 ∃ x51, ∃ x52, ∃ x53, ∃ x54, ((ldA m49 (C.ptr m40.nxt 0) 4) = (some [(Il x51), 
 (Il x52), (Il x53), (Il x54)])) ∧ 
 ∃ y55 : Option U, ((lkM prog 43 m49 c50 (V.agg 4 [(Il x51), 
 (Il x52), (Il x53), (Il x54)])) = (some y55)) ∧ 
 ((y55 = Option.none) → ∃ b56 : Bool, ∃ b57 : Bool, ∃ b58 : Bool, ∃ b59 : Bool, 
 ∃ b60 : Bool, ∃ b61 : Bool, ((ldA m49 (C.ptr m15.nxt 0) 6) = (some [(C.bool b56), 
 (C.bool b57), (C.bool b58), (C.bool b59), (C.bool b60), (C.bool b61)])) ∧ ifB ((false == b56) && ((false == b57) && ((false == b58) && ((false == b59) && ((false == b60) && (false == b61)))))) (∃ c62 : C, 
 ((ldC m49 (C.ptr m.nxt 0)) = (some c62)) ∧ ∃ x63, ∃ x64, 
 ∃ x65, ∃ x66, ((ldA m49 (C.ptr m40.nxt 0) 4) = (some [(Il x63), 
 (Il x64), (Il x65), (Il x66)])) ∧ 
 callP prog tbl [(V.agg 4 [(Il x63), (Il x64), 
 (Il x65), (Il x66)])] c62 m49 (fun v67 m68 => ∃ b69 : Bool, 
 (v67 = (V.c (C.bool b69))) ∧ ifB (!b69) (R42 Ex.ret m68) (R42 Ex.nrm m68))) (R42 Ex.nrm m49)) ∧ 
 ∀ u70 : U, (y55 = (some u70)) → ∃ b71 : Bool, ∃ b72 : Bool, ∃ b73 : Bool, 
 ∃ b74 : Bool, ∃ b75 : Bool, ∃ b76 : Bool, (u70 = (U.agg 6 [(C.bool b71), 
 (C.bool b72), (C.bool b73), (C.bool b74), (C.bool b75), (C.bool b76)])) ∧ ∃ b77 : Bool, 
 ∃ b78 : Bool, ∃ b79 : Bool, ∃ b80 : Bool, ∃ b81 : Bool, ∃ b82 : Bool, ((ldA m49 (C.ptr m15.nxt 0) 6) = (some [(C.bool b77), 
 (C.bool b78), (C.bool b79), (C.bool b80), (C.bool b81), (C.bool b82)])) ∧ ifB ((b71 == b77) && ((b72 == b78) && ((b73 == b79) && ((b74 == b80) && ((b75 == b81) && (b76 == b82)))))) (∃ c83 : C, 
 ((ldC m49 (C.ptr m.nxt 0)) = (some c83)) ∧ ∃ x84, ∃ x85, 
 ∃ x86, ∃ x87, ((ldA m49 (C.ptr m40.nxt 0) 4) = (some [(Il x84), 
 (Il x85), (Il x86), (Il x87)])) ∧ 
 callP prog tbl [(V.agg 4 [(Il x84), (Il x85), 
 (Il x86), (Il x87)])] c83 m49 (fun v88 m89 => ∃ b90 : Bool, 
 (v88 = (V.c (C.bool b90))) ∧ ifB (!b90) (R42 Ex.ret m89) (R42 Ex.nrm m89))) (R42 Ex.nrm m49))) (After.mk (fun m91 => 
 Q (V.tup []) m91) [] (fun m92 => Q (V.tup []) m92)))))) : Wc prog tbl 128 [.c (a100), .c (.ptr b0 0)] m Q :=
 wc_eq (n := 2) rfl (by kernel_rfl) (by kernel_rfl) h
end
end Go.Proofs.Ytbnfnhfanooplaa

namespace Go.Proofs.Ytbnfnhfanooplaa
open _root_.Go.Proofs.Try
open Go.Abs
set_option maxRecDepth 100000
noncomputable section
theorem w3 {a100 : Int} {a101 : Int} {a102 : Int} {a103 : Int} {a104 : Int} {a105 : Int} {a106 : Int} {a107 : Int} {a108 : Int} {a109 : Int} {a110 : Int} {a111 : C} {a200 : Int} {a201 : Int} {a202 : Int} {a203 : Int} {a300 : Bool} {m : M} {Q : V → M → Prop} (h :
 (∀ m0 : M, (m0 = (M.new m (AO.cells 12 [(Il a100), (Il a101), (Il a102), 
 (Il a103), (Il a104), (Il a105), (Il a106), 
 (Il a107), (Il a108), (Il a109), (Il a110), 
 a111] false))) → ∀ m1 : M, (m1 = (M.new m0 (AO.cells 4 [(Il a200), (Il a201), 
 (Il a202), (Il a203)] false))) → ∃ x2, ∃ x3, ∃ x4, 
 ∃ x5, ∃ x6, ∃ x7, ∃ x8, ∃ x9, ∃ x10, ∃ x11, ∃ x12, 
 ∃ c13 : C, ((ldA m1 (C.ptr m.nxt 0) 12) = (some [(Il x2), (Il x3), 
 (Il x4), (Il x5), (Il x6), (Il x7), 
 (Il x8), (Il x9), (Il x10), (Il x11), 
 (Il x12), c13])) ∧ Wc prog tbl 16 [(V.agg 12 [(Il x2), (Il x3), 
 (Il x4), (Il x5), (Il x6), (Il x7), 
 (Il x8), (Il x9), (Il x10), (Il x11), 
 (Il x12), c13])] m1 (fun v14 m15 => ∃ b16 : Bool, (v14 = (V.c (C.bool b16))) ∧ 
 ifB (!b16) (Wc prog tbl 17 [] m15 (fun v17 m18 => ∃ b19 : Bool, (v17 = (V.c (C.bool b19))) ∧ 
 Q (V.c (C.bool b19)) m18)) (∃ x20, ∃ x21, ∃ x22, ∃ x23, 
 ∃ x24, ∃ x25, ∃ x26, ∃ x27, ∃ x28, ∃ x29, 
 ∃ x30, ∃ c31 : C, ((ldA m15 (C.ptr m.nxt 0) 12) = (some [(Il x20), 
 (Il x21), (Il x22), (Il x23), (Il x24), 
 (Il x25), (Il x26), (Il x27), (Il x28), 
 (Il x29), (Il x30), c31])) ∧ Wc prog tbl 19 [(V.agg 12 [(Il x20), 
 (Il x21), (Il x22), (Il x23), (Il x24), 
 (Il x25), (Il x26), (Il x27), (Il x28), 
 (Il x29), (Il x30), c31])] m15 (fun v32 m33 => 
 ∃ x34, ∃ x35, ∃ x36, ∃ x37, ∃ x38, ∃ x39, 
 ∃ x40, ∃ x41, ∃ x42, ∃ x43, ∃ x44, ∃ c45 : C, 
 (v32 = (V.agg 12 [(Il x34), (Il x35), (Il x36), 
 (Il x37), (Il x38), (Il x39), (Il x40), 
 (Il x41), (Il x42), (Il x43), (Il x44), 
 c45])) ∧ ∃ x46, ∃ x47, ∃ x48, ∃ x49, ((ldA m33 (C.ptr m0.nxt 0) 4) = (some [(Il x46), 
 (Il x47), (Il x48), (Il x49)])) ∧ 
 ((ldA m15 (C.ptr m0.nxt 0) 4) = (some [(Il x46), (Il x47), 
 (Il x48), (Il x49)])) ∧ Wc prog tbl 20 [(V.agg 4 [(Il x46), 
 (Il x47), (Il x48), (Il x49)])] m33 (fun v50 m51 => 
 ∃ x52, ∃ x53, ∃ x54, ∃ x55, (v50 = (V.agg 4 [(Il x52), 
 (Il x53), (Il x54), (Il x55)])) ∧ 
 Wc prog tbl 18 [(V.agg 12 [(Il x34), (Il x35), 
 (Il x36), (Il x37), (Il x38), (Il x39), 
 (Il x40), (Il x41), (Il x42), (Il x43), 
 (Il x44), c45]), (V.agg 4 [(Il x52), (Il x53), 
 (Il x54), (Il x55)])] m51 (fun v56 m57 => ∃ x58, 
 ∃ x59, (v56 = (V.tup [(U.c (Il x58)), (U.c (Il x59))])) ∧ 
 ∀ m60 : M, (m60 = (mGrow m57 1)) → ∃ x61, ∃ x62, ∃ x63, 
 ∃ x64, ∃ x65, ∃ x66, ∃ x67, ∃ x68, ∃ x69, 
 ∃ x70, ∃ x71, ∃ c72 : C, ((ldA m60 (C.ptr m.nxt 0) 12) = (some [(Il x61), 
 (Il x62), (Il x63), (Il x64), (Il x65), 
 (Il x66), (Il x67), (Il x68), (Il x69), 
 (Il x70), (Il x71), c72])) ∧ Wc prog tbl 19 [(V.agg 12 [(Il x61), 
 (Il x62), (Il x63), (Il x64), (Il x65), 
 (Il x66), (Il x67), (Il x68), (Il x69), 
 (Il x70), (Il x71), c72])] m60 (fun v73 m74 => 
 ∃ x75, ∃ x76, ∃ x77, ∃ x78, ∃ x79, ∃ x80, 
 ∃ x81, ∃ x82, ∃ x83, ∃ x84, ∃ x85, ∃ c86 : C, 
 (v73 = (V.agg 12 [(Il x75), (Il x76), (Il x77), 
 (Il x78), (Il x79), (Il x80), (Il x81), 
 (Il x82), (Il x83), (Il x84), (Il x85), 
 c86])) ∧ ∃ x87, ∃ x88, ∃ x89, ∃ x90, ((ldA m74 (C.ptr m0.nxt 0) 4) = (some [(Il x87), 
 (Il x88), (Il x89), (Il x90)])) ∧ 
 ((ldA m60 (C.ptr m0.nxt 0) 4) = (some [(Il x87), (Il x88), 
 (Il x89), (Il x90)])) ∧ Wc prog tbl 20 [(V.agg 4 [(Il x87), 
 (Il x88), (Il x89), (Il x90)])] m74 (fun v91 m92 => 
 ∃ x93, ∃ x94, ∃ x95, ∃ x96, (v91 = (V.agg 4 [(Il x93), 
 (Il x94), (Il x95), (Il x96)])) ∧ 
 Wc prog tbl 21 [(V.agg 12 [(Il x75), (Il x76), 
 (Il x77), (Il x78), (Il x79), (Il x80), 
 (Il x81), (Il x82), (Il x83), (Il x84), 
 (Il x85), c86]), (V.agg 4 [(Il x93), (Il x94), 
 (Il x95), (Il x96)]), (V.c (C.bool a300))] m92 (fun v97 m98 => 
 ∃ x99, ∃ x100, ∃ x101, ∃ x102, ∃ x103, (v97 = (V.tup [(U.agg 4 [(Il x99), 
 (Il x100), (Il x101), (Il x102)]), 
 (U.c (Il x103))])) ∧ ∀ m104 : M, (m104 = (M.set m98 (m57.nxt + 0) (AO.cells 4 [(Il 0), 
 (Il 0), (Il 0), (Il 0)] false))) → 
 ((ldA m104 (C.ptr m0.nxt 0) 4) = (some [(Il x87), (Il x88), 
 (Il x89), (Il x90)])) ∧ (ifB (allS cmC [(Il x61), 
 (Il x62), (Il x63), (Il x64), (Il x65), 
 (Il x66), (Il x67), (Il x68), (Il x69), 
 (Il x70), (Il x71), c72]) ((ldA m104 (C.ptr m.nxt 0) 12) = (some [(Il x61), 
 (Il x62), (Il x63), (Il x64), (Il x65), 
 (Il x66), (Il x67), (Il x68), (Il x69), 
 (Il x70), (Il x71), c72])) False) ∧ ∃ m105 : M, 
 ((stC m104 (C.ptr (m57.nxt + 0) 0) 4 [(Il x99), (Il x100), 
 (Il x101), (Il x102)]) = (some m105)) ∧ 
 ∃ x106, ∃ x107, ∃ x108, ∃ x109, ∃ x110, ∃ x111, 
 ∃ x112, ∃ x113, ∃ x114, ∃ x115, ∃ x116, ∃ c117 : C, 
 ((ldA m105 (C.ptr m.nxt 0) 12) = (some [(Il x106), (Il x107), 
 (Il x108), (Il x109), (Il x110), 
 (Il x111), (Il x112), (Il x113), 
 (Il x114), (Il x115), (Il x116), 
 c117])) ∧ Wc prog tbl 22 [(V.agg 12 [(Il x106), (Il x107), 
 (Il x108), (Il x109), (Il x110), 
 (Il x111), (Il x112), (Il x113), 
 (Il x114), (Il x115), (Il x116), 
 c117])] m105 (fun v118 m119 => ∃ c120 : C, ∃ x121, (v118 = (V.tup [(U.c c120), 
 (U.c (Il x121))])) ∧ ∃ x122, ∃ x123, ∃ x124, 
 ∃ x125, ∃ x126, ∃ x127, ∃ x128, ∃ x129, ∃ x130, 
 ∃ x131, ∃ x132, ∃ c133 : C, ((ldA m119 (C.ptr m.nxt 0) 12) = (some [(Il x122), 
 (Il x123), (Il x124), (Il x125), 
 (Il x126), (Il x127), (Il x128), 
 (Il x129), (Il x130), (Il x131), 
 (Il x132), c133])) ∧ Wc prog tbl 23 [(V.agg 12 [(Il x122), 
 (Il x123), (Il x124), (Il x125), 
 (Il x126), (Il x127), (Il x128), 
 (Il x129), (Il x130), (Il x131), 
 (Il x132), c133])] m119 (fun v134 m135 => ∃ x136, (v134 = (V.c (Il x136))) ∧ 
 ifB (decide (x136 = 0)) (∃ x137, ∃ x138, ∃ x139, 
 ∃ x140, ∃ x141, ∃ x142, ∃ x143, ∃ x144, ∃ x145, 
 ∃ x146, ∃ x147, ∃ c148 : C, ((ldA m135 (C.ptr m.nxt 0) 12) = (some [(Il x137), 
 (Il x138), (Il x139), (Il x140), 
 (Il x141), (Il x142), (Il x143), 
 (Il x144), (Il x145), (Il x146), 
 (Il x147), c148])) ∧ ∃ x149, ∃ x150, ∃ x151, 
 ∃ x152, ((ldA m135 (C.ptr m0.nxt 0) 4) = (some [(Il x149), 
 (Il x150), (Il x151), (Il x152)])) ∧ 
 Wc prog tbl 24 [(V.agg 12 [(Il x137), (Il x138), 
 (Il x139), (Il x140), (Il x141), 
 (Il x142), (Il x143), (Il x144), 
 (Il x145), (Il x146), (Il x147), 
 c148]), (V.agg 4 [(Il x149), (Il x150), (Il x151), 
 (Il x152)])] m135 (fun v153 m154 => ∃ b155 : Bool, (v153 = (V.c (C.bool b155))) ∧ 
 ifB (!b155) (ifB (decide (x59 = 2)) (ifB (decide (x103 = 2)) (ifB (decide (x58 = 0)) (∃ x156, 
 ∃ x157, ∃ x158, ∃ x159, ((ldA m154 (C.ptr (m57.nxt + 0) 0) 4) = (some [(Il x156), 
 (Il x157), (Il x158), (Il x159)])) ∧ 
 fitsP .i64 x156 ∧ fitsP .i64 (0 : Int) ∧ fitsP .i64 x157 ∧ 
 fitsP .i64 (0 : Int) ∧ fitsP .i64 x158 ∧ fitsP .i64 (0 : Int) ∧ 
 fitsP .i64 x159 ∧ fitsP .i64 (0 : Int) ∧ ifB ((decide (x156 = 0)) && ((decide (x157 = 0)) && ((decide (x158 = 0)) && (decide (x159 = 0))))) (Wc prog tbl 17 [] m154 (fun v160 m161 => 
 ∃ b162 : Bool, (v160 = (V.c (C.bool b162))) ∧ Q (V.c (C.bool b162)) m161)) (Q (V.c (C.bool false)) m154)) (Q (V.c (C.bool false)) m154)) (Q (V.c (C.bool false)) m154)) (Q (V.c (C.bool false)) m154)) (ifB (!decide (x121 = 0)) (ifB (decide (x59 = x121)) (ifB (decide (x103 = x121)) (ifB (decide (x58 = 0)) (∃ x163, 
 ∃ x164, ∃ x165, ∃ x166, ((ldA m154 (C.ptr (m57.nxt + 0) 0) 4) = (some [(Il x163), 
 (Il x164), (Il x165), (Il x166)])) ∧ 
 fitsP .i64 x163 ∧ fitsP .i64 (0 : Int) ∧ fitsP .i64 x164 ∧ 
 fitsP .i64 (0 : Int) ∧ fitsP .i64 x165 ∧ fitsP .i64 (0 : Int) ∧ 
 fitsP .i64 x166 ∧ fitsP .i64 (0 : Int) ∧ ifB ((decide (x163 = 0)) && ((decide (x164 = 0)) && ((decide (x165 = 0)) && (decide (x166 = 0))))) (Wc prog tbl 17 [] m154 (fun v167 m168 => 
 ∃ b169 : Bool, (v167 = (V.c (C.bool b169))) ∧ Q (V.c (C.bool b169)) m168)) (Q (V.c (C.bool false)) m154)) (Q (V.c (C.bool false)) m154)) (Q (V.c (C.bool false)) m154)) (Q (V.c (C.bool false)) m154)) (ifB (!decide (x59 = 0)) (Q (V.c (C.bool false)) m154) (∃ x170, 
 ∃ x171, ∃ x172, ∃ x173, ∃ x174, ∃ x175, ∃ x176, 
 ∃ x177, ∃ x178, ∃ x179, ∃ x180, ∃ c181 : C, ((ldA m154 (C.ptr m.nxt 0) 12) = (some [(Il x170), 
 (Il x171), (Il x172), (Il x173), 
 (Il x174), (Il x175), (Il x176), 
 (Il x177), (Il x178), (Il x179), 
 (Il x180), c181])) ∧ ∃ x182, ∃ x183, ∃ x184, 
 ∃ x185, ((ldA m154 (C.ptr m0.nxt 0) 4) = (some [(Il x182), 
 (Il x183), (Il x184), (Il x185)])) ∧ 
 Wc prog tbl 25 [(V.agg 12 [(Il x170), (Il x171), 
 (Il x172), (Il x173), (Il x174), 
 (Il x175), (Il x176), (Il x177), 
 (Il x178), (Il x179), (Il x180), 
 c181]), (V.c c120), (V.agg 4 [(Il x182), (Il x183), 
 (Il x184), (Il x185)])] m154 (fun v186 m187 => 
 ∃ x188, (v186 = (V.c (Il x188))) ∧ ifB (!decide (x58 = x188)) (Q (V.c (C.bool false)) m187) (∀ R189 : List V → 
 M → Prop, (∀ b190 : Bool, ∀ x191 : Int, ∀ m192 : M, (isSl c120 ∧ ifB (decide (x191 < (((slLen c120) : Nat) : Int))) (∃ x193, 
 ∃ x194, ∃ x195, ∃ x196, ∃ x197, ∃ x198, ∃ x199, 
 ∃ x200, ∃ x201, ∃ x202, ∃ x203, ∃ c204 : C, ((ldA m192 (C.ptr m.nxt 0) 12) = (some [(Il x193), 
 (Il x194), (Il x195), (Il x196), 
 (Il x197), (Il x198), (Il x199), 
 (Il x200), (Il x201), (Il x202), 
 (Il x203), c204])) ∧ ∃ n205 : Nat, (x191 = ((n205 : Nat) : Int)) ∧ 
 (n205 < (slLen c120)) ∧ ∃ x206, ∃ x207, ∃ x208, ∃ x209, 
 ((ldA m192 (slAt c120 (n205 * 4)) 4) = (some [(Il x206), 
 (Il x207), (Il x208), (Il x209)])) ∧ 
 ∃ x210, ∃ x211, ∃ x212, ∃ x213, ((ldA m192 (C.ptr m0.nxt 0) 4) = (some [(Il x210), 
 (Il x211), (Il x212), (Il x213)])) ∧ 
 Wc prog tbl 26 [(V.agg 12 [(Il x193), (Il x194), 
 (Il x195), (Il x196), (Il x197), 
 (Il x198), (Il x199), (Il x200), 
 (Il x201), (Il x202), (Il x203), 
 c204]), (V.agg 4 [(Il x206), (Il x207), (Il x208), 
 (Il x209)]), (V.agg 4 [(Il x210), (Il x211), 
 (Il x212), (Il x213)])] m192 (fun v214 m215 => 
 ∃ b216 : Bool, ∃ b217 : Bool, (v214 = (V.tup [(U.c (C.bool b216)), (U.c (C.bool b217))])) ∧ 
 ifB b190 (fitsP .i64 (x191 + 1) ∧ R189 [(V.c (C.bool true)), 
 (V.c (Il (x191 + 1)))] m215) (ifB a300 (ifB b216 (fitsP .i64 (x191 + 1) ∧ 
 R189 [(V.c (C.bool true)), (V.c (Il (x191 + 1)))] m215) (ifB (!a300) (fitsP .i64 (x191 + 1) ∧ 
 R189 [(V.c (C.bool (!b217))), (V.c (Il (x191 + 1)))] m215) (fitsP .i64 (x191 + 1) ∧ 
 R189 [(V.c (C.bool false)), (V.c (Il (x191 + 1)))] m215))) (ifB (!a300) (fitsP .i64 (x191 + 1) ∧ 
 R189 [(V.c (C.bool (!b217))), (V.c (Il (x191 + 1)))] m215) (fitsP .i64 (x191 + 1) ∧ 
 R189 [(V.c (C.bool false)), (V.c (Il (x191 + 1)))] m215))))) (ifB (!b190) (ifB (decide (x103 = 7)) (∃ x218, 
 ∃ x219, ∃ x220, ∃ x221, ((ldA m192 (C.ptr (m57.nxt + 0) 0) 4) = (some [(Il x218), 
 (Il x219), (Il x220), (Il x221)])) ∧ 
 fitsP .i64 x218 ∧ fitsP .i64 (0 : Int) ∧ fitsP .i64 x219 ∧ 
 fitsP .i64 (0 : Int) ∧ fitsP .i64 x220 ∧ fitsP .i64 (0 : Int) ∧ 
 fitsP .i64 x221 ∧ fitsP .i64 (0 : Int) ∧ ifB ((decide (x218 = 0)) && ((decide (x219 = 0)) && ((decide (x220 = 0)) && (decide (x221 = 0))))) (Wc prog tbl 17 [] m192 (fun v222 m223 => 
 ∃ b224 : Bool, (v222 = (V.c (C.bool b224))) ∧ Q (V.c (C.bool b224)) m223)) (Q (V.c (C.bool false)) m192)) (Q (V.c (C.bool false)) m192)) (ifB (!decide (x103 = 0)) (Q (V.c (C.bool false)) m192) (∃ x225, 
 ∃ x226, ∃ x227, ∃ x228, ∃ x229, ∃ x230, ∃ x231, 
 ∃ x232, ∃ x233, ∃ x234, ∃ x235, ∃ c236 : C, ((ldA m192 (C.ptr m.nxt 0) 12) = (some [(Il x225), 
 (Il x226), (Il x227), (Il x228), 
 (Il x229), (Il x230), (Il x231), 
 (Il x232), (Il x233), (Il x234), 
 (Il x235), c236])) ∧ ∃ x237, ∃ x238, ∃ x239, 
 ∃ x240, ((ldA m192 (C.ptr (m57.nxt + 0) 0) 4) = (some [(Il x237), 
 (Il x238), (Il x239), (Il x240)])) ∧ 
 Wc prog tbl 28 [(V.agg 4 [(Il x237), (Il x238), 
 (Il x239), (Il x240)])] m192 (fun v241 m242 => 
 ∃ x243, ∃ x244, ∃ x245, ∃ x246, (v241 = (V.agg 4 [(Il x243), 
 (Il x244), (Il x245), (Il x246)])) ∧ 
 (ifB (allS cmC [(Il x225), (Il x226), (Il x227), 
 (Il x228), (Il x229), (Il x230), 
 (Il x231), (Il x232), (Il x233), 
 (Il x234), (Il x235), c236]) ((ldA m242 (C.ptr m.nxt 0) 12) = (some [(Il x225), 
 (Il x226), (Il x227), (Il x228), 
 (Il x229), (Il x230), (Il x231), 
 (Il x232), (Il x233), (Il x234), 
 (Il x235), c236])) False) ∧ Wc prog tbl 27 [(V.agg 12 [(Il x225), 
 (Il x226), (Il x227), (Il x228), 
 (Il x229), (Il x230), (Il x231), 
 (Il x232), (Il x233), (Il x234), 
 (Il x235), c236]), (V.agg 4 [(Il x243), (Il x244), 
 (Il x245), (Il x246)])] m242 (fun v247 m248 => 
 ∃ b249 : Bool, (v247 = (V.c (C.bool b249))) ∧ ifB (!b249) (Q (V.c (C.bool false)) m248) (∃ x250, 
 ∃ x251, ∃ x252, ∃ x253, ∃ x254, ∃ x255, ∃ x256, 
 ∃ x257, ∃ x258, ∃ x259, ∃ x260, ∃ c261 : C, ((ldA m248 (C.ptr m.nxt 0) 12) = (some [(Il x250), 
 (Il x251), (Il x252), (Il x253), 
 (Il x254), (Il x255), (Il x256), 
 (Il x257), (Il x258), (Il x259), 
 (Il x260), c261])) ∧ ∃ x262, ∃ x263, ∃ x264, 
 ∃ x265, ((ldA m248 (C.ptr (m57.nxt + 0) 0) 4) = (some [(Il x262), 
 (Il x263), (Il x264), (Il x265)])) ∧ 
 Wc prog tbl 28 [(V.agg 4 [(Il x262), (Il x263), 
 (Il x264), (Il x265)])] m248 (fun v266 m267 => 
 ∃ x268, ∃ x269, ∃ x270, ∃ x271, (v266 = (V.agg 4 [(Il x268), 
 (Il x269), (Il x270), (Il x271)])) ∧ 
 (ifB (allS cmC [(Il x250), (Il x251), (Il x252), 
 (Il x253), (Il x254), (Il x255), 
 (Il x256), (Il x257), (Il x258), 
 (Il x259), (Il x260), c261]) ((ldA m267 (C.ptr m.nxt 0) 12) = (some [(Il x250), 
 (Il x251), (Il x252), (Il x253), 
 (Il x254), (Il x255), (Il x256), 
 (Il x257), (Il x258), (Il x259), 
 (Il x260), c261])) False) ∧ ∃ x272, ∃ x273, ∃ x274, 
 ∃ x275, ((ldA m267 (C.ptr m0.nxt 0) 4) = (some [(Il x272), 
 (Il x273), (Il x274), (Il x275)])) ∧ 
 ((ldA m248 (C.ptr m0.nxt 0) 4) = (some [(Il x272), (Il x273), 
 (Il x274), (Il x275)])) ∧ Wc prog tbl 26 [(V.agg 12 [(Il x250), 
 (Il x251), (Il x252), (Il x253), 
 (Il x254), (Il x255), (Il x256), 
 (Il x257), (Il x258), (Il x259), 
 (Il x260), c261]), (V.agg 4 [(Il x268), (Il x269), 
 (Il x270), (Il x271)]), (V.agg 4 [(Il x272), 
 (Il x273), (Il x274), (Il x275)])] m267 (fun v276 m277 => 
 ∃ b278 : Bool, ∃ b279 : Bool, (v276 = (V.tup [(U.c (C.bool b278)), (U.c (C.bool b279))])) ∧ 
 ifB a300 (ifB b278 (Wc prog tbl 17 [] m277 (fun v280 m281 => ∃ b282 : Bool, 
 (v280 = (V.c (C.bool b282))) ∧ Q (V.c (C.bool b282)) m281)) (ifB (!a300) (ifB (!b279) (Wc prog tbl 17 [] m277 (fun v283 m284 => 
 ∃ b285 : Bool, (v283 = (V.c (C.bool b285))) ∧ Q (V.c (C.bool b285)) m284)) (Q (V.c (C.bool false)) m277)) (Q (V.c (C.bool false)) m277))) (ifB (!a300) (ifB (!b279) (Wc prog tbl 17 [] m277 (fun v286 m287 => 
 ∃ b288 : Bool, (v286 = (V.c (C.bool b288))) ∧ Q (V.c (C.bool b288)) m287)) (Q (V.c (C.bool false)) m277)) (Q (V.c (C.bool false)) m277))))))))))) → 
 R189 [(V.c (C.bool b190)), (V.c (Il x191))] m192) → R189 [(V.c (C.bool false)), 
 (V.c (Il 0))] m187))))))) (ifB (!decide (x121 = 0)) (ifB (decide (x59 = x121)) (ifB (decide (x103 = x121)) (ifB (decide (x58 = 0)) (∃ x289, 
 ∃ x290, ∃ x291, ∃ x292, ((ldA m135 (C.ptr (m57.nxt + 0) 0) 4) = (some [(Il x289), 
 (Il x290), (Il x291), (Il x292)])) ∧ 
 fitsP .i64 x289 ∧ fitsP .i64 (0 : Int) ∧ fitsP .i64 x290 ∧ 
 fitsP .i64 (0 : Int) ∧ fitsP .i64 x291 ∧ fitsP .i64 (0 : Int) ∧ 
 fitsP .i64 x292 ∧ fitsP .i64 (0 : Int) ∧ ifB ((decide (x289 = 0)) && ((decide (x290 = 0)) && ((decide (x291 = 0)) && (decide (x292 = 0))))) (Wc prog tbl 17 [] m135 (fun v293 m294 => 
 ∃ b295 : Bool, (v293 = (V.c (C.bool b295))) ∧ Q (V.c (C.bool b295)) m294)) (Q (V.c (C.bool false)) m135)) (Q (V.c (C.bool false)) m135)) (Q (V.c (C.bool false)) m135)) (Q (V.c (C.bool false)) m135)) (ifB (!decide (x59 = 0)) (Q (V.c (C.bool false)) m135) (∃ x296, 
 ∃ x297, ∃ x298, ∃ x299, ∃ x300, ∃ x301, ∃ x302, 
 ∃ x303, ∃ x304, ∃ x305, ∃ x306, ∃ c307 : C, ((ldA m135 (C.ptr m.nxt 0) 12) = (some [(Il x296), 
 (Il x297), (Il x298), (Il x299), 
 (Il x300), (Il x301), (Il x302), 
 (Il x303), (Il x304), (Il x305), 
 (Il x306), c307])) ∧ ∃ x308, ∃ x309, ∃ x310, 
 ∃ x311, ((ldA m135 (C.ptr m0.nxt 0) 4) = (some [(Il x308), 
 (Il x309), (Il x310), (Il x311)])) ∧ 
 Wc prog tbl 25 [(V.agg 12 [(Il x296), (Il x297), 
 (Il x298), (Il x299), (Il x300), 
 (Il x301), (Il x302), (Il x303), 
 (Il x304), (Il x305), (Il x306), 
 c307]), (V.c c120), (V.agg 4 [(Il x308), (Il x309), 
 (Il x310), (Il x311)])] m135 (fun v312 m313 => 
 ∃ x314, (v312 = (V.c (Il x314))) ∧ ifB (!decide (x58 = x314)) (Q (V.c (C.bool false)) m313) (∀ R315 : List V → 
 M → Prop, (∀ b316 : Bool, ∀ x317 : Int, ∀ m318 : M, (isSl c120 ∧ ifB (decide (x317 < (((slLen c120) : Nat) : Int))) (∃ x319, 
 ∃ x320, ∃ x321, ∃ x322, ∃ x323, ∃ x324, ∃ x325, 
 ∃ x326, ∃ x327, ∃ x328, ∃ x329, ∃ c330 : C, ((ldA m318 (C.ptr m.nxt 0) 12) = (some [(Il x319), 
 (Il x320), (Il x321), (Il x322), 
 (Il x323), (Il x324), (Il x325), 
 (Il x326), (Il x327), (Il x328), 
 (Il x329), c330])) ∧ ∃ n331 : Nat, (x317 = ((n331 : Nat) : Int)) ∧ 
 (n331 < (slLen c120)) ∧ ∃ x332, ∃ x333, ∃ x334, ∃ x335, 
 ((ldA m318 (slAt c120 (n331 * 4)) 4) = (some [(Il x332), 
 (Il x333), (Il x334), (Il x335)])) ∧ 
 ∃ x336, ∃ x337, ∃ x338, ∃ x339, ((ldA m318 (C.ptr m0.nxt 0) 4) = (some [(Il x336), 
 (Il x337), (Il x338), (Il x339)])) ∧ 
 Wc prog tbl 26 [(V.agg 12 [(Il x319), (Il x320), 
 (Il x321), (Il x322), (Il x323), 
 (Il x324), (Il x325), (Il x326), 
 (Il x327), (Il x328), (Il x329), 
 c330]), (V.agg 4 [(Il x332), (Il x333), (Il x334), 
 (Il x335)]), (V.agg 4 [(Il x336), (Il x337), 
 (Il x338), (Il x339)])] m318 (fun v340 m341 => 
 ∃ b342 : Bool, ∃ b343 : Bool, (v340 = (V.tup [(U.c (C.bool b342)), (U.c (C.bool b343))])) ∧ 
 ifB b316 (fitsP .i64 (x317 + 1) ∧ R315 [(V.c (C.bool true)), 
 (V.c (Il (x317 + 1)))] m341) (ifB a300 (ifB b342 (fitsP .i64 (x317 + 1) ∧ 
 R315 [(V.c (C.bool true)), (V.c (Il (x317 + 1)))] m341) (ifB (!a300) (fitsP .i64 (x317 + 1) ∧ 
 R315 [(V.c (C.bool (!b343))), (V.c (Il (x317 + 1)))] m341) (fitsP .i64 (x317 + 1) ∧ 
 R315 [(V.c (C.bool false)), (V.c (Il (x317 + 1)))] m341))) (ifB (!a300) (fitsP .i64 (x317 + 1) ∧ 
 R315 [(V.c (C.bool (!b343))), (V.c (Il (x317 + 1)))] m341) (fitsP .i64 (x317 + 1) ∧ 
 R315 [(V.c (C.bool false)), (V.c (Il (x317 + 1)))] m341))))) (ifB (!b316) (ifB (decide (x103 = 7)) (∃ x344, 
 ∃ x345, ∃ x346, ∃ x347, ((ldA m318 (C.ptr (m57.nxt + 0) 0) 4) = (some [(Il x344), 
 (Il x345), (Il x346), (Il x347)])) ∧ 
 fitsP .i64 x344 ∧ fitsP .i64 (0 : Int) ∧ fitsP .i64 x345 ∧ 
 fitsP .i64 (0 : Int) ∧ fitsP .i64 x346 ∧ fitsP .i64 (0 : Int) ∧ 
 fitsP .i64 x347 ∧ fitsP .i64 (0 : Int) ∧ ifB ((decide (x344 = 0)) && ((decide (x345 = 0)) && ((decide (x346 = 0)) && (decide (x347 = 0))))) (Wc prog tbl 17 [] m318 (fun v348 m349 => 
 ∃ b350 : Bool, (v348 = (V.c (C.bool b350))) ∧ Q (V.c (C.bool b350)) m349)) (Q (V.c (C.bool false)) m318)) (Q (V.c (C.bool false)) m318)) (ifB (!decide (x103 = 0)) (Q (V.c (C.bool false)) m318) (∃ x351, 
 ∃ x352, ∃ x353, ∃ x354, ∃ x355, ∃ x356, ∃ x357, 
 ∃ x358, ∃ x359, ∃ x360, ∃ x361, ∃ c362 : C, ((ldA m318 (C.ptr m.nxt 0) 12) = (some [(Il x351), 
 (Il x352), (Il x353), (Il x354), 
 (Il x355), (Il x356), (Il x357), 
 (Il x358), (Il x359), (Il x360), 
 (Il x361), c362])) ∧ ∃ x363, ∃ x364, ∃ x365, 
 ∃ x366, ((ldA m318 (C.ptr (m57.nxt + 0) 0) 4) = (some [(Il x363), 
 (Il x364), (Il x365), (Il x366)])) ∧ 
 Wc prog tbl 28 [(V.agg 4 [(Il x363), (Il x364), 
 (Il x365), (Il x366)])] m318 (fun v367 m368 => 
 ∃ x369, ∃ x370, ∃ x371, ∃ x372, (v367 = (V.agg 4 [(Il x369), 
 (Il x370), (Il x371), (Il x372)])) ∧ 
 (ifB (allS cmC [(Il x351), (Il x352), (Il x353), 
 (Il x354), (Il x355), (Il x356), 
 (Il x357), (Il x358), (Il x359), 
 (Il x360), (Il x361), c362]) ((ldA m368 (C.ptr m.nxt 0) 12) = (some [(Il x351), 
 (Il x352), (Il x353), (Il x354), 
 (Il x355), (Il x356), (Il x357), 
 (Il x358), (Il x359), (Il x360), 
 (Il x361), c362])) False) ∧ Wc prog tbl 27 [(V.agg 12 [(Il x351), 
 (Il x352), (Il x353), (Il x354), 
 (Il x355), (Il x356), (Il x357), 
 (Il x358), (Il x359), (Il x360), 
 (Il x361), c362]), (V.agg 4 [(Il x369), (Il x370), 
 (Il x371), (Il x372)])] m368 (fun v373 m374 => 
 ∃ b375 : Bool, (v373 = (V.c (C.bool b375))) ∧ ifB (!b375) (Q (V.c (C.bool false)) m374) (∃ x376, 
 ∃ x377, ∃ x378, ∃ x379, ∃ x380, ∃ x381, ∃ x382, 
 ∃ x383, ∃ x384, ∃ x385, ∃ x386, ∃ c387 : C, ((ldA m374 (C.ptr m.nxt 0) 12) = (some [(Il x376), 
 (Il x377), (Il x378), (Il x379), 
 (Il x380), (Il x381), (Il x382), 
 (Il x383), (Il x384), (Il x385), 
 (Il x386), c387])) ∧ ∃ x388, ∃ x389, ∃ x390, 
 ∃ x391, ((ldA m374 (C.ptr (m57.nxt + 0) 0) 4) = (some [(Il x388), 
 (Il x389), (Il x390), (Il x391)])) ∧ 
 Wc prog tbl 28 [(V.agg 4 [(Il x388), (Il x389), 
 (Il x390), (Il x391)])] m374 (fun v392 m393 => 
 ∃ x394, ∃ x395, ∃ x396, ∃ x397, (v392 = (V.agg 4 [(Il x394), 
 (Il x395), (Il x396), (Il x397)])) ∧ 
 (ifB (allS cmC [(Il x376), (Il x377), (Il x378), 
 (Il x379), (Il x380), (Il x381), 
 (Il x382), (Il x383), (Il x384), 
 (Il x385), (Il x386), c387]) ((ldA m393 (C.ptr m.nxt 0) 12) = (some [(Il x376), 
 (Il x377), (Il x378), (Il x379), 
 (Il x380), (Il x381), (Il x382), 
 (Il x383), (Il x384), (Il x385), 
 (Il x386), c387])) False) ∧ ∃ x398, ∃ x399, ∃ x400, 
 ∃ x401, ((ldA m393 (C.ptr m0.nxt 0) 4) = (some [(Il x398), 
 (Il x399), (Il x400), (Il x401)])) ∧ 
 ((ldA m374 (C.ptr m0.nxt 0) 4) = (some [(Il x398), (Il x399), 
 (Il x400), (Il x401)])) ∧ Wc prog tbl 26 [(V.agg 12 [(Il x376), 
 (Il x377), (Il x378), (Il x379), 
 (Il x380), (Il x381), (Il x382), 
 (Il x383), (Il x384), (Il x385), 
 (Il x386), c387]), (V.agg 4 [(Il x394), (Il x395), 
 (Il x396), (Il x397)]), (V.agg 4 [(Il x398), 
 (Il x399), (Il x400), (Il x401)])] m393 (fun v402 m403 => 
 ∃ b404 : Bool, ∃ b405 : Bool, (v402 = (V.tup [(U.c (C.bool b404)), (U.c (C.bool b405))])) ∧ 
 ifB a300 (ifB b404 (Wc prog tbl 17 [] m403 (fun v406 m407 => ∃ b408 : Bool, 
 (v406 = (V.c (C.bool b408))) ∧ Q (V.c (C.bool b408)) m407)) (ifB (!a300) (ifB (!b405) (Wc prog tbl 17 [] m403 (fun v409 m410 => 
 ∃ b411 : Bool, (v409 = (V.c (C.bool b411))) ∧ Q (V.c (C.bool b411)) m410)) (Q (V.c (C.bool false)) m403)) (Q (V.c (C.bool false)) m403))) (ifB (!a300) (ifB (!b405) (Wc prog tbl 17 [] m403 (fun v412 m413 => 
 ∃ b414 : Bool, (v412 = (V.c (C.bool b414))) ∧ Q (V.c (C.bool b414)) m413)) (Q (V.c (C.bool false)) m403)) (Q (V.c (C.bool false)) m403))))))))))) → 
 R315 [(V.c (C.bool b316)), (V.c (Il x317))] m318) → R315 [(V.c (C.bool false)), 
 (V.c (Il 0))] m313))))))))))))))))) : Wc prog tbl 3 [(V.agg 12 [(Il a100), (Il a101), (Il a102), (Il a103), (Il a104), (Il a105), (Il a106), (Il a107), (Il a108), (Il a109), (Il a110), a111]), (V.agg 4 [(Il a200), (Il a201), (Il a202), (Il a203)]), (V.c (C.bool a300))] m Q :=
 wc_eq (n := 3) rfl (by kernel_rfl) (by kernel_rfl) h
theorem w16 {a100 : Int} {a101 : Int} {a102 : Int} {a103 : Int} {a104 : Int} {a105 : Int} {a106 : Int} {a107 : Int} {a108 : Int} {a109 : Int} {a110 : Int} {a111 : C} {m : M} {Q : V → M → Prop} (h :
 (∀ m0 : M, (m0 = (M.new m (AO.cells 12 [(Il a100), (Il a101), (Il a102), 
 (Il a103), (Il a104), (Il a105), (Il a106), 
 (Il a107), (Il a108), (Il a109), (Il a110), 
 a111] false))) → isPt (C.ptr m.nxt 0) ∧ ∃ c1 : C, ((ldC m0 (C.ptr m.nxt 11)) = (some c1)) ∧ 
 isSl c1 ∧ ifB (decide ((((slLen c1) : Nat) : Int) ≤ (9 : Int))) (∃ x2, ∃ x3, ∃ x4, 
 ∃ x5, ∃ x6, ∃ x7, ∃ x8, ∃ x9, ∃ x10, ∃ x11, ∃ x12, 
 ∃ c13 : C, ((ldA m0 (C.ptr m.nxt 0) 12) = (some [(Il x2), (Il x3), 
 (Il x4), (Il x5), (Il x6), (Il x7), 
 (Il x8), (Il x9), (Il x10), (Il x11), 
 (Il x12), c13])) ∧ Wc prog tbl 66 [(V.agg 12 [(Il x2), 
 (Il x3), (Il x4), (Il x5), (Il x6), 
 (Il x7), (Il x8), (Il x9), (Il x10), 
 (Il x11), (Il x12), c13])] m0 (fun v14 m15 => ∃ x16, 
 (v14 = (V.c (Il x16))) ∧ ifB (!decide (x16 = 0)) (Q (V.c (C.bool true)) m15) (∃ x17, 
 ∃ x18, ∃ x19, ∃ x20, ∃ x21, ∃ x22, ∃ x23, 
 ∃ x24, ∃ x25, ∃ x26, ∃ x27, ∃ c28 : C, ((ldA m15 (C.ptr m.nxt 0) 12) = (some [(Il x17), 
 (Il x18), (Il x19), (Il x20), (Il x21), 
 (Il x22), (Il x23), (Il x24), (Il x25), 
 (Il x26), (Il x27), c28])) ∧ Wc prog tbl 67 [(V.agg 12 [(Il x17), 
 (Il x18), (Il x19), (Il x20), (Il x21), 
 (Il x22), (Il x23), (Il x24), (Il x25), 
 (Il x26), (Il x27), c28])] m15 (fun v29 m30 => 
 ∃ x31, (v29 = (V.c (Il x31))) ∧ Q (V.c (C.bool (decide (x31 ≤ 300)))) m30)))) (Q (V.c (C.bool false)) m0))) : Wc prog tbl 16 [(V.agg 12 [(Il a100), (Il a101), (Il a102), (Il a103), (Il a104), (Il a105), (Il a106), (Il a107), (Il a108), (Il a109), (Il a110), a111])] m Q :=
 wc_eq (n := 1) rfl (by kernel_rfl) (by kernel_rfl) h
theorem w20 {a100 : Int} {a101 : Int} {a102 : Int} {a103 : Int} {m : M} {Q : V → M → Prop} (h :
 (∀ m0 : M, (m0 = (M.new m (AO.cells 4 [(Il a100), (Il a101), (Il a102), 
 (Il a103)] false))) → ∀ m1 : M, (m1 = (M.new m0 (AO.cells 4 [(Il 0), 
 (Il 0), (Il 0), (Il 0)] false))) → 
 isPt (C.ptr m.nxt 0) ∧ ∃ x2, ∃ x3, ((ldA m1 (C.ptr m.nxt 0) 2) = (some [(Il x2), 
 (Il x3)])) ∧ Wc prog tbl 32 [(V.agg 2 [(Il x2), (Il x3)])] m1 (fun v4 m5 => 
 ∃ x6, ∃ x7, (v4 = (V.agg 2 [(Il x6), (Il x7)])) ∧ isPt (C.ptr m.nxt 0) ∧ 
 ∃ x8, ∃ x9, ((ldA m5 (C.ptr m.nxt 2) 2) = (some [(Il x8), 
 (Il x9)])) ∧ ((ldA m1 (C.ptr m.nxt 2) 2) = (some [(Il x8), 
 (Il x9)])) ∧ Wc prog tbl 32 [(V.agg 2 [(Il x8), (Il x9)])] m5 (fun v10 m11 => 
 ∃ x12, ∃ x13, (v10 = (V.agg 2 [(Il x12), (Il x13)])) ∧ 
 ∃ m14 : M, ((stC m11 (C.ptr m0.nxt 0) 4 [(Il x6), (Il x7), 
 (Il x12), (Il x13)]) = (some m14)) ∧ ∃ x15, 
 ∃ x16, ∃ x17, ∃ x18, ((ldA m14 (C.ptr m0.nxt 0) 4) = (some [(Il x15), 
 (Il x16), (Il x17), (Il x18)])) ∧ 
 Q (V.agg 4 [(Il x15), (Il x16), (Il x17), 
 (Il x18)]) m14)))) : Wc prog tbl 20 [(V.agg 4 [(Il a100), (Il a101), (Il a102), (Il a103)])] m Q :=
 wc_eq (n := 1) rfl (by kernel_rfl) (by kernel_rfl) h
theorem w23 {a100 : Int} {a101 : Int} {a102 : Int} {a103 : Int} {a104 : Int} {a105 : Int} {a106 : Int} {a107 : Int} {a108 : Int} {a109 : Int} {a110 : Int} {a111 : C} {m : M} {Q : V → M → Prop} (h :
 (∀ m0 : M, (m0 = (M.new m (AO.cells 12 [(Il a100), (Il a101), (Il a102), 
 (Il a103), (Il a104), (Il a105), (Il a106), 
 (Il a107), (Il a108), (Il a109), (Il a110), 
 a111] false))) → ∃ x1, ∃ x2, ∃ x3, ∃ x4, ∃ x5, ∃ x6, ∃ x7, 
 ∃ x8, ∃ x9, ∃ x10, ∃ x11, ∃ c12 : C, ((ldA m0 (C.ptr m.nxt 0) 12) = (some [(Il x1), 
 (Il x2), (Il x3), (Il x4), (Il x5), 
 (Il x6), (Il x7), (Il x8), (Il x9), 
 (Il x10), (Il x11), c12])) ∧ Wc prog tbl 66 [(V.agg 12 [(Il x1), 
 (Il x2), (Il x3), (Il x4), (Il x5), 
 (Il x6), (Il x7), (Il x8), (Il x9), 
 (Il x10), (Il x11), c12])] m0 (fun v13 m14 => ∃ x15, 
 (v13 = (V.c (Il x15))) ∧ Q (V.c (Il x15)) m14))) : Wc prog tbl 23 [(V.agg 12 [(Il a100), (Il a101), (Il a102), (Il a103), (Il a104), (Il a105), (Il a106), (Il a107), (Il a108), (Il a109), (Il a110), a111])] m Q :=
 wc_eq (n := 1) rfl (by kernel_rfl) (by kernel_rfl) h
theorem w26 {a100 : Int} {a101 : Int} {a102 : Int} {a103 : Int} {a104 : Int} {a105 : Int} {a106 : Int} {a107 : Int} {a108 : Int} {a109 : Int} {a110 : Int} {a111 : C} {a200 : Int} {a201 : Int} {a202 : Int} {a203 : Int} {a300 : Int} {a301 : Int} {a302 : Int} {a303 : Int} {m : M} {Q : V → M → Prop} (h :
 (∀ m0 : M, (m0 = (M.new m (AO.cells 12 [(Il a100), (Il a101), (Il a102), 
 (Il a103), (Il a104), (Il a105), (Il a106), 
 (Il a107), (Il a108), (Il a109), (Il a110), 
 a111] false))) → ∀ m1 : M, (m1 = (M.new m0 (AO.cells 4 [(Il a200), (Il a201), 
 (Il a202), (Il a203)] false))) → ∀ m2 : M, (m2 = (M.new m1 (AO.cells 4 [(Il a300), 
 (Il a301), (Il a302), (Il a303)] false))) → isPt (C.ptr m1.nxt 0) ∧ 
 isPt (C.ptr m1.nxt 0) ∧ ∃ x3, ((ldC m2 (C.ptr m1.nxt 0)) = (some (Il x3))) ∧ 
 ∀ R4 : List V → M → Prop, (∀ b5 : Bool, ∀ b6 : Bool, ∀ x7 : Int, ∀ m8 : M, (isPt (C.ptr m1.nxt 0) ∧ 
 isPt (C.ptr m1.nxt 0) ∧ ∃ x9, ((ldC m8 (C.ptr m1.nxt 1)) = (some (Il x9))) ∧ 
 ifB (decide (x7 ≤ x9)) (isPt (C.ptr m1.nxt 0) ∧ isPt (C.ptr m1.nxt 2) ∧ ∃ x10, 
 ((ldC m8 (C.ptr m1.nxt 2)) = (some (Il x10))) ∧ ∀ R11 : List V → 
 M → Prop, (∀ b12 : Bool, ∀ b13 : Bool, ∀ x14 : Int, ∀ m15 : M, (isPt (C.ptr m1.nxt 0) ∧ 
 isPt (C.ptr m1.nxt 2) ∧ ∃ x16, ((ldC m15 (C.ptr m1.nxt 3)) = (some (Il x16))) ∧ 
 ifB (decide (x14 ≤ x16)) (∃ x17, ∃ x18, ∃ x19, ∃ x20, 
 ∃ x21, ∃ x22, ∃ x23, ∃ x24, ∃ x25, ∃ x26, 
 ∃ x27, ∃ c28 : C, ((ldA m15 (C.ptr m.nxt 0) 12) = (some [(Il x17), 
 (Il x18), (Il x19), (Il x20), (Il x21), 
 (Il x22), (Il x23), (Il x24), (Il x25), 
 (Il x26), (Il x27), c28])) ∧ ∃ x29, ∃ x30, 
 ∃ x31, ∃ x32, ((ldA m15 (C.ptr m0.nxt 0) 4) = (some [(Il x29), 
 (Il x30), (Il x31), (Il x32)])) ∧ 
 Wc prog tbl 71 [(V.agg 12 [(Il x17), (Il x18), 
 (Il x19), (Il x20), (Il x21), (Il x22), 
 (Il x23), (Il x24), (Il x25), (Il x26), 
 (Il x27), c28]), (V.agg 4 [(Il x29), (Il x30), 
 (Il x31), (Il x32)]), (V.c (Il x7)), 
 (V.c (Il x14))] m15 (fun v33 m34 => ∃ b35 : Bool, (v33 = (V.c (C.bool b35))) ∧ 
 ifB b35 (fitsP .i64 (x14 + 1) ∧ R11 [(V.c (C.bool true)), (V.c (C.bool b13)), 
 (V.c (Il (x14 + 1)))] m34) (fitsP .i64 (x14 + 1) ∧ 
 R11 [(V.c (C.bool b12)), (V.c (C.bool false)), (V.c (Il (x14 + 1)))] m34))) (fitsP .i64 (x7 + 1) ∧ 
 R4 [(V.c (C.bool b12)), (V.c (C.bool b13)), (V.c (Il (x7 + 1)))] m15)) → 
 R11 [(V.c (C.bool b12)), (V.c (C.bool b13)), (V.c (Il x14))] m15) → 
 R11 [(V.c (C.bool b5)), (V.c (C.bool b6)), (V.c (Il x10))] m8) (Q (V.tup [(U.c (C.bool b5)), 
 (U.c (C.bool b6))]) m8)) → R4 [(V.c (C.bool b5)), (V.c (C.bool b6)), (V.c (Il x7))] m8) → 
 R4 [(V.c (C.bool false)), (V.c (C.bool true)), (V.c (Il x3))] m2)) : Wc prog tbl 26 [(V.agg 12 [(Il a100), (Il a101), (Il a102), (Il a103), (Il a104), (Il a105), (Il a106), (Il a107), (Il a108), (Il a109), (Il a110), a111]), (V.agg 4 [(Il a200), (Il a201), (Il a202), (Il a203)]), (V.agg 4 [(Il a300), (Il a301), (Il a302), (Il a303)])] m Q :=
 wc_eq (n := 3) rfl (by kernel_rfl) (by kernel_rfl) h
theorem w32 {a100 : Int} {a101 : Int} {m : M} {Q : V → M → Prop} (h :
 (∀ m0 : M, (m0 = (M.new m (AO.cells 2 [(Il a100), (Il a101)] false))) → ∀ m1 : M, 
 (m1 = (M.new m0 (AO.cells 2 [(Il 0), (Il 0)] false))) → isPt (C.ptr m.nxt 0) ∧ 
 ∃ x2, ((ldC m1 (C.ptr m.nxt 0)) = (some (Il x2))) ∧ isPt (C.ptr m.nxt 0) ∧ 
 ∃ x3, ((ldC m1 (C.ptr m.nxt 1)) = (some (Il x3))) ∧ ∃ m4 : M, ((stC m1 (C.ptr m0.nxt 0) 2 [(Il x2), 
 (Il x3)]) = (some m4)) ∧ ∃ x5, ∃ x6, ((ldA m4 (C.ptr m0.nxt 0) 2) = (some [(Il x5), 
 (Il x6)])) ∧ Q (V.agg 2 [(Il x5), (Il x6)]) m4)) : Wc prog tbl 32 [(V.agg 2 [(Il a100), (Il a101)])] m Q :=
 wc_eq (n := 1) rfl (by kernel_rfl) (by kernel_rfl) h
theorem w38 {a100 : Int} {a101 : Int} {a102 : Int} {a103 : Int} {a104 : Int} {a105 : Int} {a106 : Int} {a107 : Int} {a108 : Int} {a109 : Int} {a110 : Int} {a111 : C} {m : M} {Q : V → M → Prop} (h :
 (∀ m0 : M, (m0 = (M.new m (AO.cells 12 [(Il a100), (Il a101), (Il a102), 
 (Il a103), (Il a104), (Il a105), (Il a106), 
 (Il a107), (Il a108), (Il a109), (Il a110), 
 a111] false))) → ∀ R1 : List V → M → Prop, (∀ c2 : C, ∀ x3 : Int, ∀ m4 : M, (∃ x5, ∃ x6, 
 ∃ x7, ∃ x8, ∃ x9, ∃ x10, ∃ x11, ∃ x12, ∃ x13, ∃ x14, 
 ∃ x15, ∃ c16 : C, ((ldA m4 (C.ptr m.nxt 0) 12) = (some [(Il x5), 
 (Il x6), (Il x7), (Il x8), (Il x9), 
 (Il x10), (Il x11), (Il x12), (Il x13), 
 (Il x14), (Il x15), c16])) ∧ Wc prog tbl 67 [(V.agg 12 [(Il x5), 
 (Il x6), (Il x7), (Il x8), (Il x9), 
 (Il x10), (Il x11), (Il x12), (Il x13), 
 (Il x14), (Il x15), c16])] m4 (fun v17 m18 => ∃ x19, 
 (v17 = (V.c (Il x19))) ∧ ifB (decide (x3 < x19)) (∀ R20 : List V → 
 M → Prop, (∀ x21 : Int, ∀ x22 : Int, ∀ m23 : M, (isPt (C.ptr m.nxt 0) ∧ ∃ c24 : C, 
 ((ldC m23 (C.ptr m.nxt 11)) = (some c24)) ∧ isSl c24 ∧ ifB (decide (x22 < (((slLen c24) : Nat) : Int))) (∃ x25, 
 ∃ x26, ∃ x27, ∃ x28, ∃ x29, ∃ x30, ∃ x31, 
 ∃ x32, ∃ x33, ∃ x34, ∃ x35, ∃ c36 : C, ((ldA m23 (C.ptr m.nxt 0) 12) = (some [(Il x25), 
 (Il x26), (Il x27), (Il x28), (Il x29), 
 (Il x30), (Il x31), (Il x32), (Il x33), 
 (Il x34), (Il x35), c36])) ∧ ∃ x37, ∃ x38, 
 ∃ x39, ∃ x40, ∃ x41, ∃ x42, ∃ x43, ∃ x44, 
 ∃ x45, ∃ x46, ∃ x47, ∃ c48 : C, ((ldA m23 (C.ptr m.nxt 0) 12) = (some [(Il x37), 
 (Il x38), (Il x39), (Il x40), (Il x41), 
 (Il x42), (Il x43), (Il x44), (Il x45), 
 (Il x46), (Il x47), c48])) ∧ Wc prog tbl 88 [(V.agg 12 [(Il x37), 
 (Il x38), (Il x39), (Il x40), (Il x41), 
 (Il x42), (Il x43), (Il x44), (Il x45), 
 (Il x46), (Il x47), c48]), (V.c (Il x3))] m23 (fun v49 m50 => 
 ∃ x51, ∃ x52, ∃ x53, ∃ x54, (v49 = (V.agg 4 [(Il x51), 
 (Il x52), (Il x53), (Il x54)])) ∧ 
 (ifB (allS cmC [(Il x25), (Il x26), (Il x27), 
 (Il x28), (Il x29), (Il x30), (Il x31), 
 (Il x32), (Il x33), (Il x34), (Il x35), 
 c36]) ((ldA m50 (C.ptr m.nxt 0) 12) = (some [(Il x25), 
 (Il x26), (Il x27), (Il x28), (Il x29), 
 (Il x30), (Il x31), (Il x32), (Il x33), 
 (Il x34), (Il x35), c36])) False) ∧ isPt (C.ptr m.nxt 0) ∧ 
 ∃ c55 : C, ((ldC m50 (C.ptr m.nxt 11)) = (some c55)) ∧ (ifB (cmC c55) ((ldC m23 (C.ptr m.nxt 11)) = (some c55)) False) ∧ 
 ∃ n56 : Nat, (x22 = ((n56 : Nat) : Int)) ∧ (n56 < (slLen c55)) ∧ ∃ x57, 
 ∃ x58, ∃ x59, ∃ x60, ∃ b61 : Bool, ∃ x62, ∃ x63, 
 ((ldA m50 (slAt c55 (n56 * 7)) 7) = (some [(Il x57), (Il x58), 
 (Il x59), (Il x60), (C.bool b61), (Il x62), 
 (Il x63)])) ∧ ((ldA m23 (slAt c55 (n56 * 7)) 7) = (some [(Il x57), 
 (Il x58), (Il x59), (Il x60), (C.bool b61), 
 (Il x62), (Il x63)])) ∧ Wc prog tbl 72 [(V.agg 12 [(Il x25), 
 (Il x26), (Il x27), (Il x28), (Il x29), 
 (Il x30), (Il x31), (Il x32), (Il x33), 
 (Il x34), (Il x35), c36]), (V.agg 4 [(Il x51), 
 (Il x52), (Il x53), (Il x54)]), 
 (V.agg 7 [(Il x57), (Il x58), (Il x59), 
 (Il x60), (C.bool b61), (Il x62), (Il x63)])] m50 (fun v64 m65 => 
 ∃ b66 : Bool, (v64 = (V.c (C.bool b66))) ∧ ifB b66 (((0 : Int) ≤ (1 : Int)) ∧ 
 ((0 : Int) ≤ (wrapZ .u64 x22)) ∧ ((wrapZ .u64 x22) ≤ (64 : Int)) ∧ 
 fitsP .i64 ((1 : Int) * ((2 : Int) ^ (Int.toNat (wrapZ .u64 x22)))) ∧ 
 ((0 : Int) ≤ x21) ∧ ((0 : Int) ≤ ((1 : Int) * ((2 : Int) ^ (Int.toNat (wrapZ .u64 x22))))) ∧ 
 fitsP .i64 x21 ∧ fitsP .i64 ((1 : Int) * ((2 : Int) ^ (Int.toNat (wrapZ .u64 x22)))) ∧ 
 fitsP .i64 (((Nat.lor (Int.toNat x21) (Int.toNat ((1 : Int) * ((2 : Int) ^ (Int.toNat (wrapZ .u64 x22)))))) : Nat) : Int) ∧ 
 fitsP .i64 (x22 + 1) ∧ R20 [(V.c (Il (((Nat.lor (Int.toNat x21) (Int.toNat ((1 : Int) * ((2 : Int) ^ (Int.toNat (wrapZ .u64 x22)))))) : Nat) : Int))), 
 (V.c (Il (x22 + 1)))] m65) (fitsP .i64 (x22 + 1) ∧ 
 R20 [(V.c (Il x21)), (V.c (Il (x22 + 1)))] m65)))) (∀ m67 : M, 
 (m67 = (M.new m23 (AO.cells 1 [(Il x21)] false))) → ∃ c68 : C, 
 ∃ m69 : M, (ApR prog 69 m67 c2 (C.sl m23.nxt 0 1 0 (some 1)) c68 m69) ∧ 
 fitsP .i64 (x3 + 1) ∧ R1 [(V.c c68), (V.c (Il (x3 + 1)))] m69)) → 
 R20 [(V.c (Il x21)), (V.c (Il x22))] m23) → 
 R20 [(V.c (Il 0)), (V.c (Il 0))] m18) (Q (V.c c2) m18))) → 
 R1 [(V.c c2), (V.c (Il x3))] m4) → R1 [(V.c C.sl0), (V.c (Il 0))] m0)) : Wc prog tbl 38 [(V.agg 12 [(Il a100), (Il a101), (Il a102), (Il a103), (Il a104), (Il a105), (Il a106), (Il a107), (Il a108), (Il a109), (Il a110), a111])] m Q :=
 wc_eq (n := 1) rfl (by kernel_rfl) (by kernel_rfl) h
theorem w62 {a100 : Int} {a101 : Int} {m : M} {Q : V → M → Prop} (h :
 (∀ m0 : M, (m0 = (M.new m (AO.cells 2 [(Il a100), (Il a101)] false))) → isPt (C.ptr m.nxt 0) ∧ 
 ∃ x1, ((ldC m0 (C.ptr m.nxt 1)) = (some (Il x1))) ∧ isPt (C.ptr m.nxt 0) ∧ 
 ∃ x2, ((ldC m0 (C.ptr m.nxt 0)) = (some (Il x2))) ∧ fitsP .i64 (x1 - x2) ∧ 
 fitsP .i64 ((x1 - x2) + (1 : Int)) ∧ Q (V.c (Il ((x1 - x2) + (1 : Int)))) m0)) : Wc prog tbl 62 [(V.agg 2 [(Il a100), (Il a101)])] m Q :=
 wc_eq (n := 1) rfl (by kernel_rfl) (by kernel_rfl) h
theorem w68 {a100 : Int} {a101 : Int} {a102 : Int} {a103 : Int} {a104 : Int} {a105 : Int} {a106 : Int} {a107 : Int} {a108 : Int} {a109 : Int} {a110 : Int} {a111 : C} {a200 : C} {m : M} {Q : V → M → Prop} (h :
 (∀ m0 : M, (m0 = (M.new m (AO.cells 12 [(Il a100), (Il a101), (Il a102), 
 (Il a103), (Il a104), (Il a105), (Il a106), 
 (Il a107), (Il a108), (Il a109), (Il a110), 
 a111] false))) → ∀ m1 : M, (m1 = (M.new m0 (AO.cells 13 [(Il 0), (Il 0), 
 (Il 0), (Il 0), (Il 0), (Il 0), 
 (Il 0), (Il 0), (Il 0), (Il 0), 
 (Il 0), C.sl0, C.map0] false))) → ∃ x2, ∃ x3, ∃ x4, ∃ x5, 
 ∃ x6, ∃ x7, ∃ x8, ∃ x9, ∃ x10, ∃ x11, ∃ x12, ∃ c13 : C, 
 ((ldA m1 (C.ptr m.nxt 0) 12) = (some [(Il x2), (Il x3), 
 (Il x4), (Il x5), (Il x6), (Il x7), 
 (Il x8), (Il x9), (Il x10), (Il x11), 
 (Il x12), c13])) ∧ Wc prog tbl 48 [(V.agg 12 [(Il x2), (Il x3), 
 (Il x4), (Il x5), (Il x6), (Il x7), 
 (Il x8), (Il x9), (Il x10), (Il x11), 
 (Il x12), c13])] m1 (fun v14 m15 => ∃ x16, (v14 = (V.c (Il x16))) ∧ 
 ifB (!decide (x16 = 0)) (∃ m17 : M, ((stC m15 (C.ptr m0.nxt 0) 13 [(Il 0), 
 (Il 0), (Il 0), (Il 0), 
 (Il 0), (Il 0), (Il 0), 
 (Il 0), (Il 0), (Il 0), 
 (Il 0), C.sl0, C.map0]) = (some m17)) ∧ ∃ x18, 
 ∃ x19, ∃ x20, ∃ x21, ∃ x22, ∃ x23, ∃ x24, 
 ∃ x25, ∃ x26, ∃ x27, ∃ x28, ∃ c29 : C, ∃ c30 : C, 
 ((ldA m17 (C.ptr m0.nxt 0) 13) = (some [(Il x18), (Il x19), 
 (Il x20), (Il x21), (Il x22), (Il x23), 
 (Il x24), (Il x25), (Il x26), (Il x27), 
 (Il x28), c29, c30])) ∧ Q (V.tup [(U.agg 13 [(Il x18), 
 (Il x19), (Il x20), (Il x21), (Il x22), 
 (Il x23), (Il x24), (Il x25), (Il x26), 
 (Il x27), (Il x28), c29, c30]), (U.c (Il x16))]) m17) (∃ x31, 
 ∃ x32, ∃ x33, ∃ x34, ∃ x35, ∃ x36, ∃ x37, 
 ∃ x38, ∃ x39, ∃ x40, ∃ x41, ∃ c42 : C, ((ldA m15 (C.ptr m.nxt 0) 12) = (some [(Il x31), 
 (Il x32), (Il x33), (Il x34), (Il x35), 
 (Il x36), (Il x37), (Il x38), (Il x39), 
 (Il x40), (Il x41), c42])) ∧ optB (mapO vW [(V.agg 12 [(Il x31), 
 (Il x32), (Il x33), (Il x34), (Il x35), 
 (Il x36), (Il x37), (Il x38), (Il x39), 
 (Il x40), (Il x41), c42])]) False fun l43 => Wc prog tbl 106 [(V.c a200), 
 (V.c (C.fn (Fn.func 107) l43 []))] m15 (fun v44 m45 => ∃ b46 : Bool, (v44 = (V.c (C.bool b46))) ∧ 
 ifB (!b46) (∃ m47 : M, ((stC m45 (C.ptr m0.nxt 0) 13 [(Il 0), 
 (Il 0), (Il 0), (Il 0), 
 (Il 0), (Il 0), (Il 0), 
 (Il 0), (Il 0), (Il 0), 
 (Il 0), C.sl0, C.map0]) = (some m47)) ∧ ∃ x48, 
 ∃ x49, ∃ x50, ∃ x51, ∃ x52, ∃ x53, ∃ x54, 
 ∃ x55, ∃ x56, ∃ x57, ∃ x58, ∃ c59 : C, ∃ c60 : C, 
 ((ldA m47 (C.ptr m0.nxt 0) 13) = (some [(Il x48), (Il x49), 
 (Il x50), (Il x51), (Il x52), (Il x53), 
 (Il x54), (Il x55), (Il x56), (Il x57), 
 (Il x58), c59, c60])) ∧ Q (V.tup [(U.agg 13 [(Il x48), 
 (Il x49), (Il x50), (Il x51), (Il x52), 
 (Il x53), (Il x54), (Il x55), (Il x56), 
 (Il x57), (Il x58), c59, c60]), (U.c (Il (2 : Int)))]) m47) (∃ x61, 
 ∃ x62, ∃ x63, ∃ x64, ∃ x65, ∃ x66, ∃ x67, 
 ∃ x68, ∃ x69, ∃ x70, ∃ x71, ∃ c72 : C, ((ldA m45 (C.ptr m.nxt 0) 12) = (some [(Il x61), 
 (Il x62), (Il x63), (Il x64), (Il x65), 
 (Il x66), (Il x67), (Il x68), (Il x69), 
 (Il x70), (Il x71), c72])) ∧ Wc prog tbl 81 [(V.agg 12 [(Il x61), 
 (Il x62), (Il x63), (Il x64), (Il x65), 
 (Il x66), (Il x67), (Il x68), (Il x69), 
 (Il x70), (Il x71), c72])] m45 (fun v73 m74 => 
 ∃ x75, ∃ x76, ∃ x77, ∃ x78, ∃ x79, ∃ x80, 
 ∃ x81, ∃ x82, ∃ x83, ∃ x84, ∃ x85, ∃ c86 : C, 
 ∃ c87 : C, (v73 = (V.agg 13 [(Il x75), (Il x76), 
 (Il x77), (Il x78), (Il x79), (Il x80), 
 (Il x81), (Il x82), (Il x83), (Il x84), 
 (Il x85), c86, c87])) ∧ ∀ m88 : M, (m88 = (M.new m74 (AO.cells 13 [(Il 0), 
 (Il 0), (Il 0), (Il 0), 
 (Il 0), (Il 0), (Il 0), 
 (Il 0), (Il 0), (Il 0), 
 (Il 0), C.sl0, C.map0] false))) → ∃ m89 : M, ((stC m88 (C.ptr m74.nxt 0) 13 [(Il x75), 
 (Il x76), (Il x77), (Il x78), (Il x79), 
 (Il x80), (Il x81), (Il x82), (Il x83), 
 (Il x84), (Il x85), c86, c87]) = (some m89)) ∧ 
 ∃ x90, ∃ x91, ∃ x92, ∃ x93, ∃ x94, ∃ x95, 
 ∃ x96, ∃ x97, ∃ x98, ∃ x99, ∃ x100, ∃ c101 : C, 
 ∃ c102 : C, ((ldA m89 (C.ptr m74.nxt 0) 13) = (some [(Il x90), 
 (Il x91), (Il x92), (Il x93), (Il x94), 
 (Il x95), (Il x96), (Il x97), (Il x98), 
 (Il x99), (Il x100), c101, c102])) ∧ Wc prog tbl 86 [(V.agg 13 [(Il x90), 
 (Il x91), (Il x92), (Il x93), (Il x94), 
 (Il x95), (Il x96), (Il x97), (Il x98), 
 (Il x99), (Il x100), c101, c102])] m89 (fun v103 m104 => 
 ∃ b105 : Bool, (v103 = (V.c (C.bool b105))) ∧ ifB (!b105) (∃ m106 : M, ((stC m104 (C.ptr m0.nxt 0) 13 [(Il 0), 
 (Il 0), (Il 0), (Il 0), 
 (Il 0), (Il 0), (Il 0), 
 (Il 0), (Il 0), (Il 0), 
 (Il 0), C.sl0, C.map0]) = (some m106)) ∧ ∃ x107, 
 ∃ x108, ∃ x109, ∃ x110, ∃ x111, ∃ x112, ∃ x113, 
 ∃ x114, ∃ x115, ∃ x116, ∃ x117, ∃ c118 : C, ∃ c119 : C, 
 ((ldA m106 (C.ptr m0.nxt 0) 13) = (some [(Il x107), 
 (Il x108), (Il x109), (Il x110), 
 (Il x111), (Il x112), (Il x113), 
 (Il x114), (Il x115), (Il x116), 
 (Il x117), c118, c119])) ∧ Q (V.tup [(U.agg 13 [(Il x107), 
 (Il x108), (Il x109), (Il x110), 
 (Il x111), (Il x112), (Il x113), 
 (Il x114), (Il x115), (Il x116), 
 (Il x117), c118, c119]), (U.c (Il (11 : Int)))]) m106) (∃ x120, 
 ∃ x121, ∃ x122, ∃ x123, ∃ x124, ∃ x125, ∃ x126, 
 ∃ x127, ∃ x128, ∃ x129, ∃ x130, ∃ c131 : C, ∃ c132 : C, 
 ((ldA m104 (C.ptr m74.nxt 0) 13) = (some [(Il x120), 
 (Il x121), (Il x122), (Il x123), 
 (Il x124), (Il x125), (Il x126), 
 (Il x127), (Il x128), (Il x129), 
 (Il x130), c131, c132])) ∧ ∃ m133 : M, ((stC m104 (C.ptr m0.nxt 0) 13 [(Il x120), 
 (Il x121), (Il x122), (Il x123), 
 (Il x124), (Il x125), (Il x126), 
 (Il x127), (Il x128), (Il x129), 
 (Il x130), c131, c132]) = (some m133)) ∧ ∃ x134, 
 ∃ x135, ∃ x136, ∃ x137, ∃ x138, ∃ x139, ∃ x140, 
 ∃ x141, ∃ x142, ∃ x143, ∃ x144, ∃ c145 : C, ∃ c146 : C, 
 ((ldA m133 (C.ptr m0.nxt 0) 13) = (some [(Il x134), 
 (Il x135), (Il x136), (Il x137), 
 (Il x138), (Il x139), (Il x140), 
 (Il x141), (Il x142), (Il x143), 
 (Il x144), c145, c146])) ∧ Q (V.tup [(U.agg 13 [(Il x134), 
 (Il x135), (Il x136), (Il x137), 
 (Il x138), (Il x139), (Il x140), 
 (Il x141), (Il x142), (Il x143), 
 (Il x144), c145, c146]), (U.c (Il 0))]) m133))))))))) : Wc prog tbl 68 [(V.agg 12 [(Il a100), (Il a101), (Il a102), (Il a103), (Il a104), (Il a105), (Il a106), (Il a107), (Il a108), (Il a109), (Il a110), a111]), (V.c a200)] m Q :=
 wc_eq (n := 2) rfl (by kernel_rfl) (by kernel_rfl) h
theorem w71 {a100 : Int} {a101 : Int} {a102 : Int} {a103 : Int} {a104 : Int} {a105 : Int} {a106 : Int} {a107 : Int} {a108 : Int} {a109 : Int} {a110 : Int} {a111 : C} {a200 : Int} {a201 : Int} {a202 : Int} {a203 : Int} {a300 : Int} {a400 : Int} {m : M} {Q : V → M → Prop} (h :
 (∀ m0 : M, (m0 = (M.new m (AO.cells 12 [(Il a100), (Il a101), (Il a102), 
 (Il a103), (Il a104), (Il a105), (Il a106), 
 (Il a107), (Il a108), (Il a109), (Il a110), 
 a111] false))) → ∀ m1 : M, (m1 = (M.new m0 (AO.cells 4 [(Il a200), (Il a201), 
 (Il a202), (Il a203)] false))) → ∃ x2, ∃ x3, ∃ x4, 
 ∃ x5, ∃ x6, ∃ x7, ∃ x8, ∃ x9, ∃ x10, ∃ x11, ∃ x12, 
 ∃ c13 : C, ((ldA m1 (C.ptr m.nxt 0) 12) = (some [(Il x2), (Il x3), 
 (Il x4), (Il x5), (Il x6), (Il x7), 
 (Il x8), (Il x9), (Il x10), (Il x11), 
 (Il x12), c13])) ∧ ∃ x14, ∃ x15, ∃ x16, ∃ x17, 
 ((ldA m1 (C.ptr m0.nxt 0) 4) = (some [(Il x14), (Il x15), 
 (Il x16), (Il x17)])) ∧ Wc prog tbl 102 [(V.agg 12 [(Il x2), 
 (Il x3), (Il x4), (Il x5), (Il x6), 
 (Il x7), (Il x8), (Il x9), (Il x10), 
 (Il x11), (Il x12), c13]), (V.agg 4 [(Il x14), 
 (Il x15), (Il x16), (Il x17)]), (V.c (Il a300)), 
 (V.c (Il a400))] m1 (fun v18 m19 => ∃ x20, (v18 = (V.c (Il x20))) ∧ 
 isPt (C.ptr m.nxt 0) ∧ ∃ x21, ((ldC m19 (C.ptr m.nxt 0)) = (some (Il x21))) ∧ 
 ((ldC m1 (C.ptr m.nxt 0)) = (some (Il x21))) ∧ fitsP .i64 (x21 - 1) ∧ 
 isPt (C.ptr m0.nxt 0) ∧ ∃ x22, ((ldC m19 (C.ptr m0.nxt 2)) = (some (Il x22))) ∧ 
 ((ldC m1 (C.ptr m0.nxt 2)) = (some (Il x22))) ∧ ((0 : Int) ≤ (x21 - 1)) ∧ 
 ((0 : Int) ≤ x22) ∧ fitsP .i64 ((x21 - 1) * x22) ∧ Q (V.c (C.bool (decide (x20 ≤ ((x21 - 1) * x22))))) m19))) : Wc prog tbl 71 [(V.agg 12 [(Il a100), (Il a101), (Il a102), (Il a103), (Il a104), (Il a105), (Il a106), (Il a107), (Il a108), (Il a109), (Il a110), a111]), (V.agg 4 [(Il a200), (Il a201), (Il a202), (Il a203)]), (V.c (Il a300)), (V.c (Il a400))] m Q :=
 wc_eq (n := 4) rfl (by kernel_rfl) (by kernel_rfl) h
theorem w75 {a100 : Int} {a101 : Int} {a102 : Int} {a103 : Int} {a104 : Int} {a105 : Int} {a106 : Int} {a107 : Int} {a108 : Int} {a109 : Int} {a110 : Int} {a111 : C} {a200 : Int} {a201 : Int} {a202 : Int} {a203 : Int} {a300 : Int} {a400 : Int} {m : M} {Q : V → M → Prop} (h :
 (∀ m0 : M, (m0 = (M.new m (AO.cells 12 [(Il a100), (Il a101), (Il a102), 
 (Il a103), (Il a104), (Il a105), (Il a106), 
 (Il a107), (Il a108), (Il a109), (Il a110), 
 a111] false))) → ∀ m1 : M, (m1 = (M.new m0 (AO.cells 4 [(Il a200), (Il a201), 
 (Il a202), (Il a203)] false))) → ∃ x2, ∃ x3, ∃ x4, 
 ∃ x5, ∃ x6, ∃ x7, ∃ x8, ∃ x9, ∃ x10, ∃ x11, ∃ x12, 
 ∃ c13 : C, ((ldA m1 (C.ptr m.nxt 0) 12) = (some [(Il x2), (Il x3), 
 (Il x4), (Il x5), (Il x6), (Il x7), 
 (Il x8), (Il x9), (Il x10), (Il x11), 
 (Il x12), c13])) ∧ ∃ x14, ∃ x15, ∃ x16, ∃ x17, 
 ((ldA m1 (C.ptr m0.nxt 0) 4) = (some [(Il x14), (Il x15), 
 (Il x16), (Il x17)])) ∧ Wc prog tbl 112 [(V.agg 12 [(Il x2), 
 (Il x3), (Il x4), (Il x5), (Il x6), 
 (Il x7), (Il x8), (Il x9), (Il x10), 
 (Il x11), (Il x12), c13]), (V.agg 4 [(Il x14), 
 (Il x15), (Il x16), (Il x17)]), (V.c (Il a300)), 
 (V.c (Il a400))] m1 (fun v18 m19 => ∃ b20 : Bool, (v18 = (V.c (C.bool b20))) ∧ 
 ifB (!b20) (Q (V.c (Il 0)) m19) (isPt (C.ptr m0.nxt 0) ∧ 
 ∃ x21, ((ldC m19 (C.ptr m0.nxt 3)) = (some (Il x21))) ∧ 
 isPt (C.ptr m.nxt 0) ∧ ∃ x22, ((ldC m19 (C.ptr m.nxt 2)) = (some (Il x22))) ∧ 
 ∃ x23, ∃ x24, ∃ x25, ∃ x26, ∃ x27, ∃ x28, 
 ∃ x29, ∃ x30, ∃ x31, ∃ x32, ∃ x33, ∃ c34 : C, 
 ((ldA m19 (C.ptr m.nxt 0) 12) = (some [(Il x23), (Il x24), 
 (Il x25), (Il x26), (Il x27), (Il x28), 
 (Il x29), (Il x30), (Il x31), (Il x32), 
 (Il x33), c34])) ∧ ∃ x35, ∃ x36, ∃ x37, ∃ x38, 
 ((ldA m19 (C.ptr m0.nxt 0) 4) = (some [(Il x35), (Il x36), 
 (Il x37), (Il x38)])) ∧ Wc prog tbl 113 [(V.agg 12 [(Il x23), 
 (Il x24), (Il x25), (Il x26), (Il x27), 
 (Il x28), (Il x29), (Il x30), (Il x31), 
 (Il x32), (Il x33), c34]), (V.agg 4 [(Il x35), 
 (Il x36), (Il x37), (Il x38)]), 
 (V.c (Il a300)), (V.c (Il a400))] m19 (fun v39 m40 => 
 ∃ x41, (v39 = (V.c (Il x41))) ∧ ((ldC m40 (C.ptr m.nxt 2)) = (some (Il x22))) ∧ 
 ((ldC m40 (C.ptr m0.nxt 3)) = (some (Il x21))) ∧ isPt (C.ptr m.nxt 0) ∧ 
 ∃ x42, ((ldC m40 (C.ptr m.nxt 0)) = (some (Il x42))) ∧ 
 ((ldC m19 (C.ptr m.nxt 0)) = (some (Il x42))) ∧ fitsP .i64 (x42 - 1) ∧ 
 ((0 : Int) ≤ x41) ∧ ((0 : Int) < (x42 - 1)) ∧ fitsP .i64 (x41 / (x42 - 1)) ∧ 
 ((0 : Int) ≤ x22) ∧ ((0 : Int) ≤ (x41 / (x42 - 1))) ∧ fitsP .i64 (x22 * (x41 / (x42 - 1))) ∧ 
 fitsP .i64 (x21 - (x22 * (x41 / (x42 - 1)))) ∧ Q (V.c (Il (Max.max (1 : Int) (x21 - (x22 * (x41 / (x42 - 1))))))) m40))))) : Wc prog tbl 75 [(V.agg 12 [(Il a100), (Il a101), (Il a102), (Il a103), (Il a104), (Il a105), (Il a106), (Il a107), (Il a108), (Il a109), (Il a110), a111]), (V.agg 4 [(Il a200), (Il a201), (Il a202), (Il a203)]), (V.c (Il a300)), (V.c (Il a400))] m Q :=
 wc_eq (n := 4) rfl (by kernel_rfl) (by kernel_rfl) h
theorem w78 {a100 : Int} {a101 : Int} {a102 : Int} {a103 : Int} {m : M} {Q : V → M → Prop} (h :
 (∀ m0 : M, (m0 = (M.new m (AO.cells 4 [(Il a100), (Il a101), (Il a102), 
 (Il a103)] false))) → Q (V.c (C.fn (Fn.func 114) [] [(W.c (C0.ptr m.nxt 0))])) m0)) : Wc prog tbl 78 [(V.agg 4 [(Il a100), (Il a101), (Il a102), (Il a103)])] m Q :=
 wc_eq (n := 1) rfl (by kernel_rfl) (by kernel_rfl) h
theorem w81 {a100 : Int} {a101 : Int} {a102 : Int} {a103 : Int} {a104 : Int} {a105 : Int} {a106 : Int} {a107 : Int} {a108 : Int} {a109 : Int} {a110 : Int} {a111 : C} {m : M} {Q : V → M → Prop} (h :
 (∀ m0 : M, (m0 = (M.new m (AO.cells 12 [(Il a100), (Il a101), (Il a102), 
 (Il a103), (Il a104), (Il a105), (Il a106), 
 (Il a107), (Il a108), (Il a109), (Il a110), 
 a111] false))) → ∀ m1 : M, (m1 = (M.new m0 (AO.cells 13 [(Il 0), (Il 0), 
 (Il 0), (Il 0), (Il 0), (Il 0), 
 (Il 0), (Il 0), (Il 0), (Il 0), 
 (Il 0), C.sl0, C.map0] false))) → ∃ x2, ∃ x3, ∃ x4, ∃ x5, 
 ∃ x6, ∃ x7, ∃ x8, ∃ x9, ∃ x10, ∃ x11, ∃ x12, ∃ c13 : C, 
 ((ldA m1 (C.ptr m.nxt 0) 12) = (some [(Il x2), (Il x3), 
 (Il x4), (Il x5), (Il x6), (Il x7), 
 (Il x8), (Il x9), (Il x10), (Il x11), 
 (Il x12), c13])) ∧ ∀ m14 : M, (m14 = (M.new m1 (AO.map [] 0))) → ∀ m15 : M, 
 (m15 = (M.new m14 (AO.cells 13 [(Il 0), (Il 0), 
 (Il 0), (Il 0), (Il 0), 
 (Il 0), (Il 0), (Il 0), 
 (Il 0), (Il 0), (Il 0), 
 C.sl0, C.map0] false))) → ∃ m16 : M, ((stC m15 (C.ptr m14.nxt 0) 13 [(Il x2), 
 (Il x3), (Il x4), (Il x5), (Il x6), 
 (Il x7), (Il x8), (Il x9), (Il x10), 
 (Il x11), (Il x12), c13, (C.map m1.nxt)]) = (some m16)) ∧ 
 isPt (C.ptr m14.nxt 0) ∧ ∃ x17, ∃ x18, ∃ x19, ∃ x20, 
 ∃ x21, ∃ x22, ∃ x23, ∃ x24, ∃ x25, ∃ x26, 
 ∃ x27, ∃ c28 : C, ((ldA m16 (C.ptr m14.nxt 0) 12) = (some [(Il x17), 
 (Il x18), (Il x19), (Il x20), (Il x21), 
 (Il x22), (Il x23), (Il x24), (Il x25), 
 (Il x26), (Il x27), c28])) ∧ Wc prog tbl 116 [(V.agg 12 [(Il x17), 
 (Il x18), (Il x19), (Il x20), (Il x21), 
 (Il x22), (Il x23), (Il x24), (Il x25), 
 (Il x26), (Il x27), c28])] m16 (fun v29 m30 => 
 ∃ c31 : C, (v29 = (V.c c31)) ∧ rangeP prog tbl c31 m30 (fun l32 m33 R34 R35 => 
 ∃ x36, ∃ x37, ∃ x38, ∃ x39, (l32 = [(V.agg 4 [(Il x36), 
 (Il x37), (Il x38), (Il x39)])]) ∧ 
 ∀ m40 : M, (m40 = (M.new m33 (AO.cells 4 [(Il 0), (Il 0), 
 (Il 0), (Il 0)] false))) → ∃ m41 : M, 
 ((stC m40 (C.ptr m33.nxt 0) 4 [(Il x36), (Il x37), 
 (Il x38), (Il x39)]) = (some m41)) ∧ R34 m41 (fun m42 => 
 isPt (C.ptr m14.nxt 0) ∧ ∃ c43 : C, ((ldC m42 (C.ptr m14.nxt 12)) = (some c43)) ∧ 
 ∃ x44, ∃ x45, ∃ x46, ∃ x47, ((ldA m42 (C.ptr m33.nxt 0) 4) = (some [(Il x44), 
 (Il x45), (Il x46), (Il x47)])) ∧ 
 ∃ x48, ∃ x49, ∃ x50, ∃ x51, ∃ x52, ∃ x53, 
 ∃ x54, ∃ x55, ∃ x56, ∃ x57, ∃ x58, ∃ c59 : C, 
 ∃ c60 : C, ((ldA m42 (C.ptr m14.nxt 0) 13) = (some [(Il x48), 
 (Il x49), (Il x50), (Il x51), (Il x52), 
 (Il x53), (Il x54), (Il x55), (Il x56), 
 (Il x57), (Il x58), c59, c60])) ∧ ∃ x61, 
 ∃ x62, ∃ x63, ∃ x64, ((ldA m42 (C.ptr m33.nxt 0) 4) = (some [(Il x61), 
 (Il x62), (Il x63), (Il x64)])) ∧ 
 Wc prog tbl 91 [(V.agg 13 [(Il x48), (Il x49), 
 (Il x50), (Il x51), (Il x52), (Il x53), 
 (Il x54), (Il x55), (Il x56), (Il x57), 
 (Il x58), c59, c60]), (V.agg 4 [(Il x61), (Il x62), 
 (Il x63), (Il x64)])] m42 (fun v65 m66 => ∃ b67 : Bool, 
 ∃ b68 : Bool, ∃ b69 : Bool, ∃ b70 : Bool, ∃ b71 : Bool, ∃ b72 : Bool, (v65 = (V.agg 6 [(C.bool b67), 
 (C.bool b68), (C.bool b69), (C.bool b70), (C.bool b71), (C.bool b72)])) ∧ ((ldA m66 (C.ptr m33.nxt 0) 4) = (some [(Il x44), 
 (Il x45), (Il x46), (Il x47)])) ∧ 
 (ifB (cmC c43) ((ldC m66 (C.ptr m14.nxt 12)) = (some c43)) False) ∧ 
 ∃ m73 : M, ((upM prog 43 m66 c43 (V.agg 4 [(Il x44), (Il x45), 
 (Il x46), (Il x47)]) (V.agg 6 [(C.bool b67), (C.bool b68), 
 (C.bool b69), (C.bool b70), (C.bool b71), (C.bool b72)])) = (some m73)) ∧ 
 R35 Ex.nrm m73))) (After.mk (fun m74 => 
 ∃ x75, ∃ x76, ∃ x77, ∃ x78, ∃ x79, ∃ x80, 
 ∃ x81, ∃ x82, ∃ x83, ∃ x84, ∃ x85, ∃ c86 : C, 
 ∃ c87 : C, ((ldA m74 (C.ptr m14.nxt 0) 13) = (some [(Il x75), 
 (Il x76), (Il x77), (Il x78), (Il x79), 
 (Il x80), (Il x81), (Il x82), (Il x83), 
 (Il x84), (Il x85), c86, c87])) ∧ ∃ m88 : M, ((stC m74 (C.ptr m0.nxt 0) 13 [(Il x75), 
 (Il x76), (Il x77), (Il x78), (Il x79), 
 (Il x80), (Il x81), (Il x82), (Il x83), 
 (Il x84), (Il x85), c86, c87]) = (some m88)) ∧ 
 ∃ x89, ∃ x90, ∃ x91, ∃ x92, ∃ x93, ∃ x94, 
 ∃ x95, ∃ x96, ∃ x97, ∃ x98, ∃ x99, ∃ c100 : C, 
 ∃ c101 : C, ((ldA m88 (C.ptr m0.nxt 0) 13) = (some [(Il x89), 
 (Il x90), (Il x91), (Il x92), (Il x93), 
 (Il x94), (Il x95), (Il x96), (Il x97), 
 (Il x98), (Il x99), c100, c101])) ∧ Q (V.agg 13 [(Il x89), 
 (Il x90), (Il x91), (Il x92), (Il x93), 
 (Il x94), (Il x95), (Il x96), (Il x97), 
 (Il x98), (Il x99), c100, c101]) m88) [] (fun m102 => 
 ∃ x103, ∃ x104, ∃ x105, ∃ x106, ∃ x107, ∃ x108, 
 ∃ x109, ∃ x110, ∃ x111, ∃ x112, ∃ x113, ∃ c114 : C, 
 ∃ c115 : C, ((ldA m102 (C.ptr m0.nxt 0) 13) = (some [(Il x103), 
 (Il x104), (Il x105), (Il x106), 
 (Il x107), (Il x108), (Il x109), 
 (Il x110), (Il x111), (Il x112), 
 (Il x113), c114, c115])) ∧ Q (V.agg 13 [(Il x103), 
 (Il x104), (Il x105), (Il x106), 
 (Il x107), (Il x108), (Il x109), 
 (Il x110), (Il x111), (Il x112), 
 (Il x113), c114, c115]) m102))))) : Wc prog tbl 81 [(V.agg 12 [(Il a100), (Il a101), (Il a102), (Il a103), (Il a104), (Il a105), (Il a106), (Il a107), (Il a108), (Il a109), (Il a110), a111])] m Q :=
 wc_eq (n := 1) rfl (by kernel_rfl) (by kernel_rfl) h
theorem w99 {a100 : Int} {a101 : Int} {a102 : Int} {a103 : Int} {a104 : Int} {a105 : Int} {a106 : Int} {a107 : Int} {a108 : Int} {a109 : Int} {a110 : Int} {a111 : C} {a112 : C} {m : M} {Q : V → M → Prop} (h :
 (∀ m0 : M, (m0 = (M.new m (AO.cells 13 [(Il a100), (Il a101), (Il a102), 
 (Il a103), (Il a104), (Il a105), (Il a106), 
 (Il a107), (Il a108), (Il a109), (Il a110), 
 a111, a112] false))) → isPt (C.ptr m.nxt 0) ∧ isPt (C.ptr m.nxt 0) ∧ ∃ x1, ((ldC m0 (C.ptr m.nxt 0)) = (some (Il x1))) ∧ 
 ifB (decide ((2 : Int) ≤ x1)) (isPt (C.ptr m.nxt 0) ∧ isPt (C.ptr m.nxt 0) ∧ ∃ x2, ((ldC m0 (C.ptr m.nxt 1)) = (some (Il x2))) ∧ 
 ifB (decide ((1 : Int) ≤ x2)) (isPt (C.ptr m.nxt 0) ∧ isPt (C.ptr m.nxt 0) ∧ ∃ x3, 
 ((ldC m0 (C.ptr m.nxt 2)) = (some (Il x3))) ∧ ifB (decide ((0 : Int) ≤ x3)) (isPt (C.ptr m.nxt 0) ∧ 
 isPt (C.ptr m.nxt 0) ∧ ∃ x4, ((ldC m0 (C.ptr m.nxt 2)) = (some (Il x4))) ∧ 
 ifB (decide (x4 ≤ 4)) (isPt (C.ptr m.nxt 0) ∧ isPt (C.ptr m.nxt 0) ∧ ∃ x5, 
 ∃ x6, ((ldA m0 (C.ptr m.nxt 3) 2) = (some [(Il x5), 
 (Il x6)])) ∧ isPt (C.ptr m.nxt 0) ∧ isPt (C.ptr m.nxt 0) ∧ 
 ∃ x7, ((ldC m0 (C.ptr m.nxt 1)) = (some (Il x7))) ∧ 
 fitsP .i64 (x7 - 1) ∧ Wc prog tbl 122 [(V.agg 2 [(Il x5), 
 (Il x6)]), (V.c (Il 0)), (V.c (Il (x7 - 1)))] m0 (fun v8 m9 => 
 ∃ b10 : Bool, (v8 = (V.c (C.bool b10))) ∧ ifB b10 (isPt (C.ptr m.nxt 0) ∧ 
 isPt (C.ptr m.nxt 0) ∧ ∃ x11, ∃ x12, ((ldA m9 (C.ptr m.nxt 5) 2) = (some [(Il x11), 
 (Il x12)])) ∧ isPt (C.ptr m.nxt 0) ∧ isPt (C.ptr m.nxt 0) ∧ 
 ∃ x13, ((ldC m9 (C.ptr m.nxt 1)) = (some (Il x13))) ∧ 
 fitsP .i64 (x13 - 1) ∧ Wc prog tbl 122 [(V.agg 2 [(Il x11), 
 (Il x12)]), (V.c (Il 0)), (V.c (Il (x13 - 1)))] m9 (fun v14 m15 => 
 ∃ b16 : Bool, (v14 = (V.c (C.bool b16))) ∧ ifB b16 (isPt (C.ptr m.nxt 0) ∧ 
 isPt (C.ptr m.nxt 0) ∧ ∃ x17, ∃ x18, ((ldA m15 (C.ptr m.nxt 7) 2) = (some [(Il x17), 
 (Il x18)])) ∧ Wc prog tbl 122 [(V.agg 2 [(Il x17), 
 (Il x18)]), (V.c (Il 0)), (V.c (Il (3 : Int)))] m15 (fun v19 m20 => 
 ∃ b21 : Bool, (v19 = (V.c (C.bool b21))) ∧ ifB b21 (isPt (C.ptr m.nxt 0) ∧ 
 isPt (C.ptr m.nxt 0) ∧ ∃ x22, ∃ x23, ((ldA m20 (C.ptr m.nxt 9) 2) = (some [(Il x22), 
 (Il x23)])) ∧ Wc prog tbl 122 [(V.agg 2 [(Il x22), 
 (Il x23)]), (V.c (Il (1 : Int))), (V.c (Il (9 : Int)))] m20 (fun v24 m25 => 
 ∃ b26 : Bool, (v24 = (V.c (C.bool b26))) ∧ ifB b26 (isPt (C.ptr m.nxt 0) ∧ 
 isPt (C.ptr m.nxt 0) ∧ ∃ c27 : C, ((ldC m25 (C.ptr m.nxt 11)) = (some c27)) ∧ 
 ∃ x28, ∃ x29, ∃ x30, ∃ x31, ∃ x32, ∃ x33, 
 ∃ x34, ∃ x35, ∃ x36, ∃ x37, ∃ x38, ∃ c39 : C, 
 ∃ c40 : C, ((ldA m25 (C.ptr m.nxt 0) 13) = (some [(Il x28), 
 (Il x29), (Il x30), (Il x31), (Il x32), 
 (Il x33), (Il x34), (Il x35), (Il x36), 
 (Il x37), (Il x38), c39, c40])) ∧ optB (mapO vW [(V.agg 13 [(Il x28), 
 (Il x29), (Il x30), (Il x31), (Il x32), 
 (Il x33), (Il x34), (Il x35), (Il x36), 
 (Il x37), (Il x38), c39, c40])]) False fun l41 => 
 Wc prog tbl 123 [(V.c c27), (V.c (C.fn (Fn.func 124) l41 []))] m25 (fun v42 m43 => 
 ∃ b44 : Bool, (v42 = (V.c (C.bool b44))) ∧ Q (V.c (C.bool b44)) m43)) (Q (V.c (C.bool false)) m25))) (Q (V.c (C.bool false)) m20))) (Q (V.c (C.bool false)) m15))) (Q (V.c (C.bool false)) m9))) (Q (V.c (C.bool false)) m0)) (Q (V.c (C.bool false)) m0)) (Q (V.c (C.bool false)) m0)) (Q (V.c (C.bool false)) m0))) : Wc prog tbl 99 [(V.agg 13 [(Il a100), (Il a101), (Il a102), (Il a103), (Il a104), (Il a105), (Il a106), (Il a107), (Il a108), (Il a109), (Il a110), a111, a112])] m Q :=
 wc_eq (n := 1) rfl (by kernel_rfl) (by kernel_rfl) h
theorem w102 {a100 : Int} {a101 : Int} {a102 : Int} {a103 : Int} {a104 : Int} {a105 : Int} {a106 : Int} {a107 : Int} {a108 : Int} {a109 : Int} {a110 : Int} {a111 : C} {a200 : Int} {a201 : Int} {a202 : Int} {a203 : Int} {a300 : Int} {a400 : Int} {m : M} {Q : V → M → Prop} (h :
 (∀ m0 : M, (m0 = (M.new m (AO.cells 12 [(Il a100), (Il a101), (Il a102), 
 (Il a103), (Il a104), (Il a105), (Il a106), 
 (Il a107), (Il a108), (Il a109), (Il a110), 
 a111] false))) → ∀ m1 : M, (m1 = (M.new m0 (AO.cells 4 [(Il a200), (Il a201), 
 (Il a202), (Il a203)] false))) → isPt (C.ptr m.nxt 0) ∧ ∃ x2, 
 ((ldC m1 (C.ptr m.nxt 0)) = (some (Il x2))) ∧ fitsP .i64 (x2 - 1) ∧ 
 ((0 : Int) ≤ (x2 - 1)) ∧ ((0 : Int) ≤ a400) ∧ fitsP .i64 ((x2 - 1) * a400) ∧ 
 isPt (C.ptr m0.nxt 0) ∧ ∃ x3, ((ldC m1 (C.ptr m0.nxt 0)) = (some (Il x3))) ∧ 
 fitsP .i64 ((x2 - 1) - a300) ∧ ((0 : Int) ≤ x3) ∧ ((0 : Int) ≤ ((x2 - 1) - a300)) ∧ 
 fitsP .i64 (x3 * ((x2 - 1) - a300)) ∧ fitsP .i64 (((x2 - 1) * a400) - (x3 * ((x2 - 1) - a300))) ∧ 
 isPt (C.ptr m0.nxt 0) ∧ ∃ x4, ((ldC m1 (C.ptr m0.nxt 1)) = (some (Il x4))) ∧ 
 ((0 : Int) ≤ x4) ∧ ((0 : Int) ≤ a300) ∧ fitsP .i64 (x4 * a300) ∧ fitsP .i64 ((((x2 - 1) * a400) - (x3 * ((x2 - 1) - a300))) - (x4 * a300)) ∧ 
 ifB (decide (((((x2 - 1) * a400) - (x3 * ((x2 - 1) - a300))) - (x4 * a300)) < (0 : Int))) (fitsP .i64 ((0 : Int) - ((((x2 - 1) * a400) - (x3 * ((x2 - 1) - a300))) - (x4 * a300))) ∧ 
 Q (V.c (Il ((0 : Int) - ((((x2 - 1) * a400) - (x3 * ((x2 - 1) - a300))) - (x4 * a300))))) m1) (Q (V.c (Il ((((x2 - 1) * a400) - (x3 * ((x2 - 1) - a300))) - (x4 * a300)))) m1))) : Wc prog tbl 102 [(V.agg 12 [(Il a100), (Il a101), (Il a102), (Il a103), (Il a104), (Il a105), (Il a106), (Il a107), (Il a108), (Il a109), (Il a110), a111]), (V.agg 4 [(Il a200), (Il a201), (Il a202), (Il a203)]), (V.c (Il a300)), (V.c (Il a400))] m Q :=
 wc_eq (n := 4) rfl (by kernel_rfl) (by kernel_rfl) h
theorem w105 {a100 : Int} {a101 : Int} {a102 : Int} {a103 : Int} {a104 : Int} {a105 : Int} {a106 : Int} {a107 : Int} {a108 : Int} {a109 : Int} {a110 : Int} {a111 : C} {a200 : Int} {a201 : Int} {a202 : Int} {a203 : Int} {a204 : Bool} {a205 : Int} {a206 : Int} {m : M} {Q : V → M → Prop} (h :
 (∀ m0 : M, (m0 = (M.new m (AO.cells 12 [(Il a100), (Il a101), (Il a102), 
 (Il a103), (Il a104), (Il a105), (Il a106), 
 (Il a107), (Il a108), (Il a109), (Il a110), 
 a111] false))) → ∀ m1 : M, (m1 = (M.new m0 (AO.cells 7 [(Il a200), (Il a201), 
 (Il a202), (Il a203), (C.bool a204), (Il a205), (Il a206)] false))) → 
 ∃ x2, ∃ x3, ∃ x4, ∃ x5, ∃ x6, ∃ x7, ∃ x8, ∃ x9, 
 ∃ x10, ∃ x11, ∃ x12, ∃ c13 : C, ((ldA m1 (C.ptr m.nxt 0) 12) = (some [(Il x2), 
 (Il x3), (Il x4), (Il x5), (Il x6), 
 (Il x7), (Il x8), (Il x9), (Il x10), 
 (Il x11), (Il x12), c13])) ∧ isPt (C.ptr m0.nxt 0) ∧ ∃ x14, 
 ∃ x15, ((ldA m1 (C.ptr m0.nxt 0) 2) = (some [(Il x14), (Il x15)])) ∧ 
 isPt (C.ptr m0.nxt 0) ∧ ∃ x16, ∃ x17, ((ldA m1 (C.ptr m0.nxt 2) 2) = (some [(Il x16), 
 (Il x17)])) ∧ Wc prog tbl 24 [(V.agg 12 [(Il x2), 
 (Il x3), (Il x4), (Il x5), (Il x6), 
 (Il x7), (Il x8), (Il x9), (Il x10), 
 (Il x11), (Il x12), c13]), (V.agg 4 [(Il x14), 
 (Il x15), (Il x16), (Il x17)])] m1 (fun v18 m19 => 
 ∃ b20 : Bool, (v18 = (V.c (C.bool b20))) ∧ ifB (!b20) (Q (V.c (C.bool false)) m19) (isPt (C.ptr m0.nxt 0) ∧ 
 ∃ x21, ∃ x22, ((ldA m19 (C.ptr m0.nxt 5) 2) = (some [(Il x21), 
 (Il x22)])) ∧ Wc prog tbl 70 [(V.agg 2 [(Il x21), 
 (Il x22)]), (V.c (Il 0)), (V.c (Il (9 : Int)))] m19 (fun v23 m24 => 
 ∃ b25 : Bool, (v23 = (V.c (C.bool b25))) ∧ ifB (!b25) (Q (V.c (C.bool false)) m24) (isPt (C.ptr m0.nxt 0) ∧ 
 ∃ b26 : Bool, ((ldC m24 (C.ptr m0.nxt 4)) = (some (C.bool b26))) ∧ 
 ifB b26 (Q (V.c (C.bool true)) m24) (isPt (C.ptr m0.nxt 0) ∧ ∃ x27, 
 ∃ x28, ((ldA m24 (C.ptr m0.nxt 5) 2) = (some [(Il x27), 
 (Il x28)])) ∧ fitsP .i64 x27 ∧ fitsP .i64 (0 : Int) ∧ 
 fitsP .i64 x28 ∧ fitsP .i64 (0 : Int) ∧ Q (V.c (C.bool ((decide (x27 = 0)) && (decide (x28 = 0))))) m24))))))) : Wc prog tbl 105 [(V.agg 12 [(Il a100), (Il a101), (Il a102), (Il a103), (Il a104), (Il a105), (Il a106), (Il a107), (Il a108), (Il a109), (Il a110), a111]), (V.agg 7 [(Il a200), (Il a201), (Il a202), (Il a203), (C.bool a204), (Il a205), (Il a206)])] m Q :=
 wc_eq (n := 2) rfl (by kernel_rfl) (by kernel_rfl) h
theorem w108 {a100 : Int} {a101 : Int} {a102 : Int} {a103 : Int} {a104 : Int} {a105 : Int} {a106 : Int} {a107 : Int} {a108 : Int} {a109 : Int} {a110 : Int} {a111 : C} {a112 : C} {m : M} {Q : V → M → Prop} (h :
 (∀ m0 : M, (m0 = (M.new m (AO.cells 13 [(Il a100), (Il a101), (Il a102), 
 (Il a103), (Il a104), (Il a105), (Il a106), 
 (Il a107), (Il a108), (Il a109), (Il a110), 
 a111, a112] false))) → Q (V.c (C.fn (Fn.func 128) [] [(W.c (C0.ptr m.nxt 0))])) m0)) : Wc prog tbl 108 [(V.agg 13 [(Il a100), (Il a101), (Il a102), (Il a103), (Il a104), (Il a105), (Il a106), (Il a107), (Il a108), (Il a109), (Il a110), a111, a112])] m Q :=
 wc_eq (n := 1) rfl (by kernel_rfl) (by kernel_rfl) h
theorem w115 {a100 : Int} {a101 : Int} {m : M} {Q : V → M → Prop} (h :
 (∀ m0 : M, (m0 = (M.new m (AO.cells 2 [(Il a100), (Il a101)] false))) → Q (V.c (C.fn (Fn.func 129) [] [(W.c (C0.ptr m.nxt 0))])) m0)) : Wc prog tbl 115 [(V.agg 2 [(Il a100), (Il a101)])] m Q :=
 wc_eq (n := 1) rfl (by kernel_rfl) (by kernel_rfl) h
theorem w122 {a100 : Int} {a101 : Int} {a200 : Int} {a300 : Int} {m : M} {Q : V → M → Prop} (h :
 (∀ m0 : M, (m0 = (M.new m (AO.cells 2 [(Il a100), (Il a101)] false))) → isPt (C.ptr m.nxt 0) ∧ 
 ∃ x1, ((ldC m0 (C.ptr m.nxt 0)) = (some (Il x1))) ∧ ifB (decide (a200 ≤ x1)) (isPt (C.ptr m.nxt 0) ∧ 
 ∃ x2, ((ldC m0 (C.ptr m.nxt 0)) = (some (Il x2))) ∧ isPt (C.ptr m.nxt 0) ∧ 
 ∃ x3, ((ldC m0 (C.ptr m.nxt 1)) = (some (Il x3))) ∧ ifB (decide (x2 ≤ x3)) (isPt (C.ptr m.nxt 0) ∧ 
 ∃ x4, ((ldC m0 (C.ptr m.nxt 1)) = (some (Il x4))) ∧ Q (V.c (C.bool (decide (x4 ≤ a300)))) m0) (Q (V.c (C.bool false)) m0)) (Q (V.c (C.bool false)) m0))) : Wc prog tbl 122 [(V.agg 2 [(Il a100), (Il a101)]), (V.c (Il a200)), (V.c (Il a300))] m Q :=
 wc_eq (n := 3) rfl (by kernel_rfl) (by kernel_rfl) h
theorem w125 {a100 : Int} {a101 : Int} {m : M} {Q : V → M → Prop} (h :
 (∀ m0 : M, (m0 = (M.new m (AO.cells 2 [(Il a100), (Il a101)] false))) → isPt (C.ptr m.nxt 0) ∧ 
 ∃ x1, ((ldC m0 (C.ptr m.nxt 1)) = (some (Il x1))) ∧ isPt (C.ptr m.nxt 0) ∧ 
 ∃ x2, ((ldC m0 (C.ptr m.nxt 0)) = (some (Il x2))) ∧ fitsP .i64 (x1 - x2) ∧ 
 fitsP .i64 ((x1 - x2) + (1 : Int)) ∧ Q (V.c (Il ((x1 - x2) + (1 : Int)))) m0)) : Wc prog tbl 125 [(V.agg 2 [(Il a100), (Il a101)])] m Q :=
 wc_eq (n := 1) rfl (by kernel_rfl) (by kernel_rfl) h
theorem w136 {a100 : C} {a200 : C} {m : M} {Q : V → M → Prop} (h :
 (isSl a100 ∧ ∀ R0 : List V → M → Prop, (∀ x1 : Int, ∀ x2 : Int, ∀ m3 : M, (ifB (decide (x2 < (((slLen a100) : Nat) : Int))) (∃ n4 : Nat, 
 (x2 = ((n4 : Nat) : Int)) ∧ (n4 < (slLen a100)) ∧ ∃ x5, ∃ x6, ∃ x7, ∃ x8, 
 ((ldA m3 (slAt a100 (n4 * 4)) 4) = (some [(Il x5), (Il x6), 
 (Il x7), (Il x8)])) ∧ callP prog tbl [(V.agg 4 [(Il x5), 
 (Il x6), (Il x7), (Il x8)])] a200 m3 (fun v9 m10 => 
 ∃ b11 : Bool, (v9 = (V.c (C.bool b11))) ∧ ifB b11 (Q (V.c (Il x2)) m10) (fitsP .i64 (x2 + 1) ∧ 
 R0 [(V.c (Il x1)), (V.c (Il (x2 + 1)))] m10))) (Q (V.c (Il (-1 : Int))) m3)) → 
 R0 [(V.c (Il x1)), (V.c (Il x2))] m3) → R0 [(V.c (Il 0)), 
 (V.c (Il 0))] m)) : Wc prog tbl 136 [(V.c a100), (V.c a200)] m Q :=
 wc_eq (n := 2) rfl (by kernel_rfl) (by kernel_rfl) h
end
end Go.Proofs.Ytbnfnhfanooplaa

namespace Go.Proofs.Ytbnfnhfanooplaa
open _root_.Go.Proofs.Try
open Go.Abs
set_option maxRecDepth 100000
noncomputable section
theorem w18 {a100 : Int} {a101 : Int} {a102 : Int} {a103 : Int} {a104 : Int} {a105 : Int} {a106 : Int} {a107 : Int} {a108 : Int} {a109 : Int} {a110 : Int} {a111 : C} {a200 : Int} {a201 : Int} {a202 : Int} {a203 : Int} {m : M} {Q : V → M → Prop} (h :
 (∀ m0 : M, (m0 = (M.new m (AO.cells 12 [(Il a100), (Il a101), (Il a102), 
 (Il a103), (Il a104), (Il a105), (Il a106), 
 (Il a107), (Il a108), (Il a109), (Il a110), 
 a111] false))) → ∀ m1 : M, (m1 = (M.new m0 (AO.cells 4 [(Il a200), (Il a201), 
 (Il a202), (Il a203)] false))) → ∃ x2, ∃ x3, ∃ x4, 
 ∃ x5, ∃ x6, ∃ x7, ∃ x8, ∃ x9, ∃ x10, ∃ x11, ∃ x12, 
 ∃ c13 : C, ((ldA m1 (C.ptr m.nxt 0) 12) = (some [(Il x2), (Il x3), 
 (Il x4), (Il x5), (Il x6), (Il x7), 
 (Il x8), (Il x9), (Il x10), (Il x11), 
 (Il x12), c13])) ∧ ∃ x14, ∃ x15, ∃ x16, ∃ x17, 
 ((ldA m1 (C.ptr m0.nxt 0) 4) = (some [(Il x14), (Il x15), 
 (Il x16), (Il x17)])) ∧ ∀ m18 : M, (m18 = (M.new m1 (AO.cells 4 [(Il x14), 
 (Il x15), (Il x16), (Il x17)] false))) → 
 Wc prog tbl 68 [(V.agg 12 [(Il x2), (Il x3), (Il x4), 
 (Il x5), (Il x6), (Il x7), (Il x8), 
 (Il x9), (Il x10), (Il x11), (Il x12), 
 c13]), (V.c (C.sl m1.nxt 0 1 0 (some 1)))] m18 (fun v19 m20 => ∃ x21, 
 ∃ x22, ∃ x23, ∃ x24, ∃ x25, ∃ x26, ∃ x27, 
 ∃ x28, ∃ x29, ∃ x30, ∃ x31, ∃ c32 : C, ∃ c33 : C, 
 ∃ x34, (v19 = (V.tup [(U.agg 13 [(Il x21), (Il x22), 
 (Il x23), (Il x24), (Il x25), (Il x26), 
 (Il x27), (Il x28), (Il x29), (Il x30), 
 (Il x31), c32, c33]), (U.c (Il x34))])) ∧ ∀ m35 : M, 
 (m35 = (M.new m20 (AO.cells 13 [(Il 0), (Il 0), 
 (Il 0), (Il 0), (Il 0), 
 (Il 0), (Il 0), (Il 0), 
 (Il 0), (Il 0), (Il 0), 
 C.sl0, C.map0] false))) → ∃ m36 : M, ((stC m35 (C.ptr m20.nxt 0) 13 [(Il x21), 
 (Il x22), (Il x23), (Il x24), (Il x25), 
 (Il x26), (Il x27), (Il x28), (Il x29), 
 (Il x30), (Il x31), c32, c33]) = (some m36)) ∧ 
 ifB (!decide (x34 = 0)) (Q (V.tup [(U.c (Il 0)), 
 (U.c (Il x34))]) m36) (∃ x37, ∃ x38, ∃ x39, 
 ∃ x40, ∃ x41, ∃ x42, ∃ x43, ∃ x44, ∃ x45, 
 ∃ x46, ∃ x47, ∃ c48 : C, ∃ c49 : C, ((ldA m36 (C.ptr m20.nxt 0) 13) = (some [(Il x37), 
 (Il x38), (Il x39), (Il x40), (Il x41), 
 (Il x42), (Il x43), (Il x44), (Il x45), 
 (Il x46), (Il x47), c48, c49])) ∧ ∃ x50, 
 ∃ x51, ∃ x52, ∃ x53, ((ldA m36 (C.ptr m0.nxt 0) 4) = (some [(Il x50), 
 (Il x51), (Il x52), (Il x53)])) ∧ 
 Wc prog tbl 69 [(V.agg 13 [(Il x37), (Il x38), 
 (Il x39), (Il x40), (Il x41), (Il x42), 
 (Il x43), (Il x44), (Il x45), (Il x46), 
 (Il x47), c48, c49]), (V.agg 4 [(Il x50), (Il x51), 
 (Il x52), (Il x53)]), (V.c (C.bool false))] m36 (fun v54 m55 => 
 ∃ x56, ∃ x57, ∃ x58, ∃ x59, ∃ b60 : Bool, (v54 = (V.tup [(U.agg 4 [(Il x56), 
 (Il x57), (Il x58), (Il x59)]), 
 (U.c (C.bool b60))])) ∧ ∀ m61 : M, (m61 = (M.new m55 (AO.cells 4 [(Il 0), 
 (Il 0), (Il 0), (Il 0)] false))) → 
 ∃ m62 : M, ((stC m61 (C.ptr m55.nxt 0) 4 [(Il x56), (Il x57), 
 (Il x58), (Il x59)]) = (some m62)) ∧ ifB (!b60) (Q (V.tup [(U.c (Il (1 : Int))), 
 (U.c (Il 0))]) m62) (∃ x63, ∃ x64, ∃ x65, 
 ∃ x66, ∃ x67, ∃ x68, ∃ x69, ∃ x70, ∃ x71, 
 ∃ x72, ∃ x73, ∃ c74 : C, ∃ c75 : C, ((ldA m62 (C.ptr m20.nxt 0) 13) = (some [(Il x63), 
 (Il x64), (Il x65), (Il x66), (Il x67), 
 (Il x68), (Il x69), (Il x70), (Il x71), 
 (Il x72), (Il x73), c74, c75])) ∧ ∃ x76, 
 ∃ x77, ∃ x78, ∃ x79, ((ldA m62 (C.ptr m0.nxt 0) 4) = (some [(Il x76), 
 (Il x77), (Il x78), (Il x79)])) ∧ 
 Wc prog tbl 69 [(V.agg 13 [(Il x63), (Il x64), 
 (Il x65), (Il x66), (Il x67), (Il x68), 
 (Il x69), (Il x70), (Il x71), (Il x72), 
 (Il x73), c74, c75]), (V.agg 4 [(Il x76), (Il x77), 
 (Il x78), (Il x79)]), (V.c (C.bool true))] m62 (fun v80 m81 => 
 ∃ x82, ∃ x83, ∃ x84, ∃ x85, ∃ b86 : Bool, (v80 = (V.tup [(U.agg 4 [(Il x82), 
 (Il x83), (Il x84), (Il x85)]), 
 (U.c (C.bool b86))])) ∧ ∀ m87 : M, (m87 = (M.new m81 (AO.cells 4 [(Il 0), 
 (Il 0), (Il 0), (Il 0)] false))) → 
 ∃ m88 : M, ((stC m87 (C.ptr m81.nxt 0) 4 [(Il x82), (Il x83), 
 (Il x84), (Il x85)]) = (some m88)) ∧ ifB (!b86) (Q (V.tup [(U.c (Il (2 : Int))), 
 (U.c (Il 0))]) m88) (Q (V.tup [(U.c (Il (3 : Int))), 
 (U.c (Il 0))]) m88)))))))) : Wc prog tbl 18 [(V.agg 12 [(Il a100), (Il a101), (Il a102), (Il a103), (Il a104), (Il a105), (Il a106), (Il a107), (Il a108), (Il a109), (Il a110), a111]), (V.agg 4 [(Il a200), (Il a201), (Il a202), (Il a203)])] m Q :=
 wc_eq (n := 2) rfl (by kernel_rfl) (by kernel_rfl) h
theorem w21 {a100 : Int} {a101 : Int} {a102 : Int} {a103 : Int} {a104 : Int} {a105 : Int} {a106 : Int} {a107 : Int} {a108 : Int} {a109 : Int} {a110 : Int} {a111 : C} {a200 : Int} {a201 : Int} {a202 : Int} {a203 : Int} {a300 : Bool} {m : M} {Q : V → M → Prop} (h :
 (∀ m0 : M, (m0 = (M.new m (AO.cells 12 [(Il a100), (Il a101), (Il a102), 
 (Il a103), (Il a104), (Il a105), (Il a106), 
 (Il a107), (Il a108), (Il a109), (Il a110), 
 a111] false))) → ∀ m1 : M, (m1 = (M.new m0 (AO.cells 4 [(Il a200), (Il a201), 
 (Il a202), (Il a203)] false))) → ∀ m2 : M, (m2 = (M.new m1 (AO.cells 4 [(Il 0), 
 (Il 0), (Il 0), (Il 0)] false))) → 
 ∃ x3, ∃ x4, ∃ x5, ∃ x6, ∃ x7, ∃ x8, ∃ x9, ∃ x10, 
 ∃ x11, ∃ x12, ∃ x13, ∃ c14 : C, ((ldA m2 (C.ptr m.nxt 0) 12) = (some [(Il x3), 
 (Il x4), (Il x5), (Il x6), (Il x7), 
 (Il x8), (Il x9), (Il x10), (Il x11), 
 (Il x12), (Il x13), c14])) ∧ ∃ x15, ∃ x16, 
 ∃ x17, ∃ x18, ((ldA m2 (C.ptr m0.nxt 0) 4) = (some [(Il x15), 
 (Il x16), (Il x17), (Il x18)])) ∧ ∀ m19 : M, 
 (m19 = (M.new m2 (AO.cells 4 [(Il x15), (Il x16), (Il x17), 
 (Il x18)] false))) → Wc prog tbl 68 [(V.agg 12 [(Il x3), 
 (Il x4), (Il x5), (Il x6), (Il x7), 
 (Il x8), (Il x9), (Il x10), (Il x11), 
 (Il x12), (Il x13), c14]), (V.c (C.sl m2.nxt 0 1 0 (some 1)))] m19 (fun v20 m21 => 
 ∃ x22, ∃ x23, ∃ x24, ∃ x25, ∃ x26, ∃ x27, 
 ∃ x28, ∃ x29, ∃ x30, ∃ x31, ∃ x32, ∃ c33 : C, 
 ∃ c34 : C, ∃ x35, (v20 = (V.tup [(U.agg 13 [(Il x22), 
 (Il x23), (Il x24), (Il x25), (Il x26), 
 (Il x27), (Il x28), (Il x29), (Il x30), 
 (Il x31), (Il x32), c33, c34]), (U.c (Il x35))])) ∧ 
 ∀ m36 : M, (m36 = (M.new m21 (AO.cells 13 [(Il 0), (Il 0), 
 (Il 0), (Il 0), (Il 0), 
 (Il 0), (Il 0), (Il 0), 
 (Il 0), (Il 0), (Il 0), 
 C.sl0, C.map0] false))) → ∃ m37 : M, ((stC m36 (C.ptr m21.nxt 0) 13 [(Il x22), 
 (Il x23), (Il x24), (Il x25), (Il x26), 
 (Il x27), (Il x28), (Il x29), (Il x30), 
 (Il x31), (Il x32), c33, c34]) = (some m37)) ∧ 
 ifB (!decide (x35 = 0)) (∃ m38 : M, ((stC m37 (C.ptr m1.nxt 0) 4 [(Il 0), 
 (Il 0), (Il 0), (Il 0)]) = (some m38)) ∧ 
 ∃ x39, ∃ x40, ∃ x41, ∃ x42, ((ldA m38 (C.ptr m1.nxt 0) 4) = (some [(Il x39), 
 (Il x40), (Il x41), (Il x42)])) ∧ 
 Q (V.tup [(U.agg 4 [(Il x39), (Il x40), (Il x41), 
 (Il x42)]), (U.c (Il x35))]) m38) (∃ x43, 
 ∃ x44, ∃ x45, ∃ x46, ∃ x47, ∃ x48, ∃ x49, 
 ∃ x50, ∃ x51, ∃ x52, ∃ x53, ∃ c54 : C, ∃ c55 : C, 
 ((ldA m37 (C.ptr m21.nxt 0) 13) = (some [(Il x43), (Il x44), 
 (Il x45), (Il x46), (Il x47), (Il x48), 
 (Il x49), (Il x50), (Il x51), (Il x52), 
 (Il x53), c54, c55])) ∧ ∃ x56, ∃ x57, ∃ x58, 
 ∃ x59, ((ldA m37 (C.ptr m0.nxt 0) 4) = (some [(Il x56), 
 (Il x57), (Il x58), (Il x59)])) ∧ 
 Wc prog tbl 69 [(V.agg 13 [(Il x43), (Il x44), 
 (Il x45), (Il x46), (Il x47), (Il x48), 
 (Il x49), (Il x50), (Il x51), (Il x52), 
 (Il x53), c54, c55]), (V.agg 4 [(Il x56), (Il x57), 
 (Il x58), (Il x59)]), (V.c (C.bool a300))] m37 (fun v60 m61 => 
 ∃ x62, ∃ x63, ∃ x64, ∃ x65, ∃ b66 : Bool, (v60 = (V.tup [(U.agg 4 [(Il x62), 
 (Il x63), (Il x64), (Il x65)]), 
 (U.c (C.bool b66))])) ∧ ∀ m67 : M, (m67 = (M.new m61 (AO.cells 4 [(Il 0), 
 (Il 0), (Il 0), (Il 0)] false))) → 
 ∃ m68 : M, ((stC m67 (C.ptr m61.nxt 0) 4 [(Il x62), (Il x63), 
 (Il x64), (Il x65)]) = (some m68)) ∧ ifB (!b66) (∃ m69 : M, 
 ((stC m68 (C.ptr m1.nxt 0) 4 [(Il 0), (Il 0), 
 (Il 0), (Il 0)]) = (some m69)) ∧ 
 ∃ x70, ∃ x71, ∃ x72, ∃ x73, ((ldA m69 (C.ptr m1.nxt 0) 4) = (some [(Il x70), 
 (Il x71), (Il x72), (Il x73)])) ∧ 
 Q (V.tup [(U.agg 4 [(Il x70), (Il x71), (Il x72), 
 (Il x73)]), (U.c (Il (7 : Int)))]) m69) (∃ x74, 
 ∃ x75, ∃ x76, ∃ x77, ((ldA m68 (C.ptr m61.nxt 0) 4) = (some [(Il x74), 
 (Il x75), (Il x76), (Il x77)])) ∧ 
 ∃ m78 : M, ((stC m68 (C.ptr m1.nxt 0) 4 [(Il x74), (Il x75), 
 (Il x76), (Il x77)]) = (some m78)) ∧ ∃ x79, 
 ∃ x80, ∃ x81, ∃ x82, ((ldA m78 (C.ptr m1.nxt 0) 4) = (some [(Il x79), 
 (Il x80), (Il x81), (Il x82)])) ∧ 
 Q (V.tup [(U.agg 4 [(Il x79), (Il x80), (Il x81), 
 (Il x82)]), (U.c (Il 0))]) m78)))))) : Wc prog tbl 21 [(V.agg 12 [(Il a100), (Il a101), (Il a102), (Il a103), (Il a104), (Il a105), (Il a106), (Il a107), (Il a108), (Il a109), (Il a110), a111]), (V.agg 4 [(Il a200), (Il a201), (Il a202), (Il a203)]), (V.c (C.bool a300))] m Q :=
 wc_eq (n := 3) rfl (by kernel_rfl) (by kernel_rfl) h
theorem w24 {a100 : Int} {a101 : Int} {a102 : Int} {a103 : Int} {a104 : Int} {a105 : Int} {a106 : Int} {a107 : Int} {a108 : Int} {a109 : Int} {a110 : Int} {a111 : C} {a200 : Int} {a201 : Int} {a202 : Int} {a203 : Int} {m : M} {Q : V → M → Prop} (h :
 (∀ m0 : M, (m0 = (M.new m (AO.cells 12 [(Il a100), (Il a101), (Il a102), 
 (Il a103), (Il a104), (Il a105), (Il a106), 
 (Il a107), (Il a108), (Il a109), (Il a110), 
 a111] false))) → ∀ m1 : M, (m1 = (M.new m0 (AO.cells 4 [(Il a200), (Il a201), 
 (Il a202), (Il a203)] false))) → isPt (C.ptr m0.nxt 0) ∧ ∃ x2, 
 ∃ x3, ((ldA m1 (C.ptr m0.nxt 0) 2) = (some [(Il x2), (Il x3)])) ∧ 
 isPt (C.ptr m.nxt 0) ∧ ∃ x4, ((ldC m1 (C.ptr m.nxt 0)) = (some (Il x4))) ∧ 
 fitsP .i64 (x4 - 1) ∧ Wc prog tbl 70 [(V.agg 2 [(Il x2), (Il x3)]), 
 (V.c (Il 0)), (V.c (Il (x4 - 1)))] m1 (fun v5 m6 => 
 ∃ b7 : Bool, (v5 = (V.c (C.bool b7))) ∧ ifB b7 (isPt (C.ptr m0.nxt 0) ∧ ∃ x8, ∃ x9, 
 ((ldA m6 (C.ptr m0.nxt 2) 2) = (some [(Il x8), (Il x9)])) ∧ 
 isPt (C.ptr m.nxt 0) ∧ ∃ x10, ((ldC m6 (C.ptr m.nxt 1)) = (some (Il x10))) ∧ 
 fitsP .i64 (x10 - 1) ∧ Wc prog tbl 70 [(V.agg 2 [(Il x8), 
 (Il x9)]), (V.c (Il 0)), (V.c (Il (x10 - 1)))] m6 (fun v11 m12 => 
 ∃ b13 : Bool, (v11 = (V.c (C.bool b13))) ∧ Q (V.c (C.bool b13)) m12)) (Q (V.c (C.bool false)) m6)))) : Wc prog tbl 24 [(V.agg 12 [(Il a100), (Il a101), (Il a102), (Il a103), (Il a104), (Il a105), (Il a106), (Il a107), (Il a108), (Il a109), (Il a110), a111]), (V.agg 4 [(Il a200), (Il a201), (Il a202), (Il a203)])] m Q :=
 wc_eq (n := 2) rfl (by kernel_rfl) (by kernel_rfl) h
theorem w27 {a100 : Int} {a101 : Int} {a102 : Int} {a103 : Int} {a104 : Int} {a105 : Int} {a106 : Int} {a107 : Int} {a108 : Int} {a109 : Int} {a110 : Int} {a111 : C} {a200 : Int} {a201 : Int} {a202 : Int} {a203 : Int} {m : M} {Q : V → M → Prop} (h :
 (∀ m0 : M, (m0 = (M.new m (AO.cells 12 [(Il a100), (Il a101), (Il a102), 
 (Il a103), (Il a104), (Il a105), (Il a106), 
 (Il a107), (Il a108), (Il a109), (Il a110), 
 a111] false))) → ∀ m1 : M, (m1 = (M.new m0 (AO.cells 4 [(Il a200), (Il a201), 
 (Il a202), (Il a203)] false))) → isPt (C.ptr m0.nxt 0) ∧ ∃ x2, 
 ((ldC m1 (C.ptr m0.nxt 0)) = (some (Il x2))) ∧ isPt (C.ptr m.nxt 0) ∧ isPt (C.ptr m.nxt 3) ∧ 
 ∃ x3, ((ldC m1 (C.ptr m.nxt 3)) = (some (Il x3))) ∧ isPt (C.ptr m.nxt 0) ∧ 
 isPt (C.ptr m.nxt 3) ∧ ∃ x4, ((ldC m1 (C.ptr m.nxt 4)) = (some (Il x4))) ∧ 
 Wc prog tbl 31 [(V.c (Il x2)), (V.c (Il x3)), (V.c (Il x4))] m1 (fun v5 m6 => 
 ∃ b7 : Bool, (v5 = (V.c (C.bool b7))) ∧ ifB (!b7) (Q (V.c (C.bool false)) m6) (isPt (C.ptr m0.nxt 0) ∧ 
 ∃ x8, ((ldC m6 (C.ptr m0.nxt 1)) = (some (Il x8))) ∧ isPt (C.ptr m.nxt 0) ∧ 
 isPt (C.ptr m.nxt 5) ∧ ∃ x9, ((ldC m6 (C.ptr m.nxt 5)) = (some (Il x9))) ∧ 
 isPt (C.ptr m.nxt 0) ∧ isPt (C.ptr m.nxt 5) ∧ ∃ x10, ((ldC m6 (C.ptr m.nxt 6)) = (some (Il x10))) ∧ 
 Wc prog tbl 31 [(V.c (Il x8)), (V.c (Il x9)), 
 (V.c (Il x10))] m6 (fun v11 m12 => ∃ b13 : Bool, (v11 = (V.c (C.bool b13))) ∧ 
 ifB (!b13) (Q (V.c (C.bool false)) m12) (isPt (C.ptr m0.nxt 0) ∧ ∃ x14, 
 ((ldC m12 (C.ptr m0.nxt 2)) = (some (Il x14))) ∧ isPt (C.ptr m.nxt 0) ∧ 
 isPt (C.ptr m.nxt 7) ∧ ∃ x15, ((ldC m12 (C.ptr m.nxt 7)) = (some (Il x15))) ∧ 
 isPt (C.ptr m.nxt 0) ∧ isPt (C.ptr m.nxt 7) ∧ ∃ x16, ((ldC m12 (C.ptr m.nxt 8)) = (some (Il x16))) ∧ 
 Wc prog tbl 31 [(V.c (Il x14)), (V.c (Il x15)), 
 (V.c (Il x16))] m12 (fun v17 m18 => ∃ b19 : Bool, (v17 = (V.c (C.bool b19))) ∧ 
 ifB (!b19) (Q (V.c (C.bool false)) m18) (isPt (C.ptr m0.nxt 0) ∧ ∃ x20, 
 ((ldC m18 (C.ptr m0.nxt 3)) = (some (Il x20))) ∧ isPt (C.ptr m.nxt 0) ∧ 
 isPt (C.ptr m.nxt 9) ∧ ∃ x21, ((ldC m18 (C.ptr m.nxt 9)) = (some (Il x21))) ∧ 
 isPt (C.ptr m.nxt 0) ∧ isPt (C.ptr m.nxt 9) ∧ ∃ x22, ((ldC m18 (C.ptr m.nxt 10)) = (some (Il x22))) ∧ 
 Wc prog tbl 31 [(V.c (Il x20)), (V.c (Il x21)), 
 (V.c (Il x22))] m18 (fun v23 m24 => ∃ b25 : Bool, (v23 = (V.c (C.bool b25))) ∧ 
 ifB (!b25) (Q (V.c (C.bool false)) m24) (∀ R26 : List V → M → Prop, (∀ b27 : Bool, 
 ∀ x28 : Int, ∀ m29 : M, (isPt (C.ptr m.nxt 0) ∧ ∃ c30 : C, ((ldC m29 (C.ptr m.nxt 11)) = (some c30)) ∧ 
 isSl c30 ∧ ifB (decide (x28 < (((slLen c30) : Nat) : Int))) (∃ x31, ∃ x32, 
 ∃ x33, ∃ x34, ∃ x35, ∃ x36, ∃ x37, ∃ x38, 
 ∃ x39, ∃ x40, ∃ x41, ∃ c42 : C, ((ldA m29 (C.ptr m.nxt 0) 12) = (some [(Il x31), 
 (Il x32), (Il x33), (Il x34), (Il x35), 
 (Il x36), (Il x37), (Il x38), (Il x39), 
 (Il x40), (Il x41), c42])) ∧ ∃ x43, ∃ x44, 
 ∃ x45, ∃ x46, ((ldA m29 (C.ptr m0.nxt 0) 4) = (some [(Il x43), 
 (Il x44), (Il x45), (Il x46)])) ∧ 
 isPt (C.ptr m.nxt 0) ∧ ∃ c47 : C, ((ldC m29 (C.ptr m.nxt 11)) = (some c47)) ∧ 
 ∃ n48 : Nat, (x28 = ((n48 : Nat) : Int)) ∧ (n48 < (slLen c47)) ∧ ∃ x49, 
 ∃ x50, ∃ x51, ∃ x52, ∃ b53 : Bool, ∃ x54, ∃ x55, 
 ((ldA m29 (slAt c47 (n48 * 7)) 7) = (some [(Il x49), (Il x50), 
 (Il x51), (Il x52), (C.bool b53), (Il x54), 
 (Il x55)])) ∧ Wc prog tbl 72 [(V.agg 12 [(Il x31), 
 (Il x32), (Il x33), (Il x34), (Il x35), 
 (Il x36), (Il x37), (Il x38), (Il x39), 
 (Il x40), (Il x41), c42]), (V.agg 4 [(Il x43), 
 (Il x44), (Il x45), (Il x46)]), 
 (V.agg 7 [(Il x49), (Il x50), (Il x51), 
 (Il x52), (C.bool b53), (Il x54), (Il x55)])] m29 (fun v56 m57 => 
 ∃ b58 : Bool, (v56 = (V.c (C.bool b58))) ∧ ifB (!b58) (Q (V.c (C.bool false)) m57) (fitsP .i64 (x28 + 1) ∧ 
 R26 [(V.c (C.bool b27)), (V.c (Il (x28 + 1)))] m57))) (Q (V.c (C.bool true)) m29)) → 
 R26 [(V.c (C.bool b27)), (V.c (Il x28))] m29) → R26 [(V.c (C.bool false)), 
 (V.c (Il 0))] m24)))))))))) : Wc prog tbl 27 [(V.agg 12 [(Il a100), (Il a101), (Il a102), (Il a103), (Il a104), (Il a105), (Il a106), (Il a107), (Il a108), (Il a109), (Il a110), a111]), (V.agg 4 [(Il a200), (Il a201), (Il a202), (Il a203)])] m Q :=
 wc_eq (n := 2) rfl (by kernel_rfl) (by kernel_rfl) h
theorem w48 {a100 : Int} {a101 : Int} {a102 : Int} {a103 : Int} {a104 : Int} {a105 : Int} {a106 : Int} {a107 : Int} {a108 : Int} {a109 : Int} {a110 : Int} {a111 : C} {m : M} {Q : V → M → Prop} (h :
 (∀ m0 : M, (m0 = (M.new m (AO.cells 12 [(Il a100), (Il a101), (Il a102), 
 (Il a103), (Il a104), (Il a105), (Il a106), 
 (Il a107), (Il a108), (Il a109), (Il a110), 
 a111] false))) → ∃ x1, ∃ x2, ∃ x3, ∃ x4, ∃ x5, ∃ x6, ∃ x7, 
 ∃ x8, ∃ x9, ∃ x10, ∃ x11, ∃ c12 : C, ((ldA m0 (C.ptr m.nxt 0) 12) = (some [(Il x1), 
 (Il x2), (Il x3), (Il x4), (Il x5), 
 (Il x6), (Il x7), (Il x8), (Il x9), 
 (Il x10), (Il x11), c12])) ∧ Wc prog tbl 98 [(V.agg 12 [(Il x1), 
 (Il x2), (Il x3), (Il x4), (Il x5), 
 (Il x6), (Il x7), (Il x8), (Il x9), 
 (Il x10), (Il x11), c12])] m0 (fun v13 m14 => ∃ b15 : Bool, 
 (v13 = (V.c (C.bool b15))) ∧ ifB b15 (Q (V.c (Il (3 : Int))) m14) (∃ x16, 
 ∃ x17, ∃ x18, ∃ x19, ∃ x20, ∃ x21, ∃ x22, ∃ x23, 
 ∃ x24, ∃ x25, ∃ x26, ∃ c27 : C, ((ldA m14 (C.ptr m.nxt 0) 12) = (some [(Il x16), 
 (Il x17), (Il x18), (Il x19), (Il x20), 
 (Il x21), (Il x22), (Il x23), (Il x24), 
 (Il x25), (Il x26), c27])) ∧ Wc prog tbl 99 [(V.agg 13 [(Il x16), 
 (Il x17), (Il x18), (Il x19), (Il x20), 
 (Il x21), (Il x22), (Il x23), (Il x24), 
 (Il x25), (Il x26), c27, C.map0])] m14 (fun v28 m29 => 
 ∃ b30 : Bool, (v28 = (V.c (C.bool b30))) ∧ ifB (!b30) (Q (V.c (Il (1 : Int))) m29) (∃ x31, 
 ∃ x32, ∃ x33, ∃ x34, ∃ x35, ∃ x36, ∃ x37, 
 ∃ x38, ∃ x39, ∃ x40, ∃ x41, ∃ c42 : C, ((ldA m29 (C.ptr m.nxt 0) 12) = (some [(Il x31), 
 (Il x32), (Il x33), (Il x34), (Il x35), 
 (Il x36), (Il x37), (Il x38), (Il x39), 
 (Il x40), (Il x41), c42])) ∧ Wc prog tbl 100 [(V.agg 12 [(Il x31), 
 (Il x32), (Il x33), (Il x34), (Il x35), 
 (Il x36), (Il x37), (Il x38), (Il x39), 
 (Il x40), (Il x41), c42])] m29 (fun v43 m44 => 
 ∃ x45, (v43 = (V.c (Il x45))) ∧ ifB (decide ((2000 : Int) < x45)) (Q (V.c (Il (3 : Int))) m44) (Q (V.c (Il 0)) m44)))))))) : Wc prog tbl 48 [(V.agg 12 [(Il a100), (Il a101), (Il a102), (Il a103), (Il a104), (Il a105), (Il a106), (Il a107), (Il a108), (Il a109), (Il a110), a111])] m Q :=
 wc_eq (n := 1) rfl (by kernel_rfl) (by kernel_rfl) h
theorem w54 {a100 : Int} {a101 : Int} {a102 : Int} {a103 : Int} {a104 : Int} {a105 : Int} {a106 : Int} {a107 : Int} {a108 : Int} {a109 : Int} {a110 : Int} {a111 : C} {a200 : Int} {a201 : Int} {a202 : Int} {a203 : Int} {a300 : Int} {a400 : Int} {m : M} {Q : V → M → Prop} (h :
 (∀ m0 : M, (m0 = (M.new m (AO.cells 12 [(Il a100), (Il a101), (Il a102), 
 (Il a103), (Il a104), (Il a105), (Il a106), 
 (Il a107), (Il a108), (Il a109), (Il a110), 
 a111] false))) → ∀ m1 : M, (m1 = (M.new m0 (AO.cells 4 [(Il a200), (Il a201), 
 (Il a202), (Il a203)] false))) → ∃ x2, ∃ x3, ∃ x4, 
 ∃ x5, ∃ x6, ∃ x7, ∃ x8, ∃ x9, ∃ x10, ∃ x11, ∃ x12, 
 ∃ c13 : C, ((ldA m1 (C.ptr m.nxt 0) 12) = (some [(Il x2), (Il x3), 
 (Il x4), (Il x5), (Il x6), (Il x7), 
 (Il x8), (Il x9), (Il x10), (Il x11), 
 (Il x12), c13])) ∧ ∃ x14, ∃ x15, ∃ x16, ∃ x17, 
 ((ldA m1 (C.ptr m0.nxt 0) 4) = (some [(Il x14), (Il x15), 
 (Il x16), (Il x17)])) ∧ Wc prog tbl 71 [(V.agg 12 [(Il x2), 
 (Il x3), (Il x4), (Il x5), (Il x6), 
 (Il x7), (Il x8), (Il x9), (Il x10), 
 (Il x11), (Il x12), c13]), (V.agg 4 [(Il x14), 
 (Il x15), (Il x16), (Il x17)]), (V.c (Il a300)), 
 (V.c (Il a400))] m1 (fun v18 m19 => ∃ b20 : Bool, (v18 = (V.c (C.bool b20))) ∧ 
 ifB (!b20) (Q (V.c (Il 0)) m19) (isPt (C.ptr m0.nxt 0) ∧ 
 ∃ x21, ((ldC m19 (C.ptr m0.nxt 3)) = (some (Il x21))) ∧ 
 isPt (C.ptr m.nxt 0) ∧ ∃ x22, ((ldC m19 (C.ptr m.nxt 2)) = (some (Il x22))) ∧ 
 ∃ x23, ∃ x24, ∃ x25, ∃ x26, ∃ x27, ∃ x28, 
 ∃ x29, ∃ x30, ∃ x31, ∃ x32, ∃ x33, ∃ c34 : C, 
 ((ldA m19 (C.ptr m.nxt 0) 12) = (some [(Il x23), (Il x24), 
 (Il x25), (Il x26), (Il x27), (Il x28), 
 (Il x29), (Il x30), (Il x31), (Il x32), 
 (Il x33), c34])) ∧ ∃ x35, ∃ x36, ∃ x37, ∃ x38, 
 ((ldA m19 (C.ptr m0.nxt 0) 4) = (some [(Il x35), (Il x36), 
 (Il x37), (Il x38)])) ∧ Wc prog tbl 102 [(V.agg 12 [(Il x23), 
 (Il x24), (Il x25), (Il x26), (Il x27), 
 (Il x28), (Il x29), (Il x30), (Il x31), 
 (Il x32), (Il x33), c34]), (V.agg 4 [(Il x35), 
 (Il x36), (Il x37), (Il x38)]), 
 (V.c (Il a300)), (V.c (Il a400))] m19 (fun v39 m40 => 
 ∃ x41, (v39 = (V.c (Il x41))) ∧ ((ldC m40 (C.ptr m.nxt 2)) = (some (Il x22))) ∧ 
 ((ldC m40 (C.ptr m0.nxt 3)) = (some (Il x21))) ∧ isPt (C.ptr m.nxt 0) ∧ 
 ∃ x42, ((ldC m40 (C.ptr m.nxt 0)) = (some (Il x42))) ∧ 
 ((ldC m19 (C.ptr m.nxt 0)) = (some (Il x42))) ∧ fitsP .i64 (x42 - 1) ∧ 
 ((0 : Int) ≤ x41) ∧ ((0 : Int) < (x42 - 1)) ∧ fitsP .i64 (x41 / (x42 - 1)) ∧ 
 ((0 : Int) ≤ x22) ∧ ((0 : Int) ≤ (x41 / (x42 - 1))) ∧ fitsP .i64 (x22 * (x41 / (x42 - 1))) ∧ 
 fitsP .i64 (x21 - (x22 * (x41 / (x42 - 1)))) ∧ Q (V.c (Il (Max.max (1 : Int) (x21 - (x22 * (x41 / (x42 - 1))))))) m40))))) : Wc prog tbl 54 [(V.agg 12 [(Il a100), (Il a101), (Il a102), (Il a103), (Il a104), (Il a105), (Il a106), (Il a107), (Il a108), (Il a109), (Il a110), a111]), (V.agg 4 [(Il a200), (Il a201), (Il a202), (Il a203)]), (V.c (Il a300)), (V.c (Il a400))] m Q :=
 wc_eq (n := 4) rfl (by kernel_rfl) (by kernel_rfl) h
theorem w63 {a100 : Int} {a101 : Int} {a102 : Int} {a103 : Int} {a104 : Int} {a105 : Int} {a106 : Int} {a107 : Int} {a108 : Int} {a109 : Int} {a110 : Int} {a111 : C} {m : M} {Q : V → M → Prop} (h :
 (∀ m0 : M, (m0 = (M.new m (AO.cells 12 [(Il a100), (Il a101), (Il a102), 
 (Il a103), (Il a104), (Il a105), (Il a106), 
 (Il a107), (Il a108), (Il a109), (Il a110), 
 a111] false))) → ∃ x1, ∃ x2, ∃ x3, ∃ x4, ∃ x5, ∃ x6, ∃ x7, 
 ∃ x8, ∃ x9, ∃ x10, ∃ x11, ∃ c12 : C, ((ldA m0 (C.ptr m.nxt 0) 12) = (some [(Il x1), 
 (Il x2), (Il x3), (Il x4), (Il x5), 
 (Il x6), (Il x7), (Il x8), (Il x9), 
 (Il x10), (Il x11), c12])) ∧ Wc prog tbl 38 [(V.agg 12 [(Il x1), 
 (Il x2), (Il x3), (Il x4), (Il x5), 
 (Il x6), (Il x7), (Il x8), (Il x9), 
 (Il x10), (Il x11), c12])] m0 (fun v13 m14 => ∃ c15 : C, 
 (v13 = (V.c c15)) ∧ ∀ R16 : List V → M → Prop, (∀ c17 : C, ∀ x18 : Int, ∀ m19 : M, (isSl c15 ∧ 
 ifB (decide (x18 < (((slLen c15) : Nat) : Int))) (∃ n20 : Nat, (x18 = ((n20 : Nat) : Int)) ∧ 
 (n20 < (slLen c15)) ∧ ∃ x21, ((ldC m19 (slAt c15 (n20 * 1))) = (some (Il x21))) ∧ 
 ∃ x22, ∃ x23, ∃ x24, ∃ x25, ∃ x26, ∃ x27, 
 ∃ x28, ∃ x29, ∃ x30, ∃ x31, ∃ x32, ∃ c33 : C, 
 ((ldA m19 (C.ptr m.nxt 0) 12) = (some [(Il x22), (Il x23), 
 (Il x24), (Il x25), (Il x26), (Il x27), 
 (Il x28), (Il x29), (Il x30), (Il x31), 
 (Il x32), c33])) ∧ Wc prog tbl 58 [(V.agg 12 [(Il x22), 
 (Il x23), (Il x24), (Il x25), (Il x26), 
 (Il x27), (Il x28), (Il x29), (Il x30), 
 (Il x31), (Il x32), c33])] m19 (fun v34 m35 => 
 ∃ x36, (v34 = (V.c (Il x36))) ∧ ((ldC m35 (slAt c15 (n20 * 1))) = (some (Il x21))) ∧ 
 ifB (decide (x21 = x36)) (∃ x37, ∃ x38, ∃ x39, ∃ x40, 
 ∃ x41, ∃ x42, ∃ x43, ∃ x44, ∃ x45, ∃ x46, 
 ∃ x47, ∃ c48 : C, ((ldA m35 (C.ptr m.nxt 0) 12) = (some [(Il x37), 
 (Il x38), (Il x39), (Il x40), (Il x41), 
 (Il x42), (Il x43), (Il x44), (Il x45), 
 (Il x46), (Il x47), c48])) ∧ Wc prog tbl 88 [(V.agg 12 [(Il x37), 
 (Il x38), (Il x39), (Il x40), (Il x41), 
 (Il x42), (Il x43), (Il x44), (Il x45), 
 (Il x46), (Il x47), c48]), (V.c (Il x18))] m35 (fun v49 m50 => 
 ∃ x51, ∃ x52, ∃ x53, ∃ x54, (v49 = (V.agg 4 [(Il x51), 
 (Il x52), (Il x53), (Il x54)])) ∧ 
 ∀ m55 : M, (m55 = (M.new m50 (AO.cells 4 [(Il x51), (Il x52), 
 (Il x53), (Il x54)] false))) → ∃ c56 : C, ∃ m57 : M, 
 (ApR prog 46 m55 c17 (C.sl m50.nxt 0 1 0 (some 1)) c56 m57) ∧ fitsP .i64 (x18 + 1) ∧ 
 R16 [(V.c c56), (V.c (Il (x18 + 1)))] m57)) (fitsP .i64 (x18 + 1) ∧ 
 R16 [(V.c c17), (V.c (Il (x18 + 1)))] m35))) (Q (V.c c17) m19)) → 
 R16 [(V.c c17), (V.c (Il x18))] m19) → R16 [(V.c C.sl0), (V.c (Il 0))] m14))) : Wc prog tbl 63 [(V.agg 12 [(Il a100), (Il a101), (Il a102), (Il a103), (Il a104), (Il a105), (Il a106), (Il a107), (Il a108), (Il a109), (Il a110), a111])] m Q :=
 wc_eq (n := 1) rfl (by kernel_rfl) (by kernel_rfl) h
theorem w66 {a100 : Int} {a101 : Int} {a102 : Int} {a103 : Int} {a104 : Int} {a105 : Int} {a106 : Int} {a107 : Int} {a108 : Int} {a109 : Int} {a110 : Int} {a111 : C} {m : M} {Q : V → M → Prop} (h :
 (∀ m0 : M, (m0 = (M.new m (AO.cells 12 [(Il a100), (Il a101), (Il a102), 
 (Il a103), (Il a104), (Il a105), (Il a106), 
 (Il a107), (Il a108), (Il a109), (Il a110), 
 a111] false))) → isPt (C.ptr m.nxt 0) ∧ ∃ x1, ((ldC m0 (C.ptr m.nxt 0)) = (some (Il x1))) ∧ 
 ifB (decide ((12 : Int) < x1)) (Q (V.c (Il (3 : Int))) m0) (isPt (C.ptr m.nxt 0) ∧ ∃ x2, 
 ((ldC m0 (C.ptr m.nxt 1)) = (some (Il x2))) ∧ ifB (decide ((12 : Int) < x2)) (Q (V.c (Il (3 : Int))) m0) (isPt (C.ptr m.nxt 0) ∧ 
 ∃ c3 : C, ((ldC m0 (C.ptr m.nxt 11)) = (some c3)) ∧ isSl c3 ∧ ifB (decide ((6 : Int) < (((slLen c3) : Nat) : Int))) (Q (V.c (Il (3 : Int))) m0) (isPt (C.ptr m.nxt 0) ∧ 
 ∃ x4, ((ldC m0 (C.ptr m.nxt 0)) = (some (Il x4))) ∧ ifB (decide (x4 < 2)) (Q (V.c (Il (1 : Int))) m0) (isPt (C.ptr m.nxt 0) ∧ 
 ∃ x5, ((ldC m0 (C.ptr m.nxt 1)) = (some (Il x5))) ∧ ifB (decide (x5 < 1)) (Q (V.c (Il (1 : Int))) m0) (isPt (C.ptr m.nxt 0) ∧ 
 ∃ x6, ((ldC m0 (C.ptr m.nxt 2)) = (some (Il x6))) ∧ 
 Wc prog tbl 31 [(V.c (Il x6)), (V.c (Il 0)), 
 (V.c (Il (4 : Int)))] m0 (fun v7 m8 => ∃ b9 : Bool, (v7 = (V.c (C.bool b9))) ∧ 
 ifB (!b9) (Q (V.c (Il (1 : Int))) m8) (isPt (C.ptr m.nxt 0) ∧ 
 ∃ x10, ∃ x11, ((ldA m8 (C.ptr m.nxt 3) 2) = (some [(Il x10), 
 (Il x11)])) ∧ isPt (C.ptr m.nxt 0) ∧ ∃ x12, ((ldC m8 (C.ptr m.nxt 1)) = (some (Il x12))) ∧ 
 fitsP .i64 (x12 - 1) ∧ Wc prog tbl 70 [(V.agg 2 [(Il x10), 
 (Il x11)]), (V.c (Il 0)), (V.c (Il (x12 - 1)))] m8 (fun v13 m14 => 
 ∃ b15 : Bool, (v13 = (V.c (C.bool b15))) ∧ ifB (!b15) (Q (V.c (Il (1 : Int))) m14) (isPt (C.ptr m.nxt 0) ∧ 
 ∃ x16, ∃ x17, ((ldA m14 (C.ptr m.nxt 5) 2) = (some [(Il x16), 
 (Il x17)])) ∧ isPt (C.ptr m.nxt 0) ∧ ∃ x18, ((ldC m14 (C.ptr m.nxt 1)) = (some (Il x18))) ∧ 
 fitsP .i64 (x18 - 1) ∧ Wc prog tbl 70 [(V.agg 2 [(Il x16), 
 (Il x17)]), (V.c (Il 0)), (V.c (Il (x18 - 1)))] m14 (fun v19 m20 => 
 ∃ b21 : Bool, (v19 = (V.c (C.bool b21))) ∧ ifB (!b21) (Q (V.c (Il (1 : Int))) m20) (isPt (C.ptr m.nxt 0) ∧ 
 ∃ x22, ∃ x23, ((ldA m20 (C.ptr m.nxt 7) 2) = (some [(Il x22), 
 (Il x23)])) ∧ Wc prog tbl 70 [(V.agg 2 [(Il x22), 
 (Il x23)]), (V.c (Il 0)), (V.c (Il (3 : Int)))] m20 (fun v24 m25 => 
 ∃ b26 : Bool, (v24 = (V.c (C.bool b26))) ∧ ifB (!b26) (Q (V.c (Il (1 : Int))) m25) (isPt (C.ptr m.nxt 0) ∧ 
 ∃ x27, ∃ x28, ((ldA m25 (C.ptr m.nxt 9) 2) = (some [(Il x27), 
 (Il x28)])) ∧ Wc prog tbl 70 [(V.agg 2 [(Il x27), 
 (Il x28)]), (V.c (Il (1 : Int))), (V.c (Il (9 : Int)))] m25 (fun v29 m30 => 
 ∃ b31 : Bool, (v29 = (V.c (C.bool b31))) ∧ ifB (!b31) (Q (V.c (Il (1 : Int))) m30) (∀ R32 : List V → 
 M → Prop, (∀ x33 : Int, ∀ x34 : Int, ∀ m35 : M, (isPt (C.ptr m.nxt 0) ∧ 
 ∃ c36 : C, ((ldC m35 (C.ptr m.nxt 11)) = (some c36)) ∧ isSl c36 ∧ 
 ifB (decide (x34 < (((slLen c36) : Nat) : Int))) (∃ x37, ∃ x38, 
 ∃ x39, ∃ x40, ∃ x41, ∃ x42, ∃ x43, ∃ x44, 
 ∃ x45, ∃ x46, ∃ x47, ∃ c48 : C, ((ldA m35 (C.ptr m.nxt 0) 12) = (some [(Il x37), 
 (Il x38), (Il x39), (Il x40), (Il x41), 
 (Il x42), (Il x43), (Il x44), (Il x45), 
 (Il x46), (Il x47), c48])) ∧ isPt (C.ptr m.nxt 0) ∧ 
 ∃ c49 : C, ((ldC m35 (C.ptr m.nxt 11)) = (some c49)) ∧ ∃ n50 : Nat, 
 (x34 = ((n50 : Nat) : Int)) ∧ (n50 < (slLen c49)) ∧ ∃ x51, ∃ x52, 
 ∃ x53, ∃ x54, ∃ b55 : Bool, ∃ x56, ∃ x57, ((ldA m35 (slAt c49 (n50 * 7)) 7) = (some [(Il x51), 
 (Il x52), (Il x53), (Il x54), (C.bool b55), 
 (Il x56), (Il x57)])) ∧ Wc prog tbl 105 [(V.agg 12 [(Il x37), 
 (Il x38), (Il x39), (Il x40), (Il x41), 
 (Il x42), (Il x43), (Il x44), (Il x45), 
 (Il x46), (Il x47), c48]), (V.agg 7 [(Il x51), 
 (Il x52), (Il x53), (Il x54), (C.bool b55), 
 (Il x56), (Il x57)])] m35 (fun v58 m59 => ∃ b60 : Bool, 
 (v58 = (V.c (C.bool b60))) ∧ ifB (!b60) (Q (V.c (Il (1 : Int))) m59) (fitsP .i64 (x34 + 1) ∧ 
 R32 [(V.c (Il x33)), (V.c (Il (x34 + 1)))] m59))) (∃ x61, 
 ∃ x62, ∃ x63, ∃ x64, ∃ x65, ∃ x66, ∃ x67, 
 ∃ x68, ∃ x69, ∃ x70, ∃ x71, ∃ c72 : C, ((ldA m35 (C.ptr m.nxt 0) 12) = (some [(Il x61), 
 (Il x62), (Il x63), (Il x64), (Il x65), 
 (Il x66), (Il x67), (Il x68), (Il x69), 
 (Il x70), (Il x71), c72])) ∧ Wc prog tbl 67 [(V.agg 12 [(Il x61), 
 (Il x62), (Il x63), (Il x64), (Il x65), 
 (Il x66), (Il x67), (Il x68), (Il x69), 
 (Il x70), (Il x71), c72])] m35 (fun v73 m74 => 
 ∃ x75, (v73 = (V.c (Il x75))) ∧ ifB (decide ((2000 : Int) < x75)) (Q (V.c (Il (3 : Int))) m74) (Q (V.c (Il 0)) m74)))) → 
 R32 [(V.c (Il x33)), (V.c (Il x34))] m35) → 
 R32 [(V.c (Il 0)), (V.c (Il 0))] m30))))))))))))))))) : Wc prog tbl 66 [(V.agg 12 [(Il a100), (Il a101), (Il a102), (Il a103), (Il a104), (Il a105), (Il a106), (Il a107), (Il a108), (Il a109), (Il a110), a111])] m Q :=
 wc_eq (n := 1) rfl (by kernel_rfl) (by kernel_rfl) h
theorem w69 {a100 : Int} {a101 : Int} {a102 : Int} {a103 : Int} {a104 : Int} {a105 : Int} {a106 : Int} {a107 : Int} {a108 : Int} {a109 : Int} {a110 : Int} {a111 : C} {a112 : C} {a200 : Int} {a201 : Int} {a202 : Int} {a203 : Int} {a300 : Bool} {m : M} {Q : V → M → Prop} (h :
 (∀ m0 : M, (m0 = (M.new m (AO.cells 13 [(Il a100), (Il a101), (Il a102), 
 (Il a103), (Il a104), (Il a105), (Il a106), 
 (Il a107), (Il a108), (Il a109), (Il a110), 
 a111, a112] false))) → ∀ m1 : M, (m1 = (M.new m0 (AO.cells 4 [(Il a200), (Il a201), 
 (Il a202), (Il a203)] false))) → ∀ m2 : M, (m2 = (M.new m1 (AO.cells 1 [(C.bool a300)] false))) → 
 ∀ m3 : M, (m3 = (M.new m2 (AO.cells 4 [(Il 0), (Il 0), 
 (Il 0), (Il 0)] false))) → ∀ m4 : M, (m4 = (M.new m3 (AO.cells 1 [(C.bool false)] false))) → 
 ∃ x5, ∃ x6, ∃ x7, ∃ x8, ∃ x9, ∃ x10, ∃ x11, ∃ x12, 
 ∃ x13, ∃ x14, ∃ x15, ∃ c16 : C, ∃ c17 : C, ((ldA m4 (C.ptr m.nxt 0) 13) = (some [(Il x5), 
 (Il x6), (Il x7), (Il x8), (Il x9), 
 (Il x10), (Il x11), (Il x12), (Il x13), 
 (Il x14), (Il x15), c16, c17])) ∧ Wc prog tbl 108 [(V.agg 13 [(Il x5), 
 (Il x6), (Il x7), (Il x8), (Il x9), 
 (Il x10), (Il x11), (Il x12), (Il x13), 
 (Il x14), (Il x15), c16, c17])] m4 (fun v18 m19 => 
 ∃ c20 : C, (v18 = (V.c c20)) ∧ rangeP prog tbl c20 m19 (fun l21 m22 R23 R24 => 
 ∃ x25, ∃ x26, ∃ x27, ∃ x28, (l21 = [(V.agg 4 [(Il x25), 
 (Il x26), (Il x27), (Il x28)])]) ∧ 
 ∀ m29 : M, (m29 = (M.new m22 (AO.cells 4 [(Il 0), (Il 0), 
 (Il 0), (Il 0)] false))) → ∃ m30 : M, 
 ((stC m29 (C.ptr m22.nxt 0) 4 [(Il x25), (Il x26), 
 (Il x27), (Il x28)]) = (some m30)) ∧ R23 m30 (fun m31 => 
 isPt (C.ptr m.nxt 0) ∧ ∃ x32, ∃ x33, ∃ x34, ∃ x35, 
 ∃ x36, ∃ x37, ∃ x38, ∃ x39, ∃ x40, ∃ x41, 
 ∃ x42, ∃ c43 : C, ((ldA m31 (C.ptr m.nxt 0) 12) = (some [(Il x32), 
 (Il x33), (Il x34), (Il x35), (Il x36), 
 (Il x37), (Il x38), (Il x39), (Il x40), 
 (Il x41), (Il x42), c43])) ∧ ∃ x44, ∃ x45, 
 ∃ x46, ∃ x47, ((ldA m31 (C.ptr m22.nxt 0) 4) = (some [(Il x44), 
 (Il x45), (Il x46), (Il x47)])) ∧ 
 ∃ x48, ∃ x49, ∃ x50, ∃ x51, ((ldA m31 (C.ptr m0.nxt 0) 4) = (some [(Il x48), 
 (Il x49), (Il x50), (Il x51)])) ∧ 
 ∃ b52 : Bool, ((ldC m31 (C.ptr m1.nxt 0)) = (some (C.bool b52))) ∧ 
 Wc prog tbl 109 [(V.agg 12 [(Il x32), (Il x33), 
 (Il x34), (Il x35), (Il x36), (Il x37), 
 (Il x38), (Il x39), (Il x40), (Il x41), 
 (Il x42), c43]), (V.agg 4 [(Il x44), (Il x45), 
 (Il x46), (Il x47)]), (V.agg 4 [(Il x48), 
 (Il x49), (Il x50), (Il x51)]), 
 (V.c (C.bool b52))] m31 (fun v53 m54 => ∃ b55 : Bool, (v53 = (V.c (C.bool b55))) ∧ 
 ifB b55 (∃ x56, ∃ x57, ∃ x58, ∃ x59, ((ldA m54 (C.ptr m22.nxt 0) 4) = (some [(Il x56), 
 (Il x57), (Il x58), (Il x59)])) ∧ 
 ∃ m60 : M, ((stC m54 (C.ptr m2.nxt 0) 4 [(Il x56), (Il x57), 
 (Il x58), (Il x59)]) = (some m60)) ∧ ∃ m61 : M, 
 ((stC m60 (C.ptr m3.nxt 0) 1 [(C.bool true)]) = (some m61)) ∧ R24 Ex.ret m61) (R24 Ex.nrm m54)))) (After.mk (fun m62 => 
 ∃ m63 : M, ((stC m62 (C.ptr m2.nxt 0) 4 [(Il 0), (Il 0), 
 (Il 0), (Il 0)]) = (some m63)) ∧ 
 ∃ m64 : M, ((stC m63 (C.ptr m3.nxt 0) 1 [(C.bool false)]) = (some m64)) ∧ 
 ∃ x65, ∃ x66, ∃ x67, ∃ x68, ((ldA m64 (C.ptr m2.nxt 0) 4) = (some [(Il x65), 
 (Il x66), (Il x67), (Il x68)])) ∧ 
 ∃ b69 : Bool, ((ldC m64 (C.ptr m3.nxt 0)) = (some (C.bool b69))) ∧ 
 Q (V.tup [(U.agg 4 [(Il x65), (Il x66), (Il x67), 
 (Il x68)]), (U.c (C.bool b69))]) m64) [] (fun m70 => 
 ∃ x71, ∃ x72, ∃ x73, ∃ x74, ((ldA m70 (C.ptr m2.nxt 0) 4) = (some [(Il x71), 
 (Il x72), (Il x73), (Il x74)])) ∧ 
 ∃ b75 : Bool, ((ldC m70 (C.ptr m3.nxt 0)) = (some (C.bool b75))) ∧ 
 Q (V.tup [(U.agg 4 [(Il x71), (Il x72), (Il x73), 
 (Il x74)]), (U.c (C.bool b75))]) m70))))) : Wc prog tbl 69 [(V.agg 13 [(Il a100), (Il a101), (Il a102), (Il a103), (Il a104), (Il a105), (Il a106), (Il a107), (Il a108), (Il a109), (Il a110), a111, a112]), (V.agg 4 [(Il a200), (Il a201), (Il a202), (Il a203)]), (V.c (C.bool a300))] m Q :=
 wc_eq (n := 3) rfl (by kernel_rfl) (by kernel_rfl) h
theorem w72 {a100 : Int} {a101 : Int} {a102 : Int} {a103 : Int} {a104 : Int} {a105 : Int} {a106 : Int} {a107 : Int} {a108 : Int} {a109 : Int} {a110 : Int} {a111 : C} {a200 : Int} {a201 : Int} {a202 : Int} {a203 : Int} {a300 : Int} {a301 : Int} {a302 : Int} {a303 : Int} {a304 : Bool} {a305 : Int} {a306 : Int} {m : M} {Q : V → M → Prop} (h :
 (∀ m0 : M, (m0 = (M.new m (AO.cells 12 [(Il a100), (Il a101), (Il a102), 
 (Il a103), (Il a104), (Il a105), (Il a106), 
 (Il a107), (Il a108), (Il a109), (Il a110), 
 a111] false))) → ∀ m1 : M, (m1 = (M.new m0 (AO.cells 4 [(Il a200), (Il a201), 
 (Il a202), (Il a203)] false))) → ∀ m2 : M, (m2 = (M.new m1 (AO.cells 7 [(Il a300), 
 (Il a301), (Il a302), (Il a303), (C.bool a304), (Il a305), 
 (Il a306)] false))) → isPt (C.ptr m1.nxt 0) ∧ isPt (C.ptr m1.nxt 0) ∧ ∃ x3, 
 ((ldC m2 (C.ptr m1.nxt 0)) = (some (Il x3))) ∧ ∀ R4 : List V → M → Prop, 
 (∀ b5 : Bool, ∀ b6 : Bool, ∀ x7 : Int, ∀ m8 : M, (isPt (C.ptr m1.nxt 0) ∧ isPt (C.ptr m1.nxt 0) ∧ 
 ∃ x9, ((ldC m8 (C.ptr m1.nxt 1)) = (some (Il x9))) ∧ ifB (decide (x7 ≤ x9)) (isPt (C.ptr m1.nxt 0) ∧ 
 isPt (C.ptr m1.nxt 2) ∧ ∃ x10, ((ldC m8 (C.ptr m1.nxt 2)) = (some (Il x10))) ∧ 
 ∀ R11 : List V → M → Prop, (∀ b12 : Bool, ∀ b13 : Bool, ∀ x14 : Int, ∀ m15 : M, 
 (isPt (C.ptr m1.nxt 0) ∧ isPt (C.ptr m1.nxt 2) ∧ ∃ x16, ((ldC m15 (C.ptr m1.nxt 3)) = (some (Il x16))) ∧ 
 ifB (decide (x14 ≤ x16)) (isPt (C.ptr m1.nxt 0) ∧ ∃ b17 : Bool, ((ldC m15 (C.ptr m1.nxt 4)) = (some (C.bool b17))) ∧ 
 ifB b17 (∃ x18, ∃ x19, ∃ x20, ∃ x21, ∃ x22, 
 ∃ x23, ∃ x24, ∃ x25, ∃ x26, ∃ x27, ∃ x28, 
 ∃ c29 : C, ((ldA m15 (C.ptr m.nxt 0) 12) = (some [(Il x18), 
 (Il x19), (Il x20), (Il x21), (Il x22), 
 (Il x23), (Il x24), (Il x25), (Il x26), 
 (Il x27), (Il x28), c29])) ∧ ∃ x30, ∃ x31, 
 ∃ x32, ∃ x33, ((ldA m15 (C.ptr m0.nxt 0) 4) = (some [(Il x30), 
 (Il x31), (Il x32), (Il x33)])) ∧ 
 Wc prog tbl 71 [(V.agg 12 [(Il x18), (Il x19), 
 (Il x20), (Il x21), (Il x22), (Il x23), 
 (Il x24), (Il x25), (Il x26), (Il x27), 
 (Il x28), c29]), (V.agg 4 [(Il x30), (Il x31), 
 (Il x32), (Il x33)]), (V.c (Il x7)), 
 (V.c (Il x14))] m15 (fun v34 m35 => ∃ b36 : Bool, (v34 = (V.c (C.bool b36))) ∧ 
 ifB b36 (∃ x37, ∃ x38, ∃ x39, ∃ x40, ∃ x41, 
 ∃ x42, ∃ x43, ∃ x44, ∃ x45, ∃ x46, ∃ x47, 
 ∃ c48 : C, ((ldA m35 (C.ptr m.nxt 0) 12) = (some [(Il x37), 
 (Il x38), (Il x39), (Il x40), (Il x41), 
 (Il x42), (Il x43), (Il x44), (Il x45), 
 (Il x46), (Il x47), c48])) ∧ ∃ x49, ∃ x50, 
 ∃ x51, ∃ x52, ((ldA m35 (C.ptr m0.nxt 0) 4) = (some [(Il x49), 
 (Il x50), (Il x51), (Il x52)])) ∧ 
 Wc prog tbl 54 [(V.agg 12 [(Il x37), (Il x38), 
 (Il x39), (Il x40), (Il x41), (Il x42), 
 (Il x43), (Il x44), (Il x45), (Il x46), 
 (Il x47), c48]), (V.agg 4 [(Il x49), (Il x50), 
 (Il x51), (Il x52)]), (V.c (Il x7)), 
 (V.c (Il x14))] m35 (fun v53 m54 => ∃ x55, (v53 = (V.c (Il x55))) ∧ 
 isPt (C.ptr m1.nxt 0) ∧ isPt (C.ptr m1.nxt 5) ∧ ∃ x56, ((ldC m54 (C.ptr m1.nxt 5)) = (some (Il x56))) ∧ 
 ((ldC m35 (C.ptr m1.nxt 5)) = (some (Il x56))) ∧ isPt (C.ptr m1.nxt 0) ∧ 
 isPt (C.ptr m1.nxt 5) ∧ ∃ x57, ((ldC m54 (C.ptr m1.nxt 6)) = (some (Il x57))) ∧ 
 ((ldC m35 (C.ptr m1.nxt 6)) = (some (Il x57))) ∧ Wc prog tbl 31 [(V.c (Il x55)), 
 (V.c (Il x56)), (V.c (Il x57))] m54 (fun v58 m59 => 
 ∃ b60 : Bool, (v58 = (V.c (C.bool b60))) ∧ ifB b60 (Q (V.c (C.bool true)) m59) (isPt (C.ptr m1.nxt 0) ∧ 
 ∃ b61 : Bool, ((ldC m59 (C.ptr m1.nxt 4)) = (some (C.bool b61))) ∧ 
 ifB (!b61) (∃ x62, ∃ x63, ∃ x64, ∃ x65, ∃ x66, 
 ∃ x67, ∃ x68, ∃ x69, ∃ x70, ∃ x71, ∃ x72, 
 ∃ c73 : C, ((ldA m59 (C.ptr m.nxt 0) 12) = (some [(Il x62), 
 (Il x63), (Il x64), (Il x65), (Il x66), 
 (Il x67), (Il x68), (Il x69), (Il x70), 
 (Il x71), (Il x72), c73])) ∧ ∃ x74, ∃ x75, 
 ∃ x76, ∃ x77, ((ldA m59 (C.ptr m0.nxt 0) 4) = (some [(Il x74), 
 (Il x75), (Il x76), (Il x77)])) ∧ 
 Wc prog tbl 71 [(V.agg 12 [(Il x62), (Il x63), 
 (Il x64), (Il x65), (Il x66), (Il x67), 
 (Il x68), (Il x69), (Il x70), (Il x71), 
 (Il x72), c73]), (V.agg 4 [(Il x74), (Il x75), 
 (Il x76), (Il x77)]), (V.c (Il x7)), 
 (V.c (Il x14))] m59 (fun v78 m79 => ∃ b80 : Bool, (v78 = (V.c (C.bool b80))) ∧ 
 ifB (!b80) (Q (V.c (C.bool true)) m79) (fitsP .i64 (x14 + 1) ∧ 
 R11 [(V.c (C.bool b12)), (V.c (C.bool b12)), (V.c (Il (x14 + 1)))] m79))) (fitsP .i64 (x14 + 1) ∧ 
 R11 [(V.c (C.bool b12)), (V.c (C.bool b12)), (V.c (Il (x14 + 1)))] m59))))) (isPt (C.ptr m1.nxt 0) ∧ 
 ∃ b81 : Bool, ((ldC m35 (C.ptr m1.nxt 4)) = (some (C.bool b81))) ∧ 
 ifB (!b81) (∃ x82, ∃ x83, ∃ x84, ∃ x85, ∃ x86, 
 ∃ x87, ∃ x88, ∃ x89, ∃ x90, ∃ x91, ∃ x92, 
 ∃ c93 : C, ((ldA m35 (C.ptr m.nxt 0) 12) = (some [(Il x82), 
 (Il x83), (Il x84), (Il x85), (Il x86), 
 (Il x87), (Il x88), (Il x89), (Il x90), 
 (Il x91), (Il x92), c93])) ∧ ∃ x94, ∃ x95, 
 ∃ x96, ∃ x97, ((ldA m35 (C.ptr m0.nxt 0) 4) = (some [(Il x94), 
 (Il x95), (Il x96), (Il x97)])) ∧ 
 Wc prog tbl 71 [(V.agg 12 [(Il x82), (Il x83), 
 (Il x84), (Il x85), (Il x86), (Il x87), 
 (Il x88), (Il x89), (Il x90), (Il x91), 
 (Il x92), c93]), (V.agg 4 [(Il x94), (Il x95), 
 (Il x96), (Il x97)]), (V.c (Il x7)), 
 (V.c (Il x14))] m35 (fun v98 m99 => ∃ b100 : Bool, (v98 = (V.c (C.bool b100))) ∧ 
 ifB (!b100) (Q (V.c (C.bool true)) m99) (fitsP .i64 (x14 + 1) ∧ 
 R11 [(V.c (C.bool b12)), (V.c (C.bool b12)), (V.c (Il (x14 + 1)))] m99))) (fitsP .i64 (x14 + 1) ∧ 
 R11 [(V.c (C.bool b12)), (V.c (C.bool b12)), (V.c (Il (x14 + 1)))] m35)))) (isPt (C.ptr m1.nxt 0) ∧ 
 ∃ b101 : Bool, ((ldC m15 (C.ptr m1.nxt 4)) = (some (C.bool b101))) ∧ 
 ifB (!b101) (∃ x102, ∃ x103, ∃ x104, ∃ x105, ∃ x106, 
 ∃ x107, ∃ x108, ∃ x109, ∃ x110, ∃ x111, ∃ x112, 
 ∃ c113 : C, ((ldA m15 (C.ptr m.nxt 0) 12) = (some [(Il x102), 
 (Il x103), (Il x104), (Il x105), 
 (Il x106), (Il x107), (Il x108), 
 (Il x109), (Il x110), (Il x111), 
 (Il x112), c113])) ∧ ∃ x114, ∃ x115, ∃ x116, 
 ∃ x117, ((ldA m15 (C.ptr m0.nxt 0) 4) = (some [(Il x114), 
 (Il x115), (Il x116), (Il x117)])) ∧ 
 Wc prog tbl 71 [(V.agg 12 [(Il x102), (Il x103), 
 (Il x104), (Il x105), (Il x106), 
 (Il x107), (Il x108), (Il x109), 
 (Il x110), (Il x111), (Il x112), 
 c113]), (V.agg 4 [(Il x114), (Il x115), (Il x116), 
 (Il x117)]), (V.c (Il x7)), (V.c (Il x14))] m15 (fun v118 m119 => 
 ∃ b120 : Bool, (v118 = (V.c (C.bool b120))) ∧ ifB (!b120) (Q (V.c (C.bool true)) m119) (fitsP .i64 (x14 + 1) ∧ 
 R11 [(V.c (C.bool b12)), (V.c (C.bool b12)), (V.c (Il (x14 + 1)))] m119))) (fitsP .i64 (x14 + 1) ∧ 
 R11 [(V.c (C.bool b12)), (V.c (C.bool b12)), (V.c (Il (x14 + 1)))] m15))) (fitsP .i64 (x7 + 1) ∧ 
 R4 [(V.c (C.bool b12)), (V.c (C.bool b12)), (V.c (Il (x7 + 1)))] m15)) → 
 R11 [(V.c (C.bool b12)), (V.c (C.bool b13)), (V.c (Il x14))] m15) → 
 R11 [(V.c (C.bool b5)), (V.c (C.bool b5)), (V.c (Il x10))] m8) (Q (V.c (C.bool false)) m8)) → 
 R4 [(V.c (C.bool b5)), (V.c (C.bool b6)), (V.c (Il x7))] m8) → R4 [(V.c (C.bool false)), 
 (V.c (C.bool false)), (V.c (Il x3))] m2)) : Wc prog tbl 72 [(V.agg 12 [(Il a100), (Il a101), (Il a102), (Il a103), (Il a104), (Il a105), (Il a106), (Il a107), (Il a108), (Il a109), (Il a110), a111]), (V.agg 4 [(Il a200), (Il a201), (Il a202), (Il a203)]), (V.agg 7 [(Il a300), (Il a301), (Il a302), (Il a303), (C.bool a304), (Il a305), (Il a306)])] m Q :=
 wc_eq (n := 3) rfl (by kernel_rfl) (by kernel_rfl) h
theorem w82 {a100 : Int} {a101 : Int} {a102 : Int} {a103 : Int} {a104 : Int} {a105 : Int} {a106 : Int} {a107 : Int} {a108 : Int} {a109 : Int} {a110 : Int} {a111 : C} {a112 : C} {a200 : Bool} {a201 : Bool} {a202 : Bool} {a203 : Bool} {a204 : Bool} {a205 : Bool} {m : M} {Q : V → M → Prop} (h :
 (∀ m0 : M, (m0 = (M.new m (AO.cells 13 [(Il a100), (Il a101), (Il a102), 
 (Il a103), (Il a104), (Il a105), (Il a106), 
 (Il a107), (Il a108), (Il a109), (Il a110), 
 a111, a112] false))) → ∀ m1 : M, (m1 = (M.new m0 (AO.cells 6 [(C.bool a200), (C.bool a201), (C.bool a202), 
 (C.bool a203), (C.bool a204), (C.bool a205)] false))) → ∀ m2 : M, (m2 = (M.new m1 (AO.cells 1 [(C.bool false)] false))) → 
 isPt (C.ptr m.nxt 0) ∧ ∃ x3, ∃ x4, ∃ x5, ∃ x6, ∃ x7, ∃ x8, 
 ∃ x9, ∃ x10, ∃ x11, ∃ x12, ∃ x13, ∃ c14 : C, ((ldA m2 (C.ptr m.nxt 0) 12) = (some [(Il x3), 
 (Il x4), (Il x5), (Il x6), (Il x7), 
 (Il x8), (Il x9), (Il x10), (Il x11), 
 (Il x12), (Il x13), c14])) ∧ Wc prog tbl 116 [(V.agg 12 [(Il x3), 
 (Il x4), (Il x5), (Il x6), (Il x7), 
 (Il x8), (Il x9), (Il x10), (Il x11), 
 (Il x12), (Il x13), c14])] m2 (fun v15 m16 => ∃ c17 : C, 
 (v15 = (V.c c17)) ∧ rangeP prog tbl c17 m16 (fun l18 m19 R20 R21 => ∃ x22, 
 ∃ x23, ∃ x24, ∃ x25, (l18 = [(V.agg 4 [(Il x22), 
 (Il x23), (Il x24), (Il x25)])]) ∧ 
 ∀ m26 : M, (m26 = (M.new m19 (AO.cells 4 [(Il 0), (Il 0), 
 (Il 0), (Il 0)] false))) → ∃ m27 : M, 
 ((stC m26 (C.ptr m19.nxt 0) 4 [(Il x22), (Il x23), 
 (Il x24), (Il x25)]) = (some m27)) ∧ R20 m27 (fun m28 => 
 isPt (C.ptr m.nxt 0) ∧ ∃ c29 : C, ((ldC m28 (C.ptr m.nxt 12)) = (some c29)) ∧ 
 ∃ x30, ∃ x31, ∃ x32, ∃ x33, ((ldA m28 (C.ptr m19.nxt 0) 4) = (some [(Il x30), 
 (Il x31), (Il x32), (Il x33)])) ∧ 
 ∃ y34 : Option U, ((lkM prog 43 m28 c29 (V.agg 4 [(Il x30), 
 (Il x31), (Il x32), (Il x33)])) = (some y34)) ∧ 
 ((y34 = Option.none) → ∃ b35 : Bool, ∃ b36 : Bool, ∃ b37 : Bool, ∃ b38 : Bool, 
 ∃ b39 : Bool, ∃ b40 : Bool, ((ldA m28 (C.ptr m0.nxt 0) 6) = (some [(C.bool b35), 
 (C.bool b36), (C.bool b37), (C.bool b38), (C.bool b39), (C.bool b40)])) ∧ Wc prog tbl 117 [(V.agg 6 [(C.bool false), 
 (C.bool false), (C.bool false), (C.bool false), (C.bool false), (C.bool false)]), 
 (V.agg 6 [(C.bool b35), (C.bool b36), (C.bool b37), (C.bool b38), (C.bool b39), 
 (C.bool b40)])] m28 (fun v41 m42 => ∃ b43 : Bool, ∃ b44 : Bool, ∃ b45 : Bool, 
 ∃ b46 : Bool, ∃ b47 : Bool, ∃ b48 : Bool, (v41 = (V.agg 6 [(C.bool b43), 
 (C.bool b44), (C.bool b45), (C.bool b46), (C.bool b47), (C.bool b48)])) ∧ ∃ b49 : Bool, 
 ∃ b50 : Bool, ∃ b51 : Bool, ∃ b52 : Bool, ∃ b53 : Bool, ∃ b54 : Bool, ((ldA m42 (C.ptr m0.nxt 0) 6) = (some [(C.bool b49), 
 (C.bool b50), (C.bool b51), (C.bool b52), (C.bool b53), (C.bool b54)])) ∧ ((ldA m28 (C.ptr m0.nxt 0) 6) = (some [(C.bool b49), 
 (C.bool b50), (C.bool b51), (C.bool b52), (C.bool b53), (C.bool b54)])) ∧ ifB ((b43 == b49) && ((b44 == b50) && ((b45 == b51) && ((b46 == b52) && ((b47 == b53) && (b48 == b54)))))) (∃ m55 : M, 
 ((stC m42 (C.ptr m1.nxt 0) 1 [(C.bool true)]) = (some m55)) ∧ R21 Ex.ret m55) (R21 Ex.nrm m42))) ∧ 
 ∀ u56 : U, (y34 = (some u56)) → ∃ b57 : Bool, ∃ b58 : Bool, ∃ b59 : Bool, 
 ∃ b60 : Bool, ∃ b61 : Bool, ∃ b62 : Bool, (u56 = (U.agg 6 [(C.bool b57), 
 (C.bool b58), (C.bool b59), (C.bool b60), (C.bool b61), (C.bool b62)])) ∧ ∃ b63 : Bool, 
 ∃ b64 : Bool, ∃ b65 : Bool, ∃ b66 : Bool, ∃ b67 : Bool, ∃ b68 : Bool, ((ldA m28 (C.ptr m0.nxt 0) 6) = (some [(C.bool b63), 
 (C.bool b64), (C.bool b65), (C.bool b66), (C.bool b67), (C.bool b68)])) ∧ Wc prog tbl 117 [(V.agg 6 [(C.bool b57), 
 (C.bool b58), (C.bool b59), (C.bool b60), (C.bool b61), (C.bool b62)]), (V.agg 6 [(C.bool b63), 
 (C.bool b64), (C.bool b65), (C.bool b66), (C.bool b67), (C.bool b68)])] m28 (fun v69 m70 => 
 ∃ b71 : Bool, ∃ b72 : Bool, ∃ b73 : Bool, ∃ b74 : Bool, ∃ b75 : Bool, ∃ b76 : Bool, 
 (v69 = (V.agg 6 [(C.bool b71), (C.bool b72), (C.bool b73), (C.bool b74), (C.bool b75), 
 (C.bool b76)])) ∧ ∃ b77 : Bool, ∃ b78 : Bool, ∃ b79 : Bool, ∃ b80 : Bool, 
 ∃ b81 : Bool, ∃ b82 : Bool, ((ldA m70 (C.ptr m0.nxt 0) 6) = (some [(C.bool b77), 
 (C.bool b78), (C.bool b79), (C.bool b80), (C.bool b81), (C.bool b82)])) ∧ ((ldA m28 (C.ptr m0.nxt 0) 6) = (some [(C.bool b77), 
 (C.bool b78), (C.bool b79), (C.bool b80), (C.bool b81), (C.bool b82)])) ∧ ifB ((b71 == b77) && ((b72 == b78) && ((b73 == b79) && ((b74 == b80) && ((b75 == b81) && (b76 == b82)))))) (∃ m83 : M, 
 ((stC m70 (C.ptr m1.nxt 0) 1 [(C.bool true)]) = (some m83)) ∧ R21 Ex.ret m83) (R21 Ex.nrm m70)))) (After.mk (fun m84 => 
 ∃ m85 : M, ((stC m84 (C.ptr m1.nxt 0) 1 [(C.bool false)]) = (some m85)) ∧ 
 ∃ b86 : Bool, ((ldC m85 (C.ptr m1.nxt 0)) = (some (C.bool b86))) ∧ 
 Q (V.c (C.bool b86)) m85) [] (fun m87 => ∃ b88 : Bool, ((ldC m87 (C.ptr m1.nxt 0)) = (some (C.bool b88))) ∧ 
 Q (V.c (C.bool b88)) m87))))) : Wc prog tbl 82 [(V.agg 13 [(Il a100), (Il a101), (Il a102), (Il a103), (Il a104), (Il a105), (Il a106), (Il a107), (Il a108), (Il a109), (Il a110), a111, a112]), (V.agg 6 [(C.bool a200), (C.bool a201), (C.bool a202), (C.bool a203), (C.bool a204), (C.bool a205)])] m Q :=
 wc_eq (n := 2) rfl (by kernel_rfl) (by kernel_rfl) h
theorem w88 {a100 : Int} {a101 : Int} {a102 : Int} {a103 : Int} {a104 : Int} {a105 : Int} {a106 : Int} {a107 : Int} {a108 : Int} {a109 : Int} {a110 : Int} {a111 : C} {a200 : Int} {m : M} {Q : V → M → Prop} (h :
 (∀ m0 : M, (m0 = (M.new m (AO.cells 12 [(Il a100), (Il a101), (Il a102), 
 (Il a103), (Il a104), (Il a105), (Il a106), 
 (Il a107), (Il a108), (Il a109), (Il a110), 
 a111] false))) → ∀ m1 : M, (m1 = (M.new m0 (AO.cells 4 [(Il 0), (Il 0), 
 (Il 0), (Il 0)] false))) → ∀ m2 : M, (m2 = (M.new m1 (AO.cells 4 [(Il 0), 
 (Il 0), (Il 0), (Il 0)] false))) → 
 isPt (C.ptr m.nxt 0) ∧ isPt (C.ptr m.nxt 3) ∧ ∃ x3, ((ldC m2 (C.ptr m.nxt 3)) = (some (Il x3))) ∧ 
 isPt (C.ptr m.nxt 0) ∧ ∃ x4, ∃ x5, ((ldA m2 (C.ptr m.nxt 3) 2) = (some [(Il x4), 
 (Il x5)])) ∧ Wc prog tbl 62 [(V.agg 2 [(Il x4), (Il x5)])] m2 (fun v6 m7 => 
 ∃ x8, (v6 = (V.c (Il x8))) ∧ ((ldC m7 (C.ptr m.nxt 3)) = (some (Il x3))) ∧ 
 ((0 : Int) ≤ a200) ∧ ((0 : Int) < x8) ∧ fitsP .i64 (a200 % x8) ∧ fitsP .i64 (x3 + (a200 % x8)) ∧ 
 isPt (C.ptr m.nxt 0) ∧ ∃ x9, ∃ x10, ((ldA m7 (C.ptr m.nxt 3) 2) = (some [(Il x9), 
 (Il x10)])) ∧ ((ldA m2 (C.ptr m.nxt 3) 2) = (some [(Il x9), 
 (Il x10)])) ∧ Wc prog tbl 62 [(V.agg 2 [(Il x9), 
 (Il x10)])] m7 (fun v11 m12 => ∃ x13, (v11 = (V.c (Il x13))) ∧ 
 ((ldC m12 (C.ptr m.nxt 3)) = (some (Il x3))) ∧ ((0 : Int) ≤ a200) ∧ 
 ((0 : Int) < x13) ∧ fitsP .i64 (a200 / x13) ∧ isPt (C.ptr m1.nxt 0) ∧ 
 ∃ m14 : M, ((stC m12 (C.ptr m1.nxt 0) 1 [(Il (x3 + (a200 % x8)))]) = (some m14)) ∧ 
 isPt (C.ptr m.nxt 0) ∧ isPt (C.ptr m.nxt 5) ∧ ∃ x15, ((ldC m14 (C.ptr m.nxt 5)) = (some (Il x15))) ∧ 
 isPt (C.ptr m.nxt 0) ∧ ∃ x16, ∃ x17, ((ldA m14 (C.ptr m.nxt 5) 2) = (some [(Il x16), 
 (Il x17)])) ∧ Wc prog tbl 62 [(V.agg 2 [(Il x16), 
 (Il x17)])] m14 (fun v18 m19 => ∃ x20, (v18 = (V.c (Il x20))) ∧ 
 ((ldC m19 (C.ptr m.nxt 5)) = (some (Il x15))) ∧ ((0 : Int) ≤ (a200 / x13)) ∧ 
 ((0 : Int) < x20) ∧ fitsP .i64 ((a200 / x13) % x20) ∧ fitsP .i64 (x15 + ((a200 / x13) % x20)) ∧ 
 isPt (C.ptr m.nxt 0) ∧ ∃ x21, ∃ x22, ((ldA m19 (C.ptr m.nxt 5) 2) = (some [(Il x21), 
 (Il x22)])) ∧ ((ldA m14 (C.ptr m.nxt 5) 2) = (some [(Il x21), 
 (Il x22)])) ∧ Wc prog tbl 62 [(V.agg 2 [(Il x21), 
 (Il x22)])] m19 (fun v23 m24 => ∃ x25, (v23 = (V.c (Il x25))) ∧ 
 ((ldC m24 (C.ptr m.nxt 5)) = (some (Il x15))) ∧ ((0 : Int) ≤ (a200 / x13)) ∧ 
 ((0 : Int) < x25) ∧ fitsP .i64 ((a200 / x13) / x25) ∧ isPt (C.ptr m1.nxt 0) ∧ 
 ∃ m26 : M, ((stC m24 (C.ptr m1.nxt 1) 1 [(Il (x15 + ((a200 / x13) % x20)))]) = (some m26)) ∧ 
 isPt (C.ptr m.nxt 0) ∧ isPt (C.ptr m.nxt 7) ∧ ∃ x27, ((ldC m26 (C.ptr m.nxt 7)) = (some (Il x27))) ∧ 
 isPt (C.ptr m.nxt 0) ∧ ∃ x28, ∃ x29, ((ldA m26 (C.ptr m.nxt 7) 2) = (some [(Il x28), 
 (Il x29)])) ∧ Wc prog tbl 62 [(V.agg 2 [(Il x28), 
 (Il x29)])] m26 (fun v30 m31 => ∃ x32, (v30 = (V.c (Il x32))) ∧ 
 ((ldC m31 (C.ptr m.nxt 7)) = (some (Il x27))) ∧ ((0 : Int) ≤ ((a200 / x13) / x25)) ∧ 
 ((0 : Int) < x32) ∧ fitsP .i64 (((a200 / x13) / x25) % x32) ∧ fitsP .i64 (x27 + (((a200 / x13) / x25) % x32)) ∧ 
 isPt (C.ptr m.nxt 0) ∧ ∃ x33, ∃ x34, ((ldA m31 (C.ptr m.nxt 7) 2) = (some [(Il x33), 
 (Il x34)])) ∧ ((ldA m26 (C.ptr m.nxt 7) 2) = (some [(Il x33), 
 (Il x34)])) ∧ Wc prog tbl 62 [(V.agg 2 [(Il x33), 
 (Il x34)])] m31 (fun v35 m36 => ∃ x37, (v35 = (V.c (Il x37))) ∧ 
 ((ldC m36 (C.ptr m.nxt 7)) = (some (Il x27))) ∧ ((0 : Int) ≤ ((a200 / x13) / x25)) ∧ 
 ((0 : Int) < x37) ∧ fitsP .i64 (((a200 / x13) / x25) / x37) ∧ isPt (C.ptr m1.nxt 0) ∧ 
 ∃ m38 : M, ((stC m36 (C.ptr m1.nxt 2) 1 [(Il (x27 + (((a200 / x13) / x25) % x32)))]) = (some m38)) ∧ 
 isPt (C.ptr m.nxt 0) ∧ isPt (C.ptr m.nxt 9) ∧ ∃ x39, ((ldC m38 (C.ptr m.nxt 9)) = (some (Il x39))) ∧ 
 fitsP .i64 (x39 + (((a200 / x13) / x25) / x37)) ∧ isPt (C.ptr m1.nxt 0) ∧ 
 ∃ m40 : M, ((stC m38 (C.ptr m1.nxt 3) 1 [(Il (x39 + (((a200 / x13) / x25) / x37)))]) = (some m40)) ∧ 
 ∃ x41, ∃ x42, ∃ x43, ∃ x44, ((ldA m40 (C.ptr m1.nxt 0) 4) = (some [(Il x41), 
 (Il x42), (Il x43), (Il x44)])) ∧ 
 ∃ m45 : M, ((stC m40 (C.ptr m0.nxt 0) 4 [(Il x41), (Il x42), 
 (Il x43), (Il x44)]) = (some m45)) ∧ ∃ x46, 
 ∃ x47, ∃ x48, ∃ x49, ((ldA m45 (C.ptr m0.nxt 0) 4) = (some [(Il x46), 
 (Il x47), (Il x48), (Il x49)])) ∧ 
 Q (V.agg 4 [(Il x46), (Il x47), (Il x48), 
 (Il x49)]) m45)))))))) : Wc prog tbl 88 [(V.agg 12 [(Il a100), (Il a101), (Il a102), (Il a103), (Il a104), (Il a105), (Il a106), (Il a107), (Il a108), (Il a109), (Il a110), a111]), (V.c (Il a200))] m Q :=
 wc_eq (n := 2) rfl (by kernel_rfl) (by kernel_rfl) h
theorem w91 {a100 : Int} {a101 : Int} {a102 : Int} {a103 : Int} {a104 : Int} {a105 : Int} {a106 : Int} {a107 : Int} {a108 : Int} {a109 : Int} {a110 : Int} {a111 : C} {a112 : C} {a200 : Int} {a201 : Int} {a202 : Int} {a203 : Int} {m : M} {Q : V → M → Prop} (h :
 (∀ m0 : M, (m0 = (M.new m (AO.cells 13 [(Il a100), (Il a101), (Il a102), 
 (Il a103), (Il a104), (Il a105), (Il a106), 
 (Il a107), (Il a108), (Il a109), (Il a110), 
 a111, a112] false))) → ∀ m1 : M, (m1 = (M.new m0 (AO.cells 4 [(Il a200), (Il a201), 
 (Il a202), (Il a203)] false))) → ∀ m2 : M, (m2 = (M.new m1 (AO.cells 6 [(C.bool false), 
 (C.bool false), (C.bool false), (C.bool false), (C.bool false), (C.bool false)] false))) → ∀ m3 : M, 
 (m3 = (M.new m2 (AO.cells 6 [(C.bool false), (C.bool false), (C.bool false), (C.bool false), (C.bool false), 
 (C.bool false)] false))) → isPt (C.ptr m.nxt 0) ∧ isPt (C.ptr m.nxt 0) ∧ ∃ c4 : C, ((ldC m3 (C.ptr m.nxt 11)) = (some c4)) ∧ 
 isSl c4 ∧ ∀ R5 : List V → M → Prop, (∀ x6 : Int, ∀ m7 : M, (ifB (decide (x6 < (((slLen c4) : Nat) : Int))) (∃ n8 : Nat, 
 (x6 = ((n8 : Nat) : Int)) ∧ (n8 < (slLen c4)) ∧ ∃ x9, ∃ x10, ∃ x11, 
 ∃ x12, ∃ b13 : Bool, ∃ x14, ∃ x15, ((ldA m7 (slAt c4 (n8 * 7)) 7) = (some [(Il x9), 
 (Il x10), (Il x11), (Il x12), (C.bool b13), 
 (Il x14), (Il x15)])) ∧ ∀ m16 : M, (m16 = (M.new m7 (AO.cells 7 [(Il 0), 
 (Il 0), (Il 0), (Il 0), 
 (C.bool false), (Il 0), (Il 0)] false))) → 
 ∃ m17 : M, ((stC m16 (C.ptr m7.nxt 0) 7 [(Il x9), (Il x10), 
 (Il x11), (Il x12), (C.bool b13), (Il x14), 
 (Il x15)]) = (some m17)) ∧ isPt (C.ptr m.nxt 0) ∧ ∃ x18, 
 ∃ x19, ∃ x20, ∃ x21, ∃ x22, ∃ x23, ∃ x24, 
 ∃ x25, ∃ x26, ∃ x27, ∃ x28, ∃ c29 : C, ((ldA m17 (C.ptr m.nxt 0) 12) = (some [(Il x18), 
 (Il x19), (Il x20), (Il x21), (Il x22), 
 (Il x23), (Il x24), (Il x25), (Il x26), 
 (Il x27), (Il x28), c29])) ∧ ∃ x30, ∃ x31, 
 ∃ x32, ∃ x33, ∃ b34 : Bool, ∃ x35, ∃ x36, ((ldA m17 (C.ptr m7.nxt 0) 7) = (some [(Il x30), 
 (Il x31), (Il x32), (Il x33), (C.bool b34), 
 (Il x35), (Il x36)])) ∧ ∃ x37, ∃ x38, 
 ∃ x39, ∃ x40, ((ldA m17 (C.ptr m0.nxt 0) 4) = (some [(Il x37), 
 (Il x38), (Il x39), (Il x40)])) ∧ 
 Wc prog tbl 121 [(V.agg 12 [(Il x18), (Il x19), 
 (Il x20), (Il x21), (Il x22), (Il x23), 
 (Il x24), (Il x25), (Il x26), (Il x27), 
 (Il x28), c29]), (V.agg 7 [(Il x30), (Il x31), 
 (Il x32), (Il x33), (C.bool b34), (Il x35), 
 (Il x36)]), (V.agg 4 [(Il x37), (Il x38), 
 (Il x39), (Il x40)])] m17 (fun v41 m42 => ∃ b43 : Bool, 
 (v41 = (V.c (C.bool b43))) ∧ isPt (C.ptr m2.nxt 0) ∧ ∃ n44 : Nat, (x6 = ((n44 : Nat) : Int)) ∧ 
 (n44 < 6) ∧ ∃ m45 : M, ((stC m42 (C.ptr m2.nxt (0 + (n44 * 1))) 1 [(C.bool b43)]) = (some m45)) ∧ 
 fitsP .i64 (x6 + 1) ∧ R5 [(V.c (Il (x6 + 1)))] m45)) (∃ b46 : Bool, 
 ∃ b47 : Bool, ∃ b48 : Bool, ∃ b49 : Bool, ∃ b50 : Bool, ∃ b51 : Bool, ((ldA m7 (C.ptr m2.nxt 0) 6) = (some [(C.bool b46), 
 (C.bool b47), (C.bool b48), (C.bool b49), (C.bool b50), (C.bool b51)])) ∧ ∃ m52 : M, 
 ((stC m7 (C.ptr m1.nxt 0) 6 [(C.bool b46), (C.bool b47), (C.bool b48), (C.bool b49), 
 (C.bool b50), (C.bool b51)]) = (some m52)) ∧ ∃ b53 : Bool, ∃ b54 : Bool, 
 ∃ b55 : Bool, ∃ b56 : Bool, ∃ b57 : Bool, ∃ b58 : Bool, ((ldA m52 (C.ptr m1.nxt 0) 6) = (some [(C.bool b53), 
 (C.bool b54), (C.bool b55), (C.bool b56), (C.bool b57), (C.bool b58)])) ∧ Q (V.agg 6 [(C.bool b53), 
 (C.bool b54), (C.bool b55), (C.bool b56), (C.bool b57), (C.bool b58)]) m52)) → 
 R5 [(V.c (Il x6))] m7) → R5 [(V.c (Il 0))] m3)) : Wc prog tbl 91 [(V.agg 13 [(Il a100), (Il a101), (Il a102), (Il a103), (Il a104), (Il a105), (Il a106), (Il a107), (Il a108), (Il a109), (Il a110), a111, a112]), (V.agg 4 [(Il a200), (Il a201), (Il a202), (Il a203)])] m Q :=
 wc_eq (n := 2) rfl (by kernel_rfl) (by kernel_rfl) h
theorem w100 {a100 : Int} {a101 : Int} {a102 : Int} {a103 : Int} {a104 : Int} {a105 : Int} {a106 : Int} {a107 : Int} {a108 : Int} {a109 : Int} {a110 : Int} {a111 : C} {m : M} {Q : V → M → Prop} (h :
 (∀ m0 : M, (m0 = (M.new m (AO.cells 12 [(Il a100), (Il a101), (Il a102), 
 (Il a103), (Il a104), (Il a105), (Il a106), 
 (Il a107), (Il a108), (Il a109), (Il a110), 
 a111] false))) → isPt (C.ptr m.nxt 0) ∧ ∃ x1, ∃ x2, ((ldA m0 (C.ptr m.nxt 3) 2) = (some [(Il x1), 
 (Il x2)])) ∧ Wc prog tbl 125 [(V.agg 2 [(Il x1), (Il x2)])] m0 (fun v3 m4 => 
 ∃ x5, (v3 = (V.c (Il x5))) ∧ isPt (C.ptr m.nxt 0) ∧ ∃ x6, ∃ x7, 
 ((ldA m4 (C.ptr m.nxt 5) 2) = (some [(Il x6), (Il x7)])) ∧ 
 ((ldA m0 (C.ptr m.nxt 5) 2) = (some [(Il x6), (Il x7)])) ∧ 
 Wc prog tbl 125 [(V.agg 2 [(Il x6), (Il x7)])] m4 (fun v8 m9 => 
 ∃ x10, (v8 = (V.c (Il x10))) ∧ ((0 : Int) ≤ x5) ∧ ((0 : Int) ≤ x10) ∧ 
 fitsP .i64 (x5 * x10) ∧ isPt (C.ptr m.nxt 0) ∧ ∃ x11, ∃ x12, 
 ((ldA m9 (C.ptr m.nxt 7) 2) = (some [(Il x11), (Il x12)])) ∧ 
 ((ldA m4 (C.ptr m.nxt 7) 2) = (some [(Il x11), (Il x12)])) ∧ 
 ((ldA m0 (C.ptr m.nxt 7) 2) = (some [(Il x11), (Il x12)])) ∧ 
 Wc prog tbl 125 [(V.agg 2 [(Il x11), (Il x12)])] m9 (fun v13 m14 => 
 ∃ x15, (v13 = (V.c (Il x15))) ∧ ((0 : Int) ≤ (x5 * x10)) ∧ 
 ((0 : Int) ≤ x15) ∧ fitsP .i64 ((x5 * x10) * x15) ∧ isPt (C.ptr m.nxt 0) ∧ 
 ∃ x16, ∃ x17, ((ldA m14 (C.ptr m.nxt 9) 2) = (some [(Il x16), 
 (Il x17)])) ∧ ((ldA m9 (C.ptr m.nxt 9) 2) = (some [(Il x16), 
 (Il x17)])) ∧ ((ldA m4 (C.ptr m.nxt 9) 2) = (some [(Il x16), 
 (Il x17)])) ∧ ((ldA m0 (C.ptr m.nxt 9) 2) = (some [(Il x16), 
 (Il x17)])) ∧ Wc prog tbl 125 [(V.agg 2 [(Il x16), 
 (Il x17)])] m14 (fun v18 m19 => ∃ x20, (v18 = (V.c (Il x20))) ∧ 
 ((0 : Int) ≤ ((x5 * x10) * x15)) ∧ ((0 : Int) ≤ x20) ∧ fitsP .i64 (((x5 * x10) * x15) * x20) ∧ 
 Q (V.c (Il (((x5 * x10) * x15) * x20))) m19)))))) : Wc prog tbl 100 [(V.agg 12 [(Il a100), (Il a101), (Il a102), (Il a103), (Il a104), (Il a105), (Il a106), (Il a107), (Il a108), (Il a109), (Il a110), a111])] m Q :=
 wc_eq (n := 1) rfl (by kernel_rfl) (by kernel_rfl) h
theorem w106 {a100 : C} {a200 : C} {m : M} {Q : V → M → Prop} (h :
 (∀ m0 : M, (m0 = (M.new m (AO.cells 1 [a200] false))) → Wc prog tbl 126 [(V.c a100), (V.c (C.fn (Fn.func 127) [] [(W.c (C0.ptr m.nxt 0))]))] m0 (fun v1 m2 => 
 ∃ b3 : Bool, (v1 = (V.c (C.bool b3))) ∧ Q (V.c (C.bool (!b3))) m2))) : Wc prog tbl 106 [(V.c a100), (V.c a200)] m Q :=
 wc_eq (n := 2) rfl (by kernel_rfl) (by kernel_rfl) h
theorem w109 {a100 : Int} {a101 : Int} {a102 : Int} {a103 : Int} {a104 : Int} {a105 : Int} {a106 : Int} {a107 : Int} {a108 : Int} {a109 : Int} {a110 : Int} {a111 : C} {a200 : Int} {a201 : Int} {a202 : Int} {a203 : Int} {a300 : Int} {a301 : Int} {a302 : Int} {a303 : Int} {a400 : Bool} {m : M} {Q : V → M → Prop} (h :
 (∀ m0 : M, (m0 = (M.new m (AO.cells 12 [(Il a100), (Il a101), (Il a102), 
 (Il a103), (Il a104), (Il a105), (Il a106), 
 (Il a107), (Il a108), (Il a109), (Il a110), 
 a111] false))) → ∀ m1 : M, (m1 = (M.new m0 (AO.cells 4 [(Il a200), (Il a201), 
 (Il a202), (Il a203)] false))) → ∀ m2 : M, (m2 = (M.new m1 (AO.cells 4 [(Il a300), 
 (Il a301), (Il a302), (Il a303)] false))) → ∀ m3 : M, 
 (m3 = (M.new m2 (AO.cells 1 [(C.bool a400)] false))) → ∀ m4 : M, (m4 = (M.new m3 (AO.cells 1 [(C.bool false)] false))) → 
 ∃ x5, ∃ x6, ∃ x7, ∃ x8, ((ldA m4 (C.ptr m1.nxt 0) 4) = (some [(Il x5), 
 (Il x6), (Il x7), (Il x8)])) ∧ Wc prog tbl 78 [(V.agg 4 [(Il x5), 
 (Il x6), (Il x7), (Il x8)])] m4 (fun v9 m10 => 
 ∃ c11 : C, (v9 = (V.c c11)) ∧ rangeP prog tbl c11 m10 (fun l12 m13 R14 R15 => ∃ x16, 
 ∃ x17, (l12 = [(V.c (Il x16)), (V.c (Il x17))]) ∧ 
 R14 m13 (fun m18 => ∃ x19, ∃ x20, ∃ x21, ∃ x22, ∃ x23, 
 ∃ x24, ∃ x25, ∃ x26, ∃ x27, ∃ x28, ∃ x29, 
 ∃ c30 : C, ((ldA m18 (C.ptr m.nxt 0) 12) = (some [(Il x19), 
 (Il x20), (Il x21), (Il x22), (Il x23), 
 (Il x24), (Il x25), (Il x26), (Il x27), 
 (Il x28), (Il x29), c30])) ∧ ∃ x31, ∃ x32, 
 ∃ x33, ∃ x34, ((ldA m18 (C.ptr m0.nxt 0) 4) = (some [(Il x31), 
 (Il x32), (Il x33), (Il x34)])) ∧ 
 Wc prog tbl 112 [(V.agg 12 [(Il x19), (Il x20), 
 (Il x21), (Il x22), (Il x23), (Il x24), 
 (Il x25), (Il x26), (Il x27), (Il x28), 
 (Il x29), c30]), (V.agg 4 [(Il x31), (Il x32), 
 (Il x33), (Il x34)]), (V.c (Il x16)), 
 (V.c (Il x17))] m18 (fun v35 m36 => ∃ b37 : Bool, (v35 = (V.c (C.bool b37))) ∧ 
 ∃ b38 : Bool, ((ldC m36 (C.ptr m2.nxt 0)) = (some (C.bool b38))) ∧ 
 ((ldC m18 (C.ptr m2.nxt 0)) = (some (C.bool b38))) ∧ ifB (b37 == b38) (∃ m39 : M, 
 ((stC m36 (C.ptr m3.nxt 0) 1 [(C.bool true)]) = (some m39)) ∧ R15 Ex.ret m39) (R15 Ex.nrm m36)))) (After.mk (fun m40 => 
 ∃ m41 : M, ((stC m40 (C.ptr m3.nxt 0) 1 [(C.bool false)]) = (some m41)) ∧ 
 ∃ b42 : Bool, ((ldC m41 (C.ptr m3.nxt 0)) = (some (C.bool b42))) ∧ Q (V.c (C.bool b42)) m41) [] (fun m43 => 
 ∃ b44 : Bool, ((ldC m43 (C.ptr m3.nxt 0)) = (some (C.bool b44))) ∧ Q (V.c (C.bool b44)) m43))))) : Wc prog tbl 109 [(V.agg 12 [(Il a100), (Il a101), (Il a102), (Il a103), (Il a104), (Il a105), (Il a106), (Il a107), (Il a108), (Il a109), (Il a110), a111]), (V.agg 4 [(Il a200), (Il a201), (Il a202), (Il a203)]), (V.agg 4 [(Il a300), (Il a301), (Il a302), (Il a303)]), (V.c (C.bool a400))] m Q :=
 wc_eq (n := 4) rfl (by kernel_rfl) (by kernel_rfl) h
theorem w112 {a100 : Int} {a101 : Int} {a102 : Int} {a103 : Int} {a104 : Int} {a105 : Int} {a106 : Int} {a107 : Int} {a108 : Int} {a109 : Int} {a110 : Int} {a111 : C} {a200 : Int} {a201 : Int} {a202 : Int} {a203 : Int} {a300 : Int} {a400 : Int} {m : M} {Q : V → M → Prop} (h :
 (∀ m0 : M, (m0 = (M.new m (AO.cells 12 [(Il a100), (Il a101), (Il a102), 
 (Il a103), (Il a104), (Il a105), (Il a106), 
 (Il a107), (Il a108), (Il a109), (Il a110), 
 a111] false))) → ∀ m1 : M, (m1 = (M.new m0 (AO.cells 4 [(Il a200), (Il a201), 
 (Il a202), (Il a203)] false))) → ∃ x2, ∃ x3, ∃ x4, 
 ∃ x5, ∃ x6, ∃ x7, ∃ x8, ∃ x9, ∃ x10, ∃ x11, ∃ x12, 
 ∃ c13 : C, ((ldA m1 (C.ptr m.nxt 0) 12) = (some [(Il x2), (Il x3), 
 (Il x4), (Il x5), (Il x6), (Il x7), 
 (Il x8), (Il x9), (Il x10), (Il x11), 
 (Il x12), c13])) ∧ ∃ x14, ∃ x15, ∃ x16, ∃ x17, 
 ((ldA m1 (C.ptr m0.nxt 0) 4) = (some [(Il x14), (Il x15), 
 (Il x16), (Il x17)])) ∧ Wc prog tbl 113 [(V.agg 12 [(Il x2), 
 (Il x3), (Il x4), (Il x5), (Il x6), 
 (Il x7), (Il x8), (Il x9), (Il x10), 
 (Il x11), (Il x12), c13]), (V.agg 4 [(Il x14), 
 (Il x15), (Il x16), (Il x17)]), (V.c (Il a300)), 
 (V.c (Il a400))] m1 (fun v18 m19 => ∃ x20, (v18 = (V.c (Il x20))) ∧ 
 isPt (C.ptr m.nxt 0) ∧ ∃ x21, ((ldC m19 (C.ptr m.nxt 0)) = (some (Il x21))) ∧ 
 ((ldC m1 (C.ptr m.nxt 0)) = (some (Il x21))) ∧ fitsP .i64 (x21 - 1) ∧ 
 isPt (C.ptr m0.nxt 0) ∧ ∃ x22, ((ldC m19 (C.ptr m0.nxt 2)) = (some (Il x22))) ∧ 
 ((ldC m1 (C.ptr m0.nxt 2)) = (some (Il x22))) ∧ ((0 : Int) ≤ (x21 - 1)) ∧ 
 ((0 : Int) ≤ x22) ∧ fitsP .i64 ((x21 - 1) * x22) ∧ Q (V.c (C.bool (decide (x20 ≤ ((x21 - 1) * x22))))) m19))) : Wc prog tbl 112 [(V.agg 12 [(Il a100), (Il a101), (Il a102), (Il a103), (Il a104), (Il a105), (Il a106), (Il a107), (Il a108), (Il a109), (Il a110), a111]), (V.agg 4 [(Il a200), (Il a201), (Il a202), (Il a203)]), (V.c (Il a300)), (V.c (Il a400))] m Q :=
 wc_eq (n := 4) rfl (by kernel_rfl) (by kernel_rfl) h
theorem w116 {a100 : Int} {a101 : Int} {a102 : Int} {a103 : Int} {a104 : Int} {a105 : Int} {a106 : Int} {a107 : Int} {a108 : Int} {a109 : Int} {a110 : Int} {a111 : C} {m : M} {Q : V → M → Prop} (h :
 (∀ m0 : M, (m0 = (M.new m (AO.cells 12 [(Il a100), (Il a101), (Il a102), 
 (Il a103), (Il a104), (Il a105), (Il a106), 
 (Il a107), (Il a108), (Il a109), (Il a110), 
 a111] false))) → Q (V.c (C.fn (Fn.func 130) [] [(W.c (C0.ptr m.nxt 0))])) m0)) : Wc prog tbl 116 [(V.agg 12 [(Il a100), (Il a101), (Il a102), (Il a103), (Il a104), (Il a105), (Il a106), (Il a107), (Il a108), (Il a109), (Il a110), a111])] m Q :=
 wc_eq (n := 1) rfl (by kernel_rfl) (by kernel_rfl) h
theorem w120 {a100 : Int} {a101 : Int} {a200 : Int} {m : M} {Q : V → M → Prop} (h :
 (∀ m0 : M, (m0 = (M.new m (AO.cells 2 [(Il a100), (Il a101)] false))) → isPt (C.ptr m.nxt 0) ∧ 
 ∃ x1, ((ldC m0 (C.ptr m.nxt 0)) = (some (Il x1))) ∧ ifB (decide (x1 ≤ a200)) (isPt (C.ptr m.nxt 0) ∧ 
 ∃ x2, ((ldC m0 (C.ptr m.nxt 1)) = (some (Il x2))) ∧ Q (V.c (C.bool (decide (a200 ≤ x2)))) m0) (Q (V.c (C.bool false)) m0))) : Wc prog tbl 120 [(V.agg 2 [(Il a100), (Il a101)]), (V.c (Il a200))] m Q :=
 wc_eq (n := 2) rfl (by kernel_rfl) (by kernel_rfl) h
theorem w123 {a100 : C} {a200 : C} {m : M} {Q : V → M → Prop} (h :
 (∀ m0 : M, (m0 = (M.new m (AO.cells 1 [a200] false))) → Wc prog tbl 134 [(V.c a100), (V.c (C.fn (Fn.func 135) [] [(W.c (C0.ptr m.nxt 0))]))] m0 (fun v1 m2 => 
 ∃ b3 : Bool, (v1 = (V.c (C.bool b3))) ∧ Q (V.c (C.bool (!b3))) m2))) : Wc prog tbl 123 [(V.c a100), (V.c a200)] m Q :=
 wc_eq (n := 2) rfl (by kernel_rfl) (by kernel_rfl) h
theorem w126 {a100 : C} {a200 : C} {m : M} {Q : V → M → Prop} (h :
 (Wc prog tbl 136 [(V.c a100), (V.c a200)] m (fun v0 m1 => ∃ x2, (v0 = (V.c (Il x2))) ∧ Q (V.c (C.bool (decide ((0 : Int) ≤ x2)))) m1))) : Wc prog tbl 126 [(V.c a100), (V.c a200)] m Q :=
 wc_eq (n := 2) rfl (by kernel_rfl) (by kernel_rfl) h
theorem w133 {a100 : Int} {a101 : Int} {a102 : Int} {a103 : Int} {a104 : Bool} {a105 : Int} {a106 : Int} {m : M} {Q : V → M → Prop} (h :
 (∀ m0 : M, (m0 = (M.new m (AO.cells 7 [(Il a100), (Il a101), (Il a102), 
 (Il a103), (C.bool a104), (Il a105), (Il a106)] false))) → 
 ∀ m1 : M, (m1 = (M.new m0 (AO.cells 4 [(Il 0), (Il 0), (Il 0), 
 (Il 0)] false))) → isPt (C.ptr m.nxt 0) ∧ ∃ x2, ∃ x3, ((ldA m1 (C.ptr m.nxt 0) 2) = (some [(Il x2), 
 (Il x3)])) ∧ isPt (C.ptr m.nxt 0) ∧ ∃ x4, ∃ x5, ((ldA m1 (C.ptr m.nxt 2) 2) = (some [(Il x4), 
 (Il x5)])) ∧ ∃ m6 : M, ((stC m1 (C.ptr m0.nxt 0) 4 [(Il x2), 
 (Il x3), (Il x4), (Il x5)]) = (some m6)) ∧ 
 ∃ x7, ∃ x8, ∃ x9, ∃ x10, ((ldA m6 (C.ptr m0.nxt 0) 4) = (some [(Il x7), 
 (Il x8), (Il x9), (Il x10)])) ∧ Q (V.agg 4 [(Il x7), 
 (Il x8), (Il x9), (Il x10)]) m6)) : Wc prog tbl 133 [(V.agg 7 [(Il a100), (Il a101), (Il a102), (Il a103), (C.bool a104), (Il a105), (Il a106)])] m Q :=
 wc_eq (n := 1) rfl (by kernel_rfl) (by kernel_rfl) h
theorem w139 {a100 : C} {a200 : C} {m : M} {Q : V → M → Prop} (h :
 (isSl a100 ∧ ∀ R0 : List V → M → Prop, (∀ x1 : Int, ∀ x2 : Int, ∀ m3 : M, (ifB (decide (x2 < (((slLen a100) : Nat) : Int))) (∃ n4 : Nat, 
 (x2 = ((n4 : Nat) : Int)) ∧ (n4 < (slLen a100)) ∧ ∃ x5, ∃ x6, ∃ x7, ∃ x8, 
 ∃ b9 : Bool, ∃ x10, ∃ x11, ((ldA m3 (slAt a100 (n4 * 7)) 7) = (some [(Il x5), 
 (Il x6), (Il x7), (Il x8), (C.bool b9), 
 (Il x10), (Il x11)])) ∧ callP prog tbl [(V.agg 7 [(Il x5), 
 (Il x6), (Il x7), (Il x8), (C.bool b9), 
 (Il x10), (Il x11)])] a200 m3 (fun v12 m13 => ∃ b14 : Bool, 
 (v12 = (V.c (C.bool b14))) ∧ ifB b14 (Q (V.c (Il x2)) m13) (fitsP .i64 (x2 + 1) ∧ 
 R0 [(V.c (Il x1)), (V.c (Il (x2 + 1)))] m13))) (Q (V.c (Il (-1 : Int))) m3)) → 
 R0 [(V.c (Il x1)), (V.c (Il x2))] m3) → R0 [(V.c (Il 0)), 
 (V.c (Il 0))] m)) : Wc prog tbl 139 [(V.c a100), (V.c a200)] m Q :=
 wc_eq (n := 2) rfl (by kernel_rfl) (by kernel_rfl) h
end
end Go.Proofs.Ytbnfnhfanooplaa

namespace Go.Proofs.Ytbnfnhfanooplaa
open _root_.Go.Proofs.Try
open Go.Abs
set_option maxRecDepth 100000
noncomputable section
theorem w19 {a100 : Int} {a101 : Int} {a102 : Int} {a103 : Int} {a104 : Int} {a105 : Int} {a106 : Int} {a107 : Int} {a108 : Int} {a109 : Int} {a110 : Int} {a111 : C} {m : M} {Q : V → M → Prop} (h :
 (∀ m0 : M, (m0 = (M.new m (AO.cells 12 [(Il a100), (Il a101), (Il a102), 
 (Il a103), (Il a104), (Il a105), (Il a106), 
 (Il a107), (Il a108), (Il a109), (Il a110), 
 a111] false))) → ∀ m1 : M, (m1 = (M.new m0 (AO.cells 12 [(Il 0), (Il 0), 
 (Il 0), (Il 0), (Il 0), (Il 0), 
 (Il 0), (Il 0), (Il 0), (Il 0), 
 (Il 0), C.sl0] false))) → ∀ m2 : M, (m2 = (mGrow m1 1)) → isPt (C.ptr m.nxt 0) ∧ 
 ∃ x3, ((ldC m2 (C.ptr m.nxt 0)) = (some (Il x3))) ∧ isPt (C.ptr m.nxt 0) ∧ 
 ∃ x4, ((ldC m2 (C.ptr m.nxt 1)) = (some (Il x4))) ∧ isPt (C.ptr m.nxt 0) ∧ 
 ∃ x5, ((ldC m2 (C.ptr m.nxt 2)) = (some (Il x5))) ∧ isPt (C.ptr m.nxt 0) ∧ 
 ∃ x6, ∃ x7, ((ldA m2 (C.ptr m.nxt 3) 2) = (some [(Il x6), 
 (Il x7)])) ∧ Wc prog tbl 32 [(V.agg 2 [(Il x6), (Il x7)])] m2 (fun v8 m9 => 
 ∃ x10, ∃ x11, (v8 = (V.agg 2 [(Il x10), (Il x11)])) ∧ 
 ((ldC m9 (C.ptr m.nxt 2)) = (some (Il x5))) ∧ ((ldC m9 (C.ptr m.nxt 1)) = (some (Il x4))) ∧ 
 ((ldC m9 (C.ptr m.nxt 0)) = (some (Il x3))) ∧ isPt (C.ptr m.nxt 0) ∧ 
 ∃ x12, ∃ x13, ((ldA m9 (C.ptr m.nxt 5) 2) = (some [(Il x12), 
 (Il x13)])) ∧ ((ldA m2 (C.ptr m.nxt 5) 2) = (some [(Il x12), 
 (Il x13)])) ∧ Wc prog tbl 32 [(V.agg 2 [(Il x12), 
 (Il x13)])] m9 (fun v14 m15 => ∃ x16, ∃ x17, (v14 = (V.agg 2 [(Il x16), 
 (Il x17)])) ∧ ((ldC m15 (C.ptr m.nxt 2)) = (some (Il x5))) ∧ 
 ((ldC m15 (C.ptr m.nxt 1)) = (some (Il x4))) ∧ ((ldC m15 (C.ptr m.nxt 0)) = (some (Il x3))) ∧ 
 isPt (C.ptr m.nxt 0) ∧ ∃ x18, ∃ x19, ((ldA m15 (C.ptr m.nxt 7) 2) = (some [(Il x18), 
 (Il x19)])) ∧ ((ldA m9 (C.ptr m.nxt 7) 2) = (some [(Il x18), 
 (Il x19)])) ∧ ((ldA m2 (C.ptr m.nxt 7) 2) = (some [(Il x18), 
 (Il x19)])) ∧ Wc prog tbl 32 [(V.agg 2 [(Il x18), 
 (Il x19)])] m15 (fun v20 m21 => ∃ x22, ∃ x23, (v20 = (V.agg 2 [(Il x22), 
 (Il x23)])) ∧ ((ldC m21 (C.ptr m.nxt 2)) = (some (Il x5))) ∧ 
 ((ldC m21 (C.ptr m.nxt 1)) = (some (Il x4))) ∧ ((ldC m21 (C.ptr m.nxt 0)) = (some (Il x3))) ∧ 
 isPt (C.ptr m.nxt 0) ∧ ∃ x24, ∃ x25, ((ldA m21 (C.ptr m.nxt 9) 2) = (some [(Il x24), 
 (Il x25)])) ∧ ((ldA m15 (C.ptr m.nxt 9) 2) = (some [(Il x24), 
 (Il x25)])) ∧ ((ldA m9 (C.ptr m.nxt 9) 2) = (some [(Il x24), 
 (Il x25)])) ∧ ((ldA m2 (C.ptr m.nxt 9) 2) = (some [(Il x24), 
 (Il x25)])) ∧ Wc prog tbl 32 [(V.agg 2 [(Il x24), 
 (Il x25)])] m21 (fun v26 m27 => ∃ x28, ∃ x29, (v26 = (V.agg 2 [(Il x28), 
 (Il x29)])) ∧ ((ldC m27 (C.ptr m.nxt 2)) = (some (Il x5))) ∧ 
 ((ldC m27 (C.ptr m.nxt 1)) = (some (Il x4))) ∧ ((ldC m27 (C.ptr m.nxt 0)) = (some (Il x3))) ∧ 
 ∀ m30 : M, (m30 = (M.set m27 (m1.nxt + 0) (AO.cells 12 [(Il 0), 
 (Il 0), (Il 0), (Il 0), 
 (Il 0), (Il 0), (Il 0), 
 (Il 0), (Il 0), (Il 0), 
 (Il 0), C.sl0] false))) → ((ldA m30 (C.ptr m.nxt 9) 2) = (some [(Il x24), 
 (Il x25)])) ∧ ((ldA m30 (C.ptr m.nxt 7) 2) = (some [(Il x18), 
 (Il x19)])) ∧ ((ldA m30 (C.ptr m.nxt 5) 2) = (some [(Il x12), 
 (Il x13)])) ∧ ((ldA m30 (C.ptr m.nxt 3) 2) = (some [(Il x6), 
 (Il x7)])) ∧ ((ldC m30 (C.ptr m.nxt 2)) = (some (Il x5))) ∧ 
 ((ldC m30 (C.ptr m.nxt 1)) = (some (Il x4))) ∧ ((ldC m30 (C.ptr m.nxt 0)) = (some (Il x3))) ∧ 
 ∃ m31 : M, ((stC m30 (C.ptr (m1.nxt + 0) 0) 12 [(Il x3), (Il x4), 
 (Il x5), (Il x10), (Il x11), (Il x16), 
 (Il x17), (Il x22), (Il x23), (Il x28), 
 (Il x29), C.sl0]) = (some m31)) ∧ ∀ R32 : List V → M → 
 Prop, (∀ x33 : Int, ∀ m34 : M, (isPt (C.ptr m.nxt 0) ∧ ∃ c35 : C, ((ldC m34 (C.ptr m.nxt 11)) = (some c35)) ∧ 
 isSl c35 ∧ ifB (decide (x33 < (((slLen c35) : Nat) : Int))) (isPt (C.ptr m.nxt 0) ∧ 
 ∃ c36 : C, ((ldC m34 (C.ptr m.nxt 11)) = (some c36)) ∧ ∃ n37 : Nat, 
 (x33 = ((n37 : Nat) : Int)) ∧ (n37 < (slLen c36)) ∧ ∃ x38, ∃ x39, 
 ∃ x40, ∃ x41, ∃ b42 : Bool, ∃ x43, ∃ x44, ((ldA m34 (slAt c36 (n37 * 7)) 7) = (some [(Il x38), 
 (Il x39), (Il x40), (Il x41), (C.bool b42), 
 (Il x43), (Il x44)])) ∧ ∀ m45 : M, (m45 = (M.new m34 (AO.cells 7 [(Il 0), 
 (Il 0), (Il 0), (Il 0), 
 (C.bool false), (Il 0), (Il 0)] false))) → 
 ∃ m46 : M, ((stC m45 (C.ptr m34.nxt 0) 7 [(Il x38), (Il x39), 
 (Il x40), (Il x41), (C.bool b42), (Il x43), 
 (Il x44)]) = (some m46)) ∧ isPt (C.ptr (m1.nxt + 0) 0) ∧ 
 ∃ c47 : C, ((ldC m46 (C.ptr (m1.nxt + 0) 11)) = (some c47)) ∧ isPt (C.ptr m34.nxt 0) ∧ 
 ∃ x48, ∃ x49, ((ldA m46 (C.ptr m34.nxt 0) 2) = (some [(Il x48), 
 (Il x49)])) ∧ Wc prog tbl 32 [(V.agg 2 [(Il x48), 
 (Il x49)])] m46 (fun v50 m51 => ∃ x52, ∃ x53, (v50 = (V.agg 2 [(Il x52), 
 (Il x53)])) ∧ (ifB (cmC c47) ((ldC m51 (C.ptr (m1.nxt + 0) 11)) = (some c47)) False) ∧ 
 isPt (C.ptr m34.nxt 0) ∧ ∃ x54, ∃ x55, ((ldA m51 (C.ptr m34.nxt 2) 2) = (some [(Il x54), 
 (Il x55)])) ∧ ((ldA m46 (C.ptr m34.nxt 2) 2) = (some [(Il x54), 
 (Il x55)])) ∧ Wc prog tbl 32 [(V.agg 2 [(Il x54), 
 (Il x55)])] m51 (fun v56 m57 => ∃ x58, ∃ x59, (v56 = (V.agg 2 [(Il x58), 
 (Il x59)])) ∧ (ifB (cmC c47) ((ldC m57 (C.ptr (m1.nxt + 0) 11)) = (some c47)) False) ∧ 
 isPt (C.ptr m34.nxt 0) ∧ ∃ b60 : Bool, ((ldC m57 (C.ptr m34.nxt 4)) = (some (C.bool b60))) ∧ 
 ((ldC m51 (C.ptr m34.nxt 4)) = (some (C.bool b60))) ∧ ((ldC m46 (C.ptr m34.nxt 4)) = (some (C.bool b60))) ∧ 
 isPt (C.ptr m34.nxt 0) ∧ ∃ x61, ∃ x62, ((ldA m57 (C.ptr m34.nxt 5) 2) = (some [(Il x61), 
 (Il x62)])) ∧ ((ldA m51 (C.ptr m34.nxt 5) 2) = (some [(Il x61), 
 (Il x62)])) ∧ ((ldA m46 (C.ptr m34.nxt 5) 2) = (some [(Il x61), 
 (Il x62)])) ∧ Wc prog tbl 32 [(V.agg 2 [(Il x61), 
 (Il x62)])] m57 (fun v63 m64 => ∃ x65, ∃ x66, (v63 = (V.agg 2 [(Il x65), 
 (Il x66)])) ∧ ((ldC m64 (C.ptr m34.nxt 4)) = (some (C.bool b60))) ∧ 
 (ifB (cmC c47) ((ldC m64 (C.ptr (m1.nxt + 0) 11)) = (some c47)) False) ∧ 
 ∀ m67 : M, (m67 = (M.new m64 (AO.cells 7 [(Il x52), (Il x53), 
 (Il x58), (Il x59), (C.bool b60), (Il x65), 
 (Il x66)] false))) → (ifB (cmC c47) ((ldC m67 (C.ptr (m1.nxt + 0) 11)) = (some c47)) False) ∧ 
 ∃ c68 : C, ∃ m69 : M, (ApR prog 35 m67 c47 (C.sl m64.nxt 0 1 0 (some 1)) c68 m69) ∧ 
 isPt (C.ptr (m1.nxt + 0) 0) ∧ ∃ m70 : M, ((stC m69 (C.ptr (m1.nxt + 0) 11) 1 [c68]) = (some m70)) ∧ 
 fitsP .i64 (x33 + 1) ∧ R32 [(V.c (Il (x33 + 1)))] m70)))) (∃ x71, 
 ∃ x72, ∃ x73, ∃ x74, ∃ x75, ∃ x76, ∃ x77, 
 ∃ x78, ∃ x79, ∃ x80, ∃ x81, ∃ c82 : C, ((ldA m34 (C.ptr (m1.nxt + 0) 0) 12) = (some [(Il x71), 
 (Il x72), (Il x73), (Il x74), (Il x75), 
 (Il x76), (Il x77), (Il x78), (Il x79), 
 (Il x80), (Il x81), c82])) ∧ ∃ m83 : M, ((stC m34 (C.ptr m0.nxt 0) 12 [(Il x71), 
 (Il x72), (Il x73), (Il x74), (Il x75), 
 (Il x76), (Il x77), (Il x78), (Il x79), 
 (Il x80), (Il x81), c82]) = (some m83)) ∧ 
 ∃ x84, ∃ x85, ∃ x86, ∃ x87, ∃ x88, ∃ x89, 
 ∃ x90, ∃ x91, ∃ x92, ∃ x93, ∃ x94, ∃ c95 : C, 
 ((ldA m83 (C.ptr m0.nxt 0) 12) = (some [(Il x84), (Il x85), 
 (Il x86), (Il x87), (Il x88), (Il x89), 
 (Il x90), (Il x91), (Il x92), (Il x93), 
 (Il x94), c95])) ∧ Q (V.agg 12 [(Il x84), (Il x85), 
 (Il x86), (Il x87), (Il x88), (Il x89), 
 (Il x90), (Il x91), (Il x92), (Il x93), 
 (Il x94), c95]) m83)) → R32 [(V.c (Il x33))] m34) → 
 R32 [(V.c (Il 0))] m31)))))) : Wc prog tbl 19 [(V.agg 12 [(Il a100), (Il a101), (Il a102), (Il a103), (Il a104), (Il a105), (Il a106), (Il a107), (Il a108), (Il a109), (Il a110), a111])] m Q :=
 wc_eq (n := 1) rfl (by kernel_rfl) (by kernel_rfl) h
theorem w22 {a100 : Int} {a101 : Int} {a102 : Int} {a103 : Int} {a104 : Int} {a105 : Int} {a106 : Int} {a107 : Int} {a108 : Int} {a109 : Int} {a110 : Int} {a111 : C} {m : M} {Q : V → M → Prop} (h :
 (∀ m0 : M, (m0 = (M.new m (AO.cells 12 [(Il a100), (Il a101), (Il a102), 
 (Il a103), (Il a104), (Il a105), (Il a106), 
 (Il a107), (Il a108), (Il a109), (Il a110), 
 a111] false))) → ∃ x1, ∃ x2, ∃ x3, ∃ x4, ∃ x5, ∃ x6, ∃ x7, 
 ∃ x8, ∃ x9, ∃ x10, ∃ x11, ∃ c12 : C, ((ldA m0 (C.ptr m.nxt 0) 12) = (some [(Il x1), 
 (Il x2), (Il x3), (Il x4), (Il x5), 
 (Il x6), (Il x7), (Il x8), (Il x9), 
 (Il x10), (Il x11), c12])) ∧ Wc prog tbl 23 [(V.agg 12 [(Il x1), 
 (Il x2), (Il x3), (Il x4), (Il x5), 
 (Il x6), (Il x7), (Il x8), (Il x9), 
 (Il x10), (Il x11), c12])] m0 (fun v13 m14 => ∃ x15, 
 (v13 = (V.c (Il x15))) ∧ ifB (!decide (x15 = 0)) (Q (V.tup [(U.c C.sl0), 
 (U.c (Il x15))]) m14) (∃ x16, ∃ x17, ∃ x18, ∃ x19, 
 ∃ x20, ∃ x21, ∃ x22, ∃ x23, ∃ x24, ∃ x25, 
 ∃ x26, ∃ c27 : C, ((ldA m14 (C.ptr m.nxt 0) 12) = (some [(Il x16), 
 (Il x17), (Il x18), (Il x19), (Il x20), 
 (Il x21), (Il x22), (Il x23), (Il x24), 
 (Il x25), (Il x26), c27])) ∧ Wc prog tbl 63 [(V.agg 12 [(Il x16), 
 (Il x17), (Il x18), (Il x19), (Il x20), 
 (Il x21), (Il x22), (Il x23), (Il x24), 
 (Il x25), (Il x26), c27])] m14 (fun v28 m29 => 
 ∃ c30 : C, (v28 = (V.c c30)) ∧ isSl c30 ∧ ifB (decide ((((slLen c30) : Nat) : Int) = (0 : Int))) (Q (V.tup [(U.c C.sl0), 
 (U.c (Il (11 : Int)))]) m29) (Q (V.tup [(U.c c30), (U.c (Il 0))]) m29)))))) : Wc prog tbl 22 [(V.agg 12 [(Il a100), (Il a101), (Il a102), (Il a103), (Il a104), (Il a105), (Il a106), (Il a107), (Il a108), (Il a109), (Il a110), a111])] m Q :=
 wc_eq (n := 1) rfl (by kernel_rfl) (by kernel_rfl) h
theorem w25 {a100 : Int} {a101 : Int} {a102 : Int} {a103 : Int} {a104 : Int} {a105 : Int} {a106 : Int} {a107 : Int} {a108 : Int} {a109 : Int} {a110 : Int} {a111 : C} {a200 : C} {a300 : Int} {a301 : Int} {a302 : Int} {a303 : Int} {m : M} {Q : V → M → Prop} (h :
 (∀ m0 : M, (m0 = (M.new m (AO.cells 12 [(Il a100), (Il a101), (Il a102), 
 (Il a103), (Il a104), (Il a105), (Il a106), 
 (Il a107), (Il a108), (Il a109), (Il a110), 
 a111] false))) → ∀ m1 : M, (m1 = (M.new m0 (AO.cells 4 [(Il a300), (Il a301), 
 (Il a302), (Il a303)] false))) → ∀ R2 : List V → M → Prop, (∀ b3 : Bool, 
 ∀ b4 : Bool, ∀ x5 : Int, ∀ m6 : M, (isSl a200 ∧ ifB (decide (x5 < (((slLen a200) : Nat) : Int))) (∃ x7, 
 ∃ x8, ∃ x9, ∃ x10, ∃ x11, ∃ x12, ∃ x13, ∃ x14, 
 ∃ x15, ∃ x16, ∃ x17, ∃ c18 : C, ((ldA m6 (C.ptr m.nxt 0) 12) = (some [(Il x7), 
 (Il x8), (Il x9), (Il x10), (Il x11), 
 (Il x12), (Il x13), (Il x14), (Il x15), 
 (Il x16), (Il x17), c18])) ∧ ∃ n19 : Nat, (x5 = ((n19 : Nat) : Int)) ∧ 
 (n19 < (slLen a200)) ∧ ∃ x20, ∃ x21, ∃ x22, ∃ x23, 
 ((ldA m6 (slAt a200 (n19 * 4)) 4) = (some [(Il x20), (Il x21), 
 (Il x22), (Il x23)])) ∧ ∃ x24, ∃ x25, 
 ∃ x26, ∃ x27, ((ldA m6 (C.ptr m0.nxt 0) 4) = (some [(Il x24), 
 (Il x25), (Il x26), (Il x27)])) ∧ 
 Wc prog tbl 26 [(V.agg 12 [(Il x7), (Il x8), (Il x9), 
 (Il x10), (Il x11), (Il x12), (Il x13), 
 (Il x14), (Il x15), (Il x16), (Il x17), 
 c18]), (V.agg 4 [(Il x20), (Il x21), (Il x22), 
 (Il x23)]), (V.agg 4 [(Il x24), (Il x25), 
 (Il x26), (Il x27)])] m6 (fun v28 m29 => ∃ b30 : Bool, 
 ∃ b31 : Bool, (v28 = (V.tup [(U.c (C.bool b30)), (U.c (C.bool b31))])) ∧ ifB b3 (ifB b4 (fitsP .i64 (x5 + 1) ∧ 
 R2 [(V.c (C.bool (!b30))), (V.c (C.bool b31)), (V.c (Il (x5 + 1)))] m29) (fitsP .i64 (x5 + 1) ∧ 
 R2 [(V.c (C.bool (!b30))), (V.c (C.bool false)), (V.c (Il (x5 + 1)))] m29)) (ifB b4 (fitsP .i64 (x5 + 1) ∧ 
 R2 [(V.c (C.bool false)), (V.c (C.bool b31)), (V.c (Il (x5 + 1)))] m29) (fitsP .i64 (x5 + 1) ∧ 
 R2 [(V.c (C.bool false)), (V.c (C.bool false)), (V.c (Il (x5 + 1)))] m29)))) (ifB b4 (Q (V.c (Il (1 : Int))) m6) (ifB b3 (Q (V.c (Il (2 : Int))) m6) (Q (V.c (Il (3 : Int))) m6)))) → 
 R2 [(V.c (C.bool b3)), (V.c (C.bool b4)), (V.c (Il x5))] m6) → R2 [(V.c (C.bool true)), 
 (V.c (C.bool true)), (V.c (Il 0))] m1)) : Wc prog tbl 25 [(V.agg 12 [(Il a100), (Il a101), (Il a102), (Il a103), (Il a104), (Il a105), (Il a106), (Il a107), (Il a108), (Il a109), (Il a110), a111]), (V.c a200), (V.agg 4 [(Il a300), (Il a301), (Il a302), (Il a303)])] m Q :=
 wc_eq (n := 3) rfl (by kernel_rfl) (by kernel_rfl) h
theorem w28 {a100 : Int} {a101 : Int} {a102 : Int} {a103 : Int} {m : M} {Q : V → M → Prop} (h :
 (∀ m0 : M, (m0 = (M.new m (AO.cells 4 [(Il a100), (Il a101), (Il a102), 
 (Il a103)] false))) → ∀ m1 : M, (m1 = (M.new m0 (AO.cells 4 [(Il 0), 
 (Il 0), (Il 0), (Il 0)] false))) → 
 isPt (C.ptr m.nxt 0) ∧ ∃ x2, ((ldC m1 (C.ptr m.nxt 0)) = (some (Il x2))) ∧ 
 isPt (C.ptr m.nxt 0) ∧ ∃ x3, ((ldC m1 (C.ptr m.nxt 1)) = (some (Il x3))) ∧ 
 isPt (C.ptr m.nxt 0) ∧ ∃ x4, ((ldC m1 (C.ptr m.nxt 2)) = (some (Il x4))) ∧ 
 isPt (C.ptr m.nxt 0) ∧ ∃ x5, ((ldC m1 (C.ptr m.nxt 3)) = (some (Il x5))) ∧ 
 ∃ m6 : M, ((stC m1 (C.ptr m0.nxt 0) 4 [(Il x2), (Il x3), 
 (Il x4), (Il x5)]) = (some m6)) ∧ ∃ x7, ∃ x8, 
 ∃ x9, ∃ x10, ((ldA m6 (C.ptr m0.nxt 0) 4) = (some [(Il x7), 
 (Il x8), (Il x9), (Il x10)])) ∧ Q (V.agg 4 [(Il x7), 
 (Il x8), (Il x9), (Il x10)]) m6)) : Wc prog tbl 28 [(V.agg 4 [(Il a100), (Il a101), (Il a102), (Il a103)])] m Q :=
 wc_eq (n := 1) rfl (by kernel_rfl) (by kernel_rfl) h
theorem w31 {a100 : Int} {a200 : Int} {a300 : Int} {m : M} {Q : V → M → Prop} (h :
 (ifB (decide (a200 ≤ a100)) (Q (V.c (C.bool (decide (a100 ≤ a300)))) m) (Q (V.c (C.bool false)) m))) : Wc prog tbl 31 [(V.c (Il a100)), (V.c (Il a200)), (V.c (Il a300))] m Q :=
 wc_eq (n := 3) rfl (by kernel_rfl) (by kernel_rfl) h
theorem w58 {a100 : Int} {a101 : Int} {a102 : Int} {a103 : Int} {a104 : Int} {a105 : Int} {a106 : Int} {a107 : Int} {a108 : Int} {a109 : Int} {a110 : Int} {a111 : C} {m : M} {Q : V → M → Prop} (h :
 (∀ m0 : M, (m0 = (M.new m (AO.cells 12 [(Il a100), (Il a101), (Il a102), 
 (Il a103), (Il a104), (Il a105), (Il a106), 
 (Il a107), (Il a108), (Il a109), (Il a110), 
 a111] false))) → isPt (C.ptr m.nxt 0) ∧ ∃ c1 : C, ((ldC m0 (C.ptr m.nxt 11)) = (some c1)) ∧ 
 isSl c1 ∧ ((0 : Int) ≤ (1 : Int)) ∧ ((0 : Int) ≤ (wrapZ .u64 (((slLen c1) : Nat) : Int))) ∧ 
 ((wrapZ .u64 (((slLen c1) : Nat) : Int)) ≤ (64 : Int)) ∧ fitsP .i64 ((1 : Int) * ((2 : Int) ^ (Int.toNat (wrapZ .u64 (((slLen c1) : Nat) : Int))))) ∧ 
 fitsP .i64 (((1 : Int) * ((2 : Int) ^ (Int.toNat (wrapZ .u64 (((slLen c1) : Nat) : Int))))) - (1 : Int)) ∧ 
 Q (V.c (Il (((1 : Int) * ((2 : Int) ^ (Int.toNat (wrapZ .u64 (((slLen c1) : Nat) : Int))))) - (1 : Int)))) m0)) : Wc prog tbl 58 [(V.agg 12 [(Il a100), (Il a101), (Il a102), (Il a103), (Il a104), (Il a105), (Il a106), (Il a107), (Il a108), (Il a109), (Il a110), a111])] m Q :=
 wc_eq (n := 1) rfl (by kernel_rfl) (by kernel_rfl) h
theorem w67 {a100 : Int} {a101 : Int} {a102 : Int} {a103 : Int} {a104 : Int} {a105 : Int} {a106 : Int} {a107 : Int} {a108 : Int} {a109 : Int} {a110 : Int} {a111 : C} {m : M} {Q : V → M → Prop} (h :
 (∀ m0 : M, (m0 = (M.new m (AO.cells 12 [(Il a100), (Il a101), (Il a102), 
 (Il a103), (Il a104), (Il a105), (Il a106), 
 (Il a107), (Il a108), (Il a109), (Il a110), 
 a111] false))) → isPt (C.ptr m.nxt 0) ∧ ∃ x1, ∃ x2, ((ldA m0 (C.ptr m.nxt 3) 2) = (some [(Il x1), 
 (Il x2)])) ∧ Wc prog tbl 62 [(V.agg 2 [(Il x1), (Il x2)])] m0 (fun v3 m4 => 
 ∃ x5, (v3 = (V.c (Il x5))) ∧ isPt (C.ptr m.nxt 0) ∧ ∃ x6, ∃ x7, 
 ((ldA m4 (C.ptr m.nxt 5) 2) = (some [(Il x6), (Il x7)])) ∧ 
 ((ldA m0 (C.ptr m.nxt 5) 2) = (some [(Il x6), (Il x7)])) ∧ 
 Wc prog tbl 62 [(V.agg 2 [(Il x6), (Il x7)])] m4 (fun v8 m9 => 
 ∃ x10, (v8 = (V.c (Il x10))) ∧ ((0 : Int) ≤ x5) ∧ ((0 : Int) ≤ x10) ∧ 
 fitsP .i64 (x5 * x10) ∧ isPt (C.ptr m.nxt 0) ∧ ∃ x11, ∃ x12, 
 ((ldA m9 (C.ptr m.nxt 7) 2) = (some [(Il x11), (Il x12)])) ∧ 
 ((ldA m4 (C.ptr m.nxt 7) 2) = (some [(Il x11), (Il x12)])) ∧ 
 ((ldA m0 (C.ptr m.nxt 7) 2) = (some [(Il x11), (Il x12)])) ∧ 
 Wc prog tbl 62 [(V.agg 2 [(Il x11), (Il x12)])] m9 (fun v13 m14 => 
 ∃ x15, (v13 = (V.c (Il x15))) ∧ ((0 : Int) ≤ (x5 * x10)) ∧ 
 ((0 : Int) ≤ x15) ∧ fitsP .i64 ((x5 * x10) * x15) ∧ isPt (C.ptr m.nxt 0) ∧ 
 ∃ x16, ∃ x17, ((ldA m14 (C.ptr m.nxt 9) 2) = (some [(Il x16), 
 (Il x17)])) ∧ ((ldA m9 (C.ptr m.nxt 9) 2) = (some [(Il x16), 
 (Il x17)])) ∧ ((ldA m4 (C.ptr m.nxt 9) 2) = (some [(Il x16), 
 (Il x17)])) ∧ ((ldA m0 (C.ptr m.nxt 9) 2) = (some [(Il x16), 
 (Il x17)])) ∧ Wc prog tbl 62 [(V.agg 2 [(Il x16), 
 (Il x17)])] m14 (fun v18 m19 => ∃ x20, (v18 = (V.c (Il x20))) ∧ 
 ((0 : Int) ≤ ((x5 * x10) * x15)) ∧ ((0 : Int) ≤ x20) ∧ fitsP .i64 (((x5 * x10) * x15) * x20) ∧ 
 Q (V.c (Il (((x5 * x10) * x15) * x20))) m19)))))) : Wc prog tbl 67 [(V.agg 12 [(Il a100), (Il a101), (Il a102), (Il a103), (Il a104), (Il a105), (Il a106), (Il a107), (Il a108), (Il a109), (Il a110), a111])] m Q :=
 wc_eq (n := 1) rfl (by kernel_rfl) (by kernel_rfl) h
theorem w70 {a100 : Int} {a101 : Int} {a200 : Int} {a300 : Int} {m : M} {Q : V → M → Prop} (h :
 (∀ m0 : M, (m0 = (M.new m (AO.cells 2 [(Il a100), (Il a101)] false))) → isPt (C.ptr m.nxt 0) ∧ 
 ∃ x1, ((ldC m0 (C.ptr m.nxt 0)) = (some (Il x1))) ∧ ifB (decide (a200 ≤ x1)) (isPt (C.ptr m.nxt 0) ∧ 
 ∃ x2, ((ldC m0 (C.ptr m.nxt 0)) = (some (Il x2))) ∧ isPt (C.ptr m.nxt 0) ∧ 
 ∃ x3, ((ldC m0 (C.ptr m.nxt 1)) = (some (Il x3))) ∧ ifB (decide (x2 ≤ x3)) (isPt (C.ptr m.nxt 0) ∧ 
 ∃ x4, ((ldC m0 (C.ptr m.nxt 1)) = (some (Il x4))) ∧ Q (V.c (C.bool (decide (x4 ≤ a300)))) m0) (Q (V.c (C.bool false)) m0)) (Q (V.c (C.bool false)) m0))) : Wc prog tbl 70 [(V.agg 2 [(Il a100), (Il a101)]), (V.c (Il a200)), (V.c (Il a300))] m Q :=
 wc_eq (n := 3) rfl (by kernel_rfl) (by kernel_rfl) h
theorem w83 {a100 : Int} {m : M} {Q : V → M → Prop} (h :
 (∀ m0 : M, (m0 = (M.new m (AO.cells 6 [(C.bool false), (C.bool false), (C.bool false), (C.bool false), (C.bool false), 
 (C.bool false)] false))) → ∀ m1 : M, (m1 = (M.new m0 (AO.cells 6 [(C.bool false), (C.bool false), (C.bool false), 
 (C.bool false), (C.bool false), (C.bool false)] false))) → fitsP .i64 (a100 + 1) ∧ 
 ∀ R2 : List V → M → Prop, (∀ x3 : Int, ∀ m4 : M, (ifB (decide (x3 < (a100 + 1))) (isPt (C.ptr m0.nxt 0) ∧ 
 ∃ n5 : Nat, (x3 = ((n5 : Nat) : Int)) ∧ (n5 < 6) ∧ ∃ m6 : M, ((stC m4 (C.ptr m0.nxt (0 + (n5 * 1))) 1 [(C.bool true)]) = (some m6)) ∧ 
 fitsP .i64 (x3 + 1) ∧ R2 [(V.c (Il (x3 + 1)))] m6) (∃ b7 : Bool, 
 ∃ b8 : Bool, ∃ b9 : Bool, ∃ b10 : Bool, ∃ b11 : Bool, ∃ b12 : Bool, ((ldA m4 (C.ptr m0.nxt 0) 6) = (some [(C.bool b7), 
 (C.bool b8), (C.bool b9), (C.bool b10), (C.bool b11), (C.bool b12)])) ∧ ∃ m13 : M, ((stC m4 (C.ptr m.nxt 0) 6 [(C.bool b7), 
 (C.bool b8), (C.bool b9), (C.bool b10), (C.bool b11), (C.bool b12)]) = (some m13)) ∧ 
 ∃ b14 : Bool, ∃ b15 : Bool, ∃ b16 : Bool, ∃ b17 : Bool, ∃ b18 : Bool, ∃ b19 : Bool, 
 ((ldA m13 (C.ptr m.nxt 0) 6) = (some [(C.bool b14), (C.bool b15), (C.bool b16), 
 (C.bool b17), (C.bool b18), (C.bool b19)])) ∧ Q (V.agg 6 [(C.bool b14), (C.bool b15), 
 (C.bool b16), (C.bool b17), (C.bool b18), (C.bool b19)]) m13)) → 
 R2 [(V.c (Il x3))] m4) → R2 [(V.c (Il 0))] m1)) : Wc prog tbl 83 [(V.c (Il a100))] m Q :=
 wc_eq (n := 1) rfl (by kernel_rfl) (by kernel_rfl) h
theorem w86 {a100 : Int} {a101 : Int} {a102 : Int} {a103 : Int} {a104 : Int} {a105 : Int} {a106 : Int} {a107 : Int} {a108 : Int} {a109 : Int} {a110 : Int} {a111 : C} {a112 : C} {m : M} {Q : V → M → Prop} (h :
 (∀ m0 : M, (m0 = (M.new m (AO.cells 13 [(Il a100), (Il a101), (Il a102), 
 (Il a103), (Il a104), (Il a105), (Il a106), 
 (Il a107), (Il a108), (Il a109), (Il a110), 
 a111, a112] false))) → ∃ x1, ∃ x2, ∃ x3, ∃ x4, ∃ x5, ∃ x6, 
 ∃ x7, ∃ x8, ∃ x9, ∃ x10, ∃ x11, ∃ c12 : C, ∃ c13 : C, ((ldA m0 (C.ptr m.nxt 0) 13) = (some [(Il x1), 
 (Il x2), (Il x3), (Il x4), (Il x5), 
 (Il x6), (Il x7), (Il x8), (Il x9), 
 (Il x10), (Il x11), c12, c13])) ∧ ∃ x14, ∃ x15, 
 ∃ x16, ∃ x17, ∃ x18, ∃ x19, ∃ x20, ∃ x21, ∃ x22, 
 ∃ x23, ∃ x24, ∃ c25 : C, ∃ c26 : C, ((ldA m0 (C.ptr m.nxt 0) 13) = (some [(Il x14), 
 (Il x15), (Il x16), (Il x17), (Il x18), 
 (Il x19), (Il x20), (Il x21), (Il x22), 
 (Il x23), (Il x24), c25, c26])) ∧ Wc prog tbl 92 [(V.agg 13 [(Il x14), 
 (Il x15), (Il x16), (Il x17), (Il x18), 
 (Il x19), (Il x20), (Il x21), (Il x22), 
 (Il x23), (Il x24), c25, c26])] m0 (fun v27 m28 => 
 ∃ b29 : Bool, ∃ b30 : Bool, ∃ b31 : Bool, ∃ b32 : Bool, ∃ b33 : Bool, ∃ b34 : Bool, 
 (v27 = (V.agg 6 [(C.bool b29), (C.bool b30), (C.bool b31), (C.bool b32), (C.bool b33), 
 (C.bool b34)])) ∧ (ifB (allS cmC [(Il x1), (Il x2), 
 (Il x3), (Il x4), (Il x5), (Il x6), 
 (Il x7), (Il x8), (Il x9), (Il x10), 
 (Il x11), c12, c13]) ((ldA m28 (C.ptr m.nxt 0) 13) = (some [(Il x1), 
 (Il x2), (Il x3), (Il x4), (Il x5), 
 (Il x6), (Il x7), (Il x8), (Il x9), 
 (Il x10), (Il x11), c12, c13])) False) ∧ Wc prog tbl 82 [(V.agg 13 [(Il x1), 
 (Il x2), (Il x3), (Il x4), (Il x5), 
 (Il x6), (Il x7), (Il x8), (Il x9), 
 (Il x10), (Il x11), c12, c13]), (V.agg 6 [(C.bool b29), 
 (C.bool b30), (C.bool b31), (C.bool b32), (C.bool b33), (C.bool b34)])] m28 (fun v35 m36 => 
 ∃ b37 : Bool, (v35 = (V.c (C.bool b37))) ∧ Q (V.c (C.bool b37)) m36)))) : Wc prog tbl 86 [(V.agg 13 [(Il a100), (Il a101), (Il a102), (Il a103), (Il a104), (Il a105), (Il a106), (Il a107), (Il a108), (Il a109), (Il a110), a111, a112])] m Q :=
 wc_eq (n := 1) rfl (by kernel_rfl) (by kernel_rfl) h
theorem w92 {a100 : Int} {a101 : Int} {a102 : Int} {a103 : Int} {a104 : Int} {a105 : Int} {a106 : Int} {a107 : Int} {a108 : Int} {a109 : Int} {a110 : Int} {a111 : C} {a112 : C} {m : M} {Q : V → M → Prop} (h :
 (∀ m0 : M, (m0 = (M.new m (AO.cells 13 [(Il a100), (Il a101), (Il a102), 
 (Il a103), (Il a104), (Il a105), (Il a106), 
 (Il a107), (Il a108), (Il a109), (Il a110), 
 a111, a112] false))) → ∀ m1 : M, (m1 = (M.new m0 (AO.cells 6 [(C.bool false), (C.bool false), (C.bool false), 
 (C.bool false), (C.bool false), (C.bool false)] false))) → isPt (C.ptr m.nxt 0) ∧ isPt (C.ptr m.nxt 0) ∧ 
 ∃ c2 : C, ((ldC m1 (C.ptr m.nxt 11)) = (some c2)) ∧ isSl c2 ∧ fitsP .i64 ((((slLen c2) : Nat) : Int) - (1 : Int)) ∧ 
 Wc prog tbl 83 [(V.c (Il ((((slLen c2) : Nat) : Int) - (1 : Int))))] m1 (fun v3 m4 => 
 ∃ b5 : Bool, ∃ b6 : Bool, ∃ b7 : Bool, ∃ b8 : Bool, ∃ b9 : Bool, ∃ b10 : Bool, (v3 = (V.agg 6 [(C.bool b5), 
 (C.bool b6), (C.bool b7), (C.bool b8), (C.bool b9), (C.bool b10)])) ∧ ∃ m11 : M, ((stC m4 (C.ptr m0.nxt 0) 6 [(C.bool b5), 
 (C.bool b6), (C.bool b7), (C.bool b8), (C.bool b9), (C.bool b10)]) = (some m11)) ∧ 
 ∃ b12 : Bool, ∃ b13 : Bool, ∃ b14 : Bool, ∃ b15 : Bool, ∃ b16 : Bool, ∃ b17 : Bool, 
 ((ldA m11 (C.ptr m0.nxt 0) 6) = (some [(C.bool b12), (C.bool b13), (C.bool b14), 
 (C.bool b15), (C.bool b16), (C.bool b17)])) ∧ Q (V.agg 6 [(C.bool b12), (C.bool b13), 
 (C.bool b14), (C.bool b15), (C.bool b16), (C.bool b17)]) m11))) : Wc prog tbl 92 [(V.agg 13 [(Il a100), (Il a101), (Il a102), (Il a103), (Il a104), (Il a105), (Il a106), (Il a107), (Il a108), (Il a109), (Il a110), a111, a112])] m Q :=
 wc_eq (n := 1) rfl (by kernel_rfl) (by kernel_rfl) h
theorem w98 {a100 : Int} {a101 : Int} {a102 : Int} {a103 : Int} {a104 : Int} {a105 : Int} {a106 : Int} {a107 : Int} {a108 : Int} {a109 : Int} {a110 : Int} {a111 : C} {m : M} {Q : V → M → Prop} (h :
 (∀ m0 : M, (m0 = (M.new m (AO.cells 12 [(Il a100), (Il a101), (Il a102), 
 (Il a103), (Il a104), (Il a105), (Il a106), 
 (Il a107), (Il a108), (Il a109), (Il a110), 
 a111] false))) → isPt (C.ptr m.nxt 0) ∧ ∃ x1, ((ldC m0 (C.ptr m.nxt 0)) = (some (Il x1))) ∧ 
 ifB (decide ((12 : Int) < x1)) (Q (V.c (C.bool true)) m0) (isPt (C.ptr m.nxt 0) ∧ ∃ x2, ((ldC m0 (C.ptr m.nxt 1)) = (some (Il x2))) ∧ 
 ifB (decide ((12 : Int) < x2)) (Q (V.c (C.bool true)) m0) (isPt (C.ptr m.nxt 0) ∧ ∃ c3 : C, ((ldC m0 (C.ptr m.nxt 11)) = (some c3)) ∧ 
 isSl c3 ∧ Q (V.c (C.bool (decide ((6 : Int) < (((slLen c3) : Nat) : Int))))) m0)))) : Wc prog tbl 98 [(V.agg 12 [(Il a100), (Il a101), (Il a102), (Il a103), (Il a104), (Il a105), (Il a106), (Il a107), (Il a108), (Il a109), (Il a110), a111])] m Q :=
 wc_eq (n := 1) rfl (by kernel_rfl) (by kernel_rfl) h
theorem w107 {a100 : Int} {a101 : Int} {a102 : Int} {a103 : Int} {a104 : Int} {a105 : Int} {a106 : Int} {a107 : Int} {a108 : Int} {a109 : Int} {a110 : Int} {a111 : C} {a200 : Int} {a201 : Int} {a202 : Int} {a203 : Int} {m : M} {Q : V → M → Prop} (h :
 (∀ m0 : M, (m0 = (M.new m (AO.cells 12 [(Il a100), (Il a101), (Il a102), 
 (Il a103), (Il a104), (Il a105), (Il a106), 
 (Il a107), (Il a108), (Il a109), (Il a110), 
 a111] false))) → ∀ m1 : M, (m1 = (M.new m0 (AO.cells 4 [(Il a200), (Il a201), 
 (Il a202), (Il a203)] false))) → isPt (C.ptr m0.nxt 0) ∧ ∃ x2, 
 ∃ x3, ((ldA m1 (C.ptr m0.nxt 0) 2) = (some [(Il x2), (Il x3)])) ∧ 
 isPt (C.ptr m.nxt 0) ∧ ∃ x4, ((ldC m1 (C.ptr m.nxt 0)) = (some (Il x4))) ∧ 
 fitsP .i64 (x4 - 1) ∧ Wc prog tbl 122 [(V.agg 2 [(Il x2), (Il x3)]), 
 (V.c (Il 0)), (V.c (Il (x4 - 1)))] m1 (fun v5 m6 => 
 ∃ b7 : Bool, (v5 = (V.c (C.bool b7))) ∧ ifB b7 (isPt (C.ptr m0.nxt 0) ∧ ∃ x8, ∃ x9, 
 ((ldA m6 (C.ptr m0.nxt 2) 2) = (some [(Il x8), (Il x9)])) ∧ 
 isPt (C.ptr m.nxt 0) ∧ ∃ x10, ((ldC m6 (C.ptr m.nxt 1)) = (some (Il x10))) ∧ 
 fitsP .i64 (x10 - 1) ∧ Wc prog tbl 122 [(V.agg 2 [(Il x8), 
 (Il x9)]), (V.c (Il 0)), (V.c (Il (x10 - 1)))] m6 (fun v11 m12 => 
 ∃ b13 : Bool, (v11 = (V.c (C.bool b13))) ∧ Q (V.c (C.bool b13)) m12)) (Q (V.c (C.bool false)) m6)))) : Wc prog tbl 107 [(V.agg 12 [(Il a100), (Il a101), (Il a102), (Il a103), (Il a104), (Il a105), (Il a106), (Il a107), (Il a108), (Il a109), (Il a110), a111]), (V.agg 4 [(Il a200), (Il a201), (Il a202), (Il a203)])] m Q :=
 wc_eq (n := 2) rfl (by kernel_rfl) (by kernel_rfl) h
theorem w113 {a100 : Int} {a101 : Int} {a102 : Int} {a103 : Int} {a104 : Int} {a105 : Int} {a106 : Int} {a107 : Int} {a108 : Int} {a109 : Int} {a110 : Int} {a111 : C} {a200 : Int} {a201 : Int} {a202 : Int} {a203 : Int} {a300 : Int} {a400 : Int} {m : M} {Q : V → M → Prop} (h :
 (∀ m0 : M, (m0 = (M.new m (AO.cells 12 [(Il a100), (Il a101), (Il a102), 
 (Il a103), (Il a104), (Il a105), (Il a106), 
 (Il a107), (Il a108), (Il a109), (Il a110), 
 a111] false))) → ∀ m1 : M, (m1 = (M.new m0 (AO.cells 4 [(Il a200), (Il a201), 
 (Il a202), (Il a203)] false))) → isPt (C.ptr m.nxt 0) ∧ ∃ x2, 
 ((ldC m1 (C.ptr m.nxt 0)) = (some (Il x2))) ∧ fitsP .i64 (x2 - 1) ∧ 
 ((0 : Int) ≤ (x2 - 1)) ∧ ((0 : Int) ≤ a400) ∧ fitsP .i64 ((x2 - 1) * a400) ∧ 
 isPt (C.ptr m0.nxt 0) ∧ ∃ x3, ((ldC m1 (C.ptr m0.nxt 0)) = (some (Il x3))) ∧ 
 fitsP .i64 ((x2 - 1) - a300) ∧ ((0 : Int) ≤ x3) ∧ ((0 : Int) ≤ ((x2 - 1) - a300)) ∧ 
 fitsP .i64 (x3 * ((x2 - 1) - a300)) ∧ isPt (C.ptr m0.nxt 0) ∧ ∃ x4, 
 ((ldC m1 (C.ptr m0.nxt 1)) = (some (Il x4))) ∧ ((0 : Int) ≤ x4) ∧ 
 ((0 : Int) ≤ a300) ∧ fitsP .i64 (x4 * a300) ∧ fitsP .i64 ((x3 * ((x2 - 1) - a300)) + (x4 * a300)) ∧ 
 fitsP .i64 (((x2 - 1) * a400) - ((x3 * ((x2 - 1) - a300)) + (x4 * a300))) ∧ 
 fitsP .i64 ((0 : Int) - (((x2 - 1) * a400) - ((x3 * ((x2 - 1) - a300)) + (x4 * a300)))) ∧ 
 Q (V.c (Il (Max.max (((x2 - 1) * a400) - ((x3 * ((x2 - 1) - a300)) + (x4 * a300))) ((0 : Int) - (((x2 - 1) * a400) - ((x3 * ((x2 - 1) - a300)) + (x4 * a300))))))) m1)) : Wc prog tbl 113 [(V.agg 12 [(Il a100), (Il a101), (Il a102), (Il a103), (Il a104), (Il a105), (Il a106), (Il a107), (Il a108), (Il a109), (Il a110), a111]), (V.agg 4 [(Il a200), (Il a201), (Il a202), (Il a203)]), (V.c (Il a300)), (V.c (Il a400))] m Q :=
 wc_eq (n := 4) rfl (by kernel_rfl) (by kernel_rfl) h
theorem w117 {a100 : Bool} {a101 : Bool} {a102 : Bool} {a103 : Bool} {a104 : Bool} {a105 : Bool} {a200 : Bool} {a201 : Bool} {a202 : Bool} {a203 : Bool} {a204 : Bool} {a205 : Bool} {m : M} {Q : V → M → Prop} (h :
 (∀ m0 : M, (m0 = (M.new m (AO.cells 6 [(C.bool a100), (C.bool a101), (C.bool a102), (C.bool a103), (C.bool a104), 
 (C.bool a105)] false))) → ∀ m1 : M, (m1 = (M.new m0 (AO.cells 6 [(C.bool a200), (C.bool a201), (C.bool a202), 
 (C.bool a203), (C.bool a204), (C.bool a205)] false))) → ∀ m2 : M, (m2 = (M.new m1 (AO.cells 6 [(C.bool false), 
 (C.bool false), (C.bool false), (C.bool false), (C.bool false), (C.bool false)] false))) → ∀ R3 : List V → 
 M → Prop, (∀ x4 : Int, ∀ m5 : M, (ifB (decide (x4 < 6)) (isPt (C.ptr m0.nxt 0) ∧ ∃ n6 : Nat, 
 (x4 = ((n6 : Nat) : Int)) ∧ (n6 < 6) ∧ ∃ b7 : Bool, ((ldC m5 (C.ptr m0.nxt (0 + (n6 * 1)))) = (some (C.bool b7))) ∧ 
 ifB b7 (isPt (C.ptr m.nxt 0) ∧ ∃ n8 : Nat, (x4 = ((n8 : Nat) : Int)) ∧ (n8 < 6) ∧ ∃ b9 : Bool, 
 ((ldC m5 (C.ptr m.nxt (0 + (n8 * 1)))) = (some (C.bool b9))) ∧ isPt (C.ptr m0.nxt 0) ∧ 
 ∃ n10 : Nat, (x4 = ((n10 : Nat) : Int)) ∧ (n10 < 6) ∧ ∃ m11 : M, ((stC m5 (C.ptr m0.nxt (0 + (n10 * 1))) 1 [(C.bool b9)]) = (some m11)) ∧ 
 fitsP .i64 (x4 + 1) ∧ R3 [(V.c (Il (x4 + 1)))] m11) (isPt (C.ptr m0.nxt 0) ∧ 
 ∃ n12 : Nat, (x4 = ((n12 : Nat) : Int)) ∧ (n12 < 6) ∧ ∃ m13 : M, ((stC m5 (C.ptr m0.nxt (0 + (n12 * 1))) 1 [(C.bool false)]) = (some m13)) ∧ 
 fitsP .i64 (x4 + 1) ∧ R3 [(V.c (Il (x4 + 1)))] m13)) (∃ b14 : Bool, 
 ∃ b15 : Bool, ∃ b16 : Bool, ∃ b17 : Bool, ∃ b18 : Bool, ∃ b19 : Bool, ((ldA m5 (C.ptr m0.nxt 0) 6) = (some [(C.bool b14), 
 (C.bool b15), (C.bool b16), (C.bool b17), (C.bool b18), (C.bool b19)])) ∧ ∃ m20 : M, 
 ((stC m5 (C.ptr m1.nxt 0) 6 [(C.bool b14), (C.bool b15), (C.bool b16), (C.bool b17), 
 (C.bool b18), (C.bool b19)]) = (some m20)) ∧ ∃ b21 : Bool, ∃ b22 : Bool, ∃ b23 : Bool, 
 ∃ b24 : Bool, ∃ b25 : Bool, ∃ b26 : Bool, ((ldA m20 (C.ptr m1.nxt 0) 6) = (some [(C.bool b21), 
 (C.bool b22), (C.bool b23), (C.bool b24), (C.bool b25), (C.bool b26)])) ∧ Q (V.agg 6 [(C.bool b21), 
 (C.bool b22), (C.bool b23), (C.bool b24), (C.bool b25), (C.bool b26)]) m20)) → 
 R3 [(V.c (Il x4))] m5) → R3 [(V.c (Il 0))] m2)) : Wc prog tbl 117 [(V.agg 6 [(C.bool a100), (C.bool a101), (C.bool a102), (C.bool a103), (C.bool a104), (C.bool a105)]), (V.agg 6 [(C.bool a200), (C.bool a201), (C.bool a202), (C.bool a203), (C.bool a204), (C.bool a205)])] m Q :=
 wc_eq (n := 2) rfl (by kernel_rfl) (by kernel_rfl) h
theorem w121 {a100 : Int} {a101 : Int} {a102 : Int} {a103 : Int} {a104 : Int} {a105 : Int} {a106 : Int} {a107 : Int} {a108 : Int} {a109 : Int} {a110 : Int} {a111 : C} {a200 : Int} {a201 : Int} {a202 : Int} {a203 : Int} {a204 : Bool} {a205 : Int} {a206 : Int} {a300 : Int} {a301 : Int} {a302 : Int} {a303 : Int} {m : M} {Q : V → M → Prop} (h :
 (∀ m0 : M, (m0 = (M.new m (AO.cells 12 [(Il a100), (Il a101), (Il a102), 
 (Il a103), (Il a104), (Il a105), (Il a106), 
 (Il a107), (Il a108), (Il a109), (Il a110), 
 a111] false))) → ∀ m1 : M, (m1 = (M.new m0 (AO.cells 7 [(Il a200), (Il a201), 
 (Il a202), (Il a203), (C.bool a204), (Il a205), (Il a206)] false))) → 
 ∀ m2 : M, (m2 = (M.new m1 (AO.cells 4 [(Il a300), (Il a301), (Il a302), 
 (Il a303)] false))) → ∀ m3 : M, (m3 = (M.new m2 (AO.cells 1 [(C.bool false)] false))) → 
 ∃ x4, ∃ x5, ∃ x6, ∃ x7, ∃ b8 : Bool, ∃ x9, ∃ x10, ((ldA m3 (C.ptr m0.nxt 0) 7) = (some [(Il x4), 
 (Il x5), (Il x6), (Il x7), (C.bool b8), (Il x9), 
 (Il x10)])) ∧ Wc prog tbl 133 [(V.agg 7 [(Il x4), (Il x5), 
 (Il x6), (Il x7), (C.bool b8), (Il x9), (Il x10)])] m3 (fun v11 m12 => 
 ∃ x13, ∃ x14, ∃ x15, ∃ x16, (v11 = (V.agg 4 [(Il x13), 
 (Il x14), (Il x15), (Il x16)])) ∧ Wc prog tbl 78 [(V.agg 4 [(Il x13), 
 (Il x14), (Il x15), (Il x16)])] m12 (fun v17 m18 => 
 ∃ c19 : C, (v17 = (V.c c19)) ∧ rangeP prog tbl c19 m18 (fun l20 m21 R22 R23 => 
 ∃ x24, ∃ x25, (l20 = [(V.c (Il x24)), (V.c (Il x25))]) ∧ 
 R22 m21 (fun m26 => ∃ x27, ∃ x28, ∃ x29, ∃ x30, 
 ∃ x31, ∃ x32, ∃ x33, ∃ x34, ∃ x35, ∃ x36, 
 ∃ x37, ∃ c38 : C, ((ldA m26 (C.ptr m.nxt 0) 12) = (some [(Il x27), 
 (Il x28), (Il x29), (Il x30), (Il x31), 
 (Il x32), (Il x33), (Il x34), (Il x35), 
 (Il x36), (Il x37), c38])) ∧ ∃ x39, ∃ x40, 
 ∃ x41, ∃ x42, ((ldA m26 (C.ptr m1.nxt 0) 4) = (some [(Il x39), 
 (Il x40), (Il x41), (Il x42)])) ∧ 
 Wc prog tbl 112 [(V.agg 12 [(Il x27), (Il x28), 
 (Il x29), (Il x30), (Il x31), (Il x32), 
 (Il x33), (Il x34), (Il x35), (Il x36), 
 (Il x37), c38]), (V.agg 4 [(Il x39), (Il x40), 
 (Il x41), (Il x42)]), (V.c (Il x24)), 
 (V.c (Il x25))] m26 (fun v43 m44 => ∃ b45 : Bool, (v43 = (V.c (C.bool b45))) ∧ 
 isPt (C.ptr m0.nxt 0) ∧ ∃ b46 : Bool, ((ldC m44 (C.ptr m0.nxt 4)) = (some (C.bool b46))) ∧ 
 ((ldC m26 (C.ptr m0.nxt 4)) = (some (C.bool b46))) ∧ ifB (b45 == b46) (isPt (C.ptr m0.nxt 0) ∧ 
 ∃ x47, ∃ x48, ((ldA m44 (C.ptr m0.nxt 5) 2) = (some [(Il x47), 
 (Il x48)])) ∧ ∃ x49, ∃ x50, ∃ x51, ∃ x52, 
 ∃ x53, ∃ x54, ∃ x55, ∃ x56, ∃ x57, ∃ x58, 
 ∃ x59, ∃ c60 : C, ((ldA m44 (C.ptr m.nxt 0) 12) = (some [(Il x49), 
 (Il x50), (Il x51), (Il x52), (Il x53), 
 (Il x54), (Il x55), (Il x56), (Il x57), 
 (Il x58), (Il x59), c60])) ∧ ∃ x61, ∃ x62, 
 ∃ x63, ∃ x64, ((ldA m44 (C.ptr m1.nxt 0) 4) = (some [(Il x61), 
 (Il x62), (Il x63), (Il x64)])) ∧ 
 Wc prog tbl 75 [(V.agg 12 [(Il x49), (Il x50), 
 (Il x51), (Il x52), (Il x53), (Il x54), 
 (Il x55), (Il x56), (Il x57), (Il x58), 
 (Il x59), c60]), (V.agg 4 [(Il x61), (Il x62), 
 (Il x63), (Il x64)]), (V.c (Il x24)), 
 (V.c (Il x25))] m44 (fun v65 m66 => ∃ x67, (v65 = (V.c (Il x67))) ∧ 
 ((ldA m66 (C.ptr m0.nxt 5) 2) = (some [(Il x47), (Il x48)])) ∧ 
 Wc prog tbl 120 [(V.agg 2 [(Il x47), (Il x48)]), 
 (V.c (Il x67))] m66 (fun v68 m69 => ∃ b70 : Bool, (v68 = (V.c (C.bool b70))) ∧ 
 ifB b70 (∃ m71 : M, ((stC m69 (C.ptr m2.nxt 0) 1 [(C.bool true)]) = (some m71)) ∧ 
 R23 Ex.ret m71) (R23 Ex.nrm m69)))) (R23 Ex.nrm m44)))) (After.mk (fun m72 => 
 ∃ m73 : M, ((stC m72 (C.ptr m2.nxt 0) 1 [(C.bool false)]) = (some m73)) ∧ 
 ∃ b74 : Bool, ((ldC m73 (C.ptr m2.nxt 0)) = (some (C.bool b74))) ∧ 
 Q (V.c (C.bool b74)) m73) [] (fun m75 => ∃ b76 : Bool, ((ldC m75 (C.ptr m2.nxt 0)) = (some (C.bool b76))) ∧ 
 Q (V.c (C.bool b76)) m75)))))) : Wc prog tbl 121 [(V.agg 12 [(Il a100), (Il a101), (Il a102), (Il a103), (Il a104), (Il a105), (Il a106), (Il a107), (Il a108), (Il a109), (Il a110), a111]), (V.agg 7 [(Il a200), (Il a201), (Il a202), (Il a203), (C.bool a204), (Il a205), (Il a206)]), (V.agg 4 [(Il a300), (Il a301), (Il a302), (Il a303)])] m Q :=
 wc_eq (n := 3) rfl (by kernel_rfl) (by kernel_rfl) h
theorem w124 {a100 : Int} {a101 : Int} {a102 : Int} {a103 : Int} {a104 : Int} {a105 : Int} {a106 : Int} {a107 : Int} {a108 : Int} {a109 : Int} {a110 : Int} {a111 : C} {a112 : C} {a200 : Int} {a201 : Int} {a202 : Int} {a203 : Int} {a204 : Bool} {a205 : Int} {a206 : Int} {m : M} {Q : V → M → Prop} (h :
 (∀ m0 : M, (m0 = (M.new m (AO.cells 13 [(Il a100), (Il a101), (Il a102), 
 (Il a103), (Il a104), (Il a105), (Il a106), 
 (Il a107), (Il a108), (Il a109), (Il a110), 
 a111, a112] false))) → ∀ m1 : M, (m1 = (M.new m0 (AO.cells 7 [(Il a200), (Il a201), 
 (Il a202), (Il a203), (C.bool a204), (Il a205), (Il a206)] false))) → 
 isPt (C.ptr m.nxt 0) ∧ ∃ x2, ∃ x3, ∃ x4, ∃ x5, ∃ x6, ∃ x7, 
 ∃ x8, ∃ x9, ∃ x10, ∃ x11, ∃ x12, ∃ c13 : C, ((ldA m1 (C.ptr m.nxt 0) 12) = (some [(Il x2), 
 (Il x3), (Il x4), (Il x5), (Il x6), 
 (Il x7), (Il x8), (Il x9), (Il x10), 
 (Il x11), (Il x12), c13])) ∧ ∃ x14, ∃ x15, 
 ∃ x16, ∃ x17, ∃ b18 : Bool, ∃ x19, ∃ x20, ((ldA m1 (C.ptr m0.nxt 0) 7) = (some [(Il x14), 
 (Il x15), (Il x16), (Il x17), (C.bool b18), 
 (Il x19), (Il x20)])) ∧ Wc prog tbl 133 [(V.agg 7 [(Il x14), 
 (Il x15), (Il x16), (Il x17), (C.bool b18), 
 (Il x19), (Il x20)])] m1 (fun v21 m22 => ∃ x23, 
 ∃ x24, ∃ x25, ∃ x26, (v21 = (V.agg 4 [(Il x23), 
 (Il x24), (Il x25), (Il x26)])) ∧ 
 (ifB (allS cmC [(Il x2), (Il x3), (Il x4), 
 (Il x5), (Il x6), (Il x7), (Il x8), 
 (Il x9), (Il x10), (Il x11), (Il x12), 
 c13]) ((ldA m22 (C.ptr m.nxt 0) 12) = (some [(Il x2), 
 (Il x3), (Il x4), (Il x5), (Il x6), 
 (Il x7), (Il x8), (Il x9), (Il x10), 
 (Il x11), (Il x12), c13])) False) ∧ Wc prog tbl 107 [(V.agg 12 [(Il x2), 
 (Il x3), (Il x4), (Il x5), (Il x6), 
 (Il x7), (Il x8), (Il x9), (Il x10), 
 (Il x11), (Il x12), c13]), (V.agg 4 [(Il x23), 
 (Il x24), (Il x25), (Il x26)])] m22 (fun v27 m28 => 
 ∃ b29 : Bool, (v27 = (V.c (C.bool b29))) ∧ ifB (!b29) (Q (V.c (C.bool false)) m28) (isPt (C.ptr m0.nxt 0) ∧ 
 ∃ x30, ∃ x31, ((ldA m28 (C.ptr m0.nxt 5) 2) = (some [(Il x30), 
 (Il x31)])) ∧ Wc prog tbl 122 [(V.agg 2 [(Il x30), 
 (Il x31)]), (V.c (Il 0)), (V.c (Il (9 : Int)))] m28 (fun v32 m33 => 
 ∃ b34 : Bool, (v32 = (V.c (C.bool b34))) ∧ ifB (!b34) (Q (V.c (C.bool false)) m33) (isPt (C.ptr m0.nxt 0) ∧ 
 ∃ b35 : Bool, ((ldC m33 (C.ptr m0.nxt 4)) = (some (C.bool b35))) ∧ 
 ifB b35 (Q (V.c (C.bool true)) m33) (isPt (C.ptr m0.nxt 0) ∧ ∃ x36, 
 ∃ x37, ((ldA m33 (C.ptr m0.nxt 5) 2) = (some [(Il x36), 
 (Il x37)])) ∧ fitsP .i64 x36 ∧ fitsP .i64 (0 : Int) ∧ 
 fitsP .i64 x37 ∧ fitsP .i64 (0 : Int) ∧ Q (V.c (C.bool ((decide (x36 = 0)) && (decide (x37 = 0))))) m33)))))))) : Wc prog tbl 124 [(V.agg 13 [(Il a100), (Il a101), (Il a102), (Il a103), (Il a104), (Il a105), (Il a106), (Il a107), (Il a108), (Il a109), (Il a110), a111, a112]), (V.agg 7 [(Il a200), (Il a201), (Il a202), (Il a203), (C.bool a204), (Il a205), (Il a206)])] m Q :=
 wc_eq (n := 2) rfl (by kernel_rfl) (by kernel_rfl) h
theorem w134 {a100 : C} {a200 : C} {m : M} {Q : V → M → Prop} (h :
 (Wc prog tbl 139 [(V.c a100), (V.c a200)] m (fun v0 m1 => ∃ x2, (v0 = (V.c (Il x2))) ∧ Q (V.c (C.bool (decide ((0 : Int) ≤ x2)))) m1))) : Wc prog tbl 134 [(V.c a100), (V.c a200)] m Q :=
 wc_eq (n := 2) rfl (by kernel_rfl) (by kernel_rfl) h
end
end Go.Proofs.Ytbnfnhfanooplaa

