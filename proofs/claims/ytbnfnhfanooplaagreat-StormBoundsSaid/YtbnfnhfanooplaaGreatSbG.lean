/- An evaluator of the code of a program, its soundness, what calls ask, memory, and what functions of the program do. Condition: none; a lemma text of this claim. -/
import Derived.Test.YtbnfnhfanooplaaGreatSbF

namespace Go.Proofs.YtbnfnhfanooplaaGreat
theorem obs {α β : Type} {a : α} {f : α → Option β} : (some a).bind f = f a := rfl
theorem gdi {α : Type} {p A : Prop} {o : Option α} {r : α} (hp : Go.Abs.gd p o = some r) (h : p → o = some r → A) : p ∧ A := have ⟨a, b⟩ := Go.Abs.gd_some hp; ⟨a, h a b⟩
end Go.Proofs.YtbnfnhfanooplaaGreat

namespace Go.Proofs.YtbnfnhfanooplaaGreat
open _root_.Go.Proofs.Tryz
open Go.Abs
set_option maxRecDepth 100000
noncomputable section
structure Rg where
 Lo : Int
 Hi : Int
def ok_Rg (a : Rg) : Prop := (fitsP .i64 a.Lo) ∧ (fitsP .i64 a.Hi)
instance : MK Rg := ⟨fun k => .agg 2 [.int .i64 k.Lo, .int .i64 k.Hi], fun k => fitsP .i64 k.Lo ∧ fitsP .i64 k.Hi ∧ True⟩
instance : MV Rg := ⟨fun k => .agg 2 [.int .i64 k.Lo, .int .i64 k.Hi]⟩
instance : Rp Rg := ⟨2, by omega, fun _ cs a => cs = [.int .i64 a.Lo, .int .i64 a.Hi], fun h => by rw [h]; rfl, fun h _ => h⟩
structure Crd where
 X : Rg
 Y : Rg
 Hail : Bool
 Size : Rg
def ok_Crd (a : Crd) : Prop := (ok_Rg a.X) ∧ (ok_Rg a.Y) ∧ (True) ∧ (ok_Rg a.Size)
instance : MK Crd := ⟨fun k => .agg 7 [.int .i64 k.X.Lo, .int .i64 k.X.Hi, .int .i64 k.Y.Lo, .int .i64 k.Y.Hi, .bool k.Hail, .int .i64 k.Size.Lo, .int .i64 k.Size.Hi], fun k => fitsP .i64 k.X.Lo ∧ fitsP .i64 k.X.Hi ∧ fitsP .i64 k.Y.Lo ∧ fitsP .i64 k.Y.Hi ∧ fitsP .i64 k.Size.Lo ∧ fitsP .i64 k.Size.Hi ∧ True⟩
instance : MV Crd := ⟨fun k => .agg 7 [.int .i64 k.X.Lo, .int .i64 k.X.Hi, .int .i64 k.Y.Lo, .int .i64 k.Y.Hi, .bool k.Hail, .int .i64 k.Size.Lo, .int .i64 k.Size.Hi]⟩
instance : Rp Crd := ⟨7, by omega, fun _ cs a => cs = [.int .i64 a.X.Lo, .int .i64 a.X.Hi, .int .i64 a.Y.Lo, .int .i64 a.Y.Hi, .bool a.Hail, .int .i64 a.Size.Lo, .int .i64 a.Size.Hi], fun h => by rw [h]; rfl, fun h _ => h⟩
theorem rd_Crd {f : M} {x : C} {l : List Crd} (h : Sl f x l) {n : Nat} {a : Crd} (hi : l[n]? = some a) : ∃ _u : Unit, (∀ m, Sub f m → ldA m (slAt x (n * 7)) 7 = some [.int .i64 a.X.Lo, .int .i64 a.X.Hi, .int .i64 a.Y.Lo, .int .i64 a.Y.Hi, .bool a.Hail, .int .i64 a.Size.Lo, .int .i64 a.Size.Hi] ∧ (∀ j c, ([.int .i64 a.X.Lo, .int .i64 a.X.Hi, .int .i64 a.Y.Lo, .int .i64 a.Y.Hi, .bool a.Hail, .int .i64 a.Size.Lo, .int .i64 a.Size.Hi] : List C)[j]? = some c → ldC m (ptAdd (slAt x (n * 7)) j) = some c) ∧ ∀ j i, 0 < i → j + i ≤ 7 → ldA m (ptAdd (slAt x (n * 7)) j) i = some ((([.int .i64 a.X.Lo, .int .i64 a.X.Hi, .int .i64 a.Y.Lo, .int .i64 a.Y.Hi, .bool a.Hail, .int .i64 a.Size.Lo, .int .i64 a.Size.Hi] : List C).drop j).take i)) := by
 obtain ⟨cs, q1, q2⟩ := h.rdP hi
 have q2 : cs = _ := q2
 subst q2
 exact ⟨(), q1⟩
structure Stm where
 Wide : Int
 High : Int
 Fall : Int
 A : Rg
 B : Rg
 Half : Rg
 Peak : Rg
 Cards : List Crd
def ok_Stm (a : Stm) : Prop := (fitsP .i64 a.Wide) ∧ (fitsP .i64 a.High) ∧ (fitsP .i64 a.Fall) ∧ (ok_Rg a.A) ∧ (ok_Rg a.B) ∧ (ok_Rg a.Half) ∧ (ok_Rg a.Peak) ∧ (a.Cards.length ≤ maxLen ∧ ∀ a0 ∈ a.Cards, ok_Crd a0)
instance : Rp Stm := ⟨12, by omega, fun f cs a => ∃ c11 : C, cs = [.int .i64 a.Wide, .int .i64 a.High, .int .i64 a.Fall, .int .i64 a.A.Lo, .int .i64 a.A.Hi, .int .i64 a.B.Lo, .int .i64 a.B.Hi, .int .i64 a.Half.Lo, .int .i64 a.Half.Hi, .int .i64 a.Peak.Lo, .int .i64 a.Peak.Hi, c11] ∧ Sl f c11 a.Cards, fun h => by obtain ⟨c11, h, _⟩ := h; rw [h]; rfl, fun h s => by obtain ⟨c11, h, h0⟩ := h; exact ⟨c11, h, h0.subv s⟩⟩
structure Trh where
 A : Int
 B : Int
 Half : Int
 Peak : Int
def ok_Trh (a : Trh) : Prop := (fitsP .i64 a.A) ∧ (fitsP .i64 a.B) ∧ (fitsP .i64 a.Half) ∧ (fitsP .i64 a.Peak)
instance : MK Trh := ⟨fun k => .agg 4 [.int .i64 k.A, .int .i64 k.B, .int .i64 k.Half, .int .i64 k.Peak], fun k => fitsP .i64 k.A ∧ fitsP .i64 k.B ∧ fitsP .i64 k.Half ∧ fitsP .i64 k.Peak ∧ True⟩
instance : MV Trh := ⟨fun k => .agg 4 [.int .i64 k.A, .int .i64 k.B, .int .i64 k.Half, .int .i64 k.Peak]⟩
instance : Rp Trh := ⟨4, by omega, fun _ cs a => cs = [.int .i64 a.A, .int .i64 a.B, .int .i64 a.Half, .int .i64 a.Peak], fun h => by rw [h]; rfl, fun h _ => h⟩
theorem rd_Trh {f : M} {x : C} {l : List Trh} (h : Sl f x l) {n : Nat} {a : Trh} (hi : l[n]? = some a) : ∃ _u : Unit, (∀ m, Sub f m → ldA m (slAt x (n * 4)) 4 = some [.int .i64 a.A, .int .i64 a.B, .int .i64 a.Half, .int .i64 a.Peak] ∧ (∀ j c, ([.int .i64 a.A, .int .i64 a.B, .int .i64 a.Half, .int .i64 a.Peak] : List C)[j]? = some c → ldC m (ptAdd (slAt x (n * 4)) j) = some c) ∧ ∀ j i, 0 < i → j + i ≤ 4 → ldA m (ptAdd (slAt x (n * 4)) j) i = some ((([.int .i64 a.A, .int .i64 a.B, .int .i64 a.Half, .int .i64 a.Peak] : List C).drop j).take i)) := by
 obtain ⟨cs, q1, q2⟩ := h.rdP hi
 have q2 : cs = _ := q2
 subst q2
 exact ⟨(), q1⟩
structure Rct where
 X : Rg
 Y : Rg
instance : MK Rct := ⟨fun k => .agg 4 [.int .i64 k.X.Lo, .int .i64 k.X.Hi, .int .i64 k.Y.Lo, .int .i64 k.Y.Hi], fun k => fitsP .i64 k.X.Lo ∧ fitsP .i64 k.X.Hi ∧ fitsP .i64 k.Y.Lo ∧ fitsP .i64 k.Y.Hi ∧ True⟩
instance : MV Rct := ⟨fun k => .agg 4 [.int .i64 k.X.Lo, .int .i64 k.X.Hi, .int .i64 k.Y.Lo, .int .i64 k.Y.Hi]⟩
instance : Rp Rct := ⟨4, by omega, fun _ cs a => cs = [.int .i64 a.X.Lo, .int .i64 a.X.Hi, .int .i64 a.Y.Lo, .int .i64 a.Y.Hi], fun h => by rw [h]; rfl, fun h _ => h⟩
theorem rd_Rct {f : M} {x : C} {l : List Rct} (h : Sl f x l) {n : Nat} {a : Rct} (hi : l[n]? = some a) : ∃ _u : Unit, (∀ m, Sub f m → ldA m (slAt x (n * 4)) 4 = some [.int .i64 a.X.Lo, .int .i64 a.X.Hi, .int .i64 a.Y.Lo, .int .i64 a.Y.Hi] ∧ (∀ j c, ([.int .i64 a.X.Lo, .int .i64 a.X.Hi, .int .i64 a.Y.Lo, .int .i64 a.Y.Hi] : List C)[j]? = some c → ldC m (ptAdd (slAt x (n * 4)) j) = some c) ∧ ∀ j i, 0 < i → j + i ≤ 4 → ldA m (ptAdd (slAt x (n * 4)) j) i = some ((([.int .i64 a.X.Lo, .int .i64 a.X.Hi, .int .i64 a.Y.Lo, .int .i64 a.Y.Hi] : List C).drop j).take i)) := by
 obtain ⟨cs, q1, q2⟩ := h.rdP hi
 have q2 : cs = _ := q2
 subst q2
 exact ⟨(), q1⟩
structure Cds where
 c0 : Bool
 c1 : Bool
 c2 : Bool
 c3 : Bool
 c4 : Bool
 c5 : Bool
instance : MK Cds := ⟨fun k => .agg 6 [.bool k.c0, .bool k.c1, .bool k.c2, .bool k.c3, .bool k.c4, .bool k.c5], fun _ => True⟩
instance : MV Cds := ⟨fun k => .agg 6 [.bool k.c0, .bool k.c1, .bool k.c2, .bool k.c3, .bool k.c4, .bool k.c5]⟩
instance : Rp Cds := ⟨6, by omega, fun _ cs a => cs = [.bool a.c0, .bool a.c1, .bool a.c2, .bool a.c3, .bool a.c4, .bool a.c5], fun h => by rw [h]; rfl, fun h _ => h⟩
structure Wk where
 s : Stm
 right : Option (Trh → Option (Cds))
def pawake : Option Bool := some true
def prIn (n : Int) (low : Int) (high : Int) : Option (Bool) := (if low ≤ n then (some (decide (n ≤ high))) else (some false))
def prWithin (r : Rg) (low : Int) (high : Int) : Option (Bool) := (if low ≤ r.Lo then (if r.Lo ≤ r.Hi then (some (decide (r.Hi ≤ high))) else (some false)) else (some false))
def prCount (r : Rg) : Option (Int) := (gd (fitsP .i64 (r.Hi - r.Lo)) (gd (fitsP .i64 ((r.Hi - r.Lo) + (1 : Int))) (some ((r.Hi - r.Lo) + (1 : Int)))))
def prIsRect (s : Stm) (r : Rct) : Option (Bool) := (gd (fitsP .i64 (s.Wide - (1 : Int))) ((prWithin r.X (0 : Int) (s.Wide - (1 : Int))).bind fun r329 => (if r329 = true then (gd (fitsP .i64 (s.High - (1 : Int))) ((prWithin r.Y (0 : Int) (s.High - (1 : Int))).bind fun r338 => (some r338))) else (some false))))
def prIsCard (s : Stm) (c : Crd) : Option (Bool) := ((prIsRect s ({ X := c.X, Y := c.Y } : Rct)).bind fun r356 => (if r356 = true then ((prWithin c.Size (0 : Int) (9 : Int)).bind fun r364 => (if r364 = true then (if c.Hail = true then (some true) else (gd (fitsP .i64 c.Size.Lo) (gd (fitsP .i64 (0 : Int)) (gd (fitsP .i64 c.Size.Hi) (gd (fitsP .i64 (0 : Int)) (some ((decide (c.Size.Lo = (0 : Int))) && (decide (c.Size.Hi = (0 : Int)))))))))) else (some false))) else (some false)))
def prMany (s : Stm) : Option (Int) := ((prCount s.A).bind fun r382 => ((prCount s.B).bind fun r388 => (gd ((0 : Int) ≤ r382) (gd ((0 : Int) ≤ r388) (gd (fitsP .i64 (r382 * r388)) ((prCount s.Half).bind fun r397 => (gd ((0 : Int) ≤ (r382 * r388)) (gd ((0 : Int) ≤ r397) (gd (fitsP .i64 ((r382 * r388) * r397)) ((prCount s.Peak).bind fun r406 => (gd ((0 : Int) ≤ ((r382 * r388) * r397)) (gd ((0 : Int) ≤ r406) (gd (fitsP .i64 (((r382 * r388) * r397) * r406)) (some (((r382 * r388) * r397) * r406)))))))))))))))
def prFault_L0 (s : Stm) : Nat → Int → Option (Int)
 | 0, _ => none
 | d464 + 1, x34 => (if x34 < (s.Cards.length : Int) then ((idx s.Cards x34).bind fun v466 => ((prIsCard s v466).bind fun r469 => (if r469 = true then (gd (fitsP .i64 (x34 + 1)) (prFault_L0 s d464 (x34 + 1))) else (some (1 : Int))))) else ((prMany s).bind fun r477 => (if (2000 : Int) < r477 then (some (3 : Int)) else (some (0 : Int)))))
def prFault (s : Stm) : Option (Int) := (if (12 : Int) < s.Wide then (some (3 : Int)) else (if (12 : Int) < s.High then (some (3 : Int)) else (if (6 : Int) < (s.Cards.length : Int) then (some (3 : Int)) else (if s.Wide < (2 : Int) then (some (1 : Int)) else (if s.High < (1 : Int) then (some (1 : Int)) else ((prIn s.Fall (0 : Int) (4 : Int)).bind fun r425 => (if r425 = true then (gd (fitsP .i64 (s.High - (1 : Int))) ((prWithin s.A (0 : Int) (s.High - (1 : Int))).bind fun r433 => (if r433 = true then (gd (fitsP .i64 (s.High - (1 : Int))) ((prWithin s.B (0 : Int) (s.High - (1 : Int))).bind fun r441 => (if r441 = true then ((prWithin s.Half (0 : Int) (3 : Int)).bind fun r448 => (if r448 = true then ((prWithin s.Peak (1 : Int) (9 : Int)).bind fun r455 => (if r455 = true then (prFault_L0 s 1000000 (0 : Int)) else (some (1 : Int)))) else (some (1 : Int)))) else (some (1 : Int))))) else (some (1 : Int))))) else (some (1 : Int)))))))))
def prNth (s : Stm) (n : Int) : Option (Trh) := ((prCount s.A).bind fun r502 => (gd ((0 : Int) ≤ n) (gd ((0 : Int) < r502) (gd (fitsP .i64 (n % r502)) (gd (fitsP .i64 (s.A.Lo + (n % r502))) ((prCount s.A).bind fun r514 => (gd ((0 : Int) ≤ n) (gd ((0 : Int) < r514) (gd (fitsP .i64 (n / r514)) ((prCount s.B).bind fun r532 => (gd ((0 : Int) ≤ (n / r514)) (gd ((0 : Int) < r532) (gd (fitsP .i64 ((n / r514) % r532)) (gd (fitsP .i64 (s.B.Lo + ((n / r514) % r532))) ((prCount s.B).bind fun r544 => (gd ((0 : Int) ≤ (n / r514)) (gd ((0 : Int) < r544) (gd (fitsP .i64 ((n / r514) / r544)) ((prCount s.Half).bind fun r562 => (gd ((0 : Int) ≤ ((n / r514) / r544)) (gd ((0 : Int) < r562) (gd (fitsP .i64 (((n / r514) / r544) % r562)) (gd (fitsP .i64 (s.Half.Lo + (((n / r514) / r544) % r562))) ((prCount s.Half).bind fun r574 => (gd ((0 : Int) ≤ ((n / r514) / r544)) (gd ((0 : Int) < r574) (gd (fitsP .i64 (((n / r514) / r544) / r574)) (gd (fitsP .i64 (s.Peak.Lo + (((n / r514) / r544) / r574))) (some ({ A := (s.A.Lo + (n % r502)), B := (s.B.Lo + ((n / r514) % r532)), Half := (s.Half.Lo + (((n / r514) / r544) % r562)), Peak := (s.Peak.Lo + (((n / r514) / r544) / r574)) } : Trh))))))))))))))))))))))))))))))
def prDistance (s : Stm) (t : Trh) (x : Int) (y : Int) : Option (Int) := (gd (fitsP .i64 (s.Wide - (1 : Int))) (gd ((0 : Int) ≤ (s.Wide - (1 : Int))) (gd ((0 : Int) ≤ y) (gd (fitsP .i64 ((s.Wide - (1 : Int)) * y)) (gd (fitsP .i64 ((s.Wide - (1 : Int)) - x)) (gd ((0 : Int) ≤ t.A) (gd ((0 : Int) ≤ ((s.Wide - (1 : Int)) - x)) (gd (fitsP .i64 (t.A * ((s.Wide - (1 : Int)) - x))) (gd (fitsP .i64 (((s.Wide - (1 : Int)) * y) - (t.A * ((s.Wide - (1 : Int)) - x)))) (gd ((0 : Int) ≤ t.B) (gd ((0 : Int) ≤ x) (gd (fitsP .i64 (t.B * x)) (gd (fitsP .i64 ((((s.Wide - (1 : Int)) * y) - (t.A * ((s.Wide - (1 : Int)) - x))) - (t.B * x))) (if ((((s.Wide - (1 : Int)) * y) - (t.A * ((s.Wide - (1 : Int)) - x))) - (t.B * x)) < (0 : Int) then (gd (fitsP .i64 ((0 : Int) - ((((s.Wide - (1 : Int)) * y) - (t.A * ((s.Wide - (1 : Int)) - x))) - (t.B * x)))) (some ((0 : Int) - ((((s.Wide - (1 : Int)) * y) - (t.A * ((s.Wide - (1 : Int)) - x))) - (t.B * x))))) else (some ((((s.Wide - (1 : Int)) * y) - (t.A * ((s.Wide - (1 : Int)) - x))) - (t.B * x)))))))))))))))))
def prHit (s : Stm) (t : Trh) (x : Int) (y : Int) : Option (Bool) := ((prDistance s t x y).bind fun r644 => (gd (fitsP .i64 (s.Wide - (1 : Int))) (gd ((0 : Int) ≤ (s.Wide - (1 : Int))) (gd ((0 : Int) ≤ t.Half) (gd (fitsP .i64 ((s.Wide - (1 : Int)) * t.Half)) (some (decide (r644 ≤ ((s.Wide - (1 : Int)) * t.Half)))))))))
def prSize (s : Stm) (t : Trh) (x : Int) (y : Int) : Option (Int) := ((prHit s t x y).bind fun r666 => (if r666 = true then ((prDistance s t x y).bind fun r674 => (gd (fitsP .i64 (s.Wide - (1 : Int))) (gd ((0 : Int) ≤ r674) (gd ((0 : Int) < (s.Wide - (1 : Int))) (gd (fitsP .i64 (r674 / (s.Wide - (1 : Int)))) (gd ((0 : Int) ≤ s.Fall) (gd ((0 : Int) ≤ (r674 / (s.Wide - (1 : Int)))) (gd (fitsP .i64 (s.Fall * (r674 / (s.Wide - (1 : Int))))) (gd (fitsP .i64 (t.Peak - (s.Fall * (r674 / (s.Wide - (1 : Int)))))) (some (max (1 : Int) (t.Peak - (s.Fall * (r674 / (s.Wide - (1 : Int)))))))))))))))) else (some (0 : Int))))
def prRight_L1 (s : Stm) (t : Trh) (c : Crd) (x7 : Int) (K_R4 : Bool → Int → Option (Bool)) : Nat → Bool → Int → Option (Bool)
 | 0, _, _ => none
 | d713 + 1, b12, x14 => (if x14 ≤ c.Y.Hi then (if c.Hail = true then ((prHit s t x7 x14).bind fun r716 => (if r716 = true then ((prSize s t x7 x14).bind fun r725 => ((prIn r725 c.Size.Lo c.Size.Hi).bind fun r733 => (if r733 = true then (some true) else (gd (fitsP .i64 (x14 + 1)) (prRight_L1 s t c x7 K_R4 d713 b12 (x14 + 1)))))) else (gd (fitsP .i64 (x14 + 1)) (prRight_L1 s t c x7 K_R4 d713 b12 (x14 + 1))))) else ((prHit s t x7 x14).bind fun r744 => (if r744 = true then (gd (fitsP .i64 (x14 + 1)) (prRight_L1 s t c x7 K_R4 d713 b12 (x14 + 1))) else (some true)))) else (gd (fitsP .i64 (x7 + 1)) (K_R4 b12 (x7 + 1))))
def prRight_L0 (s : Stm) (t : Trh) (c : Crd) : Nat → Bool → Int → Option (Bool)
 | 0, _, _ => none
 | d709 + 1, b5, x7 => (if x7 ≤ c.X.Hi then (prRight_L1 s t c x7 (prRight_L0 s t c d709) 1000000 b5 c.Y.Lo) else (some false))
def prRight (s : Stm) (t : Trh) (c : Crd) : Option (Bool) := (prRight_L0 s t c 1000000 false c.X.Lo)
def prAll_L1 (s : Stm) (l762 : List Int) (x3 : Int) (K_R1 : (List Int) → Int → Option (List Int)) : Nat → Int → Int → Option (List Int)
 | 0, _, _ => none
 | d774 + 1, x21, x22 => (if x22 < (s.Cards.length : Int) then ((prNth s x3).bind fun r776 => ((idx s.Cards x22).bind fun v782 => ((prRight s r776 v782).bind fun r785 => (if r785 = true then (gd ((0 : Int) ≤ (1 : Int)) (gd ((0 : Int) ≤ (wrapZ .u64 x22)) (gd ((wrapZ .u64 x22) ≤ (64 : Int)) (gd (fitsP .i64 ((1 : Int) * ((2 : Int) ^ (Int.toNat (wrapZ .u64 x22))))) (gd ((0 : Int) ≤ x21) (gd ((0 : Int) ≤ ((1 : Int) * ((2 : Int) ^ (Int.toNat (wrapZ .u64 x22))))) (gd (fitsP .i64 x21) (gd (fitsP .i64 ((1 : Int) * ((2 : Int) ^ (Int.toNat (wrapZ .u64 x22))))) (gd (fitsP .i64 (((Nat.lor (Int.toNat x21) (Int.toNat ((1 : Int) * ((2 : Int) ^ (Int.toNat (wrapZ .u64 x22)))))) : Nat) : Int)) (gd (fitsP .i64 (x22 + 1)) (prAll_L1 s l762 x3 K_R1 d774 (((Nat.lor (Int.toNat x21) (Int.toNat ((1 : Int) * ((2 : Int) ^ (Int.toNat (wrapZ .u64 x22)))))) : Nat) : Int) (x22 + 1)))))))))))) else (gd (fitsP .i64 (x22 + 1)) (prAll_L1 s l762 x3 K_R1 d774 x21 (x22 + 1))))))) else (gd (l762.length < 1048576) (gd (fitsP .i64 (x3 + 1)) (K_R1 (l762 ++ [x21]) (x3 + 1)))))
def prAll_L0 (s : Stm) : Nat → (List Int) → Int → Option (List Int)
 | 0, _, _ => none
 | d764 + 1, l762, x3 => ((prMany s).bind fun r765 => (if x3 < r765 then (prAll_L1 s l762 x3 (prAll_L0 s d764) 1000000 (0 : Int) (0 : Int)) else (some l762)))
def prAll (s : Stm) : Option (List Int) := (prAll_L0 s 1000000 [] (0 : Int))
def prEvery (s : Stm) : Option (Int) := (gd ((0 : Int) ≤ (1 : Int)) (gd ((0 : Int) ≤ (wrapZ .u64 (s.Cards.length : Int))) (gd ((wrapZ .u64 (s.Cards.length : Int)) ≤ (64 : Int)) (gd (fitsP .i64 ((1 : Int) * ((2 : Int) ^ (Int.toNat (wrapZ .u64 (s.Cards.length : Int)))))) (gd (fitsP .i64 (((1 : Int) * ((2 : Int) ^ (Int.toNat (wrapZ .u64 (s.Cards.length : Int))))) - (1 : Int))) (some (((1 : Int) * ((2 : Int) ^ (Int.toNat (wrapZ .u64 (s.Cards.length : Int))))) - (1 : Int))))))))
def prTruths_L0 (s : Stm) (r834 : List Int) : Nat → (List Trh) → Int → Option (List Trh)
 | 0, _, _ => none
 | d847 + 1, l845, x18 => (if x18 < (r834.length : Int) then ((idx r834 x18).bind fun x849 => ((prEvery s).bind fun r851 => (if x849 = r851 then ((prNth s x18).bind fun r858 => (gd (l845.length < 1048576) (gd (fitsP .i64 (x18 + 1)) (prTruths_L0 s r834 d847 (l845 ++ [r858]) (x18 + 1))))) else (gd (fitsP .i64 (x18 + 1)) (prTruths_L0 s r834 d847 l845 (x18 + 1)))))) else (some l845))
def prTruths (s : Stm) : Option (List Trh) := ((prAll s).bind fun r834 => (prTruths_L0 s r834 (r834.length + 1) [] (0 : Int)))
def prIsTruth_L0 (s : Stm) (t : Trh) : Nat → Int → Option (Bool)
 | 0, _ => none
 | d926 + 1, x28 => (if x28 < (s.Cards.length : Int) then ((idx s.Cards x28).bind fun v928 => ((prRight s t v928).bind fun r931 => (if r931 = true then (gd (fitsP .i64 (x28 + 1)) (prIsTruth_L0 s t d926 (x28 + 1))) else (some false)))) else (some true))
def prIsTruth (s : Stm) (t : Trh) : Option (Bool) := ((prIn t.A s.A.Lo s.A.Hi).bind fun r892 => (if r892 = true then ((prIn t.B s.B.Lo s.B.Hi).bind fun r900 => (if r900 = true then ((prIn t.Half s.Half.Lo s.Half.Hi).bind fun r908 => (if r908 = true then ((prIn t.Peak s.Peak.Lo s.Peak.Hi).bind fun r916 => (if r916 = true then (prIsTruth_L0 s t 1000000 (0 : Int)) else (some false))) else (some false))) else (some false))) else (some false)))
def prWider (r : Rg) (n : Int) : Option (Rg) := (some ({ Lo := (min r.Lo n), Hi := (max r.Hi n) } : Rg))
def prEmpty : Option (Rg) := (some ({ Lo := (1099511627776 : Int), Hi := (-1099511627776 : Int) } : Rg))
def plTo (r : Rg) : Option (Rg) := (some r)
def plStorm_L0 (s : Stm) : Nat → Int → Int → Int → Int → Int → Int → Int → Int → Int → Int → Int → (List Crd) → Int → Option (Stm)
 | 0, _, _, _, _, _, _, _, _, _, _, _, _, _ => none
 | d1064 + 1, y1050, y1051, y1052, y1053, y1054, y1055, y1056, y1057, y1058, y1059, y1060, y1061, x33 => (if x33 < (s.Cards.length : Int) then ((idx s.Cards x33).bind fun v1066 => ((plTo v1066.X).bind fun r1085 => ((plTo v1066.Y).bind fun r1094 => ((plTo v1066.Size).bind fun r1103 => (gd (y1061.length < 1048576) (gd (fitsP .i64 (x33 + 1)) (plStorm_L0 s d1064 y1050 y1051 y1052 y1053 y1054 y1055 y1056 y1057 y1058 y1059 y1060 (y1061 ++ [({ X := r1085, Y := r1094, Hail := v1066.Hail, Size := r1103 } : Crd)]) (x33 + 1)))))))) else (some ({ Wide := y1050, High := y1051, Fall := y1052, A := ({ Lo := y1053, Hi := y1054 } : Rg), B := ({ Lo := y1055, Hi := y1056 } : Rg), Half := ({ Lo := y1057, Hi := y1058 } : Rg), Peak := ({ Lo := y1059, Hi := y1060 } : Rg), Cards := y1061 } : Stm)))
def plStorm (s : Stm) : Option (Stm) := ((plTo s.A).bind fun r1003 => ((plTo s.B).bind fun r1011 => ((plTo s.Half).bind fun r1019 => ((plTo s.Peak).bind fun r1027 => (plStorm_L0 s 1000000 s.Wide s.High s.Fall r1003.Lo r1003.Hi r1011.Lo r1011.Hi r1019.Lo r1019.Hi r1027.Lo r1027.Hi [] (0 : Int))))))
def plTruth (t : Trh) : Option (Trh) := (some t)
def plThin (s : Stm) : Option (Bool) := (if (s.Cards.length : Int) ≤ (9 : Int) then ((prFault s).bind fun r1171 => (if r1171 = 0 then ((prMany s).bind fun r1178 => (some (decide (r1178 ≤ 300)))) else (some true))) else (some false))
def plFault (s : Stm) : Option (Int) := ((prFault s).bind fun r1189 => (some r1189))
def plSure (s : Stm) : Option (List Trh × Int) := ((plFault s).bind fun r1200 => (if r1200 = 0 then ((prTruths s).bind fun r1207 => (if (r1207.length : Int) = (0 : Int) then (some ([], (11 : Int))) else (some (r1207, (0 : Int))))) else (some ([], r1200))))
def phas (r : Rg) (n : Int) : Option (Bool) := (if r.Lo ≤ n then (some (decide (n ≤ r.Hi))) else (some false))
def pcount (r : Rg) : Option (Int) := (gd (fitsP .i64 (r.Hi - r.Lo)) (gd (fitsP .i64 ((r.Hi - r.Lo) + (1 : Int))) (some ((r.Hi - r.Lo) + (1 : Int)))))
def pwithin (r : Rg) (low : Int) (high : Int) : Option (Bool) := (if low ≤ r.Lo then (if r.Lo ≤ r.Hi then (some (decide (r.Hi ≤ high))) else (some false)) else (some false))
def prect (c : Crd) : Option (Rct) := (some ({ X := c.X, Y := c.Y } : Rct))
def ptooMany (s : Stm) : Option (Bool) := (if (12 : Int) < s.Wide then (some true) else (if (12 : Int) < s.High then (some true) else (some (decide ((6 : Int) < (s.Cards.length : Int))))))
def phasRect (s : Stm) (r : Rct) : Option (Bool) := (gd (fitsP .i64 (s.Wide - (1 : Int))) ((pwithin r.X (0 : Int) (s.Wide - (1 : Int))).bind fun r1273 => (if r1273 = true then (gd (fitsP .i64 (s.High - (1 : Int))) ((pwithin r.Y (0 : Int) (s.High - (1 : Int))).bind fun r1282 => (some r1282))) else (some false))))
def pvalidCard (w : Wk) (c : Crd) : Option (Bool) := ((prect c).bind fun r1300 => ((phasRect w.s r1300).bind fun r1307 => (if r1307 = true then ((pwithin c.Size (0 : Int) (9 : Int)).bind fun r1315 => (if r1315 = true then (if c.Hail = true then (some true) else (gd (fitsP .i64 c.Size.Lo) (gd (fitsP .i64 (0 : Int)) (gd (fitsP .i64 c.Size.Hi) (gd (fitsP .i64 (0 : Int)) (some ((decide (c.Size.Lo = (0 : Int))) && (decide (c.Size.Hi = (0 : Int)))))))))) else (some false))) else (some false))))
def peachC1 (x : Crd) (passes : Crd → Option (Bool)) : Option (Bool) := ((passes x).bind fun r1333 => (some (!r1333)))
def pindexC_L0 (l : List Crd) (p : Crd → Option (Bool)) : Nat → Int → Option (Int)
 | 0, _ => none
 | d1341 + 1, x2 => (if x2 < (l.length : Int) then ((idx l x2).bind fun v1343 => ((p v1343).bind fun r1346 => (if r1346 = true then (some x2) else (gd (fitsP .i64 (x2 + 1)) (pindexC_L0 l p d1341 (x2 + 1)))))) else (some (-1 : Int)))
def pindexC (l : List Crd) (p : Crd → Option (Bool)) : Option (Int) := (pindexC_L0 l p (l.length + 1) (0 : Int))
def pcontainsC (l : List Crd) (p : Crd → Option (Bool)) : Option (Bool) := ((pindexC l p).bind fun r1353 => (some (decide ((0 : Int) ≤ r1353))))
def peachC (l : List Crd) (passes : Crd → Option (Bool)) : Option (Bool) := ((pcontainsC l (fun a1367 => peachC1 a1367 passes)).bind fun r1369 => (some (!r1369)))
def peachR1 (x : Rct) (passes : Rct → Option (Bool)) : Option (Bool) := ((passes x).bind fun r1379 => (some (!r1379)))
def pindexR_L0 (l : List Rct) (p : Rct → Option (Bool)) : Nat → Int → Option (Int)
 | 0, _ => none
 | d1387 + 1, x2 => (if x2 < (l.length : Int) then ((idx l x2).bind fun v1389 => ((p v1389).bind fun r1392 => (if r1392 = true then (some x2) else (gd (fitsP .i64 (x2 + 1)) (pindexR_L0 l p d1387 (x2 + 1)))))) else (some (-1 : Int)))
def pindexR (l : List Rct) (p : Rct → Option (Bool)) : Option (Int) := (pindexR_L0 l p (l.length + 1) (0 : Int))
def pcontainsR (l : List Rct) (p : Rct → Option (Bool)) : Option (Bool) := ((pindexR l p).bind fun r1399 => (some (decide ((0 : Int) ≤ r1399))))
def peachR (l : List Rct) (passes : Rct → Option (Bool)) : Option (Bool) := ((pcontainsR l (fun a1413 => peachR1 a1413 passes)).bind fun r1415 => (some (!r1415)))
def pvalid (w : Wk) : Option (Bool) := (if (2 : Int) ≤ w.s.Wide then (if (1 : Int) ≤ w.s.High then (if (0 : Int) ≤ w.s.Fall then (if w.s.Fall ≤ (4 : Int) then (gd (fitsP .i64 (w.s.High - (1 : Int))) ((pwithin w.s.A (0 : Int) (w.s.High - (1 : Int))).bind fun r1430 => (if r1430 = true then (gd (fitsP .i64 (w.s.High - (1 : Int))) ((pwithin w.s.B (0 : Int) (w.s.High - (1 : Int))).bind fun r1438 => (if r1438 = true then ((pwithin w.s.Half (0 : Int) (3 : Int)).bind fun r1445 => (if r1445 = true then ((pwithin w.s.Peak (1 : Int) (9 : Int)).bind fun r1452 => (if r1452 = true then ((peachC w.s.Cards (fun a1459 => pvalidCard w a1459)).bind fun r1461 => (some r1461)) else (some false))) else (some false))) else (some false)))) else (some false)))) else (some false)) else (some false)) else (some false)) else (some false))
def pinAll (s : Stm) : Option (Int) := ((pcount s.A).bind fun r1472 => ((pcount s.B).bind fun r1478 => (gd ((0 : Int) ≤ r1472) (gd ((0 : Int) ≤ r1478) (gd (fitsP .i64 (r1472 * r1478)) ((pcount s.Half).bind fun r1487 => (gd ((0 : Int) ≤ (r1472 * r1478)) (gd ((0 : Int) ≤ r1487) (gd (fitsP .i64 ((r1472 * r1478) * r1487)) ((pcount s.Peak).bind fun r1496 => (gd ((0 : Int) ≤ ((r1472 * r1478) * r1487)) (gd ((0 : Int) ≤ r1496) (gd (fitsP .i64 (((r1472 * r1478) * r1487) * r1496)) (some (((r1472 * r1478) * r1487) * r1496)))))))))))))))
def pisChoice (s : Stm) (t : Trh) : Option (Bool) := ((phas s.A t.A).bind fun r1516 => (if r1516 = true then ((phas s.B t.B).bind fun r1524 => (if r1524 = true then ((phas s.Half t.Half).bind fun r1532 => (if r1532 = true then ((phas s.Peak t.Peak).bind fun r1540 => (some r1540)) else (some false))) else (some false))) else (some false)))
def pcheck (s : Stm) : Option (Int) := ((ptooMany s).bind fun r1552 => (if r1552 = true then (some (3 : Int)) else ((pvalid ({ s := s, right := none } : Wk)).bind fun r1559 => (if r1559 = true then ((pinAll s).bind fun r1566 => (if (2000 : Int) < r1566 then (some (3 : Int)) else (some (0 : Int)))) else (some (1 : Int))))))
def pdistance (s : Stm) (t : Trh) (x : Int) (y : Int) : Option (Int) := (gd (fitsP .i64 (s.Wide - (1 : Int))) (gd ((0 : Int) ≤ (s.Wide - (1 : Int))) (gd ((0 : Int) ≤ y) (gd (fitsP .i64 ((s.Wide - (1 : Int)) * y)) (gd (fitsP .i64 ((s.Wide - (1 : Int)) - x)) (gd ((0 : Int) ≤ t.A) (gd ((0 : Int) ≤ ((s.Wide - (1 : Int)) - x)) (gd (fitsP .i64 (t.A * ((s.Wide - (1 : Int)) - x))) (gd ((0 : Int) ≤ t.B) (gd ((0 : Int) ≤ x) (gd (fitsP .i64 (t.B * x)) (gd (fitsP .i64 ((t.A * ((s.Wide - (1 : Int)) - x)) + (t.B * x))) (gd (fitsP .i64 (((s.Wide - (1 : Int)) * y) - ((t.A * ((s.Wide - (1 : Int)) - x)) + (t.B * x)))) (gd (fitsP .i64 ((0 : Int) - (((s.Wide - (1 : Int)) * y) - ((t.A * ((s.Wide - (1 : Int)) - x)) + (t.B * x))))) (some (max (((s.Wide - (1 : Int)) * y) - ((t.A * ((s.Wide - (1 : Int)) - x)) + (t.B * x))) ((0 : Int) - (((s.Wide - (1 : Int)) * y) - ((t.A * ((s.Wide - (1 : Int)) - x)) + (t.B * x))))))))))))))))))))
def phits (s : Stm) (t : Trh) (x : Int) (y : Int) : Option (Bool) := ((pdistance s t x y).bind fun r1609 => (gd (fitsP .i64 (s.Wide - (1 : Int))) (gd ((0 : Int) ≤ (s.Wide - (1 : Int))) (gd ((0 : Int) ≤ t.Half) (gd (fitsP .i64 ((s.Wide - (1 : Int)) * t.Half)) (some (decide (r1609 ≤ ((s.Wide - (1 : Int)) * t.Half)))))))))
def psize (s : Stm) (t : Trh) (x : Int) (y : Int) : Option (Int) := ((phits s t x y).bind fun r1631 => (if r1631 = true then ((pdistance s t x y).bind fun r1639 => (gd (fitsP .i64 (s.Wide - (1 : Int))) (gd ((0 : Int) ≤ r1639) (gd ((0 : Int) < (s.Wide - (1 : Int))) (gd (fitsP .i64 (r1639 / (s.Wide - (1 : Int)))) (gd ((0 : Int) ≤ s.Fall) (gd ((0 : Int) ≤ (r1639 / (s.Wide - (1 : Int)))) (gd (fitsP .i64 (s.Fall * (r1639 / (s.Wide - (1 : Int))))) (gd (fitsP .i64 (t.Peak - (s.Fall * (r1639 / (s.Wide - (1 : Int)))))) (some (max (1 : Int) (t.Peak - (s.Fall * (r1639 / (s.Wide - (1 : Int)))))))))))))))) else (some (0 : Int))))
def pnumbersI_L0 (r : Rg) (r1654 : Int) : Nat → Int → Option (List Int)
 | 0, _ => none
 | d1665 + 1, x6 => (if x6 < r1654 then (gd (fitsP .i64 (r.Lo + x6)) (((gd (fitsP .i64 (x6 + 1)) (pnumbersI_L0 r r1654 d1665 (x6 + 1)))).bind fun r1668 => some ((r.Lo + x6) :: r1668))) else (some []))
def pnumbersI (r : Rg) : Option (List Int) := ((pcount r).bind fun r1654 => (pnumbersI_L0 r r1654 (Int.toNat r1654 + 1) (0 : Int)))
def pnumbers (r : Rg) : Option (List Int) := ((pnumbersI r).bind fun l1691 => (some l1691))
def pplacesI_L0_xret : Option (List (Int × Int)) := (some [])
def pplacesI_L1_xret : Option (List (Int × Int)) := (pplacesI_L0_xret)
def pplacesI_L1 (a1719 : Int) (K_X0 : Option (List (Int × Int))) : List Int → Option (List (Int × Int))
 | [] => (K_X0)
 | a1780 :: q1781 => ((((pplacesI_L1 a1719 K_X0 q1781))).bind fun r1803 => some ((a1719, a1780) :: r1803))
def pplacesI_L0 (r : Rct) : List Int → Option (List (Int × Int))
 | [] => (some [])
 | a1719 :: q1720 => ((pnumbers r.Y).bind fun r1757 => (pplacesI_L1 a1719 ((pplacesI_L0 r q1720)) r1757))
def pplacesI (r : Rct) : Option (List (Int × Int)) := ((pnumbers r.X).bind fun r1700 => (pplacesI_L0 r r1700))
def pplaces (r : Rct) : Option (List (Int × Int)) := ((pplacesI r).bind fun l1841 => (some l1841))
def pisRight_L0_xret (y1894 : Bool) : Option (Bool) := (some y1894)
def pisRight_L0 (s : Stm) (c : Crd) (t : Trh) : List (Int × Int) → Bool → Option (Bool)
 | [], _ => (some false)
 | a1900 :: q1901, y1894 => ((phits s t a1900.1 a1900.2).bind fun r1923 => (if (r1923 == c.Hail) = true then ((psize s t a1900.1 a1900.2).bind fun r1934 => ((phas c.Size r1934).bind fun r1944 => (if r1944 = true then (pisRight_L0_xret true) else ((pisRight_L0 s c t q1901) y1894)))) else ((pisRight_L0 s c t q1901) y1894)))
def pisRight (s : Stm) (c : Crd) (t : Trh) : Option (Bool) := ((prect c).bind fun r1870 => ((pplaces r1870).bind fun r1879 => (pisRight_L0 s c t r1879 false)))
def pupTo_L0 (last : Int) : Nat → Bool → Bool → Bool → Bool → Bool → Bool → Int → Option (Cds)
 | 0, _, _, _, _, _, _, _ => none
 | d2132 + 1, y2126, y2127, y2128, y2129, y2130, y2131, x3 => (if x3 < (last + 1) then (gd (0 ≤ x3 ∧ x3 < 6) (gd (fitsP .i64 (x3 + 1)) (pupTo_L0 last d2132 (sti x3 0 true y2126) (sti x3 1 true y2127) (sti x3 2 true y2128) (sti x3 3 true y2129) (sti x3 4 true y2130) (sti x3 5 true y2131) (x3 + 1)))) else (some ({ c0 := y2126, c1 := y2127, c2 := y2128, c3 := y2129, c4 := y2130, c5 := y2131 } : Cds)))
def pupTo (last : Int) : Option (Cds) := (gd (fitsP .i64 (last + 1)) (pupTo_L0 last (Int.toNat (last + 1) + 1) false false false false false false (0 : Int)))
def pamong_L0 (c : Cds) : Nat → Bool → Bool → Bool → Bool → Bool → Bool → Int → Option (Cds)
 | 0, _, _, _, _, _, _, _ => none
 | d2174 + 1, y2168, y2169, y2170, y2171, y2172, y2173, x4 => (if x4 < 6 then ((idx ([y2168, y2169, y2170, y2171, y2172, y2173] : List Bool) x4).bind fun v2177 => (if v2177 = true then ((idx ([c.c0, c.c1, c.c2, c.c3, c.c4, c.c5] : List Bool) x4).bind fun v2180 => (gd (0 ≤ x4 ∧ x4 < 6) (gd (fitsP .i64 (x4 + 1)) (pamong_L0 c d2174 (sti x4 0 v2180 y2168) (sti x4 1 v2180 y2169) (sti x4 2 v2180 y2170) (sti x4 3 v2180 y2171) (sti x4 4 v2180 y2172) (sti x4 5 v2180 y2173) (x4 + 1))))) else (gd (0 ≤ x4 ∧ x4 < 6) (gd (fitsP .i64 (x4 + 1)) (pamong_L0 c d2174 (sti x4 0 false y2168) (sti x4 1 false y2169) (sti x4 2 false y2170) (sti x4 3 false y2171) (sti x4 4 false y2172) (sti x4 5 false y2173) (x4 + 1)))))) else (some ({ c0 := y2168, c1 := y2169, c2 := y2170, c3 := y2171, c4 := y2172, c5 := y2173 } : Cds)))
def pamong (c : Cds) (these : Cds) : Option (Cds) := (pamong_L0 c (Int.toNat (6 : Int) + 1) these.c0 these.c1 these.c2 these.c3 these.c4 these.c5 (0 : Int))
def prightCards_L0 (w : Wk) (t : Trh) : Nat → Bool → Bool → Bool → Bool → Bool → Bool → Int → Option (Cds)
 | 0, _, _, _, _, _, _, _ => none
 | d2240 + 1, y2234, y2235, y2236, y2237, y2238, y2239, x6 => (if x6 < (w.s.Cards.length : Int) then ((idx w.s.Cards x6).bind fun v2242 => ((pisRight w.s v2242 t).bind fun r2263 => (gd (0 ≤ x6 ∧ x6 < 6) (gd (fitsP .i64 (x6 + 1)) (prightCards_L0 w t d2240 (sti x6 0 r2263 y2234) (sti x6 1 r2263 y2235) (sti x6 2 r2263 y2236) (sti x6 3 r2263 y2237) (sti x6 4 r2263 y2238) (sti x6 5 r2263 y2239) (x6 + 1)))))) else (some ({ c0 := y2234, c1 := y2235, c2 := y2236, c3 := y2237, c4 := y2238, c5 := y2239 } : Cds)))
def prightCards (w : Wk) (t : Trh) : Option (Cds) := (prightCards_L0 w t (w.s.Cards.length + 1) false false false false false false (0 : Int))
def pallCards (w : Wk) : Option (Cds) := (gd (fitsP .i64 ((w.s.Cards.length : Int) - (1 : Int))) ((pupTo ((w.s.Cards.length : Int) - (1 : Int))).bind fun r2304 => (some r2304)))
def pchoicesI_L0_xret : Option (List Trh) := (some [])
def pchoicesI_L1_xret : Option (List Trh) := (pchoicesI_L0_xret)
def pchoicesI_L2_xret : Option (List Trh) := (pchoicesI_L1_xret)
def pchoicesI_L3_xret : Option (List Trh) := (pchoicesI_L2_xret)
def pchoicesI_L3 (a2342 : Int) (a2403 : Int) (a2474 : Int) (K_X2 : Option (List Trh)) : List Int → Option (List Trh)
 | [] => (K_X2)
 | a2555 :: q2556 => ((((pchoicesI_L3 a2342 a2403 a2474 K_X2 q2556))).bind fun r2582 => some (({ A := a2342, B := a2403, Half := a2474, Peak := a2555 } : Trh) :: r2582))
def pchoicesI_L2 (s : Stm) (a2342 : Int) (a2403 : Int) (K_X1 : Option (List Trh)) : List Int → Option (List Trh)
 | [] => (K_X1)
 | a2474 :: q2475 => ((pnumbers s.Peak).bind fun r2524 => (pchoicesI_L3 a2342 a2403 a2474 ((pchoicesI_L2 s a2342 a2403 K_X1 q2475)) r2524))
def pchoicesI_L1 (s : Stm) (a2342 : Int) (K_X0 : Option (List Trh)) : List Int → Option (List Trh)
 | [] => (K_X0)
 | a2403 :: q2404 => ((pnumbers s.Half).bind fun r2447 => (pchoicesI_L2 s a2342 a2403 ((pchoicesI_L1 s a2342 K_X0 q2404)) r2447))
def pchoicesI_L0 (s : Stm) : List Int → Option (List Trh)
 | [] => (some [])
 | a2342 :: q2343 => ((pnumbers s.B).bind fun r2380 => (pchoicesI_L1 s a2342 ((pchoicesI_L0 s q2343)) r2380))
def pchoicesI (s : Stm) : Option (List Trh) := ((pnumbers s.A).bind fun r2323 => (pchoicesI_L0 s r2323))
def pchoices (s : Stm) : Option (List Trh) := ((pchoicesI s).bind fun l2636 => (some l2636))
def popen_L0 (s : Stm) : List Trh → (Option (Trh → Option (Cds))) → Option (Wk)
 | [], w2688 => (some ({ s := s, right := w2688 } : Wk))
 | a2690 :: q2691, w2688 => ((prightCards ({ s := s, right := w2688 } : Wk) a2690).bind fun r2743 => (gd (MK.fit a2690) ((mset w2688 a2690 r2743).bind fun w2755 => ((popen_L0 s q2691) w2755))))
def popen (s : Stm) : Option (Wk) := ((pchoices s).bind fun r2673 => (popen_L0 s r2673 (some fun _ => none : Option (Trh → Option (Cds)))))
def ptruthsI_L0_xret : Option (List Trh) := (some [])
def ptruthsI_L0 (w : Wk) (r2792 : Cds) : List Trh → Option (List Trh)
 | [] => (some [])
 | a2834 :: q2835 => (gd (MK.fit a2834) (mcase (mget w.right a2834) (if ((false == r2792.c0) && ((false == r2792.c1) && ((false == r2792.c2) && ((false == r2792.c3) && ((false == r2792.c4) && (false == r2792.c5)))))) = true then ((((ptruthsI_L0 w r2792 q2835))).bind fun r2879 => some (a2834 :: r2879)) else ((ptruthsI_L0 w r2792 q2835))) fun w2877 => (if ((w2877.c0 == r2792.c0) && ((w2877.c1 == r2792.c1) && ((w2877.c2 == r2792.c2) && ((w2877.c3 == r2792.c3) && ((w2877.c4 == r2792.c4) && (w2877.c5 == r2792.c5)))))) = true then ((((ptruthsI_L0 w r2792 q2835))).bind fun r2901 => some (a2834 :: r2901)) else ((ptruthsI_L0 w r2792 q2835)))))
def ptruthsI (w : Wk) : Option (List Trh) := ((pallCards w).bind fun r2792 => ((pchoices w.s).bind fun r2813 => (ptruthsI_L0 w r2792 r2813)))
def ptruths (w : Wk) : Option (List Trh) := ((ptruthsI w).bind fun l2935 => (some l2935))
def pcanHold_L0_xret (y2969 : Bool) : Option (Bool) := (some y2969)
def pcanHold_L0 (w : Wk) (these : Cds) : List Trh → Bool → Option (Bool)
 | [], _ => (some false)
 | a2975 :: q2976, y2969 => (gd (MK.fit a2975) (mcase (mget w.right a2975) ((pamong ({ c0 := false, c1 := false, c2 := false, c3 := false, c4 := false, c5 := false } : Cds) these).bind fun r3019 => (if ((r3019.c0 == these.c0) && ((r3019.c1 == these.c1) && ((r3019.c2 == these.c2) && ((r3019.c3 == these.c3) && ((r3019.c4 == these.c4) && (r3019.c5 == these.c5)))))) = true then (pcanHold_L0_xret true) else ((pcanHold_L0 w these q2976) y2969))) fun w3018 => ((pamong w3018 these).bind fun r3039 => (if ((r3039.c0 == these.c0) && ((r3039.c1 == these.c1) && ((r3039.c2 == these.c2) && ((r3039.c3 == these.c3) && ((r3039.c4 == these.c4) && (r3039.c5 == these.c5)))))) = true then (pcanHold_L0_xret true) else ((pcanHold_L0 w these q2976) y2969)))))
def pcanHold (w : Wk) (these : Cds) : Option (Bool) := ((pchoices w.s).bind fun r2956 => (pcanHold_L0 w these r2956 false))
def phasTruth (w : Wk) : Option (Bool) := ((pallCards w).bind fun r3075 => ((pcanHold w r3075).bind fun r3081 => (some r3081)))
def popenTrue (s : Stm) (asked : List Rct) : Option (Wk × Int) := ((pcheck s).bind fun r3098 => (if r3098 = 0 then ((peachR asked (fun a3112 => phasRect s a3112)).bind fun r3114 => (if r3114 = true then ((popen s).bind fun r3128 => ((phasTruth r3128).bind fun r3154 => (if r3154 = true then (some (r3128, (0 : Int))) else (some (({ s := ({ Wide := (0 : Int), High := (0 : Int), Fall := (0 : Int), A := ({ Lo := (0 : Int), Hi := (0 : Int) } : Rg), B := ({ Lo := (0 : Int), Hi := (0 : Int) } : Rg), Half := ({ Lo := (0 : Int), Hi := (0 : Int) } : Rg), Peak := ({ Lo := (0 : Int), Hi := (0 : Int) } : Rg), Cards := [] } : Stm), right := none } : Wk), (11 : Int)))))) else (some (({ s := ({ Wide := (0 : Int), High := (0 : Int), Fall := (0 : Int), A := ({ Lo := (0 : Int), Hi := (0 : Int) } : Rg), B := ({ Lo := (0 : Int), Hi := (0 : Int) } : Rg), Half := ({ Lo := (0 : Int), Hi := (0 : Int) } : Rg), Peak := ({ Lo := (0 : Int), Hi := (0 : Int) } : Rg), Cards := [] } : Stm), right := none } : Wk), (2 : Int))))) else (some (({ s := ({ Wide := (0 : Int), High := (0 : Int), Fall := (0 : Int), A := ({ Lo := (0 : Int), Hi := (0 : Int) } : Rg), B := ({ Lo := (0 : Int), Hi := (0 : Int) } : Rg), Half := ({ Lo := (0 : Int), Hi := (0 : Int) } : Rg), Peak := ({ Lo := (0 : Int), Hi := (0 : Int) } : Rg), Cards := [] } : Stm), right := none } : Wk), r3098))))
def pminimum_L0 (l : List Int) : Nat → Int → Int → Option (Int)
 | 0, _, _ => none
 | d3182 + 1, x3, x4 => (if x4 < (l.length : Int) then ((idx l x4).bind fun x3184 => (if x3184 < x3 then (gd (fitsP .i64 (x4 + 1)) (pminimum_L0 l d3182 x3184 (x4 + 1))) else (gd (fitsP .i64 (x4 + 1)) (pminimum_L0 l d3182 x3 (x4 + 1))))) else (some x3))
def pminimum (l : List Int) : Option (Int) := (if (l.length : Int) = (0 : Int) then (some (0 : Int)) else ((idx l (0 : Int)).bind fun x3178 => (pminimum_L0 l (l.length + 1) x3178 (0 : Int))))
def psMax_L0 (l : List Int) : Nat → Int → Int → Option (Int)
 | 0, _, _ => none
 | d3194 + 1, x3, x4 => (if x4 < (l.length : Int) then ((idx l x4).bind fun x3196 => (gd (fitsP .i64 (x4 + 1)) (psMax_L0 l d3194 (max x3 x3196) (x4 + 1)))) else (some x3))
def psMax (l : List Int) : Option (Int) := (if (l.length : Int) < (1 : Int) then none else ((idx l (0 : Int)).bind fun x3190 => (psMax_L0 l (((l.length : Int) - (1 : Int)).toNat + 1) x3190 (1 : Int))))
def pspan_L0 (number : Trh → Option (Int)) : List Trh → (List Int) → Option (Rg)
 | [], y3240 => ((pminimum y3240).bind fun r3336 => ((psMax y3240).bind fun r3346 => (some ({ Lo := r3336, Hi := r3346 } : Rg))))
 | a3244 :: q3245, y3240 => ((number a3244).bind fun r3288 => (gd (y3240.length < 1048576) ((pspan_L0 number q3245) (y3240 ++ [r3288]))))
def pspan (w : Wk) (number : Trh → Option (Int)) : Option (Rg) := ((ptruths w).bind fun r3225 => (pspan_L0 number r3225 []))
def pbA (t : Trh) : Option (Int) := (some t.A)
def pbB (t : Trh) : Option (Int) := (some t.B)
def pbHalf (t : Trh) : Option (Int) := (some t.Half)
def pbPeak (t : Trh) : Option (Int) := (some t.Peak)
def pcloneC (s : List Crd) : Option (List Crd) := (gd (([] : List Crd).length + s.length ≤ 1048576) (some ([] ++ s)))
def pBounds (s : Stm) : Option (Stm × Int) := ((popenTrue s []).bind fun r3414 => (if r3414.2 = (0 : Int) then ((pspan r3414.1 (fun a3448 => pbA a3448)).bind fun r3450 => ((pspan r3414.1 (fun a3465 => pbB a3465)).bind fun r3467 => ((pspan r3414.1 (fun a3482 => pbHalf a3482)).bind fun r3484 => ((pspan r3414.1 (fun a3499 => pbPeak a3499)).bind fun r3501 => ((pcloneC s.Cards).bind fun r3516 => (some (({ Wide := s.Wide, High := s.High, Fall := s.Fall, A := r3450, B := r3467, Half := r3484, Peak := r3501, Cards := r3516 } : Stm), (0 : Int)))))))) else (some (({ Wide := (0 : Int), High := (0 : Int), Fall := (0 : Int), A := ({ Lo := (0 : Int), Hi := (0 : Int) } : Rg), B := ({ Lo := (0 : Int), Hi := (0 : Int) } : Rg), Half := ({ Lo := (0 : Int), Hi := (0 : Int) } : Rg), Peak := ({ Lo := (0 : Int), Hi := (0 : Int) } : Rg), Cards := [] } : Stm), r3414.2))))
def pProveTruth (s : Stm) (t : Trh) : Option (Bool) := ((pcheck s).bind fun r3563 => (if r3563 = 0 then ((pisChoice s t).bind fun r3585 => (if r3585 = true then ((prightCards ({ s := s, right := none } : Wk) t).bind fun r3594 => ((pallCards ({ s := s, right := none } : Wk)).bind fun r3602 => (some ((r3594.c0 == r3602.c0) && ((r3594.c1 == r3602.c1) && ((r3594.c2 == r3602.c2) && ((r3594.c3 == r3602.c3) && ((r3594.c4 == r3602.c4) && (r3594.c5 == r3602.c5))))))))) else (some false))) else (some false)))
def plSame_L0 (a : Stm) (r3621 : Stm) : Nat → Int → Option (Bool)
 | 0, _ => none
 | d3671 + 1, x56 => (if x56 < (a.Cards.length : Int) then ((idx a.Cards x56).bind fun v3673 => ((idx r3621.Cards x56).bind fun v3676 => (gd (fitsP .i64 v3673.X.Lo) (gd (fitsP .i64 v3676.X.Lo) (gd (fitsP .i64 v3673.X.Hi) (gd (fitsP .i64 v3676.X.Hi) (gd (fitsP .i64 v3673.Y.Lo) (gd (fitsP .i64 v3676.Y.Lo) (gd (fitsP .i64 v3673.Y.Hi) (gd (fitsP .i64 v3676.Y.Hi) (gd (fitsP .i64 v3673.Size.Lo) (gd (fitsP .i64 v3676.Size.Lo) (gd (fitsP .i64 v3673.Size.Hi) (gd (fitsP .i64 v3676.Size.Hi) (if ((decide (v3673.X.Lo = v3676.X.Lo)) && ((decide (v3673.X.Hi = v3676.X.Hi)) && ((decide (v3673.Y.Lo = v3676.Y.Lo)) && ((decide (v3673.Y.Hi = v3676.Y.Hi)) && ((v3673.Hail == v3676.Hail) && ((decide (v3673.Size.Lo = v3676.Size.Lo)) && (decide (v3673.Size.Hi = v3676.Size.Hi)))))))) = true then (gd (fitsP .i64 (x56 + 1)) (plSame_L0 a r3621 d3671 (x56 + 1))) else (some false)))))))))))))))) else (some true))
def plSame (a : Stm) (s : Stm) : Option (Bool) := ((plStorm s).bind fun r3621 => (if a.Wide = r3621.Wide then (if a.High = r3621.High then (if a.Fall = r3621.Fall then (gd (fitsP .i64 a.A.Lo) (gd (fitsP .i64 r3621.A.Lo) (gd (fitsP .i64 a.A.Hi) (gd (fitsP .i64 r3621.A.Hi) (if ((decide (a.A.Lo = r3621.A.Lo)) && (decide (a.A.Hi = r3621.A.Hi))) = true then (gd (fitsP .i64 a.B.Lo) (gd (fitsP .i64 r3621.B.Lo) (gd (fitsP .i64 a.B.Hi) (gd (fitsP .i64 r3621.B.Hi) (if ((decide (a.B.Lo = r3621.B.Lo)) && (decide (a.B.Hi = r3621.B.Hi))) = true then (gd (fitsP .i64 a.Half.Lo) (gd (fitsP .i64 r3621.Half.Lo) (gd (fitsP .i64 a.Half.Hi) (gd (fitsP .i64 r3621.Half.Hi) (if ((decide (a.Half.Lo = r3621.Half.Lo)) && (decide (a.Half.Hi = r3621.Half.Hi))) = true then (gd (fitsP .i64 a.Peak.Lo) (gd (fitsP .i64 r3621.Peak.Lo) (gd (fitsP .i64 a.Peak.Hi) (gd (fitsP .i64 r3621.Peak.Hi) (if ((decide (a.Peak.Lo = r3621.Peak.Lo)) && (decide (a.Peak.Hi = r3621.Peak.Hi))) = true then (if (a.Cards.length : Int) = (r3621.Cards.length : Int) then (plSame_L0 a r3621 1000000 (0 : Int)) else (some false)) else (some false)))))) else (some false)))))) else (some false)))))) else (some false)))))) else (some false)) else (some false)) else (some false)))
def plEmpty (a : Stm) : Option (Bool) := (if (a.Cards.length : Int) = (0 : Int) then ((plSame a ({ Wide := (0 : Int), High := (0 : Int), Fall := (0 : Int), A := ({ Lo := (0 : Int), Hi := (0 : Int) } : Rg), B := ({ Lo := (0 : Int), Hi := (0 : Int) } : Rg), Half := ({ Lo := (0 : Int), Hi := (0 : Int) } : Rg), Peak := ({ Lo := (0 : Int), Hi := (0 : Int) } : Rg), Cards := [] } : Stm)).bind fun r3699 => (some r3699)) else (some false))
def prBounds_L0 (l : List Trh) : Nat → Int → Int → Int → Int → Int → Int → Int → Int → Int → Option (Rg × Rg × Rg × Rg)
 | 0, _, _, _, _, _, _, _, _, _ => none
 | d3867 + 1, y3859, y3860, y3861, y3862, y3863, y3864, y3865, y3866, x29 => (if x29 < (l.length : Int) then ((idx l x29).bind fun v3869 => ((prWider ({ Lo := y3859, Hi := y3860 } : Rg) v3869.A).bind fun r3872 => ((idx l x29).bind fun v3885 => ((prWider ({ Lo := y3861, Hi := y3862 } : Rg) v3885.B).bind fun r3888 => ((idx l x29).bind fun v3901 => ((prWider ({ Lo := y3863, Hi := y3864 } : Rg) v3901.Half).bind fun r3904 => ((idx l x29).bind fun v3917 => ((prWider ({ Lo := y3865, Hi := y3866 } : Rg) v3917.Peak).bind fun r3920 => (gd (fitsP .i64 (x29 + 1)) (prBounds_L0 l d3867 r3872.Lo r3872.Hi r3888.Lo r3888.Hi r3904.Lo r3904.Hi r3920.Lo r3920.Hi (x29 + 1))))))))))) else (some (({ Lo := y3859, Hi := y3860 } : Rg), ({ Lo := y3861, Hi := y3862 } : Rg), ({ Lo := y3863, Hi := y3864 } : Rg), ({ Lo := y3865, Hi := y3866 } : Rg))))
def prBounds (l : List Trh) : Option (Rg × Rg × Rg × Rg) := ((prEmpty).bind fun r3731 => ((prEmpty).bind fun r3740 => ((prEmpty).bind fun r3749 => ((prEmpty).bind fun r3758 => (prBounds_L0 l (l.length + 1) r3731.Lo r3731.Hi r3740.Lo r3740.Hi r3749.Lo r3749.Hi r3758.Lo r3758.Hi (0 : Int))))))
def pStormBounds (s : Stm) (t : Trh) : Option (Bool) := ((plThin s).bind fun r4041 => (if r4041 = true then ((plStorm s).bind fun r4056 => ((pBounds r4056).bind fun r4066 => ((plStorm s).bind fun r4090 => ((plTruth t).bind fun r4101 => ((pProveTruth r4090 r4101).bind fun r4109 => ((plStorm s).bind fun r4117 => ((pcheck r4117).bind fun r4128 => ((plFault s).bind fun r4136 => (if r4128 = r4136 then ((prFault s).bind fun r4145 => (if r4145 = 0 then ((prIsTruth s t).bind fun r4154 => (if (r4109 == r4154) = true then ((plSure s).bind fun r4163 => (if r4163.2 = (0 : Int) then ((prBounds r4163.1).bind fun r4209 => (if r4066.2 = (0 : Int) then ((plSame r4066.1 ({ Wide := s.Wide, High := s.High, Fall := s.Fall, A := r4209.1, B := r4209.2.1, Half := r4209.2.2.1, Peak := r4209.2.2.2, Cards := s.Cards } : Stm)).bind fun r4251 => (if r4251 = true then ((pawake).bind fun r4261 => (some r4261)) else (some false))) else (some false))) else (if r4066.2 = r4163.2 then ((plEmpty r4066.1).bind fun r4176 => (if r4176 = true then ((pawake).bind fun r4185 => (some r4185)) else (some false))) else (some false)))) else (some false))) else (if (r4109 == false) = true then ((plSure s).bind fun r4271 => (if r4271.2 = (0 : Int) then ((prBounds r4271.1).bind fun r4317 => (if r4066.2 = (0 : Int) then ((plSame r4066.1 ({ Wide := s.Wide, High := s.High, Fall := s.Fall, A := r4317.1, B := r4317.2.1, Half := r4317.2.2.1, Peak := r4317.2.2.2, Cards := s.Cards } : Stm)).bind fun r4359 => (if r4359 = true then ((pawake).bind fun r4369 => (some r4369)) else (some false))) else (some false))) else (if r4066.2 = r4271.2 then ((plEmpty r4066.1).bind fun r4284 => (if r4284 = true then ((pawake).bind fun r4293 => (some r4293)) else (some false))) else (some false)))) else (some false)))) else (some false)))))))))) else ((pawake).bind fun r4049 => (some r4049))))
end
end Go.Proofs.YtbnfnhfanooplaaGreat

namespace Go.Proofs.YtbnfnhfanooplaaGreat
open _root_.Go.Proofs.Tryz
open Go.Abs
set_option maxRecDepth 100000
noncomputable section
theorem c95 {a100 : Int} {a101 : Int} {a102 : Int} {a103 : Int} {a104 : Bool} {a105 : Int} {a106 : Int} {b0 : Nat} {m : M} {Q : V → M → Prop} (h :
 (∀ m0 : M, (m0 = (M.new m (AO.cells 7 [(Il a100), (Il a101), (Il a102), 
 (Il a103), (C.bool a104), (Il a105), (Il a106)] false))) → 
 ∃ c1 : C, ((ldC m0 (C.ptr b0 0)) = (some c1)) ∧ ∃ x2, ∃ x3, ∃ x4, ∃ x5, 
 ∃ b6 : Bool, ∃ x7, ∃ x8, ((ldA m0 (C.ptr m.nxt 0) 7) = (some [(Il x2), 
 (Il x3), (Il x4), (Il x5), (C.bool b6), (Il x7), 
 (Il x8)])) ∧ callP prog tbl [(V.agg 7 [(Il x2), (Il x3), 
 (Il x4), (Il x5), (C.bool b6), (Il x7), (Il x8)])] c1 m0 (fun v9 m10 => 
 ∃ b11 : Bool, (v9 = (V.c (C.bool b11))) ∧ Q (V.c (C.bool (!b11))) m10))) : Wc prog tbl 95 [.agg 7 [Il a100, Il a101, Il a102, Il a103, .bool a104, Il a105, Il a106], .c (.ptr b0 0)] m Q :=
 wc_eq (n := 2) rfl (by kernel_rfl) (by kernel_rfl) h
theorem c91 {a100 : Int} {a101 : Int} {a102 : Int} {a103 : Int} {b0 : Nat} {m : M} {Q : V → M → Prop} (h :
 (∀ m0 : M, (m0 = (M.new m (AO.cells 4 [(Il a100), (Il a101), (Il a102), 
 (Il a103)] false))) → ∃ c1 : C, ((ldC m0 (C.ptr b0 0)) = (some c1)) ∧ ∃ x2, 
 ∃ x3, ∃ x4, ∃ x5, ((ldA m0 (C.ptr m.nxt 0) 4) = (some [(Il x2), 
 (Il x3), (Il x4), (Il x5)])) ∧ callP prog tbl [(V.agg 4 [(Il x2), 
 (Il x3), (Il x4), (Il x5)])] c1 m0 (fun v6 m7 => 
 ∃ b8 : Bool, (v6 = (V.c (C.bool b8))) ∧ Q (V.c (C.bool (!b8))) m7))) : Wc prog tbl 91 [.agg 4 [Il a100, Il a101, Il a102, Il a103], .c (.ptr b0 0)] m Q :=
 wc_eq (n := 2) rfl (by kernel_rfl) (by kernel_rfl) h
theorem c100 {a100 : C} {b0 : Nat} {m : M} {Q : V → M → Prop} (h :
 (∃ x0, ∃ x1, ((ldA m (C.ptr b0 0) 2) = (some [(Il x0), (Il x1)])) ∧ 
 Wc prog tbl 74 [(V.agg 2 [(Il x0), (Il x1)])] m (fun v2 m3 => ∃ x4, 
 (v2 = (V.c (Il x4))) ∧ ∀ R5 : List V → M → Prop, (∀ x6 : Int, ∀ m7 : M, (ifB (decide (x6 < x4)) (isPt (C.ptr b0 0) ∧ 
 ∃ x8, ((ldC m7 (C.ptr b0 0)) = (some (Il x8))) ∧ fitsP .i64 (x8 + x6) ∧ 
 callP prog tbl [(V.c (Il (x8 + x6)))] a100 m7 (fun v9 m10 => ∃ b11 : Bool, 
 (v9 = (V.c (C.bool b11))) ∧ ifB (!b11) (Q (V.tup []) m10) (fitsP .i64 (x6 + 1) ∧ 
 R5 [(V.c (Il (x6 + 1)))] m10))) (Q (V.tup []) m7)) → 
 R5 [(V.c (Il x6))] m7) → R5 [(V.c (Il 0))] m3))) : Wc prog tbl 100 [.c (a100), .c (.ptr b0 0)] m Q :=
 wc_eq (n := 2) rfl (by kernel_rfl) (by kernel_rfl) h
theorem c88 {a100 : C} {b0 : Nat} {m : M} {Q : V → M → Prop} (h :
 (∀ m0 : M, (m0 = (M.new m (AO.cells 1 [a100] false))) → isPt (C.ptr b0 0) ∧ ∃ x1, ∃ x2, ((ldA m0 (C.ptr b0 0) 2) = (some [(Il x1), 
 (Il x2)])) ∧ Wc prog tbl 89 [(V.agg 2 [(Il x1), (Il x2)])] m0 (fun v3 m4 => 
 ∃ c5 : C, (v3 = (V.c c5)) ∧ rangeP prog tbl c5 m4 (fun l6 m7 R8 R9 => ∃ x10, (l6 = [(V.c (Il x10))]) ∧ 
 ∀ m11 : M, (m11 = (M.new m7 (AO.cells 1 [(Il 0)] false))) → ∃ m12 : M, 
 ((stC m11 (C.ptr m7.nxt 0) 1 [(Il x10)]) = (some m12)) ∧ R8 m12 (fun m13 => 
 isPt (C.ptr b0 0) ∧ ∃ x14, ∃ x15, ((ldA m13 (C.ptr b0 2) 2) = (some [(Il x14), 
 (Il x15)])) ∧ Wc prog tbl 89 [(V.agg 2 [(Il x14), 
 (Il x15)])] m13 (fun v16 m17 => ∃ c18 : C, (v16 = (V.c c18)) ∧ 
 rangeP prog tbl c18 m17 (fun l19 m20 R21 R22 => ∃ x23, (l19 = [(V.c (Il x23))]) ∧ 
 R21 m20 (fun m24 => ∃ c25 : C, ((ldC m24 (C.ptr m.nxt 0)) = (some c25)) ∧ 
 ∃ x26, ((ldC m24 (C.ptr m7.nxt 0)) = (some (Il x26))) ∧ 
 callP prog tbl [(V.c (Il x26)), (V.c (Il x23))] c25 m24 (fun v27 m28 => 
 ∃ b29 : Bool, (v27 = (V.c (C.bool b29))) ∧ ifB (!b29) (R22 Ex.ret m28) (R22 Ex.nrm m28)))) (After.mk (fun m30 => 
 R9 Ex.nrm m30) [] (fun m31 => R9 Ex.ret m31))))) (After.mk (fun m32 => 
 Q (V.tup []) m32) [] (fun m33 => Q (V.tup []) m33))))) : Wc prog tbl 88 [.c (a100), .c (.ptr b0 0)] m Q :=
 wc_eq (n := 2) rfl (by kernel_rfl) (by kernel_rfl) h
theorem c97 {a100 : C} {b0 : Nat} {m : M} {Q : V → M → Prop} (h :
 (∀ m0 : M, (m0 = (M.new m (AO.cells 1 [a100] false))) → isPt (C.ptr b0 0) ∧ ∃ x1, ∃ x2, ((ldA m0 (C.ptr b0 3) 2) = (some [(Il x1), 
 (Il x2)])) ∧ Wc prog tbl 89 [(V.agg 2 [(Il x1), (Il x2)])] m0 (fun v3 m4 => 
 ∃ c5 : C, (v3 = (V.c c5)) ∧ rangeP prog tbl c5 m4 (fun l6 m7 R8 R9 => ∃ x10, (l6 = [(V.c (Il x10))]) ∧ 
 ∀ m11 : M, (m11 = (M.new m7 (AO.cells 1 [(Il 0)] false))) → ∃ m12 : M, 
 ((stC m11 (C.ptr m7.nxt 0) 1 [(Il x10)]) = (some m12)) ∧ R8 m12 (fun m13 => 
 isPt (C.ptr b0 0) ∧ ∃ x14, ∃ x15, ((ldA m13 (C.ptr b0 5) 2) = (some [(Il x14), 
 (Il x15)])) ∧ Wc prog tbl 89 [(V.agg 2 [(Il x14), 
 (Il x15)])] m13 (fun v16 m17 => ∃ c18 : C, (v16 = (V.c c18)) ∧ 
 rangeP prog tbl c18 m17 (fun l19 m20 R21 R22 => ∃ x23, (l19 = [(V.c (Il x23))]) ∧ 
 ∀ m24 : M, (m24 = (M.new m20 (AO.cells 1 [(Il 0)] false))) → 
 ∃ m25 : M, ((stC m24 (C.ptr m20.nxt 0) 1 [(Il x23)]) = (some m25)) ∧ 
 R21 m25 (fun m26 => isPt (C.ptr b0 0) ∧ ∃ x27, ∃ x28, ((ldA m26 (C.ptr b0 7) 2) = (some [(Il x27), 
 (Il x28)])) ∧ Wc prog tbl 89 [(V.agg 2 [(Il x27), 
 (Il x28)])] m26 (fun v29 m30 => ∃ c31 : C, (v29 = (V.c c31)) ∧ 
 rangeP prog tbl c31 m30 (fun l32 m33 R34 R35 => ∃ x36, (l32 = [(V.c (Il x36))]) ∧ 
 ∀ m37 : M, (m37 = (M.new m33 (AO.cells 1 [(Il 0)] false))) → 
 ∃ m38 : M, ((stC m37 (C.ptr m33.nxt 0) 1 [(Il x36)]) = (some m38)) ∧ 
 R34 m38 (fun m39 => isPt (C.ptr b0 0) ∧ ∃ x40, ∃ x41, ((ldA m39 (C.ptr b0 9) 2) = (some [(Il x40), 
 (Il x41)])) ∧ Wc prog tbl 89 [(V.agg 2 [(Il x40), 
 (Il x41)])] m39 (fun v42 m43 => ∃ c44 : C, (v42 = (V.c c44)) ∧ 
 rangeP prog tbl c44 m43 (fun l45 m46 R47 R48 => ∃ x49, (l45 = [(V.c (Il x49))]) ∧ 
 R47 m46 (fun m50 => ∃ c51 : C, ((ldC m50 (C.ptr m.nxt 0)) = (some c51)) ∧ 
 ∃ x52, ((ldC m50 (C.ptr m7.nxt 0)) = (some (Il x52))) ∧ 
 ∃ x53, ((ldC m50 (C.ptr m20.nxt 0)) = (some (Il x53))) ∧ 
 ∃ x54, ((ldC m50 (C.ptr m33.nxt 0)) = (some (Il x54))) ∧ 
 callP prog tbl [(V.agg 4 [(Il x52), (Il x53), 
 (Il x54), (Il x49)])] c51 m50 (fun v55 m56 => ∃ b57 : Bool, 
 (v55 = (V.c (C.bool b57))) ∧ ifB (!b57) (R48 Ex.ret m56) (R48 Ex.nrm m56)))) (After.mk (fun m58 => 
 R35 Ex.nrm m58) [] (fun m59 => R35 Ex.ret m59))))) (After.mk (fun m60 => 
 R22 Ex.nrm m60) [] (fun m61 => R22 Ex.ret m61))))) (After.mk (fun m62 => 
 R9 Ex.nrm m62) [] (fun m63 => R9 Ex.ret m63))))) (After.mk (fun m64 => 
 Q (V.tup []) m64) [] (fun m65 => Q (V.tup []) m65))))) : Wc prog tbl 97 [.c (a100), .c (.ptr b0 0)] m Q :=
 wc_eq (n := 2) rfl (by kernel_rfl) (by kernel_rfl) h
theorem c92 {a100 : C} {b0 : Nat} {m : M} {Q : V → M → Prop} (h :
 (∀ m0 : M, (m0 = (M.new m (AO.cells 1 [a100] false))) → ∃ x1, ∃ x2, ∃ x3, ∃ x4, ∃ x5, 
 ∃ x6, ∃ x7, ∃ x8, ∃ x9, ∃ x10, ∃ x11, ∃ c12 : C, ∃ c13 : C, 
 ((ldA m0 (C.ptr b0 0) 13) = (some [(Il x1), (Il x2), (Il x3), 
 (Il x4), (Il x5), (Il x6), (Il x7), 
 (Il x8), (Il x9), (Il x10), (Il x11), 
 c12, c13])) ∧ Wc prog tbl 39 [(V.agg 13 [(Il x1), (Il x2), 
 (Il x3), (Il x4), (Il x5), (Il x6), 
 (Il x7), (Il x8), (Il x9), (Il x10), 
 (Il x11), c12, c13])] m0 (fun v14 m15 => ∃ b16 : Bool, ∃ b17 : Bool, ∃ b18 : Bool, 
 ∃ b19 : Bool, ∃ b20 : Bool, ∃ b21 : Bool, (v14 = (V.agg 6 [(C.bool b16), (C.bool b17), 
 (C.bool b18), (C.bool b19), (C.bool b20), (C.bool b21)])) ∧ ∀ m22 : M, (m22 = (M.new m15 (AO.cells 6 [(C.bool false), 
 (C.bool false), (C.bool false), (C.bool false), (C.bool false), (C.bool false)] false))) → 
 ∃ m23 : M, ((stC m22 (C.ptr m15.nxt 0) 6 [(C.bool b16), (C.bool b17), (C.bool b18), 
 (C.bool b19), (C.bool b20), (C.bool b21)]) = (some m23)) ∧ isPt (C.ptr b0 0) ∧ 
 ∃ x24, ∃ x25, ∃ x26, ∃ x27, ∃ x28, ∃ x29, 
 ∃ x30, ∃ x31, ∃ x32, ∃ x33, ∃ x34, ∃ c35 : C, 
 ((ldA m23 (C.ptr b0 0) 12) = (some [(Il x24), (Il x25), 
 (Il x26), (Il x27), (Il x28), (Il x29), 
 (Il x30), (Il x31), (Il x32), (Il x33), 
 (Il x34), c35])) ∧ Wc prog tbl 84 [(V.agg 12 [(Il x24), 
 (Il x25), (Il x26), (Il x27), (Il x28), 
 (Il x29), (Il x30), (Il x31), (Il x32), 
 (Il x33), (Il x34), c35])] m23 (fun v36 m37 => 
 ∃ c38 : C, (v36 = (V.c c38)) ∧ rangeP prog tbl c38 m37 (fun l39 m40 R41 R42 => 
 ∃ x43, ∃ x44, ∃ x45, ∃ x46, (l39 = [(V.agg 4 [(Il x43), 
 (Il x44), (Il x45), (Il x46)])]) ∧ 
 ∀ m47 : M, (m47 = (M.new m40 (AO.cells 4 [(Il 0), (Il 0), 
 (Il 0), (Il 0)] false))) → ∃ m48 : M, 
 ((stC m47 (C.ptr m40.nxt 0) 4 [(Il x43), (Il x44), 
 (Il x45), (Il x46)]) = (some m48)) ∧ R41 m48 (fun m49 => 
 isPt (C.ptr b0 0) ∧ ∃ c50 : C, ((ldC m49 (C.ptr b0 12)) = (some c50)) ∧ 
 ∃ x51, ∃ x52, ∃ x53, ∃ x54, ((ldA m49 (C.ptr m40.nxt 0) 4) = (some [(Il x51), 
 (Il x52), (Il x53), (Il x54)])) ∧ 
 ∃ y55 : Option U, ((lkM prog 40 m49 c50 (V.agg 4 [(Il x51), 
 (Il x52), (Il x53), (Il x54)])) = (some y55)) ∧ 
 ((y55 = Option.none) → ∃ b56 : Bool, ∃ b57 : Bool, ∃ b58 : Bool, ∃ b59 : Bool, 
 ∃ b60 : Bool, ∃ b61 : Bool, ((ldA m49 (C.ptr m15.nxt 0) 6) = (some [(C.bool b56), 
 (C.bool b57), (C.bool b58), (C.bool b59), (C.bool b60), (C.bool b61)])) ∧ ifB ((false == b56) && ((false == b57) && ((false == b58) && ((false == b59) && ((false == b60) && (false == b61)))))) (∃ c62 : C, 
 ((ldC m49 (C.ptr m.nxt 0)) = (some c62)) ∧ ∃ x63, ∃ x64, 
 ∃ x65, ∃ x66, ((ldA m49 (C.ptr m40.nxt 0) 4) = (some [(Il x63), 
 (Il x64), (Il x65), (Il x66)])) ∧ 
 callP prog tbl [(V.agg 4 [(Il x63), (Il x64), 
 (Il x65), (Il x66)])] c62 m49 (fun v67 m68 => ∃ b69 : Bool, 
 (v67 = (V.c (C.bool b69))) ∧ ifB (!b69) (R42 Ex.ret m68) (R42 Ex.nrm m68))) (R42 Ex.nrm m49)) ∧ 
 ∀ u70 : U, (y55 = (some u70)) → ∃ b71 : Bool, ∃ b72 : Bool, ∃ b73 : Bool, 
 ∃ b74 : Bool, ∃ b75 : Bool, ∃ b76 : Bool, (u70 = (U.agg 6 [(C.bool b71), 
 (C.bool b72), (C.bool b73), (C.bool b74), (C.bool b75), (C.bool b76)])) ∧ ∃ b77 : Bool, 
 ∃ b78 : Bool, ∃ b79 : Bool, ∃ b80 : Bool, ∃ b81 : Bool, ∃ b82 : Bool, ((ldA m49 (C.ptr m15.nxt 0) 6) = (some [(C.bool b77), 
 (C.bool b78), (C.bool b79), (C.bool b80), (C.bool b81), (C.bool b82)])) ∧ ifB ((b71 == b77) && ((b72 == b78) && ((b73 == b79) && ((b74 == b80) && ((b75 == b81) && (b76 == b82)))))) (∃ c83 : C, 
 ((ldC m49 (C.ptr m.nxt 0)) = (some c83)) ∧ ∃ x84, ∃ x85, 
 ∃ x86, ∃ x87, ((ldA m49 (C.ptr m40.nxt 0) 4) = (some [(Il x84), 
 (Il x85), (Il x86), (Il x87)])) ∧ 
 callP prog tbl [(V.agg 4 [(Il x84), (Il x85), 
 (Il x86), (Il x87)])] c83 m49 (fun v88 m89 => ∃ b90 : Bool, 
 (v88 = (V.c (C.bool b90))) ∧ ifB (!b90) (R42 Ex.ret m89) (R42 Ex.nrm m89))) (R42 Ex.nrm m49))) (After.mk (fun m91 => 
 Q (V.tup []) m91) [] (fun m92 => Q (V.tup []) m92)))))) : Wc prog tbl 92 [.c (a100), .c (.ptr b0 0)] m Q :=
 wc_eq (n := 2) rfl (by kernel_rfl) (by kernel_rfl) h
end
end Go.Proofs.YtbnfnhfanooplaaGreat

namespace Go.Proofs.YtbnfnhfanooplaaGreat
open _root_.Go.Proofs.Tryz
open Go.Abs
set_option maxRecDepth 100000
noncomputable section
theorem w3 {a100 : Int} {a101 : Int} {a102 : Int} {a103 : Int} {a104 : Int} {a105 : Int} {a106 : Int} {a107 : Int} {a108 : Int} {a109 : Int} {a110 : Int} {a111 : C} {a200 : Int} {a201 : Int} {a202 : Int} {a203 : Int} {m : M} {Q : V → M → Prop} (h :
 (∀ m0 : M, (m0 = (M.new m (AO.cells 12 [(Il a100), (Il a101), (Il a102), 
 (Il a103), (Il a104), (Il a105), (Il a106), 
 (Il a107), (Il a108), (Il a109), (Il a110), 
 a111] false))) → ∀ m1 : M, (m1 = (M.new m0 (AO.cells 4 [(Il a200), (Il a201), 
 (Il a202), (Il a203)] false))) → ∃ x2, ∃ x3, ∃ x4, 
 ∃ x5, ∃ x6, ∃ x7, ∃ x8, ∃ x9, ∃ x10, ∃ x11, ∃ x12, 
 ∃ c13 : C, ((ldA m1 (C.ptr m.nxt 0) 12) = (some [(Il x2), (Il x3), 
 (Il x4), (Il x5), (Il x6), (Il x7), 
 (Il x8), (Il x9), (Il x10), (Il x11), 
 (Il x12), c13])) ∧ Wc prog tbl 4 [(V.agg 12 [(Il x2), (Il x3), 
 (Il x4), (Il x5), (Il x6), (Il x7), 
 (Il x8), (Il x9), (Il x10), (Il x11), 
 (Il x12), c13])] m1 (fun v14 m15 => ∃ b16 : Bool, (v14 = (V.c (C.bool b16))) ∧ 
 ifB (!b16) (Wc prog tbl 5 [] m15 (fun v17 m18 => ∃ b19 : Bool, (v17 = (V.c (C.bool b19))) ∧ 
 Q (V.c (C.bool b19)) m18)) (∃ x20, ∃ x21, ∃ x22, ∃ x23, 
 ∃ x24, ∃ x25, ∃ x26, ∃ x27, ∃ x28, ∃ x29, 
 ∃ x30, ∃ c31 : C, ((ldA m15 (C.ptr m.nxt 0) 12) = (some [(Il x20), 
 (Il x21), (Il x22), (Il x23), (Il x24), 
 (Il x25), (Il x26), (Il x27), (Il x28), 
 (Il x29), (Il x30), c31])) ∧ Wc prog tbl 7 [(V.agg 12 [(Il x20), 
 (Il x21), (Il x22), (Il x23), (Il x24), 
 (Il x25), (Il x26), (Il x27), (Il x28), 
 (Il x29), (Il x30), c31])] m15 (fun v32 m33 => 
 ∃ x34, ∃ x35, ∃ x36, ∃ x37, ∃ x38, ∃ x39, 
 ∃ x40, ∃ x41, ∃ x42, ∃ x43, ∃ x44, ∃ c45 : C, 
 (v32 = (V.agg 12 [(Il x34), (Il x35), (Il x36), 
 (Il x37), (Il x38), (Il x39), (Il x40), 
 (Il x41), (Il x42), (Il x43), (Il x44), 
 c45])) ∧ Wc prog tbl 6 [(V.agg 12 [(Il x34), (Il x35), 
 (Il x36), (Il x37), (Il x38), (Il x39), 
 (Il x40), (Il x41), (Il x42), (Il x43), 
 (Il x44), c45])] m33 (fun v46 m47 => ∃ x48, ∃ x49, 
 ∃ x50, ∃ x51, ∃ x52, ∃ x53, ∃ x54, ∃ x55, 
 ∃ x56, ∃ x57, ∃ x58, ∃ c59 : C, ∃ x60, (v46 = (V.tup [(U.agg 12 [(Il x48), 
 (Il x49), (Il x50), (Il x51), (Il x52), 
 (Il x53), (Il x54), (Il x55), (Il x56), 
 (Il x57), (Il x58), c59]), (U.c (Il x60))])) ∧ 
 ∀ m61 : M, (m61 = (M.new m47 (AO.cells 12 [(Il 0), (Il 0), 
 (Il 0), (Il 0), (Il 0), 
 (Il 0), (Il 0), (Il 0), 
 (Il 0), (Il 0), (Il 0), 
 C.sl0] false))) → ∃ m62 : M, ((stC m61 (C.ptr m47.nxt 0) 12 [(Il x48), 
 (Il x49), (Il x50), (Il x51), (Il x52), 
 (Il x53), (Il x54), (Il x55), (Il x56), 
 (Il x57), (Il x58), c59]) = (some m62)) ∧ 
 ∃ x63, ∃ x64, ∃ x65, ∃ x66, ∃ x67, ∃ x68, 
 ∃ x69, ∃ x70, ∃ x71, ∃ x72, ∃ x73, ∃ c74 : C, 
 ((ldA m62 (C.ptr m.nxt 0) 12) = (some [(Il x63), (Il x64), 
 (Il x65), (Il x66), (Il x67), (Il x68), 
 (Il x69), (Il x70), (Il x71), (Il x72), 
 (Il x73), c74])) ∧ Wc prog tbl 7 [(V.agg 12 [(Il x63), 
 (Il x64), (Il x65), (Il x66), (Il x67), 
 (Il x68), (Il x69), (Il x70), (Il x71), 
 (Il x72), (Il x73), c74])] m62 (fun v75 m76 => 
 ∃ x77, ∃ x78, ∃ x79, ∃ x80, ∃ x81, ∃ x82, 
 ∃ x83, ∃ x84, ∃ x85, ∃ x86, ∃ x87, ∃ c88 : C, 
 (v75 = (V.agg 12 [(Il x77), (Il x78), (Il x79), 
 (Il x80), (Il x81), (Il x82), (Il x83), 
 (Il x84), (Il x85), (Il x86), (Il x87), 
 c88])) ∧ ∃ x89, ∃ x90, ∃ x91, ∃ x92, ((ldA m76 (C.ptr m0.nxt 0) 4) = (some [(Il x89), 
 (Il x90), (Il x91), (Il x92)])) ∧ 
 ((ldA m62 (C.ptr m0.nxt 0) 4) = (some [(Il x89), (Il x90), 
 (Il x91), (Il x92)])) ∧ Wc prog tbl 9 [(V.agg 4 [(Il x89), 
 (Il x90), (Il x91), (Il x92)])] m76 (fun v93 m94 => 
 ∃ x95, ∃ x96, ∃ x97, ∃ x98, (v93 = (V.agg 4 [(Il x95), 
 (Il x96), (Il x97), (Il x98)])) ∧ 
 Wc prog tbl 8 [(V.agg 12 [(Il x77), (Il x78), 
 (Il x79), (Il x80), (Il x81), (Il x82), 
 (Il x83), (Il x84), (Il x85), (Il x86), 
 (Il x87), c88]), (V.agg 4 [(Il x95), (Il x96), 
 (Il x97), (Il x98)])] m94 (fun v99 m100 => ∃ b101 : Bool, 
 (v99 = (V.c (C.bool b101))) ∧ ∃ x102, ∃ x103, ∃ x104, ∃ x105, 
 ∃ x106, ∃ x107, ∃ x108, ∃ x109, ∃ x110, ∃ x111, 
 ∃ x112, ∃ c113 : C, ((ldA m100 (C.ptr m.nxt 0) 12) = (some [(Il x102), 
 (Il x103), (Il x104), (Il x105), 
 (Il x106), (Il x107), (Il x108), 
 (Il x109), (Il x110), (Il x111), 
 (Il x112), c113])) ∧ Wc prog tbl 7 [(V.agg 12 [(Il x102), 
 (Il x103), (Il x104), (Il x105), 
 (Il x106), (Il x107), (Il x108), 
 (Il x109), (Il x110), (Il x111), 
 (Il x112), c113])] m100 (fun v114 m115 => ∃ x116, ∃ x117, 
 ∃ x118, ∃ x119, ∃ x120, ∃ x121, ∃ x122, ∃ x123, 
 ∃ x124, ∃ x125, ∃ x126, ∃ c127 : C, (v114 = (V.agg 12 [(Il x116), 
 (Il x117), (Il x118), (Il x119), 
 (Il x120), (Il x121), (Il x122), 
 (Il x123), (Il x124), (Il x125), 
 (Il x126), c127])) ∧ Wc prog tbl 10 [(V.agg 12 [(Il x116), 
 (Il x117), (Il x118), (Il x119), 
 (Il x120), (Il x121), (Il x122), 
 (Il x123), (Il x124), (Il x125), 
 (Il x126), c127])] m115 (fun v128 m129 => ∃ x130, (v128 = (V.c (Il x130))) ∧ 
 ∃ x131, ∃ x132, ∃ x133, ∃ x134, ∃ x135, ∃ x136, 
 ∃ x137, ∃ x138, ∃ x139, ∃ x140, ∃ x141, ∃ c142 : C, 
 ((ldA m129 (C.ptr m.nxt 0) 12) = (some [(Il x131), (Il x132), 
 (Il x133), (Il x134), (Il x135), 
 (Il x136), (Il x137), (Il x138), 
 (Il x139), (Il x140), (Il x141), 
 c142])) ∧ (ifB (allS cmC [(Il x131), (Il x132), 
 (Il x133), (Il x134), (Il x135), 
 (Il x136), (Il x137), (Il x138), 
 (Il x139), (Il x140), (Il x141), 
 c142]) ((ldA m115 (C.ptr m.nxt 0) 12) = (some [(Il x131), 
 (Il x132), (Il x133), (Il x134), 
 (Il x135), (Il x136), (Il x137), 
 (Il x138), (Il x139), (Il x140), 
 (Il x141), c142])) False) ∧ (ifB (allS cmC [(Il x131), 
 (Il x132), (Il x133), (Il x134), 
 (Il x135), (Il x136), (Il x137), 
 (Il x138), (Il x139), (Il x140), 
 (Il x141), c142]) ((ldA m100 (C.ptr m.nxt 0) 12) = (some [(Il x131), 
 (Il x132), (Il x133), (Il x134), 
 (Il x135), (Il x136), (Il x137), 
 (Il x138), (Il x139), (Il x140), 
 (Il x141), c142])) False) ∧ Wc prog tbl 11 [(V.agg 12 [(Il x131), 
 (Il x132), (Il x133), (Il x134), 
 (Il x135), (Il x136), (Il x137), 
 (Il x138), (Il x139), (Il x140), 
 (Il x141), c142])] m129 (fun v143 m144 => ∃ x145, (v143 = (V.c (Il x145))) ∧ 
 ifB (!decide (x130 = x145)) (Q (V.c (C.bool false)) m144) (∃ x146, ∃ x147, 
 ∃ x148, ∃ x149, ∃ x150, ∃ x151, ∃ x152, ∃ x153, 
 ∃ x154, ∃ x155, ∃ x156, ∃ c157 : C, ((ldA m144 (C.ptr m.nxt 0) 12) = (some [(Il x146), 
 (Il x147), (Il x148), (Il x149), 
 (Il x150), (Il x151), (Il x152), 
 (Il x153), (Il x154), (Il x155), 
 (Il x156), c157])) ∧ Wc prog tbl 12 [(V.agg 12 [(Il x146), 
 (Il x147), (Il x148), (Il x149), 
 (Il x150), (Il x151), (Il x152), 
 (Il x153), (Il x154), (Il x155), 
 (Il x156), c157])] m144 (fun v158 m159 => ∃ x160, (v158 = (V.c (Il x160))) ∧ 
 ifB (decide (x160 = 0)) (∃ x161, ∃ x162, ∃ x163, 
 ∃ x164, ∃ x165, ∃ x166, ∃ x167, ∃ x168, ∃ x169, 
 ∃ x170, ∃ x171, ∃ c172 : C, ((ldA m159 (C.ptr m.nxt 0) 12) = (some [(Il x161), 
 (Il x162), (Il x163), (Il x164), 
 (Il x165), (Il x166), (Il x167), 
 (Il x168), (Il x169), (Il x170), 
 (Il x171), c172])) ∧ ∃ x173, ∃ x174, ∃ x175, 
 ∃ x176, ((ldA m159 (C.ptr m0.nxt 0) 4) = (some [(Il x173), 
 (Il x174), (Il x175), (Il x176)])) ∧ 
 Wc prog tbl 13 [(V.agg 12 [(Il x161), (Il x162), 
 (Il x163), (Il x164), (Il x165), 
 (Il x166), (Il x167), (Il x168), 
 (Il x169), (Il x170), (Il x171), 
 c172]), (V.agg 4 [(Il x173), (Il x174), (Il x175), 
 (Il x176)])] m159 (fun v177 m178 => ∃ b179 : Bool, (v177 = (V.c (C.bool b179))) ∧ 
 ifB (!(b101 == b179)) (Q (V.c (C.bool false)) m178) (∃ x180, ∃ x181, 
 ∃ x182, ∃ x183, ∃ x184, ∃ x185, ∃ x186, ∃ x187, 
 ∃ x188, ∃ x189, ∃ x190, ∃ c191 : C, ((ldA m178 (C.ptr m.nxt 0) 12) = (some [(Il x180), 
 (Il x181), (Il x182), (Il x183), 
 (Il x184), (Il x185), (Il x186), 
 (Il x187), (Il x188), (Il x189), 
 (Il x190), c191])) ∧ Wc prog tbl 14 [(V.agg 12 [(Il x180), 
 (Il x181), (Il x182), (Il x183), 
 (Il x184), (Il x185), (Il x186), 
 (Il x187), (Il x188), (Il x189), 
 (Il x190), c191])] m178 (fun v192 m193 => ∃ c194 : C, ∃ x195, 
 (v192 = (V.tup [(U.c c194), (U.c (Il x195))])) ∧ ifB (!decide (x195 = 0)) (ifB (decide (x60 = x195)) (∃ x196, 
 ∃ x197, ∃ x198, ∃ x199, ∃ x200, ∃ x201, ∃ x202, 
 ∃ x203, ∃ x204, ∃ x205, ∃ x206, ∃ c207 : C, ((ldA m193 (C.ptr m47.nxt 0) 12) = (some [(Il x196), 
 (Il x197), (Il x198), (Il x199), 
 (Il x200), (Il x201), (Il x202), 
 (Il x203), (Il x204), (Il x205), 
 (Il x206), c207])) ∧ Wc prog tbl 15 [(V.agg 12 [(Il x196), 
 (Il x197), (Il x198), (Il x199), 
 (Il x200), (Il x201), (Il x202), 
 (Il x203), (Il x204), (Il x205), 
 (Il x206), c207])] m193 (fun v208 m209 => ∃ b210 : Bool, (v208 = (V.c (C.bool b210))) ∧ 
 ifB b210 (Wc prog tbl 5 [] m209 (fun v211 m212 => ∃ b213 : Bool, (v211 = (V.c (C.bool b213))) ∧ 
 Q (V.c (C.bool b213)) m212)) (Q (V.c (C.bool false)) m209))) (Q (V.c (C.bool false)) m193)) (∃ x214, 
 ∃ x215, ∃ x216, ∃ x217, ∃ x218, ∃ x219, ∃ x220, 
 ∃ x221, ∃ x222, ∃ x223, ∃ x224, ∃ c225 : C, ((ldA m193 (C.ptr m.nxt 0) 12) = (some [(Il x214), 
 (Il x215), (Il x216), (Il x217), 
 (Il x218), (Il x219), (Il x220), 
 (Il x221), (Il x222), (Il x223), 
 (Il x224), c225])) ∧ ∀ m226 : M, (m226 = (M.new m193 (AO.cells 12 [(Il 0), 
 (Il 0), (Il 0), (Il 0), 
 (Il 0), (Il 0), (Il 0), 
 (Il 0), (Il 0), (Il 0), 
 (Il 0), C.sl0] false))) → ∃ m227 : M, ((stC m226 (C.ptr m193.nxt 0) 12 [(Il x214), 
 (Il x215), (Il x216), (Il x217), 
 (Il x218), (Il x219), (Il x220), 
 (Il x221), (Il x222), (Il x223), 
 (Il x224), c225]) = (some m227)) ∧ Wc prog tbl 16 [(V.c c194)] m227 (fun v228 m229 => 
 ∃ x230, ∃ x231, ∃ x232, ∃ x233, ∃ x234, ∃ x235, 
 ∃ x236, ∃ x237, (v228 = (V.tup [(U.agg 2 [(Il x230), 
 (Il x231)]), (U.agg 2 [(Il x232), (Il x233)]), 
 (U.agg 2 [(Il x234), (Il x235)]), (U.agg 2 [(Il x236), 
 (Il x237)])])) ∧ isPt (C.ptr m193.nxt 0) ∧ ∃ m238 : M, ((stC m229 (C.ptr m193.nxt 3) 2 [(Il x230), 
 (Il x231)]) = (some m238)) ∧ isPt (C.ptr m193.nxt 0) ∧ 
 ∃ m239 : M, ((stC m238 (C.ptr m193.nxt 5) 2 [(Il x232), (Il x233)]) = (some m239)) ∧ 
 isPt (C.ptr m193.nxt 0) ∧ ∃ m240 : M, ((stC m239 (C.ptr m193.nxt 7) 2 [(Il x234), 
 (Il x235)]) = (some m240)) ∧ isPt (C.ptr m193.nxt 0) ∧ 
 ∃ m241 : M, ((stC m240 (C.ptr m193.nxt 9) 2 [(Il x236), (Il x237)]) = (some m241)) ∧ 
 ifB (decide (x60 = 0)) (∃ x242, ∃ x243, ∃ x244, 
 ∃ x245, ∃ x246, ∃ x247, ∃ x248, ∃ x249, ∃ x250, 
 ∃ x251, ∃ x252, ∃ c253 : C, ((ldA m241 (C.ptr m47.nxt 0) 12) = (some [(Il x242), 
 (Il x243), (Il x244), (Il x245), 
 (Il x246), (Il x247), (Il x248), 
 (Il x249), (Il x250), (Il x251), 
 (Il x252), c253])) ∧ ∃ x254, ∃ x255, ∃ x256, 
 ∃ x257, ∃ x258, ∃ x259, ∃ x260, ∃ x261, ∃ x262, 
 ∃ x263, ∃ x264, ∃ c265 : C, ((ldA m241 (C.ptr m193.nxt 0) 12) = (some [(Il x254), 
 (Il x255), (Il x256), (Il x257), 
 (Il x258), (Il x259), (Il x260), 
 (Il x261), (Il x262), (Il x263), 
 (Il x264), c265])) ∧ Wc prog tbl 17 [(V.agg 12 [(Il x242), 
 (Il x243), (Il x244), (Il x245), 
 (Il x246), (Il x247), (Il x248), 
 (Il x249), (Il x250), (Il x251), 
 (Il x252), c253]), (V.agg 12 [(Il x254), (Il x255), 
 (Il x256), (Il x257), (Il x258), 
 (Il x259), (Il x260), (Il x261), 
 (Il x262), (Il x263), (Il x264), 
 c265])] m241 (fun v266 m267 => ∃ b268 : Bool, (v266 = (V.c (C.bool b268))) ∧ 
 ifB b268 (Wc prog tbl 5 [] m267 (fun v269 m270 => ∃ b271 : Bool, (v269 = (V.c (C.bool b271))) ∧ 
 Q (V.c (C.bool b271)) m270)) (Q (V.c (C.bool false)) m267))) (Q (V.c (C.bool false)) m241))))))) (ifB (!(b101 == false)) (Q (V.c (C.bool false)) m159) (∃ x272, 
 ∃ x273, ∃ x274, ∃ x275, ∃ x276, ∃ x277, ∃ x278, 
 ∃ x279, ∃ x280, ∃ x281, ∃ x282, ∃ c283 : C, ((ldA m159 (C.ptr m.nxt 0) 12) = (some [(Il x272), 
 (Il x273), (Il x274), (Il x275), 
 (Il x276), (Il x277), (Il x278), 
 (Il x279), (Il x280), (Il x281), 
 (Il x282), c283])) ∧ Wc prog tbl 14 [(V.agg 12 [(Il x272), 
 (Il x273), (Il x274), (Il x275), 
 (Il x276), (Il x277), (Il x278), 
 (Il x279), (Il x280), (Il x281), 
 (Il x282), c283])] m159 (fun v284 m285 => ∃ c286 : C, ∃ x287, 
 (v284 = (V.tup [(U.c c286), (U.c (Il x287))])) ∧ ifB (!decide (x287 = 0)) (ifB (decide (x60 = x287)) (∃ x288, 
 ∃ x289, ∃ x290, ∃ x291, ∃ x292, ∃ x293, ∃ x294, 
 ∃ x295, ∃ x296, ∃ x297, ∃ x298, ∃ c299 : C, ((ldA m285 (C.ptr m47.nxt 0) 12) = (some [(Il x288), 
 (Il x289), (Il x290), (Il x291), 
 (Il x292), (Il x293), (Il x294), 
 (Il x295), (Il x296), (Il x297), 
 (Il x298), c299])) ∧ Wc prog tbl 15 [(V.agg 12 [(Il x288), 
 (Il x289), (Il x290), (Il x291), 
 (Il x292), (Il x293), (Il x294), 
 (Il x295), (Il x296), (Il x297), 
 (Il x298), c299])] m285 (fun v300 m301 => ∃ b302 : Bool, (v300 = (V.c (C.bool b302))) ∧ 
 ifB b302 (Wc prog tbl 5 [] m301 (fun v303 m304 => ∃ b305 : Bool, (v303 = (V.c (C.bool b305))) ∧ 
 Q (V.c (C.bool b305)) m304)) (Q (V.c (C.bool false)) m301))) (Q (V.c (C.bool false)) m285)) (∃ x306, 
 ∃ x307, ∃ x308, ∃ x309, ∃ x310, ∃ x311, ∃ x312, 
 ∃ x313, ∃ x314, ∃ x315, ∃ x316, ∃ c317 : C, ((ldA m285 (C.ptr m.nxt 0) 12) = (some [(Il x306), 
 (Il x307), (Il x308), (Il x309), 
 (Il x310), (Il x311), (Il x312), 
 (Il x313), (Il x314), (Il x315), 
 (Il x316), c317])) ∧ ∀ m318 : M, (m318 = (M.new m285 (AO.cells 12 [(Il 0), 
 (Il 0), (Il 0), (Il 0), 
 (Il 0), (Il 0), (Il 0), 
 (Il 0), (Il 0), (Il 0), 
 (Il 0), C.sl0] false))) → ∃ m319 : M, ((stC m318 (C.ptr m285.nxt 0) 12 [(Il x306), 
 (Il x307), (Il x308), (Il x309), 
 (Il x310), (Il x311), (Il x312), 
 (Il x313), (Il x314), (Il x315), 
 (Il x316), c317]) = (some m319)) ∧ Wc prog tbl 16 [(V.c c286)] m319 (fun v320 m321 => 
 ∃ x322, ∃ x323, ∃ x324, ∃ x325, ∃ x326, ∃ x327, 
 ∃ x328, ∃ x329, (v320 = (V.tup [(U.agg 2 [(Il x322), 
 (Il x323)]), (U.agg 2 [(Il x324), (Il x325)]), 
 (U.agg 2 [(Il x326), (Il x327)]), (U.agg 2 [(Il x328), 
 (Il x329)])])) ∧ isPt (C.ptr m285.nxt 0) ∧ ∃ m330 : M, ((stC m321 (C.ptr m285.nxt 3) 2 [(Il x322), 
 (Il x323)]) = (some m330)) ∧ isPt (C.ptr m285.nxt 0) ∧ 
 ∃ m331 : M, ((stC m330 (C.ptr m285.nxt 5) 2 [(Il x324), (Il x325)]) = (some m331)) ∧ 
 isPt (C.ptr m285.nxt 0) ∧ ∃ m332 : M, ((stC m331 (C.ptr m285.nxt 7) 2 [(Il x326), 
 (Il x327)]) = (some m332)) ∧ isPt (C.ptr m285.nxt 0) ∧ 
 ∃ m333 : M, ((stC m332 (C.ptr m285.nxt 9) 2 [(Il x328), (Il x329)]) = (some m333)) ∧ 
 ifB (decide (x60 = 0)) (∃ x334, ∃ x335, ∃ x336, 
 ∃ x337, ∃ x338, ∃ x339, ∃ x340, ∃ x341, ∃ x342, 
 ∃ x343, ∃ x344, ∃ c345 : C, ((ldA m333 (C.ptr m47.nxt 0) 12) = (some [(Il x334), 
 (Il x335), (Il x336), (Il x337), 
 (Il x338), (Il x339), (Il x340), 
 (Il x341), (Il x342), (Il x343), 
 (Il x344), c345])) ∧ ∃ x346, ∃ x347, ∃ x348, 
 ∃ x349, ∃ x350, ∃ x351, ∃ x352, ∃ x353, ∃ x354, 
 ∃ x355, ∃ x356, ∃ c357 : C, ((ldA m333 (C.ptr m285.nxt 0) 12) = (some [(Il x346), 
 (Il x347), (Il x348), (Il x349), 
 (Il x350), (Il x351), (Il x352), 
 (Il x353), (Il x354), (Il x355), 
 (Il x356), c357])) ∧ Wc prog tbl 17 [(V.agg 12 [(Il x334), 
 (Il x335), (Il x336), (Il x337), 
 (Il x338), (Il x339), (Il x340), 
 (Il x341), (Il x342), (Il x343), 
 (Il x344), c345]), (V.agg 12 [(Il x346), (Il x347), 
 (Il x348), (Il x349), (Il x350), 
 (Il x351), (Il x352), (Il x353), 
 (Il x354), (Il x355), (Il x356), 
 c357])] m333 (fun v358 m359 => ∃ b360 : Bool, (v358 = (V.c (C.bool b360))) ∧ 
 ifB b360 (Wc prog tbl 5 [] m359 (fun v361 m362 => ∃ b363 : Bool, (v361 = (V.c (C.bool b363))) ∧ 
 Q (V.c (C.bool b363)) m362)) (Q (V.c (C.bool false)) m359))) (Q (V.c (C.bool false)) m333)))))))))))))))))))) : Wc prog tbl 3 [(V.agg 12 [(Il a100), (Il a101), (Il a102), (Il a103), (Il a104), (Il a105), (Il a106), (Il a107), (Il a108), (Il a109), (Il a110), a111]), (V.agg 4 [(Il a200), (Il a201), (Il a202), (Il a203)])] m Q :=
 wc_eq (n := 2) rfl (by kernel_rfl) (by kernel_rfl) h
theorem w7 {a100 : Int} {a101 : Int} {a102 : Int} {a103 : Int} {a104 : Int} {a105 : Int} {a106 : Int} {a107 : Int} {a108 : Int} {a109 : Int} {a110 : Int} {a111 : C} {m : M} {Q : V → M → Prop} (h :
 (∀ m0 : M, (m0 = (M.new m (AO.cells 12 [(Il a100), (Il a101), (Il a102), 
 (Il a103), (Il a104), (Il a105), (Il a106), 
 (Il a107), (Il a108), (Il a109), (Il a110), 
 a111] false))) → ∀ m1 : M, (m1 = (M.new m0 (AO.cells 12 [(Il 0), (Il 0), 
 (Il 0), (Il 0), (Il 0), (Il 0), 
 (Il 0), (Il 0), (Il 0), (Il 0), 
 (Il 0), C.sl0] false))) → ∀ m2 : M, (m2 = (mGrow m1 1)) → isPt (C.ptr m.nxt 0) ∧ 
 ∃ x3, ((ldC m2 (C.ptr m.nxt 0)) = (some (Il x3))) ∧ isPt (C.ptr m.nxt 0) ∧ 
 ∃ x4, ((ldC m2 (C.ptr m.nxt 1)) = (some (Il x4))) ∧ isPt (C.ptr m.nxt 0) ∧ 
 ∃ x5, ((ldC m2 (C.ptr m.nxt 2)) = (some (Il x5))) ∧ isPt (C.ptr m.nxt 0) ∧ 
 ∃ x6, ∃ x7, ((ldA m2 (C.ptr m.nxt 3) 2) = (some [(Il x6), 
 (Il x7)])) ∧ Wc prog tbl 36 [(V.agg 2 [(Il x6), (Il x7)])] m2 (fun v8 m9 => 
 ∃ x10, ∃ x11, (v8 = (V.agg 2 [(Il x10), (Il x11)])) ∧ 
 ((ldC m9 (C.ptr m.nxt 2)) = (some (Il x5))) ∧ ((ldC m9 (C.ptr m.nxt 1)) = (some (Il x4))) ∧ 
 ((ldC m9 (C.ptr m.nxt 0)) = (some (Il x3))) ∧ isPt (C.ptr m.nxt 0) ∧ 
 ∃ x12, ∃ x13, ((ldA m9 (C.ptr m.nxt 5) 2) = (some [(Il x12), 
 (Il x13)])) ∧ ((ldA m2 (C.ptr m.nxt 5) 2) = (some [(Il x12), 
 (Il x13)])) ∧ Wc prog tbl 36 [(V.agg 2 [(Il x12), 
 (Il x13)])] m9 (fun v14 m15 => ∃ x16, ∃ x17, (v14 = (V.agg 2 [(Il x16), 
 (Il x17)])) ∧ ((ldC m15 (C.ptr m.nxt 2)) = (some (Il x5))) ∧ 
 ((ldC m15 (C.ptr m.nxt 1)) = (some (Il x4))) ∧ ((ldC m15 (C.ptr m.nxt 0)) = (some (Il x3))) ∧ 
 isPt (C.ptr m.nxt 0) ∧ ∃ x18, ∃ x19, ((ldA m15 (C.ptr m.nxt 7) 2) = (some [(Il x18), 
 (Il x19)])) ∧ ((ldA m9 (C.ptr m.nxt 7) 2) = (some [(Il x18), 
 (Il x19)])) ∧ ((ldA m2 (C.ptr m.nxt 7) 2) = (some [(Il x18), 
 (Il x19)])) ∧ Wc prog tbl 36 [(V.agg 2 [(Il x18), 
 (Il x19)])] m15 (fun v20 m21 => ∃ x22, ∃ x23, (v20 = (V.agg 2 [(Il x22), 
 (Il x23)])) ∧ ((ldC m21 (C.ptr m.nxt 2)) = (some (Il x5))) ∧ 
 ((ldC m21 (C.ptr m.nxt 1)) = (some (Il x4))) ∧ ((ldC m21 (C.ptr m.nxt 0)) = (some (Il x3))) ∧ 
 isPt (C.ptr m.nxt 0) ∧ ∃ x24, ∃ x25, ((ldA m21 (C.ptr m.nxt 9) 2) = (some [(Il x24), 
 (Il x25)])) ∧ ((ldA m15 (C.ptr m.nxt 9) 2) = (some [(Il x24), 
 (Il x25)])) ∧ ((ldA m9 (C.ptr m.nxt 9) 2) = (some [(Il x24), 
 (Il x25)])) ∧ ((ldA m2 (C.ptr m.nxt 9) 2) = (some [(Il x24), 
 (Il x25)])) ∧ Wc prog tbl 36 [(V.agg 2 [(Il x24), 
 (Il x25)])] m21 (fun v26 m27 => ∃ x28, ∃ x29, (v26 = (V.agg 2 [(Il x28), 
 (Il x29)])) ∧ ((ldC m27 (C.ptr m.nxt 2)) = (some (Il x5))) ∧ 
 ((ldC m27 (C.ptr m.nxt 1)) = (some (Il x4))) ∧ ((ldC m27 (C.ptr m.nxt 0)) = (some (Il x3))) ∧ 
 ∀ m30 : M, (m30 = (M.set m27 (m1.nxt + 0) (AO.cells 12 [(Il 0), 
 (Il 0), (Il 0), (Il 0), 
 (Il 0), (Il 0), (Il 0), 
 (Il 0), (Il 0), (Il 0), 
 (Il 0), C.sl0] false))) → ((ldA m30 (C.ptr m.nxt 9) 2) = (some [(Il x24), 
 (Il x25)])) ∧ ((ldA m30 (C.ptr m.nxt 7) 2) = (some [(Il x18), 
 (Il x19)])) ∧ ((ldA m30 (C.ptr m.nxt 5) 2) = (some [(Il x12), 
 (Il x13)])) ∧ ((ldA m30 (C.ptr m.nxt 3) 2) = (some [(Il x6), 
 (Il x7)])) ∧ ((ldC m30 (C.ptr m.nxt 2)) = (some (Il x5))) ∧ 
 ((ldC m30 (C.ptr m.nxt 1)) = (some (Il x4))) ∧ ((ldC m30 (C.ptr m.nxt 0)) = (some (Il x3))) ∧ 
 ∃ m31 : M, ((stC m30 (C.ptr (m1.nxt + 0) 0) 12 [(Il x3), (Il x4), 
 (Il x5), (Il x10), (Il x11), (Il x16), 
 (Il x17), (Il x22), (Il x23), (Il x28), 
 (Il x29), C.sl0]) = (some m31)) ∧ ∀ R32 : List V → M → 
 Prop, (∀ x33 : Int, ∀ m34 : M, (isPt (C.ptr m.nxt 0) ∧ ∃ c35 : C, ((ldC m34 (C.ptr m.nxt 11)) = (some c35)) ∧ 
 isSl c35 ∧ ifB (decide (x33 < (((slLen c35) : Nat) : Int))) (isPt (C.ptr m.nxt 0) ∧ 
 ∃ c36 : C, ((ldC m34 (C.ptr m.nxt 11)) = (some c36)) ∧ ∃ n37 : Nat, 
 (x33 = ((n37 : Nat) : Int)) ∧ (n37 < (slLen c36)) ∧ ∃ x38, ∃ x39, 
 ∃ x40, ∃ x41, ∃ b42 : Bool, ∃ x43, ∃ x44, ((ldA m34 (slAt c36 (n37 * 7)) 7) = (some [(Il x38), 
 (Il x39), (Il x40), (Il x41), (C.bool b42), 
 (Il x43), (Il x44)])) ∧ ∀ m45 : M, (m45 = (M.new m34 (AO.cells 7 [(Il 0), 
 (Il 0), (Il 0), (Il 0), 
 (C.bool false), (Il 0), (Il 0)] false))) → 
 ∃ m46 : M, ((stC m45 (C.ptr m34.nxt 0) 7 [(Il x38), (Il x39), 
 (Il x40), (Il x41), (C.bool b42), (Il x43), 
 (Il x44)]) = (some m46)) ∧ isPt (C.ptr (m1.nxt + 0) 0) ∧ 
 ∃ c47 : C, ((ldC m46 (C.ptr (m1.nxt + 0) 11)) = (some c47)) ∧ isPt (C.ptr m34.nxt 0) ∧ 
 ∃ x48, ∃ x49, ((ldA m46 (C.ptr m34.nxt 0) 2) = (some [(Il x48), 
 (Il x49)])) ∧ Wc prog tbl 36 [(V.agg 2 [(Il x48), 
 (Il x49)])] m46 (fun v50 m51 => ∃ x52, ∃ x53, (v50 = (V.agg 2 [(Il x52), 
 (Il x53)])) ∧ (ifB (cmC c47) ((ldC m51 (C.ptr (m1.nxt + 0) 11)) = (some c47)) False) ∧ 
 isPt (C.ptr m34.nxt 0) ∧ ∃ x54, ∃ x55, ((ldA m51 (C.ptr m34.nxt 2) 2) = (some [(Il x54), 
 (Il x55)])) ∧ ((ldA m46 (C.ptr m34.nxt 2) 2) = (some [(Il x54), 
 (Il x55)])) ∧ Wc prog tbl 36 [(V.agg 2 [(Il x54), 
 (Il x55)])] m51 (fun v56 m57 => ∃ x58, ∃ x59, (v56 = (V.agg 2 [(Il x58), 
 (Il x59)])) ∧ (ifB (cmC c47) ((ldC m57 (C.ptr (m1.nxt + 0) 11)) = (some c47)) False) ∧ 
 isPt (C.ptr m34.nxt 0) ∧ ∃ b60 : Bool, ((ldC m57 (C.ptr m34.nxt 4)) = (some (C.bool b60))) ∧ 
 ((ldC m51 (C.ptr m34.nxt 4)) = (some (C.bool b60))) ∧ ((ldC m46 (C.ptr m34.nxt 4)) = (some (C.bool b60))) ∧ 
 isPt (C.ptr m34.nxt 0) ∧ ∃ x61, ∃ x62, ((ldA m57 (C.ptr m34.nxt 5) 2) = (some [(Il x61), 
 (Il x62)])) ∧ ((ldA m51 (C.ptr m34.nxt 5) 2) = (some [(Il x61), 
 (Il x62)])) ∧ ((ldA m46 (C.ptr m34.nxt 5) 2) = (some [(Il x61), 
 (Il x62)])) ∧ Wc prog tbl 36 [(V.agg 2 [(Il x61), 
 (Il x62)])] m57 (fun v63 m64 => ∃ x65, ∃ x66, (v63 = (V.agg 2 [(Il x65), 
 (Il x66)])) ∧ ((ldC m64 (C.ptr m34.nxt 4)) = (some (C.bool b60))) ∧ 
 (ifB (cmC c47) ((ldC m64 (C.ptr (m1.nxt + 0) 11)) = (some c47)) False) ∧ 
 ∀ m67 : M, (m67 = (M.new m64 (AO.cells 7 [(Il x52), (Il x53), 
 (Il x58), (Il x59), (C.bool b60), (Il x65), 
 (Il x66)] false))) → (ifB (cmC c47) ((ldC m67 (C.ptr (m1.nxt + 0) 11)) = (some c47)) False) ∧ 
 ∃ c68 : C, ∃ m69 : M, (ApR prog 32 m67 c47 (C.sl m64.nxt 0 1 0 (some 1)) c68 m69) ∧ 
 isPt (C.ptr (m1.nxt + 0) 0) ∧ ∃ m70 : M, ((stC m69 (C.ptr (m1.nxt + 0) 11) 1 [c68]) = (some m70)) ∧ 
 fitsP .i64 (x33 + 1) ∧ R32 [(V.c (Il (x33 + 1)))] m70)))) (∃ x71, 
 ∃ x72, ∃ x73, ∃ x74, ∃ x75, ∃ x76, ∃ x77, 
 ∃ x78, ∃ x79, ∃ x80, ∃ x81, ∃ c82 : C, ((ldA m34 (C.ptr (m1.nxt + 0) 0) 12) = (some [(Il x71), 
 (Il x72), (Il x73), (Il x74), (Il x75), 
 (Il x76), (Il x77), (Il x78), (Il x79), 
 (Il x80), (Il x81), c82])) ∧ ∃ m83 : M, ((stC m34 (C.ptr m0.nxt 0) 12 [(Il x71), 
 (Il x72), (Il x73), (Il x74), (Il x75), 
 (Il x76), (Il x77), (Il x78), (Il x79), 
 (Il x80), (Il x81), c82]) = (some m83)) ∧ 
 ∃ x84, ∃ x85, ∃ x86, ∃ x87, ∃ x88, ∃ x89, 
 ∃ x90, ∃ x91, ∃ x92, ∃ x93, ∃ x94, ∃ c95 : C, 
 ((ldA m83 (C.ptr m0.nxt 0) 12) = (some [(Il x84), (Il x85), 
 (Il x86), (Il x87), (Il x88), (Il x89), 
 (Il x90), (Il x91), (Il x92), (Il x93), 
 (Il x94), c95])) ∧ Q (V.agg 12 [(Il x84), (Il x85), 
 (Il x86), (Il x87), (Il x88), (Il x89), 
 (Il x90), (Il x91), (Il x92), (Il x93), 
 (Il x94), c95]) m83)) → R32 [(V.c (Il x33))] m34) → 
 R32 [(V.c (Il 0))] m31)))))) : Wc prog tbl 7 [(V.agg 12 [(Il a100), (Il a101), (Il a102), (Il a103), (Il a104), (Il a105), (Il a106), (Il a107), (Il a108), (Il a109), (Il a110), a111])] m Q :=
 wc_eq (n := 1) rfl (by kernel_rfl) (by kernel_rfl) h
theorem w10 {a100 : Int} {a101 : Int} {a102 : Int} {a103 : Int} {a104 : Int} {a105 : Int} {a106 : Int} {a107 : Int} {a108 : Int} {a109 : Int} {a110 : Int} {a111 : C} {m : M} {Q : V → M → Prop} (h :
 (∀ m0 : M, (m0 = (M.new m (AO.cells 12 [(Il a100), (Il a101), (Il a102), 
 (Il a103), (Il a104), (Il a105), (Il a106), 
 (Il a107), (Il a108), (Il a109), (Il a110), 
 a111] false))) → ∃ x1, ∃ x2, ∃ x3, ∃ x4, ∃ x5, ∃ x6, ∃ x7, 
 ∃ x8, ∃ x9, ∃ x10, ∃ x11, ∃ c12 : C, ((ldA m0 (C.ptr m.nxt 0) 12) = (some [(Il x1), 
 (Il x2), (Il x3), (Il x4), (Il x5), 
 (Il x6), (Il x7), (Il x8), (Il x9), 
 (Il x10), (Il x11), c12])) ∧ Wc prog tbl 40 [(V.agg 12 [(Il x1), 
 (Il x2), (Il x3), (Il x4), (Il x5), 
 (Il x6), (Il x7), (Il x8), (Il x9), 
 (Il x10), (Il x11), c12])] m0 (fun v13 m14 => ∃ b15 : Bool, 
 (v13 = (V.c (C.bool b15))) ∧ ifB b15 (Q (V.c (Il (3 : Int))) m14) (∃ x16, 
 ∃ x17, ∃ x18, ∃ x19, ∃ x20, ∃ x21, ∃ x22, ∃ x23, 
 ∃ x24, ∃ x25, ∃ x26, ∃ c27 : C, ((ldA m14 (C.ptr m.nxt 0) 12) = (some [(Il x16), 
 (Il x17), (Il x18), (Il x19), (Il x20), 
 (Il x21), (Il x22), (Il x23), (Il x24), 
 (Il x25), (Il x26), c27])) ∧ Wc prog tbl 41 [(V.agg 13 [(Il x16), 
 (Il x17), (Il x18), (Il x19), (Il x20), 
 (Il x21), (Il x22), (Il x23), (Il x24), 
 (Il x25), (Il x26), c27, C.map0])] m14 (fun v28 m29 => 
 ∃ b30 : Bool, (v28 = (V.c (C.bool b30))) ∧ ifB (!b30) (Q (V.c (Il (1 : Int))) m29) (∃ x31, 
 ∃ x32, ∃ x33, ∃ x34, ∃ x35, ∃ x36, ∃ x37, 
 ∃ x38, ∃ x39, ∃ x40, ∃ x41, ∃ c42 : C, ((ldA m29 (C.ptr m.nxt 0) 12) = (some [(Il x31), 
 (Il x32), (Il x33), (Il x34), (Il x35), 
 (Il x36), (Il x37), (Il x38), (Il x39), 
 (Il x40), (Il x41), c42])) ∧ Wc prog tbl 42 [(V.agg 12 [(Il x31), 
 (Il x32), (Il x33), (Il x34), (Il x35), 
 (Il x36), (Il x37), (Il x38), (Il x39), 
 (Il x40), (Il x41), c42])] m29 (fun v43 m44 => 
 ∃ x45, (v43 = (V.c (Il x45))) ∧ ifB (decide ((2000 : Int) < x45)) (Q (V.c (Il (3 : Int))) m44) (Q (V.c (Il 0)) m44)))))))) : Wc prog tbl 10 [(V.agg 12 [(Il a100), (Il a101), (Il a102), (Il a103), (Il a104), (Il a105), (Il a106), (Il a107), (Il a108), (Il a109), (Il a110), a111])] m Q :=
 wc_eq (n := 1) rfl (by kernel_rfl) (by kernel_rfl) h
theorem w13 {a100 : Int} {a101 : Int} {a102 : Int} {a103 : Int} {a104 : Int} {a105 : Int} {a106 : Int} {a107 : Int} {a108 : Int} {a109 : Int} {a110 : Int} {a111 : C} {a200 : Int} {a201 : Int} {a202 : Int} {a203 : Int} {m : M} {Q : V → M → Prop} (h :
 (∀ m0 : M, (m0 = (M.new m (AO.cells 12 [(Il a100), (Il a101), (Il a102), 
 (Il a103), (Il a104), (Il a105), (Il a106), 
 (Il a107), (Il a108), (Il a109), (Il a110), 
 a111] false))) → ∀ m1 : M, (m1 = (M.new m0 (AO.cells 4 [(Il a200), (Il a201), 
 (Il a202), (Il a203)] false))) → isPt (C.ptr m0.nxt 0) ∧ ∃ x2, 
 ((ldC m1 (C.ptr m0.nxt 0)) = (some (Il x2))) ∧ isPt (C.ptr m.nxt 0) ∧ isPt (C.ptr m.nxt 3) ∧ 
 ∃ x3, ((ldC m1 (C.ptr m.nxt 3)) = (some (Il x3))) ∧ isPt (C.ptr m.nxt 0) ∧ 
 isPt (C.ptr m.nxt 3) ∧ ∃ x4, ((ldC m1 (C.ptr m.nxt 4)) = (some (Il x4))) ∧ 
 Wc prog tbl 43 [(V.c (Il x2)), (V.c (Il x3)), (V.c (Il x4))] m1 (fun v5 m6 => 
 ∃ b7 : Bool, (v5 = (V.c (C.bool b7))) ∧ ifB (!b7) (Q (V.c (C.bool false)) m6) (isPt (C.ptr m0.nxt 0) ∧ 
 ∃ x8, ((ldC m6 (C.ptr m0.nxt 1)) = (some (Il x8))) ∧ isPt (C.ptr m.nxt 0) ∧ 
 isPt (C.ptr m.nxt 5) ∧ ∃ x9, ((ldC m6 (C.ptr m.nxt 5)) = (some (Il x9))) ∧ 
 isPt (C.ptr m.nxt 0) ∧ isPt (C.ptr m.nxt 5) ∧ ∃ x10, ((ldC m6 (C.ptr m.nxt 6)) = (some (Il x10))) ∧ 
 Wc prog tbl 43 [(V.c (Il x8)), (V.c (Il x9)), 
 (V.c (Il x10))] m6 (fun v11 m12 => ∃ b13 : Bool, (v11 = (V.c (C.bool b13))) ∧ 
 ifB (!b13) (Q (V.c (C.bool false)) m12) (isPt (C.ptr m0.nxt 0) ∧ ∃ x14, 
 ((ldC m12 (C.ptr m0.nxt 2)) = (some (Il x14))) ∧ isPt (C.ptr m.nxt 0) ∧ 
 isPt (C.ptr m.nxt 7) ∧ ∃ x15, ((ldC m12 (C.ptr m.nxt 7)) = (some (Il x15))) ∧ 
 isPt (C.ptr m.nxt 0) ∧ isPt (C.ptr m.nxt 7) ∧ ∃ x16, ((ldC m12 (C.ptr m.nxt 8)) = (some (Il x16))) ∧ 
 Wc prog tbl 43 [(V.c (Il x14)), (V.c (Il x15)), 
 (V.c (Il x16))] m12 (fun v17 m18 => ∃ b19 : Bool, (v17 = (V.c (C.bool b19))) ∧ 
 ifB (!b19) (Q (V.c (C.bool false)) m18) (isPt (C.ptr m0.nxt 0) ∧ ∃ x20, 
 ((ldC m18 (C.ptr m0.nxt 3)) = (some (Il x20))) ∧ isPt (C.ptr m.nxt 0) ∧ 
 isPt (C.ptr m.nxt 9) ∧ ∃ x21, ((ldC m18 (C.ptr m.nxt 9)) = (some (Il x21))) ∧ 
 isPt (C.ptr m.nxt 0) ∧ isPt (C.ptr m.nxt 9) ∧ ∃ x22, ((ldC m18 (C.ptr m.nxt 10)) = (some (Il x22))) ∧ 
 Wc prog tbl 43 [(V.c (Il x20)), (V.c (Il x21)), 
 (V.c (Il x22))] m18 (fun v23 m24 => ∃ b25 : Bool, (v23 = (V.c (C.bool b25))) ∧ 
 ifB (!b25) (Q (V.c (C.bool false)) m24) (∀ R26 : List V → M → Prop, (∀ b27 : Bool, 
 ∀ x28 : Int, ∀ m29 : M, (isPt (C.ptr m.nxt 0) ∧ ∃ c30 : C, ((ldC m29 (C.ptr m.nxt 11)) = (some c30)) ∧ 
 isSl c30 ∧ ifB (decide (x28 < (((slLen c30) : Nat) : Int))) (∃ x31, ∃ x32, 
 ∃ x33, ∃ x34, ∃ x35, ∃ x36, ∃ x37, ∃ x38, 
 ∃ x39, ∃ x40, ∃ x41, ∃ c42 : C, ((ldA m29 (C.ptr m.nxt 0) 12) = (some [(Il x31), 
 (Il x32), (Il x33), (Il x34), (Il x35), 
 (Il x36), (Il x37), (Il x38), (Il x39), 
 (Il x40), (Il x41), c42])) ∧ ∃ x43, ∃ x44, 
 ∃ x45, ∃ x46, ((ldA m29 (C.ptr m0.nxt 0) 4) = (some [(Il x43), 
 (Il x44), (Il x45), (Il x46)])) ∧ 
 isPt (C.ptr m.nxt 0) ∧ ∃ c47 : C, ((ldC m29 (C.ptr m.nxt 11)) = (some c47)) ∧ 
 ∃ n48 : Nat, (x28 = ((n48 : Nat) : Int)) ∧ (n48 < (slLen c47)) ∧ ∃ x49, 
 ∃ x50, ∃ x51, ∃ x52, ∃ b53 : Bool, ∃ x54, ∃ x55, 
 ((ldA m29 (slAt c47 (n48 * 7)) 7) = (some [(Il x49), (Il x50), 
 (Il x51), (Il x52), (C.bool b53), (Il x54), 
 (Il x55)])) ∧ Wc prog tbl 46 [(V.agg 12 [(Il x31), 
 (Il x32), (Il x33), (Il x34), (Il x35), 
 (Il x36), (Il x37), (Il x38), (Il x39), 
 (Il x40), (Il x41), c42]), (V.agg 4 [(Il x43), 
 (Il x44), (Il x45), (Il x46)]), 
 (V.agg 7 [(Il x49), (Il x50), (Il x51), 
 (Il x52), (C.bool b53), (Il x54), (Il x55)])] m29 (fun v56 m57 => 
 ∃ b58 : Bool, (v56 = (V.c (C.bool b58))) ∧ ifB (!b58) (Q (V.c (C.bool false)) m57) (fitsP .i64 (x28 + 1) ∧ 
 R26 [(V.c (C.bool b27)), (V.c (Il (x28 + 1)))] m57))) (Q (V.c (C.bool true)) m29)) → 
 R26 [(V.c (C.bool b27)), (V.c (Il x28))] m29) → R26 [(V.c (C.bool false)), 
 (V.c (Il 0))] m24)))))))))) : Wc prog tbl 13 [(V.agg 12 [(Il a100), (Il a101), (Il a102), (Il a103), (Il a104), (Il a105), (Il a106), (Il a107), (Il a108), (Il a109), (Il a110), a111]), (V.agg 4 [(Il a200), (Il a201), (Il a202), (Il a203)])] m Q :=
 wc_eq (n := 2) rfl (by kernel_rfl) (by kernel_rfl) h
theorem w16 {a100 : C} {m : M} {Q : V → M → Prop} (h :
 (∀ m0 : M, (m0 = (M.new m (AO.cells 2 [(Il 0), (Il 0)] false))) → 
 ∀ m1 : M, (m1 = (M.new m0 (AO.cells 2 [(Il 0), (Il 0)] false))) → 
 ∀ m2 : M, (m2 = (M.new m1 (AO.cells 2 [(Il 0), (Il 0)] false))) → 
 ∀ m3 : M, (m3 = (M.new m2 (AO.cells 2 [(Il 0), (Il 0)] false))) → 
 Wc prog tbl 48 [] m3 (fun v4 m5 => ∃ x6, ∃ x7, (v4 = (V.agg 2 [(Il x6), 
 (Il x7)])) ∧ Wc prog tbl 48 [] m5 (fun v8 m9 => ∃ x10, ∃ x11, 
 (v8 = (V.agg 2 [(Il x10), (Il x11)])) ∧ Wc prog tbl 48 [] m9 (fun v12 m13 => 
 ∃ x14, ∃ x15, (v12 = (V.agg 2 [(Il x14), (Il x15)])) ∧ 
 Wc prog tbl 48 [] m13 (fun v16 m17 => ∃ x18, ∃ x19, (v16 = (V.agg 2 [(Il x18), 
 (Il x19)])) ∧ ∀ m20 : M, (m20 = (M.new m17 (AO.cells 2 [(Il 0), 
 (Il 0)] false))) → ∀ m21 : M, (m21 = (M.new m20 (AO.cells 2 [(Il 0), 
 (Il 0)] false))) → ∀ m22 : M, (m22 = (M.new m21 (AO.cells 2 [(Il 0), 
 (Il 0)] false))) → ∀ m23 : M, (m23 = (M.new m22 (AO.cells 2 [(Il 0), 
 (Il 0)] false))) → ∃ m24 : M, ((stC m23 (C.ptr m17.nxt 0) 2 [(Il x6), 
 (Il x7)]) = (some m24)) ∧ ∃ m25 : M, ((stC m24 (C.ptr m20.nxt 0) 2 [(Il x10), 
 (Il x11)]) = (some m25)) ∧ ∃ m26 : M, ((stC m25 (C.ptr m21.nxt 0) 2 [(Il x14), 
 (Il x15)]) = (some m26)) ∧ ∃ m27 : M, ((stC m26 (C.ptr m22.nxt 0) 2 [(Il x18), 
 (Il x19)]) = (some m27)) ∧ ∀ R28 : List V → M → Prop, 
 (∀ x29 : Int, ∀ m30 : M, (isSl a100 ∧ ifB (decide (x29 < (((slLen a100) : Nat) : Int))) (∃ x31, 
 ∃ x32, ((ldA m30 (C.ptr m17.nxt 0) 2) = (some [(Il x31), 
 (Il x32)])) ∧ ∃ n33 : Nat, (x29 = ((n33 : Nat) : Int)) ∧ (n33 < (slLen a100)) ∧ 
 isPt (slAt a100 (n33 * 4)) ∧ ∃ x34, ((ldC m30 (ptAdd (slAt a100 (n33 * 4)) 0)) = (some (Il x34))) ∧ 
 Wc prog tbl 49 [(V.agg 2 [(Il x31), (Il x32)]), 
 (V.c (Il x34))] m30 (fun v35 m36 => ∃ x37, ∃ x38, 
 (v35 = (V.agg 2 [(Il x37), (Il x38)])) ∧ ∃ x39, 
 ∃ x40, ((ldA m36 (C.ptr m20.nxt 0) 2) = (some [(Il x39), 
 (Il x40)])) ∧ ((ldA m30 (C.ptr m20.nxt 0) 2) = (some [(Il x39), 
 (Il x40)])) ∧ ∃ n41 : Nat, (x29 = ((n41 : Nat) : Int)) ∧ (n41 < (slLen a100)) ∧ 
 isPt (slAt a100 (n41 * 4)) ∧ ∃ x42, ((ldC m36 (ptAdd (slAt a100 (n41 * 4)) 1)) = (some (Il x42))) ∧ 
 ((ldC m30 (ptAdd (slAt a100 (n41 * 4)) 1)) = (some (Il x42))) ∧ 
 Wc prog tbl 49 [(V.agg 2 [(Il x39), (Il x40)]), 
 (V.c (Il x42))] m36 (fun v43 m44 => ∃ x45, ∃ x46, 
 (v43 = (V.agg 2 [(Il x45), (Il x46)])) ∧ ∃ x47, 
 ∃ x48, ((ldA m44 (C.ptr m21.nxt 0) 2) = (some [(Il x47), 
 (Il x48)])) ∧ ((ldA m36 (C.ptr m21.nxt 0) 2) = (some [(Il x47), 
 (Il x48)])) ∧ ((ldA m30 (C.ptr m21.nxt 0) 2) = (some [(Il x47), 
 (Il x48)])) ∧ ∃ n49 : Nat, (x29 = ((n49 : Nat) : Int)) ∧ (n49 < (slLen a100)) ∧ 
 isPt (slAt a100 (n49 * 4)) ∧ ∃ x50, ((ldC m44 (ptAdd (slAt a100 (n49 * 4)) 2)) = (some (Il x50))) ∧ 
 ((ldC m36 (ptAdd (slAt a100 (n49 * 4)) 2)) = (some (Il x50))) ∧ 
 ((ldC m30 (ptAdd (slAt a100 (n49 * 4)) 2)) = (some (Il x50))) ∧ 
 Wc prog tbl 49 [(V.agg 2 [(Il x47), (Il x48)]), 
 (V.c (Il x50))] m44 (fun v51 m52 => ∃ x53, ∃ x54, 
 (v51 = (V.agg 2 [(Il x53), (Il x54)])) ∧ ∃ x55, 
 ∃ x56, ((ldA m52 (C.ptr m22.nxt 0) 2) = (some [(Il x55), 
 (Il x56)])) ∧ ((ldA m44 (C.ptr m22.nxt 0) 2) = (some [(Il x55), 
 (Il x56)])) ∧ ((ldA m36 (C.ptr m22.nxt 0) 2) = (some [(Il x55), 
 (Il x56)])) ∧ ((ldA m30 (C.ptr m22.nxt 0) 2) = (some [(Il x55), 
 (Il x56)])) ∧ ∃ n57 : Nat, (x29 = ((n57 : Nat) : Int)) ∧ (n57 < (slLen a100)) ∧ 
 isPt (slAt a100 (n57 * 4)) ∧ ∃ x58, ((ldC m52 (ptAdd (slAt a100 (n57 * 4)) 3)) = (some (Il x58))) ∧ 
 ((ldC m44 (ptAdd (slAt a100 (n57 * 4)) 3)) = (some (Il x58))) ∧ 
 ((ldC m36 (ptAdd (slAt a100 (n57 * 4)) 3)) = (some (Il x58))) ∧ 
 ((ldC m30 (ptAdd (slAt a100 (n57 * 4)) 3)) = (some (Il x58))) ∧ 
 Wc prog tbl 49 [(V.agg 2 [(Il x55), (Il x56)]), 
 (V.c (Il x58))] m52 (fun v59 m60 => ∃ x61, ∃ x62, 
 (v59 = (V.agg 2 [(Il x61), (Il x62)])) ∧ ∃ m63 : M, 
 ((stC m60 (C.ptr m17.nxt 0) 2 [(Il x37), (Il x38)]) = (some m63)) ∧ 
 ∃ m64 : M, ((stC m63 (C.ptr m20.nxt 0) 2 [(Il x45), (Il x46)]) = (some m64)) ∧ 
 ∃ m65 : M, ((stC m64 (C.ptr m21.nxt 0) 2 [(Il x53), (Il x54)]) = (some m65)) ∧ 
 ∃ m66 : M, ((stC m65 (C.ptr m22.nxt 0) 2 [(Il x61), (Il x62)]) = (some m66)) ∧ 
 fitsP .i64 (x29 + 1) ∧ R28 [(V.c (Il (x29 + 1)))] m66))))) (∃ x67, 
 ∃ x68, ((ldA m30 (C.ptr m17.nxt 0) 2) = (some [(Il x67), 
 (Il x68)])) ∧ ∃ x69, ∃ x70, ((ldA m30 (C.ptr m20.nxt 0) 2) = (some [(Il x69), 
 (Il x70)])) ∧ ∃ x71, ∃ x72, ((ldA m30 (C.ptr m21.nxt 0) 2) = (some [(Il x71), 
 (Il x72)])) ∧ ∃ x73, ∃ x74, ((ldA m30 (C.ptr m22.nxt 0) 2) = (some [(Il x73), 
 (Il x74)])) ∧ ∃ m75 : M, ((stC m30 (C.ptr m.nxt 0) 2 [(Il x67), 
 (Il x68)]) = (some m75)) ∧ ((ldA m75 (C.ptr m22.nxt 0) 2) = (some [(Il x73), 
 (Il x74)])) ∧ ((ldA m75 (C.ptr m21.nxt 0) 2) = (some [(Il x71), 
 (Il x72)])) ∧ ((ldA m75 (C.ptr m20.nxt 0) 2) = (some [(Il x69), 
 (Il x70)])) ∧ ∃ m76 : M, ((stC m75 (C.ptr m0.nxt 0) 2 [(Il x69), 
 (Il x70)]) = (some m76)) ∧ ((ldA m76 (C.ptr m22.nxt 0) 2) = (some [(Il x73), 
 (Il x74)])) ∧ ((ldA m76 (C.ptr m21.nxt 0) 2) = (some [(Il x71), 
 (Il x72)])) ∧ ∃ m77 : M, ((stC m76 (C.ptr m1.nxt 0) 2 [(Il x71), 
 (Il x72)]) = (some m77)) ∧ ((ldA m77 (C.ptr m22.nxt 0) 2) = (some [(Il x73), 
 (Il x74)])) ∧ ∃ m78 : M, ((stC m77 (C.ptr m2.nxt 0) 2 [(Il x73), 
 (Il x74)]) = (some m78)) ∧ ∃ x79, ∃ x80, 
 ((ldA m78 (C.ptr m.nxt 0) 2) = (some [(Il x79), (Il x80)])) ∧ 
 ∃ x81, ∃ x82, ((ldA m78 (C.ptr m0.nxt 0) 2) = (some [(Il x81), 
 (Il x82)])) ∧ ∃ x83, ∃ x84, ((ldA m78 (C.ptr m1.nxt 0) 2) = (some [(Il x83), 
 (Il x84)])) ∧ ∃ x85, ∃ x86, ((ldA m78 (C.ptr m2.nxt 0) 2) = (some [(Il x85), 
 (Il x86)])) ∧ Q (V.tup [(U.agg 2 [(Il x79), (Il x80)]), 
 (U.agg 2 [(Il x81), (Il x82)]), (U.agg 2 [(Il x83), 
 (Il x84)]), (U.agg 2 [(Il x85), (Il x86)])]) m78)) → 
 R28 [(V.c (Il x29))] m30) → R28 [(V.c (Il 0))] m27)))))) : Wc prog tbl 16 [(V.c a100)] m Q :=
 wc_eq (n := 1) rfl (by kernel_rfl) (by kernel_rfl) h
theorem w29 {a100 : Int} {a101 : Int} {a102 : Int} {a103 : Int} {a104 : Int} {a105 : Int} {a106 : Int} {a107 : Int} {a108 : Int} {a109 : Int} {a110 : Int} {a111 : C} {a200 : C} {m : M} {Q : V → M → Prop} (h :
 (∀ m0 : M, (m0 = (M.new m (AO.cells 12 [(Il a100), (Il a101), (Il a102), 
 (Il a103), (Il a104), (Il a105), (Il a106), 
 (Il a107), (Il a108), (Il a109), (Il a110), 
 a111] false))) → ∀ m1 : M, (m1 = (M.new m0 (AO.cells 13 [(Il 0), (Il 0), 
 (Il 0), (Il 0), (Il 0), (Il 0), 
 (Il 0), (Il 0), (Il 0), (Il 0), 
 (Il 0), C.sl0, C.map0] false))) → ∃ x2, ∃ x3, ∃ x4, ∃ x5, 
 ∃ x6, ∃ x7, ∃ x8, ∃ x9, ∃ x10, ∃ x11, ∃ x12, ∃ c13 : C, 
 ((ldA m1 (C.ptr m.nxt 0) 12) = (some [(Il x2), (Il x3), 
 (Il x4), (Il x5), (Il x6), (Il x7), 
 (Il x8), (Il x9), (Il x10), (Il x11), 
 (Il x12), c13])) ∧ Wc prog tbl 10 [(V.agg 12 [(Il x2), (Il x3), 
 (Il x4), (Il x5), (Il x6), (Il x7), 
 (Il x8), (Il x9), (Il x10), (Il x11), 
 (Il x12), c13])] m1 (fun v14 m15 => ∃ x16, (v14 = (V.c (Il x16))) ∧ 
 ifB (!decide (x16 = 0)) (∃ m17 : M, ((stC m15 (C.ptr m0.nxt 0) 13 [(Il 0), 
 (Il 0), (Il 0), (Il 0), 
 (Il 0), (Il 0), (Il 0), 
 (Il 0), (Il 0), (Il 0), 
 (Il 0), C.sl0, C.map0]) = (some m17)) ∧ ∃ x18, 
 ∃ x19, ∃ x20, ∃ x21, ∃ x22, ∃ x23, ∃ x24, 
 ∃ x25, ∃ x26, ∃ x27, ∃ x28, ∃ c29 : C, ∃ c30 : C, 
 ((ldA m17 (C.ptr m0.nxt 0) 13) = (some [(Il x18), (Il x19), 
 (Il x20), (Il x21), (Il x22), (Il x23), 
 (Il x24), (Il x25), (Il x26), (Il x27), 
 (Il x28), c29, c30])) ∧ Q (V.tup [(U.agg 13 [(Il x18), 
 (Il x19), (Il x20), (Il x21), (Il x22), 
 (Il x23), (Il x24), (Il x25), (Il x26), 
 (Il x27), (Il x28), c29, c30]), (U.c (Il x16))]) m17) (∃ x31, 
 ∃ x32, ∃ x33, ∃ x34, ∃ x35, ∃ x36, ∃ x37, 
 ∃ x38, ∃ x39, ∃ x40, ∃ x41, ∃ c42 : C, ((ldA m15 (C.ptr m.nxt 0) 12) = (some [(Il x31), 
 (Il x32), (Il x33), (Il x34), (Il x35), 
 (Il x36), (Il x37), (Il x38), (Il x39), 
 (Il x40), (Il x41), c42])) ∧ optB (mapO vW [(V.agg 12 [(Il x31), 
 (Il x32), (Il x33), (Il x34), (Il x35), 
 (Il x36), (Il x37), (Il x38), (Il x39), 
 (Il x40), (Il x41), c42])]) False fun l43 => Wc prog tbl 64 [(V.c a200), 
 (V.c (C.fn (Fn.func 65) l43 []))] m15 (fun v44 m45 => ∃ b46 : Bool, (v44 = (V.c (C.bool b46))) ∧ 
 ifB (!b46) (∃ m47 : M, ((stC m45 (C.ptr m0.nxt 0) 13 [(Il 0), 
 (Il 0), (Il 0), (Il 0), 
 (Il 0), (Il 0), (Il 0), 
 (Il 0), (Il 0), (Il 0), 
 (Il 0), C.sl0, C.map0]) = (some m47)) ∧ ∃ x48, 
 ∃ x49, ∃ x50, ∃ x51, ∃ x52, ∃ x53, ∃ x54, 
 ∃ x55, ∃ x56, ∃ x57, ∃ x58, ∃ c59 : C, ∃ c60 : C, 
 ((ldA m47 (C.ptr m0.nxt 0) 13) = (some [(Il x48), (Il x49), 
 (Il x50), (Il x51), (Il x52), (Il x53), 
 (Il x54), (Il x55), (Il x56), (Il x57), 
 (Il x58), c59, c60])) ∧ Q (V.tup [(U.agg 13 [(Il x48), 
 (Il x49), (Il x50), (Il x51), (Il x52), 
 (Il x53), (Il x54), (Il x55), (Il x56), 
 (Il x57), (Il x58), c59, c60]), (U.c (Il (2 : Int)))]) m47) (∃ x61, 
 ∃ x62, ∃ x63, ∃ x64, ∃ x65, ∃ x66, ∃ x67, 
 ∃ x68, ∃ x69, ∃ x70, ∃ x71, ∃ c72 : C, ((ldA m45 (C.ptr m.nxt 0) 12) = (some [(Il x61), 
 (Il x62), (Il x63), (Il x64), (Il x65), 
 (Il x66), (Il x67), (Il x68), (Il x69), 
 (Il x70), (Il x71), c72])) ∧ Wc prog tbl 54 [(V.agg 12 [(Il x61), 
 (Il x62), (Il x63), (Il x64), (Il x65), 
 (Il x66), (Il x67), (Il x68), (Il x69), 
 (Il x70), (Il x71), c72])] m45 (fun v73 m74 => 
 ∃ x75, ∃ x76, ∃ x77, ∃ x78, ∃ x79, ∃ x80, 
 ∃ x81, ∃ x82, ∃ x83, ∃ x84, ∃ x85, ∃ c86 : C, 
 ∃ c87 : C, (v73 = (V.agg 13 [(Il x75), (Il x76), 
 (Il x77), (Il x78), (Il x79), (Il x80), 
 (Il x81), (Il x82), (Il x83), (Il x84), 
 (Il x85), c86, c87])) ∧ ∀ m88 : M, (m88 = (M.new m74 (AO.cells 13 [(Il 0), 
 (Il 0), (Il 0), (Il 0), 
 (Il 0), (Il 0), (Il 0), 
 (Il 0), (Il 0), (Il 0), 
 (Il 0), C.sl0, C.map0] false))) → ∃ m89 : M, ((stC m88 (C.ptr m74.nxt 0) 13 [(Il x75), 
 (Il x76), (Il x77), (Il x78), (Il x79), 
 (Il x80), (Il x81), (Il x82), (Il x83), 
 (Il x84), (Il x85), c86, c87]) = (some m89)) ∧ 
 ∃ x90, ∃ x91, ∃ x92, ∃ x93, ∃ x94, ∃ x95, 
 ∃ x96, ∃ x97, ∃ x98, ∃ x99, ∃ x100, ∃ c101 : C, 
 ∃ c102 : C, ((ldA m89 (C.ptr m74.nxt 0) 13) = (some [(Il x90), 
 (Il x91), (Il x92), (Il x93), (Il x94), 
 (Il x95), (Il x96), (Il x97), (Il x98), 
 (Il x99), (Il x100), c101, c102])) ∧ Wc prog tbl 59 [(V.agg 13 [(Il x90), 
 (Il x91), (Il x92), (Il x93), (Il x94), 
 (Il x95), (Il x96), (Il x97), (Il x98), 
 (Il x99), (Il x100), c101, c102])] m89 (fun v103 m104 => 
 ∃ b105 : Bool, (v103 = (V.c (C.bool b105))) ∧ ifB (!b105) (∃ m106 : M, ((stC m104 (C.ptr m0.nxt 0) 13 [(Il 0), 
 (Il 0), (Il 0), (Il 0), 
 (Il 0), (Il 0), (Il 0), 
 (Il 0), (Il 0), (Il 0), 
 (Il 0), C.sl0, C.map0]) = (some m106)) ∧ ∃ x107, 
 ∃ x108, ∃ x109, ∃ x110, ∃ x111, ∃ x112, ∃ x113, 
 ∃ x114, ∃ x115, ∃ x116, ∃ x117, ∃ c118 : C, ∃ c119 : C, 
 ((ldA m106 (C.ptr m0.nxt 0) 13) = (some [(Il x107), 
 (Il x108), (Il x109), (Il x110), 
 (Il x111), (Il x112), (Il x113), 
 (Il x114), (Il x115), (Il x116), 
 (Il x117), c118, c119])) ∧ Q (V.tup [(U.agg 13 [(Il x107), 
 (Il x108), (Il x109), (Il x110), 
 (Il x111), (Il x112), (Il x113), 
 (Il x114), (Il x115), (Il x116), 
 (Il x117), c118, c119]), (U.c (Il (11 : Int)))]) m106) (∃ x120, 
 ∃ x121, ∃ x122, ∃ x123, ∃ x124, ∃ x125, ∃ x126, 
 ∃ x127, ∃ x128, ∃ x129, ∃ x130, ∃ c131 : C, ∃ c132 : C, 
 ((ldA m104 (C.ptr m74.nxt 0) 13) = (some [(Il x120), 
 (Il x121), (Il x122), (Il x123), 
 (Il x124), (Il x125), (Il x126), 
 (Il x127), (Il x128), (Il x129), 
 (Il x130), c131, c132])) ∧ ∃ m133 : M, ((stC m104 (C.ptr m0.nxt 0) 13 [(Il x120), 
 (Il x121), (Il x122), (Il x123), 
 (Il x124), (Il x125), (Il x126), 
 (Il x127), (Il x128), (Il x129), 
 (Il x130), c131, c132]) = (some m133)) ∧ ∃ x134, 
 ∃ x135, ∃ x136, ∃ x137, ∃ x138, ∃ x139, ∃ x140, 
 ∃ x141, ∃ x142, ∃ x143, ∃ x144, ∃ c145 : C, ∃ c146 : C, 
 ((ldA m133 (C.ptr m0.nxt 0) 13) = (some [(Il x134), 
 (Il x135), (Il x136), (Il x137), 
 (Il x138), (Il x139), (Il x140), 
 (Il x141), (Il x142), (Il x143), 
 (Il x144), c145, c146])) ∧ Q (V.tup [(U.agg 13 [(Il x134), 
 (Il x135), (Il x136), (Il x137), 
 (Il x138), (Il x139), (Il x140), 
 (Il x141), (Il x142), (Il x143), 
 (Il x144), c145, c146]), (U.c (Il 0))]) m133))))))))) : Wc prog tbl 29 [(V.agg 12 [(Il a100), (Il a101), (Il a102), (Il a103), (Il a104), (Il a105), (Il a106), (Il a107), (Il a108), (Il a109), (Il a110), a111]), (V.c a200)] m Q :=
 wc_eq (n := 2) rfl (by kernel_rfl) (by kernel_rfl) h
theorem w32 {a100 : Int} {a101 : Int} {a102 : Int} {a103 : Int} {m : M} {Q : V → M → Prop} (h :
 (∀ m0 : M, (m0 = (M.new m (AO.cells 4 [(Il a100), (Il a101), (Il a102), 
 (Il a103)] false))) → isPt (C.ptr m.nxt 0) ∧ ∃ x1, ((ldC m0 (C.ptr m.nxt 1)) = (some (Il x1))) ∧ 
 Q (V.c (Il x1)) m0)) : Wc prog tbl 32 [(V.agg 4 [(Il a100), (Il a101), (Il a102), (Il a103)])] m Q :=
 wc_eq (n := 1) rfl (by kernel_rfl) (by kernel_rfl) h
theorem w35 {a100 : C} {m : M} {Q : V → M → Prop} (h :
 (okN (TK.sl 78) a100 ∧ okN (TK.sl 78) a100 ∧ okN (TK.sl 78) C.sl0 ∧ (((isNilC a100) || true) = true) ∧ ifB ((isNilC a100) && true) (Q (V.c C.sl0) m) (∀ m0 : M, 
 (m0 = (M.new m (AO.cells 0 [] false))) → ∃ c1 : C, ∃ m2 : M, (ApR prog 32 m0 (C.sl m.nxt 0 0 0 (some 0)) a100 c1 m2) ∧ 
 Q (V.c c1) m2))) : Wc prog tbl 35 [(V.c a100)] m Q :=
 wc_eq (n := 1) rfl (by kernel_rfl) (by kernel_rfl) h
theorem w38 {a100 : Int} {a101 : Int} {a102 : Int} {a103 : Int} {a104 : Int} {a105 : Int} {a106 : Int} {a107 : Int} {a108 : Int} {a109 : Int} {a110 : Int} {a111 : C} {a112 : C} {a200 : Int} {a201 : Int} {a202 : Int} {a203 : Int} {m : M} {Q : V → M → Prop} (h :
 (∀ m0 : M, (m0 = (M.new m (AO.cells 13 [(Il a100), (Il a101), (Il a102), 
 (Il a103), (Il a104), (Il a105), (Il a106), 
 (Il a107), (Il a108), (Il a109), (Il a110), 
 a111, a112] false))) → ∀ m1 : M, (m1 = (M.new m0 (AO.cells 4 [(Il a200), (Il a201), 
 (Il a202), (Il a203)] false))) → ∀ m2 : M, (m2 = (M.new m1 (AO.cells 6 [(C.bool false), 
 (C.bool false), (C.bool false), (C.bool false), (C.bool false), (C.bool false)] false))) → ∀ m3 : M, 
 (m3 = (M.new m2 (AO.cells 6 [(C.bool false), (C.bool false), (C.bool false), (C.bool false), (C.bool false), 
 (C.bool false)] false))) → isPt (C.ptr m.nxt 0) ∧ isPt (C.ptr m.nxt 0) ∧ ∃ c4 : C, ((ldC m3 (C.ptr m.nxt 11)) = (some c4)) ∧ 
 isSl c4 ∧ ∀ R5 : List V → M → Prop, (∀ x6 : Int, ∀ m7 : M, (ifB (decide (x6 < (((slLen c4) : Nat) : Int))) (∃ n8 : Nat, 
 (x6 = ((n8 : Nat) : Int)) ∧ (n8 < (slLen c4)) ∧ ∃ x9, ∃ x10, ∃ x11, 
 ∃ x12, ∃ b13 : Bool, ∃ x14, ∃ x15, ((ldA m7 (slAt c4 (n8 * 7)) 7) = (some [(Il x9), 
 (Il x10), (Il x11), (Il x12), (C.bool b13), 
 (Il x14), (Il x15)])) ∧ ∀ m16 : M, (m16 = (M.new m7 (AO.cells 7 [(Il 0), 
 (Il 0), (Il 0), (Il 0), 
 (C.bool false), (Il 0), (Il 0)] false))) → 
 ∃ m17 : M, ((stC m16 (C.ptr m7.nxt 0) 7 [(Il x9), (Il x10), 
 (Il x11), (Il x12), (C.bool b13), (Il x14), 
 (Il x15)]) = (some m17)) ∧ isPt (C.ptr m.nxt 0) ∧ ∃ x18, 
 ∃ x19, ∃ x20, ∃ x21, ∃ x22, ∃ x23, ∃ x24, 
 ∃ x25, ∃ x26, ∃ x27, ∃ x28, ∃ c29 : C, ((ldA m17 (C.ptr m.nxt 0) 12) = (some [(Il x18), 
 (Il x19), (Il x20), (Il x21), (Il x22), 
 (Il x23), (Il x24), (Il x25), (Il x26), 
 (Il x27), (Il x28), c29])) ∧ ∃ x30, ∃ x31, 
 ∃ x32, ∃ x33, ∃ b34 : Bool, ∃ x35, ∃ x36, ((ldA m17 (C.ptr m7.nxt 0) 7) = (some [(Il x30), 
 (Il x31), (Il x32), (Il x33), (C.bool b34), 
 (Il x35), (Il x36)])) ∧ ∃ x37, ∃ x38, 
 ∃ x39, ∃ x40, ((ldA m17 (C.ptr m0.nxt 0) 4) = (some [(Il x37), 
 (Il x38), (Il x39), (Il x40)])) ∧ 
 Wc prog tbl 70 [(V.agg 12 [(Il x18), (Il x19), 
 (Il x20), (Il x21), (Il x22), (Il x23), 
 (Il x24), (Il x25), (Il x26), (Il x27), 
 (Il x28), c29]), (V.agg 7 [(Il x30), (Il x31), 
 (Il x32), (Il x33), (C.bool b34), (Il x35), 
 (Il x36)]), (V.agg 4 [(Il x37), (Il x38), 
 (Il x39), (Il x40)])] m17 (fun v41 m42 => ∃ b43 : Bool, 
 (v41 = (V.c (C.bool b43))) ∧ isPt (C.ptr m2.nxt 0) ∧ ∃ n44 : Nat, (x6 = ((n44 : Nat) : Int)) ∧ 
 (n44 < 6) ∧ ∃ m45 : M, ((stC m42 (C.ptr m2.nxt (0 + (n44 * 1))) 1 [(C.bool b43)]) = (some m45)) ∧ 
 fitsP .i64 (x6 + 1) ∧ R5 [(V.c (Il (x6 + 1)))] m45)) (∃ b46 : Bool, 
 ∃ b47 : Bool, ∃ b48 : Bool, ∃ b49 : Bool, ∃ b50 : Bool, ∃ b51 : Bool, ((ldA m7 (C.ptr m2.nxt 0) 6) = (some [(C.bool b46), 
 (C.bool b47), (C.bool b48), (C.bool b49), (C.bool b50), (C.bool b51)])) ∧ ∃ m52 : M, 
 ((stC m7 (C.ptr m1.nxt 0) 6 [(C.bool b46), (C.bool b47), (C.bool b48), (C.bool b49), 
 (C.bool b50), (C.bool b51)]) = (some m52)) ∧ ∃ b53 : Bool, ∃ b54 : Bool, 
 ∃ b55 : Bool, ∃ b56 : Bool, ∃ b57 : Bool, ∃ b58 : Bool, ((ldA m52 (C.ptr m1.nxt 0) 6) = (some [(C.bool b53), 
 (C.bool b54), (C.bool b55), (C.bool b56), (C.bool b57), (C.bool b58)])) ∧ Q (V.agg 6 [(C.bool b53), 
 (C.bool b54), (C.bool b55), (C.bool b56), (C.bool b57), (C.bool b58)]) m52)) → 
 R5 [(V.c (Il x6))] m7) → R5 [(V.c (Il 0))] m3)) : Wc prog tbl 38 [(V.agg 13 [(Il a100), (Il a101), (Il a102), (Il a103), (Il a104), (Il a105), (Il a106), (Il a107), (Il a108), (Il a109), (Il a110), a111, a112]), (V.agg 4 [(Il a200), (Il a201), (Il a202), (Il a203)])] m Q :=
 wc_eq (n := 2) rfl (by kernel_rfl) (by kernel_rfl) h
theorem w41 {a100 : Int} {a101 : Int} {a102 : Int} {a103 : Int} {a104 : Int} {a105 : Int} {a106 : Int} {a107 : Int} {a108 : Int} {a109 : Int} {a110 : Int} {a111 : C} {a112 : C} {m : M} {Q : V → M → Prop} (h :
 (∀ m0 : M, (m0 = (M.new m (AO.cells 13 [(Il a100), (Il a101), (Il a102), 
 (Il a103), (Il a104), (Il a105), (Il a106), 
 (Il a107), (Il a108), (Il a109), (Il a110), 
 a111, a112] false))) → isPt (C.ptr m.nxt 0) ∧ isPt (C.ptr m.nxt 0) ∧ ∃ x1, ((ldC m0 (C.ptr m.nxt 0)) = (some (Il x1))) ∧ 
 ifB (decide ((2 : Int) ≤ x1)) (isPt (C.ptr m.nxt 0) ∧ isPt (C.ptr m.nxt 0) ∧ ∃ x2, ((ldC m0 (C.ptr m.nxt 1)) = (some (Il x2))) ∧ 
 ifB (decide ((1 : Int) ≤ x2)) (isPt (C.ptr m.nxt 0) ∧ isPt (C.ptr m.nxt 0) ∧ ∃ x3, 
 ((ldC m0 (C.ptr m.nxt 2)) = (some (Il x3))) ∧ ifB (decide ((0 : Int) ≤ x3)) (isPt (C.ptr m.nxt 0) ∧ 
 isPt (C.ptr m.nxt 0) ∧ ∃ x4, ((ldC m0 (C.ptr m.nxt 2)) = (some (Il x4))) ∧ 
 ifB (decide (x4 ≤ 4)) (isPt (C.ptr m.nxt 0) ∧ isPt (C.ptr m.nxt 0) ∧ ∃ x5, 
 ∃ x6, ((ldA m0 (C.ptr m.nxt 3) 2) = (some [(Il x5), 
 (Il x6)])) ∧ isPt (C.ptr m.nxt 0) ∧ isPt (C.ptr m.nxt 0) ∧ 
 ∃ x7, ((ldC m0 (C.ptr m.nxt 1)) = (some (Il x7))) ∧ 
 fitsP .i64 (x7 - 1) ∧ Wc prog tbl 71 [(V.agg 2 [(Il x5), 
 (Il x6)]), (V.c (Il 0)), (V.c (Il (x7 - 1)))] m0 (fun v8 m9 => 
 ∃ b10 : Bool, (v8 = (V.c (C.bool b10))) ∧ ifB b10 (isPt (C.ptr m.nxt 0) ∧ 
 isPt (C.ptr m.nxt 0) ∧ ∃ x11, ∃ x12, ((ldA m9 (C.ptr m.nxt 5) 2) = (some [(Il x11), 
 (Il x12)])) ∧ isPt (C.ptr m.nxt 0) ∧ isPt (C.ptr m.nxt 0) ∧ 
 ∃ x13, ((ldC m9 (C.ptr m.nxt 1)) = (some (Il x13))) ∧ 
 fitsP .i64 (x13 - 1) ∧ Wc prog tbl 71 [(V.agg 2 [(Il x11), 
 (Il x12)]), (V.c (Il 0)), (V.c (Il (x13 - 1)))] m9 (fun v14 m15 => 
 ∃ b16 : Bool, (v14 = (V.c (C.bool b16))) ∧ ifB b16 (isPt (C.ptr m.nxt 0) ∧ 
 isPt (C.ptr m.nxt 0) ∧ ∃ x17, ∃ x18, ((ldA m15 (C.ptr m.nxt 7) 2) = (some [(Il x17), 
 (Il x18)])) ∧ Wc prog tbl 71 [(V.agg 2 [(Il x17), 
 (Il x18)]), (V.c (Il 0)), (V.c (Il (3 : Int)))] m15 (fun v19 m20 => 
 ∃ b21 : Bool, (v19 = (V.c (C.bool b21))) ∧ ifB b21 (isPt (C.ptr m.nxt 0) ∧ 
 isPt (C.ptr m.nxt 0) ∧ ∃ x22, ∃ x23, ((ldA m20 (C.ptr m.nxt 9) 2) = (some [(Il x22), 
 (Il x23)])) ∧ Wc prog tbl 71 [(V.agg 2 [(Il x22), 
 (Il x23)]), (V.c (Il (1 : Int))), (V.c (Il (9 : Int)))] m20 (fun v24 m25 => 
 ∃ b26 : Bool, (v24 = (V.c (C.bool b26))) ∧ ifB b26 (isPt (C.ptr m.nxt 0) ∧ 
 isPt (C.ptr m.nxt 0) ∧ ∃ c27 : C, ((ldC m25 (C.ptr m.nxt 11)) = (some c27)) ∧ 
 ∃ x28, ∃ x29, ∃ x30, ∃ x31, ∃ x32, ∃ x33, 
 ∃ x34, ∃ x35, ∃ x36, ∃ x37, ∃ x38, ∃ c39 : C, 
 ∃ c40 : C, ((ldA m25 (C.ptr m.nxt 0) 13) = (some [(Il x28), 
 (Il x29), (Il x30), (Il x31), (Il x32), 
 (Il x33), (Il x34), (Il x35), (Il x36), 
 (Il x37), (Il x38), c39, c40])) ∧ optB (mapO vW [(V.agg 13 [(Il x28), 
 (Il x29), (Il x30), (Il x31), (Il x32), 
 (Il x33), (Il x34), (Il x35), (Il x36), 
 (Il x37), (Il x38), c39, c40])]) False fun l41 => 
 Wc prog tbl 72 [(V.c c27), (V.c (C.fn (Fn.func 73) l41 []))] m25 (fun v42 m43 => 
 ∃ b44 : Bool, (v42 = (V.c (C.bool b44))) ∧ Q (V.c (C.bool b44)) m43)) (Q (V.c (C.bool false)) m25))) (Q (V.c (C.bool false)) m20))) (Q (V.c (C.bool false)) m15))) (Q (V.c (C.bool false)) m9))) (Q (V.c (C.bool false)) m0)) (Q (V.c (C.bool false)) m0)) (Q (V.c (C.bool false)) m0)) (Q (V.c (C.bool false)) m0))) : Wc prog tbl 41 [(V.agg 13 [(Il a100), (Il a101), (Il a102), (Il a103), (Il a104), (Il a105), (Il a106), (Il a107), (Il a108), (Il a109), (Il a110), a111, a112])] m Q :=
 wc_eq (n := 1) rfl (by kernel_rfl) (by kernel_rfl) h
theorem w44 {a100 : Int} {a101 : Int} {a200 : Int} {a300 : Int} {m : M} {Q : V → M → Prop} (h :
 (∀ m0 : M, (m0 = (M.new m (AO.cells 2 [(Il a100), (Il a101)] false))) → isPt (C.ptr m.nxt 0) ∧ 
 ∃ x1, ((ldC m0 (C.ptr m.nxt 0)) = (some (Il x1))) ∧ ifB (decide (a200 ≤ x1)) (isPt (C.ptr m.nxt 0) ∧ 
 ∃ x2, ((ldC m0 (C.ptr m.nxt 0)) = (some (Il x2))) ∧ isPt (C.ptr m.nxt 0) ∧ 
 ∃ x3, ((ldC m0 (C.ptr m.nxt 1)) = (some (Il x3))) ∧ ifB (decide (x2 ≤ x3)) (isPt (C.ptr m.nxt 0) ∧ 
 ∃ x4, ((ldC m0 (C.ptr m.nxt 1)) = (some (Il x4))) ∧ Q (V.c (C.bool (decide (x4 ≤ a300)))) m0) (Q (V.c (C.bool false)) m0)) (Q (V.c (C.bool false)) m0))) : Wc prog tbl 44 [(V.agg 2 [(Il a100), (Il a101)]), (V.c (Il a200)), (V.c (Il a300))] m Q :=
 wc_eq (n := 3) rfl (by kernel_rfl) (by kernel_rfl) h
theorem w47 {a100 : Int} {a101 : Int} {a102 : Int} {a103 : Int} {a104 : Int} {a105 : Int} {a106 : Int} {a107 : Int} {a108 : Int} {a109 : Int} {a110 : Int} {a111 : C} {m : M} {Q : V → M → Prop} (h :
 (∀ m0 : M, (m0 = (M.new m (AO.cells 12 [(Il a100), (Il a101), (Il a102), 
 (Il a103), (Il a104), (Il a105), (Il a106), 
 (Il a107), (Il a108), (Il a109), (Il a110), 
 a111] false))) → ∃ x1, ∃ x2, ∃ x3, ∃ x4, ∃ x5, ∃ x6, ∃ x7, 
 ∃ x8, ∃ x9, ∃ x10, ∃ x11, ∃ c12 : C, ((ldA m0 (C.ptr m.nxt 0) 12) = (some [(Il x1), 
 (Il x2), (Il x3), (Il x4), (Il x5), 
 (Il x6), (Il x7), (Il x8), (Il x9), 
 (Il x10), (Il x11), c12])) ∧ Wc prog tbl 78 [(V.agg 12 [(Il x1), 
 (Il x2), (Il x3), (Il x4), (Il x5), 
 (Il x6), (Il x7), (Il x8), (Il x9), 
 (Il x10), (Il x11), c12])] m0 (fun v13 m14 => ∃ c15 : C, 
 (v13 = (V.c c15)) ∧ ∀ R16 : List V → M → Prop, (∀ c17 : C, ∀ x18 : Int, ∀ m19 : M, (isSl c15 ∧ 
 ifB (decide (x18 < (((slLen c15) : Nat) : Int))) (∃ n20 : Nat, (x18 = ((n20 : Nat) : Int)) ∧ 
 (n20 < (slLen c15)) ∧ ∃ x21, ((ldC m19 (slAt c15 (n20 * 1))) = (some (Il x21))) ∧ 
 ∃ x22, ∃ x23, ∃ x24, ∃ x25, ∃ x26, ∃ x27, 
 ∃ x28, ∃ x29, ∃ x30, ∃ x31, ∃ x32, ∃ c33 : C, 
 ((ldA m19 (C.ptr m.nxt 0) 12) = (some [(Il x22), (Il x23), 
 (Il x24), (Il x25), (Il x26), (Il x27), 
 (Il x28), (Il x29), (Il x30), (Il x31), 
 (Il x32), c33])) ∧ Wc prog tbl 79 [(V.agg 12 [(Il x22), 
 (Il x23), (Il x24), (Il x25), (Il x26), 
 (Il x27), (Il x28), (Il x29), (Il x30), 
 (Il x31), (Il x32), c33])] m19 (fun v34 m35 => 
 ∃ x36, (v34 = (V.c (Il x36))) ∧ ((ldC m35 (slAt c15 (n20 * 1))) = (some (Il x21))) ∧ 
 ifB (decide (x21 = x36)) (∃ x37, ∃ x38, ∃ x39, ∃ x40, 
 ∃ x41, ∃ x42, ∃ x43, ∃ x44, ∃ x45, ∃ x46, 
 ∃ x47, ∃ c48 : C, ((ldA m35 (C.ptr m.nxt 0) 12) = (some [(Il x37), 
 (Il x38), (Il x39), (Il x40), (Il x41), 
 (Il x42), (Il x43), (Il x44), (Il x45), 
 (Il x46), (Il x47), c48])) ∧ Wc prog tbl 80 [(V.agg 12 [(Il x37), 
 (Il x38), (Il x39), (Il x40), (Il x41), 
 (Il x42), (Il x43), (Il x44), (Il x45), 
 (Il x46), (Il x47), c48]), (V.c (Il x18))] m35 (fun v49 m50 => 
 ∃ x51, ∃ x52, ∃ x53, ∃ x54, (v49 = (V.agg 4 [(Il x51), 
 (Il x52), (Il x53), (Il x54)])) ∧ 
 ∀ m55 : M, (m55 = (M.new m50 (AO.cells 4 [(Il x51), (Il x52), 
 (Il x53), (Il x54)] false))) → ∃ c56 : C, ∃ m57 : M, 
 (ApR prog 46 m55 c17 (C.sl m50.nxt 0 1 0 (some 1)) c56 m57) ∧ fitsP .i64 (x18 + 1) ∧ 
 R16 [(V.c c56), (V.c (Il (x18 + 1)))] m57)) (fitsP .i64 (x18 + 1) ∧ 
 R16 [(V.c c17), (V.c (Il (x18 + 1)))] m35))) (Q (V.c c17) m19)) → 
 R16 [(V.c c17), (V.c (Il x18))] m19) → R16 [(V.c C.sl0), (V.c (Il 0))] m14))) : Wc prog tbl 47 [(V.agg 12 [(Il a100), (Il a101), (Il a102), (Il a103), (Il a104), (Il a105), (Il a106), (Il a107), (Il a108), (Il a109), (Il a110), a111])] m Q :=
 wc_eq (n := 1) rfl (by kernel_rfl) (by kernel_rfl) h
theorem w50 {a100 : Int} {a101 : Int} {m : M} {Q : V → M → Prop} (h :
 (∀ m0 : M, (m0 = (M.new m (AO.cells 2 [(Il a100), (Il a101)] false))) → isPt (C.ptr m.nxt 0) ∧ 
 ∃ x1, ((ldC m0 (C.ptr m.nxt 1)) = (some (Il x1))) ∧ isPt (C.ptr m.nxt 0) ∧ 
 ∃ x2, ((ldC m0 (C.ptr m.nxt 0)) = (some (Il x2))) ∧ fitsP .i64 (x1 - x2) ∧ 
 fitsP .i64 ((x1 - x2) + (1 : Int)) ∧ Q (V.c (Il ((x1 - x2) + (1 : Int)))) m0)) : Wc prog tbl 50 [(V.agg 2 [(Il a100), (Il a101)])] m Q :=
 wc_eq (n := 1) rfl (by kernel_rfl) (by kernel_rfl) h
theorem w55 {a100 : Int} {a101 : Int} {a102 : Int} {a103 : Int} {a104 : Int} {a105 : Int} {a106 : Int} {a107 : Int} {a108 : Int} {a109 : Int} {a110 : Int} {a111 : C} {a112 : C} {a200 : Bool} {a201 : Bool} {a202 : Bool} {a203 : Bool} {a204 : Bool} {a205 : Bool} {m : M} {Q : V → M → Prop} (h :
 (∀ m0 : M, (m0 = (M.new m (AO.cells 13 [(Il a100), (Il a101), (Il a102), 
 (Il a103), (Il a104), (Il a105), (Il a106), 
 (Il a107), (Il a108), (Il a109), (Il a110), 
 a111, a112] false))) → ∀ m1 : M, (m1 = (M.new m0 (AO.cells 6 [(C.bool a200), (C.bool a201), (C.bool a202), 
 (C.bool a203), (C.bool a204), (C.bool a205)] false))) → ∀ m2 : M, (m2 = (M.new m1 (AO.cells 1 [(C.bool false)] false))) → 
 isPt (C.ptr m.nxt 0) ∧ ∃ x3, ∃ x4, ∃ x5, ∃ x6, ∃ x7, ∃ x8, 
 ∃ x9, ∃ x10, ∃ x11, ∃ x12, ∃ x13, ∃ c14 : C, ((ldA m2 (C.ptr m.nxt 0) 12) = (some [(Il x3), 
 (Il x4), (Il x5), (Il x6), (Il x7), 
 (Il x8), (Il x9), (Il x10), (Il x11), 
 (Il x12), (Il x13), c14])) ∧ Wc prog tbl 84 [(V.agg 12 [(Il x3), 
 (Il x4), (Il x5), (Il x6), (Il x7), 
 (Il x8), (Il x9), (Il x10), (Il x11), 
 (Il x12), (Il x13), c14])] m2 (fun v15 m16 => ∃ c17 : C, 
 (v15 = (V.c c17)) ∧ rangeP prog tbl c17 m16 (fun l18 m19 R20 R21 => ∃ x22, 
 ∃ x23, ∃ x24, ∃ x25, (l18 = [(V.agg 4 [(Il x22), 
 (Il x23), (Il x24), (Il x25)])]) ∧ 
 ∀ m26 : M, (m26 = (M.new m19 (AO.cells 4 [(Il 0), (Il 0), 
 (Il 0), (Il 0)] false))) → ∃ m27 : M, 
 ((stC m26 (C.ptr m19.nxt 0) 4 [(Il x22), (Il x23), 
 (Il x24), (Il x25)]) = (some m27)) ∧ R20 m27 (fun m28 => 
 isPt (C.ptr m.nxt 0) ∧ ∃ c29 : C, ((ldC m28 (C.ptr m.nxt 12)) = (some c29)) ∧ 
 ∃ x30, ∃ x31, ∃ x32, ∃ x33, ((ldA m28 (C.ptr m19.nxt 0) 4) = (some [(Il x30), 
 (Il x31), (Il x32), (Il x33)])) ∧ 
 ∃ y34 : Option U, ((lkM prog 40 m28 c29 (V.agg 4 [(Il x30), 
 (Il x31), (Il x32), (Il x33)])) = (some y34)) ∧ 
 ((y34 = Option.none) → ∃ b35 : Bool, ∃ b36 : Bool, ∃ b37 : Bool, ∃ b38 : Bool, 
 ∃ b39 : Bool, ∃ b40 : Bool, ((ldA m28 (C.ptr m0.nxt 0) 6) = (some [(C.bool b35), 
 (C.bool b36), (C.bool b37), (C.bool b38), (C.bool b39), (C.bool b40)])) ∧ Wc prog tbl 85 [(V.agg 6 [(C.bool false), 
 (C.bool false), (C.bool false), (C.bool false), (C.bool false), (C.bool false)]), 
 (V.agg 6 [(C.bool b35), (C.bool b36), (C.bool b37), (C.bool b38), (C.bool b39), 
 (C.bool b40)])] m28 (fun v41 m42 => ∃ b43 : Bool, ∃ b44 : Bool, ∃ b45 : Bool, 
 ∃ b46 : Bool, ∃ b47 : Bool, ∃ b48 : Bool, (v41 = (V.agg 6 [(C.bool b43), 
 (C.bool b44), (C.bool b45), (C.bool b46), (C.bool b47), (C.bool b48)])) ∧ ∃ b49 : Bool, 
 ∃ b50 : Bool, ∃ b51 : Bool, ∃ b52 : Bool, ∃ b53 : Bool, ∃ b54 : Bool, ((ldA m42 (C.ptr m0.nxt 0) 6) = (some [(C.bool b49), 
 (C.bool b50), (C.bool b51), (C.bool b52), (C.bool b53), (C.bool b54)])) ∧ ((ldA m28 (C.ptr m0.nxt 0) 6) = (some [(C.bool b49), 
 (C.bool b50), (C.bool b51), (C.bool b52), (C.bool b53), (C.bool b54)])) ∧ ifB ((b43 == b49) && ((b44 == b50) && ((b45 == b51) && ((b46 == b52) && ((b47 == b53) && (b48 == b54)))))) (∃ m55 : M, 
 ((stC m42 (C.ptr m1.nxt 0) 1 [(C.bool true)]) = (some m55)) ∧ R21 Ex.ret m55) (R21 Ex.nrm m42))) ∧ 
 ∀ u56 : U, (y34 = (some u56)) → ∃ b57 : Bool, ∃ b58 : Bool, ∃ b59 : Bool, 
 ∃ b60 : Bool, ∃ b61 : Bool, ∃ b62 : Bool, (u56 = (U.agg 6 [(C.bool b57), 
 (C.bool b58), (C.bool b59), (C.bool b60), (C.bool b61), (C.bool b62)])) ∧ ∃ b63 : Bool, 
 ∃ b64 : Bool, ∃ b65 : Bool, ∃ b66 : Bool, ∃ b67 : Bool, ∃ b68 : Bool, ((ldA m28 (C.ptr m0.nxt 0) 6) = (some [(C.bool b63), 
 (C.bool b64), (C.bool b65), (C.bool b66), (C.bool b67), (C.bool b68)])) ∧ Wc prog tbl 85 [(V.agg 6 [(C.bool b57), 
 (C.bool b58), (C.bool b59), (C.bool b60), (C.bool b61), (C.bool b62)]), (V.agg 6 [(C.bool b63), 
 (C.bool b64), (C.bool b65), (C.bool b66), (C.bool b67), (C.bool b68)])] m28 (fun v69 m70 => 
 ∃ b71 : Bool, ∃ b72 : Bool, ∃ b73 : Bool, ∃ b74 : Bool, ∃ b75 : Bool, ∃ b76 : Bool, 
 (v69 = (V.agg 6 [(C.bool b71), (C.bool b72), (C.bool b73), (C.bool b74), (C.bool b75), 
 (C.bool b76)])) ∧ ∃ b77 : Bool, ∃ b78 : Bool, ∃ b79 : Bool, ∃ b80 : Bool, 
 ∃ b81 : Bool, ∃ b82 : Bool, ((ldA m70 (C.ptr m0.nxt 0) 6) = (some [(C.bool b77), 
 (C.bool b78), (C.bool b79), (C.bool b80), (C.bool b81), (C.bool b82)])) ∧ ((ldA m28 (C.ptr m0.nxt 0) 6) = (some [(C.bool b77), 
 (C.bool b78), (C.bool b79), (C.bool b80), (C.bool b81), (C.bool b82)])) ∧ ifB ((b71 == b77) && ((b72 == b78) && ((b73 == b79) && ((b74 == b80) && ((b75 == b81) && (b76 == b82)))))) (∃ m83 : M, 
 ((stC m70 (C.ptr m1.nxt 0) 1 [(C.bool true)]) = (some m83)) ∧ R21 Ex.ret m83) (R21 Ex.nrm m70)))) (After.mk (fun m84 => 
 ∃ m85 : M, ((stC m84 (C.ptr m1.nxt 0) 1 [(C.bool false)]) = (some m85)) ∧ 
 ∃ b86 : Bool, ((ldC m85 (C.ptr m1.nxt 0)) = (some (C.bool b86))) ∧ 
 Q (V.c (C.bool b86)) m85) [] (fun m87 => ∃ b88 : Bool, ((ldC m87 (C.ptr m1.nxt 0)) = (some (C.bool b88))) ∧ 
 Q (V.c (C.bool b88)) m87))))) : Wc prog tbl 55 [(V.agg 13 [(Il a100), (Il a101), (Il a102), (Il a103), (Il a104), (Il a105), (Il a106), (Il a107), (Il a108), (Il a109), (Il a110), a111, a112]), (V.agg 6 [(C.bool a200), (C.bool a201), (C.bool a202), (C.bool a203), (C.bool a204), (C.bool a205)])] m Q :=
 wc_eq (n := 2) rfl (by kernel_rfl) (by kernel_rfl) h
theorem w65 {a100 : Int} {a101 : Int} {a102 : Int} {a103 : Int} {a104 : Int} {a105 : Int} {a106 : Int} {a107 : Int} {a108 : Int} {a109 : Int} {a110 : Int} {a111 : C} {a200 : Int} {a201 : Int} {a202 : Int} {a203 : Int} {m : M} {Q : V → M → Prop} (h :
 (∀ m0 : M, (m0 = (M.new m (AO.cells 12 [(Il a100), (Il a101), (Il a102), 
 (Il a103), (Il a104), (Il a105), (Il a106), 
 (Il a107), (Il a108), (Il a109), (Il a110), 
 a111] false))) → ∀ m1 : M, (m1 = (M.new m0 (AO.cells 4 [(Il a200), (Il a201), 
 (Il a202), (Il a203)] false))) → isPt (C.ptr m0.nxt 0) ∧ ∃ x2, 
 ∃ x3, ((ldA m1 (C.ptr m0.nxt 0) 2) = (some [(Il x2), (Il x3)])) ∧ 
 isPt (C.ptr m.nxt 0) ∧ ∃ x4, ((ldC m1 (C.ptr m.nxt 0)) = (some (Il x4))) ∧ 
 fitsP .i64 (x4 - 1) ∧ Wc prog tbl 71 [(V.agg 2 [(Il x2), (Il x3)]), 
 (V.c (Il 0)), (V.c (Il (x4 - 1)))] m1 (fun v5 m6 => 
 ∃ b7 : Bool, (v5 = (V.c (C.bool b7))) ∧ ifB b7 (isPt (C.ptr m0.nxt 0) ∧ ∃ x8, ∃ x9, 
 ((ldA m6 (C.ptr m0.nxt 2) 2) = (some [(Il x8), (Il x9)])) ∧ 
 isPt (C.ptr m.nxt 0) ∧ ∃ x10, ((ldC m6 (C.ptr m.nxt 1)) = (some (Il x10))) ∧ 
 fitsP .i64 (x10 - 1) ∧ Wc prog tbl 71 [(V.agg 2 [(Il x8), 
 (Il x9)]), (V.c (Il 0)), (V.c (Il (x10 - 1)))] m6 (fun v11 m12 => 
 ∃ b13 : Bool, (v11 = (V.c (C.bool b13))) ∧ Q (V.c (C.bool b13)) m12)) (Q (V.c (C.bool false)) m6)))) : Wc prog tbl 65 [(V.agg 12 [(Il a100), (Il a101), (Il a102), (Il a103), (Il a104), (Il a105), (Il a106), (Il a107), (Il a108), (Il a109), (Il a110), a111]), (V.agg 4 [(Il a200), (Il a201), (Il a202), (Il a203)])] m Q :=
 wc_eq (n := 2) rfl (by kernel_rfl) (by kernel_rfl) h
theorem w68 {a100 : C} {m : M} {Q : V → M → Prop} (h :
 (isSl a100 ∧ ifB (decide ((((slLen a100) : Nat) : Int) < (1 : Int))) False (∃ n0 : Nat, ((0 : Int) = ((n0 : Nat) : Int)) ∧ 
 (n0 < (slLen a100)) ∧ ∃ x1, ((ldC m (slAt a100 (n0 * 1))) = (some (Il x1))) ∧ 
 ∀ R2 : List V → M → Prop, (∀ x3 : Int, ∀ x4 : Int, ∀ m5 : M, (isSl a100 ∧ ifB (decide (x4 < (((slLen a100) : Nat) : Int))) (∃ n6 : Nat, 
 (x4 = ((n6 : Nat) : Int)) ∧ (n6 < (slLen a100)) ∧ ∃ x7, ((ldC m5 (slAt a100 (n6 * 1))) = (some (Il x7))) ∧ 
 fitsP .i64 (x4 + 1) ∧ R2 [(V.c (Il (Max.max x3 x7))), (V.c (Il (x4 + 1)))] m5) (Q (V.c (Il x3)) m5)) → 
 R2 [(V.c (Il x3)), (V.c (Il x4))] m5) → R2 [(V.c (Il x1)), 
 (V.c (Il (1 : Int)))] m))) : Wc prog tbl 68 [(V.c a100)] m Q :=
 wc_eq (n := 1) rfl (by kernel_rfl) (by kernel_rfl) h
theorem w71 {a100 : Int} {a101 : Int} {a200 : Int} {a300 : Int} {m : M} {Q : V → M → Prop} (h :
 (∀ m0 : M, (m0 = (M.new m (AO.cells 2 [(Il a100), (Il a101)] false))) → isPt (C.ptr m.nxt 0) ∧ 
 ∃ x1, ((ldC m0 (C.ptr m.nxt 0)) = (some (Il x1))) ∧ ifB (decide (a200 ≤ x1)) (isPt (C.ptr m.nxt 0) ∧ 
 ∃ x2, ((ldC m0 (C.ptr m.nxt 0)) = (some (Il x2))) ∧ isPt (C.ptr m.nxt 0) ∧ 
 ∃ x3, ((ldC m0 (C.ptr m.nxt 1)) = (some (Il x3))) ∧ ifB (decide (x2 ≤ x3)) (isPt (C.ptr m.nxt 0) ∧ 
 ∃ x4, ((ldC m0 (C.ptr m.nxt 1)) = (some (Il x4))) ∧ Q (V.c (C.bool (decide (x4 ≤ a300)))) m0) (Q (V.c (C.bool false)) m0)) (Q (V.c (C.bool false)) m0))) : Wc prog tbl 71 [(V.agg 2 [(Il a100), (Il a101)]), (V.c (Il a200)), (V.c (Il a300))] m Q :=
 wc_eq (n := 3) rfl (by kernel_rfl) (by kernel_rfl) h
theorem w75 {a100 : Int} {a101 : Int} {a102 : Int} {a103 : Int} {a104 : Int} {a105 : Int} {a106 : Int} {a107 : Int} {a108 : Int} {a109 : Int} {a110 : Int} {a111 : C} {a200 : Int} {a201 : Int} {a202 : Int} {a203 : Int} {m : M} {Q : V → M → Prop} (h :
 (∀ m0 : M, (m0 = (M.new m (AO.cells 12 [(Il a100), (Il a101), (Il a102), 
 (Il a103), (Il a104), (Il a105), (Il a106), 
 (Il a107), (Il a108), (Il a109), (Il a110), 
 a111] false))) → ∀ m1 : M, (m1 = (M.new m0 (AO.cells 4 [(Il a200), (Il a201), 
 (Il a202), (Il a203)] false))) → isPt (C.ptr m0.nxt 0) ∧ ∃ x2, 
 ∃ x3, ((ldA m1 (C.ptr m0.nxt 0) 2) = (some [(Il x2), (Il x3)])) ∧ 
 isPt (C.ptr m.nxt 0) ∧ ∃ x4, ((ldC m1 (C.ptr m.nxt 0)) = (some (Il x4))) ∧ 
 fitsP .i64 (x4 - 1) ∧ Wc prog tbl 44 [(V.agg 2 [(Il x2), (Il x3)]), 
 (V.c (Il 0)), (V.c (Il (x4 - 1)))] m1 (fun v5 m6 => 
 ∃ b7 : Bool, (v5 = (V.c (C.bool b7))) ∧ ifB b7 (isPt (C.ptr m0.nxt 0) ∧ ∃ x8, ∃ x9, 
 ((ldA m6 (C.ptr m0.nxt 2) 2) = (some [(Il x8), (Il x9)])) ∧ 
 isPt (C.ptr m.nxt 0) ∧ ∃ x10, ((ldC m6 (C.ptr m.nxt 1)) = (some (Il x10))) ∧ 
 fitsP .i64 (x10 - 1) ∧ Wc prog tbl 44 [(V.agg 2 [(Il x8), 
 (Il x9)]), (V.c (Il 0)), (V.c (Il (x10 - 1)))] m6 (fun v11 m12 => 
 ∃ b13 : Bool, (v11 = (V.c (C.bool b13))) ∧ Q (V.c (C.bool b13)) m12)) (Q (V.c (C.bool false)) m6)))) : Wc prog tbl 75 [(V.agg 12 [(Il a100), (Il a101), (Il a102), (Il a103), (Il a104), (Il a105), (Il a106), (Il a107), (Il a108), (Il a109), (Il a110), a111]), (V.agg 4 [(Il a200), (Il a201), (Il a202), (Il a203)])] m Q :=
 wc_eq (n := 2) rfl (by kernel_rfl) (by kernel_rfl) h
theorem w78 {a100 : Int} {a101 : Int} {a102 : Int} {a103 : Int} {a104 : Int} {a105 : Int} {a106 : Int} {a107 : Int} {a108 : Int} {a109 : Int} {a110 : Int} {a111 : C} {m : M} {Q : V → M → Prop} (h :
 (∀ m0 : M, (m0 = (M.new m (AO.cells 12 [(Il a100), (Il a101), (Il a102), 
 (Il a103), (Il a104), (Il a105), (Il a106), 
 (Il a107), (Il a108), (Il a109), (Il a110), 
 a111] false))) → ∀ R1 : List V → M → Prop, (∀ c2 : C, ∀ x3 : Int, ∀ m4 : M, (∃ x5, ∃ x6, 
 ∃ x7, ∃ x8, ∃ x9, ∃ x10, ∃ x11, ∃ x12, ∃ x13, ∃ x14, 
 ∃ x15, ∃ c16 : C, ((ldA m4 (C.ptr m.nxt 0) 12) = (some [(Il x5), 
 (Il x6), (Il x7), (Il x8), (Il x9), 
 (Il x10), (Il x11), (Il x12), (Il x13), 
 (Il x14), (Il x15), c16])) ∧ Wc prog tbl 18 [(V.agg 12 [(Il x5), 
 (Il x6), (Il x7), (Il x8), (Il x9), 
 (Il x10), (Il x11), (Il x12), (Il x13), 
 (Il x14), (Il x15), c16])] m4 (fun v17 m18 => ∃ x19, 
 (v17 = (V.c (Il x19))) ∧ ifB (decide (x3 < x19)) (∀ R20 : List V → 
 M → Prop, (∀ x21 : Int, ∀ x22 : Int, ∀ m23 : M, (isPt (C.ptr m.nxt 0) ∧ ∃ c24 : C, 
 ((ldC m23 (C.ptr m.nxt 11)) = (some c24)) ∧ isSl c24 ∧ ifB (decide (x22 < (((slLen c24) : Nat) : Int))) (∃ x25, 
 ∃ x26, ∃ x27, ∃ x28, ∃ x29, ∃ x30, ∃ x31, 
 ∃ x32, ∃ x33, ∃ x34, ∃ x35, ∃ c36 : C, ((ldA m23 (C.ptr m.nxt 0) 12) = (some [(Il x25), 
 (Il x26), (Il x27), (Il x28), (Il x29), 
 (Il x30), (Il x31), (Il x32), (Il x33), 
 (Il x34), (Il x35), c36])) ∧ ∃ x37, ∃ x38, 
 ∃ x39, ∃ x40, ∃ x41, ∃ x42, ∃ x43, ∃ x44, 
 ∃ x45, ∃ x46, ∃ x47, ∃ c48 : C, ((ldA m23 (C.ptr m.nxt 0) 12) = (some [(Il x37), 
 (Il x38), (Il x39), (Il x40), (Il x41), 
 (Il x42), (Il x43), (Il x44), (Il x45), 
 (Il x46), (Il x47), c48])) ∧ Wc prog tbl 80 [(V.agg 12 [(Il x37), 
 (Il x38), (Il x39), (Il x40), (Il x41), 
 (Il x42), (Il x43), (Il x44), (Il x45), 
 (Il x46), (Il x47), c48]), (V.c (Il x3))] m23 (fun v49 m50 => 
 ∃ x51, ∃ x52, ∃ x53, ∃ x54, (v49 = (V.agg 4 [(Il x51), 
 (Il x52), (Il x53), (Il x54)])) ∧ 
 (ifB (allS cmC [(Il x25), (Il x26), (Il x27), 
 (Il x28), (Il x29), (Il x30), (Il x31), 
 (Il x32), (Il x33), (Il x34), (Il x35), 
 c36]) ((ldA m50 (C.ptr m.nxt 0) 12) = (some [(Il x25), 
 (Il x26), (Il x27), (Il x28), (Il x29), 
 (Il x30), (Il x31), (Il x32), (Il x33), 
 (Il x34), (Il x35), c36])) False) ∧ isPt (C.ptr m.nxt 0) ∧ 
 ∃ c55 : C, ((ldC m50 (C.ptr m.nxt 11)) = (some c55)) ∧ (ifB (cmC c55) ((ldC m23 (C.ptr m.nxt 11)) = (some c55)) False) ∧ 
 ∃ n56 : Nat, (x22 = ((n56 : Nat) : Int)) ∧ (n56 < (slLen c55)) ∧ ∃ x57, 
 ∃ x58, ∃ x59, ∃ x60, ∃ b61 : Bool, ∃ x62, ∃ x63, 
 ((ldA m50 (slAt c55 (n56 * 7)) 7) = (some [(Il x57), (Il x58), 
 (Il x59), (Il x60), (C.bool b61), (Il x62), 
 (Il x63)])) ∧ ((ldA m23 (slAt c55 (n56 * 7)) 7) = (some [(Il x57), 
 (Il x58), (Il x59), (Il x60), (C.bool b61), 
 (Il x62), (Il x63)])) ∧ Wc prog tbl 46 [(V.agg 12 [(Il x25), 
 (Il x26), (Il x27), (Il x28), (Il x29), 
 (Il x30), (Il x31), (Il x32), (Il x33), 
 (Il x34), (Il x35), c36]), (V.agg 4 [(Il x51), 
 (Il x52), (Il x53), (Il x54)]), 
 (V.agg 7 [(Il x57), (Il x58), (Il x59), 
 (Il x60), (C.bool b61), (Il x62), (Il x63)])] m50 (fun v64 m65 => 
 ∃ b66 : Bool, (v64 = (V.c (C.bool b66))) ∧ ifB b66 (((0 : Int) ≤ (1 : Int)) ∧ 
 ((0 : Int) ≤ (wrapZ .u64 x22)) ∧ ((wrapZ .u64 x22) ≤ (64 : Int)) ∧ 
 fitsP .i64 ((1 : Int) * ((2 : Int) ^ (Int.toNat (wrapZ .u64 x22)))) ∧ 
 ((0 : Int) ≤ x21) ∧ ((0 : Int) ≤ ((1 : Int) * ((2 : Int) ^ (Int.toNat (wrapZ .u64 x22))))) ∧ 
 fitsP .i64 x21 ∧ fitsP .i64 ((1 : Int) * ((2 : Int) ^ (Int.toNat (wrapZ .u64 x22)))) ∧ 
 fitsP .i64 (((Nat.lor (Int.toNat x21) (Int.toNat ((1 : Int) * ((2 : Int) ^ (Int.toNat (wrapZ .u64 x22)))))) : Nat) : Int) ∧ 
 fitsP .i64 (x22 + 1) ∧ R20 [(V.c (Il (((Nat.lor (Int.toNat x21) (Int.toNat ((1 : Int) * ((2 : Int) ^ (Int.toNat (wrapZ .u64 x22)))))) : Nat) : Int))), 
 (V.c (Il (x22 + 1)))] m65) (fitsP .i64 (x22 + 1) ∧ 
 R20 [(V.c (Il x21)), (V.c (Il (x22 + 1)))] m65)))) (∀ m67 : M, 
 (m67 = (M.new m23 (AO.cells 1 [(Il x21)] false))) → ∃ c68 : C, 
 ∃ m69 : M, (ApR prog 62 m67 c2 (C.sl m23.nxt 0 1 0 (some 1)) c68 m69) ∧ 
 fitsP .i64 (x3 + 1) ∧ R1 [(V.c c68), (V.c (Il (x3 + 1)))] m69)) → 
 R20 [(V.c (Il x21)), (V.c (Il x22))] m23) → 
 R20 [(V.c (Il 0)), (V.c (Il 0))] m18) (Q (V.c c2) m18))) → 
 R1 [(V.c c2), (V.c (Il x3))] m4) → R1 [(V.c C.sl0), (V.c (Il 0))] m0)) : Wc prog tbl 78 [(V.agg 12 [(Il a100), (Il a101), (Il a102), (Il a103), (Il a104), (Il a105), (Il a106), (Il a107), (Il a108), (Il a109), (Il a110), a111])] m Q :=
 wc_eq (n := 1) rfl (by kernel_rfl) (by kernel_rfl) h
theorem w84 {a100 : Int} {a101 : Int} {a102 : Int} {a103 : Int} {a104 : Int} {a105 : Int} {a106 : Int} {a107 : Int} {a108 : Int} {a109 : Int} {a110 : Int} {a111 : C} {m : M} {Q : V → M → Prop} (h :
 (∀ m0 : M, (m0 = (M.new m (AO.cells 12 [(Il a100), (Il a101), (Il a102), 
 (Il a103), (Il a104), (Il a105), (Il a106), 
 (Il a107), (Il a108), (Il a109), (Il a110), 
 a111] false))) → Q (V.c (C.fn (Fn.func 97) [] [(W.c (C0.ptr m.nxt 0))])) m0)) : Wc prog tbl 84 [(V.agg 12 [(Il a100), (Il a101), (Il a102), (Il a103), (Il a104), (Il a105), (Il a106), (Il a107), (Il a108), (Il a109), (Il a110), a111])] m Q :=
 wc_eq (n := 1) rfl (by kernel_rfl) (by kernel_rfl) h
theorem w90 {a100 : C} {a200 : C} {m : M} {Q : V → M → Prop} (h :
 (Wc prog tbl 101 [(V.c a100), (V.c a200)] m (fun v0 m1 => ∃ x2, (v0 = (V.c (Il x2))) ∧ Q (V.c (C.bool (decide ((0 : Int) ≤ x2)))) m1))) : Wc prog tbl 90 [(V.c a100), (V.c a200)] m Q :=
 wc_eq (n := 2) rfl (by kernel_rfl) (by kernel_rfl) h
theorem w96 {a100 : Int} {a101 : Int} {a102 : Int} {a103 : Int} {a104 : Int} {a105 : Int} {a106 : Int} {a107 : Int} {a108 : Int} {a109 : Int} {a110 : Int} {a111 : C} {a200 : Int} {a201 : Int} {a202 : Int} {a203 : Int} {a300 : Int} {a400 : Int} {m : M} {Q : V → M → Prop} (h :
 (∀ m0 : M, (m0 = (M.new m (AO.cells 12 [(Il a100), (Il a101), (Il a102), 
 (Il a103), (Il a104), (Il a105), (Il a106), 
 (Il a107), (Il a108), (Il a109), (Il a110), 
 a111] false))) → ∀ m1 : M, (m1 = (M.new m0 (AO.cells 4 [(Il a200), (Il a201), 
 (Il a202), (Il a203)] false))) → isPt (C.ptr m.nxt 0) ∧ ∃ x2, 
 ((ldC m1 (C.ptr m.nxt 0)) = (some (Il x2))) ∧ fitsP .i64 (x2 - 1) ∧ 
 ((0 : Int) ≤ (x2 - 1)) ∧ ((0 : Int) ≤ a400) ∧ fitsP .i64 ((x2 - 1) * a400) ∧ 
 isPt (C.ptr m0.nxt 0) ∧ ∃ x3, ((ldC m1 (C.ptr m0.nxt 0)) = (some (Il x3))) ∧ 
 fitsP .i64 ((x2 - 1) - a300) ∧ ((0 : Int) ≤ x3) ∧ ((0 : Int) ≤ ((x2 - 1) - a300)) ∧ 
 fitsP .i64 (x3 * ((x2 - 1) - a300)) ∧ fitsP .i64 (((x2 - 1) * a400) - (x3 * ((x2 - 1) - a300))) ∧ 
 isPt (C.ptr m0.nxt 0) ∧ ∃ x4, ((ldC m1 (C.ptr m0.nxt 1)) = (some (Il x4))) ∧ 
 ((0 : Int) ≤ x4) ∧ ((0 : Int) ≤ a300) ∧ fitsP .i64 (x4 * a300) ∧ fitsP .i64 ((((x2 - 1) * a400) - (x3 * ((x2 - 1) - a300))) - (x4 * a300)) ∧ 
 ifB (decide (((((x2 - 1) * a400) - (x3 * ((x2 - 1) - a300))) - (x4 * a300)) < (0 : Int))) (fitsP .i64 ((0 : Int) - ((((x2 - 1) * a400) - (x3 * ((x2 - 1) - a300))) - (x4 * a300))) ∧ 
 Q (V.c (Il ((0 : Int) - ((((x2 - 1) * a400) - (x3 * ((x2 - 1) - a300))) - (x4 * a300))))) m1) (Q (V.c (Il ((((x2 - 1) * a400) - (x3 * ((x2 - 1) - a300))) - (x4 * a300)))) m1))) : Wc prog tbl 96 [(V.agg 12 [(Il a100), (Il a101), (Il a102), (Il a103), (Il a104), (Il a105), (Il a106), (Il a107), (Il a108), (Il a109), (Il a110), a111]), (V.agg 4 [(Il a200), (Il a201), (Il a202), (Il a203)]), (V.c (Il a300)), (V.c (Il a400))] m Q :=
 wc_eq (n := 4) rfl (by kernel_rfl) (by kernel_rfl) h
end
end Go.Proofs.YtbnfnhfanooplaaGreat

namespace Go.Proofs.YtbnfnhfanooplaaGreat
open _root_.Go.Proofs.Tryz
open Go.Abs
set_option maxRecDepth 100000
noncomputable section
theorem w4 {a100 : Int} {a101 : Int} {a102 : Int} {a103 : Int} {a104 : Int} {a105 : Int} {a106 : Int} {a107 : Int} {a108 : Int} {a109 : Int} {a110 : Int} {a111 : C} {m : M} {Q : V → M → Prop} (h :
 (∀ m0 : M, (m0 = (M.new m (AO.cells 12 [(Il a100), (Il a101), (Il a102), 
 (Il a103), (Il a104), (Il a105), (Il a106), 
 (Il a107), (Il a108), (Il a109), (Il a110), 
 a111] false))) → isPt (C.ptr m.nxt 0) ∧ ∃ c1 : C, ((ldC m0 (C.ptr m.nxt 11)) = (some c1)) ∧ 
 isSl c1 ∧ ifB (decide ((((slLen c1) : Nat) : Int) ≤ (9 : Int))) (∃ x2, ∃ x3, ∃ x4, 
 ∃ x5, ∃ x6, ∃ x7, ∃ x8, ∃ x9, ∃ x10, ∃ x11, ∃ x12, 
 ∃ c13 : C, ((ldA m0 (C.ptr m.nxt 0) 12) = (some [(Il x2), (Il x3), 
 (Il x4), (Il x5), (Il x6), (Il x7), 
 (Il x8), (Il x9), (Il x10), (Il x11), 
 (Il x12), c13])) ∧ Wc prog tbl 12 [(V.agg 12 [(Il x2), 
 (Il x3), (Il x4), (Il x5), (Il x6), 
 (Il x7), (Il x8), (Il x9), (Il x10), 
 (Il x11), (Il x12), c13])] m0 (fun v14 m15 => ∃ x16, 
 (v14 = (V.c (Il x16))) ∧ ifB (!decide (x16 = 0)) (Q (V.c (C.bool true)) m15) (∃ x17, 
 ∃ x18, ∃ x19, ∃ x20, ∃ x21, ∃ x22, ∃ x23, 
 ∃ x24, ∃ x25, ∃ x26, ∃ x27, ∃ c28 : C, ((ldA m15 (C.ptr m.nxt 0) 12) = (some [(Il x17), 
 (Il x18), (Il x19), (Il x20), (Il x21), 
 (Il x22), (Il x23), (Il x24), (Il x25), 
 (Il x26), (Il x27), c28])) ∧ Wc prog tbl 18 [(V.agg 12 [(Il x17), 
 (Il x18), (Il x19), (Il x20), (Il x21), 
 (Il x22), (Il x23), (Il x24), (Il x25), 
 (Il x26), (Il x27), c28])] m15 (fun v29 m30 => 
 ∃ x31, (v29 = (V.c (Il x31))) ∧ Q (V.c (C.bool (decide (x31 ≤ 300)))) m30)))) (Q (V.c (C.bool false)) m0))) : Wc prog tbl 4 [(V.agg 12 [(Il a100), (Il a101), (Il a102), (Il a103), (Il a104), (Il a105), (Il a106), (Il a107), (Il a108), (Il a109), (Il a110), a111])] m Q :=
 wc_eq (n := 1) rfl (by kernel_rfl) (by kernel_rfl) h
theorem w8 {a100 : Int} {a101 : Int} {a102 : Int} {a103 : Int} {a104 : Int} {a105 : Int} {a106 : Int} {a107 : Int} {a108 : Int} {a109 : Int} {a110 : Int} {a111 : C} {a200 : Int} {a201 : Int} {a202 : Int} {a203 : Int} {m : M} {Q : V → M → Prop} (h :
 (∀ m0 : M, (m0 = (M.new m (AO.cells 12 [(Il a100), (Il a101), (Il a102), 
 (Il a103), (Il a104), (Il a105), (Il a106), 
 (Il a107), (Il a108), (Il a109), (Il a110), 
 a111] false))) → ∀ m1 : M, (m1 = (M.new m0 (AO.cells 4 [(Il a200), (Il a201), 
 (Il a202), (Il a203)] false))) → ∃ x2, ∃ x3, ∃ x4, 
 ∃ x5, ∃ x6, ∃ x7, ∃ x8, ∃ x9, ∃ x10, ∃ x11, ∃ x12, 
 ∃ c13 : C, ((ldA m1 (C.ptr m.nxt 0) 12) = (some [(Il x2), (Il x3), 
 (Il x4), (Il x5), (Il x6), (Il x7), 
 (Il x8), (Il x9), (Il x10), (Il x11), 
 (Il x12), c13])) ∧ Wc prog tbl 10 [(V.agg 12 [(Il x2), (Il x3), 
 (Il x4), (Il x5), (Il x6), (Il x7), 
 (Il x8), (Il x9), (Il x10), (Il x11), 
 (Il x12), c13])] m1 (fun v14 m15 => ∃ x16, (v14 = (V.c (Il x16))) ∧ 
 ifB (!decide (x16 = 0)) (Q (V.c (C.bool false)) m15) (∃ x17, ∃ x18, 
 ∃ x19, ∃ x20, ∃ x21, ∃ x22, ∃ x23, ∃ x24, 
 ∃ x25, ∃ x26, ∃ x27, ∃ c28 : C, ((ldA m15 (C.ptr m.nxt 0) 12) = (some [(Il x17), 
 (Il x18), (Il x19), (Il x20), (Il x21), 
 (Il x22), (Il x23), (Il x24), (Il x25), 
 (Il x26), (Il x27), c28])) ∧ ∀ m29 : M, (m29 = (M.new m15 (AO.cells 13 [(Il 0), 
 (Il 0), (Il 0), (Il 0), 
 (Il 0), (Il 0), (Il 0), 
 (Il 0), (Il 0), (Il 0), 
 (Il 0), C.sl0, C.map0] false))) → ∃ m30 : M, ((stC m29 (C.ptr m15.nxt 0) 13 [(Il x17), 
 (Il x18), (Il x19), (Il x20), (Il x21), 
 (Il x22), (Il x23), (Il x24), (Il x25), 
 (Il x26), (Il x27), c28, C.map0]) = (some m30)) ∧ 
 isPt (C.ptr m15.nxt 0) ∧ ∃ x31, ∃ x32, ∃ x33, ∃ x34, 
 ∃ x35, ∃ x36, ∃ x37, ∃ x38, ∃ x39, ∃ x40, 
 ∃ x41, ∃ c42 : C, ((ldA m30 (C.ptr m15.nxt 0) 12) = (some [(Il x31), 
 (Il x32), (Il x33), (Il x34), (Il x35), 
 (Il x36), (Il x37), (Il x38), (Il x39), 
 (Il x40), (Il x41), c42])) ∧ ∃ x43, ∃ x44, 
 ∃ x45, ∃ x46, ((ldA m30 (C.ptr m0.nxt 0) 4) = (some [(Il x43), 
 (Il x44), (Il x45), (Il x46)])) ∧ 
 Wc prog tbl 37 [(V.agg 12 [(Il x31), (Il x32), 
 (Il x33), (Il x34), (Il x35), (Il x36), 
 (Il x37), (Il x38), (Il x39), (Il x40), 
 (Il x41), c42]), (V.agg 4 [(Il x43), (Il x44), 
 (Il x45), (Il x46)])] m30 (fun v47 m48 => ∃ b49 : Bool, 
 (v47 = (V.c (C.bool b49))) ∧ ifB b49 (∃ x50, ∃ x51, ∃ x52, 
 ∃ x53, ∃ x54, ∃ x55, ∃ x56, ∃ x57, ∃ x58, 
 ∃ x59, ∃ x60, ∃ c61 : C, ∃ c62 : C, ((ldA m48 (C.ptr m15.nxt 0) 13) = (some [(Il x50), 
 (Il x51), (Il x52), (Il x53), (Il x54), 
 (Il x55), (Il x56), (Il x57), (Il x58), 
 (Il x59), (Il x60), c61, c62])) ∧ ∃ x63, 
 ∃ x64, ∃ x65, ∃ x66, ((ldA m48 (C.ptr m0.nxt 0) 4) = (some [(Il x63), 
 (Il x64), (Il x65), (Il x66)])) ∧ 
 Wc prog tbl 38 [(V.agg 13 [(Il x50), (Il x51), 
 (Il x52), (Il x53), (Il x54), (Il x55), 
 (Il x56), (Il x57), (Il x58), (Il x59), 
 (Il x60), c61, c62]), (V.agg 4 [(Il x63), (Il x64), 
 (Il x65), (Il x66)])] m48 (fun v67 m68 => ∃ b69 : Bool, 
 ∃ b70 : Bool, ∃ b71 : Bool, ∃ b72 : Bool, ∃ b73 : Bool, ∃ b74 : Bool, (v67 = (V.agg 6 [(C.bool b69), 
 (C.bool b70), (C.bool b71), (C.bool b72), (C.bool b73), (C.bool b74)])) ∧ ∃ x75, 
 ∃ x76, ∃ x77, ∃ x78, ∃ x79, ∃ x80, ∃ x81, 
 ∃ x82, ∃ x83, ∃ x84, ∃ x85, ∃ c86 : C, ∃ c87 : C, 
 ((ldA m68 (C.ptr m15.nxt 0) 13) = (some [(Il x75), (Il x76), 
 (Il x77), (Il x78), (Il x79), (Il x80), 
 (Il x81), (Il x82), (Il x83), (Il x84), 
 (Il x85), c86, c87])) ∧ (ifB (allS cmC [(Il x75), 
 (Il x76), (Il x77), (Il x78), (Il x79), 
 (Il x80), (Il x81), (Il x82), (Il x83), 
 (Il x84), (Il x85), c86, c87]) ((ldA m48 (C.ptr m15.nxt 0) 13) = (some [(Il x75), 
 (Il x76), (Il x77), (Il x78), (Il x79), 
 (Il x80), (Il x81), (Il x82), (Il x83), 
 (Il x84), (Il x85), c86, c87])) False) ∧ Wc prog tbl 39 [(V.agg 13 [(Il x75), 
 (Il x76), (Il x77), (Il x78), (Il x79), 
 (Il x80), (Il x81), (Il x82), (Il x83), 
 (Il x84), (Il x85), c86, c87])] m68 (fun v88 m89 => 
 ∃ b90 : Bool, ∃ b91 : Bool, ∃ b92 : Bool, ∃ b93 : Bool, ∃ b94 : Bool, ∃ b95 : Bool, 
 (v88 = (V.agg 6 [(C.bool b90), (C.bool b91), (C.bool b92), (C.bool b93), (C.bool b94), 
 (C.bool b95)])) ∧ Q (V.c (C.bool ((b69 == b90) && ((b70 == b91) && ((b71 == b92) && ((b72 == b93) && ((b73 == b94) && (b74 == b95)))))))) m89))) (Q (V.c (C.bool false)) m48)))))) : Wc prog tbl 8 [(V.agg 12 [(Il a100), (Il a101), (Il a102), (Il a103), (Il a104), (Il a105), (Il a106), (Il a107), (Il a108), (Il a109), (Il a110), a111]), (V.agg 4 [(Il a200), (Il a201), (Il a202), (Il a203)])] m Q :=
 wc_eq (n := 2) rfl (by kernel_rfl) (by kernel_rfl) h
theorem w11 {a100 : Int} {a101 : Int} {a102 : Int} {a103 : Int} {a104 : Int} {a105 : Int} {a106 : Int} {a107 : Int} {a108 : Int} {a109 : Int} {a110 : Int} {a111 : C} {m : M} {Q : V → M → Prop} (h :
 (∀ m0 : M, (m0 = (M.new m (AO.cells 12 [(Il a100), (Il a101), (Il a102), 
 (Il a103), (Il a104), (Il a105), (Il a106), 
 (Il a107), (Il a108), (Il a109), (Il a110), 
 a111] false))) → ∃ x1, ∃ x2, ∃ x3, ∃ x4, ∃ x5, ∃ x6, ∃ x7, 
 ∃ x8, ∃ x9, ∃ x10, ∃ x11, ∃ c12 : C, ((ldA m0 (C.ptr m.nxt 0) 12) = (some [(Il x1), 
 (Il x2), (Il x3), (Il x4), (Il x5), 
 (Il x6), (Il x7), (Il x8), (Il x9), 
 (Il x10), (Il x11), c12])) ∧ Wc prog tbl 12 [(V.agg 12 [(Il x1), 
 (Il x2), (Il x3), (Il x4), (Il x5), 
 (Il x6), (Il x7), (Il x8), (Il x9), 
 (Il x10), (Il x11), c12])] m0 (fun v13 m14 => ∃ x15, 
 (v13 = (V.c (Il x15))) ∧ Q (V.c (Il x15)) m14))) : Wc prog tbl 11 [(V.agg 12 [(Il a100), (Il a101), (Il a102), (Il a103), (Il a104), (Il a105), (Il a106), (Il a107), (Il a108), (Il a109), (Il a110), a111])] m Q :=
 wc_eq (n := 1) rfl (by kernel_rfl) (by kernel_rfl) h
theorem w14 {a100 : Int} {a101 : Int} {a102 : Int} {a103 : Int} {a104 : Int} {a105 : Int} {a106 : Int} {a107 : Int} {a108 : Int} {a109 : Int} {a110 : Int} {a111 : C} {m : M} {Q : V → M → Prop} (h :
 (∀ m0 : M, (m0 = (M.new m (AO.cells 12 [(Il a100), (Il a101), (Il a102), 
 (Il a103), (Il a104), (Il a105), (Il a106), 
 (Il a107), (Il a108), (Il a109), (Il a110), 
 a111] false))) → ∃ x1, ∃ x2, ∃ x3, ∃ x4, ∃ x5, ∃ x6, ∃ x7, 
 ∃ x8, ∃ x9, ∃ x10, ∃ x11, ∃ c12 : C, ((ldA m0 (C.ptr m.nxt 0) 12) = (some [(Il x1), 
 (Il x2), (Il x3), (Il x4), (Il x5), 
 (Il x6), (Il x7), (Il x8), (Il x9), 
 (Il x10), (Il x11), c12])) ∧ Wc prog tbl 11 [(V.agg 12 [(Il x1), 
 (Il x2), (Il x3), (Il x4), (Il x5), 
 (Il x6), (Il x7), (Il x8), (Il x9), 
 (Il x10), (Il x11), c12])] m0 (fun v13 m14 => ∃ x15, 
 (v13 = (V.c (Il x15))) ∧ ifB (!decide (x15 = 0)) (Q (V.tup [(U.c C.sl0), 
 (U.c (Il x15))]) m14) (∃ x16, ∃ x17, ∃ x18, ∃ x19, 
 ∃ x20, ∃ x21, ∃ x22, ∃ x23, ∃ x24, ∃ x25, 
 ∃ x26, ∃ c27 : C, ((ldA m14 (C.ptr m.nxt 0) 12) = (some [(Il x16), 
 (Il x17), (Il x18), (Il x19), (Il x20), 
 (Il x21), (Il x22), (Il x23), (Il x24), 
 (Il x25), (Il x26), c27])) ∧ Wc prog tbl 47 [(V.agg 12 [(Il x16), 
 (Il x17), (Il x18), (Il x19), (Il x20), 
 (Il x21), (Il x22), (Il x23), (Il x24), 
 (Il x25), (Il x26), c27])] m14 (fun v28 m29 => 
 ∃ c30 : C, (v28 = (V.c c30)) ∧ isSl c30 ∧ ifB (decide ((((slLen c30) : Nat) : Int) = (0 : Int))) (Q (V.tup [(U.c C.sl0), 
 (U.c (Il (11 : Int)))]) m29) (Q (V.tup [(U.c c30), (U.c (Il 0))]) m29)))))) : Wc prog tbl 14 [(V.agg 12 [(Il a100), (Il a101), (Il a102), (Il a103), (Il a104), (Il a105), (Il a106), (Il a107), (Il a108), (Il a109), (Il a110), a111])] m Q :=
 wc_eq (n := 1) rfl (by kernel_rfl) (by kernel_rfl) h
theorem w17 {a100 : Int} {a101 : Int} {a102 : Int} {a103 : Int} {a104 : Int} {a105 : Int} {a106 : Int} {a107 : Int} {a108 : Int} {a109 : Int} {a110 : Int} {a111 : C} {a200 : Int} {a201 : Int} {a202 : Int} {a203 : Int} {a204 : Int} {a205 : Int} {a206 : Int} {a207 : Int} {a208 : Int} {a209 : Int} {a210 : Int} {a211 : C} {m : M} {Q : V → M → Prop} (h :
 (∀ m0 : M, (m0 = (M.new m (AO.cells 12 [(Il a100), (Il a101), (Il a102), 
 (Il a103), (Il a104), (Il a105), (Il a106), 
 (Il a107), (Il a108), (Il a109), (Il a110), 
 a111] false))) → ∀ m1 : M, (m1 = (M.new m0 (AO.cells 12 [(Il a200), (Il a201), 
 (Il a202), (Il a203), (Il a204), (Il a205), 
 (Il a206), (Il a207), (Il a208), (Il a209), 
 (Il a210), a211] false))) → ∃ x2, ∃ x3, ∃ x4, ∃ x5, ∃ x6, 
 ∃ x7, ∃ x8, ∃ x9, ∃ x10, ∃ x11, ∃ x12, ∃ c13 : C, ((ldA m1 (C.ptr m0.nxt 0) 12) = (some [(Il x2), 
 (Il x3), (Il x4), (Il x5), (Il x6), 
 (Il x7), (Il x8), (Il x9), (Il x10), 
 (Il x11), (Il x12), c13])) ∧ Wc prog tbl 7 [(V.agg 12 [(Il x2), 
 (Il x3), (Il x4), (Il x5), (Il x6), 
 (Il x7), (Il x8), (Il x9), (Il x10), 
 (Il x11), (Il x12), c13])] m1 (fun v14 m15 => ∃ x16, 
 ∃ x17, ∃ x18, ∃ x19, ∃ x20, ∃ x21, ∃ x22, ∃ x23, 
 ∃ x24, ∃ x25, ∃ x26, ∃ c27 : C, (v14 = (V.agg 12 [(Il x16), 
 (Il x17), (Il x18), (Il x19), (Il x20), 
 (Il x21), (Il x22), (Il x23), (Il x24), 
 (Il x25), (Il x26), c27])) ∧ ∀ m28 : M, (m28 = (M.new m15 (AO.cells 12 [(Il 0), 
 (Il 0), (Il 0), (Il 0), 
 (Il 0), (Il 0), (Il 0), 
 (Il 0), (Il 0), (Il 0), 
 (Il 0), C.sl0] false))) → ∃ m29 : M, ((stC m28 (C.ptr m15.nxt 0) 12 [(Il x16), 
 (Il x17), (Il x18), (Il x19), (Il x20), 
 (Il x21), (Il x22), (Il x23), (Il x24), 
 (Il x25), (Il x26), c27]) = (some m29)) ∧ 
 isPt (C.ptr m.nxt 0) ∧ ∃ x30, ((ldC m29 (C.ptr m.nxt 0)) = (some (Il x30))) ∧ 
 isPt (C.ptr m15.nxt 0) ∧ ∃ x31, ((ldC m29 (C.ptr m15.nxt 0)) = (some (Il x31))) ∧ 
 ifB (!decide (x30 = x31)) (Q (V.c (C.bool false)) m29) (isPt (C.ptr m.nxt 0) ∧ 
 ∃ x32, ((ldC m29 (C.ptr m.nxt 1)) = (some (Il x32))) ∧ 
 isPt (C.ptr m15.nxt 0) ∧ ∃ x33, ((ldC m29 (C.ptr m15.nxt 1)) = (some (Il x33))) ∧ 
 ifB (!decide (x32 = x33)) (Q (V.c (C.bool false)) m29) (isPt (C.ptr m.nxt 0) ∧ 
 ∃ x34, ((ldC m29 (C.ptr m.nxt 2)) = (some (Il x34))) ∧ 
 isPt (C.ptr m15.nxt 0) ∧ ∃ x35, ((ldC m29 (C.ptr m15.nxt 2)) = (some (Il x35))) ∧ 
 ifB (!decide (x34 = x35)) (Q (V.c (C.bool false)) m29) (isPt (C.ptr m.nxt 0) ∧ 
 ∃ x36, ∃ x37, ((ldA m29 (C.ptr m.nxt 3) 2) = (some [(Il x36), 
 (Il x37)])) ∧ isPt (C.ptr m15.nxt 0) ∧ ∃ x38, ∃ x39, 
 ((ldA m29 (C.ptr m15.nxt 3) 2) = (some [(Il x38), (Il x39)])) ∧ 
 fitsP .i64 x36 ∧ fitsP .i64 x38 ∧ fitsP .i64 x37 ∧ fitsP .i64 x39 ∧ 
 ifB (!((decide (x36 = x38)) && (decide (x37 = x39)))) (Q (V.c (C.bool false)) m29) (isPt (C.ptr m.nxt 0) ∧ 
 ∃ x40, ∃ x41, ((ldA m29 (C.ptr m.nxt 5) 2) = (some [(Il x40), 
 (Il x41)])) ∧ isPt (C.ptr m15.nxt 0) ∧ ∃ x42, ∃ x43, 
 ((ldA m29 (C.ptr m15.nxt 5) 2) = (some [(Il x42), (Il x43)])) ∧ 
 fitsP .i64 x40 ∧ fitsP .i64 x42 ∧ fitsP .i64 x41 ∧ fitsP .i64 x43 ∧ 
 ifB (!((decide (x40 = x42)) && (decide (x41 = x43)))) (Q (V.c (C.bool false)) m29) (isPt (C.ptr m.nxt 0) ∧ 
 ∃ x44, ∃ x45, ((ldA m29 (C.ptr m.nxt 7) 2) = (some [(Il x44), 
 (Il x45)])) ∧ isPt (C.ptr m15.nxt 0) ∧ ∃ x46, ∃ x47, 
 ((ldA m29 (C.ptr m15.nxt 7) 2) = (some [(Il x46), (Il x47)])) ∧ 
 fitsP .i64 x44 ∧ fitsP .i64 x46 ∧ fitsP .i64 x45 ∧ fitsP .i64 x47 ∧ 
 ifB (!((decide (x44 = x46)) && (decide (x45 = x47)))) (Q (V.c (C.bool false)) m29) (isPt (C.ptr m.nxt 0) ∧ 
 ∃ x48, ∃ x49, ((ldA m29 (C.ptr m.nxt 9) 2) = (some [(Il x48), 
 (Il x49)])) ∧ isPt (C.ptr m15.nxt 0) ∧ ∃ x50, ∃ x51, 
 ((ldA m29 (C.ptr m15.nxt 9) 2) = (some [(Il x50), (Il x51)])) ∧ 
 fitsP .i64 x48 ∧ fitsP .i64 x50 ∧ fitsP .i64 x49 ∧ fitsP .i64 x51 ∧ 
 ifB (!((decide (x48 = x50)) && (decide (x49 = x51)))) (Q (V.c (C.bool false)) m29) (isPt (C.ptr m.nxt 0) ∧ 
 ∃ c52 : C, ((ldC m29 (C.ptr m.nxt 11)) = (some c52)) ∧ isSl c52 ∧ 
 isPt (C.ptr m15.nxt 0) ∧ ∃ c53 : C, ((ldC m29 (C.ptr m15.nxt 11)) = (some c53)) ∧ 
 isSl c53 ∧ ifB (!decide ((((slLen c52) : Nat) : Int) = (((slLen c53) : Nat) : Int))) (Q (V.c (C.bool false)) m29) (∀ R54 : List V → 
 M → Prop, (∀ b55 : Bool, ∀ x56 : Int, ∀ m57 : M, (isPt (C.ptr m.nxt 0) ∧ 
 ∃ c58 : C, ((ldC m57 (C.ptr m.nxt 11)) = (some c58)) ∧ isSl c58 ∧ 
 ifB (decide (x56 < (((slLen c58) : Nat) : Int))) (isPt (C.ptr m.nxt 0) ∧ ∃ c59 : C, 
 ((ldC m57 (C.ptr m.nxt 11)) = (some c59)) ∧ ∃ n60 : Nat, (x56 = ((n60 : Nat) : Int)) ∧ 
 (n60 < (slLen c59)) ∧ ∃ x61, ∃ x62, ∃ x63, ∃ x64, 
 ∃ b65 : Bool, ∃ x66, ∃ x67, ((ldA m57 (slAt c59 (n60 * 7)) 7) = (some [(Il x61), 
 (Il x62), (Il x63), (Il x64), (C.bool b65), 
 (Il x66), (Il x67)])) ∧ isPt (C.ptr m15.nxt 0) ∧ 
 ∃ c68 : C, ((ldC m57 (C.ptr m15.nxt 11)) = (some c68)) ∧ ∃ n69 : Nat, 
 (x56 = ((n69 : Nat) : Int)) ∧ (n69 < (slLen c68)) ∧ ∃ x70, ∃ x71, 
 ∃ x72, ∃ x73, ∃ b74 : Bool, ∃ x75, ∃ x76, ((ldA m57 (slAt c68 (n69 * 7)) 7) = (some [(Il x70), 
 (Il x71), (Il x72), (Il x73), (C.bool b74), 
 (Il x75), (Il x76)])) ∧ fitsP .i64 x61 ∧ 
 fitsP .i64 x70 ∧ fitsP .i64 x62 ∧ fitsP .i64 x71 ∧ fitsP .i64 x63 ∧ 
 fitsP .i64 x72 ∧ fitsP .i64 x64 ∧ fitsP .i64 x73 ∧ fitsP .i64 x66 ∧ 
 fitsP .i64 x75 ∧ fitsP .i64 x67 ∧ fitsP .i64 x76 ∧ ifB (!((decide (x61 = x70)) && ((decide (x62 = x71)) && ((decide (x63 = x72)) && ((decide (x64 = x73)) && ((b65 == b74) && ((decide (x66 = x75)) && (decide (x67 = x76))))))))) (Q (V.c (C.bool false)) m57) (fitsP .i64 (x56 + 1) ∧ 
 R54 [(V.c (C.bool b55)), (V.c (Il (x56 + 1)))] m57)) (Q (V.c (C.bool true)) m57)) → 
 R54 [(V.c (C.bool b55)), (V.c (Il x56))] m57) → R54 [(V.c (C.bool false)), 
 (V.c (Il 0))] m29))))))))))) : Wc prog tbl 17 [(V.agg 12 [(Il a100), (Il a101), (Il a102), (Il a103), (Il a104), (Il a105), (Il a106), (Il a107), (Il a108), (Il a109), (Il a110), a111]), (V.agg 12 [(Il a200), (Il a201), (Il a202), (Il a203), (Il a204), (Il a205), (Il a206), (Il a207), (Il a208), (Il a209), (Il a210), a211])] m Q :=
 wc_eq (n := 2) rfl (by kernel_rfl) (by kernel_rfl) h
theorem w30 {a100 : Int} {a101 : Int} {a102 : Int} {a103 : Int} {a104 : Int} {a105 : Int} {a106 : Int} {a107 : Int} {a108 : Int} {a109 : Int} {a110 : Int} {a111 : C} {a112 : C} {a200 : C} {m : M} {Q : V → M → Prop} (h :
 (∀ m0 : M, (m0 = (M.new m (AO.cells 13 [(Il a100), (Il a101), (Il a102), 
 (Il a103), (Il a104), (Il a105), (Il a106), 
 (Il a107), (Il a108), (Il a109), (Il a110), 
 a111, a112] false))) → ∀ m1 : M, (m1 = (M.new m0 (AO.cells 1 [a200] false))) → ∀ m2 : M, (m2 = (M.new m1 (AO.cells 2 [(Il 0), 
 (Il 0)] false))) → ∀ m3 : M, (m3 = (M.new m2 (AO.cells 1 [C.sl0] false))) → 
 ∃ x4, ∃ x5, ∃ x6, ∃ x7, ∃ x8, ∃ x9, ∃ x10, ∃ x11, 
 ∃ x12, ∃ x13, ∃ x14, ∃ c15 : C, ∃ c16 : C, ((ldA m3 (C.ptr m.nxt 0) 13) = (some [(Il x4), 
 (Il x5), (Il x6), (Il x7), (Il x8), 
 (Il x9), (Il x10), (Il x11), (Il x12), 
 (Il x13), (Il x14), c15, c16])) ∧ Wc prog tbl 66 [(V.agg 13 [(Il x4), 
 (Il x5), (Il x6), (Il x7), (Il x8), 
 (Il x9), (Il x10), (Il x11), (Il x12), 
 (Il x13), (Il x14), c15, c16])] m3 (fun v17 m18 => 
 ∃ c19 : C, (v17 = (V.c c19)) ∧ rangeP prog tbl c19 m18 (fun l20 m21 R22 R23 => ∃ x24, 
 ∃ x25, ∃ x26, ∃ x27, (l20 = [(V.agg 4 [(Il x24), 
 (Il x25), (Il x26), (Il x27)])]) ∧ 
 ∀ m28 : M, (m28 = (M.new m21 (AO.cells 4 [(Il 0), (Il 0), 
 (Il 0), (Il 0)] false))) → ∃ m29 : M, 
 ((stC m28 (C.ptr m21.nxt 0) 4 [(Il x24), (Il x25), 
 (Il x26), (Il x27)]) = (some m29)) ∧ R22 m29 (fun m30 => 
 ∃ c31 : C, ((ldC m30 (C.ptr m2.nxt 0)) = (some c31)) ∧ ∃ c32 : C, 
 ((ldC m30 (C.ptr m0.nxt 0)) = (some c32)) ∧ ∃ x33, ∃ x34, 
 ∃ x35, ∃ x36, ((ldA m30 (C.ptr m21.nxt 0) 4) = (some [(Il x33), 
 (Il x34), (Il x35), (Il x36)])) ∧ 
 callP prog tbl [(V.agg 4 [(Il x33), (Il x34), 
 (Il x35), (Il x36)])] c32 m30 (fun v37 m38 => ∃ x39, 
 (v37 = (V.c (Il x39))) ∧ (ifB (cmC c31) ((ldC m38 (C.ptr m2.nxt 0)) = (some c31)) False) ∧ 
 ∀ m40 : M, (m40 = (M.new m38 (AO.cells 1 [(Il x39)] false))) → 
 (ifB (cmC c31) ((ldC m40 (C.ptr m2.nxt 0)) = (some c31)) False) ∧ ∃ c41 : C, 
 ∃ m42 : M, (ApR prog 62 m40 c31 (C.sl m38.nxt 0 1 0 (some 1)) c41 m42) ∧ 
 ∃ m43 : M, ((stC m42 (C.ptr m2.nxt 0) 1 [c41]) = (some m43)) ∧ R23 Ex.nrm m43))) (After.mk (fun m44 => 
 ∃ c45 : C, ((ldC m44 (C.ptr m2.nxt 0)) = (some c45)) ∧ Wc prog tbl 67 [(V.c c45)] m44 (fun v46 m47 => 
 ∃ x48, (v46 = (V.c (Il x48))) ∧ ∃ c49 : C, ((ldC m47 (C.ptr m2.nxt 0)) = (some c49)) ∧ 
 (ifB (cmC c49) ((ldC m44 (C.ptr m2.nxt 0)) = (some c49)) False) ∧ Wc prog tbl 68 [(V.c c49)] m47 (fun v50 m51 => 
 ∃ x52, (v50 = (V.c (Il x52))) ∧ ∃ m53 : M, ((stC m51 (C.ptr m1.nxt 0) 2 [(Il x48), 
 (Il x52)]) = (some m53)) ∧ ∃ x54, ∃ x55, 
 ((ldA m53 (C.ptr m1.nxt 0) 2) = (some [(Il x54), (Il x55)])) ∧ 
 Q (V.agg 2 [(Il x54), (Il x55)]) m53))) [] (fun m56 => 
 ∃ x57, ∃ x58, ((ldA m56 (C.ptr m1.nxt 0) 2) = (some [(Il x57), 
 (Il x58)])) ∧ Q (V.agg 2 [(Il x57), (Il x58)]) m56))))) : Wc prog tbl 30 [(V.agg 13 [(Il a100), (Il a101), (Il a102), (Il a103), (Il a104), (Il a105), (Il a106), (Il a107), (Il a108), (Il a109), (Il a110), a111, a112]), (V.c a200)] m Q :=
 wc_eq (n := 2) rfl (by kernel_rfl) (by kernel_rfl) h
theorem w33 {a100 : Int} {a101 : Int} {a102 : Int} {a103 : Int} {m : M} {Q : V → M → Prop} (h :
 (∀ m0 : M, (m0 = (M.new m (AO.cells 4 [(Il a100), (Il a101), (Il a102), 
 (Il a103)] false))) → isPt (C.ptr m.nxt 0) ∧ ∃ x1, ((ldC m0 (C.ptr m.nxt 2)) = (some (Il x1))) ∧ 
 Q (V.c (Il x1)) m0)) : Wc prog tbl 33 [(V.agg 4 [(Il a100), (Il a101), (Il a102), (Il a103)])] m Q :=
 wc_eq (n := 1) rfl (by kernel_rfl) (by kernel_rfl) h
theorem w36 {a100 : Int} {a101 : Int} {m : M} {Q : V → M → Prop} (h :
 (∀ m0 : M, (m0 = (M.new m (AO.cells 2 [(Il a100), (Il a101)] false))) → ∀ m1 : M, 
 (m1 = (M.new m0 (AO.cells 2 [(Il 0), (Il 0)] false))) → isPt (C.ptr m.nxt 0) ∧ 
 ∃ x2, ((ldC m1 (C.ptr m.nxt 0)) = (some (Il x2))) ∧ isPt (C.ptr m.nxt 0) ∧ 
 ∃ x3, ((ldC m1 (C.ptr m.nxt 1)) = (some (Il x3))) ∧ ∃ m4 : M, ((stC m1 (C.ptr m0.nxt 0) 2 [(Il x2), 
 (Il x3)]) = (some m4)) ∧ ∃ x5, ∃ x6, ((ldA m4 (C.ptr m0.nxt 0) 2) = (some [(Il x5), 
 (Il x6)])) ∧ Q (V.agg 2 [(Il x5), (Il x6)]) m4)) : Wc prog tbl 36 [(V.agg 2 [(Il a100), (Il a101)])] m Q :=
 wc_eq (n := 1) rfl (by kernel_rfl) (by kernel_rfl) h
theorem w39 {a100 : Int} {a101 : Int} {a102 : Int} {a103 : Int} {a104 : Int} {a105 : Int} {a106 : Int} {a107 : Int} {a108 : Int} {a109 : Int} {a110 : Int} {a111 : C} {a112 : C} {m : M} {Q : V → M → Prop} (h :
 (∀ m0 : M, (m0 = (M.new m (AO.cells 13 [(Il a100), (Il a101), (Il a102), 
 (Il a103), (Il a104), (Il a105), (Il a106), 
 (Il a107), (Il a108), (Il a109), (Il a110), 
 a111, a112] false))) → ∀ m1 : M, (m1 = (M.new m0 (AO.cells 6 [(C.bool false), (C.bool false), (C.bool false), 
 (C.bool false), (C.bool false), (C.bool false)] false))) → isPt (C.ptr m.nxt 0) ∧ isPt (C.ptr m.nxt 0) ∧ 
 ∃ c2 : C, ((ldC m1 (C.ptr m.nxt 11)) = (some c2)) ∧ isSl c2 ∧ fitsP .i64 ((((slLen c2) : Nat) : Int) - (1 : Int)) ∧ 
 Wc prog tbl 56 [(V.c (Il ((((slLen c2) : Nat) : Int) - (1 : Int))))] m1 (fun v3 m4 => 
 ∃ b5 : Bool, ∃ b6 : Bool, ∃ b7 : Bool, ∃ b8 : Bool, ∃ b9 : Bool, ∃ b10 : Bool, (v3 = (V.agg 6 [(C.bool b5), 
 (C.bool b6), (C.bool b7), (C.bool b8), (C.bool b9), (C.bool b10)])) ∧ ∃ m11 : M, ((stC m4 (C.ptr m0.nxt 0) 6 [(C.bool b5), 
 (C.bool b6), (C.bool b7), (C.bool b8), (C.bool b9), (C.bool b10)]) = (some m11)) ∧ 
 ∃ b12 : Bool, ∃ b13 : Bool, ∃ b14 : Bool, ∃ b15 : Bool, ∃ b16 : Bool, ∃ b17 : Bool, 
 ((ldA m11 (C.ptr m0.nxt 0) 6) = (some [(C.bool b12), (C.bool b13), (C.bool b14), 
 (C.bool b15), (C.bool b16), (C.bool b17)])) ∧ Q (V.agg 6 [(C.bool b12), (C.bool b13), 
 (C.bool b14), (C.bool b15), (C.bool b16), (C.bool b17)]) m11))) : Wc prog tbl 39 [(V.agg 13 [(Il a100), (Il a101), (Il a102), (Il a103), (Il a104), (Il a105), (Il a106), (Il a107), (Il a108), (Il a109), (Il a110), a111, a112])] m Q :=
 wc_eq (n := 1) rfl (by kernel_rfl) (by kernel_rfl) h
theorem w42 {a100 : Int} {a101 : Int} {a102 : Int} {a103 : Int} {a104 : Int} {a105 : Int} {a106 : Int} {a107 : Int} {a108 : Int} {a109 : Int} {a110 : Int} {a111 : C} {m : M} {Q : V → M → Prop} (h :
 (∀ m0 : M, (m0 = (M.new m (AO.cells 12 [(Il a100), (Il a101), (Il a102), 
 (Il a103), (Il a104), (Il a105), (Il a106), 
 (Il a107), (Il a108), (Il a109), (Il a110), 
 a111] false))) → isPt (C.ptr m.nxt 0) ∧ ∃ x1, ∃ x2, ((ldA m0 (C.ptr m.nxt 3) 2) = (some [(Il x1), 
 (Il x2)])) ∧ Wc prog tbl 74 [(V.agg 2 [(Il x1), (Il x2)])] m0 (fun v3 m4 => 
 ∃ x5, (v3 = (V.c (Il x5))) ∧ isPt (C.ptr m.nxt 0) ∧ ∃ x6, ∃ x7, 
 ((ldA m4 (C.ptr m.nxt 5) 2) = (some [(Il x6), (Il x7)])) ∧ 
 ((ldA m0 (C.ptr m.nxt 5) 2) = (some [(Il x6), (Il x7)])) ∧ 
 Wc prog tbl 74 [(V.agg 2 [(Il x6), (Il x7)])] m4 (fun v8 m9 => 
 ∃ x10, (v8 = (V.c (Il x10))) ∧ ((0 : Int) ≤ x5) ∧ ((0 : Int) ≤ x10) ∧ 
 fitsP .i64 (x5 * x10) ∧ isPt (C.ptr m.nxt 0) ∧ ∃ x11, ∃ x12, 
 ((ldA m9 (C.ptr m.nxt 7) 2) = (some [(Il x11), (Il x12)])) ∧ 
 ((ldA m4 (C.ptr m.nxt 7) 2) = (some [(Il x11), (Il x12)])) ∧ 
 ((ldA m0 (C.ptr m.nxt 7) 2) = (some [(Il x11), (Il x12)])) ∧ 
 Wc prog tbl 74 [(V.agg 2 [(Il x11), (Il x12)])] m9 (fun v13 m14 => 
 ∃ x15, (v13 = (V.c (Il x15))) ∧ ((0 : Int) ≤ (x5 * x10)) ∧ 
 ((0 : Int) ≤ x15) ∧ fitsP .i64 ((x5 * x10) * x15) ∧ isPt (C.ptr m.nxt 0) ∧ 
 ∃ x16, ∃ x17, ((ldA m14 (C.ptr m.nxt 9) 2) = (some [(Il x16), 
 (Il x17)])) ∧ ((ldA m9 (C.ptr m.nxt 9) 2) = (some [(Il x16), 
 (Il x17)])) ∧ ((ldA m4 (C.ptr m.nxt 9) 2) = (some [(Il x16), 
 (Il x17)])) ∧ ((ldA m0 (C.ptr m.nxt 9) 2) = (some [(Il x16), 
 (Il x17)])) ∧ Wc prog tbl 74 [(V.agg 2 [(Il x16), 
 (Il x17)])] m14 (fun v18 m19 => ∃ x20, (v18 = (V.c (Il x20))) ∧ 
 ((0 : Int) ≤ ((x5 * x10) * x15)) ∧ ((0 : Int) ≤ x20) ∧ fitsP .i64 (((x5 * x10) * x15) * x20) ∧ 
 Q (V.c (Il (((x5 * x10) * x15) * x20))) m19)))))) : Wc prog tbl 42 [(V.agg 12 [(Il a100), (Il a101), (Il a102), (Il a103), (Il a104), (Il a105), (Il a106), (Il a107), (Il a108), (Il a109), (Il a110), a111])] m Q :=
 wc_eq (n := 1) rfl (by kernel_rfl) (by kernel_rfl) h
theorem w45 {a100 : Int} {a101 : Int} {a102 : Int} {a103 : Int} {a104 : Int} {a105 : Int} {a106 : Int} {a107 : Int} {a108 : Int} {a109 : Int} {a110 : Int} {a111 : C} {a200 : Int} {a201 : Int} {a202 : Int} {a203 : Int} {a204 : Bool} {a205 : Int} {a206 : Int} {m : M} {Q : V → M → Prop} (h :
 (∀ m0 : M, (m0 = (M.new m (AO.cells 12 [(Il a100), (Il a101), (Il a102), 
 (Il a103), (Il a104), (Il a105), (Il a106), 
 (Il a107), (Il a108), (Il a109), (Il a110), 
 a111] false))) → ∀ m1 : M, (m1 = (M.new m0 (AO.cells 7 [(Il a200), (Il a201), 
 (Il a202), (Il a203), (C.bool a204), (Il a205), (Il a206)] false))) → 
 ∃ x2, ∃ x3, ∃ x4, ∃ x5, ∃ x6, ∃ x7, ∃ x8, ∃ x9, 
 ∃ x10, ∃ x11, ∃ x12, ∃ c13 : C, ((ldA m1 (C.ptr m.nxt 0) 12) = (some [(Il x2), 
 (Il x3), (Il x4), (Il x5), (Il x6), 
 (Il x7), (Il x8), (Il x9), (Il x10), 
 (Il x11), (Il x12), c13])) ∧ isPt (C.ptr m0.nxt 0) ∧ ∃ x14, 
 ∃ x15, ((ldA m1 (C.ptr m0.nxt 0) 2) = (some [(Il x14), (Il x15)])) ∧ 
 isPt (C.ptr m0.nxt 0) ∧ ∃ x16, ∃ x17, ((ldA m1 (C.ptr m0.nxt 2) 2) = (some [(Il x16), 
 (Il x17)])) ∧ Wc prog tbl 75 [(V.agg 12 [(Il x2), 
 (Il x3), (Il x4), (Il x5), (Il x6), 
 (Il x7), (Il x8), (Il x9), (Il x10), 
 (Il x11), (Il x12), c13]), (V.agg 4 [(Il x14), 
 (Il x15), (Il x16), (Il x17)])] m1 (fun v18 m19 => 
 ∃ b20 : Bool, (v18 = (V.c (C.bool b20))) ∧ ifB (!b20) (Q (V.c (C.bool false)) m19) (isPt (C.ptr m0.nxt 0) ∧ 
 ∃ x21, ∃ x22, ((ldA m19 (C.ptr m0.nxt 5) 2) = (some [(Il x21), 
 (Il x22)])) ∧ Wc prog tbl 44 [(V.agg 2 [(Il x21), 
 (Il x22)]), (V.c (Il 0)), (V.c (Il (9 : Int)))] m19 (fun v23 m24 => 
 ∃ b25 : Bool, (v23 = (V.c (C.bool b25))) ∧ ifB (!b25) (Q (V.c (C.bool false)) m24) (isPt (C.ptr m0.nxt 0) ∧ 
 ∃ b26 : Bool, ((ldC m24 (C.ptr m0.nxt 4)) = (some (C.bool b26))) ∧ 
 ifB b26 (Q (V.c (C.bool true)) m24) (isPt (C.ptr m0.nxt 0) ∧ ∃ x27, 
 ∃ x28, ((ldA m24 (C.ptr m0.nxt 5) 2) = (some [(Il x27), 
 (Il x28)])) ∧ fitsP .i64 x27 ∧ fitsP .i64 (0 : Int) ∧ 
 fitsP .i64 x28 ∧ fitsP .i64 (0 : Int) ∧ Q (V.c (C.bool ((decide (x27 = 0)) && (decide (x28 = 0))))) m24))))))) : Wc prog tbl 45 [(V.agg 12 [(Il a100), (Il a101), (Il a102), (Il a103), (Il a104), (Il a105), (Il a106), (Il a107), (Il a108), (Il a109), (Il a110), a111]), (V.agg 7 [(Il a200), (Il a201), (Il a202), (Il a203), (C.bool a204), (Il a205), (Il a206)])] m Q :=
 wc_eq (n := 2) rfl (by kernel_rfl) (by kernel_rfl) h
theorem w48  {m : M} {Q : V → M → Prop} (h :
 (∀ m0 : M, (m0 = (M.new m (AO.cells 2 [(Il 0), (Il 0)] false))) → 
 ∃ m1 : M, ((stC m0 (C.ptr m.nxt 0) 2 [(Il (1099511627776 : Int)), (Il (-1099511627776 : Int))]) = (some m1)) ∧ 
 ∃ x2, ∃ x3, ((ldA m1 (C.ptr m.nxt 0) 2) = (some [(Il x2), (Il x3)])) ∧ 
 Q (V.agg 2 [(Il x2), (Il x3)]) m1)) : Wc prog tbl 48 [] m Q :=
 wc_eq (n := 0) rfl (by kernel_rfl) (by kernel_rfl) h
theorem w53 {a100 : Int} {a101 : Int} {a102 : Int} {a103 : Int} {a104 : Int} {a105 : Int} {a106 : Int} {a107 : Int} {a108 : Int} {a109 : Int} {a110 : Int} {a111 : C} {a200 : Int} {a201 : Int} {a202 : Int} {a203 : Int} {a300 : Int} {a400 : Int} {m : M} {Q : V → M → Prop} (h :
 (∀ m0 : M, (m0 = (M.new m (AO.cells 12 [(Il a100), (Il a101), (Il a102), 
 (Il a103), (Il a104), (Il a105), (Il a106), 
 (Il a107), (Il a108), (Il a109), (Il a110), 
 a111] false))) → ∀ m1 : M, (m1 = (M.new m0 (AO.cells 4 [(Il a200), (Il a201), 
 (Il a202), (Il a203)] false))) → ∃ x2, ∃ x3, ∃ x4, 
 ∃ x5, ∃ x6, ∃ x7, ∃ x8, ∃ x9, ∃ x10, ∃ x11, ∃ x12, 
 ∃ c13 : C, ((ldA m1 (C.ptr m.nxt 0) 12) = (some [(Il x2), (Il x3), 
 (Il x4), (Il x5), (Il x6), (Il x7), 
 (Il x8), (Il x9), (Il x10), (Il x11), 
 (Il x12), c13])) ∧ ∃ x14, ∃ x15, ∃ x16, ∃ x17, 
 ((ldA m1 (C.ptr m0.nxt 0) 4) = (some [(Il x14), (Il x15), 
 (Il x16), (Il x17)])) ∧ Wc prog tbl 82 [(V.agg 12 [(Il x2), 
 (Il x3), (Il x4), (Il x5), (Il x6), 
 (Il x7), (Il x8), (Il x9), (Il x10), 
 (Il x11), (Il x12), c13]), (V.agg 4 [(Il x14), 
 (Il x15), (Il x16), (Il x17)]), (V.c (Il a300)), 
 (V.c (Il a400))] m1 (fun v18 m19 => ∃ b20 : Bool, (v18 = (V.c (C.bool b20))) ∧ 
 ifB (!b20) (Q (V.c (Il 0)) m19) (isPt (C.ptr m0.nxt 0) ∧ 
 ∃ x21, ((ldC m19 (C.ptr m0.nxt 3)) = (some (Il x21))) ∧ 
 isPt (C.ptr m.nxt 0) ∧ ∃ x22, ((ldC m19 (C.ptr m.nxt 2)) = (some (Il x22))) ∧ 
 ∃ x23, ∃ x24, ∃ x25, ∃ x26, ∃ x27, ∃ x28, 
 ∃ x29, ∃ x30, ∃ x31, ∃ x32, ∃ x33, ∃ c34 : C, 
 ((ldA m19 (C.ptr m.nxt 0) 12) = (some [(Il x23), (Il x24), 
 (Il x25), (Il x26), (Il x27), (Il x28), 
 (Il x29), (Il x30), (Il x31), (Il x32), 
 (Il x33), c34])) ∧ ∃ x35, ∃ x36, ∃ x37, ∃ x38, 
 ((ldA m19 (C.ptr m0.nxt 0) 4) = (some [(Il x35), (Il x36), 
 (Il x37), (Il x38)])) ∧ Wc prog tbl 83 [(V.agg 12 [(Il x23), 
 (Il x24), (Il x25), (Il x26), (Il x27), 
 (Il x28), (Il x29), (Il x30), (Il x31), 
 (Il x32), (Il x33), c34]), (V.agg 4 [(Il x35), 
 (Il x36), (Il x37), (Il x38)]), 
 (V.c (Il a300)), (V.c (Il a400))] m19 (fun v39 m40 => 
 ∃ x41, (v39 = (V.c (Il x41))) ∧ ((ldC m40 (C.ptr m.nxt 2)) = (some (Il x22))) ∧ 
 ((ldC m40 (C.ptr m0.nxt 3)) = (some (Il x21))) ∧ isPt (C.ptr m.nxt 0) ∧ 
 ∃ x42, ((ldC m40 (C.ptr m.nxt 0)) = (some (Il x42))) ∧ 
 ((ldC m19 (C.ptr m.nxt 0)) = (some (Il x42))) ∧ fitsP .i64 (x42 - 1) ∧ 
 ((0 : Int) ≤ x41) ∧ ((0 : Int) < (x42 - 1)) ∧ fitsP .i64 (x41 / (x42 - 1)) ∧ 
 ((0 : Int) ≤ x22) ∧ ((0 : Int) ≤ (x41 / (x42 - 1))) ∧ fitsP .i64 (x22 * (x41 / (x42 - 1))) ∧ 
 fitsP .i64 (x21 - (x22 * (x41 / (x42 - 1)))) ∧ Q (V.c (Il (Max.max (1 : Int) (x21 - (x22 * (x41 / (x42 - 1))))))) m40))))) : Wc prog tbl 53 [(V.agg 12 [(Il a100), (Il a101), (Il a102), (Il a103), (Il a104), (Il a105), (Il a106), (Il a107), (Il a108), (Il a109), (Il a110), a111]), (V.agg 4 [(Il a200), (Il a201), (Il a202), (Il a203)]), (V.c (Il a300)), (V.c (Il a400))] m Q :=
 wc_eq (n := 4) rfl (by kernel_rfl) (by kernel_rfl) h
theorem w56 {a100 : Int} {m : M} {Q : V → M → Prop} (h :
 (∀ m0 : M, (m0 = (M.new m (AO.cells 6 [(C.bool false), (C.bool false), (C.bool false), (C.bool false), (C.bool false), 
 (C.bool false)] false))) → ∀ m1 : M, (m1 = (M.new m0 (AO.cells 6 [(C.bool false), (C.bool false), (C.bool false), 
 (C.bool false), (C.bool false), (C.bool false)] false))) → fitsP .i64 (a100 + 1) ∧ 
 ∀ R2 : List V → M → Prop, (∀ x3 : Int, ∀ m4 : M, (ifB (decide (x3 < (a100 + 1))) (isPt (C.ptr m0.nxt 0) ∧ 
 ∃ n5 : Nat, (x3 = ((n5 : Nat) : Int)) ∧ (n5 < 6) ∧ ∃ m6 : M, ((stC m4 (C.ptr m0.nxt (0 + (n5 * 1))) 1 [(C.bool true)]) = (some m6)) ∧ 
 fitsP .i64 (x3 + 1) ∧ R2 [(V.c (Il (x3 + 1)))] m6) (∃ b7 : Bool, 
 ∃ b8 : Bool, ∃ b9 : Bool, ∃ b10 : Bool, ∃ b11 : Bool, ∃ b12 : Bool, ((ldA m4 (C.ptr m0.nxt 0) 6) = (some [(C.bool b7), 
 (C.bool b8), (C.bool b9), (C.bool b10), (C.bool b11), (C.bool b12)])) ∧ ∃ m13 : M, ((stC m4 (C.ptr m.nxt 0) 6 [(C.bool b7), 
 (C.bool b8), (C.bool b9), (C.bool b10), (C.bool b11), (C.bool b12)]) = (some m13)) ∧ 
 ∃ b14 : Bool, ∃ b15 : Bool, ∃ b16 : Bool, ∃ b17 : Bool, ∃ b18 : Bool, ∃ b19 : Bool, 
 ((ldA m13 (C.ptr m.nxt 0) 6) = (some [(C.bool b14), (C.bool b15), (C.bool b16), 
 (C.bool b17), (C.bool b18), (C.bool b19)])) ∧ Q (V.agg 6 [(C.bool b14), (C.bool b15), 
 (C.bool b16), (C.bool b17), (C.bool b18), (C.bool b19)]) m13)) → 
 R2 [(V.c (Il x3))] m4) → R2 [(V.c (Il 0))] m1)) : Wc prog tbl 56 [(V.c (Il a100))] m Q :=
 wc_eq (n := 1) rfl (by kernel_rfl) (by kernel_rfl) h
theorem w63 {a100 : Int} {a101 : Int} {a102 : Int} {a103 : Int} {m : M} {Q : V → M → Prop} (h :
 (∀ m0 : M, (m0 = (M.new m (AO.cells 4 [(Il a100), (Il a101), (Il a102), 
 (Il a103)] false))) → Q (V.c (C.fn (Fn.func 88) [] [(W.c (C0.ptr m.nxt 0))])) m0)) : Wc prog tbl 63 [(V.agg 4 [(Il a100), (Il a101), (Il a102), (Il a103)])] m Q :=
 wc_eq (n := 1) rfl (by kernel_rfl) (by kernel_rfl) h
theorem w66 {a100 : Int} {a101 : Int} {a102 : Int} {a103 : Int} {a104 : Int} {a105 : Int} {a106 : Int} {a107 : Int} {a108 : Int} {a109 : Int} {a110 : Int} {a111 : C} {a112 : C} {m : M} {Q : V → M → Prop} (h :
 (∀ m0 : M, (m0 = (M.new m (AO.cells 13 [(Il a100), (Il a101), (Il a102), 
 (Il a103), (Il a104), (Il a105), (Il a106), 
 (Il a107), (Il a108), (Il a109), (Il a110), 
 a111, a112] false))) → Q (V.c (C.fn (Fn.func 92) [] [(W.c (C0.ptr m.nxt 0))])) m0)) : Wc prog tbl 66 [(V.agg 13 [(Il a100), (Il a101), (Il a102), (Il a103), (Il a104), (Il a105), (Il a106), (Il a107), (Il a108), (Il a109), (Il a110), a111, a112])] m Q :=
 wc_eq (n := 1) rfl (by kernel_rfl) (by kernel_rfl) h
theorem w69 {a100 : Int} {a101 : Int} {a200 : Int} {m : M} {Q : V → M → Prop} (h :
 (∀ m0 : M, (m0 = (M.new m (AO.cells 2 [(Il a100), (Il a101)] false))) → isPt (C.ptr m.nxt 0) ∧ 
 ∃ x1, ((ldC m0 (C.ptr m.nxt 0)) = (some (Il x1))) ∧ ifB (decide (x1 ≤ a200)) (isPt (C.ptr m.nxt 0) ∧ 
 ∃ x2, ((ldC m0 (C.ptr m.nxt 1)) = (some (Il x2))) ∧ Q (V.c (C.bool (decide (a200 ≤ x2)))) m0) (Q (V.c (C.bool false)) m0))) : Wc prog tbl 69 [(V.agg 2 [(Il a100), (Il a101)]), (V.c (Il a200))] m Q :=
 wc_eq (n := 2) rfl (by kernel_rfl) (by kernel_rfl) h
theorem w72 {a100 : C} {a200 : C} {m : M} {Q : V → M → Prop} (h :
 (∀ m0 : M, (m0 = (M.new m (AO.cells 1 [a200] false))) → Wc prog tbl 94 [(V.c a100), (V.c (C.fn (Fn.func 95) [] [(W.c (C0.ptr m.nxt 0))]))] m0 (fun v1 m2 => 
 ∃ b3 : Bool, (v1 = (V.c (C.bool b3))) ∧ Q (V.c (C.bool (!b3))) m2))) : Wc prog tbl 72 [(V.c a100), (V.c a200)] m Q :=
 wc_eq (n := 2) rfl (by kernel_rfl) (by kernel_rfl) h
theorem w76 {a100 : Int} {a101 : Int} {a102 : Int} {a103 : Int} {a104 : Int} {a105 : Int} {a106 : Int} {a107 : Int} {a108 : Int} {a109 : Int} {a110 : Int} {a111 : C} {a200 : Int} {a201 : Int} {a202 : Int} {a203 : Int} {a300 : Int} {a400 : Int} {m : M} {Q : V → M → Prop} (h :
 (∀ m0 : M, (m0 = (M.new m (AO.cells 12 [(Il a100), (Il a101), (Il a102), 
 (Il a103), (Il a104), (Il a105), (Il a106), 
 (Il a107), (Il a108), (Il a109), (Il a110), 
 a111] false))) → ∀ m1 : M, (m1 = (M.new m0 (AO.cells 4 [(Il a200), (Il a201), 
 (Il a202), (Il a203)] false))) → ∃ x2, ∃ x3, ∃ x4, 
 ∃ x5, ∃ x6, ∃ x7, ∃ x8, ∃ x9, ∃ x10, ∃ x11, ∃ x12, 
 ∃ c13 : C, ((ldA m1 (C.ptr m.nxt 0) 12) = (some [(Il x2), (Il x3), 
 (Il x4), (Il x5), (Il x6), (Il x7), 
 (Il x8), (Il x9), (Il x10), (Il x11), 
 (Il x12), c13])) ∧ ∃ x14, ∃ x15, ∃ x16, ∃ x17, 
 ((ldA m1 (C.ptr m0.nxt 0) 4) = (some [(Il x14), (Il x15), 
 (Il x16), (Il x17)])) ∧ Wc prog tbl 96 [(V.agg 12 [(Il x2), 
 (Il x3), (Il x4), (Il x5), (Il x6), 
 (Il x7), (Il x8), (Il x9), (Il x10), 
 (Il x11), (Il x12), c13]), (V.agg 4 [(Il x14), 
 (Il x15), (Il x16), (Il x17)]), (V.c (Il a300)), 
 (V.c (Il a400))] m1 (fun v18 m19 => ∃ x20, (v18 = (V.c (Il x20))) ∧ 
 isPt (C.ptr m.nxt 0) ∧ ∃ x21, ((ldC m19 (C.ptr m.nxt 0)) = (some (Il x21))) ∧ 
 ((ldC m1 (C.ptr m.nxt 0)) = (some (Il x21))) ∧ fitsP .i64 (x21 - 1) ∧ 
 isPt (C.ptr m0.nxt 0) ∧ ∃ x22, ((ldC m19 (C.ptr m0.nxt 2)) = (some (Il x22))) ∧ 
 ((ldC m1 (C.ptr m0.nxt 2)) = (some (Il x22))) ∧ ((0 : Int) ≤ (x21 - 1)) ∧ 
 ((0 : Int) ≤ x22) ∧ fitsP .i64 ((x21 - 1) * x22) ∧ Q (V.c (C.bool (decide (x20 ≤ ((x21 - 1) * x22))))) m19))) : Wc prog tbl 76 [(V.agg 12 [(Il a100), (Il a101), (Il a102), (Il a103), (Il a104), (Il a105), (Il a106), (Il a107), (Il a108), (Il a109), (Il a110), a111]), (V.agg 4 [(Il a200), (Il a201), (Il a202), (Il a203)]), (V.c (Il a300)), (V.c (Il a400))] m Q :=
 wc_eq (n := 4) rfl (by kernel_rfl) (by kernel_rfl) h
theorem w79 {a100 : Int} {a101 : Int} {a102 : Int} {a103 : Int} {a104 : Int} {a105 : Int} {a106 : Int} {a107 : Int} {a108 : Int} {a109 : Int} {a110 : Int} {a111 : C} {m : M} {Q : V → M → Prop} (h :
 (∀ m0 : M, (m0 = (M.new m (AO.cells 12 [(Il a100), (Il a101), (Il a102), 
 (Il a103), (Il a104), (Il a105), (Il a106), 
 (Il a107), (Il a108), (Il a109), (Il a110), 
 a111] false))) → isPt (C.ptr m.nxt 0) ∧ ∃ c1 : C, ((ldC m0 (C.ptr m.nxt 11)) = (some c1)) ∧ 
 isSl c1 ∧ ((0 : Int) ≤ (1 : Int)) ∧ ((0 : Int) ≤ (wrapZ .u64 (((slLen c1) : Nat) : Int))) ∧ 
 ((wrapZ .u64 (((slLen c1) : Nat) : Int)) ≤ (64 : Int)) ∧ fitsP .i64 ((1 : Int) * ((2 : Int) ^ (Int.toNat (wrapZ .u64 (((slLen c1) : Nat) : Int))))) ∧ 
 fitsP .i64 (((1 : Int) * ((2 : Int) ^ (Int.toNat (wrapZ .u64 (((slLen c1) : Nat) : Int))))) - (1 : Int)) ∧ 
 Q (V.c (Il (((1 : Int) * ((2 : Int) ^ (Int.toNat (wrapZ .u64 (((slLen c1) : Nat) : Int))))) - (1 : Int)))) m0)) : Wc prog tbl 79 [(V.agg 12 [(Il a100), (Il a101), (Il a102), (Il a103), (Il a104), (Il a105), (Il a106), (Il a107), (Il a108), (Il a109), (Il a110), a111])] m Q :=
 wc_eq (n := 1) rfl (by kernel_rfl) (by kernel_rfl) h
theorem w82 {a100 : Int} {a101 : Int} {a102 : Int} {a103 : Int} {a104 : Int} {a105 : Int} {a106 : Int} {a107 : Int} {a108 : Int} {a109 : Int} {a110 : Int} {a111 : C} {a200 : Int} {a201 : Int} {a202 : Int} {a203 : Int} {a300 : Int} {a400 : Int} {m : M} {Q : V → M → Prop} (h :
 (∀ m0 : M, (m0 = (M.new m (AO.cells 12 [(Il a100), (Il a101), (Il a102), 
 (Il a103), (Il a104), (Il a105), (Il a106), 
 (Il a107), (Il a108), (Il a109), (Il a110), 
 a111] false))) → ∀ m1 : M, (m1 = (M.new m0 (AO.cells 4 [(Il a200), (Il a201), 
 (Il a202), (Il a203)] false))) → ∃ x2, ∃ x3, ∃ x4, 
 ∃ x5, ∃ x6, ∃ x7, ∃ x8, ∃ x9, ∃ x10, ∃ x11, ∃ x12, 
 ∃ c13 : C, ((ldA m1 (C.ptr m.nxt 0) 12) = (some [(Il x2), (Il x3), 
 (Il x4), (Il x5), (Il x6), (Il x7), 
 (Il x8), (Il x9), (Il x10), (Il x11), 
 (Il x12), c13])) ∧ ∃ x14, ∃ x15, ∃ x16, ∃ x17, 
 ((ldA m1 (C.ptr m0.nxt 0) 4) = (some [(Il x14), (Il x15), 
 (Il x16), (Il x17)])) ∧ Wc prog tbl 83 [(V.agg 12 [(Il x2), 
 (Il x3), (Il x4), (Il x5), (Il x6), 
 (Il x7), (Il x8), (Il x9), (Il x10), 
 (Il x11), (Il x12), c13]), (V.agg 4 [(Il x14), 
 (Il x15), (Il x16), (Il x17)]), (V.c (Il a300)), 
 (V.c (Il a400))] m1 (fun v18 m19 => ∃ x20, (v18 = (V.c (Il x20))) ∧ 
 isPt (C.ptr m.nxt 0) ∧ ∃ x21, ((ldC m19 (C.ptr m.nxt 0)) = (some (Il x21))) ∧ 
 ((ldC m1 (C.ptr m.nxt 0)) = (some (Il x21))) ∧ fitsP .i64 (x21 - 1) ∧ 
 isPt (C.ptr m0.nxt 0) ∧ ∃ x22, ((ldC m19 (C.ptr m0.nxt 2)) = (some (Il x22))) ∧ 
 ((ldC m1 (C.ptr m0.nxt 2)) = (some (Il x22))) ∧ ((0 : Int) ≤ (x21 - 1)) ∧ 
 ((0 : Int) ≤ x22) ∧ fitsP .i64 ((x21 - 1) * x22) ∧ Q (V.c (C.bool (decide (x20 ≤ ((x21 - 1) * x22))))) m19))) : Wc prog tbl 82 [(V.agg 12 [(Il a100), (Il a101), (Il a102), (Il a103), (Il a104), (Il a105), (Il a106), (Il a107), (Il a108), (Il a109), (Il a110), a111]), (V.agg 4 [(Il a200), (Il a201), (Il a202), (Il a203)]), (V.c (Il a300)), (V.c (Il a400))] m Q :=
 wc_eq (n := 4) rfl (by kernel_rfl) (by kernel_rfl) h
theorem w85 {a100 : Bool} {a101 : Bool} {a102 : Bool} {a103 : Bool} {a104 : Bool} {a105 : Bool} {a200 : Bool} {a201 : Bool} {a202 : Bool} {a203 : Bool} {a204 : Bool} {a205 : Bool} {m : M} {Q : V → M → Prop} (h :
 (∀ m0 : M, (m0 = (M.new m (AO.cells 6 [(C.bool a100), (C.bool a101), (C.bool a102), (C.bool a103), (C.bool a104), 
 (C.bool a105)] false))) → ∀ m1 : M, (m1 = (M.new m0 (AO.cells 6 [(C.bool a200), (C.bool a201), (C.bool a202), 
 (C.bool a203), (C.bool a204), (C.bool a205)] false))) → ∀ m2 : M, (m2 = (M.new m1 (AO.cells 6 [(C.bool false), 
 (C.bool false), (C.bool false), (C.bool false), (C.bool false), (C.bool false)] false))) → ∀ R3 : List V → 
 M → Prop, (∀ x4 : Int, ∀ m5 : M, (ifB (decide (x4 < 6)) (isPt (C.ptr m0.nxt 0) ∧ ∃ n6 : Nat, 
 (x4 = ((n6 : Nat) : Int)) ∧ (n6 < 6) ∧ ∃ b7 : Bool, ((ldC m5 (C.ptr m0.nxt (0 + (n6 * 1)))) = (some (C.bool b7))) ∧ 
 ifB b7 (isPt (C.ptr m.nxt 0) ∧ ∃ n8 : Nat, (x4 = ((n8 : Nat) : Int)) ∧ (n8 < 6) ∧ ∃ b9 : Bool, 
 ((ldC m5 (C.ptr m.nxt (0 + (n8 * 1)))) = (some (C.bool b9))) ∧ isPt (C.ptr m0.nxt 0) ∧ 
 ∃ n10 : Nat, (x4 = ((n10 : Nat) : Int)) ∧ (n10 < 6) ∧ ∃ m11 : M, ((stC m5 (C.ptr m0.nxt (0 + (n10 * 1))) 1 [(C.bool b9)]) = (some m11)) ∧ 
 fitsP .i64 (x4 + 1) ∧ R3 [(V.c (Il (x4 + 1)))] m11) (isPt (C.ptr m0.nxt 0) ∧ 
 ∃ n12 : Nat, (x4 = ((n12 : Nat) : Int)) ∧ (n12 < 6) ∧ ∃ m13 : M, ((stC m5 (C.ptr m0.nxt (0 + (n12 * 1))) 1 [(C.bool false)]) = (some m13)) ∧ 
 fitsP .i64 (x4 + 1) ∧ R3 [(V.c (Il (x4 + 1)))] m13)) (∃ b14 : Bool, 
 ∃ b15 : Bool, ∃ b16 : Bool, ∃ b17 : Bool, ∃ b18 : Bool, ∃ b19 : Bool, ((ldA m5 (C.ptr m0.nxt 0) 6) = (some [(C.bool b14), 
 (C.bool b15), (C.bool b16), (C.bool b17), (C.bool b18), (C.bool b19)])) ∧ ∃ m20 : M, 
 ((stC m5 (C.ptr m1.nxt 0) 6 [(C.bool b14), (C.bool b15), (C.bool b16), (C.bool b17), 
 (C.bool b18), (C.bool b19)]) = (some m20)) ∧ ∃ b21 : Bool, ∃ b22 : Bool, ∃ b23 : Bool, 
 ∃ b24 : Bool, ∃ b25 : Bool, ∃ b26 : Bool, ((ldA m20 (C.ptr m1.nxt 0) 6) = (some [(C.bool b21), 
 (C.bool b22), (C.bool b23), (C.bool b24), (C.bool b25), (C.bool b26)])) ∧ Q (V.agg 6 [(C.bool b21), 
 (C.bool b22), (C.bool b23), (C.bool b24), (C.bool b25), (C.bool b26)]) m20)) → 
 R3 [(V.c (Il x4))] m5) → R3 [(V.c (Il 0))] m2)) : Wc prog tbl 85 [(V.agg 6 [(C.bool a100), (C.bool a101), (C.bool a102), (C.bool a103), (C.bool a104), (C.bool a105)]), (V.agg 6 [(C.bool a200), (C.bool a201), (C.bool a202), (C.bool a203), (C.bool a204), (C.bool a205)])] m Q :=
 wc_eq (n := 2) rfl (by kernel_rfl) (by kernel_rfl) h
theorem w93 {a100 : Int} {a101 : Int} {a102 : Int} {a103 : Int} {a104 : Bool} {a105 : Int} {a106 : Int} {m : M} {Q : V → M → Prop} (h :
 (∀ m0 : M, (m0 = (M.new m (AO.cells 7 [(Il a100), (Il a101), (Il a102), 
 (Il a103), (C.bool a104), (Il a105), (Il a106)] false))) → 
 ∀ m1 : M, (m1 = (M.new m0 (AO.cells 4 [(Il 0), (Il 0), (Il 0), 
 (Il 0)] false))) → isPt (C.ptr m.nxt 0) ∧ ∃ x2, ∃ x3, ((ldA m1 (C.ptr m.nxt 0) 2) = (some [(Il x2), 
 (Il x3)])) ∧ isPt (C.ptr m.nxt 0) ∧ ∃ x4, ∃ x5, ((ldA m1 (C.ptr m.nxt 2) 2) = (some [(Il x4), 
 (Il x5)])) ∧ ∃ m6 : M, ((stC m1 (C.ptr m0.nxt 0) 4 [(Il x2), 
 (Il x3), (Il x4), (Il x5)]) = (some m6)) ∧ 
 ∃ x7, ∃ x8, ∃ x9, ∃ x10, ((ldA m6 (C.ptr m0.nxt 0) 4) = (some [(Il x7), 
 (Il x8), (Il x9), (Il x10)])) ∧ Q (V.agg 4 [(Il x7), 
 (Il x8), (Il x9), (Il x10)]) m6)) : Wc prog tbl 93 [(V.agg 7 [(Il a100), (Il a101), (Il a102), (Il a103), (C.bool a104), (Il a105), (Il a106)])] m Q :=
 wc_eq (n := 1) rfl (by kernel_rfl) (by kernel_rfl) h
theorem w101 {a100 : C} {a200 : C} {m : M} {Q : V → M → Prop} (h :
 (isSl a100 ∧ ∀ R0 : List V → M → Prop, (∀ x1 : Int, ∀ x2 : Int, ∀ m3 : M, (ifB (decide (x2 < (((slLen a100) : Nat) : Int))) (∃ n4 : Nat, 
 (x2 = ((n4 : Nat) : Int)) ∧ (n4 < (slLen a100)) ∧ ∃ x5, ∃ x6, ∃ x7, ∃ x8, 
 ((ldA m3 (slAt a100 (n4 * 4)) 4) = (some [(Il x5), (Il x6), 
 (Il x7), (Il x8)])) ∧ callP prog tbl [(V.agg 4 [(Il x5), 
 (Il x6), (Il x7), (Il x8)])] a200 m3 (fun v9 m10 => 
 ∃ b11 : Bool, (v9 = (V.c (C.bool b11))) ∧ ifB b11 (Q (V.c (Il x2)) m10) (fitsP .i64 (x2 + 1) ∧ 
 R0 [(V.c (Il x1)), (V.c (Il (x2 + 1)))] m10))) (Q (V.c (Il (-1 : Int))) m3)) → 
 R0 [(V.c (Il x1)), (V.c (Il x2))] m3) → R0 [(V.c (Il 0)), 
 (V.c (Il 0))] m)) : Wc prog tbl 101 [(V.c a100), (V.c a200)] m Q :=
 wc_eq (n := 2) rfl (by kernel_rfl) (by kernel_rfl) h
end
end Go.Proofs.YtbnfnhfanooplaaGreat

