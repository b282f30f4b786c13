/- An evaluator of the code of a program, its soundness, what calls ask, memory, and what functions of the program do. Condition: none; a lemma text of this claim. -/
import Derived.Test.YtbnfnhfanooplaaSuF

namespace Go.Proofs.Ytbnfnhfanooplaa
theorem obs {α β : Type} {a : α} {f : α → Option β} : (some a).bind f = f a := rfl
theorem gdi {α : Type} {p A : Prop} {o : Option α} {r : α} (hp : Go.Abs.gd p o = some r) (h : p → o = some r → A) : p ∧ A := have ⟨a, b⟩ := Go.Abs.gd_some hp; ⟨a, h a b⟩
end Go.Proofs.Ytbnfnhfanooplaa

namespace Go.Proofs.Ytbnfnhfanooplaa
open _root_.Go.Proofs.Try
open Go.Abs
set_option maxRecDepth 100000
noncomputable section
structure W16 where
 v : Int
def ok_W16 (a : W16) : Prop := (fitsP .u16 a.v)
instance : MK W16 := ⟨fun k => .agg 1 [.int .u16 k.v], fun k => fitsP .u16 k.v ∧ True⟩
instance : MV W16 := ⟨fun k => .agg 1 [.int .u16 k.v]⟩
instance : Rp W16 := ⟨1, by omega, fun _ cs a => cs = [.int .u16 a.v], fun h => by rw [h]; rfl, fun h _ => h⟩
theorem rdW16 {f : M} {x : C} {l : List W16} (h : Sl f x l) {n : Nat} {a : W16} (hi : l[n]? = some a) {m : M} (s : Sub f m) : ldC m (slAt x (n * 1)) = some (.int .u16 a.v) := by
 obtain ⟨c, h1, h2⟩ := h.rd1 rfl hi
 have h2 : [c] = [.int .u16 a.v] := h2
 cases h2; exact h1 m s
structure Rg where
 Lo : Int
 Hi : Int
def ok_Rg (a : Rg) : Prop := (fitsP .i64 a.Lo) ∧ (fitsP .i64 a.Hi)
instance : MK Rg := ⟨fun k => .agg 2 [.int .i64 k.Lo, .int .i64 k.Hi], fun k => fitsP .i64 k.Lo ∧ fitsP .i64 k.Hi ∧ True⟩
instance : MV Rg := ⟨fun k => .agg 2 [.int .i64 k.Lo, .int .i64 k.Hi]⟩
instance : Rp Rg := ⟨2, by omega, fun _ cs a => cs = [.int .i64 a.Lo, .int .i64 a.Hi], fun h => by rw [h]; rfl, fun h _ => h⟩
structure Crd where
 X : Rg
 Y : Rg
 Hail : Bool
 Size : Rg
def ok_Crd (a : Crd) : Prop := (ok_Rg a.X) ∧ (ok_Rg a.Y) ∧ (True) ∧ (ok_Rg a.Size)
instance : MK Crd := ⟨fun k => .agg 7 [.int .i64 k.X.Lo, .int .i64 k.X.Hi, .int .i64 k.Y.Lo, .int .i64 k.Y.Hi, .bool k.Hail, .int .i64 k.Size.Lo, .int .i64 k.Size.Hi], fun k => fitsP .i64 k.X.Lo ∧ fitsP .i64 k.X.Hi ∧ fitsP .i64 k.Y.Lo ∧ fitsP .i64 k.Y.Hi ∧ fitsP .i64 k.Size.Lo ∧ fitsP .i64 k.Size.Hi ∧ True⟩
instance : MV Crd := ⟨fun k => .agg 7 [.int .i64 k.X.Lo, .int .i64 k.X.Hi, .int .i64 k.Y.Lo, .int .i64 k.Y.Hi, .bool k.Hail, .int .i64 k.Size.Lo, .int .i64 k.Size.Hi]⟩
instance : Rp Crd := ⟨7, by omega, fun _ cs a => cs = [.int .i64 a.X.Lo, .int .i64 a.X.Hi, .int .i64 a.Y.Lo, .int .i64 a.Y.Hi, .bool a.Hail, .int .i64 a.Size.Lo, .int .i64 a.Size.Hi], fun h => by rw [h]; rfl, fun h _ => h⟩
theorem rd_Crd {f : M} {x : C} {l : List Crd} (h : Sl f x l) {n : Nat} {a : Crd} (hi : l[n]? = some a) : ∃ _u : Unit, (∀ m, Sub f m → ldA m (slAt x (n * 7)) 7 = some [.int .i64 a.X.Lo, .int .i64 a.X.Hi, .int .i64 a.Y.Lo, .int .i64 a.Y.Hi, .bool a.Hail, .int .i64 a.Size.Lo, .int .i64 a.Size.Hi] ∧ (∀ j c, ([.int .i64 a.X.Lo, .int .i64 a.X.Hi, .int .i64 a.Y.Lo, .int .i64 a.Y.Hi, .bool a.Hail, .int .i64 a.Size.Lo, .int .i64 a.Size.Hi] : List C)[j]? = some c → ldC m (ptAdd (slAt x (n * 7)) j) = some c) ∧ ∀ j i, 0 < i → j + i ≤ 7 → ldA m (ptAdd (slAt x (n * 7)) j) i = some ((([.int .i64 a.X.Lo, .int .i64 a.X.Hi, .int .i64 a.Y.Lo, .int .i64 a.Y.Hi, .bool a.Hail, .int .i64 a.Size.Lo, .int .i64 a.Size.Hi] : List C).drop j).take i)) := by
 obtain ⟨cs, q1, q2⟩ := h.rdP hi
 have q2 : cs = _ := q2
 subst q2
 exact ⟨(), q1⟩
structure Stm where
 Wide : Int
 High : Int
 Fall : Int
 A : Rg
 B : Rg
 Half : Rg
 Peak : Rg
 Cards : List Crd
def ok_Stm (a : Stm) : Prop := (fitsP .i64 a.Wide) ∧ (fitsP .i64 a.High) ∧ (fitsP .i64 a.Fall) ∧ (ok_Rg a.A) ∧ (ok_Rg a.B) ∧ (ok_Rg a.Half) ∧ (ok_Rg a.Peak) ∧ (a.Cards.length ≤ maxLen ∧ ∀ a0 ∈ a.Cards, ok_Crd a0)
instance : Rp Stm := ⟨12, by omega, fun f cs a => ∃ c11 : C, cs = [.int .i64 a.Wide, .int .i64 a.High, .int .i64 a.Fall, .int .i64 a.A.Lo, .int .i64 a.A.Hi, .int .i64 a.B.Lo, .int .i64 a.B.Hi, .int .i64 a.Half.Lo, .int .i64 a.Half.Hi, .int .i64 a.Peak.Lo, .int .i64 a.Peak.Hi, c11] ∧ Sl f c11 a.Cards, fun h => by obtain ⟨c11, h, _⟩ := h; rw [h]; rfl, fun h s => by obtain ⟨c11, h, h0⟩ := h; exact ⟨c11, h, h0.subv s⟩⟩
structure Trh where
 A : Int
 B : Int
 Half : Int
 Peak : Int
instance : MK Trh := ⟨fun k => .agg 4 [.int .i64 k.A, .int .i64 k.B, .int .i64 k.Half, .int .i64 k.Peak], fun k => fitsP .i64 k.A ∧ fitsP .i64 k.B ∧ fitsP .i64 k.Half ∧ fitsP .i64 k.Peak ∧ True⟩
instance : MV Trh := ⟨fun k => .agg 4 [.int .i64 k.A, .int .i64 k.B, .int .i64 k.Half, .int .i64 k.Peak]⟩
instance : Rp Trh := ⟨4, by omega, fun _ cs a => cs = [.int .i64 a.A, .int .i64 a.B, .int .i64 a.Half, .int .i64 a.Peak], fun h => by rw [h]; rfl, fun h _ => h⟩
structure Rct where
 X : Rg
 Y : Rg
instance : MK Rct := ⟨fun k => .agg 4 [.int .i64 k.X.Lo, .int .i64 k.X.Hi, .int .i64 k.Y.Lo, .int .i64 k.Y.Hi], fun k => fitsP .i64 k.X.Lo ∧ fitsP .i64 k.X.Hi ∧ fitsP .i64 k.Y.Lo ∧ fitsP .i64 k.Y.Hi ∧ True⟩
instance : MV Rct := ⟨fun k => .agg 4 [.int .i64 k.X.Lo, .int .i64 k.X.Hi, .int .i64 k.Y.Lo, .int .i64 k.Y.Hi]⟩
instance : Rp Rct := ⟨4, by omega, fun _ cs a => cs = [.int .i64 a.X.Lo, .int .i64 a.X.Hi, .int .i64 a.Y.Lo, .int .i64 a.Y.Hi], fun h => by rw [h]; rfl, fun h _ => h⟩
theorem rd_Rct {f : M} {x : C} {l : List Rct} (h : Sl f x l) {n : Nat} {a : Rct} (hi : l[n]? = some a) : ∃ _u : Unit, (∀ m, Sub f m → ldA m (slAt x (n * 4)) 4 = some [.int .i64 a.X.Lo, .int .i64 a.X.Hi, .int .i64 a.Y.Lo, .int .i64 a.Y.Hi] ∧ (∀ j c, ([.int .i64 a.X.Lo, .int .i64 a.X.Hi, .int .i64 a.Y.Lo, .int .i64 a.Y.Hi] : List C)[j]? = some c → ldC m (ptAdd (slAt x (n * 4)) j) = some c) ∧ ∀ j i, 0 < i → j + i ≤ 4 → ldA m (ptAdd (slAt x (n * 4)) j) i = some ((([.int .i64 a.X.Lo, .int .i64 a.X.Hi, .int .i64 a.Y.Lo, .int .i64 a.Y.Hi] : List C).drop j).take i)) := by
 obtain ⟨cs, q1, q2⟩ := h.rdP hi
 have q2 : cs = _ := q2
 subst q2
 exact ⟨(), q1⟩
structure Cds where
 c0 : Bool
 c1 : Bool
 c2 : Bool
 c3 : Bool
 c4 : Bool
 c5 : Bool
instance : MK Cds := ⟨fun k => .agg 6 [.bool k.c0, .bool k.c1, .bool k.c2, .bool k.c3, .bool k.c4, .bool k.c5], fun _ => True⟩
instance : MV Cds := ⟨fun k => .agg 6 [.bool k.c0, .bool k.c1, .bool k.c2, .bool k.c3, .bool k.c4, .bool k.c5]⟩
instance : Rp Cds := ⟨6, by omega, fun _ cs a => cs = [.bool a.c0, .bool a.c1, .bool a.c2, .bool a.c3, .bool a.c4, .bool a.c5], fun h => by rw [h]; rfl, fun h _ => h⟩
structure Wk where
 s : Stm
 right : Option (Trh → Option (Cds))
structure Qst where
 must : Wk → List Int → Option (Bool)
def pawake : Option Bool := some true
def prIn (n : Int) (low : Int) (high : Int) : Option (Bool) := (if low ≤ n then (some (decide (n ≤ high))) else (some false))
def prWithin (r : Rg) (low : Int) (high : Int) : Option (Bool) := (if low ≤ r.Lo then (if r.Lo ≤ r.Hi then (some (decide (r.Hi ≤ high))) else (some false)) else (some false))
def prCount (r : Rg) : Option (Int) := (gd (fitsP .i64 (r.Hi - r.Lo)) (gd (fitsP .i64 ((r.Hi - r.Lo) + (1 : Int))) (some ((r.Hi - r.Lo) + (1 : Int)))))
def prIsRect (s : Stm) (r : Rct) : Option (Bool) := (gd (fitsP .i64 (s.Wide - (1 : Int))) ((prWithin r.X (0 : Int) (s.Wide - (1 : Int))).bind fun r329 => (if r329 = true then (gd (fitsP .i64 (s.High - (1 : Int))) ((prWithin r.Y (0 : Int) (s.High - (1 : Int))).bind fun r338 => (some r338))) else (some false))))
def prIsCard (s : Stm) (c : Crd) : Option (Bool) := ((prIsRect s ({ X := c.X, Y := c.Y } : Rct)).bind fun r356 => (if r356 = true then ((prWithin c.Size (0 : Int) (9 : Int)).bind fun r364 => (if r364 = true then (if c.Hail = true then (some true) else (gd (fitsP .i64 c.Size.Lo) (gd (fitsP .i64 (0 : Int)) (gd (fitsP .i64 c.Size.Hi) (gd (fitsP .i64 (0 : Int)) (some ((decide (c.Size.Lo = (0 : Int))) && (decide (c.Size.Hi = (0 : Int)))))))))) else (some false))) else (some false)))
def prMany (s : Stm) : Option (Int) := ((prCount s.A).bind fun r382 => ((prCount s.B).bind fun r388 => (gd ((0 : Int) ≤ r382) (gd ((0 : Int) ≤ r388) (gd (fitsP .i64 (r382 * r388)) ((prCount s.Half).bind fun r397 => (gd ((0 : Int) ≤ (r382 * r388)) (gd ((0 : Int) ≤ r397) (gd (fitsP .i64 ((r382 * r388) * r397)) ((prCount s.Peak).bind fun r406 => (gd ((0 : Int) ≤ ((r382 * r388) * r397)) (gd ((0 : Int) ≤ r406) (gd (fitsP .i64 (((r382 * r388) * r397) * r406)) (some (((r382 * r388) * r397) * r406)))))))))))))))
def prFault_L0 (s : Stm) : Nat → Int → Option (Int)
 | 0, _ => none
 | d464 + 1, x34 => (if x34 < (s.Cards.length : Int) then ((idx s.Cards x34).bind fun v466 => ((prIsCard s v466).bind fun r469 => (if r469 = true then (gd (fitsP .i64 (x34 + 1)) (prFault_L0 s d464 (x34 + 1))) else (some (1 : Int))))) else ((prMany s).bind fun r477 => (if (2000 : Int) < r477 then (some (3 : Int)) else (some (0 : Int)))))
def prFault (s : Stm) : Option (Int) := (if (12 : Int) < s.Wide then (some (3 : Int)) else (if (12 : Int) < s.High then (some (3 : Int)) else (if (6 : Int) < (s.Cards.length : Int) then (some (3 : Int)) else (if s.Wide < (2 : Int) then (some (1 : Int)) else (if s.High < (1 : Int) then (some (1 : Int)) else ((prIn s.Fall (0 : Int) (4 : Int)).bind fun r425 => (if r425 = true then (gd (fitsP .i64 (s.High - (1 : Int))) ((prWithin s.A (0 : Int) (s.High - (1 : Int))).bind fun r433 => (if r433 = true then (gd (fitsP .i64 (s.High - (1 : Int))) ((prWithin s.B (0 : Int) (s.High - (1 : Int))).bind fun r441 => (if r441 = true then ((prWithin s.Half (0 : Int) (3 : Int)).bind fun r448 => (if r448 = true then ((prWithin s.Peak (1 : Int) (9 : Int)).bind fun r455 => (if r455 = true then (prFault_L0 s 1000000 (0 : Int)) else (some (1 : Int)))) else (some (1 : Int)))) else (some (1 : Int))))) else (some (1 : Int))))) else (some (1 : Int)))))))))
def prNth (s : Stm) (n : Int) : Option (Trh) := ((prCount s.A).bind fun r502 => (gd ((0 : Int) ≤ n) (gd ((0 : Int) < r502) (gd (fitsP .i64 (n % r502)) (gd (fitsP .i64 (s.A.Lo + (n % r502))) ((prCount s.A).bind fun r514 => (gd ((0 : Int) ≤ n) (gd ((0 : Int) < r514) (gd (fitsP .i64 (n / r514)) ((prCount s.B).bind fun r532 => (gd ((0 : Int) ≤ (n / r514)) (gd ((0 : Int) < r532) (gd (fitsP .i64 ((n / r514) % r532)) (gd (fitsP .i64 (s.B.Lo + ((n / r514) % r532))) ((prCount s.B).bind fun r544 => (gd ((0 : Int) ≤ (n / r514)) (gd ((0 : Int) < r544) (gd (fitsP .i64 ((n / r514) / r544)) ((prCount s.Half).bind fun r562 => (gd ((0 : Int) ≤ ((n / r514) / r544)) (gd ((0 : Int) < r562) (gd (fitsP .i64 (((n / r514) / r544) % r562)) (gd (fitsP .i64 (s.Half.Lo + (((n / r514) / r544) % r562))) ((prCount s.Half).bind fun r574 => (gd ((0 : Int) ≤ ((n / r514) / r544)) (gd ((0 : Int) < r574) (gd (fitsP .i64 (((n / r514) / r544) / r574)) (gd (fitsP .i64 (s.Peak.Lo + (((n / r514) / r544) / r574))) (some ({ A := (s.A.Lo + (n % r502)), B := (s.B.Lo + ((n / r514) % r532)), Half := (s.Half.Lo + (((n / r514) / r544) % r562)), Peak := (s.Peak.Lo + (((n / r514) / r544) / r574)) } : Trh))))))))))))))))))))))))))))))
def prDistance (s : Stm) (t : Trh) (x : Int) (y : Int) : Option (Int) := (gd (fitsP .i64 (s.Wide - (1 : Int))) (gd ((0 : Int) ≤ (s.Wide - (1 : Int))) (gd ((0 : Int) ≤ y) (gd (fitsP .i64 ((s.Wide - (1 : Int)) * y)) (gd (fitsP .i64 ((s.Wide - (1 : Int)) - x)) (gd ((0 : Int) ≤ t.A) (gd ((0 : Int) ≤ ((s.Wide - (1 : Int)) - x)) (gd (fitsP .i64 (t.A * ((s.Wide - (1 : Int)) - x))) (gd (fitsP .i64 (((s.Wide - (1 : Int)) * y) - (t.A * ((s.Wide - (1 : Int)) - x)))) (gd ((0 : Int) ≤ t.B) (gd ((0 : Int) ≤ x) (gd (fitsP .i64 (t.B * x)) (gd (fitsP .i64 ((((s.Wide - (1 : Int)) * y) - (t.A * ((s.Wide - (1 : Int)) - x))) - (t.B * x))) (if ((((s.Wide - (1 : Int)) * y) - (t.A * ((s.Wide - (1 : Int)) - x))) - (t.B * x)) < (0 : Int) then (gd (fitsP .i64 ((0 : Int) - ((((s.Wide - (1 : Int)) * y) - (t.A * ((s.Wide - (1 : Int)) - x))) - (t.B * x)))) (some ((0 : Int) - ((((s.Wide - (1 : Int)) * y) - (t.A * ((s.Wide - (1 : Int)) - x))) - (t.B * x))))) else (some ((((s.Wide - (1 : Int)) * y) - (t.A * ((s.Wide - (1 : Int)) - x))) - (t.B * x)))))))))))))))))
def prHit (s : Stm) (t : Trh) (x : Int) (y : Int) : Option (Bool) := ((prDistance s t x y).bind fun r644 => (gd (fitsP .i64 (s.Wide - (1 : Int))) (gd ((0 : Int) ≤ (s.Wide - (1 : Int))) (gd ((0 : Int) ≤ t.Half) (gd (fitsP .i64 ((s.Wide - (1 : Int)) * t.Half)) (some (decide (r644 ≤ ((s.Wide - (1 : Int)) * t.Half)))))))))
def prSize (s : Stm) (t : Trh) (x : Int) (y : Int) : Option (Int) := ((prHit s t x y).bind fun r666 => (if r666 = true then ((prDistance s t x y).bind fun r674 => (gd (fitsP .i64 (s.Wide - (1 : Int))) (gd ((0 : Int) ≤ r674) (gd ((0 : Int) < (s.Wide - (1 : Int))) (gd (fitsP .i64 (r674 / (s.Wide - (1 : Int)))) (gd ((0 : Int) ≤ s.Fall) (gd ((0 : Int) ≤ (r674 / (s.Wide - (1 : Int)))) (gd (fitsP .i64 (s.Fall * (r674 / (s.Wide - (1 : Int))))) (gd (fitsP .i64 (t.Peak - (s.Fall * (r674 / (s.Wide - (1 : Int)))))) (some (max (1 : Int) (t.Peak - (s.Fall * (r674 / (s.Wide - (1 : Int)))))))))))))))) else (some (0 : Int))))
def prRight_L1 (s : Stm) (t : Trh) (c : Crd) (x7 : Int) (K_R4 : Bool → Int → Option (Bool)) : Nat → Bool → Int → Option (Bool)
 | 0, _, _ => none
 | d713 + 1, b12, x14 => (if x14 ≤ c.Y.Hi then (if c.Hail = true then ((prHit s t x7 x14).bind fun r716 => (if r716 = true then ((prSize s t x7 x14).bind fun r725 => ((prIn r725 c.Size.Lo c.Size.Hi).bind fun r733 => (if r733 = true then (some true) else (gd (fitsP .i64 (x14 + 1)) (prRight_L1 s t c x7 K_R4 d713 b12 (x14 + 1)))))) else (gd (fitsP .i64 (x14 + 1)) (prRight_L1 s t c x7 K_R4 d713 b12 (x14 + 1))))) else ((prHit s t x7 x14).bind fun r744 => (if r744 = true then (gd (fitsP .i64 (x14 + 1)) (prRight_L1 s t c x7 K_R4 d713 b12 (x14 + 1))) else (some true)))) else (gd (fitsP .i64 (x7 + 1)) (K_R4 b12 (x7 + 1))))
def prRight_L0 (s : Stm) (t : Trh) (c : Crd) : Nat → Bool → Int → Option (Bool)
 | 0, _, _ => none
 | d709 + 1, b5, x7 => (if x7 ≤ c.X.Hi then (prRight_L1 s t c x7 (prRight_L0 s t c d709) 1000000 b5 c.Y.Lo) else (some false))
def prRight (s : Stm) (t : Trh) (c : Crd) : Option (Bool) := (prRight_L0 s t c 1000000 false c.X.Lo)
def prAll_L1 (s : Stm) (l762 : List Int) (x3 : Int) (K_R1 : (List Int) → Int → Option (List Int)) : Nat → Int → Int → Option (List Int)
 | 0, _, _ => none
 | d774 + 1, x21, x22 => (if x22 < (s.Cards.length : Int) then ((prNth s x3).bind fun r776 => ((idx s.Cards x22).bind fun v782 => ((prRight s r776 v782).bind fun r785 => (if r785 = true then (gd ((0 : Int) ≤ (1 : Int)) (gd ((0 : Int) ≤ (wrapZ .u64 x22)) (gd ((wrapZ .u64 x22) ≤ (64 : Int)) (gd (fitsP .i64 ((1 : Int) * ((2 : Int) ^ (Int.toNat (wrapZ .u64 x22))))) (gd ((0 : Int) ≤ x21) (gd ((0 : Int) ≤ ((1 : Int) * ((2 : Int) ^ (Int.toNat (wrapZ .u64 x22))))) (gd (fitsP .i64 x21) (gd (fitsP .i64 ((1 : Int) * ((2 : Int) ^ (Int.toNat (wrapZ .u64 x22))))) (gd (fitsP .i64 (((Nat.lor (Int.toNat x21) (Int.toNat ((1 : Int) * ((2 : Int) ^ (Int.toNat (wrapZ .u64 x22)))))) : Nat) : Int)) (gd (fitsP .i64 (x22 + 1)) (prAll_L1 s l762 x3 K_R1 d774 (((Nat.lor (Int.toNat x21) (Int.toNat ((1 : Int) * ((2 : Int) ^ (Int.toNat (wrapZ .u64 x22)))))) : Nat) : Int) (x22 + 1)))))))))))) else (gd (fitsP .i64 (x22 + 1)) (prAll_L1 s l762 x3 K_R1 d774 x21 (x22 + 1))))))) else (gd (l762.length < 1048576) (gd (fitsP .i64 (x3 + 1)) (K_R1 (l762 ++ [x21]) (x3 + 1)))))
def prPlaces_L1 (s : Stm) (t : Trh) (r : Rct) (x7 : Int) (K_R4 : Bool → Bool → Int → Option (Bool × Bool)) : Nat → Bool → Bool → Int → Option (Bool × Bool)
 | 0, _, _, _ => none
 | d1004 + 1, b12, b13, x14 => (if x14 ≤ r.Y.Hi then ((prHit s t x7 x14).bind fun r1006 => (if r1006 = true then (gd (fitsP .i64 (x14 + 1)) (prPlaces_L1 s t r x7 K_R4 d1004 true b13 (x14 + 1))) else (gd (fitsP .i64 (x14 + 1)) (prPlaces_L1 s t r x7 K_R4 d1004 b12 false (x14 + 1))))) else (gd (fitsP .i64 (x7 + 1)) (K_R4 b12 b13 (x7 + 1))))
def prPlaces_L0 (s : Stm) (t : Trh) (r : Rct) : Nat → Bool → Bool → Int → Option (Bool × Bool)
 | 0, _, _, _ => none
 | d1000 + 1, b5, b6, x7 => (if x7 ≤ r.X.Hi then (prPlaces_L1 s t r x7 (prPlaces_L0 s t r d1000) 1000000 b5 b6 r.Y.Lo) else (some (b5, b6)))
def prPlaces (s : Stm) (t : Trh) (r : Rct) : Option (Bool × Bool) := (prPlaces_L0 s t r 1000000 false true r.X.Lo)
def plTo (r : Rg) : Option (Rg) := (some r)
def plStorm_L0 (s : Stm) : Nat → Int → Int → Int → Int → Int → Int → Int → Int → Int → Int → Int → (List Crd) → Int → Option (Stm)
 | 0, _, _, _, _, _, _, _, _, _, _, _, _, _ => none
 | d1469 + 1, y1455, y1456, y1457, y1458, y1459, y1460, y1461, y1462, y1463, y1464, y1465, y1466, x33 => (if x33 < (s.Cards.length : Int) then ((idx s.Cards x33).bind fun v1471 => ((plTo v1471.X).bind fun r1490 => ((plTo v1471.Y).bind fun r1499 => ((plTo v1471.Size).bind fun r1508 => (gd (y1466.length < 1048576) (gd (fitsP .i64 (x33 + 1)) (plStorm_L0 s d1469 y1455 y1456 y1457 y1458 y1459 y1460 y1461 y1462 y1463 y1464 y1465 (y1466 ++ [({ X := r1490, Y := r1499, Hail := v1471.Hail, Size := r1508 } : Crd)]) (x33 + 1)))))))) else (some ({ Wide := y1455, High := y1456, Fall := y1457, A := ({ Lo := y1458, Hi := y1459 } : Rg), B := ({ Lo := y1460, Hi := y1461 } : Rg), Half := ({ Lo := y1462, Hi := y1463 } : Rg), Peak := ({ Lo := y1464, Hi := y1465 } : Rg), Cards := y1466 } : Stm)))
def plStorm (s : Stm) : Option (Stm) := ((plTo s.A).bind fun r1408 => ((plTo s.B).bind fun r1416 => ((plTo s.Half).bind fun r1424 => ((plTo s.Peak).bind fun r1432 => (plStorm_L0 s 1000000 s.Wide s.High s.Fall r1408.Lo r1408.Hi r1416.Lo r1416.Hi r1424.Lo r1424.Hi r1432.Lo r1432.Hi [] (0 : Int))))))
def plTruth (t : Trh) : Option (Trh) := (some t)
def plRect (r : Rct) : Option (Rct) := ((plTo r.X).bind fun r1598 => ((plTo r.Y).bind fun r1605 => (some ({ X := r1598, Y := r1605 } : Rct))))
def plThin (s : Stm) : Option (Bool) := (if (s.Cards.length : Int) ≤ (9 : Int) then ((prFault s).bind fun r1635 => (if r1635 = 0 then ((prMany s).bind fun r1642 => (some (decide (r1642 ≤ 300)))) else (some true))) else (some false))
def plReady (s : Stm) : Option (Bool) := ((plThin s).bind fun r1686 => (if r1686 = true then ((prFault s).bind fun r1693 => (some (decide (r1693 = 0)))) else (some false)))
def plWord (words : List W16) (ix : Int) : Option (Int) := (if (words.length : Int) = (0 : Int) then (some (0 : Int)) else (gd ((0 : Int) ≤ ix) (gd ((0 : Int) < (words.length : Int)) (gd (fitsP .i64 (ix % (words.length : Int))) ((idx words (ix % (words.length : Int))).bind fun v1703 => (some (wrapZ .i64 v1703.v)))))))
def plCarded_L0 (s : Stm) (words : List W16) (r1744 : Trh) : Nat → Int → Int → Int → Int → Int → Int → Int → Int → Int → Int → Int → (List Crd) → Int → Option (Stm × Trh)
 | 0, _, _, _, _, _, _, _, _, _, _, _, _, _ => none
 | d1811 + 1, y1797, y1798, y1799, y1800, y1801, y1802, y1803, y1804, y1805, y1806, y1807, y1808, x55 => ((plWord words (0 : Int)).bind fun r1812 => (gd ((0 : Int) ≤ r1812) (gd ((0 : Int) < (7 : Int)) (gd (fitsP .i64 (r1812 % 7)) (if x55 < (r1812 % 7) then (gd (fitsP .i64 (x55 + 1)) ((plWord words (x55 + 1)).bind fun r1827 => (gd ((0 : Int) ≤ r1827) (gd ((0 : Int) < s.Wide) (gd (fitsP .i64 (r1827 % s.Wide)) (gd ((0 : Int) ≤ r1827) (gd ((0 : Int) < (16 : Int)) (gd (fitsP .i64 (r1827 / 16)) (gd ((0 : Int) ≤ (r1827 / 16)) (gd ((0 : Int) < s.High) (gd (fitsP .i64 ((r1827 / 16) % s.High)) (gd ((0 : Int) ≤ r1827) (gd ((0 : Int) < (256 : Int)) (gd (fitsP .i64 (r1827 / 256)) (gd ((0 : Int) ≤ (r1827 / 256)) (gd ((0 : Int) < (2 : Int)) (gd (fitsP .i64 ((r1827 / 256) % (2 : Int))) (gd (fitsP .i64 ((r1827 % s.Wide) - ((r1827 / 256) % (2 : Int)))) (gd (fitsP .i64 (s.Wide - (1 : Int))) (gd ((0 : Int) ≤ r1827) (gd ((0 : Int) < (512 : Int)) (gd (fitsP .i64 (r1827 / 512)) (gd ((0 : Int) ≤ (r1827 / 512)) (gd ((0 : Int) < (2 : Int)) (gd (fitsP .i64 ((r1827 / 512) % (2 : Int))) (gd (fitsP .i64 ((r1827 % s.Wide) + ((r1827 / 512) % (2 : Int)))) (gd ((0 : Int) ≤ r1827) (gd ((0 : Int) < (1024 : Int)) (gd (fitsP .i64 (r1827 / 1024)) (gd ((0 : Int) ≤ (r1827 / 1024)) (gd ((0 : Int) < (2 : Int)) (gd (fitsP .i64 ((r1827 / 1024) % (2 : Int))) (gd (fitsP .i64 (((r1827 / 16) % s.High) - ((r1827 / 1024) % (2 : Int)))) (gd (fitsP .i64 (s.High - (1 : Int))) (gd ((0 : Int) ≤ r1827) (gd ((0 : Int) < (2048 : Int)) (gd (fitsP .i64 (r1827 / 2048)) (gd ((0 : Int) ≤ (r1827 / 2048)) (gd ((0 : Int) < (2 : Int)) (gd (fitsP .i64 ((r1827 / 2048) % (2 : Int))) (gd (fitsP .i64 (((r1827 / 16) % s.High) + ((r1827 / 2048) % (2 : Int)))) ((prSize s r1744 (r1827 % s.Wide) ((r1827 / 16) % s.High)).bind fun r1896 => (if (0 : Int) < r1896 then (gd ((0 : Int) ≤ r1827) (gd ((0 : Int) < (4096 : Int)) (gd (fitsP .i64 (r1827 / 4096)) (gd ((0 : Int) ≤ (r1827 / 4096)) (gd ((0 : Int) < (2 : Int)) (gd (fitsP .i64 ((r1827 / 4096) % (2 : Int))) (gd (fitsP .i64 (r1896 - ((r1827 / 4096) % (2 : Int)))) (gd ((0 : Int) ≤ r1827) (gd ((0 : Int) < (8192 : Int)) (gd (fitsP .i64 (r1827 / 8192)) (gd ((0 : Int) ≤ (r1827 / 8192)) (gd ((0 : Int) < (2 : Int)) (gd (fitsP .i64 ((r1827 / 8192) % (2 : Int))) (gd (fitsP .i64 (r1896 + ((r1827 / 8192) % (2 : Int)))) (gd (y1808.length < 1048576) (gd (fitsP .i64 (x55 + 1)) (plCarded_L0 s words r1744 d1811 y1797 y1798 y1799 y1800 y1801 y1802 y1803 y1804 y1805 y1806 y1807 (y1808 ++ [({ X := ({ Lo := (max (0 : Int) ((r1827 % s.Wide) - ((r1827 / 256) % (2 : Int)))), Hi := (min (s.Wide - (1 : Int)) ((r1827 % s.Wide) + ((r1827 / 512) % (2 : Int)))) } : Rg), Y := ({ Lo := (max (0 : Int) (((r1827 / 16) % s.High) - ((r1827 / 1024) % (2 : Int)))), Hi := (min (s.High - (1 : Int)) (((r1827 / 16) % s.High) + ((r1827 / 2048) % (2 : Int)))) } : Rg), Hail := true, Size := ({ Lo := (max (0 : Int) (r1896 - ((r1827 / 4096) % (2 : Int)))), Hi := (min (9 : Int) (r1896 + ((r1827 / 8192) % (2 : Int)))) } : Rg) } : Crd)]) (x55 + 1)))))))))))))))))) else (gd (y1808.length < 1048576) (gd (fitsP .i64 (x55 + 1)) (plCarded_L0 s words r1744 d1811 y1797 y1798 y1799 y1800 y1801 y1802 y1803 y1804 y1805 y1806 y1807 (y1808 ++ [({ X := ({ Lo := (max (0 : Int) ((r1827 % s.Wide) - ((r1827 / 256) % (2 : Int)))), Hi := (min (s.Wide - (1 : Int)) ((r1827 % s.Wide) + ((r1827 / 512) % (2 : Int)))) } : Rg), Y := ({ Lo := (max (0 : Int) (((r1827 / 16) % s.High) - ((r1827 / 1024) % (2 : Int)))), Hi := (min (s.High - (1 : Int)) (((r1827 / 16) % s.High) + ((r1827 / 2048) % (2 : Int)))) } : Rg), Hail := false, Size := ({ Lo := (0 : Int), Hi := (0 : Int) } : Rg) } : Crd)]) (x55 + 1))))))))))))))))))))))))))))))))))))))))))))))) else (some (({ Wide := y1797, High := y1798, Fall := y1799, A := ({ Lo := y1800, Hi := y1801 } : Rg), B := ({ Lo := y1802, Hi := y1803 } : Rg), Half := ({ Lo := y1804, Hi := y1805 } : Rg), Peak := ({ Lo := y1806, Hi := y1807 } : Rg), Cards := y1808 } : Stm), r1744)))))))
def plCarded (s : Stm) (which : Int) (words : List W16) : Option (Stm × Trh) := ((prMany s).bind fun r1732 => (gd ((0 : Int) ≤ (wrapZ .i64 which)) (gd ((0 : Int) < r1732) (gd (fitsP .i64 ((wrapZ .i64 which) % r1732)) ((prNth s ((wrapZ .i64 which) % r1732)).bind fun r1744 => (plCarded_L0 s words r1744 1000000 s.Wide s.High s.Fall s.A.Lo s.A.Hi s.B.Lo s.B.Hi s.Half.Lo s.Half.Hi s.Peak.Lo s.Peak.Hi [] (0 : Int)))))))
def plIn (n : Int) (r : Rg) : Option (Bool) := (if r.Lo ≤ n then (some (decide (n ≤ r.Hi))) else (some false))
def plBox (s : Stm) (w : Int) : Option (Rct) := (gd ((0 : Int) ≤ (wrapZ .i64 w)) (gd ((0 : Int) < s.Wide) (gd (fitsP .i64 ((wrapZ .i64 w) % s.Wide)) (gd ((0 : Int) ≤ (wrapZ .i64 w)) (gd ((0 : Int) < (16 : Int)) (gd (fitsP .i64 ((wrapZ .i64 w) / (16 : Int))) (gd ((0 : Int) ≤ ((wrapZ .i64 w) / (16 : Int))) (gd ((0 : Int) < s.High) (gd (fitsP .i64 (((wrapZ .i64 w) / (16 : Int)) % s.High)) (gd (fitsP .i64 (s.Wide - (1 : Int))) (gd ((0 : Int) ≤ (wrapZ .i64 w)) (gd ((0 : Int) < (256 : Int)) (gd (fitsP .i64 ((wrapZ .i64 w) / (256 : Int))) (gd ((0 : Int) ≤ ((wrapZ .i64 w) / (256 : Int))) (gd ((0 : Int) < (4 : Int)) (gd (fitsP .i64 (((wrapZ .i64 w) / (256 : Int)) % (4 : Int))) (gd (fitsP .i64 (((wrapZ .i64 w) % s.Wide) + (((wrapZ .i64 w) / (256 : Int)) % (4 : Int)))) (gd (fitsP .i64 (s.High - (1 : Int))) (gd ((0 : Int) ≤ (wrapZ .i64 w)) (gd ((0 : Int) < (1024 : Int)) (gd (fitsP .i64 ((wrapZ .i64 w) / (1024 : Int))) (gd ((0 : Int) ≤ ((wrapZ .i64 w) / (1024 : Int))) (gd ((0 : Int) < (4 : Int)) (gd (fitsP .i64 (((wrapZ .i64 w) / (1024 : Int)) % (4 : Int))) (gd (fitsP .i64 ((((wrapZ .i64 w) / (16 : Int)) % s.High) + (((wrapZ .i64 w) / (1024 : Int)) % (4 : Int)))) (some ({ X := ({ Lo := ((wrapZ .i64 w) % s.Wide), Hi := (min (s.Wide - (1 : Int)) (((wrapZ .i64 w) % s.Wide) + (((wrapZ .i64 w) / (256 : Int)) % (4 : Int)))) } : Rg), Y := ({ Lo := (((wrapZ .i64 w) / (16 : Int)) % s.High), Hi := (min (s.High - (1 : Int)) ((((wrapZ .i64 w) / (16 : Int)) % s.High) + (((wrapZ .i64 w) / (1024 : Int)) % (4 : Int)))) } : Rg) } : Rct)))))))))))))))))))))))))))
def phas (r : Rg) (n : Int) : Option (Bool) := (if r.Lo ≤ n then (some (decide (n ≤ r.Hi))) else (some false))
def pcount (r : Rg) : Option (Int) := (gd (fitsP .i64 (r.Hi - r.Lo)) (gd (fitsP .i64 ((r.Hi - r.Lo) + (1 : Int))) (some ((r.Hi - r.Lo) + (1 : Int)))))
def pwithin (r : Rg) (low : Int) (high : Int) : Option (Bool) := (if low ≤ r.Lo then (if r.Lo ≤ r.Hi then (some (decide (r.Hi ≤ high))) else (some false)) else (some false))
def prect (c : Crd) : Option (Rct) := (some ({ X := c.X, Y := c.Y } : Rct))
def ptooMany (s : Stm) : Option (Bool) := (if (12 : Int) < s.Wide then (some true) else (if (12 : Int) < s.High then (some true) else (some (decide ((6 : Int) < (s.Cards.length : Int))))))
def phasRect (s : Stm) (r : Rct) : Option (Bool) := (gd (fitsP .i64 (s.Wide - (1 : Int))) ((pwithin r.X (0 : Int) (s.Wide - (1 : Int))).bind fun r2337 => (if r2337 = true then (gd (fitsP .i64 (s.High - (1 : Int))) ((pwithin r.Y (0 : Int) (s.High - (1 : Int))).bind fun r2346 => (some r2346))) else (some false))))
def pvalidCard (w : Wk) (c : Crd) : Option (Bool) := ((prect c).bind fun r2364 => ((phasRect w.s r2364).bind fun r2371 => (if r2371 = true then ((pwithin c.Size (0 : Int) (9 : Int)).bind fun r2379 => (if r2379 = true then (if c.Hail = true then (some true) else (gd (fitsP .i64 c.Size.Lo) (gd (fitsP .i64 (0 : Int)) (gd (fitsP .i64 c.Size.Hi) (gd (fitsP .i64 (0 : Int)) (some ((decide (c.Size.Lo = (0 : Int))) && (decide (c.Size.Hi = (0 : Int)))))))))) else (some false))) else (some false))))
def peachC1 (x : Crd) (passes : Crd → Option (Bool)) : Option (Bool) := ((passes x).bind fun r2397 => (some (!r2397)))
def pindexC_L0 (l : List Crd) (p : Crd → Option (Bool)) : Nat → Int → Option (Int)
 | 0, _ => none
 | d2405 + 1, x2 => (if x2 < (l.length : Int) then ((idx l x2).bind fun v2407 => ((p v2407).bind fun r2410 => (if r2410 = true then (some x2) else (gd (fitsP .i64 (x2 + 1)) (pindexC_L0 l p d2405 (x2 + 1)))))) else (some (-1 : Int)))
def pindexC (l : List Crd) (p : Crd → Option (Bool)) : Option (Int) := (pindexC_L0 l p (l.length + 1) (0 : Int))
def pcontainsC (l : List Crd) (p : Crd → Option (Bool)) : Option (Bool) := ((pindexC l p).bind fun r2417 => (some (decide ((0 : Int) ≤ r2417))))
def peachC (l : List Crd) (passes : Crd → Option (Bool)) : Option (Bool) := ((pcontainsC l (fun a2431 => peachC1 a2431 passes)).bind fun r2433 => (some (!r2433)))
def peachR1 (x : Rct) (passes : Rct → Option (Bool)) : Option (Bool) := ((passes x).bind fun r2443 => (some (!r2443)))
def pindexR_L0 (l : List Rct) (p : Rct → Option (Bool)) : Nat → Int → Option (Int)
 | 0, _ => none
 | d2451 + 1, x2 => (if x2 < (l.length : Int) then ((idx l x2).bind fun v2453 => ((p v2453).bind fun r2456 => (if r2456 = true then (some x2) else (gd (fitsP .i64 (x2 + 1)) (pindexR_L0 l p d2451 (x2 + 1)))))) else (some (-1 : Int)))
def pindexR (l : List Rct) (p : Rct → Option (Bool)) : Option (Int) := (pindexR_L0 l p (l.length + 1) (0 : Int))
def pcontainsR (l : List Rct) (p : Rct → Option (Bool)) : Option (Bool) := ((pindexR l p).bind fun r2463 => (some (decide ((0 : Int) ≤ r2463))))
def peachR (l : List Rct) (passes : Rct → Option (Bool)) : Option (Bool) := ((pcontainsR l (fun a2477 => peachR1 a2477 passes)).bind fun r2479 => (some (!r2479)))
def pvalid (w : Wk) : Option (Bool) := (if (2 : Int) ≤ w.s.Wide then (if (1 : Int) ≤ w.s.High then (if (0 : Int) ≤ w.s.Fall then (if w.s.Fall ≤ (4 : Int) then (gd (fitsP .i64 (w.s.High - (1 : Int))) ((pwithin w.s.A (0 : Int) (w.s.High - (1 : Int))).bind fun r2494 => (if r2494 = true then (gd (fitsP .i64 (w.s.High - (1 : Int))) ((pwithin w.s.B (0 : Int) (w.s.High - (1 : Int))).bind fun r2502 => (if r2502 = true then ((pwithin w.s.Half (0 : Int) (3 : Int)).bind fun r2509 => (if r2509 = true then ((pwithin w.s.Peak (1 : Int) (9 : Int)).bind fun r2516 => (if r2516 = true then ((peachC w.s.Cards (fun a2523 => pvalidCard w a2523)).bind fun r2525 => (some r2525)) else (some false))) else (some false))) else (some false)))) else (some false)))) else (some false)) else (some false)) else (some false)) else (some false))
def pinAll (s : Stm) : Option (Int) := ((pcount s.A).bind fun r2536 => ((pcount s.B).bind fun r2542 => (gd ((0 : Int) ≤ r2536) (gd ((0 : Int) ≤ r2542) (gd (fitsP .i64 (r2536 * r2542)) ((pcount s.Half).bind fun r2551 => (gd ((0 : Int) ≤ (r2536 * r2542)) (gd ((0 : Int) ≤ r2551) (gd (fitsP .i64 ((r2536 * r2542) * r2551)) ((pcount s.Peak).bind fun r2560 => (gd ((0 : Int) ≤ ((r2536 * r2542) * r2551)) (gd ((0 : Int) ≤ r2560) (gd (fitsP .i64 (((r2536 * r2542) * r2551) * r2560)) (some (((r2536 * r2542) * r2551) * r2560)))))))))))))))
def pisChoice (s : Stm) (t : Trh) : Option (Bool) := ((phas s.A t.A).bind fun r2580 => (if r2580 = true then ((phas s.B t.B).bind fun r2588 => (if r2588 = true then ((phas s.Half t.Half).bind fun r2596 => (if r2596 = true then ((phas s.Peak t.Peak).bind fun r2604 => (some r2604)) else (some false))) else (some false))) else (some false)))
def pcheck (s : Stm) : Option (Int) := ((ptooMany s).bind fun r2616 => (if r2616 = true then (some (3 : Int)) else ((pvalid ({ s := s, right := none } : Wk)).bind fun r2623 => (if r2623 = true then ((pinAll s).bind fun r2630 => (if (2000 : Int) < r2630 then (some (3 : Int)) else (some (0 : Int)))) else (some (1 : Int))))))
def pdistance (s : Stm) (t : Trh) (x : Int) (y : Int) : Option (Int) := (gd (fitsP .i64 (s.Wide - (1 : Int))) (gd ((0 : Int) ≤ (s.Wide - (1 : Int))) (gd ((0 : Int) ≤ y) (gd (fitsP .i64 ((s.Wide - (1 : Int)) * y)) (gd (fitsP .i64 ((s.Wide - (1 : Int)) - x)) (gd ((0 : Int) ≤ t.A) (gd ((0 : Int) ≤ ((s.Wide - (1 : Int)) - x)) (gd (fitsP .i64 (t.A * ((s.Wide - (1 : Int)) - x))) (gd ((0 : Int) ≤ t.B) (gd ((0 : Int) ≤ x) (gd (fitsP .i64 (t.B * x)) (gd (fitsP .i64 ((t.A * ((s.Wide - (1 : Int)) - x)) + (t.B * x))) (gd (fitsP .i64 (((s.Wide - (1 : Int)) * y) - ((t.A * ((s.Wide - (1 : Int)) - x)) + (t.B * x)))) (gd (fitsP .i64 ((0 : Int) - (((s.Wide - (1 : Int)) * y) - ((t.A * ((s.Wide - (1 : Int)) - x)) + (t.B * x))))) (some (max (((s.Wide - (1 : Int)) * y) - ((t.A * ((s.Wide - (1 : Int)) - x)) + (t.B * x))) ((0 : Int) - (((s.Wide - (1 : Int)) * y) - ((t.A * ((s.Wide - (1 : Int)) - x)) + (t.B * x))))))))))))))))))))
def phits (s : Stm) (t : Trh) (x : Int) (y : Int) : Option (Bool) := ((pdistance s t x y).bind fun r2673 => (gd (fitsP .i64 (s.Wide - (1 : Int))) (gd ((0 : Int) ≤ (s.Wide - (1 : Int))) (gd ((0 : Int) ≤ t.Half) (gd (fitsP .i64 ((s.Wide - (1 : Int)) * t.Half)) (some (decide (r2673 ≤ ((s.Wide - (1 : Int)) * t.Half)))))))))
def psize (s : Stm) (t : Trh) (x : Int) (y : Int) : Option (Int) := ((phits s t x y).bind fun r2695 => (if r2695 = true then ((pdistance s t x y).bind fun r2703 => (gd (fitsP .i64 (s.Wide - (1 : Int))) (gd ((0 : Int) ≤ r2703) (gd ((0 : Int) < (s.Wide - (1 : Int))) (gd (fitsP .i64 (r2703 / (s.Wide - (1 : Int)))) (gd ((0 : Int) ≤ s.Fall) (gd ((0 : Int) ≤ (r2703 / (s.Wide - (1 : Int)))) (gd (fitsP .i64 (s.Fall * (r2703 / (s.Wide - (1 : Int))))) (gd (fitsP .i64 (t.Peak - (s.Fall * (r2703 / (s.Wide - (1 : Int)))))) (some (max (1 : Int) (t.Peak - (s.Fall * (r2703 / (s.Wide - (1 : Int)))))))))))))))) else (some (0 : Int))))
def pnumbersI_L0 (r : Rg) (r2718 : Int) : Nat → Int → Option (List Int)
 | 0, _ => none
 | d2729 + 1, x6 => (if x6 < r2718 then (gd (fitsP .i64 (r.Lo + x6)) (((gd (fitsP .i64 (x6 + 1)) (pnumbersI_L0 r r2718 d2729 (x6 + 1)))).bind fun r2732 => some ((r.Lo + x6) :: r2732))) else (some []))
def pnumbersI (r : Rg) : Option (List Int) := ((pcount r).bind fun r2718 => (pnumbersI_L0 r r2718 (Int.toNat r2718 + 1) (0 : Int)))
def pnumbers (r : Rg) : Option (List Int) := ((pnumbersI r).bind fun l2755 => (some l2755))
def pplacesI_L0_xret : Option (List (Int × Int)) := (some [])
def pplacesI_L1_xret : Option (List (Int × Int)) := (pplacesI_L0_xret)
def pplacesI_L1 (a2783 : Int) (K_X0 : Option (List (Int × Int))) : List Int → Option (List (Int × Int))
 | [] => (K_X0)
 | a2844 :: q2845 => ((((pplacesI_L1 a2783 K_X0 q2845))).bind fun r2867 => some ((a2783, a2844) :: r2867))
def pplacesI_L0 (r : Rct) : List Int → Option (List (Int × Int))
 | [] => (some [])
 | a2783 :: q2784 => ((pnumbers r.Y).bind fun r2821 => (pplacesI_L1 a2783 ((pplacesI_L0 r q2784)) r2821))
def pplacesI (r : Rct) : Option (List (Int × Int)) := ((pnumbers r.X).bind fun r2764 => (pplacesI_L0 r r2764))
def pplaces (r : Rct) : Option (List (Int × Int)) := ((pplacesI r).bind fun l2905 => (some l2905))
def pisRight_L0_xret (y2958 : Bool) : Option (Bool) := (some y2958)
def pisRight_L0 (s : Stm) (c : Crd) (t : Trh) : List (Int × Int) → Bool → Option (Bool)
 | [], _ => (some false)
 | a2964 :: q2965, y2958 => ((phits s t a2964.1 a2964.2).bind fun r2987 => (if (r2987 == c.Hail) = true then ((psize s t a2964.1 a2964.2).bind fun r2998 => ((phas c.Size r2998).bind fun r3008 => (if r3008 = true then (pisRight_L0_xret true) else ((pisRight_L0 s c t q2965) y2958)))) else ((pisRight_L0 s c t q2965) y2958)))
def pisRight (s : Stm) (c : Crd) (t : Trh) : Option (Bool) := ((prect c).bind fun r2934 => ((pplaces r2934).bind fun r2943 => (pisRight_L0 s c t r2943 false)))
def preaches_L0_xret (y3092 : Bool) : Option (Bool) := (some y3092)
def preaches_L0 (s : Stm) (t : Trh) (inn : Bool) : List (Int × Int) → Bool → Option (Bool)
 | [], _ => (some false)
 | a3098 :: q3099, y3092 => ((phits s t a3098.1 a3098.2).bind fun r3122 => (if (r3122 == inn) = true then (preaches_L0_xret true) else ((preaches_L0 s t inn q3099) y3092)))
def preaches (s : Stm) (t : Trh) (r : Rct) (inn : Bool) : Option (Bool) := ((pplaces r).bind fun r3075 => (preaches_L0 s t inn r3075 false))
def pupTo_L0 (last : Int) : Nat → Bool → Bool → Bool → Bool → Bool → Bool → Int → Option (Cds)
 | 0, _, _, _, _, _, _, _ => none
 | d3196 + 1, y3190, y3191, y3192, y3193, y3194, y3195, x3 => (if x3 < (last + 1) then (gd (0 ≤ x3 ∧ x3 < 6) (gd (fitsP .i64 (x3 + 1)) (pupTo_L0 last d3196 (sti x3 0 true y3190) (sti x3 1 true y3191) (sti x3 2 true y3192) (sti x3 3 true y3193) (sti x3 4 true y3194) (sti x3 5 true y3195) (x3 + 1)))) else (some ({ c0 := y3190, c1 := y3191, c2 := y3192, c3 := y3193, c4 := y3194, c5 := y3195 } : Cds)))
def pupTo (last : Int) : Option (Cds) := (gd (fitsP .i64 (last + 1)) (pupTo_L0 last (Int.toNat (last + 1) + 1) false false false false false false (0 : Int)))
def pamong_L0 (c : Cds) : Nat → Bool → Bool → Bool → Bool → Bool → Bool → Int → Option (Cds)
 | 0, _, _, _, _, _, _, _ => none
 | d3238 + 1, y3232, y3233, y3234, y3235, y3236, y3237, x4 => (if x4 < 6 then ((idx ([y3232, y3233, y3234, y3235, y3236, y3237] : List Bool) x4).bind fun v3241 => (if v3241 = true then ((idx ([c.c0, c.c1, c.c2, c.c3, c.c4, c.c5] : List Bool) x4).bind fun v3244 => (gd (0 ≤ x4 ∧ x4 < 6) (gd (fitsP .i64 (x4 + 1)) (pamong_L0 c d3238 (sti x4 0 v3244 y3232) (sti x4 1 v3244 y3233) (sti x4 2 v3244 y3234) (sti x4 3 v3244 y3235) (sti x4 4 v3244 y3236) (sti x4 5 v3244 y3237) (x4 + 1))))) else (gd (0 ≤ x4 ∧ x4 < 6) (gd (fitsP .i64 (x4 + 1)) (pamong_L0 c d3238 (sti x4 0 false y3232) (sti x4 1 false y3233) (sti x4 2 false y3234) (sti x4 3 false y3235) (sti x4 4 false y3236) (sti x4 5 false y3237) (x4 + 1)))))) else (some ({ c0 := y3232, c1 := y3233, c2 := y3234, c3 := y3235, c4 := y3236, c5 := y3237 } : Cds)))
def pamong (c : Cds) (these : Cds) : Option (Cds) := (pamong_L0 c (Int.toNat (6 : Int) + 1) these.c0 these.c1 these.c2 these.c3 these.c4 these.c5 (0 : Int))
def prightCards_L0 (w : Wk) (t : Trh) : Nat → Bool → Bool → Bool → Bool → Bool → Bool → Int → Option (Cds)
 | 0, _, _, _, _, _, _, _ => none
 | d3304 + 1, y3298, y3299, y3300, y3301, y3302, y3303, x6 => (if x6 < (w.s.Cards.length : Int) then ((idx w.s.Cards x6).bind fun v3306 => ((pisRight w.s v3306 t).bind fun r3327 => (gd (0 ≤ x6 ∧ x6 < 6) (gd (fitsP .i64 (x6 + 1)) (prightCards_L0 w t d3304 (sti x6 0 r3327 y3298) (sti x6 1 r3327 y3299) (sti x6 2 r3327 y3300) (sti x6 3 r3327 y3301) (sti x6 4 r3327 y3302) (sti x6 5 r3327 y3303) (x6 + 1)))))) else (some ({ c0 := y3298, c1 := y3299, c2 := y3300, c3 := y3301, c4 := y3302, c5 := y3303 } : Cds)))
def prightCards (w : Wk) (t : Trh) : Option (Cds) := (prightCards_L0 w t (w.s.Cards.length + 1) false false false false false false (0 : Int))
def pallCards (w : Wk) : Option (Cds) := (gd (fitsP .i64 ((w.s.Cards.length : Int) - (1 : Int))) ((pupTo ((w.s.Cards.length : Int) - (1 : Int))).bind fun r3368 => (some r3368)))
def pchoicesI_L0_xret : Option (List Trh) := (some [])
def pchoicesI_L1_xret : Option (List Trh) := (pchoicesI_L0_xret)
def pchoicesI_L2_xret : Option (List Trh) := (pchoicesI_L1_xret)
def pchoicesI_L3_xret : Option (List Trh) := (pchoicesI_L2_xret)
def pchoicesI_L3 (a3406 : Int) (a3467 : Int) (a3538 : Int) (K_X2 : Option (List Trh)) : List Int → Option (List Trh)
 | [] => (K_X2)
 | a3619 :: q3620 => ((((pchoicesI_L3 a3406 a3467 a3538 K_X2 q3620))).bind fun r3646 => some (({ A := a3406, B := a3467, Half := a3538, Peak := a3619 } : Trh) :: r3646))
def pchoicesI_L2 (s : Stm) (a3406 : Int) (a3467 : Int) (K_X1 : Option (List Trh)) : List Int → Option (List Trh)
 | [] => (K_X1)
 | a3538 :: q3539 => ((pnumbers s.Peak).bind fun r3588 => (pchoicesI_L3 a3406 a3467 a3538 ((pchoicesI_L2 s a3406 a3467 K_X1 q3539)) r3588))
def pchoicesI_L1 (s : Stm) (a3406 : Int) (K_X0 : Option (List Trh)) : List Int → Option (List Trh)
 | [] => (K_X0)
 | a3467 :: q3468 => ((pnumbers s.Half).bind fun r3511 => (pchoicesI_L2 s a3406 a3467 ((pchoicesI_L1 s a3406 K_X0 q3468)) r3511))
def pchoicesI_L0 (s : Stm) : List Int → Option (List Trh)
 | [] => (some [])
 | a3406 :: q3407 => ((pnumbers s.B).bind fun r3444 => (pchoicesI_L1 s a3406 ((pchoicesI_L0 s q3407)) r3444))
def pchoicesI (s : Stm) : Option (List Trh) := ((pnumbers s.A).bind fun r3387 => (pchoicesI_L0 s r3387))
def pchoices (s : Stm) : Option (List Trh) := ((pchoicesI s).bind fun l3700 => (some l3700))
def popen_L0 (s : Stm) : List Trh → (Option (Trh → Option (Cds))) → Option (Wk)
 | [], w3752 => (some ({ s := s, right := w3752 } : Wk))
 | a3754 :: q3755, w3752 => ((prightCards ({ s := s, right := w3752 } : Wk) a3754).bind fun r3807 => (gd (MK.fit a3754) ((mset w3752 a3754 r3807).bind fun w3819 => ((popen_L0 s q3755) w3819))))
def popen (s : Stm) : Option (Wk) := ((pchoices s).bind fun r3737 => (popen_L0 s r3737 (some fun _ => none : Option (Trh → Option (Cds)))))
def ptruthsI_L0_xret : Option (List Trh) := (some [])
def ptruthsI_L0 (w : Wk) (r3856 : Cds) : List Trh → Option (List Trh)
 | [] => (some [])
 | a3898 :: q3899 => (gd (MK.fit a3898) (mcase (mget w.right a3898) (if ((false == r3856.c0) && ((false == r3856.c1) && ((false == r3856.c2) && ((false == r3856.c3) && ((false == r3856.c4) && (false == r3856.c5)))))) = true then ((((ptruthsI_L0 w r3856 q3899))).bind fun r3943 => some (a3898 :: r3943)) else ((ptruthsI_L0 w r3856 q3899))) fun w3941 => (if ((w3941.c0 == r3856.c0) && ((w3941.c1 == r3856.c1) && ((w3941.c2 == r3856.c2) && ((w3941.c3 == r3856.c3) && ((w3941.c4 == r3856.c4) && (w3941.c5 == r3856.c5)))))) = true then ((((ptruthsI_L0 w r3856 q3899))).bind fun r3965 => some (a3898 :: r3965)) else ((ptruthsI_L0 w r3856 q3899)))))
def ptruthsI (w : Wk) : Option (List Trh) := ((pallCards w).bind fun r3856 => ((pchoices w.s).bind fun r3877 => (ptruthsI_L0 w r3856 r3877)))
def ptruths (w : Wk) : Option (List Trh) := ((ptruthsI w).bind fun l3999 => (some l3999))
def pcanHold_L0_xret (y4033 : Bool) : Option (Bool) := (some y4033)
def pcanHold_L0 (w : Wk) (these : Cds) : List Trh → Bool → Option (Bool)
 | [], _ => (some false)
 | a4039 :: q4040, y4033 => (gd (MK.fit a4039) (mcase (mget w.right a4039) ((pamong ({ c0 := false, c1 := false, c2 := false, c3 := false, c4 := false, c5 := false } : Cds) these).bind fun r4083 => (if ((r4083.c0 == these.c0) && ((r4083.c1 == these.c1) && ((r4083.c2 == these.c2) && ((r4083.c3 == these.c3) && ((r4083.c4 == these.c4) && (r4083.c5 == these.c5)))))) = true then (pcanHold_L0_xret true) else ((pcanHold_L0 w these q4040) y4033))) fun w4082 => ((pamong w4082 these).bind fun r4103 => (if ((r4103.c0 == these.c0) && ((r4103.c1 == these.c1) && ((r4103.c2 == these.c2) && ((r4103.c3 == these.c3) && ((r4103.c4 == these.c4) && (r4103.c5 == these.c5)))))) = true then (pcanHold_L0_xret true) else ((pcanHold_L0 w these q4040) y4033)))))
def pcanHold (w : Wk) (these : Cds) : Option (Bool) := ((pchoices w.s).bind fun r4020 => (pcanHold_L0 w these r4020 false))
def phasTruth (w : Wk) : Option (Bool) := ((pallCards w).bind fun r4139 => ((pcanHold w r4139).bind fun r4145 => (some r4145)))
def popenTrue (s : Stm) (asked : List Rct) : Option (Wk × Int) := ((pcheck s).bind fun r4162 => (if r4162 = 0 then ((peachR asked (fun a4176 => phasRect s a4176)).bind fun r4178 => (if r4178 = true then ((popen s).bind fun r4192 => ((phasTruth r4192).bind fun r4218 => (if r4218 = true then (some (r4192, (0 : Int))) else (some (({ s := ({ Wide := (0 : Int), High := (0 : Int), Fall := (0 : Int), A := ({ Lo := (0 : Int), Hi := (0 : Int) } : Rg), B := ({ Lo := (0 : Int), Hi := (0 : Int) } : Rg), Half := ({ Lo := (0 : Int), Hi := (0 : Int) } : Rg), Peak := ({ Lo := (0 : Int), Hi := (0 : Int) } : Rg), Cards := [] } : Stm), right := none } : Wk), (11 : Int)))))) else (some (({ s := ({ Wide := (0 : Int), High := (0 : Int), Fall := (0 : Int), A := ({ Lo := (0 : Int), Hi := (0 : Int) } : Rg), B := ({ Lo := (0 : Int), Hi := (0 : Int) } : Rg), Half := ({ Lo := (0 : Int), Hi := (0 : Int) } : Rg), Peak := ({ Lo := (0 : Int), Hi := (0 : Int) } : Rg), Cards := [] } : Stm), right := none } : Wk), (2 : Int))))) else (some (({ s := ({ Wide := (0 : Int), High := (0 : Int), Fall := (0 : Int), A := ({ Lo := (0 : Int), Hi := (0 : Int) } : Rg), B := ({ Lo := (0 : Int), Hi := (0 : Int) } : Rg), Half := ({ Lo := (0 : Int), Hi := (0 : Int) } : Rg), Peak := ({ Lo := (0 : Int), Hi := (0 : Int) } : Rg), Cards := [] } : Stm), right := none } : Wk), r4162))))
def pminimum_L0 (l : List Int) : Nat → Int → Int → Option (Int)
 | 0, _, _ => none
 | d4246 + 1, x3, x4 => (if x4 < (l.length : Int) then ((idx l x4).bind fun x4248 => (if x4248 < x3 then (gd (fitsP .i64 (x4 + 1)) (pminimum_L0 l d4246 x4248 (x4 + 1))) else (gd (fitsP .i64 (x4 + 1)) (pminimum_L0 l d4246 x3 (x4 + 1))))) else (some x3))
def pminimum (l : List Int) : Option (Int) := (if (l.length : Int) = (0 : Int) then (some (0 : Int)) else ((idx l (0 : Int)).bind fun x4242 => (pminimum_L0 l (l.length + 1) x4242 (0 : Int))))
def psMax_L0 (l : List Int) : Nat → Int → Int → Option (Int)
 | 0, _, _ => none
 | d4258 + 1, x3, x4 => (if x4 < (l.length : Int) then ((idx l x4).bind fun x4260 => (gd (fitsP .i64 (x4 + 1)) (psMax_L0 l d4258 (max x3 x4260) (x4 + 1)))) else (some x3))
def psMax (l : List Int) : Option (Int) := (if (l.length : Int) < (1 : Int) then none else ((idx l (0 : Int)).bind fun x4254 => (psMax_L0 l (((l.length : Int) - (1 : Int)).toNat + 1) x4254 (1 : Int))))
def pspan_L0 (number : Trh → Option (Int)) : List Trh → (List Int) → Option (Rg)
 | [], y4304 => ((pminimum y4304).bind fun r4400 => ((psMax y4304).bind fun r4410 => (some ({ Lo := r4400, Hi := r4410 } : Rg))))
 | a4308 :: q4309, y4304 => ((number a4308).bind fun r4352 => (gd (y4304.length < 1048576) ((pspan_L0 number q4309) (y4304 ++ [r4352]))))
def pspan (w : Wk) (number : Trh → Option (Int)) : Option (Rg) := ((ptruths w).bind fun r4289 => (pspan_L0 number r4289 []))
def pwitness_L0_xret (y4480 : Int) (y4481 : Int) (y4482 : Int) (y4483 : Int) (y4485 : Bool) : Option (Trh × Bool) := (some (({ A := y4480, B := y4481, Half := y4482, Peak := y4483 } : Trh), y4485))
def pwitness_L0 (w : Wk) (r : Rct) (inn : Bool) : List Trh → Int → Int → Int → Int → Bool → Option (Trh × Bool)
 | [], _, _, _, _, _ => (some (({ A := (0 : Int), B := (0 : Int), Half := (0 : Int), Peak := (0 : Int) } : Trh), false))
 | a4491 :: q4492, y4480, y4481, y4482, y4483, y4485 => ((preaches w.s a4491 r inn).bind fun r4538 => (if r4538 = true then (pwitness_L0_xret a4491.A a4491.B a4491.Half a4491.Peak true) else ((pwitness_L0 w r inn q4492) y4480 y4481 y4482 y4483 y4485)))
def pwitness (w : Wk) (r : Rct) (inn : Bool) : Option (Trh × Bool) := ((ptruths w).bind fun r4464 => (pwitness_L0 w r inn r4464 (0 : Int) (0 : Int) (0 : Int) (0 : Int) false))
def pbA (t : Trh) : Option (Int) := (some t.A)
def pbB (t : Trh) : Option (Int) := (some t.B)
def pbHalf (t : Trh) : Option (Int) := (some t.Half)
def pbPeak (t : Trh) : Option (Int) := (some t.Peak)
def pcloneC (s : List Crd) : Option (List Crd) := (gd (([] : List Crd).length + s.length ≤ 1048576) (some ([] ++ s)))
def pBounds (s : Stm) : Option (Stm × Int) := ((popenTrue s []).bind fun r4644 => (if r4644.2 = (0 : Int) then ((pspan r4644.1 (fun a4678 => pbA a4678)).bind fun r4680 => ((pspan r4644.1 (fun a4695 => pbB a4695)).bind fun r4697 => ((pspan r4644.1 (fun a4712 => pbHalf a4712)).bind fun r4714 => ((pspan r4644.1 (fun a4729 => pbPeak a4729)).bind fun r4731 => ((pcloneC s.Cards).bind fun r4746 => (some (({ Wide := s.Wide, High := s.High, Fall := s.Fall, A := r4680, B := r4697, Half := r4714, Peak := r4731, Cards := r4746 } : Stm), (0 : Int)))))))) else (some (({ Wide := (0 : Int), High := (0 : Int), Fall := (0 : Int), A := ({ Lo := (0 : Int), Hi := (0 : Int) } : Rg), B := ({ Lo := (0 : Int), Hi := (0 : Int) } : Rg), Half := ({ Lo := (0 : Int), Hi := (0 : Int) } : Rg), Peak := ({ Lo := (0 : Int), Hi := (0 : Int) } : Rg), Cards := [] } : Stm), r4644.2))))
def pVerdict (s : Stm) (r : Rct) : Option (Int × Int) := ((popenTrue s ([r] : List Rct)).bind fun r4796 => (if r4796.2 = (0 : Int) then ((pwitness r4796.1 r false).bind fun r4823 => (if r4823.2 = true then ((pwitness r4796.1 r true).bind fun r4848 => (if r4848.2 = true then (some ((3 : Int), (0 : Int))) else (some ((2 : Int), (0 : Int))))) else (some ((1 : Int), (0 : Int))))) else (some ((0 : Int), r4796.2))))
def psizes1 (t : Trh) (w : Wk) (x : Int) (y : Int) : Option (Int) := ((psize w.s t x y).bind fun r4999 => (some r4999))
def pSizes (s : Stm) (x : Int) (y : Int) : Option (Rg × Int) := ((popenTrue s ([({ X := ({ Lo := x, Hi := x } : Rg), Y := ({ Lo := y, Hi := y } : Rg) } : Rct)] : List Rct)).bind fun r5049 => (if r5049.2 = (0 : Int) then ((pspan r5049.1 (fun a5112 => psizes1 a5112 r5049.1 x y)).bind fun r5114 => (some (r5114, (0 : Int)))) else (some (({ Lo := (0 : Int), Hi := (0 : Int) } : Rg), r5049.2))))
def pFirst_L0 (r5139 : Wk) : Nat → Int → Option (Int × Int)
 | 0, _ => none
 | d5164 + 1, x49 => (if x49 < (r5139.s.Cards.length : Int) then ((pupTo x49).bind fun r5166 => ((pcanHold r5139 r5166).bind fun r5173 => (if r5173 = true then (gd (fitsP .i64 (x49 + 1)) (pFirst_L0 r5139 d5164 (x49 + 1))) else (some (x49, (0 : Int)))))) else (some ((0 : Int), (7 : Int))))
def pFirst (s : Stm) : Option (Int × Int) := ((pcheck s).bind fun r5132 => (if r5132 = 0 then ((popen s).bind fun r5139 => (pFirst_L0 r5139 (r5139.s.Cards.length + 1) (0 : Int))) else (some ((0 : Int), r5132))))
def pclash_L0 (w : Wk) (list : List Int) : Nat → Bool → Bool → Bool → Bool → Bool → Bool → Int → Option (Bool)
 | 0, _, _, _, _, _, _, _ => none
 | d5201 + 1, y5195, y5196, y5197, y5198, y5199, y5200, x3 => (if x3 < (list.length : Int) then ((idx list x3).bind fun x5203 => (gd (0 ≤ x5203 ∧ x5203 < 6) (gd (fitsP .i64 (x3 + 1)) (pclash_L0 w list d5201 (sti x5203 0 true y5195) (sti x5203 1 true y5196) (sti x5203 2 true y5197) (sti x5203 3 true y5198) (sti x5203 4 true y5199) (sti x5203 5 true y5200) (x3 + 1))))) else ((pcanHold w ({ c0 := y5195, c1 := y5196, c2 := y5197, c3 := y5198, c4 := y5199, c5 := y5200 } : Cds)).bind fun r5213 => (some (!r5213))))
def pclash (w : Wk) (list : List Int) : Option (Bool) := (pclash_L0 w list (list.length + 1) false false false false false false (0 : Int))
def pcanLeave_L0 (w : Wk) (list : List Int) : Nat → Bool → Bool → Bool → Bool → Bool → Bool → Int → Option (Bool)
 | 0, _, _, _, _, _, _, _ => none
 | d5251 + 1, y5245, y5246, y5247, y5248, y5249, y5250, x25 => (if x25 < (list.length : Int) then ((idx list x25).bind fun x5253 => (gd (0 ≤ x5253 ∧ x5253 < 6) (gd (fitsP .i64 (x25 + 1)) (pcanLeave_L0 w list d5251 (sti x5253 0 false y5245) (sti x5253 1 false y5246) (sti x5253 2 false y5247) (sti x5253 3 false y5248) (sti x5253 4 false y5249) (sti x5253 5 false y5250) (x25 + 1))))) else ((pcanHold w ({ c0 := y5245, c1 := y5246, c2 := y5247, c3 := y5248, c4 := y5249, c5 := y5250 } : Cds)).bind fun r5263 => (some r5263)))
def pcanLeave (w : Wk) (list : List Int) : Option (Bool) := ((pallCards w).bind fun r5225 => (pcanLeave_L0 w list (list.length + 1) r5225.c0 r5225.c1 r5225.c2 r5225.c3 r5225.c4 r5225.c5 (0 : Int)))
def pshortest1 (list : List Int) (q : Qst) (w : Wk) : Option (Bool) := ((q.must w list).bind fun r5270 => (some r5270))
def pshortestX (w : Wk) (q : Qst) : Option (List Int) := ((pshortest (w.s.Cards.length : Int) (fun a5295 => pshortest1 a5295 q w)).bind fun r5299 => (some r5299))
def pLeave (s : Stm) : Option (List Int × Int) := ((pcheck s).bind fun r5312 => (if r5312 = 0 then ((popen s).bind fun r5319 => ((pshortestX r5319 ({ must := (fun a5330 a5331 => pcanLeave a5330 a5331) } : Qst)).bind fun r5339 => (some (r5339, (0 : Int))))) else (some ([], r5312))))
def pClash (s : Stm) : Option (List Int × Int) := ((pcheck s).bind fun r5353 => (if r5353 = 0 then ((popen s).bind fun r5360 => ((phasTruth r5360).bind fun r5383 => (if r5383 = true then (some ([], (7 : Int))) else ((pshortestX r5360 ({ must := (fun a5391 a5392 => pclash a5391 a5392) } : Qst)).bind fun r5400 => (some (r5400, (0 : Int))))))) else (some ([], r5353))))
def pProveTruth (s : Stm) (t : Trh) : Option (Bool) := ((pcheck s).bind fun r5421 => (if r5421 = 0 then ((pisChoice s t).bind fun r5443 => (if r5443 = true then ((prightCards ({ s := s, right := none } : Wk) t).bind fun r5452 => ((pallCards ({ s := s, right := none } : Wk)).bind fun r5460 => (some ((r5452.c0 == r5460.c0) && ((r5452.c1 == r5460.c1) && ((r5452.c2 == r5460.c2) && ((r5452.c3 == r5460.c3) && ((r5452.c4 == r5460.c4) && (r5452.c5 == r5460.c5))))))))) else (some false))) else (some false)))
def pStormTruth (s : Stm) (which : Int) (words : List W16) (whr : Int) : Option (Bool) := ((plReady s).bind fun r6071 => (if r6071 = true then ((plCarded s which words).bind fun r6084 => ((plBox r6084.1 whr).bind fun r6120 => ((plStorm r6084.1).bind fun r6144 => ((pLeave r6144).bind fun r6156 => ((plStorm r6084.1).bind fun r6168 => ((pClash r6168).bind fun r6180 => ((plStorm r6084.1).bind fun r6192 => ((pFirst r6192).bind fun r6204 => ((plStorm r6084.1).bind fun r6213 => ((pBounds r6213).bind fun r6225 => ((plStorm r6084.1).bind fun r6255 => ((plRect r6120).bind fun r6268 => ((pVerdict r6255 r6268).bind fun r6278 => ((plStorm r6084.1).bind fun r6299 => ((pSizes r6299 r6120.X.Lo r6120.Y.Lo).bind fun r6313 => (if r6156.2 = (0 : Int) then (if (r6156.1.length : Int) = (0 : Int) then (if r6180.2 = (7 : Int) then (if r6204.2 = (7 : Int) then (if r6225.2 = (0 : Int) then (if r6278.2 = (0 : Int) then (if r6313.2 = (0 : Int) then ((plStorm r6084.1).bind fun r6350 => ((plTruth r6084.2).bind fun r6364 => ((pProveTruth r6350 r6364).bind fun r6375 => (if r6375 = true then ((prPlaces r6084.1 r6084.2 r6120).bind fun r6387 => ((plIn r6084.2.A r6225.1.A).bind fun r6398 => (if r6398 = true then ((plIn r6084.2.B r6225.1.B).bind fun r6410 => (if r6410 = true then ((plIn r6084.2.Half r6225.1.Half).bind fun r6422 => (if r6422 = true then ((plIn r6084.2.Peak r6225.1.Peak).bind fun r6434 => (if r6434 = true then ((prSize r6084.1 r6084.2 r6120.X.Lo r6120.Y.Lo).bind fun r6446 => ((plIn r6446 r6313.1).bind fun r6457 => (if r6457 = true then (if r6278.1 = (1 : Int) then (if r6387.2 = true then (if r6278.1 = (2 : Int) then (if r6387.1 = true then (some false) else ((pawake).bind fun r6508 => (some r6508))) else ((pawake).bind fun r6496 => (some r6496))) else (some false)) else (if r6278.1 = (2 : Int) then (if r6387.1 = true then (some false) else ((pawake).bind fun r6483 => (some r6483))) else ((pawake).bind fun r6471 => (some r6471)))) else (some false)))) else (some false))) else (some false))) else (some false))) else (some false)))) else (some false))))) else (some false)) else (some false)) else (some false)) else (some false)) else (some false)) else (some false)) else (some false))))))))))))))))) else ((pawake).bind fun r6078 => (some r6078))))
end
end Go.Proofs.Ytbnfnhfanooplaa

namespace Go.Proofs.Ytbnfnhfanooplaa
open _root_.Go.Proofs.Try
open Go.Abs
set_option maxRecDepth 100000
noncomputable section
theorem c135 {a100 : Int} {a101 : Int} {a102 : Int} {a103 : Int} {a104 : Bool} {a105 : Int} {a106 : Int} {b0 : Nat} {m : M} {Q : V → M → Prop} (h :
 (∀ m0 : M, (m0 = (M.new m (AO.cells 7 [(Il a100), (Il a101), (Il a102), 
 (Il a103), (.bool a104), (Il a105), (Il a106)] false))) → 
 ∃ c1 : C, ((ldC m0 (.ptr b0 0)) = (some c1)) ∧ ∃ x2 x3 x4 x5, 
 ∃ b6 : Bool, ∃ x7 x8, ((ldA m0 (.ptr m.nxt 0) 7) = (some [(Il x2), 
 (Il x3), (Il x4), (Il x5), (.bool b6), (Il x7), 
 (Il x8)])) ∧ callP prog tbl [(.agg 7 [(Il x2), (Il x3), 
 (Il x4), (Il x5), (.bool b6), (Il x7), (Il x8)])] c1 m0 (fun v9 m10 => 
 ∃ b11 : Bool, (v9 = (.c (.bool b11))) ∧ Q (.c (.bool (!b11))) m10))) : Wc prog tbl 135 [.agg 7 [Il a100, Il a101, Il a102, Il a103, .bool a104, Il a105, Il a106], .c (.ptr b0 0)] m Q :=
 wc_eq (n := 2) rfl (by kernel_rfl) (by kernel_rfl) h
theorem c127 {a100 : Int} {a101 : Int} {a102 : Int} {a103 : Int} {b0 : Nat} {m : M} {Q : V → M → Prop} (h :
 (∀ m0 : M, (m0 = (M.new m (AO.cells 4 [(Il a100), (Il a101), (Il a102), 
 (Il a103)] false))) → ∃ c1 : C, ((ldC m0 (.ptr b0 0)) = (some c1)) ∧ ∃ x2, 
 ∃ x3 x4 x5, ((ldA m0 (.ptr m.nxt 0) 4) = (some [(Il x2), 
 (Il x3), (Il x4), (Il x5)])) ∧ callP prog tbl [(.agg 4 [(Il x2), 
 (Il x3), (Il x4), (Il x5)])] c1 m0 (fun v6 m7 => 
 ∃ b8 : Bool, (v6 = (.c (.bool b8))) ∧ Q (.c (.bool (!b8))) m7))) : Wc prog tbl 127 [.agg 4 [Il a100, Il a101, Il a102, Il a103], .c (.ptr b0 0)] m Q :=
 wc_eq (n := 2) rfl (by kernel_rfl) (by kernel_rfl) h
theorem c129 {a100 : C} {b0 : Nat} {m : M} {Q : V → M → Prop} (h :
 (∃ x0 x1, ((ldA m (.ptr b0 0) 2) = (some [(Il x0), (Il x1)])) ∧ 
 Wc prog tbl 125 [(.agg 2 [(Il x0), (Il x1)])] m (fun v2 m3 => ∃ x4, 
 (v2 = (.c (Il x4))) ∧ ∀ R5 : List V → M → Prop, (∀ x6 : Int, ∀ m7 : M, (ifB (decide (x6 < x4)) (isPt (.ptr b0 0) ∧ 
 ∃ x8, ((ldC m7 (.ptr b0 0)) = (some (Il x8))) ∧ fitsP .i64 (x8 + x6) ∧ 
 callP prog tbl [(.c (Il (x8 + x6)))] a100 m7 (fun v9 m10 => ∃ b11 : Bool, 
 (v9 = (.c (.bool b11))) ∧ ifB (!b11) (Q (.tup []) m10) (fitsP .i64 (x6 + 1) ∧ 
 R5 [(.c (Il (x6 + 1)))] m10))) (Q (.tup []) m7)) → 
 R5 [(.c (Il x6))] m7) → R5 [(.c (Il 0))] m3))) : Wc prog tbl 129 [.c (a100), .c (.ptr b0 0)] m Q :=
 wc_eq (n := 2) rfl (by kernel_rfl) (by kernel_rfl) h
theorem c114 {a100 : C} {b0 : Nat} {m : M} {Q : V → M → Prop} (h :
 (∀ m0 : M, (m0 = (M.new m (AO.cells 1 [a100] false))) → isPt (.ptr b0 0) ∧ ∃ x1 x2, ((ldA m0 (.ptr b0 0) 2) = (some [(Il x1), 
 (Il x2)])) ∧ Wc prog tbl 115 [(.agg 2 [(Il x1), (Il x2)])] m0 (fun v3 m4 => 
 ∃ c5 : C, (v3 = (.c c5)) ∧ rangeP prog tbl c5 m4 (fun l6 m7 R8 R9 => ∃ x10, (l6 = [(.c (Il x10))]) ∧ 
 ∀ m11 : M, (m11 = (M.new m7 (AO.cells 1 [(Il 0)] false))) → ∃ m12 : M, 
 ((stC m11 (.ptr m7.nxt 0) 1 [(Il x10)]) = (some m12)) ∧ R8 m12 (fun m13 => 
 isPt (.ptr b0 0) ∧ ∃ x14 x15, ((ldA m13 (.ptr b0 2) 2) = (some [(Il x14), 
 (Il x15)])) ∧ Wc prog tbl 115 [(.agg 2 [(Il x14), 
 (Il x15)])] m13 (fun v16 m17 => ∃ c18 : C, (v16 = (.c c18)) ∧ 
 rangeP prog tbl c18 m17 (fun l19 m20 R21 R22 => ∃ x23, (l19 = [(.c (Il x23))]) ∧ 
 R21 m20 (fun m24 => ∃ c25 : C, ((ldC m24 (.ptr m.nxt 0)) = (some c25)) ∧ 
 ∃ x26, ((ldC m24 (.ptr m7.nxt 0)) = (some (Il x26))) ∧ 
 callP prog tbl [(.c (Il x26)), (.c (Il x23))] c25 m24 (fun v27 m28 => 
 ∃ b29 : Bool, (v27 = (.c (.bool b29))) ∧ ifB (!b29) (R22 Ex.ret m28) (R22 Ex.nrm m28)))) (After.mk (fun m30 => 
 R9 Ex.nrm m30) [] (fun m31 => R9 Ex.ret m31))))) (After.mk (fun m32 => 
 Q (.tup []) m32) [] (fun m33 => Q (.tup []) m33))))) : Wc prog tbl 114 [.c (a100), .c (.ptr b0 0)] m Q :=
 wc_eq (n := 2) rfl (by kernel_rfl) (by kernel_rfl) h
theorem c130 {a100 : C} {b0 : Nat} {m : M} {Q : V → M → Prop} (h :
 (∀ m0 : M, (m0 = (M.new m (AO.cells 1 [a100] false))) → isPt (.ptr b0 0) ∧ ∃ x1 x2, ((ldA m0 (.ptr b0 3) 2) = (some [(Il x1), 
 (Il x2)])) ∧ Wc prog tbl 115 [(.agg 2 [(Il x1), (Il x2)])] m0 (fun v3 m4 => 
 ∃ c5 : C, (v3 = (.c c5)) ∧ rangeP prog tbl c5 m4 (fun l6 m7 R8 R9 => ∃ x10, (l6 = [(.c (Il x10))]) ∧ 
 ∀ m11 : M, (m11 = (M.new m7 (AO.cells 1 [(Il 0)] false))) → ∃ m12 : M, 
 ((stC m11 (.ptr m7.nxt 0) 1 [(Il x10)]) = (some m12)) ∧ R8 m12 (fun m13 => 
 isPt (.ptr b0 0) ∧ ∃ x14 x15, ((ldA m13 (.ptr b0 5) 2) = (some [(Il x14), 
 (Il x15)])) ∧ Wc prog tbl 115 [(.agg 2 [(Il x14), 
 (Il x15)])] m13 (fun v16 m17 => ∃ c18 : C, (v16 = (.c c18)) ∧ 
 rangeP prog tbl c18 m17 (fun l19 m20 R21 R22 => ∃ x23, (l19 = [(.c (Il x23))]) ∧ 
 ∀ m24 : M, (m24 = (M.new m20 (AO.cells 1 [(Il 0)] false))) → 
 ∃ m25 : M, ((stC m24 (.ptr m20.nxt 0) 1 [(Il x23)]) = (some m25)) ∧ 
 R21 m25 (fun m26 => isPt (.ptr b0 0) ∧ ∃ x27 x28, ((ldA m26 (.ptr b0 7) 2) = (some [(Il x27), 
 (Il x28)])) ∧ Wc prog tbl 115 [(.agg 2 [(Il x27), 
 (Il x28)])] m26 (fun v29 m30 => ∃ c31 : C, (v29 = (.c c31)) ∧ 
 rangeP prog tbl c31 m30 (fun l32 m33 R34 R35 => ∃ x36, (l32 = [(.c (Il x36))]) ∧ 
 ∀ m37 : M, (m37 = (M.new m33 (AO.cells 1 [(Il 0)] false))) → 
 ∃ m38 : M, ((stC m37 (.ptr m33.nxt 0) 1 [(Il x36)]) = (some m38)) ∧ 
 R34 m38 (fun m39 => isPt (.ptr b0 0) ∧ ∃ x40 x41, ((ldA m39 (.ptr b0 9) 2) = (some [(Il x40), 
 (Il x41)])) ∧ Wc prog tbl 115 [(.agg 2 [(Il x40), 
 (Il x41)])] m39 (fun v42 m43 => ∃ c44 : C, (v42 = (.c c44)) ∧ 
 rangeP prog tbl c44 m43 (fun l45 m46 R47 R48 => ∃ x49, (l45 = [(.c (Il x49))]) ∧ 
 R47 m46 (fun m50 => ∃ c51 : C, ((ldC m50 (.ptr m.nxt 0)) = (some c51)) ∧ 
 ∃ x52, ((ldC m50 (.ptr m7.nxt 0)) = (some (Il x52))) ∧ 
 ∃ x53, ((ldC m50 (.ptr m20.nxt 0)) = (some (Il x53))) ∧ 
 ∃ x54, ((ldC m50 (.ptr m33.nxt 0)) = (some (Il x54))) ∧ 
 callP prog tbl [(.agg 4 [(Il x52), (Il x53), 
 (Il x54), (Il x49)])] c51 m50 (fun v55 m56 => ∃ b57 : Bool, 
 (v55 = (.c (.bool b57))) ∧ ifB (!b57) (R48 Ex.ret m56) (R48 Ex.nrm m56)))) (After.mk (fun m58 => 
 R35 Ex.nrm m58) [] (fun m59 => R35 Ex.ret m59))))) (After.mk (fun m60 => 
 R22 Ex.nrm m60) [] (fun m61 => R22 Ex.ret m61))))) (After.mk (fun m62 => 
 R9 Ex.nrm m62) [] (fun m63 => R9 Ex.ret m63))))) (After.mk (fun m64 => 
 Q (.tup []) m64) [] (fun m65 => Q (.tup []) m65))))) : Wc prog tbl 130 [.c (a100), .c (.ptr b0 0)] m Q :=
 wc_eq (n := 2) rfl (by kernel_rfl) (by kernel_rfl) h
theorem c128 {a100 : C} {b0 : Nat} {m : M} {Q : V → M → Prop} (h :
 (∀ m0 : M, (m0 = (M.new m (AO.cells 1 [a100] false))) → ∃ x1 x2 x3 x4 x5, 
 ∃ x6 x7 x8 x9 x10 x11, ∃ c12 : C, ∃ c13 : C, 
 ((ldA m0 (.ptr b0 0) 13) = (some [(Il x1), (Il x2), (Il x3), 
 (Il x4), (Il x5), (Il x6), (Il x7), 
 (Il x8), (Il x9), (Il x10), (Il x11), 
 c12, c13])) ∧ Wc prog tbl 92 [(.agg 13 [(Il x1), (Il x2), 
 (Il x3), (Il x4), (Il x5), (Il x6), 
 (Il x7), (Il x8), (Il x9), (Il x10), 
 (Il x11), c12, c13])] m0 (fun v14 m15 => ∃ b16 : Bool, ∃ b17 : Bool, ∃ b18 : Bool, 
 ∃ b19 : Bool, ∃ b20 : Bool, ∃ b21 : Bool, (v14 = (.agg 6 [(.bool b16), (.bool b17), 
 (.bool b18), (.bool b19), (.bool b20), (.bool b21)])) ∧ ∀ m22 : M, (m22 = (M.new m15 (AO.cells 6 [(.bool false), 
 (.bool false), (.bool false), (.bool false), (.bool false), (.bool false)] false))) → 
 ∃ m23 : M, ((stC m22 (.ptr m15.nxt 0) 6 [(.bool b16), (.bool b17), (.bool b18), 
 (.bool b19), (.bool b20), (.bool b21)]) = (some m23)) ∧ isPt (.ptr b0 0) ∧ 
 ∃ x24 x25 x26 x27 x28 x29, 
 ∃ x30 x31 x32 x33 x34, ∃ c35 : C, 
 ((ldA m23 (.ptr b0 0) 12) = (some [(Il x24), (Il x25), 
 (Il x26), (Il x27), (Il x28), (Il x29), 
 (Il x30), (Il x31), (Il x32), (Il x33), 
 (Il x34), c35])) ∧ Wc prog tbl 116 [(.agg 12 [(Il x24), 
 (Il x25), (Il x26), (Il x27), (Il x28), 
 (Il x29), (Il x30), (Il x31), (Il x32), 
 (Il x33), (Il x34), c35])] m23 (fun v36 m37 => 
 ∃ c38 : C, (v36 = (.c c38)) ∧ rangeP prog tbl c38 m37 (fun l39 m40 R41 R42 => 
 ∃ x43 x44 x45 x46, (l39 = [(.agg 4 [(Il x43), 
 (Il x44), (Il x45), (Il x46)])]) ∧ 
 ∀ m47 : M, (m47 = (M.new m40 (AO.cells 4 [(Il 0), (Il 0), 
 (Il 0), (Il 0)] false))) → ∃ m48 : M, 
 ((stC m47 (.ptr m40.nxt 0) 4 [(Il x43), (Il x44), 
 (Il x45), (Il x46)]) = (some m48)) ∧ R41 m48 (fun m49 => 
 isPt (.ptr b0 0) ∧ ∃ c50 : C, ((ldC m49 (.ptr b0 12)) = (some c50)) ∧ 
 ∃ x51 x52 x53 x54, ((ldA m49 (.ptr m40.nxt 0) 4) = (some [(Il x51), 
 (Il x52), (Il x53), (Il x54)])) ∧ 
 ∃ y55 : Option U, ((lkM prog 43 m49 c50 (.agg 4 [(Il x51), 
 (Il x52), (Il x53), (Il x54)])) = (some y55)) ∧ 
 ((y55 = Option.none) → ∃ b56 : Bool, ∃ b57 : Bool, ∃ b58 : Bool, ∃ b59 : Bool, 
 ∃ b60 : Bool, ∃ b61 : Bool, ((ldA m49 (.ptr m15.nxt 0) 6) = (some [(.bool b56), 
 (.bool b57), (.bool b58), (.bool b59), (.bool b60), (.bool b61)])) ∧ ifB ((false == b56) && ((false == b57) && ((false == b58) && ((false == b59) && ((false == b60) && (false == b61)))))) (∃ c62 : C, 
 ((ldC m49 (.ptr m.nxt 0)) = (some c62)) ∧ ∃ x63 x64, 
 ∃ x65 x66, ((ldA m49 (.ptr m40.nxt 0) 4) = (some [(Il x63), 
 (Il x64), (Il x65), (Il x66)])) ∧ 
 callP prog tbl [(.agg 4 [(Il x63), (Il x64), 
 (Il x65), (Il x66)])] c62 m49 (fun v67 m68 => ∃ b69 : Bool, 
 (v67 = (.c (.bool b69))) ∧ ifB (!b69) (R42 Ex.ret m68) (R42 Ex.nrm m68))) (R42 Ex.nrm m49)) ∧ 
 ∀ u70 : U, (y55 = (some u70)) → ∃ b71 : Bool, ∃ b72 : Bool, ∃ b73 : Bool, 
 ∃ b74 : Bool, ∃ b75 : Bool, ∃ b76 : Bool, (u70 = (.agg 6 [(.bool b71), 
 (.bool b72), (.bool b73), (.bool b74), (.bool b75), (.bool b76)])) ∧ ∃ b77 : Bool, 
 ∃ b78 : Bool, ∃ b79 : Bool, ∃ b80 : Bool, ∃ b81 : Bool, ∃ b82 : Bool, ((ldA m49 (.ptr m15.nxt 0) 6) = (some [(.bool b77), 
 (.bool b78), (.bool b79), (.bool b80), (.bool b81), (.bool b82)])) ∧ ifB ((b71 == b77) && ((b72 == b78) && ((b73 == b79) && ((b74 == b80) && ((b75 == b81) && (b76 == b82)))))) (∃ c83 : C, 
 ((ldC m49 (.ptr m.nxt 0)) = (some c83)) ∧ ∃ x84 x85, 
 ∃ x86 x87, ((ldA m49 (.ptr m40.nxt 0) 4) = (some [(Il x84), 
 (Il x85), (Il x86), (Il x87)])) ∧ 
 callP prog tbl [(.agg 4 [(Il x84), (Il x85), 
 (Il x86), (Il x87)])] c83 m49 (fun v88 m89 => ∃ b90 : Bool, 
 (v88 = (.c (.bool b90))) ∧ ifB (!b90) (R42 Ex.ret m89) (R42 Ex.nrm m89))) (R42 Ex.nrm m49))) (After.mk (fun m91 => 
 Q (.tup []) m91) [] (fun m92 => Q (.tup []) m92)))))) : Wc prog tbl 128 [.c (a100), .c (.ptr b0 0)] m Q :=
 wc_eq (n := 2) rfl (by kernel_rfl) (by kernel_rfl) h
theorem c74 {a100 : Int} {a101 : Int} {a102 : Int} {a103 : Int} {b0 : Nat} {b1 : Nat} {b2 : Nat} {m : M} {Q : V → M → Prop} (h :
 (∀ m0 : M, (m0 = (M.new m (AO.cells 4 [(Il a100), (Il a101), (Il a102), 
 (Il a103)] false))) → isPt (.ptr b0 0) ∧ ∃ x1 x2 x3 x4, 
 ∃ x5 x6 x7 x8 x9 x10 x11, ∃ c12 : C, 
 ((ldA m0 (.ptr b0 0) 12) = (some [(Il x1), (Il x2), (Il x3), 
 (Il x4), (Il x5), (Il x6), (Il x7), 
 (Il x8), (Il x9), (Il x10), (Il x11), 
 c12])) ∧ ∃ x13 x14 x15 x16, ((ldA m0 (.ptr m.nxt 0) 4) = (some [(Il x13), 
 (Il x14), (Il x15), (Il x16)])) ∧ ∃ x17, 
 ((ldC m0 (.ptr b1 0)) = (some (Il x17))) ∧ ∃ x18, ((ldC m0 (.ptr b2 0)) = (some (Il x18))) ∧ 
 Wc prog tbl 75 [(.agg 12 [(Il x1), (Il x2), (Il x3), 
 (Il x4), (Il x5), (Il x6), (Il x7), 
 (Il x8), (Il x9), (Il x10), (Il x11), 
 c12]), (.agg 4 [(Il x13), (Il x14), (Il x15), 
 (Il x16)]), (.c (Il x17)), (.c (Il x18))] m0 (fun v19 m20 => 
 ∃ x21, (v19 = (.c (Il x21))) ∧ Q (.c (Il x21)) m20))) : Wc prog tbl 74 [.agg 4 [Il a100, Il a101, Il a102, Il a103], .c (.ptr b0 0), .c (.ptr b1 0), .c (.ptr b2 0)] m Q :=
 wc_eq (n := 4) rfl (by kernel_rfl) (by kernel_rfl) h
theorem c119 {a100 : C} {b0 : Nat} {b1 : Nat} {m : M} {Q : V → M → Prop} (h :
 (isPt (.ptr b0 0) ∧ ∃ c0 : C, ((ldC m (.ptr b0 0)) = (some c0)) ∧ ∃ x1 x2 x3, 
 ∃ x4 x5 x6 x7 x8 x9 x10 x11, 
 ∃ c12 : C, ∃ c13 : C, ((ldA m (.ptr b1 0) 13) = (some [(Il x1), (Il x2), 
 (Il x3), (Il x4), (Il x5), (Il x6), 
 (Il x7), (Il x8), (Il x9), (Il x10), 
 (Il x11), c12, c13])) ∧ callP prog tbl [(.agg 13 [(Il x1), 
 (Il x2), (Il x3), (Il x4), (Il x5), 
 (Il x6), (Il x7), (Il x8), (Il x9), 
 (Il x10), (Il x11), c12, c13]), (.c a100)] c0 m (fun v14 m15 => 
 ∃ b16 : Bool, (v14 = (.c (.bool b16))) ∧ Q (.c (.bool b16)) m15))) : Wc prog tbl 119 [.c (a100), .c (.ptr b0 0), .c (.ptr b1 0)] m Q :=
 wc_eq (n := 3) rfl (by kernel_rfl) (by kernel_rfl) h
end
end Go.Proofs.Ytbnfnhfanooplaa

namespace Go.Proofs.Ytbnfnhfanooplaa
open _root_.Go.Proofs.Try
open Go.Abs
set_option maxRecDepth 100000
noncomputable section
theorem w7 {a100 : Int} {a101 : Int} {a102 : Int} {a103 : Int} {a104 : Int} {a105 : Int} {a106 : Int} {a107 : Int} {a108 : Int} {a109 : Int} {a110 : Int} {a111 : C} {a200 : Int} {a300 : C} {a400 : Int} {m : M} {Q : V → M → Prop} (h :
 (∀ m0 : M, (m0 = (M.new m (AO.cells 12 [(Il a100), (Il a101), (Il a102), 
 (Il a103), (Il a104), (Il a105), (Il a106), 
 (Il a107), (Il a108), (Il a109), (Il a110), 
 a111] false))) → ∃ x1 x2 x3 x4 x5 x6 x7, 
 ∃ x8 x9 x10 x11, ∃ c12 : C, ((ldA m0 (.ptr m.nxt 0) 12) = (some [(Il x1), 
 (Il x2), (Il x3), (Il x4), (Il x5), 
 (Il x6), (Il x7), (Il x8), (Il x9), 
 (Il x10), (Il x11), c12])) ∧ Wc prog tbl 49 [(.agg 12 [(Il x1), 
 (Il x2), (Il x3), (Il x4), (Il x5), 
 (Il x6), (Il x7), (Il x8), (Il x9), 
 (Il x10), (Il x11), c12])] m0 (fun v13 m14 => ∃ b15 : Bool, 
 (v13 = (.c (.bool b15))) ∧ ifB (!b15) (Wc prog tbl 17 [] m14 (fun v16 m17 => ∃ b18 : Bool, 
 (v16 = (.c (.bool b18))) ∧ Q (.c (.bool b18)) m17)) (∃ x19 x20, 
 ∃ x21 x22 x23 x24 x25 x26 x27, 
 ∃ x28 x29, ∃ c30 : C, ((ldA m14 (.ptr m.nxt 0) 12) = (some [(Il x19), 
 (Il x20), (Il x21), (Il x22), (Il x23), 
 (Il x24), (Il x25), (Il x26), (Il x27), 
 (Il x28), (Il x29), c30])) ∧ Wc prog tbl 50 [(.agg 12 [(Il x19), 
 (Il x20), (Il x21), (Il x22), (Il x23), 
 (Il x24), (Il x25), (Il x26), (Il x27), 
 (Il x28), (Il x29), c30]), (.c (C.int .u16 a200)), 
 (.c a300)] m14 (fun v31 m32 => ∃ x33 x34 x35 x36, 
 ∃ x37 x38 x39 x40 x41 x42, 
 ∃ x43, ∃ c44 : C, ∃ x45 x46 x47 x48, 
 (v31 = (.tup [(.agg 12 [(Il x33), (Il x34), 
 (Il x35), (Il x36), (Il x37), (Il x38), 
 (Il x39), (Il x40), (Il x41), (Il x42), 
 (Il x43), c44]), (.agg 4 [(Il x45), (Il x46), 
 (Il x47), (Il x48)])])) ∧ ∀ m49 : M, (m49 = (M.new m32 (AO.cells 12 [(Il 0), 
 (Il 0), (Il 0), (Il 0), 
 (Il 0), (Il 0), (Il 0), 
 (Il 0), (Il 0), (Il 0), 
 (Il 0), C.sl0] false))) → ∀ m50 : M, (m50 = (M.new m49 (AO.cells 4 [(Il 0), 
 (Il 0), (Il 0), (Il 0)] false))) → 
 ∃ m51 : M, ((stC m50 (.ptr m32.nxt 0) 12 [(Il x33), (Il x34), 
 (Il x35), (Il x36), (Il x37), (Il x38), 
 (Il x39), (Il x40), (Il x41), (Il x42), 
 (Il x43), c44]) = (some m51)) ∧ ∃ m52 : M, ((stC m51 (.ptr m49.nxt 0) 4 [(Il x45), 
 (Il x46), (Il x47), (Il x48)]) = (some m52)) ∧ 
 ∃ x53 x54 x55 x56 x57 x58, 
 ∃ x59 x60 x61 x62 x63, ∃ c64 : C, 
 ((ldA m52 (.ptr m32.nxt 0) 12) = (some [(Il x53), (Il x54), 
 (Il x55), (Il x56), (Il x57), (Il x58), 
 (Il x59), (Il x60), (Il x61), (Il x62), 
 (Il x63), c64])) ∧ Wc prog tbl 51 [(.agg 12 [(Il x53), 
 (Il x54), (Il x55), (Il x56), (Il x57), 
 (Il x58), (Il x59), (Il x60), (Il x61), 
 (Il x62), (Il x63), c64]), (.c (C.int .u16 a400))] m52 (fun v65 m66 => 
 ∃ x67 x68 x69 x70, (v65 = (.agg 4 [(Il x67), 
 (Il x68), (Il x69), (Il x70)])) ∧ 
 ∀ m71 : M, (m71 = (M.new m66 (AO.cells 4 [(Il 0), (Il 0), 
 (Il 0), (Il 0)] false))) → ∃ m72 : M, 
 ((stC m71 (.ptr m66.nxt 0) 4 [(Il x67), (Il x68), 
 (Il x69), (Il x70)]) = (some m72)) ∧ ∃ x73, 
 ∃ x74 x75 x76 x77 x78 x79, 
 ∃ x80 x81 x82 x83, ∃ c84 : C, ((ldA m72 (.ptr m32.nxt 0) 12) = (some [(Il x73), 
 (Il x74), (Il x75), (Il x76), (Il x77), 
 (Il x78), (Il x79), (Il x80), (Il x81), 
 (Il x82), (Il x83), c84])) ∧ Wc prog tbl 19 [(.agg 12 [(Il x73), 
 (Il x74), (Il x75), (Il x76), (Il x77), 
 (Il x78), (Il x79), (Il x80), (Il x81), 
 (Il x82), (Il x83), c84])] m72 (fun v85 m86 => 
 ∃ x87 x88 x89 x90 x91 x92, 
 ∃ x93 x94 x95 x96 x97, ∃ c98 : C, 
 (v85 = (.agg 12 [(Il x87), (Il x88), (Il x89), 
 (Il x90), (Il x91), (Il x92), (Il x93), 
 (Il x94), (Il x95), (Il x96), (Il x97), 
 c98])) ∧ Wc prog tbl 36 [(.agg 12 [(Il x87), (Il x88), 
 (Il x89), (Il x90), (Il x91), (Il x92), 
 (Il x93), (Il x94), (Il x95), (Il x96), 
 (Il x97), c98])] m86 (fun v99 m100 => ∃ c101 : C, ∃ x102, 
 (v99 = (.tup [(.c c101), (.c (Il x102))])) ∧ ∃ x103, 
 ∃ x104 x105 x106 x107 x108 x109, 
 ∃ x110 x111 x112 x113, ∃ c114 : C, ((ldA m100 (.ptr m32.nxt 0) 12) = (some [(Il x103), 
 (Il x104), (Il x105), (Il x106), 
 (Il x107), (Il x108), (Il x109), 
 (Il x110), (Il x111), (Il x112), 
 (Il x113), c114])) ∧ Wc prog tbl 19 [(.agg 12 [(Il x103), 
 (Il x104), (Il x105), (Il x106), 
 (Il x107), (Il x108), (Il x109), 
 (Il x110), (Il x111), (Il x112), 
 (Il x113), c114])] m100 (fun v115 m116 => ∃ x117 x118, 
 ∃ x119 x120 x121 x122 x123 x124, 
 ∃ x125 x126 x127, ∃ c128 : C, (v115 = (.agg 12 [(Il x117), 
 (Il x118), (Il x119), (Il x120), 
 (Il x121), (Il x122), (Il x123), 
 (Il x124), (Il x125), (Il x126), 
 (Il x127), c128])) ∧ Wc prog tbl 37 [(.agg 12 [(Il x117), 
 (Il x118), (Il x119), (Il x120), 
 (Il x121), (Il x122), (Il x123), 
 (Il x124), (Il x125), (Il x126), 
 (Il x127), c128])] m116 (fun v129 m130 => ∃ c131 : C, ∃ x132, 
 (v129 = (.tup [(.c c131), (.c (Il x132))])) ∧ ∃ x133, 
 ∃ x134 x135 x136 x137 x138 x139, 
 ∃ x140 x141 x142 x143, ∃ c144 : C, ((ldA m130 (.ptr m32.nxt 0) 12) = (some [(Il x133), 
 (Il x134), (Il x135), (Il x136), 
 (Il x137), (Il x138), (Il x139), 
 (Il x140), (Il x141), (Il x142), 
 (Il x143), c144])) ∧ Wc prog tbl 19 [(.agg 12 [(Il x133), 
 (Il x134), (Il x135), (Il x136), 
 (Il x137), (Il x138), (Il x139), 
 (Il x140), (Il x141), (Il x142), 
 (Il x143), c144])] m130 (fun v145 m146 => ∃ x147 x148, 
 ∃ x149 x150 x151 x152 x153 x154, 
 ∃ x155 x156 x157, ∃ c158 : C, (v145 = (.agg 12 [(Il x147), 
 (Il x148), (Il x149), (Il x150), 
 (Il x151), (Il x152), (Il x153), 
 (Il x154), (Il x155), (Il x156), 
 (Il x157), c158])) ∧ Wc prog tbl 35 [(.agg 12 [(Il x147), 
 (Il x148), (Il x149), (Il x150), 
 (Il x151), (Il x152), (Il x153), 
 (Il x154), (Il x155), (Il x156), 
 (Il x157), c158])] m146 (fun v159 m160 => ∃ x161 x162, 
 (v159 = (.tup [(.c (Il x161)), (.c (Il x162))])) ∧ 
 ∃ x163 x164 x165 x166 x167 x168, 
 ∃ x169 x170 x171 x172 x173, ∃ c174 : C, 
 ((ldA m160 (.ptr m32.nxt 0) 12) = (some [(Il x163), 
 (Il x164), (Il x165), (Il x166), 
 (Il x167), (Il x168), (Il x169), 
 (Il x170), (Il x171), (Il x172), 
 (Il x173), c174])) ∧ Wc prog tbl 19 [(.agg 12 [(Il x163), 
 (Il x164), (Il x165), (Il x166), 
 (Il x167), (Il x168), (Il x169), 
 (Il x170), (Il x171), (Il x172), 
 (Il x173), c174])] m160 (fun v175 m176 => ∃ x177 x178, 
 ∃ x179 x180 x181 x182 x183 x184, 
 ∃ x185 x186 x187, ∃ c188 : C, (v175 = (.agg 12 [(Il x177), 
 (Il x178), (Il x179), (Il x180), 
 (Il x181), (Il x182), (Il x183), 
 (Il x184), (Il x185), (Il x186), 
 (Il x187), c188])) ∧ Wc prog tbl 47 [(.agg 12 [(Il x177), 
 (Il x178), (Il x179), (Il x180), 
 (Il x181), (Il x182), (Il x183), 
 (Il x184), (Il x185), (Il x186), 
 (Il x187), c188])] m176 (fun v189 m190 => ∃ x191 x192, 
 ∃ x193 x194 x195 x196 x197 x198, 
 ∃ x199 x200 x201, ∃ c202 : C, ∃ x203, (v189 = (.tup [(.agg 12 [(Il x191), 
 (Il x192), (Il x193), (Il x194), 
 (Il x195), (Il x196), (Il x197), 
 (Il x198), (Il x199), (Il x200), 
 (Il x201), c202]), (.c (Il x203))])) ∧ ∀ m204 : M, 
 (m204 = (M.new m190 (AO.cells 12 [(Il 0), (Il 0), 
 (Il 0), (Il 0), (Il 0), 
 (Il 0), (Il 0), (Il 0), 
 (Il 0), (Il 0), (Il 0), 
 C.sl0] false))) → ∃ m205 : M, ((stC m204 (.ptr m190.nxt 0) 12 [(Il x191), 
 (Il x192), (Il x193), (Il x194), 
 (Il x195), (Il x196), (Il x197), 
 (Il x198), (Il x199), (Il x200), 
 (Il x201), c202]) = (some m205)) ∧ ∃ x206 x207, 
 ∃ x208 x209 x210 x211 x212 x213, 
 ∃ x214 x215 x216, ∃ c217 : C, ((ldA m205 (.ptr m32.nxt 0) 12) = (some [(Il x206), 
 (Il x207), (Il x208), (Il x209), 
 (Il x210), (Il x211), (Il x212), 
 (Il x213), (Il x214), (Il x215), 
 (Il x216), c217])) ∧ Wc prog tbl 19 [(.agg 12 [(Il x206), 
 (Il x207), (Il x208), (Il x209), 
 (Il x210), (Il x211), (Il x212), 
 (Il x213), (Il x214), (Il x215), 
 (Il x216), c217])] m205 (fun v218 m219 => ∃ x220 x221, 
 ∃ x222 x223 x224 x225 x226 x227, 
 ∃ x228 x229 x230, ∃ c231 : C, (v218 = (.agg 12 [(Il x220), 
 (Il x221), (Il x222), (Il x223), 
 (Il x224), (Il x225), (Il x226), 
 (Il x227), (Il x228), (Il x229), 
 (Il x230), c231])) ∧ ∃ x232 x233 x234, 
 ∃ x235, ((ldA m219 (.ptr m66.nxt 0) 4) = (some [(Il x232), 
 (Il x233), (Il x234), (Il x235)])) ∧ 
 ((ldA m205 (.ptr m66.nxt 0) 4) = (some [(Il x232), 
 (Il x233), (Il x234), (Il x235)])) ∧ 
 Wc prog tbl 20 [(.agg 4 [(Il x232), (Il x233), 
 (Il x234), (Il x235)])] m219 (fun v236 m237 => 
 ∃ x238 x239 x240 x241, (v236 = (.agg 4 [(Il x238), 
 (Il x239), (Il x240), (Il x241)])) ∧ 
 Wc prog tbl 18 [(.agg 12 [(Il x220), (Il x221), 
 (Il x222), (Il x223), (Il x224), 
 (Il x225), (Il x226), (Il x227), 
 (Il x228), (Il x229), (Il x230), 
 c231]), (.agg 4 [(Il x238), (Il x239), (Il x240), 
 (Il x241)])] m237 (fun v242 m243 => ∃ x244 x245, 
 (v242 = (.tup [(.c (Il x244)), (.c (Il x245))])) ∧ 
 ∀ m246 : M, (m246 = (mGrow m243 1)) → ∃ x247 x248 x249, 
 ∃ x250 x251 x252 x253 x254 x255, 
 ∃ x256 x257, ∃ c258 : C, ((ldA m246 (.ptr m32.nxt 0) 12) = (some [(Il x247), 
 (Il x248), (Il x249), (Il x250), 
 (Il x251), (Il x252), (Il x253), 
 (Il x254), (Il x255), (Il x256), 
 (Il x257), c258])) ∧ Wc prog tbl 19 [(.agg 12 [(Il x247), 
 (Il x248), (Il x249), (Il x250), 
 (Il x251), (Il x252), (Il x253), 
 (Il x254), (Il x255), (Il x256), 
 (Il x257), c258])] m246 (fun v259 m260 => ∃ x261 x262, 
 ∃ x263 x264 x265 x266 x267 x268, 
 ∃ x269 x270 x271, ∃ c272 : C, (v259 = (.agg 12 [(Il x261), 
 (Il x262), (Il x263), (Il x264), 
 (Il x265), (Il x266), (Il x267), 
 (Il x268), (Il x269), (Il x270), 
 (Il x271), c272])) ∧ isPt (.ptr m66.nxt 0) ∧ isPt (.ptr m66.nxt 0) ∧ 
 ∃ x273, ((ldC m260 (.ptr m66.nxt 0)) = (some (Il x273))) ∧ 
 ((ldC m246 (.ptr m66.nxt 0)) = (some (Il x273))) ∧ 
 isPt (.ptr m66.nxt 0) ∧ isPt (.ptr m66.nxt 2) ∧ ∃ x274, ((ldC m260 (.ptr m66.nxt 2)) = (some (Il x274))) ∧ 
 ((ldC m246 (.ptr m66.nxt 2)) = (some (Il x274))) ∧ 
 Wc prog tbl 29 [(.agg 12 [(Il x261), (Il x262), 
 (Il x263), (Il x264), (Il x265), 
 (Il x266), (Il x267), (Il x268), 
 (Il x269), (Il x270), (Il x271), 
 c272]), (.c (Il x273)), (.c (Il x274))] m260 (fun v275 m276 => 
 ∃ x277 x278 x279, (v275 = (.tup [(.agg 2 [(Il x277), 
 (Il x278)]), (.c (Il x279))])) ∧ ∀ m280 : M, 
 (m280 = (M.set m276 (m243.nxt + 0) (AO.cells 2 [(Il 0), 
 (Il 0)] false))) → ((ldC m280 (.ptr m66.nxt 2)) = (some (Il x274))) ∧ 
 ((ldC m280 (.ptr m66.nxt 0)) = (some (Il x273))) ∧ 
 (ifB (allS cmC [(Il x247), (Il x248), (Il x249), 
 (Il x250), (Il x251), (Il x252), 
 (Il x253), (Il x254), (Il x255), 
 (Il x256), (Il x257), c258]) ((ldA m280 (.ptr m32.nxt 0) 12) = (some [(Il x247), 
 (Il x248), (Il x249), (Il x250), 
 (Il x251), (Il x252), (Il x253), 
 (Il x254), (Il x255), (Il x256), 
 (Il x257), c258])) False) ∧ ∃ m281 : M, ((stC m280 (.ptr (m243.nxt + 0) 0) 2 [(Il x277), 
 (Il x278)]) = (some m281)) ∧ ifB (!decide (x102 = 0)) (Q (.c (.bool false)) m281) (isSl c101 ∧ 
 ifB (!decide ((((slLen c101) : Nat) : Int) = (0 : Int))) (Q (.c (.bool false)) m281) (ifB (!decide (x132 = 7)) (Q (.c (.bool false)) m281) (ifB (!decide (x162 = 7)) (Q (.c (.bool false)) m281) (ifB (!decide (x203 = 0)) (Q (.c (.bool false)) m281) (ifB (!decide (x245 = 0)) (Q (.c (.bool false)) m281) (ifB (!decide (x279 = 0)) (Q (.c (.bool false)) m281) (∃ x282, 
 ∃ x283 x284 x285 x286 x287 x288, 
 ∃ x289 x290 x291 x292, ∃ c293 : C, ((ldA m281 (.ptr m32.nxt 0) 12) = (some [(Il x282), 
 (Il x283), (Il x284), (Il x285), 
 (Il x286), (Il x287), (Il x288), 
 (Il x289), (Il x290), (Il x291), 
 (Il x292), c293])) ∧ Wc prog tbl 19 [(.agg 12 [(Il x282), 
 (Il x283), (Il x284), (Il x285), 
 (Il x286), (Il x287), (Il x288), 
 (Il x289), (Il x290), (Il x291), 
 (Il x292), c293])] m281 (fun v294 m295 => ∃ x296 x297, 
 ∃ x298 x299 x300 x301 x302 x303, 
 ∃ x304 x305 x306, ∃ c307 : C, (v294 = (.agg 12 [(Il x296), 
 (Il x297), (Il x298), (Il x299), 
 (Il x300), (Il x301), (Il x302), 
 (Il x303), (Il x304), (Il x305), 
 (Il x306), c307])) ∧ ∃ x308 x309 x310, 
 ∃ x311, ((ldA m295 (.ptr m49.nxt 0) 4) = (some [(Il x308), 
 (Il x309), (Il x310), (Il x311)])) ∧ 
 ((ldA m281 (.ptr m49.nxt 0) 4) = (some [(Il x308), 
 (Il x309), (Il x310), (Il x311)])) ∧ 
 Wc prog tbl 52 [(.agg 4 [(Il x308), (Il x309), 
 (Il x310), (Il x311)])] m295 (fun v312 m313 => 
 ∃ x314 x315 x316 x317, (v312 = (.agg 4 [(Il x314), 
 (Il x315), (Il x316), (Il x317)])) ∧ 
 Wc prog tbl 46 [(.agg 12 [(Il x296), (Il x297), 
 (Il x298), (Il x299), (Il x300), 
 (Il x301), (Il x302), (Il x303), 
 (Il x304), (Il x305), (Il x306), 
 c307]), (.agg 4 [(Il x314), (Il x315), (Il x316), 
 (Il x317)])] m313 (fun v318 m319 => ∃ b320 : Bool, (v318 = (.c (.bool b320))) ∧ 
 ifB (!b320) (Q (.c (.bool false)) m319) (∃ x321 x322 x323, 
 ∃ x324 x325 x326 x327 x328 x329, 
 ∃ x330 x331, ∃ c332 : C, ((ldA m319 (.ptr m32.nxt 0) 12) = (some [(Il x321), 
 (Il x322), (Il x323), (Il x324), 
 (Il x325), (Il x326), (Il x327), 
 (Il x328), (Il x329), (Il x330), 
 (Il x331), c332])) ∧ ∃ x333 x334 x335, 
 ∃ x336, ((ldA m319 (.ptr m49.nxt 0) 4) = (some [(Il x333), 
 (Il x334), (Il x335), (Il x336)])) ∧ 
 ∃ x337 x338 x339 x340, ((ldA m319 (.ptr m66.nxt 0) 4) = (some [(Il x337), 
 (Il x338), (Il x339), (Il x340)])) ∧ 
 Wc prog tbl 26 [(.agg 12 [(Il x321), (Il x322), 
 (Il x323), (Il x324), (Il x325), 
 (Il x326), (Il x327), (Il x328), 
 (Il x329), (Il x330), (Il x331), 
 c332]), (.agg 4 [(Il x333), (Il x334), (Il x335), 
 (Il x336)]), (.agg 4 [(Il x337), (Il x338), 
 (Il x339), (Il x340)])] m319 (fun v341 m342 => 
 ∃ b343 : Bool, ∃ b344 : Bool, (v341 = (.tup [(.c (.bool b343)), (.c (.bool b344))])) ∧ 
 isPt (.ptr m49.nxt 0) ∧ ∃ x345, ((ldC m342 (.ptr m49.nxt 0)) = (some (Il x345))) ∧ 
 isPt (.ptr m190.nxt 0) ∧ ∃ x346 x347, ((ldA m342 (.ptr m190.nxt 3) 2) = (some [(Il x346), 
 (Il x347)])) ∧ Wc prog tbl 53 [(.c (Il x345)), 
 (.agg 2 [(Il x346), (Il x347)])] m342 (fun v348 m349 => 
 ∃ b350 : Bool, (v348 = (.c (.bool b350))) ∧ ifB b350 (isPt (.ptr m49.nxt 0) ∧ 
 ∃ x351, ((ldC m349 (.ptr m49.nxt 1)) = (some (Il x351))) ∧ 
 isPt (.ptr m190.nxt 0) ∧ ∃ x352 x353, ((ldA m349 (.ptr m190.nxt 5) 2) = (some [(Il x352), 
 (Il x353)])) ∧ Wc prog tbl 53 [(.c (Il x351)), 
 (.agg 2 [(Il x352), (Il x353)])] m349 (fun v354 m355 => 
 ∃ b356 : Bool, (v354 = (.c (.bool b356))) ∧ ifB b356 (isPt (.ptr m49.nxt 0) ∧ 
 ∃ x357, ((ldC m355 (.ptr m49.nxt 2)) = (some (Il x357))) ∧ 
 isPt (.ptr m190.nxt 0) ∧ ∃ x358 x359, ((ldA m355 (.ptr m190.nxt 7) 2) = (some [(Il x358), 
 (Il x359)])) ∧ Wc prog tbl 53 [(.c (Il x357)), 
 (.agg 2 [(Il x358), (Il x359)])] m355 (fun v360 m361 => 
 ∃ b362 : Bool, (v360 = (.c (.bool b362))) ∧ ifB b362 (isPt (.ptr m49.nxt 0) ∧ 
 ∃ x363, ((ldC m361 (.ptr m49.nxt 3)) = (some (Il x363))) ∧ 
 isPt (.ptr m190.nxt 0) ∧ ∃ x364 x365, ((ldA m361 (.ptr m190.nxt 9) 2) = (some [(Il x364), 
 (Il x365)])) ∧ Wc prog tbl 53 [(.c (Il x363)), 
 (.agg 2 [(Il x364), (Il x365)])] m361 (fun v366 m367 => 
 ∃ b368 : Bool, (v366 = (.c (.bool b368))) ∧ ifB b368 (∃ x369 x370, 
 ∃ x371 x372 x373 x374 x375 x376, 
 ∃ x377 x378 x379, ∃ c380 : C, ((ldA m367 (.ptr m32.nxt 0) 12) = (some [(Il x369), 
 (Il x370), (Il x371), (Il x372), 
 (Il x373), (Il x374), (Il x375), 
 (Il x376), (Il x377), (Il x378), 
 (Il x379), c380])) ∧ ∃ x381 x382 x383, 
 ∃ x384, ((ldA m367 (.ptr m49.nxt 0) 4) = (some [(Il x381), 
 (Il x382), (Il x383), (Il x384)])) ∧ 
 isPt (.ptr m66.nxt 0) ∧ isPt (.ptr m66.nxt 0) ∧ ∃ x385, ((ldC m367 (.ptr m66.nxt 0)) = (some (Il x385))) ∧ 
 isPt (.ptr m66.nxt 0) ∧ isPt (.ptr m66.nxt 2) ∧ ∃ x386, ((ldC m367 (.ptr m66.nxt 2)) = (some (Il x386))) ∧ 
 Wc prog tbl 54 [(.agg 12 [(Il x369), (Il x370), 
 (Il x371), (Il x372), (Il x373), 
 (Il x374), (Il x375), (Il x376), 
 (Il x377), (Il x378), (Il x379), 
 c380]), (.agg 4 [(Il x381), (Il x382), (Il x383), 
 (Il x384)]), (.c (Il x385)), (.c (Il x386))] m367 (fun v387 m388 => 
 ∃ x389, (v387 = (.c (Il x389))) ∧ ∃ x390 x391, 
 ((ldA m388 (.ptr (m243.nxt + 0) 0) 2) = (some [(Il x390), 
 (Il x391)])) ∧ ((ldA m367 (.ptr (m243.nxt + 0) 0) 2) = (some [(Il x390), 
 (Il x391)])) ∧ Wc prog tbl 53 [(.c (Il x389)), 
 (.agg 2 [(Il x390), (Il x391)])] m388 (fun v392 m393 => 
 ∃ b394 : Bool, (v392 = (.c (.bool b394))) ∧ ifB b394 (ifB (!decide (x244 = 1)) (ifB (!decide (x244 = 2)) (Wc prog tbl 17 [] m393 (fun v395 m396 => 
 ∃ b397 : Bool, (v395 = (.c (.bool b397))) ∧ Q (.c (.bool b397)) m396)) (ifB (!b343) (Wc prog tbl 17 [] m393 (fun v398 m399 => 
 ∃ b400 : Bool, (v398 = (.c (.bool b400))) ∧ Q (.c (.bool b400)) m399)) (Q (.c (.bool false)) m393))) (ifB b344 (ifB (!decide (x244 = 2)) (Wc prog tbl 17 [] m393 (fun v401 m402 => 
 ∃ b403 : Bool, (v401 = (.c (.bool b403))) ∧ Q (.c (.bool b403)) m402)) (ifB (!b343) (Wc prog tbl 17 [] m393 (fun v404 m405 => 
 ∃ b406 : Bool, (v404 = (.c (.bool b406))) ∧ Q (.c (.bool b406)) m405)) (Q (.c (.bool false)) m393))) (Q (.c (.bool false)) m393))) (Q (.c (.bool false)) m393)))) (Q (.c (.bool false)) m367))) (Q (.c (.bool false)) m361))) (Q (.c (.bool false)) m355))) (Q (.c (.bool false)) m349))))))))))))))))))))))))))))))))) : Wc prog tbl 7 [(.agg 12 [(Il a100), (Il a101), (Il a102), (Il a103), (Il a104), (Il a105), (Il a106), (Il a107), (Il a108), (Il a109), (Il a110), a111]), (.c (C.int .u16 a200)), (.c a300), (.c (C.int .u16 a400))] m Q :=
 wc_eq (n := 4) rfl (by kernel_rfl) (by kernel_rfl) h
theorem w16 {a100 : Int} {a101 : Int} {a102 : Int} {a103 : Int} {a104 : Int} {a105 : Int} {a106 : Int} {a107 : Int} {a108 : Int} {a109 : Int} {a110 : Int} {a111 : C} {m : M} {Q : V → M → Prop} (h :
 (∀ m0 : M, (m0 = (M.new m (AO.cells 12 [(Il a100), (Il a101), (Il a102), 
 (Il a103), (Il a104), (Il a105), (Il a106), 
 (Il a107), (Il a108), (Il a109), (Il a110), 
 a111] false))) → isPt (.ptr m.nxt 0) ∧ ∃ c1 : C, ((ldC m0 (.ptr m.nxt 11)) = (some c1)) ∧ 
 isSl c1 ∧ ifB (decide ((((slLen c1) : Nat) : Int) ≤ (9 : Int))) (∃ x2 x3 x4, 
 ∃ x5 x6 x7 x8 x9 x10 x11 x12, 
 ∃ c13 : C, ((ldA m0 (.ptr m.nxt 0) 12) = (some [(Il x2), (Il x3), 
 (Il x4), (Il x5), (Il x6), (Il x7), 
 (Il x8), (Il x9), (Il x10), (Il x11), 
 (Il x12), c13])) ∧ Wc prog tbl 66 [(.agg 12 [(Il x2), 
 (Il x3), (Il x4), (Il x5), (Il x6), 
 (Il x7), (Il x8), (Il x9), (Il x10), 
 (Il x11), (Il x12), c13])] m0 (fun v14 m15 => ∃ x16, 
 (v14 = (.c (Il x16))) ∧ ifB (!decide (x16 = 0)) (Q (.c (.bool true)) m15) (∃ x17, 
 ∃ x18 x19 x20 x21 x22 x23, 
 ∃ x24 x25 x26 x27, ∃ c28 : C, ((ldA m15 (.ptr m.nxt 0) 12) = (some [(Il x17), 
 (Il x18), (Il x19), (Il x20), (Il x21), 
 (Il x22), (Il x23), (Il x24), (Il x25), 
 (Il x26), (Il x27), c28])) ∧ Wc prog tbl 67 [(.agg 12 [(Il x17), 
 (Il x18), (Il x19), (Il x20), (Il x21), 
 (Il x22), (Il x23), (Il x24), (Il x25), 
 (Il x26), (Il x27), c28])] m15 (fun v29 m30 => 
 ∃ x31, (v29 = (.c (Il x31))) ∧ Q (.c (.bool (decide (x31 ≤ 300)))) m30)))) (Q (.c (.bool false)) m0))) : Wc prog tbl 16 [(.agg 12 [(Il a100), (Il a101), (Il a102), (Il a103), (Il a104), (Il a105), (Il a106), (Il a107), (Il a108), (Il a109), (Il a110), a111])] m Q :=
 wc_eq (n := 1) rfl (by kernel_rfl) (by kernel_rfl) h
theorem w20 {a100 : Int} {a101 : Int} {a102 : Int} {a103 : Int} {m : M} {Q : V → M → Prop} (h :
 (∀ m0 : M, (m0 = (M.new m (AO.cells 4 [(Il a100), (Il a101), (Il a102), 
 (Il a103)] false))) → ∀ m1 : M, (m1 = (M.new m0 (AO.cells 4 [(Il 0), 
 (Il 0), (Il 0), (Il 0)] false))) → 
 isPt (.ptr m.nxt 0) ∧ ∃ x2 x3, ((ldA m1 (.ptr m.nxt 0) 2) = (some [(Il x2), 
 (Il x3)])) ∧ Wc prog tbl 32 [(.agg 2 [(Il x2), (Il x3)])] m1 (fun v4 m5 => 
 ∃ x6 x7, (v4 = (.agg 2 [(Il x6), (Il x7)])) ∧ isPt (.ptr m.nxt 0) ∧ 
 ∃ x8 x9, ((ldA m5 (.ptr m.nxt 2) 2) = (some [(Il x8), 
 (Il x9)])) ∧ ((ldA m1 (.ptr m.nxt 2) 2) = (some [(Il x8), 
 (Il x9)])) ∧ Wc prog tbl 32 [(.agg 2 [(Il x8), (Il x9)])] m5 (fun v10 m11 => 
 ∃ x12 x13, (v10 = (.agg 2 [(Il x12), (Il x13)])) ∧ 
 ∃ m14 : M, ((stC m11 (.ptr m0.nxt 0) 4 [(Il x6), (Il x7), 
 (Il x12), (Il x13)]) = (some m14)) ∧ ∃ x15, 
 ∃ x16 x17 x18, ((ldA m14 (.ptr m0.nxt 0) 4) = (some [(Il x15), 
 (Il x16), (Il x17), (Il x18)])) ∧ 
 Q (.agg 4 [(Il x15), (Il x16), (Il x17), 
 (Il x18)]) m14)))) : Wc prog tbl 20 [(.agg 4 [(Il a100), (Il a101), (Il a102), (Il a103)])] m Q :=
 wc_eq (n := 1) rfl (by kernel_rfl) (by kernel_rfl) h
theorem w26 {a100 : Int} {a101 : Int} {a102 : Int} {a103 : Int} {a104 : Int} {a105 : Int} {a106 : Int} {a107 : Int} {a108 : Int} {a109 : Int} {a110 : Int} {a111 : C} {a200 : Int} {a201 : Int} {a202 : Int} {a203 : Int} {a300 : Int} {a301 : Int} {a302 : Int} {a303 : Int} {m : M} {Q : V → M → Prop} (h :
 (∀ m0 : M, (m0 = (M.new m (AO.cells 12 [(Il a100), (Il a101), (Il a102), 
 (Il a103), (Il a104), (Il a105), (Il a106), 
 (Il a107), (Il a108), (Il a109), (Il a110), 
 a111] false))) → ∀ m1 : M, (m1 = (M.new m0 (AO.cells 4 [(Il a200), (Il a201), 
 (Il a202), (Il a203)] false))) → ∀ m2 : M, (m2 = (M.new m1 (AO.cells 4 [(Il a300), 
 (Il a301), (Il a302), (Il a303)] false))) → isPt (.ptr m1.nxt 0) ∧ 
 isPt (.ptr m1.nxt 0) ∧ ∃ x3, ((ldC m2 (.ptr m1.nxt 0)) = (some (Il x3))) ∧ 
 ∀ R4 : List V → M → Prop, (∀ b5 : Bool, ∀ b6 : Bool, ∀ x7 : Int, ∀ m8 : M, (isPt (.ptr m1.nxt 0) ∧ 
 isPt (.ptr m1.nxt 0) ∧ ∃ x9, ((ldC m8 (.ptr m1.nxt 1)) = (some (Il x9))) ∧ 
 ifB (decide (x7 ≤ x9)) (isPt (.ptr m1.nxt 0) ∧ isPt (.ptr m1.nxt 2) ∧ ∃ x10, 
 ((ldC m8 (.ptr m1.nxt 2)) = (some (Il x10))) ∧ ∀ R11 : List V → 
 M → Prop, (∀ b12 : Bool, ∀ b13 : Bool, ∀ x14 : Int, ∀ m15 : M, (isPt (.ptr m1.nxt 0) ∧ 
 isPt (.ptr m1.nxt 2) ∧ ∃ x16, ((ldC m15 (.ptr m1.nxt 3)) = (some (Il x16))) ∧ 
 ifB (decide (x14 ≤ x16)) (∃ x17 x18 x19 x20, 
 ∃ x21 x22 x23 x24 x25 x26, 
 ∃ x27, ∃ c28 : C, ((ldA m15 (.ptr m.nxt 0) 12) = (some [(Il x17), 
 (Il x18), (Il x19), (Il x20), (Il x21), 
 (Il x22), (Il x23), (Il x24), (Il x25), 
 (Il x26), (Il x27), c28])) ∧ ∃ x29 x30, 
 ∃ x31 x32, ((ldA m15 (.ptr m0.nxt 0) 4) = (some [(Il x29), 
 (Il x30), (Il x31), (Il x32)])) ∧ 
 Wc prog tbl 71 [(.agg 12 [(Il x17), (Il x18), 
 (Il x19), (Il x20), (Il x21), (Il x22), 
 (Il x23), (Il x24), (Il x25), (Il x26), 
 (Il x27), c28]), (.agg 4 [(Il x29), (Il x30), 
 (Il x31), (Il x32)]), (.c (Il x7)), 
 (.c (Il x14))] m15 (fun v33 m34 => ∃ b35 : Bool, (v33 = (.c (.bool b35))) ∧ 
 ifB b35 (fitsP .i64 (x14 + 1) ∧ R11 [(.c (.bool true)), (.c (.bool b13)), 
 (.c (Il (x14 + 1)))] m34) (fitsP .i64 (x14 + 1) ∧ 
 R11 [(.c (.bool b12)), (.c (.bool false)), (.c (Il (x14 + 1)))] m34))) (fitsP .i64 (x7 + 1) ∧ 
 R4 [(.c (.bool b12)), (.c (.bool b13)), (.c (Il (x7 + 1)))] m15)) → 
 R11 [(.c (.bool b12)), (.c (.bool b13)), (.c (Il x14))] m15) → 
 R11 [(.c (.bool b5)), (.c (.bool b6)), (.c (Il x10))] m8) (Q (.tup [(.c (.bool b5)), 
 (.c (.bool b6))]) m8)) → R4 [(.c (.bool b5)), (.c (.bool b6)), (.c (Il x7))] m8) → 
 R4 [(.c (.bool false)), (.c (.bool true)), (.c (Il x3))] m2)) : Wc prog tbl 26 [(.agg 12 [(Il a100), (Il a101), (Il a102), (Il a103), (Il a104), (Il a105), (Il a106), (Il a107), (Il a108), (Il a109), (Il a110), a111]), (.agg 4 [(Il a200), (Il a201), (Il a202), (Il a203)]), (.agg 4 [(Il a300), (Il a301), (Il a302), (Il a303)])] m Q :=
 wc_eq (n := 3) rfl (by kernel_rfl) (by kernel_rfl) h
theorem w29 {a100 : Int} {a101 : Int} {a102 : Int} {a103 : Int} {a104 : Int} {a105 : Int} {a106 : Int} {a107 : Int} {a108 : Int} {a109 : Int} {a110 : Int} {a111 : C} {a200 : Int} {a300 : Int} {m : M} {Q : V → M → Prop} (h :
 (∀ m0 : M, (m0 = (M.new m (AO.cells 12 [(Il a100), (Il a101), (Il a102), 
 (Il a103), (Il a104), (Il a105), (Il a106), 
 (Il a107), (Il a108), (Il a109), (Il a110), 
 a111] false))) → ∀ m1 : M, (m1 = (M.new m0 (AO.cells 1 [(Il a200)] false))) → ∀ m2 : M, 
 (m2 = (M.new m1 (AO.cells 1 [(Il a300)] false))) → ∀ m3 : M, (m3 = (M.new m2 (AO.cells 2 [(Il 0), 
 (Il 0)] false))) → ∃ x4 x5 x6 x7 x8, 
 ∃ x9 x10 x11 x12 x13 x14, ∃ c15 : C, 
 ((ldA m3 (.ptr m.nxt 0) 12) = (some [(Il x4), (Il x5), 
 (Il x6), (Il x7), (Il x8), (Il x9), 
 (Il x10), (Il x11), (Il x12), (Il x13), 
 (Il x14), c15])) ∧ ∃ x16, ((ldC m3 (.ptr m0.nxt 0)) = (some (Il x16))) ∧ 
 ∃ x17, ((ldC m3 (.ptr m0.nxt 0)) = (some (Il x17))) ∧ 
 ∃ x18, ((ldC m3 (.ptr m1.nxt 0)) = (some (Il x18))) ∧ 
 ∃ x19, ((ldC m3 (.ptr m1.nxt 0)) = (some (Il x19))) ∧ 
 ∀ m20 : M, (m20 = (M.new m3 (AO.cells 4 [(Il x16), (Il x17), 
 (Il x18), (Il x19)] false))) → Wc prog tbl 68 [(.agg 12 [(Il x4), 
 (Il x5), (Il x6), (Il x7), (Il x8), 
 (Il x9), (Il x10), (Il x11), (Il x12), 
 (Il x13), (Il x14), c15]), (.c (.sl m3.nxt 0 1 0 (some 1)))] m20 (fun v21 m22 => 
 ∃ x23 x24 x25 x26 x27 x28, 
 ∃ x29 x30 x31 x32 x33, ∃ c34 : C, 
 ∃ c35 : C, ∃ x36, (v21 = (.tup [(.agg 13 [(Il x23), 
 (Il x24), (Il x25), (Il x26), (Il x27), 
 (Il x28), (Il x29), (Il x30), (Il x31), 
 (Il x32), (Il x33), c34, c35]), (.c (Il x36))])) ∧ 
 ∀ m37 : M, (m37 = (M.new m22 (AO.cells 13 [(Il 0), (Il 0), 
 (Il 0), (Il 0), (Il 0), 
 (Il 0), (Il 0), (Il 0), 
 (Il 0), (Il 0), (Il 0), 
 C.sl0, C.map0] false))) → ∃ m38 : M, ((stC m37 (.ptr m22.nxt 0) 13 [(Il x23), 
 (Il x24), (Il x25), (Il x26), (Il x27), 
 (Il x28), (Il x29), (Il x30), (Il x31), 
 (Il x32), (Il x33), c34, c35]) = (some m38)) ∧ 
 ifB (!decide (x36 = 0)) (∃ m39 : M, ((stC m38 (.ptr m2.nxt 0) 2 [(Il 0), 
 (Il 0)]) = (some m39)) ∧ ∃ x40 x41, 
 ((ldA m39 (.ptr m2.nxt 0) 2) = (some [(Il x40), (Il x41)])) ∧ 
 Q (.tup [(.agg 2 [(Il x40), (Il x41)]), (.c (Il x36))]) m39) (∃ x42, 
 ∃ x43 x44 x45 x46 x47 x48, 
 ∃ x49 x50 x51 x52, ∃ c53 : C, ∃ c54 : C, 
 ((ldA m38 (.ptr m22.nxt 0) 13) = (some [(Il x42), (Il x43), 
 (Il x44), (Il x45), (Il x46), (Il x47), 
 (Il x48), (Il x49), (Il x50), (Il x51), 
 (Il x52), c53, c54])) ∧ Wc prog tbl 73 [(.agg 13 [(Il x42), 
 (Il x43), (Il x44), (Il x45), (Il x46), 
 (Il x47), (Il x48), (Il x49), (Il x50), 
 (Il x51), (Il x52), c53, c54]), (.c (C.fn (Fn.func 74) [] [(W.c (C0.ptr m22.nxt 0)), 
 (W.c (C0.ptr m0.nxt 0)), (W.c (C0.ptr m1.nxt 0))]))] m38 (fun v55 m56 => 
 ∃ x57 x58, (v55 = (.agg 2 [(Il x57), (Il x58)])) ∧ 
 ∃ m59 : M, ((stC m56 (.ptr m2.nxt 0) 2 [(Il x57), (Il x58)]) = (some m59)) ∧ 
 ∃ x60 x61, ((ldA m59 (.ptr m2.nxt 0) 2) = (some [(Il x60), 
 (Il x61)])) ∧ Q (.tup [(.agg 2 [(Il x60), (Il x61)]), 
 (.c (Il 0))]) m59))))) : Wc prog tbl 29 [(.agg 12 [(Il a100), (Il a101), (Il a102), (Il a103), (Il a104), (Il a105), (Il a106), (Il a107), (Il a108), (Il a109), (Il a110), a111]), (.c (Il a200)), (.c (Il a300))] m Q :=
 wc_eq (n := 3) rfl (by kernel_rfl) (by kernel_rfl) h
theorem w32 {a100 : Int} {a101 : Int} {m : M} {Q : V → M → Prop} (h :
 (∀ m0 : M, (m0 = (M.new m (AO.cells 2 [(Il a100), (Il a101)] false))) → ∀ m1 : M, 
 (m1 = (M.new m0 (AO.cells 2 [(Il 0), (Il 0)] false))) → isPt (.ptr m.nxt 0) ∧ 
 ∃ x2, ((ldC m1 (.ptr m.nxt 0)) = (some (Il x2))) ∧ isPt (.ptr m.nxt 0) ∧ 
 ∃ x3, ((ldC m1 (.ptr m.nxt 1)) = (some (Il x3))) ∧ ∃ m4 : M, ((stC m1 (.ptr m0.nxt 0) 2 [(Il x2), 
 (Il x3)]) = (some m4)) ∧ ∃ x5 x6, ((ldA m4 (.ptr m0.nxt 0) 2) = (some [(Il x5), 
 (Il x6)])) ∧ Q (.agg 2 [(Il x5), (Il x6)]) m4)) : Wc prog tbl 32 [(.agg 2 [(Il a100), (Il a101)])] m Q :=
 wc_eq (n := 1) rfl (by kernel_rfl) (by kernel_rfl) h
theorem w35 {a100 : Int} {a101 : Int} {a102 : Int} {a103 : Int} {a104 : Int} {a105 : Int} {a106 : Int} {a107 : Int} {a108 : Int} {a109 : Int} {a110 : Int} {a111 : C} {m : M} {Q : V → M → Prop} (h :
 (∀ m0 : M, (m0 = (M.new m (AO.cells 12 [(Il a100), (Il a101), (Il a102), 
 (Il a103), (Il a104), (Il a105), (Il a106), 
 (Il a107), (Il a108), (Il a109), (Il a110), 
 a111] false))) → ∃ x1 x2 x3 x4 x5 x6 x7, 
 ∃ x8 x9 x10 x11, ∃ c12 : C, ((ldA m0 (.ptr m.nxt 0) 12) = (some [(Il x1), 
 (Il x2), (Il x3), (Il x4), (Il x5), 
 (Il x6), (Il x7), (Il x8), (Il x9), 
 (Il x10), (Il x11), c12])) ∧ Wc prog tbl 48 [(.agg 12 [(Il x1), 
 (Il x2), (Il x3), (Il x4), (Il x5), 
 (Il x6), (Il x7), (Il x8), (Il x9), 
 (Il x10), (Il x11), c12])] m0 (fun v13 m14 => ∃ x15, 
 (v13 = (.c (Il x15))) ∧ ifB (!decide (x15 = 0)) (Q (.tup [(.c (Il 0)), 
 (.c (Il x15))]) m14) (∃ x16 x17 x18 x19, 
 ∃ x20 x21 x22 x23 x24 x25, 
 ∃ x26, ∃ c27 : C, ((ldA m14 (.ptr m.nxt 0) 12) = (some [(Il x16), 
 (Il x17), (Il x18), (Il x19), (Il x20), 
 (Il x21), (Il x22), (Il x23), (Il x24), 
 (Il x25), (Il x26), c27])) ∧ Wc prog tbl 81 [(.agg 12 [(Il x16), 
 (Il x17), (Il x18), (Il x19), (Il x20), 
 (Il x21), (Il x22), (Il x23), (Il x24), 
 (Il x25), (Il x26), c27])] m14 (fun v28 m29 => 
 ∃ x30 x31 x32 x33 x34 x35, 
 ∃ x36 x37 x38 x39 x40, ∃ c41 : C, 
 ∃ c42 : C, (v28 = (.agg 13 [(Il x30), (Il x31), 
 (Il x32), (Il x33), (Il x34), (Il x35), 
 (Il x36), (Il x37), (Il x38), (Il x39), 
 (Il x40), c41, c42])) ∧ ∀ m43 : M, (m43 = (M.new m29 (AO.cells 13 [(Il 0), 
 (Il 0), (Il 0), (Il 0), 
 (Il 0), (Il 0), (Il 0), 
 (Il 0), (Il 0), (Il 0), 
 (Il 0), C.sl0, C.map0] false))) → ∃ m44 : M, ((stC m43 (.ptr m29.nxt 0) 13 [(Il x30), 
 (Il x31), (Il x32), (Il x33), (Il x34), 
 (Il x35), (Il x36), (Il x37), (Il x38), 
 (Il x39), (Il x40), c41, c42]) = (some m44)) ∧ 
 isPt (.ptr m29.nxt 0) ∧ isPt (.ptr m29.nxt 0) ∧ ∃ c45 : C, ((ldC m44 (.ptr m29.nxt 11)) = (some c45)) ∧ 
 isSl c45 ∧ ∀ R46 : List V → M → Prop, (∀ x47 : Int, ∀ x48 : Int, ∀ x49 : Int, 
 ∀ m50 : M, (ifB (decide (x49 < (((slLen c45) : Nat) : Int))) (∃ x51, 
 ∃ x52 x53 x54 x55 x56 x57, 
 ∃ x58 x59 x60 x61, ∃ c62 : C, ∃ c63 : C, 
 ((ldA m50 (.ptr m29.nxt 0) 13) = (some [(Il x51), (Il x52), 
 (Il x53), (Il x54), (Il x55), (Il x56), 
 (Il x57), (Il x58), (Il x59), (Il x60), 
 (Il x61), c62, c63])) ∧ Wc prog tbl 83 [(.c (Il x49))] m50 (fun v64 m65 => 
 ∃ b66 : Bool, ∃ b67 : Bool, ∃ b68 : Bool, ∃ b69 : Bool, ∃ b70 : Bool, ∃ b71 : Bool, 
 (v64 = (.agg 6 [(.bool b66), (.bool b67), (.bool b68), (.bool b69), (.bool b70), 
 (.bool b71)])) ∧ (ifB (allS cmC [(Il x51), (Il x52), 
 (Il x53), (Il x54), (Il x55), (Il x56), 
 (Il x57), (Il x58), (Il x59), (Il x60), 
 (Il x61), c62, c63]) ((ldA m65 (.ptr m29.nxt 0) 13) = (some [(Il x51), 
 (Il x52), (Il x53), (Il x54), (Il x55), 
 (Il x56), (Il x57), (Il x58), (Il x59), 
 (Il x60), (Il x61), c62, c63])) False) ∧ Wc prog tbl 82 [(.agg 13 [(Il x51), 
 (Il x52), (Il x53), (Il x54), (Il x55), 
 (Il x56), (Il x57), (Il x58), (Il x59), 
 (Il x60), (Il x61), c62, c63]), (.agg 6 [(.bool b66), 
 (.bool b67), (.bool b68), (.bool b69), (.bool b70), (.bool b71)])] m65 (fun v72 m73 => 
 ∃ b74 : Bool, (v72 = (.c (.bool b74))) ∧ ifB (!b74) (Q (.tup [(.c (Il x49)), 
 (.c (Il 0))]) m73) (fitsP .i64 (x49 + 1) ∧ 
 R46 [(.c (Il x47)), (.c (Il x48)), (.c (Il (x49 + 1)))] m73)))) (Q (.tup [(.c (Il 0)), 
 (.c (Il (7 : Int)))]) m50)) → R46 [(.c (Il x47)), 
 (.c (Il x48)), (.c (Il x49))] m50) → R46 [(.c (Il 0)), 
 (.c (Il 0)), (.c (Il 0))] m44))))) : Wc prog tbl 35 [(.agg 12 [(Il a100), (Il a101), (Il a102), (Il a103), (Il a104), (Il a105), (Il a106), (Il a107), (Il a108), (Il a109), (Il a110), a111])] m Q :=
 wc_eq (n := 1) rfl (by kernel_rfl) (by kernel_rfl) h
theorem w47 {a100 : Int} {a101 : Int} {a102 : Int} {a103 : Int} {a104 : Int} {a105 : Int} {a106 : Int} {a107 : Int} {a108 : Int} {a109 : Int} {a110 : Int} {a111 : C} {m : M} {Q : V → M → Prop} (h :
 (∀ m0 : M, (m0 = (M.new m (AO.cells 12 [(Il a100), (Il a101), (Il a102), 
 (Il a103), (Il a104), (Il a105), (Il a106), 
 (Il a107), (Il a108), (Il a109), (Il a110), 
 a111] false))) → ∀ m1 : M, (m1 = (M.new m0 (AO.cells 12 [(Il 0), (Il 0), 
 (Il 0), (Il 0), (Il 0), (Il 0), 
 (Il 0), (Il 0), (Il 0), (Il 0), 
 (Il 0), C.sl0] false))) → ∃ x2 x3 x4 x5, 
 ∃ x6 x7 x8 x9 x10 x11 x12, ∃ c13 : C, 
 ((ldA m1 (.ptr m.nxt 0) 12) = (some [(Il x2), (Il x3), 
 (Il x4), (Il x5), (Il x6), (Il x7), 
 (Il x8), (Il x9), (Il x10), (Il x11), 
 (Il x12), c13])) ∧ Wc prog tbl 68 [(.agg 12 [(Il x2), (Il x3), 
 (Il x4), (Il x5), (Il x6), (Il x7), 
 (Il x8), (Il x9), (Il x10), (Il x11), 
 (Il x12), c13]), (.c C.sl0)] m1 (fun v14 m15 => ∃ x16 x17, 
 ∃ x18 x19 x20 x21 x22 x23 x24, 
 ∃ x25 x26, ∃ c27 : C, ∃ c28 : C, ∃ x29, (v14 = (.tup [(.agg 13 [(Il x16), 
 (Il x17), (Il x18), (Il x19), (Il x20), 
 (Il x21), (Il x22), (Il x23), (Il x24), 
 (Il x25), (Il x26), c27, c28]), (.c (Il x29))])) ∧ 
 ∀ m30 : M, (m30 = (M.new m15 (AO.cells 13 [(Il 0), (Il 0), 
 (Il 0), (Il 0), (Il 0), 
 (Il 0), (Il 0), (Il 0), 
 (Il 0), (Il 0), (Il 0), 
 C.sl0, C.map0] false))) → ∃ m31 : M, ((stC m30 (.ptr m15.nxt 0) 13 [(Il x16), 
 (Il x17), (Il x18), (Il x19), (Il x20), 
 (Il x21), (Il x22), (Il x23), (Il x24), 
 (Il x25), (Il x26), c27, c28]) = (some m31)) ∧ 
 ifB (!decide (x29 = 0)) (∃ m32 : M, ((stC m31 (.ptr m0.nxt 0) 12 [(Il 0), 
 (Il 0), (Il 0), (Il 0), 
 (Il 0), (Il 0), (Il 0), 
 (Il 0), (Il 0), (Il 0), 
 (Il 0), C.sl0]) = (some m32)) ∧ ∃ x33 x34, 
 ∃ x35 x36 x37 x38 x39 x40, 
 ∃ x41 x42 x43, ∃ c44 : C, ((ldA m32 (.ptr m0.nxt 0) 12) = (some [(Il x33), 
 (Il x34), (Il x35), (Il x36), (Il x37), 
 (Il x38), (Il x39), (Il x40), (Il x41), 
 (Il x42), (Il x43), c44])) ∧ Q (.tup [(.agg 12 [(Il x33), 
 (Il x34), (Il x35), (Il x36), (Il x37), 
 (Il x38), (Il x39), (Il x40), (Il x41), 
 (Il x42), (Il x43), c44]), (.c (Il x29))]) m32) (∃ x45, 
 ∃ x46 x47 x48 x49 x50 x51, 
 ∃ x52 x53 x54 x55, ∃ c56 : C, ∃ c57 : C, 
 ((ldA m31 (.ptr m15.nxt 0) 13) = (some [(Il x45), (Il x46), 
 (Il x47), (Il x48), (Il x49), (Il x50), 
 (Il x51), (Il x52), (Il x53), (Il x54), 
 (Il x55), c56, c57])) ∧ Wc prog tbl 73 [(.agg 13 [(Il x45), 
 (Il x46), (Il x47), (Il x48), (Il x49), 
 (Il x50), (Il x51), (Il x52), (Il x53), 
 (Il x54), (Il x55), c56, c57]), (.c (C.fn (Fn.func 93) [] []))] m31 (fun v58 m59 => 
 ∃ x60 x61, (v58 = (.agg 2 [(Il x60), (Il x61)])) ∧ 
 isPt (.ptr m.nxt 0) ∧ ∃ m62 : M, ((stC m59 (.ptr m.nxt 3) 2 [(Il x60), 
 (Il x61)]) = (some m62)) ∧ ∃ x63 x64, 
 ∃ x65 x66 x67 x68 x69 x70, 
 ∃ x71 x72 x73, ∃ c74 : C, ∃ c75 : C, ((ldA m62 (.ptr m15.nxt 0) 13) = (some [(Il x63), 
 (Il x64), (Il x65), (Il x66), (Il x67), 
 (Il x68), (Il x69), (Il x70), (Il x71), 
 (Il x72), (Il x73), c74, c75])) ∧ Wc prog tbl 73 [(.agg 13 [(Il x63), 
 (Il x64), (Il x65), (Il x66), (Il x67), 
 (Il x68), (Il x69), (Il x70), (Il x71), 
 (Il x72), (Il x73), c74, c75]), (.c (C.fn (Fn.func 94) [] []))] m62 (fun v76 m77 => 
 ∃ x78 x79, (v76 = (.agg 2 [(Il x78), (Il x79)])) ∧ 
 isPt (.ptr m.nxt 0) ∧ ∃ m80 : M, ((stC m77 (.ptr m.nxt 5) 2 [(Il x78), 
 (Il x79)]) = (some m80)) ∧ ∃ x81 x82, 
 ∃ x83 x84 x85 x86 x87 x88, 
 ∃ x89 x90 x91, ∃ c92 : C, ∃ c93 : C, ((ldA m80 (.ptr m15.nxt 0) 13) = (some [(Il x81), 
 (Il x82), (Il x83), (Il x84), (Il x85), 
 (Il x86), (Il x87), (Il x88), (Il x89), 
 (Il x90), (Il x91), c92, c93])) ∧ Wc prog tbl 73 [(.agg 13 [(Il x81), 
 (Il x82), (Il x83), (Il x84), (Il x85), 
 (Il x86), (Il x87), (Il x88), (Il x89), 
 (Il x90), (Il x91), c92, c93]), (.c (C.fn (Fn.func 95) [] []))] m80 (fun v94 m95 => 
 ∃ x96 x97, (v94 = (.agg 2 [(Il x96), (Il x97)])) ∧ 
 isPt (.ptr m.nxt 0) ∧ ∃ m98 : M, ((stC m95 (.ptr m.nxt 7) 2 [(Il x96), 
 (Il x97)]) = (some m98)) ∧ ∃ x99 x100, 
 ∃ x101 x102 x103 x104 x105 x106, 
 ∃ x107 x108 x109, ∃ c110 : C, ∃ c111 : C, ((ldA m98 (.ptr m15.nxt 0) 13) = (some [(Il x99), 
 (Il x100), (Il x101), (Il x102), 
 (Il x103), (Il x104), (Il x105), 
 (Il x106), (Il x107), (Il x108), 
 (Il x109), c110, c111])) ∧ Wc prog tbl 73 [(.agg 13 [(Il x99), 
 (Il x100), (Il x101), (Il x102), 
 (Il x103), (Il x104), (Il x105), 
 (Il x106), (Il x107), (Il x108), 
 (Il x109), c110, c111]), (.c (C.fn (Fn.func 96) [] []))] m98 (fun v112 m113 => 
 ∃ x114 x115, (v112 = (.agg 2 [(Il x114), (Il x115)])) ∧ 
 isPt (.ptr m.nxt 0) ∧ ∃ m116 : M, ((stC m113 (.ptr m.nxt 9) 2 [(Il x114), 
 (Il x115)]) = (some m116)) ∧ isPt (.ptr m.nxt 0) ∧ 
 ∃ c117 : C, ((ldC m116 (.ptr m.nxt 11)) = (some c117)) ∧ Wc prog tbl 97 [(.c c117)] m116 (fun v118 m119 => 
 ∃ c120 : C, (v118 = (.c c120)) ∧ isPt (.ptr m.nxt 0) ∧ ∃ m121 : M, ((stC m119 (.ptr m.nxt 11) 1 [c120]) = (some m121)) ∧ 
 ∃ x122 x123 x124 x125 x126 x127, 
 ∃ x128 x129 x130 x131 x132, ∃ c133 : C, 
 ((ldA m121 (.ptr m.nxt 0) 12) = (some [(Il x122), (Il x123), 
 (Il x124), (Il x125), (Il x126), 
 (Il x127), (Il x128), (Il x129), 
 (Il x130), (Il x131), (Il x132), 
 c133])) ∧ ∃ m134 : M, ((stC m121 (.ptr m0.nxt 0) 12 [(Il x122), 
 (Il x123), (Il x124), (Il x125), 
 (Il x126), (Il x127), (Il x128), 
 (Il x129), (Il x130), (Il x131), 
 (Il x132), c133]) = (some m134)) ∧ ∃ x135 x136, 
 ∃ x137 x138 x139 x140 x141 x142, 
 ∃ x143 x144 x145, ∃ c146 : C, ((ldA m134 (.ptr m0.nxt 0) 12) = (some [(Il x135), 
 (Il x136), (Il x137), (Il x138), 
 (Il x139), (Il x140), (Il x141), 
 (Il x142), (Il x143), (Il x144), 
 (Il x145), c146])) ∧ Q (.tup [(.agg 12 [(Il x135), 
 (Il x136), (Il x137), (Il x138), 
 (Il x139), (Il x140), (Il x141), 
 (Il x142), (Il x143), (Il x144), 
 (Il x145), c146]), (.c (Il 0))]) m134))))))))) : Wc prog tbl 47 [(.agg 12 [(Il a100), (Il a101), (Il a102), (Il a103), (Il a104), (Il a105), (Il a106), (Il a107), (Il a108), (Il a109), (Il a110), a111])] m Q :=
 wc_eq (n := 1) rfl (by kernel_rfl) (by kernel_rfl) h
theorem w50 {a100 : Int} {a101 : Int} {a102 : Int} {a103 : Int} {a104 : Int} {a105 : Int} {a106 : Int} {a107 : Int} {a108 : Int} {a109 : Int} {a110 : Int} {a111 : C} {a200 : Int} {a300 : C} {m : M} {Q : V → M → Prop} (h :
 (∀ m0 : M, (m0 = (M.new m (AO.cells 12 [(Il a100), (Il a101), (Il a102), 
 (Il a103), (Il a104), (Il a105), (Il a106), 
 (Il a107), (Il a108), (Il a109), (Il a110), 
 a111] false))) → ∀ m1 : M, (m1 = (M.new m0 (AO.cells 12 [(Il 0), (Il 0), 
 (Il 0), (Il 0), (Il 0), (Il 0), 
 (Il 0), (Il 0), (Il 0), (Il 0), 
 (Il 0), C.sl0] false))) → ∀ m2 : M, (m2 = (M.new m1 (AO.cells 4 [(Il 0), 
 (Il 0), (Il 0), (Il 0)] false))) → 
 ∀ m3 : M, (m3 = (mGrow m2 1)) → ∃ x4 x5 x6 x7 x8 x9, 
 ∃ x10 x11 x12 x13 x14, ∃ c15 : C, ((ldA m3 (.ptr m.nxt 0) 12) = (some [(Il x4), 
 (Il x5), (Il x6), (Il x7), (Il x8), 
 (Il x9), (Il x10), (Il x11), (Il x12), 
 (Il x13), (Il x14), c15])) ∧ ∃ x16 x17, 
 ∃ x18 x19 x20 x21 x22 x23, 
 ∃ x24 x25 x26, ∃ c27 : C, ((ldA m3 (.ptr m.nxt 0) 12) = (some [(Il x16), 
 (Il x17), (Il x18), (Il x19), (Il x20), 
 (Il x21), (Il x22), (Il x23), (Il x24), 
 (Il x25), (Il x26), c27])) ∧ Wc prog tbl 67 [(.agg 12 [(Il x16), 
 (Il x17), (Il x18), (Il x19), (Il x20), 
 (Il x21), (Il x22), (Il x23), (Il x24), 
 (Il x25), (Il x26), c27])] m3 (fun v28 m29 => ∃ x30, 
 (v28 = (.c (Il x30))) ∧ (ifB (allS cmC [(Il x4), 
 (Il x5), (Il x6), (Il x7), (Il x8), 
 (Il x9), (Il x10), (Il x11), (Il x12), 
 (Il x13), (Il x14), c15]) ((ldA m29 (.ptr m.nxt 0) 12) = (some [(Il x4), 
 (Il x5), (Il x6), (Il x7), (Il x8), 
 (Il x9), (Il x10), (Il x11), (Il x12), 
 (Il x13), (Il x14), c15])) False) ∧ ((0 : Int) ≤ (wrapZ .i64 a200)) ∧ 
 ((0 : Int) < x30) ∧ fitsP .i64 ((wrapZ .i64 a200) % x30) ∧ Wc prog tbl 88 [(.agg 12 [(Il x4), 
 (Il x5), (Il x6), (Il x7), (Il x8), 
 (Il x9), (Il x10), (Il x11), (Il x12), 
 (Il x13), (Il x14), c15]), (.c (Il ((wrapZ .i64 a200) % x30)))] m29 (fun v31 m32 => 
 ∃ x33 x34 x35 x36, (v31 = (.agg 4 [(Il x33), 
 (Il x34), (Il x35), (Il x36)])) ∧ 
 ∀ m37 : M, (m37 = (M.set m32 (m2.nxt + 0) (AO.cells 4 [(Il 0), 
 (Il 0), (Il 0), (Il 0)] false))) → 
 (ifB (allS cmC [(Il x16), (Il x17), (Il x18), 
 (Il x19), (Il x20), (Il x21), (Il x22), 
 (Il x23), (Il x24), (Il x25), (Il x26), 
 c27]) ((ldA m37 (.ptr m.nxt 0) 12) = (some [(Il x16), 
 (Il x17), (Il x18), (Il x19), (Il x20), 
 (Il x21), (Il x22), (Il x23), (Il x24), 
 (Il x25), (Il x26), c27])) False) ∧ (ifB (allS cmC [(Il x4), 
 (Il x5), (Il x6), (Il x7), (Il x8), 
 (Il x9), (Il x10), (Il x11), (Il x12), 
 (Il x13), (Il x14), c15]) ((ldA m37 (.ptr m.nxt 0) 12) = (some [(Il x4), 
 (Il x5), (Il x6), (Il x7), (Il x8), 
 (Il x9), (Il x10), (Il x11), (Il x12), 
 (Il x13), (Il x14), c15])) False) ∧ ∃ m38 : M, 
 ((stC m37 (.ptr (m2.nxt + 0) 0) 4 [(Il x33), (Il x34), 
 (Il x35), (Il x36)]) = (some m38)) ∧ ∃ x39, 
 ∃ x40 x41 x42 x43 x44 x45, 
 ∃ x46 x47 x48 x49, ∃ c50 : C, ((ldA m38 (.ptr m.nxt 0) 12) = (some [(Il x39), 
 (Il x40), (Il x41), (Il x42), (Il x43), 
 (Il x44), (Il x45), (Il x46), (Il x47), 
 (Il x48), (Il x49), c50])) ∧ ∀ m51 : M, (m51 = (M.new m38 (AO.cells 12 [(Il 0), 
 (Il 0), (Il 0), (Il 0), 
 (Il 0), (Il 0), (Il 0), 
 (Il 0), (Il 0), (Il 0), 
 (Il 0), C.sl0] false))) → ∃ m52 : M, ((stC m51 (.ptr m38.nxt 0) 12 [(Il x39), 
 (Il x40), (Il x41), (Il x42), (Il x43), 
 (Il x44), (Il x45), (Il x46), (Il x47), 
 (Il x48), (Il x49), c50]) = (some m52)) ∧ 
 isPt (.ptr m38.nxt 0) ∧ ∃ m53 : M, ((stC m52 (.ptr m38.nxt 11) 1 [C.sl0]) = (some m53)) ∧ 
 ∀ R54 : List V → M → Prop, (∀ x55 : Int, ∀ m56 : M, (Wc prog tbl 101 [(.c a300), 
 (.c (Il 0))] m56 (fun v57 m58 => ∃ x59, (v57 = (.c (Il x59))) ∧ 
 ((0 : Int) ≤ x59) ∧ ((0 : Int) < (7 : Int)) ∧ fitsP .i64 (x59 % 7) ∧ 
 ifB (decide (x55 < (x59 % 7))) (fitsP .i64 (x55 + 1) ∧ 
 Wc prog tbl 101 [(.c a300), (.c (Il (x55 + 1)))] m58 (fun v60 m61 => 
 ∃ x62, (v60 = (.c (Il x62))) ∧ isPt (.ptr m.nxt 0) ∧ 
 ∃ x63, ((ldC m61 (.ptr m.nxt 0)) = (some (Il x63))) ∧ 
 ((0 : Int) ≤ x62) ∧ ((0 : Int) < x63) ∧ fitsP .i64 (x62 % x63) ∧ ((0 : Int) ≤ x62) ∧ 
 ((0 : Int) < (16 : Int)) ∧ fitsP .i64 (x62 / 16) ∧ isPt (.ptr m.nxt 0) ∧ 
 ∃ x64, ((ldC m61 (.ptr m.nxt 1)) = (some (Il x64))) ∧ 
 ((0 : Int) ≤ (x62 / 16)) ∧ ((0 : Int) < x64) ∧ fitsP .i64 ((x62 / 16) % x64) ∧ 
 ((0 : Int) ≤ x62) ∧ ((0 : Int) < (256 : Int)) ∧ fitsP .i64 (x62 / 256) ∧ 
 ((0 : Int) ≤ (x62 / 256)) ∧ ((0 : Int) < (2 : Int)) ∧ fitsP .i64 ((x62 / 256) % (2 : Int)) ∧ 
 fitsP .i64 ((x62 % x63) - ((x62 / 256) % (2 : Int))) ∧ isPt (.ptr m.nxt 0) ∧ 
 ∃ x65, ((ldC m61 (.ptr m.nxt 0)) = (some (Il x65))) ∧ 
 fitsP .i64 (x65 - 1) ∧ ((0 : Int) ≤ x62) ∧ ((0 : Int) < (512 : Int)) ∧ 
 fitsP .i64 (x62 / 512) ∧ ((0 : Int) ≤ (x62 / 512)) ∧ 
 ((0 : Int) < (2 : Int)) ∧ fitsP .i64 ((x62 / 512) % (2 : Int)) ∧ 
 fitsP .i64 ((x62 % x63) + ((x62 / 512) % (2 : Int))) ∧ ((0 : Int) ≤ x62) ∧ 
 ((0 : Int) < (1024 : Int)) ∧ fitsP .i64 (x62 / 1024) ∧ ((0 : Int) ≤ (x62 / 1024)) ∧ 
 ((0 : Int) < (2 : Int)) ∧ fitsP .i64 ((x62 / 1024) % (2 : Int)) ∧ 
 fitsP .i64 (((x62 / 16) % x64) - ((x62 / 1024) % (2 : Int))) ∧ 
 isPt (.ptr m.nxt 0) ∧ ∃ x66, ((ldC m61 (.ptr m.nxt 1)) = (some (Il x66))) ∧ 
 fitsP .i64 (x66 - 1) ∧ ((0 : Int) ≤ x62) ∧ ((0 : Int) < (2048 : Int)) ∧ 
 fitsP .i64 (x62 / 2048) ∧ ((0 : Int) ≤ (x62 / 2048)) ∧ 
 ((0 : Int) < (2 : Int)) ∧ fitsP .i64 ((x62 / 2048) % (2 : Int)) ∧ 
 fitsP .i64 (((x62 / 16) % x64) + ((x62 / 2048) % (2 : Int))) ∧ 
 ∀ m67 : M, (m67 = (M.new m61 (AO.cells 7 [(Il 0), (Il 0), 
 (Il 0), (Il 0), (.bool false), 
 (Il 0), (Il 0)] false))) → ∃ m68 : M, 
 ((stC m67 (.ptr m61.nxt 0) 7 [(Il (Max.max (0 : Int) ((x62 % x63) - ((x62 / 256) % (2 : Int))))), 
 (Il (Min.min (x65 - 1) ((x62 % x63) + ((x62 / 512) % (2 : Int))))), 
 (Il (Max.max (0 : Int) (((x62 / 16) % x64) - ((x62 / 1024) % (2 : Int))))), 
 (Il (Min.min (x66 - 1) (((x62 / 16) % x64) + ((x62 / 2048) % (2 : Int))))), 
 (.bool false), (Il 0), (Il 0)]) = (some m68)) ∧ 
 ∃ x69 x70 x71 x72 x73 x74, 
 ∃ x75 x76 x77 x78 x79, ∃ c80 : C, 
 ((ldA m68 (.ptr m.nxt 0) 12) = (some [(Il x69), (Il x70), 
 (Il x71), (Il x72), (Il x73), (Il x74), 
 (Il x75), (Il x76), (Il x77), (Il x78), 
 (Il x79), c80])) ∧ ∃ x81 x82 x83 x84, 
 ((ldA m68 (.ptr (m2.nxt + 0) 0) 4) = (some [(Il x81), 
 (Il x82), (Il x83), (Il x84)])) ∧ 
 Wc prog tbl 54 [(.agg 12 [(Il x69), (Il x70), 
 (Il x71), (Il x72), (Il x73), (Il x74), 
 (Il x75), (Il x76), (Il x77), (Il x78), 
 (Il x79), c80]), (.agg 4 [(Il x81), (Il x82), 
 (Il x83), (Il x84)]), (.c (Il (x62 % x63))), 
 (.c (Il ((x62 / 16) % x64)))] m68 (fun v85 m86 => ∃ x87, 
 (v85 = (.c (Il x87))) ∧ ifB (decide ((0 : Int) < x87)) (((0 : Int) ≤ x62) ∧ 
 ((0 : Int) < (4096 : Int)) ∧ fitsP .i64 (x62 / 4096) ∧ ((0 : Int) ≤ (x62 / 4096)) ∧ 
 ((0 : Int) < (2 : Int)) ∧ fitsP .i64 ((x62 / 4096) % (2 : Int)) ∧ 
 fitsP .i64 (x87 - ((x62 / 4096) % (2 : Int))) ∧ ((0 : Int) ≤ x62) ∧ 
 ((0 : Int) < (8192 : Int)) ∧ fitsP .i64 (x62 / 8192) ∧ ((0 : Int) ≤ (x62 / 8192)) ∧ 
 ((0 : Int) < (2 : Int)) ∧ fitsP .i64 ((x62 / 8192) % (2 : Int)) ∧ 
 fitsP .i64 (x87 + ((x62 / 8192) % (2 : Int))) ∧ isPt (.ptr m61.nxt 0) ∧ 
 ∃ m88 : M, ((stC m86 (.ptr m61.nxt 4) 1 [(.bool true)]) = (some m88)) ∧ 
 isPt (.ptr m61.nxt 0) ∧ ∃ m89 : M, ((stC m88 (.ptr m61.nxt 5) 2 [(Il (Max.max (0 : Int) (x87 - ((x62 / 4096) % (2 : Int))))), 
 (Il (Min.min (9 : Int) (x87 + ((x62 / 8192) % (2 : Int)))))]) = (some m89)) ∧ 
 isPt (.ptr m38.nxt 0) ∧ ∃ c90 : C, ((ldC m89 (.ptr m38.nxt 11)) = (some c90)) ∧ 
 ∃ x91 x92 x93 x94, ∃ b95 : Bool, ∃ x96, 
 ∃ x97, ((ldA m89 (.ptr m61.nxt 0) 7) = (some [(Il x91), 
 (Il x92), (Il x93), (Il x94), (.bool b95), 
 (Il x96), (Il x97)])) ∧ ∀ m98 : M, (m98 = (M.new m89 (AO.cells 7 [(Il x91), 
 (Il x92), (Il x93), (Il x94), (.bool b95), 
 (Il x96), (Il x97)] false))) → ∃ c99 : C, ∃ m100 : M, 
 (ApR prog 24 m98 c90 (.sl m89.nxt 0 1 0 (some 1)) c99 m100) ∧ isPt (.ptr m38.nxt 0) ∧ 
 ∃ m101 : M, ((stC m100 (.ptr m38.nxt 11) 1 [c99]) = (some m101)) ∧ 
 fitsP .i64 (x55 + 1) ∧ R54 [(.c (Il (x55 + 1)))] m101) (isPt (.ptr m38.nxt 0) ∧ 
 ∃ c102 : C, ((ldC m86 (.ptr m38.nxt 11)) = (some c102)) ∧ ∃ x103, 
 ∃ x104 x105 x106, ∃ b107 : Bool, ∃ x108 x109, 
 ((ldA m86 (.ptr m61.nxt 0) 7) = (some [(Il x103), (Il x104), 
 (Il x105), (Il x106), (.bool b107), (Il x108), 
 (Il x109)])) ∧ ∀ m110 : M, (m110 = (M.new m86 (AO.cells 7 [(Il x103), 
 (Il x104), (Il x105), (Il x106), 
 (.bool b107), (Il x108), (Il x109)] false))) → 
 ∃ c111 : C, ∃ m112 : M, (ApR prog 24 m110 c102 (.sl m86.nxt 0 1 0 (some 1)) c111 m112) ∧ 
 isPt (.ptr m38.nxt 0) ∧ ∃ m113 : M, ((stC m112 (.ptr m38.nxt 11) 1 [c111]) = (some m113)) ∧ 
 fitsP .i64 (x55 + 1) ∧ R54 [(.c (Il (x55 + 1)))] m113)))) (∃ x114, 
 ∃ x115 x116 x117 x118 x119 x120, 
 ∃ x121 x122 x123 x124, ∃ c125 : C, ((ldA m58 (.ptr m38.nxt 0) 12) = (some [(Il x114), 
 (Il x115), (Il x116), (Il x117), 
 (Il x118), (Il x119), (Il x120), 
 (Il x121), (Il x122), (Il x123), 
 (Il x124), c125])) ∧ ∃ x126 x127 x128, 
 ∃ x129, ((ldA m58 (.ptr (m2.nxt + 0) 0) 4) = (some [(Il x126), 
 (Il x127), (Il x128), (Il x129)])) ∧ 
 ∃ m130 : M, ((stC m58 (.ptr m0.nxt 0) 12 [(Il x114), (Il x115), 
 (Il x116), (Il x117), (Il x118), 
 (Il x119), (Il x120), (Il x121), 
 (Il x122), (Il x123), (Il x124), 
 c125]) = (some m130)) ∧ ((ldA m130 (.ptr (m2.nxt + 0) 0) 4) = (some [(Il x126), 
 (Il x127), (Il x128), (Il x129)])) ∧ 
 ∃ m131 : M, ((stC m130 (.ptr m1.nxt 0) 4 [(Il x126), (Il x127), 
 (Il x128), (Il x129)]) = (some m131)) ∧ 
 ∃ x132 x133 x134 x135 x136 x137, 
 ∃ x138 x139 x140 x141 x142, ∃ c143 : C, 
 ((ldA m131 (.ptr m0.nxt 0) 12) = (some [(Il x132), 
 (Il x133), (Il x134), (Il x135), 
 (Il x136), (Il x137), (Il x138), 
 (Il x139), (Il x140), (Il x141), 
 (Il x142), c143])) ∧ ∃ x144 x145 x146, 
 ∃ x147, ((ldA m131 (.ptr m1.nxt 0) 4) = (some [(Il x144), 
 (Il x145), (Il x146), (Il x147)])) ∧ 
 Q (.tup [(.agg 12 [(Il x132), (Il x133), (Il x134), 
 (Il x135), (Il x136), (Il x137), 
 (Il x138), (Il x139), (Il x140), 
 (Il x141), (Il x142), c143]), (.agg 4 [(Il x144), 
 (Il x145), (Il x146), (Il x147)])]) m131))) → 
 R54 [(.c (Il x55))] m56) → R54 [(.c (Il 0))] m53)))) : Wc prog tbl 50 [(.agg 12 [(Il a100), (Il a101), (Il a102), (Il a103), (Il a104), (Il a105), (Il a106), (Il a107), (Il a108), (Il a109), (Il a110), a111]), (.c (C.int .u16 a200)), (.c a300)] m Q :=
 wc_eq (n := 3) rfl (by kernel_rfl) (by kernel_rfl) h
theorem w53 {a100 : Int} {a200 : Int} {a201 : Int} {m : M} {Q : V → M → Prop} (h :
 (∀ m0 : M, (m0 = (M.new m (AO.cells 2 [(Il a200), (Il a201)] false))) → isPt (.ptr m.nxt 0) ∧ 
 ∃ x1, ((ldC m0 (.ptr m.nxt 0)) = (some (Il x1))) ∧ ifB (decide (x1 ≤ a100)) (isPt (.ptr m.nxt 0) ∧ 
 ∃ x2, ((ldC m0 (.ptr m.nxt 1)) = (some (Il x2))) ∧ Q (.c (.bool (decide (a100 ≤ x2)))) m0) (Q (.c (.bool false)) m0))) : Wc prog tbl 53 [(.c (Il a100)), (.agg 2 [(Il a200), (Il a201)])] m Q :=
 wc_eq (n := 2) rfl (by kernel_rfl) (by kernel_rfl) h
theorem w62 {a100 : Int} {a101 : Int} {m : M} {Q : V → M → Prop} (h :
 (∀ m0 : M, (m0 = (M.new m (AO.cells 2 [(Il a100), (Il a101)] false))) → isPt (.ptr m.nxt 0) ∧ 
 ∃ x1, ((ldC m0 (.ptr m.nxt 1)) = (some (Il x1))) ∧ isPt (.ptr m.nxt 0) ∧ 
 ∃ x2, ((ldC m0 (.ptr m.nxt 0)) = (some (Il x2))) ∧ fitsP .i64 (x1 - x2) ∧ 
 fitsP .i64 ((x1 - x2) + (1 : Int)) ∧ Q (.c (Il ((x1 - x2) + (1 : Int)))) m0)) : Wc prog tbl 62 [(.agg 2 [(Il a100), (Il a101)])] m Q :=
 wc_eq (n := 1) rfl (by kernel_rfl) (by kernel_rfl) h
theorem w68 {a100 : Int} {a101 : Int} {a102 : Int} {a103 : Int} {a104 : Int} {a105 : Int} {a106 : Int} {a107 : Int} {a108 : Int} {a109 : Int} {a110 : Int} {a111 : C} {a200 : C} {m : M} {Q : V → M → Prop} (h :
 (∀ m0 : M, (m0 = (M.new m (AO.cells 12 [(Il a100), (Il a101), (Il a102), 
 (Il a103), (Il a104), (Il a105), (Il a106), 
 (Il a107), (Il a108), (Il a109), (Il a110), 
 a111] false))) → ∀ m1 : M, (m1 = (M.new m0 (AO.cells 13 [(Il 0), (Il 0), 
 (Il 0), (Il 0), (Il 0), (Il 0), 
 (Il 0), (Il 0), (Il 0), (Il 0), 
 (Il 0), C.sl0, C.map0] false))) → ∃ x2 x3 x4 x5, 
 ∃ x6 x7 x8 x9 x10 x11 x12, ∃ c13 : C, 
 ((ldA m1 (.ptr m.nxt 0) 12) = (some [(Il x2), (Il x3), 
 (Il x4), (Il x5), (Il x6), (Il x7), 
 (Il x8), (Il x9), (Il x10), (Il x11), 
 (Il x12), c13])) ∧ Wc prog tbl 48 [(.agg 12 [(Il x2), (Il x3), 
 (Il x4), (Il x5), (Il x6), (Il x7), 
 (Il x8), (Il x9), (Il x10), (Il x11), 
 (Il x12), c13])] m1 (fun v14 m15 => ∃ x16, (v14 = (.c (Il x16))) ∧ 
 ifB (!decide (x16 = 0)) (∃ m17 : M, ((stC m15 (.ptr m0.nxt 0) 13 [(Il 0), 
 (Il 0), (Il 0), (Il 0), 
 (Il 0), (Il 0), (Il 0), 
 (Il 0), (Il 0), (Il 0), 
 (Il 0), C.sl0, C.map0]) = (some m17)) ∧ ∃ x18, 
 ∃ x19 x20 x21 x22 x23 x24, 
 ∃ x25 x26 x27 x28, ∃ c29 : C, ∃ c30 : C, 
 ((ldA m17 (.ptr m0.nxt 0) 13) = (some [(Il x18), (Il x19), 
 (Il x20), (Il x21), (Il x22), (Il x23), 
 (Il x24), (Il x25), (Il x26), (Il x27), 
 (Il x28), c29, c30])) ∧ Q (.tup [(.agg 13 [(Il x18), 
 (Il x19), (Il x20), (Il x21), (Il x22), 
 (Il x23), (Il x24), (Il x25), (Il x26), 
 (Il x27), (Il x28), c29, c30]), (.c (Il x16))]) m17) (∃ x31, 
 ∃ x32 x33 x34 x35 x36 x37, 
 ∃ x38 x39 x40 x41, ∃ c42 : C, ((ldA m15 (.ptr m.nxt 0) 12) = (some [(Il x31), 
 (Il x32), (Il x33), (Il x34), (Il x35), 
 (Il x36), (Il x37), (Il x38), (Il x39), 
 (Il x40), (Il x41), c42])) ∧ optB (mapO vW [(.agg 12 [(Il x31), 
 (Il x32), (Il x33), (Il x34), (Il x35), 
 (Il x36), (Il x37), (Il x38), (Il x39), 
 (Il x40), (Il x41), c42])]) False fun l43 => Wc prog tbl 106 [(.c a200), 
 (.c (C.fn (Fn.func 107) l43 []))] m15 (fun v44 m45 => ∃ b46 : Bool, (v44 = (.c (.bool b46))) ∧ 
 ifB (!b46) (∃ m47 : M, ((stC m45 (.ptr m0.nxt 0) 13 [(Il 0), 
 (Il 0), (Il 0), (Il 0), 
 (Il 0), (Il 0), (Il 0), 
 (Il 0), (Il 0), (Il 0), 
 (Il 0), C.sl0, C.map0]) = (some m47)) ∧ ∃ x48, 
 ∃ x49 x50 x51 x52 x53 x54, 
 ∃ x55 x56 x57 x58, ∃ c59 : C, ∃ c60 : C, 
 ((ldA m47 (.ptr m0.nxt 0) 13) = (some [(Il x48), (Il x49), 
 (Il x50), (Il x51), (Il x52), (Il x53), 
 (Il x54), (Il x55), (Il x56), (Il x57), 
 (Il x58), c59, c60])) ∧ Q (.tup [(.agg 13 [(Il x48), 
 (Il x49), (Il x50), (Il x51), (Il x52), 
 (Il x53), (Il x54), (Il x55), (Il x56), 
 (Il x57), (Il x58), c59, c60]), (.c (Il (2 : Int)))]) m47) (∃ x61, 
 ∃ x62 x63 x64 x65 x66 x67, 
 ∃ x68 x69 x70 x71, ∃ c72 : C, ((ldA m45 (.ptr m.nxt 0) 12) = (some [(Il x61), 
 (Il x62), (Il x63), (Il x64), (Il x65), 
 (Il x66), (Il x67), (Il x68), (Il x69), 
 (Il x70), (Il x71), c72])) ∧ Wc prog tbl 81 [(.agg 12 [(Il x61), 
 (Il x62), (Il x63), (Il x64), (Il x65), 
 (Il x66), (Il x67), (Il x68), (Il x69), 
 (Il x70), (Il x71), c72])] m45 (fun v73 m74 => 
 ∃ x75 x76 x77 x78 x79 x80, 
 ∃ x81 x82 x83 x84 x85, ∃ c86 : C, 
 ∃ c87 : C, (v73 = (.agg 13 [(Il x75), (Il x76), 
 (Il x77), (Il x78), (Il x79), (Il x80), 
 (Il x81), (Il x82), (Il x83), (Il x84), 
 (Il x85), c86, c87])) ∧ ∀ m88 : M, (m88 = (M.new m74 (AO.cells 13 [(Il 0), 
 (Il 0), (Il 0), (Il 0), 
 (Il 0), (Il 0), (Il 0), 
 (Il 0), (Il 0), (Il 0), 
 (Il 0), C.sl0, C.map0] false))) → ∃ m89 : M, ((stC m88 (.ptr m74.nxt 0) 13 [(Il x75), 
 (Il x76), (Il x77), (Il x78), (Il x79), 
 (Il x80), (Il x81), (Il x82), (Il x83), 
 (Il x84), (Il x85), c86, c87]) = (some m89)) ∧ 
 ∃ x90 x91 x92 x93 x94 x95, 
 ∃ x96 x97 x98 x99 x100, ∃ c101 : C, 
 ∃ c102 : C, ((ldA m89 (.ptr m74.nxt 0) 13) = (some [(Il x90), 
 (Il x91), (Il x92), (Il x93), (Il x94), 
 (Il x95), (Il x96), (Il x97), (Il x98), 
 (Il x99), (Il x100), c101, c102])) ∧ Wc prog tbl 86 [(.agg 13 [(Il x90), 
 (Il x91), (Il x92), (Il x93), (Il x94), 
 (Il x95), (Il x96), (Il x97), (Il x98), 
 (Il x99), (Il x100), c101, c102])] m89 (fun v103 m104 => 
 ∃ b105 : Bool, (v103 = (.c (.bool b105))) ∧ ifB (!b105) (∃ m106 : M, ((stC m104 (.ptr m0.nxt 0) 13 [(Il 0), 
 (Il 0), (Il 0), (Il 0), 
 (Il 0), (Il 0), (Il 0), 
 (Il 0), (Il 0), (Il 0), 
 (Il 0), C.sl0, C.map0]) = (some m106)) ∧ ∃ x107, 
 ∃ x108 x109 x110 x111 x112 x113, 
 ∃ x114 x115 x116 x117, ∃ c118 : C, ∃ c119 : C, 
 ((ldA m106 (.ptr m0.nxt 0) 13) = (some [(Il x107), 
 (Il x108), (Il x109), (Il x110), 
 (Il x111), (Il x112), (Il x113), 
 (Il x114), (Il x115), (Il x116), 
 (Il x117), c118, c119])) ∧ Q (.tup [(.agg 13 [(Il x107), 
 (Il x108), (Il x109), (Il x110), 
 (Il x111), (Il x112), (Il x113), 
 (Il x114), (Il x115), (Il x116), 
 (Il x117), c118, c119]), (.c (Il (11 : Int)))]) m106) (∃ x120, 
 ∃ x121 x122 x123 x124 x125 x126, 
 ∃ x127 x128 x129 x130, ∃ c131 : C, ∃ c132 : C, 
 ((ldA m104 (.ptr m74.nxt 0) 13) = (some [(Il x120), 
 (Il x121), (Il x122), (Il x123), 
 (Il x124), (Il x125), (Il x126), 
 (Il x127), (Il x128), (Il x129), 
 (Il x130), c131, c132])) ∧ ∃ m133 : M, ((stC m104 (.ptr m0.nxt 0) 13 [(Il x120), 
 (Il x121), (Il x122), (Il x123), 
 (Il x124), (Il x125), (Il x126), 
 (Il x127), (Il x128), (Il x129), 
 (Il x130), c131, c132]) = (some m133)) ∧ ∃ x134, 
 ∃ x135 x136 x137 x138 x139 x140, 
 ∃ x141 x142 x143 x144, ∃ c145 : C, ∃ c146 : C, 
 ((ldA m133 (.ptr m0.nxt 0) 13) = (some [(Il x134), 
 (Il x135), (Il x136), (Il x137), 
 (Il x138), (Il x139), (Il x140), 
 (Il x141), (Il x142), (Il x143), 
 (Il x144), c145, c146])) ∧ Q (.tup [(.agg 13 [(Il x134), 
 (Il x135), (Il x136), (Il x137), 
 (Il x138), (Il x139), (Il x140), 
 (Il x141), (Il x142), (Il x143), 
 (Il x144), c145, c146]), (.c (Il 0))]) m133))))))))) : Wc prog tbl 68 [(.agg 12 [(Il a100), (Il a101), (Il a102), (Il a103), (Il a104), (Il a105), (Il a106), (Il a107), (Il a108), (Il a109), (Il a110), a111]), (.c a200)] m Q :=
 wc_eq (n := 2) rfl (by kernel_rfl) (by kernel_rfl) h
theorem w71 {a100 : Int} {a101 : Int} {a102 : Int} {a103 : Int} {a104 : Int} {a105 : Int} {a106 : Int} {a107 : Int} {a108 : Int} {a109 : Int} {a110 : Int} {a111 : C} {a200 : Int} {a201 : Int} {a202 : Int} {a203 : Int} {a300 : Int} {a400 : Int} {m : M} {Q : V → M → Prop} (h :
 (∀ m0 : M, (m0 = (M.new m (AO.cells 12 [(Il a100), (Il a101), (Il a102), 
 (Il a103), (Il a104), (Il a105), (Il a106), 
 (Il a107), (Il a108), (Il a109), (Il a110), 
 a111] false))) → ∀ m1 : M, (m1 = (M.new m0 (AO.cells 4 [(Il a200), (Il a201), 
 (Il a202), (Il a203)] false))) → ∃ x2 x3 x4, 
 ∃ x5 x6 x7 x8 x9 x10 x11 x12, 
 ∃ c13 : C, ((ldA m1 (.ptr m.nxt 0) 12) = (some [(Il x2), (Il x3), 
 (Il x4), (Il x5), (Il x6), (Il x7), 
 (Il x8), (Il x9), (Il x10), (Il x11), 
 (Il x12), c13])) ∧ ∃ x14 x15 x16 x17, 
 ((ldA m1 (.ptr m0.nxt 0) 4) = (some [(Il x14), (Il x15), 
 (Il x16), (Il x17)])) ∧ Wc prog tbl 102 [(.agg 12 [(Il x2), 
 (Il x3), (Il x4), (Il x5), (Il x6), 
 (Il x7), (Il x8), (Il x9), (Il x10), 
 (Il x11), (Il x12), c13]), (.agg 4 [(Il x14), 
 (Il x15), (Il x16), (Il x17)]), (.c (Il a300)), 
 (.c (Il a400))] m1 (fun v18 m19 => ∃ x20, (v18 = (.c (Il x20))) ∧ 
 isPt (.ptr m.nxt 0) ∧ ∃ x21, ((ldC m19 (.ptr m.nxt 0)) = (some (Il x21))) ∧ 
 ((ldC m1 (.ptr m.nxt 0)) = (some (Il x21))) ∧ fitsP .i64 (x21 - 1) ∧ 
 isPt (.ptr m0.nxt 0) ∧ ∃ x22, ((ldC m19 (.ptr m0.nxt 2)) = (some (Il x22))) ∧ 
 ((ldC m1 (.ptr m0.nxt 2)) = (some (Il x22))) ∧ ((0 : Int) ≤ (x21 - 1)) ∧ 
 ((0 : Int) ≤ x22) ∧ fitsP .i64 ((x21 - 1) * x22) ∧ Q (.c (.bool (decide (x20 ≤ ((x21 - 1) * x22))))) m19))) : Wc prog tbl 71 [(.agg 12 [(Il a100), (Il a101), (Il a102), (Il a103), (Il a104), (Il a105), (Il a106), (Il a107), (Il a108), (Il a109), (Il a110), a111]), (.agg 4 [(Il a200), (Il a201), (Il a202), (Il a203)]), (.c (Il a300)), (.c (Il a400))] m Q :=
 wc_eq (n := 4) rfl (by kernel_rfl) (by kernel_rfl) h
theorem w75 {a100 : Int} {a101 : Int} {a102 : Int} {a103 : Int} {a104 : Int} {a105 : Int} {a106 : Int} {a107 : Int} {a108 : Int} {a109 : Int} {a110 : Int} {a111 : C} {a200 : Int} {a201 : Int} {a202 : Int} {a203 : Int} {a300 : Int} {a400 : Int} {m : M} {Q : V → M → Prop} (h :
 (∀ m0 : M, (m0 = (M.new m (AO.cells 12 [(Il a100), (Il a101), (Il a102), 
 (Il a103), (Il a104), (Il a105), (Il a106), 
 (Il a107), (Il a108), (Il a109), (Il a110), 
 a111] false))) → ∀ m1 : M, (m1 = (M.new m0 (AO.cells 4 [(Il a200), (Il a201), 
 (Il a202), (Il a203)] false))) → ∃ x2 x3 x4, 
 ∃ x5 x6 x7 x8 x9 x10 x11 x12, 
 ∃ c13 : C, ((ldA m1 (.ptr m.nxt 0) 12) = (some [(Il x2), (Il x3), 
 (Il x4), (Il x5), (Il x6), (Il x7), 
 (Il x8), (Il x9), (Il x10), (Il x11), 
 (Il x12), c13])) ∧ ∃ x14 x15 x16 x17, 
 ((ldA m1 (.ptr m0.nxt 0) 4) = (some [(Il x14), (Il x15), 
 (Il x16), (Il x17)])) ∧ Wc prog tbl 112 [(.agg 12 [(Il x2), 
 (Il x3), (Il x4), (Il x5), (Il x6), 
 (Il x7), (Il x8), (Il x9), (Il x10), 
 (Il x11), (Il x12), c13]), (.agg 4 [(Il x14), 
 (Il x15), (Il x16), (Il x17)]), (.c (Il a300)), 
 (.c (Il a400))] m1 (fun v18 m19 => ∃ b20 : Bool, (v18 = (.c (.bool b20))) ∧ 
 ifB (!b20) (Q (.c (Il 0)) m19) (isPt (.ptr m0.nxt 0) ∧ 
 ∃ x21, ((ldC m19 (.ptr m0.nxt 3)) = (some (Il x21))) ∧ 
 isPt (.ptr m.nxt 0) ∧ ∃ x22, ((ldC m19 (.ptr m.nxt 2)) = (some (Il x22))) ∧ 
 ∃ x23 x24 x25 x26 x27 x28, 
 ∃ x29 x30 x31 x32 x33, ∃ c34 : C, 
 ((ldA m19 (.ptr m.nxt 0) 12) = (some [(Il x23), (Il x24), 
 (Il x25), (Il x26), (Il x27), (Il x28), 
 (Il x29), (Il x30), (Il x31), (Il x32), 
 (Il x33), c34])) ∧ ∃ x35 x36 x37 x38, 
 ((ldA m19 (.ptr m0.nxt 0) 4) = (some [(Il x35), (Il x36), 
 (Il x37), (Il x38)])) ∧ Wc prog tbl 113 [(.agg 12 [(Il x23), 
 (Il x24), (Il x25), (Il x26), (Il x27), 
 (Il x28), (Il x29), (Il x30), (Il x31), 
 (Il x32), (Il x33), c34]), (.agg 4 [(Il x35), 
 (Il x36), (Il x37), (Il x38)]), 
 (.c (Il a300)), (.c (Il a400))] m19 (fun v39 m40 => 
 ∃ x41, (v39 = (.c (Il x41))) ∧ ((ldC m40 (.ptr m.nxt 2)) = (some (Il x22))) ∧ 
 ((ldC m40 (.ptr m0.nxt 3)) = (some (Il x21))) ∧ isPt (.ptr m.nxt 0) ∧ 
 ∃ x42, ((ldC m40 (.ptr m.nxt 0)) = (some (Il x42))) ∧ 
 ((ldC m19 (.ptr m.nxt 0)) = (some (Il x42))) ∧ fitsP .i64 (x42 - 1) ∧ 
 ((0 : Int) ≤ x41) ∧ ((0 : Int) < (x42 - 1)) ∧ fitsP .i64 (x41 / (x42 - 1)) ∧ 
 ((0 : Int) ≤ x22) ∧ ((0 : Int) ≤ (x41 / (x42 - 1))) ∧ fitsP .i64 (x22 * (x41 / (x42 - 1))) ∧ 
 fitsP .i64 (x21 - (x22 * (x41 / (x42 - 1)))) ∧ Q (.c (Il (Max.max (1 : Int) (x21 - (x22 * (x41 / (x42 - 1))))))) m40))))) : Wc prog tbl 75 [(.agg 12 [(Il a100), (Il a101), (Il a102), (Il a103), (Il a104), (Il a105), (Il a106), (Il a107), (Il a108), (Il a109), (Il a110), a111]), (.agg 4 [(Il a200), (Il a201), (Il a202), (Il a203)]), (.c (Il a300)), (.c (Il a400))] m Q :=
 wc_eq (n := 4) rfl (by kernel_rfl) (by kernel_rfl) h
theorem w78 {a100 : Int} {a101 : Int} {a102 : Int} {a103 : Int} {m : M} {Q : V → M → Prop} (h :
 (∀ m0 : M, (m0 = (M.new m (AO.cells 4 [(Il a100), (Il a101), (Il a102), 
 (Il a103)] false))) → Q (.c (C.fn (Fn.func 114) [] [(W.c (C0.ptr m.nxt 0))])) m0)) : Wc prog tbl 78 [(.agg 4 [(Il a100), (Il a101), (Il a102), (Il a103)])] m Q :=
 wc_eq (n := 1) rfl (by kernel_rfl) (by kernel_rfl) h
theorem w81 {a100 : Int} {a101 : Int} {a102 : Int} {a103 : Int} {a104 : Int} {a105 : Int} {a106 : Int} {a107 : Int} {a108 : Int} {a109 : Int} {a110 : Int} {a111 : C} {m : M} {Q : V → M → Prop} (h :
 (∀ m0 : M, (m0 = (M.new m (AO.cells 12 [(Il a100), (Il a101), (Il a102), 
 (Il a103), (Il a104), (Il a105), (Il a106), 
 (Il a107), (Il a108), (Il a109), (Il a110), 
 a111] false))) → ∀ m1 : M, (m1 = (M.new m0 (AO.cells 13 [(Il 0), (Il 0), 
 (Il 0), (Il 0), (Il 0), (Il 0), 
 (Il 0), (Il 0), (Il 0), (Il 0), 
 (Il 0), C.sl0, C.map0] false))) → ∃ x2 x3 x4 x5, 
 ∃ x6 x7 x8 x9 x10 x11 x12, ∃ c13 : C, 
 ((ldA m1 (.ptr m.nxt 0) 12) = (some [(Il x2), (Il x3), 
 (Il x4), (Il x5), (Il x6), (Il x7), 
 (Il x8), (Il x9), (Il x10), (Il x11), 
 (Il x12), c13])) ∧ ∀ m14 : M, (m14 = (M.new m1 (AO.map [] 0))) → ∀ m15 : M, 
 (m15 = (M.new m14 (AO.cells 13 [(Il 0), (Il 0), 
 (Il 0), (Il 0), (Il 0), 
 (Il 0), (Il 0), (Il 0), 
 (Il 0), (Il 0), (Il 0), 
 C.sl0, C.map0] false))) → ∃ m16 : M, ((stC m15 (.ptr m14.nxt 0) 13 [(Il x2), 
 (Il x3), (Il x4), (Il x5), (Il x6), 
 (Il x7), (Il x8), (Il x9), (Il x10), 
 (Il x11), (Il x12), c13, (C.map m1.nxt)]) = (some m16)) ∧ 
 isPt (.ptr m14.nxt 0) ∧ ∃ x17 x18 x19 x20, 
 ∃ x21 x22 x23 x24 x25 x26, 
 ∃ x27, ∃ c28 : C, ((ldA m16 (.ptr m14.nxt 0) 12) = (some [(Il x17), 
 (Il x18), (Il x19), (Il x20), (Il x21), 
 (Il x22), (Il x23), (Il x24), (Il x25), 
 (Il x26), (Il x27), c28])) ∧ Wc prog tbl 116 [(.agg 12 [(Il x17), 
 (Il x18), (Il x19), (Il x20), (Il x21), 
 (Il x22), (Il x23), (Il x24), (Il x25), 
 (Il x26), (Il x27), c28])] m16 (fun v29 m30 => 
 ∃ c31 : C, (v29 = (.c c31)) ∧ rangeP prog tbl c31 m30 (fun l32 m33 R34 R35 => 
 ∃ x36 x37 x38 x39, (l32 = [(.agg 4 [(Il x36), 
 (Il x37), (Il x38), (Il x39)])]) ∧ 
 ∀ m40 : M, (m40 = (M.new m33 (AO.cells 4 [(Il 0), (Il 0), 
 (Il 0), (Il 0)] false))) → ∃ m41 : M, 
 ((stC m40 (.ptr m33.nxt 0) 4 [(Il x36), (Il x37), 
 (Il x38), (Il x39)]) = (some m41)) ∧ R34 m41 (fun m42 => 
 isPt (.ptr m14.nxt 0) ∧ ∃ c43 : C, ((ldC m42 (.ptr m14.nxt 12)) = (some c43)) ∧ 
 ∃ x44 x45 x46 x47, ((ldA m42 (.ptr m33.nxt 0) 4) = (some [(Il x44), 
 (Il x45), (Il x46), (Il x47)])) ∧ 
 ∃ x48 x49 x50 x51 x52 x53, 
 ∃ x54 x55 x56 x57 x58, ∃ c59 : C, 
 ∃ c60 : C, ((ldA m42 (.ptr m14.nxt 0) 13) = (some [(Il x48), 
 (Il x49), (Il x50), (Il x51), (Il x52), 
 (Il x53), (Il x54), (Il x55), (Il x56), 
 (Il x57), (Il x58), c59, c60])) ∧ ∃ x61, 
 ∃ x62 x63 x64, ((ldA m42 (.ptr m33.nxt 0) 4) = (some [(Il x61), 
 (Il x62), (Il x63), (Il x64)])) ∧ 
 Wc prog tbl 91 [(.agg 13 [(Il x48), (Il x49), 
 (Il x50), (Il x51), (Il x52), (Il x53), 
 (Il x54), (Il x55), (Il x56), (Il x57), 
 (Il x58), c59, c60]), (.agg 4 [(Il x61), (Il x62), 
 (Il x63), (Il x64)])] m42 (fun v65 m66 => ∃ b67 : Bool, 
 ∃ b68 : Bool, ∃ b69 : Bool, ∃ b70 : Bool, ∃ b71 : Bool, ∃ b72 : Bool, (v65 = (.agg 6 [(.bool b67), 
 (.bool b68), (.bool b69), (.bool b70), (.bool b71), (.bool b72)])) ∧ ((ldA m66 (.ptr m33.nxt 0) 4) = (some [(Il x44), 
 (Il x45), (Il x46), (Il x47)])) ∧ 
 (ifB (cmC c43) ((ldC m66 (.ptr m14.nxt 12)) = (some c43)) False) ∧ 
 ∃ m73 : M, ((upM prog 43 m66 c43 (.agg 4 [(Il x44), (Il x45), 
 (Il x46), (Il x47)]) (.agg 6 [(.bool b67), (.bool b68), 
 (.bool b69), (.bool b70), (.bool b71), (.bool b72)])) = (some m73)) ∧ 
 R35 Ex.nrm m73))) (After.mk (fun m74 => 
 ∃ x75 x76 x77 x78 x79 x80, 
 ∃ x81 x82 x83 x84 x85, ∃ c86 : C, 
 ∃ c87 : C, ((ldA m74 (.ptr m14.nxt 0) 13) = (some [(Il x75), 
 (Il x76), (Il x77), (Il x78), (Il x79), 
 (Il x80), (Il x81), (Il x82), (Il x83), 
 (Il x84), (Il x85), c86, c87])) ∧ ∃ m88 : M, ((stC m74 (.ptr m0.nxt 0) 13 [(Il x75), 
 (Il x76), (Il x77), (Il x78), (Il x79), 
 (Il x80), (Il x81), (Il x82), (Il x83), 
 (Il x84), (Il x85), c86, c87]) = (some m88)) ∧ 
 ∃ x89 x90 x91 x92 x93 x94, 
 ∃ x95 x96 x97 x98 x99, ∃ c100 : C, 
 ∃ c101 : C, ((ldA m88 (.ptr m0.nxt 0) 13) = (some [(Il x89), 
 (Il x90), (Il x91), (Il x92), (Il x93), 
 (Il x94), (Il x95), (Il x96), (Il x97), 
 (Il x98), (Il x99), c100, c101])) ∧ Q (.agg 13 [(Il x89), 
 (Il x90), (Il x91), (Il x92), (Il x93), 
 (Il x94), (Il x95), (Il x96), (Il x97), 
 (Il x98), (Il x99), c100, c101]) m88) [] (fun m102 => 
 ∃ x103 x104 x105 x106 x107 x108, 
 ∃ x109 x110 x111 x112 x113, ∃ c114 : C, 
 ∃ c115 : C, ((ldA m102 (.ptr m0.nxt 0) 13) = (some [(Il x103), 
 (Il x104), (Il x105), (Il x106), 
 (Il x107), (Il x108), (Il x109), 
 (Il x110), (Il x111), (Il x112), 
 (Il x113), c114, c115])) ∧ Q (.agg 13 [(Il x103), 
 (Il x104), (Il x105), (Il x106), 
 (Il x107), (Il x108), (Il x109), 
 (Il x110), (Il x111), (Il x112), 
 (Il x113), c114, c115]) m102))))) : Wc prog tbl 81 [(.agg 12 [(Il a100), (Il a101), (Il a102), (Il a103), (Il a104), (Il a105), (Il a106), (Il a107), (Il a108), (Il a109), (Il a110), a111])] m Q :=
 wc_eq (n := 1) rfl (by kernel_rfl) (by kernel_rfl) h
theorem w84 {a100 : Int} {a101 : Int} {a102 : Int} {a103 : Int} {a104 : Int} {a105 : Int} {a106 : Int} {a107 : Int} {a108 : Int} {a109 : Int} {a110 : Int} {a111 : C} {a112 : C} {a200 : C} {m : M} {Q : V → M → Prop} (h :
 (∀ m0 : M, (m0 = (M.new m (AO.cells 13 [(Il a100), (Il a101), (Il a102), 
 (Il a103), (Il a104), (Il a105), (Il a106), 
 (Il a107), (Il a108), (Il a109), (Il a110), 
 a111, a112] false))) → ∀ m1 : M, (m1 = (M.new m0 (AO.cells 1 [a200] false))) → isPt (.ptr m.nxt 0) ∧ 
 isPt (.ptr m.nxt 0) ∧ ∃ c2 : C, ((ldC m1 (.ptr m.nxt 11)) = (some c2)) ∧ isSl c2 ∧ Wc prog tbl 118 [(.c (Il (((slLen c2) : Nat) : Int))), 
 (.c (C.fn (Fn.func 119) [] [(W.c (C0.ptr m0.nxt 0)), (W.c (C0.ptr m.nxt 0))]))] m1 (fun v3 m4 => 
 ∃ c5 : C, (v3 = (.c c5)) ∧ Q (.c c5) m4))) : Wc prog tbl 84 [(.agg 13 [(Il a100), (Il a101), (Il a102), (Il a103), (Il a104), (Il a105), (Il a106), (Il a107), (Il a108), (Il a109), (Il a110), a111, a112]), (.agg 1 [a200])] m Q :=
 wc_eq (n := 2) rfl (by kernel_rfl) (by kernel_rfl) h
theorem w87 {a100 : Int} {a101 : Int} {a102 : Int} {a103 : Int} {a104 : Int} {a105 : Int} {a106 : Int} {a107 : Int} {a108 : Int} {a109 : Int} {a110 : Int} {a111 : C} {a112 : C} {a200 : C} {m : M} {Q : V → M → Prop} (h :
 (∀ m0 : M, (m0 = (M.new m (AO.cells 13 [(Il a100), (Il a101), (Il a102), 
 (Il a103), (Il a104), (Il a105), (Il a106), 
 (Il a107), (Il a108), (Il a109), (Il a110), 
 a111, a112] false))) → ∀ m1 : M, (m1 = (M.new m0 (AO.cells 6 [(.bool false), (.bool false), (.bool false), 
 (.bool false), (.bool false), (.bool false)] false))) → isSl a200 ∧ ∀ R2 : List V → M → Prop, 
 (∀ x3 : Int, ∀ m4 : M, (ifB (decide (x3 < (((slLen a200) : Nat) : Int))) (∃ n5 : Nat, (x3 = ((n5 : Nat) : Int)) ∧ 
 (n5 < (slLen a200)) ∧ ∃ x6, ((ldC m4 (slAt a200 (n5 * 1))) = (some (Il x6))) ∧ 
 isPt (.ptr m0.nxt 0) ∧ ∃ n7 : Nat, (x6 = ((n7 : Nat) : Int)) ∧ (n7 < 6) ∧ ∃ m8 : M, 
 ((stC m4 (.ptr m0.nxt (0 + (n7 * 1))) 1 [(.bool true)]) = (some m8)) ∧ fitsP .i64 (x3 + 1) ∧ 
 R2 [(.c (Il (x3 + 1)))] m8) (∃ x9 x10, 
 ∃ x11 x12 x13 x14 x15 x16 x17, 
 ∃ x18 x19, ∃ c20 : C, ∃ c21 : C, ((ldA m4 (.ptr m.nxt 0) 13) = (some [(Il x9), 
 (Il x10), (Il x11), (Il x12), (Il x13), 
 (Il x14), (Il x15), (Il x16), (Il x17), 
 (Il x18), (Il x19), c20, c21])) ∧ ∃ b22 : Bool, 
 ∃ b23 : Bool, ∃ b24 : Bool, ∃ b25 : Bool, ∃ b26 : Bool, ∃ b27 : Bool, ((ldA m4 (.ptr m0.nxt 0) 6) = (some [(.bool b22), 
 (.bool b23), (.bool b24), (.bool b25), (.bool b26), (.bool b27)])) ∧ Wc prog tbl 82 [(.agg 13 [(Il x9), 
 (Il x10), (Il x11), (Il x12), (Il x13), 
 (Il x14), (Il x15), (Il x16), (Il x17), 
 (Il x18), (Il x19), c20, c21]), (.agg 6 [(.bool b22), 
 (.bool b23), (.bool b24), (.bool b25), (.bool b26), (.bool b27)])] m4 (fun v28 m29 => 
 ∃ b30 : Bool, (v28 = (.c (.bool b30))) ∧ Q (.c (.bool (!b30))) m29))) → 
 R2 [(.c (Il x3))] m4) → R2 [(.c (Il 0))] m1)) : Wc prog tbl 87 [(.agg 13 [(Il a100), (Il a101), (Il a102), (Il a103), (Il a104), (Il a105), (Il a106), (Il a107), (Il a108), (Il a109), (Il a110), a111, a112]), (.c a200)] m Q :=
 wc_eq (n := 2) rfl (by kernel_rfl) (by kernel_rfl) h
theorem w90 {a100 : Int} {a101 : Int} {a102 : Int} {a103 : Int} {a104 : Int} {a105 : Int} {a106 : Int} {a107 : Int} {a108 : Int} {a109 : Int} {a110 : Int} {a111 : C} {a200 : Int} {a201 : Int} {a202 : Int} {a203 : Int} {m : M} {Q : V → M → Prop} (h :
 (∀ m0 : M, (m0 = (M.new m (AO.cells 12 [(Il a100), (Il a101), (Il a102), 
 (Il a103), (Il a104), (Il a105), (Il a106), 
 (Il a107), (Il a108), (Il a109), (Il a110), 
 a111] false))) → ∀ m1 : M, (m1 = (M.new m0 (AO.cells 4 [(Il a200), (Il a201), 
 (Il a202), (Il a203)] false))) → isPt (.ptr m.nxt 0) ∧ ∃ x2, 
 ∃ x3, ((ldA m1 (.ptr m.nxt 3) 2) = (some [(Il x2), (Il x3)])) ∧ 
 isPt (.ptr m0.nxt 0) ∧ ∃ x4, ((ldC m1 (.ptr m0.nxt 0)) = (some (Il x4))) ∧ 
 Wc prog tbl 120 [(.agg 2 [(Il x2), (Il x3)]), (.c (Il x4))] m1 (fun v5 m6 => 
 ∃ b7 : Bool, (v5 = (.c (.bool b7))) ∧ ifB b7 (isPt (.ptr m.nxt 0) ∧ ∃ x8 x9, 
 ((ldA m6 (.ptr m.nxt 5) 2) = (some [(Il x8), (Il x9)])) ∧ 
 isPt (.ptr m0.nxt 0) ∧ ∃ x10, ((ldC m6 (.ptr m0.nxt 1)) = (some (Il x10))) ∧ 
 Wc prog tbl 120 [(.agg 2 [(Il x8), (Il x9)]), (.c (Il x10))] m6 (fun v11 m12 => 
 ∃ b13 : Bool, (v11 = (.c (.bool b13))) ∧ ifB b13 (isPt (.ptr m.nxt 0) ∧ ∃ x14, 
 ∃ x15, ((ldA m12 (.ptr m.nxt 7) 2) = (some [(Il x14), 
 (Il x15)])) ∧ isPt (.ptr m0.nxt 0) ∧ ∃ x16, ((ldC m12 (.ptr m0.nxt 2)) = (some (Il x16))) ∧ 
 Wc prog tbl 120 [(.agg 2 [(Il x14), (Il x15)]), 
 (.c (Il x16))] m12 (fun v17 m18 => ∃ b19 : Bool, (v17 = (.c (.bool b19))) ∧ 
 ifB b19 (isPt (.ptr m.nxt 0) ∧ ∃ x20 x21, ((ldA m18 (.ptr m.nxt 9) 2) = (some [(Il x20), 
 (Il x21)])) ∧ isPt (.ptr m0.nxt 0) ∧ ∃ x22, ((ldC m18 (.ptr m0.nxt 3)) = (some (Il x22))) ∧ 
 Wc prog tbl 120 [(.agg 2 [(Il x20), (Il x21)]), 
 (.c (Il x22))] m18 (fun v23 m24 => ∃ b25 : Bool, (v23 = (.c (.bool b25))) ∧ 
 Q (.c (.bool b25)) m24)) (Q (.c (.bool false)) m18))) (Q (.c (.bool false)) m12))) (Q (.c (.bool false)) m6)))) : Wc prog tbl 90 [(.agg 12 [(Il a100), (Il a101), (Il a102), (Il a103), (Il a104), (Il a105), (Il a106), (Il a107), (Il a108), (Il a109), (Il a110), a111]), (.agg 4 [(Il a200), (Il a201), (Il a202), (Il a203)])] m Q :=
 wc_eq (n := 2) rfl (by kernel_rfl) (by kernel_rfl) h
theorem w93 {a100 : Int} {a101 : Int} {a102 : Int} {a103 : Int} {m : M} {Q : V → M → Prop} (h :
 (∀ m0 : M, (m0 = (M.new m (AO.cells 4 [(Il a100), (Il a101), (Il a102), 
 (Il a103)] false))) → isPt (.ptr m.nxt 0) ∧ ∃ x1, ((ldC m0 (.ptr m.nxt 0)) = (some (Il x1))) ∧ 
 Q (.c (Il x1)) m0)) : Wc prog tbl 93 [(.agg 4 [(Il a100), (Il a101), (Il a102), (Il a103)])] m Q :=
 wc_eq (n := 1) rfl (by kernel_rfl) (by kernel_rfl) h
theorem w96 {a100 : Int} {a101 : Int} {a102 : Int} {a103 : Int} {m : M} {Q : V → M → Prop} (h :
 (∀ m0 : M, (m0 = (M.new m (AO.cells 4 [(Il a100), (Il a101), (Il a102), 
 (Il a103)] false))) → isPt (.ptr m.nxt 0) ∧ ∃ x1, ((ldC m0 (.ptr m.nxt 3)) = (some (Il x1))) ∧ 
 Q (.c (Il x1)) m0)) : Wc prog tbl 96 [(.agg 4 [(Il a100), (Il a101), (Il a102), (Il a103)])] m Q :=
 wc_eq (n := 1) rfl (by kernel_rfl) (by kernel_rfl) h
theorem w99 {a100 : Int} {a101 : Int} {a102 : Int} {a103 : Int} {a104 : Int} {a105 : Int} {a106 : Int} {a107 : Int} {a108 : Int} {a109 : Int} {a110 : Int} {a111 : C} {a112 : C} {m : M} {Q : V → M → Prop} (h :
 (∀ m0 : M, (m0 = (M.new m (AO.cells 13 [(Il a100), (Il a101), (Il a102), 
 (Il a103), (Il a104), (Il a105), (Il a106), 
 (Il a107), (Il a108), (Il a109), (Il a110), 
 a111, a112] false))) → isPt (.ptr m.nxt 0) ∧ isPt (.ptr m.nxt 0) ∧ ∃ x1, ((ldC m0 (.ptr m.nxt 0)) = (some (Il x1))) ∧ 
 ifB (decide ((2 : Int) ≤ x1)) (isPt (.ptr m.nxt 0) ∧ isPt (.ptr m.nxt 0) ∧ ∃ x2, ((ldC m0 (.ptr m.nxt 1)) = (some (Il x2))) ∧ 
 ifB (decide ((1 : Int) ≤ x2)) (isPt (.ptr m.nxt 0) ∧ isPt (.ptr m.nxt 0) ∧ ∃ x3, 
 ((ldC m0 (.ptr m.nxt 2)) = (some (Il x3))) ∧ ifB (decide ((0 : Int) ≤ x3)) (isPt (.ptr m.nxt 0) ∧ 
 isPt (.ptr m.nxt 0) ∧ ∃ x4, ((ldC m0 (.ptr m.nxt 2)) = (some (Il x4))) ∧ 
 ifB (decide (x4 ≤ 4)) (isPt (.ptr m.nxt 0) ∧ isPt (.ptr m.nxt 0) ∧ ∃ x5, 
 ∃ x6, ((ldA m0 (.ptr m.nxt 3) 2) = (some [(Il x5), 
 (Il x6)])) ∧ isPt (.ptr m.nxt 0) ∧ isPt (.ptr m.nxt 0) ∧ 
 ∃ x7, ((ldC m0 (.ptr m.nxt 1)) = (some (Il x7))) ∧ 
 fitsP .i64 (x7 - 1) ∧ Wc prog tbl 122 [(.agg 2 [(Il x5), 
 (Il x6)]), (.c (Il 0)), (.c (Il (x7 - 1)))] m0 (fun v8 m9 => 
 ∃ b10 : Bool, (v8 = (.c (.bool b10))) ∧ ifB b10 (isPt (.ptr m.nxt 0) ∧ 
 isPt (.ptr m.nxt 0) ∧ ∃ x11 x12, ((ldA m9 (.ptr m.nxt 5) 2) = (some [(Il x11), 
 (Il x12)])) ∧ isPt (.ptr m.nxt 0) ∧ isPt (.ptr m.nxt 0) ∧ 
 ∃ x13, ((ldC m9 (.ptr m.nxt 1)) = (some (Il x13))) ∧ 
 fitsP .i64 (x13 - 1) ∧ Wc prog tbl 122 [(.agg 2 [(Il x11), 
 (Il x12)]), (.c (Il 0)), (.c (Il (x13 - 1)))] m9 (fun v14 m15 => 
 ∃ b16 : Bool, (v14 = (.c (.bool b16))) ∧ ifB b16 (isPt (.ptr m.nxt 0) ∧ 
 isPt (.ptr m.nxt 0) ∧ ∃ x17 x18, ((ldA m15 (.ptr m.nxt 7) 2) = (some [(Il x17), 
 (Il x18)])) ∧ Wc prog tbl 122 [(.agg 2 [(Il x17), 
 (Il x18)]), (.c (Il 0)), (.c (Il (3 : Int)))] m15 (fun v19 m20 => 
 ∃ b21 : Bool, (v19 = (.c (.bool b21))) ∧ ifB b21 (isPt (.ptr m.nxt 0) ∧ 
 isPt (.ptr m.nxt 0) ∧ ∃ x22 x23, ((ldA m20 (.ptr m.nxt 9) 2) = (some [(Il x22), 
 (Il x23)])) ∧ Wc prog tbl 122 [(.agg 2 [(Il x22), 
 (Il x23)]), (.c (Il (1 : Int))), (.c (Il (9 : Int)))] m20 (fun v24 m25 => 
 ∃ b26 : Bool, (v24 = (.c (.bool b26))) ∧ ifB b26 (isPt (.ptr m.nxt 0) ∧ 
 isPt (.ptr m.nxt 0) ∧ ∃ c27 : C, ((ldC m25 (.ptr m.nxt 11)) = (some c27)) ∧ 
 ∃ x28 x29 x30 x31 x32 x33, 
 ∃ x34 x35 x36 x37 x38, ∃ c39 : C, 
 ∃ c40 : C, ((ldA m25 (.ptr m.nxt 0) 13) = (some [(Il x28), 
 (Il x29), (Il x30), (Il x31), (Il x32), 
 (Il x33), (Il x34), (Il x35), (Il x36), 
 (Il x37), (Il x38), c39, c40])) ∧ optB (mapO vW [(.agg 13 [(Il x28), 
 (Il x29), (Il x30), (Il x31), (Il x32), 
 (Il x33), (Il x34), (Il x35), (Il x36), 
 (Il x37), (Il x38), c39, c40])]) False fun l41 => 
 Wc prog tbl 123 [(.c c27), (.c (C.fn (Fn.func 124) l41 []))] m25 (fun v42 m43 => 
 ∃ b44 : Bool, (v42 = (.c (.bool b44))) ∧ Q (.c (.bool b44)) m43)) (Q (.c (.bool false)) m25))) (Q (.c (.bool false)) m20))) (Q (.c (.bool false)) m15))) (Q (.c (.bool false)) m9))) (Q (.c (.bool false)) m0)) (Q (.c (.bool false)) m0)) (Q (.c (.bool false)) m0)) (Q (.c (.bool false)) m0))) : Wc prog tbl 99 [(.agg 13 [(Il a100), (Il a101), (Il a102), (Il a103), (Il a104), (Il a105), (Il a106), (Il a107), (Il a108), (Il a109), (Il a110), a111, a112])] m Q :=
 wc_eq (n := 1) rfl (by kernel_rfl) (by kernel_rfl) h
theorem w102 {a100 : Int} {a101 : Int} {a102 : Int} {a103 : Int} {a104 : Int} {a105 : Int} {a106 : Int} {a107 : Int} {a108 : Int} {a109 : Int} {a110 : Int} {a111 : C} {a200 : Int} {a201 : Int} {a202 : Int} {a203 : Int} {a300 : Int} {a400 : Int} {m : M} {Q : V → M → Prop} (h :
 (∀ m0 : M, (m0 = (M.new m (AO.cells 12 [(Il a100), (Il a101), (Il a102), 
 (Il a103), (Il a104), (Il a105), (Il a106), 
 (Il a107), (Il a108), (Il a109), (Il a110), 
 a111] false))) → ∀ m1 : M, (m1 = (M.new m0 (AO.cells 4 [(Il a200), (Il a201), 
 (Il a202), (Il a203)] false))) → isPt (.ptr m.nxt 0) ∧ ∃ x2, 
 ((ldC m1 (.ptr m.nxt 0)) = (some (Il x2))) ∧ fitsP .i64 (x2 - 1) ∧ 
 ((0 : Int) ≤ (x2 - 1)) ∧ ((0 : Int) ≤ a400) ∧ fitsP .i64 ((x2 - 1) * a400) ∧ 
 isPt (.ptr m0.nxt 0) ∧ ∃ x3, ((ldC m1 (.ptr m0.nxt 0)) = (some (Il x3))) ∧ 
 fitsP .i64 ((x2 - 1) - a300) ∧ ((0 : Int) ≤ x3) ∧ ((0 : Int) ≤ ((x2 - 1) - a300)) ∧ 
 fitsP .i64 (x3 * ((x2 - 1) - a300)) ∧ fitsP .i64 (((x2 - 1) * a400) - (x3 * ((x2 - 1) - a300))) ∧ 
 isPt (.ptr m0.nxt 0) ∧ ∃ x4, ((ldC m1 (.ptr m0.nxt 1)) = (some (Il x4))) ∧ 
 ((0 : Int) ≤ x4) ∧ ((0 : Int) ≤ a300) ∧ fitsP .i64 (x4 * a300) ∧ fitsP .i64 ((((x2 - 1) * a400) - (x3 * ((x2 - 1) - a300))) - (x4 * a300)) ∧ 
 ifB (decide (((((x2 - 1) * a400) - (x3 * ((x2 - 1) - a300))) - (x4 * a300)) < (0 : Int))) (fitsP .i64 ((0 : Int) - ((((x2 - 1) * a400) - (x3 * ((x2 - 1) - a300))) - (x4 * a300))) ∧ 
 Q (.c (Il ((0 : Int) - ((((x2 - 1) * a400) - (x3 * ((x2 - 1) - a300))) - (x4 * a300))))) m1) (Q (.c (Il ((((x2 - 1) * a400) - (x3 * ((x2 - 1) - a300))) - (x4 * a300)))) m1))) : Wc prog tbl 102 [(.agg 12 [(Il a100), (Il a101), (Il a102), (Il a103), (Il a104), (Il a105), (Il a106), (Il a107), (Il a108), (Il a109), (Il a110), a111]), (.agg 4 [(Il a200), (Il a201), (Il a202), (Il a203)]), (.c (Il a300)), (.c (Il a400))] m Q :=
 wc_eq (n := 4) rfl (by kernel_rfl) (by kernel_rfl) h
theorem w105 {a100 : Int} {a101 : Int} {a102 : Int} {a103 : Int} {a104 : Int} {a105 : Int} {a106 : Int} {a107 : Int} {a108 : Int} {a109 : Int} {a110 : Int} {a111 : C} {a200 : Int} {a201 : Int} {a202 : Int} {a203 : Int} {a204 : Bool} {a205 : Int} {a206 : Int} {m : M} {Q : V → M → Prop} (h :
 (∀ m0 : M, (m0 = (M.new m (AO.cells 12 [(Il a100), (Il a101), (Il a102), 
 (Il a103), (Il a104), (Il a105), (Il a106), 
 (Il a107), (Il a108), (Il a109), (Il a110), 
 a111] false))) → ∀ m1 : M, (m1 = (M.new m0 (AO.cells 7 [(Il a200), (Il a201), 
 (Il a202), (Il a203), (.bool a204), (Il a205), (Il a206)] false))) → 
 ∃ x2 x3 x4 x5 x6 x7 x8 x9, 
 ∃ x10 x11 x12, ∃ c13 : C, ((ldA m1 (.ptr m.nxt 0) 12) = (some [(Il x2), 
 (Il x3), (Il x4), (Il x5), (Il x6), 
 (Il x7), (Il x8), (Il x9), (Il x10), 
 (Il x11), (Il x12), c13])) ∧ isPt (.ptr m0.nxt 0) ∧ ∃ x14, 
 ∃ x15, ((ldA m1 (.ptr m0.nxt 0) 2) = (some [(Il x14), (Il x15)])) ∧ 
 isPt (.ptr m0.nxt 0) ∧ ∃ x16 x17, ((ldA m1 (.ptr m0.nxt 2) 2) = (some [(Il x16), 
 (Il x17)])) ∧ Wc prog tbl 24 [(.agg 12 [(Il x2), 
 (Il x3), (Il x4), (Il x5), (Il x6), 
 (Il x7), (Il x8), (Il x9), (Il x10), 
 (Il x11), (Il x12), c13]), (.agg 4 [(Il x14), 
 (Il x15), (Il x16), (Il x17)])] m1 (fun v18 m19 => 
 ∃ b20 : Bool, (v18 = (.c (.bool b20))) ∧ ifB (!b20) (Q (.c (.bool false)) m19) (isPt (.ptr m0.nxt 0) ∧ 
 ∃ x21 x22, ((ldA m19 (.ptr m0.nxt 5) 2) = (some [(Il x21), 
 (Il x22)])) ∧ Wc prog tbl 70 [(.agg 2 [(Il x21), 
 (Il x22)]), (.c (Il 0)), (.c (Il (9 : Int)))] m19 (fun v23 m24 => 
 ∃ b25 : Bool, (v23 = (.c (.bool b25))) ∧ ifB (!b25) (Q (.c (.bool false)) m24) (isPt (.ptr m0.nxt 0) ∧ 
 ∃ b26 : Bool, ((ldC m24 (.ptr m0.nxt 4)) = (some (.bool b26))) ∧ 
 ifB b26 (Q (.c (.bool true)) m24) (isPt (.ptr m0.nxt 0) ∧ ∃ x27, 
 ∃ x28, ((ldA m24 (.ptr m0.nxt 5) 2) = (some [(Il x27), 
 (Il x28)])) ∧ fitsP .i64 x27 ∧ fitsP .i64 (0 : Int) ∧ 
 fitsP .i64 x28 ∧ fitsP .i64 (0 : Int) ∧ Q (.c (.bool ((decide (x27 = 0)) && (decide (x28 = 0))))) m24))))))) : Wc prog tbl 105 [(.agg 12 [(Il a100), (Il a101), (Il a102), (Il a103), (Il a104), (Il a105), (Il a106), (Il a107), (Il a108), (Il a109), (Il a110), a111]), (.agg 7 [(Il a200), (Il a201), (Il a202), (Il a203), (.bool a204), (Il a205), (Il a206)])] m Q :=
 wc_eq (n := 2) rfl (by kernel_rfl) (by kernel_rfl) h
theorem w108 {a100 : Int} {a101 : Int} {a102 : Int} {a103 : Int} {a104 : Int} {a105 : Int} {a106 : Int} {a107 : Int} {a108 : Int} {a109 : Int} {a110 : Int} {a111 : C} {a112 : C} {m : M} {Q : V → M → Prop} (h :
 (∀ m0 : M, (m0 = (M.new m (AO.cells 13 [(Il a100), (Il a101), (Il a102), 
 (Il a103), (Il a104), (Il a105), (Il a106), 
 (Il a107), (Il a108), (Il a109), (Il a110), 
 a111, a112] false))) → Q (.c (C.fn (Fn.func 128) [] [(W.c (C0.ptr m.nxt 0))])) m0)) : Wc prog tbl 108 [(.agg 13 [(Il a100), (Il a101), (Il a102), (Il a103), (Il a104), (Il a105), (Il a106), (Il a107), (Il a108), (Il a109), (Il a110), a111, a112])] m Q :=
 wc_eq (n := 1) rfl (by kernel_rfl) (by kernel_rfl) h
theorem w111 {a100 : C} {m : M} {Q : V → M → Prop} (h :
 (isSl a100 ∧ ifB (decide ((((slLen a100) : Nat) : Int) < (1 : Int))) False (∃ n0 : Nat, ((0 : Int) = ((n0 : Nat) : Int)) ∧ 
 (n0 < (slLen a100)) ∧ ∃ x1, ((ldC m (slAt a100 (n0 * 1))) = (some (Il x1))) ∧ 
 ∀ R2 : List V → M → Prop, (∀ x3 : Int, ∀ x4 : Int, ∀ m5 : M, (isSl a100 ∧ ifB (decide (x4 < (((slLen a100) : Nat) : Int))) (∃ n6 : Nat, 
 (x4 = ((n6 : Nat) : Int)) ∧ (n6 < (slLen a100)) ∧ ∃ x7, ((ldC m5 (slAt a100 (n6 * 1))) = (some (Il x7))) ∧ 
 fitsP .i64 (x4 + 1) ∧ R2 [(.c (Il (Max.max x3 x7))), (.c (Il (x4 + 1)))] m5) (Q (.c (Il x3)) m5)) → 
 R2 [(.c (Il x3)), (.c (Il x4))] m5) → R2 [(.c (Il x1)), 
 (.c (Il (1 : Int)))] m))) : Wc prog tbl 111 [(.c a100)] m Q :=
 wc_eq (n := 1) rfl (by kernel_rfl) (by kernel_rfl) h
theorem w115 {a100 : Int} {a101 : Int} {m : M} {Q : V → M → Prop} (h :
 (∀ m0 : M, (m0 = (M.new m (AO.cells 2 [(Il a100), (Il a101)] false))) → Q (.c (C.fn (Fn.func 129) [] [(W.c (C0.ptr m.nxt 0))])) m0)) : Wc prog tbl 115 [(.agg 2 [(Il a100), (Il a101)])] m Q :=
 wc_eq (n := 1) rfl (by kernel_rfl) (by kernel_rfl) h
theorem w118 {a100 : Int} {a200 : C} {m : M} {Q : V → M → Prop} (h :
 (∀ m0 : M, (m0 = (M.new m (AO.cells 1 [a200] false))) → ∀ m1 : M, (m1 = (M.new m0 (AO.cells 1 [C.sl0] false))) → 
 fitsP .i64 (a100 + 1) ∧ ∀ R2 : List V → M → Prop, (∀ x3 : Int, ∀ m4 : M, (ifB (decide (x3 < (a100 + 1))) (Wc prog tbl 131 [(.c (Il a100)), 
 (.c (Il x3))] m4 (fun v5 m6 => ∃ c7 : C, (v5 = (.c c7)) ∧ rangeP prog tbl c7 m6 (fun l10 m11 R12 R13 => 
 ∃ c14 : C, (l10 = [(.c c14)]) ∧ R12 m11 (fun m15 => ∃ c16 : C, ((ldC m15 (.ptr m.nxt 0)) = (some c16)) ∧ 
 callP prog tbl [(.c c14)] c16 m15 (fun v17 m18 => ∃ b19 : Bool, (v17 = (.c (.bool b19))) ∧ 
 ifB b19 (Wc prog tbl 132 [(.c c14)] m18 (fun v20 m21 => ∃ c22 : C, (v20 = (.c c22)) ∧ 
 ∃ m23 : M, ((stC m21 (.ptr m0.nxt 0) 1 [c22]) = (some m23)) ∧ R13 (Ex.exit 0) m23)) (R13 Ex.nrm m18)))) (After.mk (fun m24 => 
 fitsP .i64 (x3 + 1) ∧ R2 [(.c (Il (x3 + 1)))] m24) [(0, 
 (fun m8 => ∃ c9 : C, (((ldC m8 (.ptr m0.nxt 0)) = (some c9)) ∧ Q (.c c9) m8)))] (fun m25 => 
 Q (.c C.sl0) m25)))) (∃ c26 : C, ((ldC m4 (.ptr m0.nxt 0)) = (some c26)) ∧ 
 Q (.c c26) m4)) → R2 [(.c (Il x3))] m4) → R2 [(.c (Il 0))] m1)) : Wc prog tbl 118 [(.c (Il a100)), (.c a200)] m Q :=
 wc_eq (n := 2) rfl (by kernel_rfl) (by kernel_rfl) h
theorem w122 {a100 : Int} {a101 : Int} {a200 : Int} {a300 : Int} {m : M} {Q : V → M → Prop} (h :
 (∀ m0 : M, (m0 = (M.new m (AO.cells 2 [(Il a100), (Il a101)] false))) → isPt (.ptr m.nxt 0) ∧ 
 ∃ x1, ((ldC m0 (.ptr m.nxt 0)) = (some (Il x1))) ∧ ifB (decide (a200 ≤ x1)) (isPt (.ptr m.nxt 0) ∧ 
 ∃ x2, ((ldC m0 (.ptr m.nxt 0)) = (some (Il x2))) ∧ isPt (.ptr m.nxt 0) ∧ 
 ∃ x3, ((ldC m0 (.ptr m.nxt 1)) = (some (Il x3))) ∧ ifB (decide (x2 ≤ x3)) (isPt (.ptr m.nxt 0) ∧ 
 ∃ x4, ((ldC m0 (.ptr m.nxt 1)) = (some (Il x4))) ∧ Q (.c (.bool (decide (x4 ≤ a300)))) m0) (Q (.c (.bool false)) m0)) (Q (.c (.bool false)) m0))) : Wc prog tbl 122 [(.agg 2 [(Il a100), (Il a101)]), (.c (Il a200)), (.c (Il a300))] m Q :=
 wc_eq (n := 3) rfl (by kernel_rfl) (by kernel_rfl) h
theorem w125 {a100 : Int} {a101 : Int} {m : M} {Q : V → M → Prop} (h :
 (∀ m0 : M, (m0 = (M.new m (AO.cells 2 [(Il a100), (Il a101)] false))) → isPt (.ptr m.nxt 0) ∧ 
 ∃ x1, ((ldC m0 (.ptr m.nxt 1)) = (some (Il x1))) ∧ isPt (.ptr m.nxt 0) ∧ 
 ∃ x2, ((ldC m0 (.ptr m.nxt 0)) = (some (Il x2))) ∧ fitsP .i64 (x1 - x2) ∧ 
 fitsP .i64 ((x1 - x2) + (1 : Int)) ∧ Q (.c (Il ((x1 - x2) + (1 : Int)))) m0)) : Wc prog tbl 125 [(.agg 2 [(Il a100), (Il a101)])] m Q :=
 wc_eq (n := 1) rfl (by kernel_rfl) (by kernel_rfl) h
theorem w132 {a100 : C} {m : M} {Q : V → M → Prop} (h :
 (okN (TK.sl 3) a100 ∧ okN (TK.sl 3) a100 ∧ okN (TK.sl 3) C.sl0 ∧ (((isNilC a100) || true) = true) ∧ ifB ((isNilC a100) && true) (Q (.c C.sl0) m) (∀ m0 : M, 
 (m0 = (M.new m (AO.cells 0 [] false))) → ∃ c1 : C, ∃ m2 : M, (ApR prog 69 m0 (.sl m.nxt 0 0 0 (some 0)) a100 c1 m2) ∧ 
 Q (.c c1) m2))) : Wc prog tbl 132 [(.c a100)] m Q :=
 wc_eq (n := 1) rfl (by kernel_rfl) (by kernel_rfl) h
theorem w136 {a100 : C} {a200 : C} {m : M} {Q : V → M → Prop} (h :
 (isSl a100 ∧ ∀ R0 : List V → M → Prop, (∀ x1 : Int, ∀ x2 : Int, ∀ m3 : M, (ifB (decide (x2 < (((slLen a100) : Nat) : Int))) (∃ n4 : Nat, 
 (x2 = ((n4 : Nat) : Int)) ∧ (n4 < (slLen a100)) ∧ ∃ x5 x6 x7 x8, 
 ((ldA m3 (slAt a100 (n4 * 4)) 4) = (some [(Il x5), (Il x6), 
 (Il x7), (Il x8)])) ∧ callP prog tbl [(.agg 4 [(Il x5), 
 (Il x6), (Il x7), (Il x8)])] a200 m3 (fun v9 m10 => 
 ∃ b11 : Bool, (v9 = (.c (.bool b11))) ∧ ifB b11 (Q (.c (Il x2)) m10) (fitsP .i64 (x2 + 1) ∧ 
 R0 [(.c (Il x1)), (.c (Il (x2 + 1)))] m10))) (Q (.c (Il (-1 : Int))) m3)) → 
 R0 [(.c (Il x1)), (.c (Il x2))] m3) → R0 [(.c (Il 0)), 
 (.c (Il 0))] m)) : Wc prog tbl 136 [(.c a100), (.c a200)] m Q :=
 wc_eq (n := 2) rfl (by kernel_rfl) (by kernel_rfl) h
end
end Go.Proofs.Ytbnfnhfanooplaa

namespace Go.Proofs.Ytbnfnhfanooplaa
open _root_.Go.Proofs.Try
open Go.Abs
set_option maxRecDepth 100000
noncomputable section
theorem w18 {a100 : Int} {a101 : Int} {a102 : Int} {a103 : Int} {a104 : Int} {a105 : Int} {a106 : Int} {a107 : Int} {a108 : Int} {a109 : Int} {a110 : Int} {a111 : C} {a200 : Int} {a201 : Int} {a202 : Int} {a203 : Int} {m : M} {Q : V → M → Prop} (h :
 (∀ m0 : M, (m0 = (M.new m (AO.cells 12 [(Il a100), (Il a101), (Il a102), 
 (Il a103), (Il a104), (Il a105), (Il a106), 
 (Il a107), (Il a108), (Il a109), (Il a110), 
 a111] false))) → ∀ m1 : M, (m1 = (M.new m0 (AO.cells 4 [(Il a200), (Il a201), 
 (Il a202), (Il a203)] false))) → ∃ x2 x3 x4, 
 ∃ x5 x6 x7 x8 x9 x10 x11 x12, 
 ∃ c13 : C, ((ldA m1 (.ptr m.nxt 0) 12) = (some [(Il x2), (Il x3), 
 (Il x4), (Il x5), (Il x6), (Il x7), 
 (Il x8), (Il x9), (Il x10), (Il x11), 
 (Il x12), c13])) ∧ ∃ x14 x15 x16 x17, 
 ((ldA m1 (.ptr m0.nxt 0) 4) = (some [(Il x14), (Il x15), 
 (Il x16), (Il x17)])) ∧ ∀ m18 : M, (m18 = (M.new m1 (AO.cells 4 [(Il x14), 
 (Il x15), (Il x16), (Il x17)] false))) → 
 Wc prog tbl 68 [(.agg 12 [(Il x2), (Il x3), (Il x4), 
 (Il x5), (Il x6), (Il x7), (Il x8), 
 (Il x9), (Il x10), (Il x11), (Il x12), 
 c13]), (.c (.sl m1.nxt 0 1 0 (some 1)))] m18 (fun v19 m20 => ∃ x21, 
 ∃ x22 x23 x24 x25 x26 x27, 
 ∃ x28 x29 x30 x31, ∃ c32 : C, ∃ c33 : C, 
 ∃ x34, (v19 = (.tup [(.agg 13 [(Il x21), (Il x22), 
 (Il x23), (Il x24), (Il x25), (Il x26), 
 (Il x27), (Il x28), (Il x29), (Il x30), 
 (Il x31), c32, c33]), (.c (Il x34))])) ∧ ∀ m35 : M, 
 (m35 = (M.new m20 (AO.cells 13 [(Il 0), (Il 0), 
 (Il 0), (Il 0), (Il 0), 
 (Il 0), (Il 0), (Il 0), 
 (Il 0), (Il 0), (Il 0), 
 C.sl0, C.map0] false))) → ∃ m36 : M, ((stC m35 (.ptr m20.nxt 0) 13 [(Il x21), 
 (Il x22), (Il x23), (Il x24), (Il x25), 
 (Il x26), (Il x27), (Il x28), (Il x29), 
 (Il x30), (Il x31), c32, c33]) = (some m36)) ∧ 
 ifB (!decide (x34 = 0)) (Q (.tup [(.c (Il 0)), 
 (.c (Il x34))]) m36) (∃ x37 x38 x39, 
 ∃ x40 x41 x42 x43 x44 x45, 
 ∃ x46 x47, ∃ c48 : C, ∃ c49 : C, ((ldA m36 (.ptr m20.nxt 0) 13) = (some [(Il x37), 
 (Il x38), (Il x39), (Il x40), (Il x41), 
 (Il x42), (Il x43), (Il x44), (Il x45), 
 (Il x46), (Il x47), c48, c49])) ∧ ∃ x50, 
 ∃ x51 x52 x53, ((ldA m36 (.ptr m0.nxt 0) 4) = (some [(Il x50), 
 (Il x51), (Il x52), (Il x53)])) ∧ 
 Wc prog tbl 69 [(.agg 13 [(Il x37), (Il x38), 
 (Il x39), (Il x40), (Il x41), (Il x42), 
 (Il x43), (Il x44), (Il x45), (Il x46), 
 (Il x47), c48, c49]), (.agg 4 [(Il x50), (Il x51), 
 (Il x52), (Il x53)]), (.c (.bool false))] m36 (fun v54 m55 => 
 ∃ x56 x57 x58 x59, ∃ b60 : Bool, (v54 = (.tup [(.agg 4 [(Il x56), 
 (Il x57), (Il x58), (Il x59)]), 
 (.c (.bool b60))])) ∧ ∀ m61 : M, (m61 = (M.new m55 (AO.cells 4 [(Il 0), 
 (Il 0), (Il 0), (Il 0)] false))) → 
 ∃ m62 : M, ((stC m61 (.ptr m55.nxt 0) 4 [(Il x56), (Il x57), 
 (Il x58), (Il x59)]) = (some m62)) ∧ ifB (!b60) (Q (.tup [(.c (Il (1 : Int))), 
 (.c (Il 0))]) m62) (∃ x63 x64 x65, 
 ∃ x66 x67 x68 x69 x70 x71, 
 ∃ x72 x73, ∃ c74 : C, ∃ c75 : C, ((ldA m62 (.ptr m20.nxt 0) 13) = (some [(Il x63), 
 (Il x64), (Il x65), (Il x66), (Il x67), 
 (Il x68), (Il x69), (Il x70), (Il x71), 
 (Il x72), (Il x73), c74, c75])) ∧ ∃ x76, 
 ∃ x77 x78 x79, ((ldA m62 (.ptr m0.nxt 0) 4) = (some [(Il x76), 
 (Il x77), (Il x78), (Il x79)])) ∧ 
 Wc prog tbl 69 [(.agg 13 [(Il x63), (Il x64), 
 (Il x65), (Il x66), (Il x67), (Il x68), 
 (Il x69), (Il x70), (Il x71), (Il x72), 
 (Il x73), c74, c75]), (.agg 4 [(Il x76), (Il x77), 
 (Il x78), (Il x79)]), (.c (.bool true))] m62 (fun v80 m81 => 
 ∃ x82 x83 x84 x85, ∃ b86 : Bool, (v80 = (.tup [(.agg 4 [(Il x82), 
 (Il x83), (Il x84), (Il x85)]), 
 (.c (.bool b86))])) ∧ ∀ m87 : M, (m87 = (M.new m81 (AO.cells 4 [(Il 0), 
 (Il 0), (Il 0), (Il 0)] false))) → 
 ∃ m88 : M, ((stC m87 (.ptr m81.nxt 0) 4 [(Il x82), (Il x83), 
 (Il x84), (Il x85)]) = (some m88)) ∧ ifB (!b86) (Q (.tup [(.c (Il (2 : Int))), 
 (.c (Il 0))]) m88) (Q (.tup [(.c (Il (3 : Int))), 
 (.c (Il 0))]) m88)))))))) : Wc prog tbl 18 [(.agg 12 [(Il a100), (Il a101), (Il a102), (Il a103), (Il a104), (Il a105), (Il a106), (Il a107), (Il a108), (Il a109), (Il a110), a111]), (.agg 4 [(Il a200), (Il a201), (Il a202), (Il a203)])] m Q :=
 wc_eq (n := 2) rfl (by kernel_rfl) (by kernel_rfl) h
theorem w24 {a100 : Int} {a101 : Int} {a102 : Int} {a103 : Int} {a104 : Int} {a105 : Int} {a106 : Int} {a107 : Int} {a108 : Int} {a109 : Int} {a110 : Int} {a111 : C} {a200 : Int} {a201 : Int} {a202 : Int} {a203 : Int} {m : M} {Q : V → M → Prop} (h :
 (∀ m0 : M, (m0 = (M.new m (AO.cells 12 [(Il a100), (Il a101), (Il a102), 
 (Il a103), (Il a104), (Il a105), (Il a106), 
 (Il a107), (Il a108), (Il a109), (Il a110), 
 a111] false))) → ∀ m1 : M, (m1 = (M.new m0 (AO.cells 4 [(Il a200), (Il a201), 
 (Il a202), (Il a203)] false))) → isPt (.ptr m0.nxt 0) ∧ ∃ x2, 
 ∃ x3, ((ldA m1 (.ptr m0.nxt 0) 2) = (some [(Il x2), (Il x3)])) ∧ 
 isPt (.ptr m.nxt 0) ∧ ∃ x4, ((ldC m1 (.ptr m.nxt 0)) = (some (Il x4))) ∧ 
 fitsP .i64 (x4 - 1) ∧ Wc prog tbl 70 [(.agg 2 [(Il x2), (Il x3)]), 
 (.c (Il 0)), (.c (Il (x4 - 1)))] m1 (fun v5 m6 => 
 ∃ b7 : Bool, (v5 = (.c (.bool b7))) ∧ ifB b7 (isPt (.ptr m0.nxt 0) ∧ ∃ x8 x9, 
 ((ldA m6 (.ptr m0.nxt 2) 2) = (some [(Il x8), (Il x9)])) ∧ 
 isPt (.ptr m.nxt 0) ∧ ∃ x10, ((ldC m6 (.ptr m.nxt 1)) = (some (Il x10))) ∧ 
 fitsP .i64 (x10 - 1) ∧ Wc prog tbl 70 [(.agg 2 [(Il x8), 
 (Il x9)]), (.c (Il 0)), (.c (Il (x10 - 1)))] m6 (fun v11 m12 => 
 ∃ b13 : Bool, (v11 = (.c (.bool b13))) ∧ Q (.c (.bool b13)) m12)) (Q (.c (.bool false)) m6)))) : Wc prog tbl 24 [(.agg 12 [(Il a100), (Il a101), (Il a102), (Il a103), (Il a104), (Il a105), (Il a106), (Il a107), (Il a108), (Il a109), (Il a110), a111]), (.agg 4 [(Il a200), (Il a201), (Il a202), (Il a203)])] m Q :=
 wc_eq (n := 2) rfl (by kernel_rfl) (by kernel_rfl) h
theorem w36 {a100 : Int} {a101 : Int} {a102 : Int} {a103 : Int} {a104 : Int} {a105 : Int} {a106 : Int} {a107 : Int} {a108 : Int} {a109 : Int} {a110 : Int} {a111 : C} {m : M} {Q : V → M → Prop} (h :
 (∀ m0 : M, (m0 = (M.new m (AO.cells 12 [(Il a100), (Il a101), (Il a102), 
 (Il a103), (Il a104), (Il a105), (Il a106), 
 (Il a107), (Il a108), (Il a109), (Il a110), 
 a111] false))) → ∃ x1 x2 x3 x4 x5 x6 x7, 
 ∃ x8 x9 x10 x11, ∃ c12 : C, ((ldA m0 (.ptr m.nxt 0) 12) = (some [(Il x1), 
 (Il x2), (Il x3), (Il x4), (Il x5), 
 (Il x6), (Il x7), (Il x8), (Il x9), 
 (Il x10), (Il x11), c12])) ∧ Wc prog tbl 48 [(.agg 12 [(Il x1), 
 (Il x2), (Il x3), (Il x4), (Il x5), 
 (Il x6), (Il x7), (Il x8), (Il x9), 
 (Il x10), (Il x11), c12])] m0 (fun v13 m14 => ∃ x15, 
 (v13 = (.c (Il x15))) ∧ ifB (!decide (x15 = 0)) (Q (.tup [(.c C.sl0), 
 (.c (Il x15))]) m14) (∃ x16 x17 x18 x19, 
 ∃ x20 x21 x22 x23 x24 x25, 
 ∃ x26, ∃ c27 : C, ((ldA m14 (.ptr m.nxt 0) 12) = (some [(Il x16), 
 (Il x17), (Il x18), (Il x19), (Il x20), 
 (Il x21), (Il x22), (Il x23), (Il x24), 
 (Il x25), (Il x26), c27])) ∧ Wc prog tbl 81 [(.agg 12 [(Il x16), 
 (Il x17), (Il x18), (Il x19), (Il x20), 
 (Il x21), (Il x22), (Il x23), (Il x24), 
 (Il x25), (Il x26), c27])] m14 (fun v28 m29 => 
 ∃ x30 x31 x32 x33 x34 x35, 
 ∃ x36 x37 x38 x39 x40, ∃ c41 : C, 
 ∃ c42 : C, (v28 = (.agg 13 [(Il x30), (Il x31), 
 (Il x32), (Il x33), (Il x34), (Il x35), 
 (Il x36), (Il x37), (Il x38), (Il x39), 
 (Il x40), c41, c42])) ∧ Wc prog tbl 84 [(.agg 13 [(Il x30), 
 (Il x31), (Il x32), (Il x33), (Il x34), 
 (Il x35), (Il x36), (Il x37), (Il x38), 
 (Il x39), (Il x40), c41, c42]), (.agg 1 [(C.fn (Fn.func 85) [] [])])] m29 (fun v43 m44 => 
 ∃ c45 : C, (v43 = (.c c45)) ∧ Q (.tup [(.c c45), (.c (Il 0))]) m44)))))) : Wc prog tbl 36 [(.agg 12 [(Il a100), (Il a101), (Il a102), (Il a103), (Il a104), (Il a105), (Il a106), (Il a107), (Il a108), (Il a109), (Il a110), a111])] m Q :=
 wc_eq (n := 1) rfl (by kernel_rfl) (by kernel_rfl) h
theorem w48 {a100 : Int} {a101 : Int} {a102 : Int} {a103 : Int} {a104 : Int} {a105 : Int} {a106 : Int} {a107 : Int} {a108 : Int} {a109 : Int} {a110 : Int} {a111 : C} {m : M} {Q : V → M → Prop} (h :
 (∀ m0 : M, (m0 = (M.new m (AO.cells 12 [(Il a100), (Il a101), (Il a102), 
 (Il a103), (Il a104), (Il a105), (Il a106), 
 (Il a107), (Il a108), (Il a109), (Il a110), 
 a111] false))) → ∃ x1 x2 x3 x4 x5 x6 x7, 
 ∃ x8 x9 x10 x11, ∃ c12 : C, ((ldA m0 (.ptr m.nxt 0) 12) = (some [(Il x1), 
 (Il x2), (Il x3), (Il x4), (Il x5), 
 (Il x6), (Il x7), (Il x8), (Il x9), 
 (Il x10), (Il x11), c12])) ∧ Wc prog tbl 98 [(.agg 12 [(Il x1), 
 (Il x2), (Il x3), (Il x4), (Il x5), 
 (Il x6), (Il x7), (Il x8), (Il x9), 
 (Il x10), (Il x11), c12])] m0 (fun v13 m14 => ∃ b15 : Bool, 
 (v13 = (.c (.bool b15))) ∧ ifB b15 (Q (.c (Il (3 : Int))) m14) (∃ x16, 
 ∃ x17 x18 x19 x20 x21 x22 x23, 
 ∃ x24 x25 x26, ∃ c27 : C, ((ldA m14 (.ptr m.nxt 0) 12) = (some [(Il x16), 
 (Il x17), (Il x18), (Il x19), (Il x20), 
 (Il x21), (Il x22), (Il x23), (Il x24), 
 (Il x25), (Il x26), c27])) ∧ Wc prog tbl 99 [(.agg 13 [(Il x16), 
 (Il x17), (Il x18), (Il x19), (Il x20), 
 (Il x21), (Il x22), (Il x23), (Il x24), 
 (Il x25), (Il x26), c27, C.map0])] m14 (fun v28 m29 => 
 ∃ b30 : Bool, (v28 = (.c (.bool b30))) ∧ ifB (!b30) (Q (.c (Il (1 : Int))) m29) (∃ x31, 
 ∃ x32 x33 x34 x35 x36 x37, 
 ∃ x38 x39 x40 x41, ∃ c42 : C, ((ldA m29 (.ptr m.nxt 0) 12) = (some [(Il x31), 
 (Il x32), (Il x33), (Il x34), (Il x35), 
 (Il x36), (Il x37), (Il x38), (Il x39), 
 (Il x40), (Il x41), c42])) ∧ Wc prog tbl 100 [(.agg 12 [(Il x31), 
 (Il x32), (Il x33), (Il x34), (Il x35), 
 (Il x36), (Il x37), (Il x38), (Il x39), 
 (Il x40), (Il x41), c42])] m29 (fun v43 m44 => 
 ∃ x45, (v43 = (.c (Il x45))) ∧ ifB (decide ((2000 : Int) < x45)) (Q (.c (Il (3 : Int))) m44) (Q (.c (Il 0)) m44)))))))) : Wc prog tbl 48 [(.agg 12 [(Il a100), (Il a101), (Il a102), (Il a103), (Il a104), (Il a105), (Il a106), (Il a107), (Il a108), (Il a109), (Il a110), a111])] m Q :=
 wc_eq (n := 1) rfl (by kernel_rfl) (by kernel_rfl) h
theorem w51 {a100 : Int} {a101 : Int} {a102 : Int} {a103 : Int} {a104 : Int} {a105 : Int} {a106 : Int} {a107 : Int} {a108 : Int} {a109 : Int} {a110 : Int} {a111 : C} {a200 : Int} {m : M} {Q : V → M → Prop} (h :
 (∀ m0 : M, (m0 = (M.new m (AO.cells 12 [(Il a100), (Il a101), (Il a102), 
 (Il a103), (Il a104), (Il a105), (Il a106), 
 (Il a107), (Il a108), (Il a109), (Il a110), 
 a111] false))) → ∀ m1 : M, (m1 = (M.new m0 (AO.cells 4 [(Il 0), (Il 0), 
 (Il 0), (Il 0)] false))) → isPt (.ptr m.nxt 0) ∧ 
 ∃ x2, ((ldC m1 (.ptr m.nxt 0)) = (some (Il x2))) ∧ ((0 : Int) ≤ (wrapZ .i64 a200)) ∧ 
 ((0 : Int) < x2) ∧ fitsP .i64 ((wrapZ .i64 a200) % x2) ∧ ((0 : Int) ≤ (wrapZ .i64 a200)) ∧ 
 ((0 : Int) < (16 : Int)) ∧ fitsP .i64 ((wrapZ .i64 a200) / (16 : Int)) ∧ isPt (.ptr m.nxt 0) ∧ 
 ∃ x3, ((ldC m1 (.ptr m.nxt 1)) = (some (Il x3))) ∧ ((0 : Int) ≤ ((wrapZ .i64 a200) / (16 : Int))) ∧ 
 ((0 : Int) < x3) ∧ fitsP .i64 (((wrapZ .i64 a200) / (16 : Int)) % x3) ∧ isPt (.ptr m.nxt 0) ∧ 
 ∃ x4, ((ldC m1 (.ptr m.nxt 0)) = (some (Il x4))) ∧ fitsP .i64 (x4 - 1) ∧ 
 ((0 : Int) ≤ (wrapZ .i64 a200)) ∧ ((0 : Int) < (256 : Int)) ∧ fitsP .i64 ((wrapZ .i64 a200) / (256 : Int)) ∧ 
 ((0 : Int) ≤ ((wrapZ .i64 a200) / (256 : Int))) ∧ ((0 : Int) < (4 : Int)) ∧ 
 fitsP .i64 (((wrapZ .i64 a200) / (256 : Int)) % (4 : Int)) ∧ fitsP .i64 (((wrapZ .i64 a200) % x2) + (((wrapZ .i64 a200) / (256 : Int)) % (4 : Int))) ∧ 
 isPt (.ptr m.nxt 0) ∧ ∃ x5, ((ldC m1 (.ptr m.nxt 1)) = (some (Il x5))) ∧ 
 fitsP .i64 (x5 - 1) ∧ ((0 : Int) ≤ (wrapZ .i64 a200)) ∧ 
 ((0 : Int) < (1024 : Int)) ∧ fitsP .i64 ((wrapZ .i64 a200) / (1024 : Int)) ∧ 
 ((0 : Int) ≤ ((wrapZ .i64 a200) / (1024 : Int))) ∧ ((0 : Int) < (4 : Int)) ∧ 
 fitsP .i64 (((wrapZ .i64 a200) / (1024 : Int)) % (4 : Int)) ∧ 
 fitsP .i64 ((((wrapZ .i64 a200) / (16 : Int)) % x3) + (((wrapZ .i64 a200) / (1024 : Int)) % (4 : Int))) ∧ 
 ∃ m6 : M, ((stC m1 (.ptr m0.nxt 0) 4 [(Il ((wrapZ .i64 a200) % x2)), 
 (Il (Min.min (x4 - 1) (((wrapZ .i64 a200) % x2) + (((wrapZ .i64 a200) / (256 : Int)) % (4 : Int))))), 
 (Il (((wrapZ .i64 a200) / (16 : Int)) % x3)), (Il (Min.min (x5 - 1) ((((wrapZ .i64 a200) / (16 : Int)) % x3) + (((wrapZ .i64 a200) / (1024 : Int)) % (4 : Int)))))]) = (some m6)) ∧ 
 ∃ x7 x8 x9 x10, ((ldA m6 (.ptr m0.nxt 0) 4) = (some [(Il x7), 
 (Il x8), (Il x9), (Il x10)])) ∧ 
 Q (.agg 4 [(Il x7), (Il x8), (Il x9), 
 (Il x10)]) m6)) : Wc prog tbl 51 [(.agg 12 [(Il a100), (Il a101), (Il a102), (Il a103), (Il a104), (Il a105), (Il a106), (Il a107), (Il a108), (Il a109), (Il a110), a111]), (.c (C.int .u16 a200))] m Q :=
 wc_eq (n := 2) rfl (by kernel_rfl) (by kernel_rfl) h
theorem w54 {a100 : Int} {a101 : Int} {a102 : Int} {a103 : Int} {a104 : Int} {a105 : Int} {a106 : Int} {a107 : Int} {a108 : Int} {a109 : Int} {a110 : Int} {a111 : C} {a200 : Int} {a201 : Int} {a202 : Int} {a203 : Int} {a300 : Int} {a400 : Int} {m : M} {Q : V → M → Prop} (h :
 (∀ m0 : M, (m0 = (M.new m (AO.cells 12 [(Il a100), (Il a101), (Il a102), 
 (Il a103), (Il a104), (Il a105), (Il a106), 
 (Il a107), (Il a108), (Il a109), (Il a110), 
 a111] false))) → ∀ m1 : M, (m1 = (M.new m0 (AO.cells 4 [(Il a200), (Il a201), 
 (Il a202), (Il a203)] false))) → ∃ x2 x3 x4, 
 ∃ x5 x6 x7 x8 x9 x10 x11 x12, 
 ∃ c13 : C, ((ldA m1 (.ptr m.nxt 0) 12) = (some [(Il x2), (Il x3), 
 (Il x4), (Il x5), (Il x6), (Il x7), 
 (Il x8), (Il x9), (Il x10), (Il x11), 
 (Il x12), c13])) ∧ ∃ x14 x15 x16 x17, 
 ((ldA m1 (.ptr m0.nxt 0) 4) = (some [(Il x14), (Il x15), 
 (Il x16), (Il x17)])) ∧ Wc prog tbl 71 [(.agg 12 [(Il x2), 
 (Il x3), (Il x4), (Il x5), (Il x6), 
 (Il x7), (Il x8), (Il x9), (Il x10), 
 (Il x11), (Il x12), c13]), (.agg 4 [(Il x14), 
 (Il x15), (Il x16), (Il x17)]), (.c (Il a300)), 
 (.c (Il a400))] m1 (fun v18 m19 => ∃ b20 : Bool, (v18 = (.c (.bool b20))) ∧ 
 ifB (!b20) (Q (.c (Il 0)) m19) (isPt (.ptr m0.nxt 0) ∧ 
 ∃ x21, ((ldC m19 (.ptr m0.nxt 3)) = (some (Il x21))) ∧ 
 isPt (.ptr m.nxt 0) ∧ ∃ x22, ((ldC m19 (.ptr m.nxt 2)) = (some (Il x22))) ∧ 
 ∃ x23 x24 x25 x26 x27 x28, 
 ∃ x29 x30 x31 x32 x33, ∃ c34 : C, 
 ((ldA m19 (.ptr m.nxt 0) 12) = (some [(Il x23), (Il x24), 
 (Il x25), (Il x26), (Il x27), (Il x28), 
 (Il x29), (Il x30), (Il x31), (Il x32), 
 (Il x33), c34])) ∧ ∃ x35 x36 x37 x38, 
 ((ldA m19 (.ptr m0.nxt 0) 4) = (some [(Il x35), (Il x36), 
 (Il x37), (Il x38)])) ∧ Wc prog tbl 102 [(.agg 12 [(Il x23), 
 (Il x24), (Il x25), (Il x26), (Il x27), 
 (Il x28), (Il x29), (Il x30), (Il x31), 
 (Il x32), (Il x33), c34]), (.agg 4 [(Il x35), 
 (Il x36), (Il x37), (Il x38)]), 
 (.c (Il a300)), (.c (Il a400))] m19 (fun v39 m40 => 
 ∃ x41, (v39 = (.c (Il x41))) ∧ ((ldC m40 (.ptr m.nxt 2)) = (some (Il x22))) ∧ 
 ((ldC m40 (.ptr m0.nxt 3)) = (some (Il x21))) ∧ isPt (.ptr m.nxt 0) ∧ 
 ∃ x42, ((ldC m40 (.ptr m.nxt 0)) = (some (Il x42))) ∧ 
 ((ldC m19 (.ptr m.nxt 0)) = (some (Il x42))) ∧ fitsP .i64 (x42 - 1) ∧ 
 ((0 : Int) ≤ x41) ∧ ((0 : Int) < (x42 - 1)) ∧ fitsP .i64 (x41 / (x42 - 1)) ∧ 
 ((0 : Int) ≤ x22) ∧ ((0 : Int) ≤ (x41 / (x42 - 1))) ∧ fitsP .i64 (x22 * (x41 / (x42 - 1))) ∧ 
 fitsP .i64 (x21 - (x22 * (x41 / (x42 - 1)))) ∧ Q (.c (Il (Max.max (1 : Int) (x21 - (x22 * (x41 / (x42 - 1))))))) m40))))) : Wc prog tbl 54 [(.agg 12 [(Il a100), (Il a101), (Il a102), (Il a103), (Il a104), (Il a105), (Il a106), (Il a107), (Il a108), (Il a109), (Il a110), a111]), (.agg 4 [(Il a200), (Il a201), (Il a202), (Il a203)]), (.c (Il a300)), (.c (Il a400))] m Q :=
 wc_eq (n := 4) rfl (by kernel_rfl) (by kernel_rfl) h
theorem w66 {a100 : Int} {a101 : Int} {a102 : Int} {a103 : Int} {a104 : Int} {a105 : Int} {a106 : Int} {a107 : Int} {a108 : Int} {a109 : Int} {a110 : Int} {a111 : C} {m : M} {Q : V → M → Prop} (h :
 (∀ m0 : M, (m0 = (M.new m (AO.cells 12 [(Il a100), (Il a101), (Il a102), 
 (Il a103), (Il a104), (Il a105), (Il a106), 
 (Il a107), (Il a108), (Il a109), (Il a110), 
 a111] false))) → isPt (.ptr m.nxt 0) ∧ ∃ x1, ((ldC m0 (.ptr m.nxt 0)) = (some (Il x1))) ∧ 
 ifB (decide ((12 : Int) < x1)) (Q (.c (Il (3 : Int))) m0) (isPt (.ptr m.nxt 0) ∧ ∃ x2, 
 ((ldC m0 (.ptr m.nxt 1)) = (some (Il x2))) ∧ ifB (decide ((12 : Int) < x2)) (Q (.c (Il (3 : Int))) m0) (isPt (.ptr m.nxt 0) ∧ 
 ∃ c3 : C, ((ldC m0 (.ptr m.nxt 11)) = (some c3)) ∧ isSl c3 ∧ ifB (decide ((6 : Int) < (((slLen c3) : Nat) : Int))) (Q (.c (Il (3 : Int))) m0) (isPt (.ptr m.nxt 0) ∧ 
 ∃ x4, ((ldC m0 (.ptr m.nxt 0)) = (some (Il x4))) ∧ ifB (decide (x4 < 2)) (Q (.c (Il (1 : Int))) m0) (isPt (.ptr m.nxt 0) ∧ 
 ∃ x5, ((ldC m0 (.ptr m.nxt 1)) = (some (Il x5))) ∧ ifB (decide (x5 < 1)) (Q (.c (Il (1 : Int))) m0) (isPt (.ptr m.nxt 0) ∧ 
 ∃ x6, ((ldC m0 (.ptr m.nxt 2)) = (some (Il x6))) ∧ 
 Wc prog tbl 31 [(.c (Il x6)), (.c (Il 0)), 
 (.c (Il (4 : Int)))] m0 (fun v7 m8 => ∃ b9 : Bool, (v7 = (.c (.bool b9))) ∧ 
 ifB (!b9) (Q (.c (Il (1 : Int))) m8) (isPt (.ptr m.nxt 0) ∧ 
 ∃ x10 x11, ((ldA m8 (.ptr m.nxt 3) 2) = (some [(Il x10), 
 (Il x11)])) ∧ isPt (.ptr m.nxt 0) ∧ ∃ x12, ((ldC m8 (.ptr m.nxt 1)) = (some (Il x12))) ∧ 
 fitsP .i64 (x12 - 1) ∧ Wc prog tbl 70 [(.agg 2 [(Il x10), 
 (Il x11)]), (.c (Il 0)), (.c (Il (x12 - 1)))] m8 (fun v13 m14 => 
 ∃ b15 : Bool, (v13 = (.c (.bool b15))) ∧ ifB (!b15) (Q (.c (Il (1 : Int))) m14) (isPt (.ptr m.nxt 0) ∧ 
 ∃ x16 x17, ((ldA m14 (.ptr m.nxt 5) 2) = (some [(Il x16), 
 (Il x17)])) ∧ isPt (.ptr m.nxt 0) ∧ ∃ x18, ((ldC m14 (.ptr m.nxt 1)) = (some (Il x18))) ∧ 
 fitsP .i64 (x18 - 1) ∧ Wc prog tbl 70 [(.agg 2 [(Il x16), 
 (Il x17)]), (.c (Il 0)), (.c (Il (x18 - 1)))] m14 (fun v19 m20 => 
 ∃ b21 : Bool, (v19 = (.c (.bool b21))) ∧ ifB (!b21) (Q (.c (Il (1 : Int))) m20) (isPt (.ptr m.nxt 0) ∧ 
 ∃ x22 x23, ((ldA m20 (.ptr m.nxt 7) 2) = (some [(Il x22), 
 (Il x23)])) ∧ Wc prog tbl 70 [(.agg 2 [(Il x22), 
 (Il x23)]), (.c (Il 0)), (.c (Il (3 : Int)))] m20 (fun v24 m25 => 
 ∃ b26 : Bool, (v24 = (.c (.bool b26))) ∧ ifB (!b26) (Q (.c (Il (1 : Int))) m25) (isPt (.ptr m.nxt 0) ∧ 
 ∃ x27 x28, ((ldA m25 (.ptr m.nxt 9) 2) = (some [(Il x27), 
 (Il x28)])) ∧ Wc prog tbl 70 [(.agg 2 [(Il x27), 
 (Il x28)]), (.c (Il (1 : Int))), (.c (Il (9 : Int)))] m25 (fun v29 m30 => 
 ∃ b31 : Bool, (v29 = (.c (.bool b31))) ∧ ifB (!b31) (Q (.c (Il (1 : Int))) m30) (∀ R32 : List V → 
 M → Prop, (∀ x33 : Int, ∀ x34 : Int, ∀ m35 : M, (isPt (.ptr m.nxt 0) ∧ 
 ∃ c36 : C, ((ldC m35 (.ptr m.nxt 11)) = (some c36)) ∧ isSl c36 ∧ 
 ifB (decide (x34 < (((slLen c36) : Nat) : Int))) (∃ x37 x38, 
 ∃ x39 x40 x41 x42 x43 x44, 
 ∃ x45 x46 x47, ∃ c48 : C, ((ldA m35 (.ptr m.nxt 0) 12) = (some [(Il x37), 
 (Il x38), (Il x39), (Il x40), (Il x41), 
 (Il x42), (Il x43), (Il x44), (Il x45), 
 (Il x46), (Il x47), c48])) ∧ isPt (.ptr m.nxt 0) ∧ 
 ∃ c49 : C, ((ldC m35 (.ptr m.nxt 11)) = (some c49)) ∧ ∃ n50 : Nat, 
 (x34 = ((n50 : Nat) : Int)) ∧ (n50 < (slLen c49)) ∧ ∃ x51 x52, 
 ∃ x53 x54, ∃ b55 : Bool, ∃ x56 x57, ((ldA m35 (slAt c49 (n50 * 7)) 7) = (some [(Il x51), 
 (Il x52), (Il x53), (Il x54), (.bool b55), 
 (Il x56), (Il x57)])) ∧ Wc prog tbl 105 [(.agg 12 [(Il x37), 
 (Il x38), (Il x39), (Il x40), (Il x41), 
 (Il x42), (Il x43), (Il x44), (Il x45), 
 (Il x46), (Il x47), c48]), (.agg 7 [(Il x51), 
 (Il x52), (Il x53), (Il x54), (.bool b55), 
 (Il x56), (Il x57)])] m35 (fun v58 m59 => ∃ b60 : Bool, 
 (v58 = (.c (.bool b60))) ∧ ifB (!b60) (Q (.c (Il (1 : Int))) m59) (fitsP .i64 (x34 + 1) ∧ 
 R32 [(.c (Il x33)), (.c (Il (x34 + 1)))] m59))) (∃ x61, 
 ∃ x62 x63 x64 x65 x66 x67, 
 ∃ x68 x69 x70 x71, ∃ c72 : C, ((ldA m35 (.ptr m.nxt 0) 12) = (some [(Il x61), 
 (Il x62), (Il x63), (Il x64), (Il x65), 
 (Il x66), (Il x67), (Il x68), (Il x69), 
 (Il x70), (Il x71), c72])) ∧ Wc prog tbl 67 [(.agg 12 [(Il x61), 
 (Il x62), (Il x63), (Il x64), (Il x65), 
 (Il x66), (Il x67), (Il x68), (Il x69), 
 (Il x70), (Il x71), c72])] m35 (fun v73 m74 => 
 ∃ x75, (v73 = (.c (Il x75))) ∧ ifB (decide ((2000 : Int) < x75)) (Q (.c (Il (3 : Int))) m74) (Q (.c (Il 0)) m74)))) → 
 R32 [(.c (Il x33)), (.c (Il x34))] m35) → 
 R32 [(.c (Il 0)), (.c (Il 0))] m30))))))))))))))))) : Wc prog tbl 66 [(.agg 12 [(Il a100), (Il a101), (Il a102), (Il a103), (Il a104), (Il a105), (Il a106), (Il a107), (Il a108), (Il a109), (Il a110), a111])] m Q :=
 wc_eq (n := 1) rfl (by kernel_rfl) (by kernel_rfl) h
theorem w69 {a100 : Int} {a101 : Int} {a102 : Int} {a103 : Int} {a104 : Int} {a105 : Int} {a106 : Int} {a107 : Int} {a108 : Int} {a109 : Int} {a110 : Int} {a111 : C} {a112 : C} {a200 : Int} {a201 : Int} {a202 : Int} {a203 : Int} {a300 : Bool} {m : M} {Q : V → M → Prop} (h :
 (∀ m0 : M, (m0 = (M.new m (AO.cells 13 [(Il a100), (Il a101), (Il a102), 
 (Il a103), (Il a104), (Il a105), (Il a106), 
 (Il a107), (Il a108), (Il a109), (Il a110), 
 a111, a112] false))) → ∀ m1 : M, (m1 = (M.new m0 (AO.cells 4 [(Il a200), (Il a201), 
 (Il a202), (Il a203)] false))) → ∀ m2 : M, (m2 = (M.new m1 (AO.cells 1 [(.bool a300)] false))) → 
 ∀ m3 : M, (m3 = (M.new m2 (AO.cells 4 [(Il 0), (Il 0), 
 (Il 0), (Il 0)] false))) → ∀ m4 : M, (m4 = (M.new m3 (AO.cells 1 [(.bool false)] false))) → 
 ∃ x5 x6 x7 x8 x9 x10 x11 x12, 
 ∃ x13 x14 x15, ∃ c16 : C, ∃ c17 : C, ((ldA m4 (.ptr m.nxt 0) 13) = (some [(Il x5), 
 (Il x6), (Il x7), (Il x8), (Il x9), 
 (Il x10), (Il x11), (Il x12), (Il x13), 
 (Il x14), (Il x15), c16, c17])) ∧ Wc prog tbl 108 [(.agg 13 [(Il x5), 
 (Il x6), (Il x7), (Il x8), (Il x9), 
 (Il x10), (Il x11), (Il x12), (Il x13), 
 (Il x14), (Il x15), c16, c17])] m4 (fun v18 m19 => 
 ∃ c20 : C, (v18 = (.c c20)) ∧ rangeP prog tbl c20 m19 (fun l21 m22 R23 R24 => 
 ∃ x25 x26 x27 x28, (l21 = [(.agg 4 [(Il x25), 
 (Il x26), (Il x27), (Il x28)])]) ∧ 
 ∀ m29 : M, (m29 = (M.new m22 (AO.cells 4 [(Il 0), (Il 0), 
 (Il 0), (Il 0)] false))) → ∃ m30 : M, 
 ((stC m29 (.ptr m22.nxt 0) 4 [(Il x25), (Il x26), 
 (Il x27), (Il x28)]) = (some m30)) ∧ R23 m30 (fun m31 => 
 isPt (.ptr m.nxt 0) ∧ ∃ x32 x33 x34 x35, 
 ∃ x36 x37 x38 x39 x40 x41, 
 ∃ x42, ∃ c43 : C, ((ldA m31 (.ptr m.nxt 0) 12) = (some [(Il x32), 
 (Il x33), (Il x34), (Il x35), (Il x36), 
 (Il x37), (Il x38), (Il x39), (Il x40), 
 (Il x41), (Il x42), c43])) ∧ ∃ x44 x45, 
 ∃ x46 x47, ((ldA m31 (.ptr m22.nxt 0) 4) = (some [(Il x44), 
 (Il x45), (Il x46), (Il x47)])) ∧ 
 ∃ x48 x49 x50 x51, ((ldA m31 (.ptr m0.nxt 0) 4) = (some [(Il x48), 
 (Il x49), (Il x50), (Il x51)])) ∧ 
 ∃ b52 : Bool, ((ldC m31 (.ptr m1.nxt 0)) = (some (.bool b52))) ∧ 
 Wc prog tbl 109 [(.agg 12 [(Il x32), (Il x33), 
 (Il x34), (Il x35), (Il x36), (Il x37), 
 (Il x38), (Il x39), (Il x40), (Il x41), 
 (Il x42), c43]), (.agg 4 [(Il x44), (Il x45), 
 (Il x46), (Il x47)]), (.agg 4 [(Il x48), 
 (Il x49), (Il x50), (Il x51)]), 
 (.c (.bool b52))] m31 (fun v53 m54 => ∃ b55 : Bool, (v53 = (.c (.bool b55))) ∧ 
 ifB b55 (∃ x56 x57 x58 x59, ((ldA m54 (.ptr m22.nxt 0) 4) = (some [(Il x56), 
 (Il x57), (Il x58), (Il x59)])) ∧ 
 ∃ m60 : M, ((stC m54 (.ptr m2.nxt 0) 4 [(Il x56), (Il x57), 
 (Il x58), (Il x59)]) = (some m60)) ∧ ∃ m61 : M, 
 ((stC m60 (.ptr m3.nxt 0) 1 [(.bool true)]) = (some m61)) ∧ R24 Ex.ret m61) (R24 Ex.nrm m54)))) (After.mk (fun m62 => 
 ∃ m63 : M, ((stC m62 (.ptr m2.nxt 0) 4 [(Il 0), (Il 0), 
 (Il 0), (Il 0)]) = (some m63)) ∧ 
 ∃ m64 : M, ((stC m63 (.ptr m3.nxt 0) 1 [(.bool false)]) = (some m64)) ∧ 
 ∃ x65 x66 x67 x68, ((ldA m64 (.ptr m2.nxt 0) 4) = (some [(Il x65), 
 (Il x66), (Il x67), (Il x68)])) ∧ 
 ∃ b69 : Bool, ((ldC m64 (.ptr m3.nxt 0)) = (some (.bool b69))) ∧ 
 Q (.tup [(.agg 4 [(Il x65), (Il x66), (Il x67), 
 (Il x68)]), (.c (.bool b69))]) m64) [] (fun m70 => 
 ∃ x71 x72 x73 x74, ((ldA m70 (.ptr m2.nxt 0) 4) = (some [(Il x71), 
 (Il x72), (Il x73), (Il x74)])) ∧ 
 ∃ b75 : Bool, ((ldC m70 (.ptr m3.nxt 0)) = (some (.bool b75))) ∧ 
 Q (.tup [(.agg 4 [(Il x71), (Il x72), (Il x73), 
 (Il x74)]), (.c (.bool b75))]) m70))))) : Wc prog tbl 69 [(.agg 13 [(Il a100), (Il a101), (Il a102), (Il a103), (Il a104), (Il a105), (Il a106), (Il a107), (Il a108), (Il a109), (Il a110), a111, a112]), (.agg 4 [(Il a200), (Il a201), (Il a202), (Il a203)]), (.c (.bool a300))] m Q :=
 wc_eq (n := 3) rfl (by kernel_rfl) (by kernel_rfl) h
theorem w82 {a100 : Int} {a101 : Int} {a102 : Int} {a103 : Int} {a104 : Int} {a105 : Int} {a106 : Int} {a107 : Int} {a108 : Int} {a109 : Int} {a110 : Int} {a111 : C} {a112 : C} {a200 : Bool} {a201 : Bool} {a202 : Bool} {a203 : Bool} {a204 : Bool} {a205 : Bool} {m : M} {Q : V → M → Prop} (h :
 (∀ m0 : M, (m0 = (M.new m (AO.cells 13 [(Il a100), (Il a101), (Il a102), 
 (Il a103), (Il a104), (Il a105), (Il a106), 
 (Il a107), (Il a108), (Il a109), (Il a110), 
 a111, a112] false))) → ∀ m1 : M, (m1 = (M.new m0 (AO.cells 6 [(.bool a200), (.bool a201), (.bool a202), 
 (.bool a203), (.bool a204), (.bool a205)] false))) → ∀ m2 : M, (m2 = (M.new m1 (AO.cells 1 [(.bool false)] false))) → 
 isPt (.ptr m.nxt 0) ∧ ∃ x3 x4 x5 x6 x7 x8, 
 ∃ x9 x10 x11 x12 x13, ∃ c14 : C, ((ldA m2 (.ptr m.nxt 0) 12) = (some [(Il x3), 
 (Il x4), (Il x5), (Il x6), (Il x7), 
 (Il x8), (Il x9), (Il x10), (Il x11), 
 (Il x12), (Il x13), c14])) ∧ Wc prog tbl 116 [(.agg 12 [(Il x3), 
 (Il x4), (Il x5), (Il x6), (Il x7), 
 (Il x8), (Il x9), (Il x10), (Il x11), 
 (Il x12), (Il x13), c14])] m2 (fun v15 m16 => ∃ c17 : C, 
 (v15 = (.c c17)) ∧ rangeP prog tbl c17 m16 (fun l18 m19 R20 R21 => ∃ x22, 
 ∃ x23 x24 x25, (l18 = [(.agg 4 [(Il x22), 
 (Il x23), (Il x24), (Il x25)])]) ∧ 
 ∀ m26 : M, (m26 = (M.new m19 (AO.cells 4 [(Il 0), (Il 0), 
 (Il 0), (Il 0)] false))) → ∃ m27 : M, 
 ((stC m26 (.ptr m19.nxt 0) 4 [(Il x22), (Il x23), 
 (Il x24), (Il x25)]) = (some m27)) ∧ R20 m27 (fun m28 => 
 isPt (.ptr m.nxt 0) ∧ ∃ c29 : C, ((ldC m28 (.ptr m.nxt 12)) = (some c29)) ∧ 
 ∃ x30 x31 x32 x33, ((ldA m28 (.ptr m19.nxt 0) 4) = (some [(Il x30), 
 (Il x31), (Il x32), (Il x33)])) ∧ 
 ∃ y34 : Option U, ((lkM prog 43 m28 c29 (.agg 4 [(Il x30), 
 (Il x31), (Il x32), (Il x33)])) = (some y34)) ∧ 
 ((y34 = Option.none) → ∃ b35 : Bool, ∃ b36 : Bool, ∃ b37 : Bool, ∃ b38 : Bool, 
 ∃ b39 : Bool, ∃ b40 : Bool, ((ldA m28 (.ptr m0.nxt 0) 6) = (some [(.bool b35), 
 (.bool b36), (.bool b37), (.bool b38), (.bool b39), (.bool b40)])) ∧ Wc prog tbl 117 [(.agg 6 [(.bool false), 
 (.bool false), (.bool false), (.bool false), (.bool false), (.bool false)]), 
 (.agg 6 [(.bool b35), (.bool b36), (.bool b37), (.bool b38), (.bool b39), 
 (.bool b40)])] m28 (fun v41 m42 => ∃ b43 : Bool, ∃ b44 : Bool, ∃ b45 : Bool, 
 ∃ b46 : Bool, ∃ b47 : Bool, ∃ b48 : Bool, (v41 = (.agg 6 [(.bool b43), 
 (.bool b44), (.bool b45), (.bool b46), (.bool b47), (.bool b48)])) ∧ ∃ b49 : Bool, 
 ∃ b50 : Bool, ∃ b51 : Bool, ∃ b52 : Bool, ∃ b53 : Bool, ∃ b54 : Bool, ((ldA m42 (.ptr m0.nxt 0) 6) = (some [(.bool b49), 
 (.bool b50), (.bool b51), (.bool b52), (.bool b53), (.bool b54)])) ∧ ((ldA m28 (.ptr m0.nxt 0) 6) = (some [(.bool b49), 
 (.bool b50), (.bool b51), (.bool b52), (.bool b53), (.bool b54)])) ∧ ifB ((b43 == b49) && ((b44 == b50) && ((b45 == b51) && ((b46 == b52) && ((b47 == b53) && (b48 == b54)))))) (∃ m55 : M, 
 ((stC m42 (.ptr m1.nxt 0) 1 [(.bool true)]) = (some m55)) ∧ R21 Ex.ret m55) (R21 Ex.nrm m42))) ∧ 
 ∀ u56 : U, (y34 = (some u56)) → ∃ b57 : Bool, ∃ b58 : Bool, ∃ b59 : Bool, 
 ∃ b60 : Bool, ∃ b61 : Bool, ∃ b62 : Bool, (u56 = (.agg 6 [(.bool b57), 
 (.bool b58), (.bool b59), (.bool b60), (.bool b61), (.bool b62)])) ∧ ∃ b63 : Bool, 
 ∃ b64 : Bool, ∃ b65 : Bool, ∃ b66 : Bool, ∃ b67 : Bool, ∃ b68 : Bool, ((ldA m28 (.ptr m0.nxt 0) 6) = (some [(.bool b63), 
 (.bool b64), (.bool b65), (.bool b66), (.bool b67), (.bool b68)])) ∧ Wc prog tbl 117 [(.agg 6 [(.bool b57), 
 (.bool b58), (.bool b59), (.bool b60), (.bool b61), (.bool b62)]), (.agg 6 [(.bool b63), 
 (.bool b64), (.bool b65), (.bool b66), (.bool b67), (.bool b68)])] m28 (fun v69 m70 => 
 ∃ b71 : Bool, ∃ b72 : Bool, ∃ b73 : Bool, ∃ b74 : Bool, ∃ b75 : Bool, ∃ b76 : Bool, 
 (v69 = (.agg 6 [(.bool b71), (.bool b72), (.bool b73), (.bool b74), (.bool b75), 
 (.bool b76)])) ∧ ∃ b77 : Bool, ∃ b78 : Bool, ∃ b79 : Bool, ∃ b80 : Bool, 
 ∃ b81 : Bool, ∃ b82 : Bool, ((ldA m70 (.ptr m0.nxt 0) 6) = (some [(.bool b77), 
 (.bool b78), (.bool b79), (.bool b80), (.bool b81), (.bool b82)])) ∧ ((ldA m28 (.ptr m0.nxt 0) 6) = (some [(.bool b77), 
 (.bool b78), (.bool b79), (.bool b80), (.bool b81), (.bool b82)])) ∧ ifB ((b71 == b77) && ((b72 == b78) && ((b73 == b79) && ((b74 == b80) && ((b75 == b81) && (b76 == b82)))))) (∃ m83 : M, 
 ((stC m70 (.ptr m1.nxt 0) 1 [(.bool true)]) = (some m83)) ∧ R21 Ex.ret m83) (R21 Ex.nrm m70)))) (After.mk (fun m84 => 
 ∃ m85 : M, ((stC m84 (.ptr m1.nxt 0) 1 [(.bool false)]) = (some m85)) ∧ 
 ∃ b86 : Bool, ((ldC m85 (.ptr m1.nxt 0)) = (some (.bool b86))) ∧ 
 Q (.c (.bool b86)) m85) [] (fun m87 => ∃ b88 : Bool, ((ldC m87 (.ptr m1.nxt 0)) = (some (.bool b88))) ∧ 
 Q (.c (.bool b88)) m87))))) : Wc prog tbl 82 [(.agg 13 [(Il a100), (Il a101), (Il a102), (Il a103), (Il a104), (Il a105), (Il a106), (Il a107), (Il a108), (Il a109), (Il a110), a111, a112]), (.agg 6 [(.bool a200), (.bool a201), (.bool a202), (.bool a203), (.bool a204), (.bool a205)])] m Q :=
 wc_eq (n := 2) rfl (by kernel_rfl) (by kernel_rfl) h
theorem w85 {a100 : Int} {a101 : Int} {a102 : Int} {a103 : Int} {a104 : Int} {a105 : Int} {a106 : Int} {a107 : Int} {a108 : Int} {a109 : Int} {a110 : Int} {a111 : C} {a112 : C} {a200 : C} {m : M} {Q : V → M → Prop} (h :
 (∀ m0 : M, (m0 = (M.new m (AO.cells 13 [(Il a100), (Il a101), (Il a102), 
 (Il a103), (Il a104), (Il a105), (Il a106), 
 (Il a107), (Il a108), (Il a109), (Il a110), 
 a111, a112] false))) → ∃ x1 x2 x3 x4 x5 x6, 
 ∃ x7 x8 x9 x10 x11, ∃ c12 : C, ∃ c13 : C, ((ldA m0 (.ptr m.nxt 0) 13) = (some [(Il x1), 
 (Il x2), (Il x3), (Il x4), (Il x5), 
 (Il x6), (Il x7), (Il x8), (Il x9), 
 (Il x10), (Il x11), c12, c13])) ∧ Wc prog tbl 92 [(.agg 13 [(Il x1), 
 (Il x2), (Il x3), (Il x4), (Il x5), 
 (Il x6), (Il x7), (Il x8), (Il x9), 
 (Il x10), (Il x11), c12, c13])] m0 (fun v14 m15 => ∃ b16 : Bool, 
 ∃ b17 : Bool, ∃ b18 : Bool, ∃ b19 : Bool, ∃ b20 : Bool, ∃ b21 : Bool, (v14 = (.agg 6 [(.bool b16), 
 (.bool b17), (.bool b18), (.bool b19), (.bool b20), (.bool b21)])) ∧ ∀ m22 : M, 
 (m22 = (M.new m15 (AO.cells 6 [(.bool false), (.bool false), (.bool false), (.bool false), 
 (.bool false), (.bool false)] false))) → ∃ m23 : M, ((stC m22 (.ptr m15.nxt 0) 6 [(.bool b16), 
 (.bool b17), (.bool b18), (.bool b19), (.bool b20), (.bool b21)]) = (some m23)) ∧ 
 isSl a200 ∧ ∀ R24 : List V → M → Prop, (∀ x25 : Int, ∀ m26 : M, (ifB (decide (x25 < (((slLen a200) : Nat) : Int))) (∃ n27 : Nat, 
 (x25 = ((n27 : Nat) : Int)) ∧ (n27 < (slLen a200)) ∧ ∃ x28, ((ldC m26 (slAt a200 (n27 * 1))) = (some (Il x28))) ∧ 
 isPt (.ptr m15.nxt 0) ∧ ∃ n29 : Nat, (x28 = ((n29 : Nat) : Int)) ∧ (n29 < 6) ∧ 
 ∃ m30 : M, ((stC m26 (.ptr m15.nxt (0 + (n29 * 1))) 1 [(.bool false)]) = (some m30)) ∧ 
 fitsP .i64 (x25 + 1) ∧ R24 [(.c (Il (x25 + 1)))] m30) (∃ x31, 
 ∃ x32 x33 x34 x35 x36 x37, 
 ∃ x38 x39 x40 x41, ∃ c42 : C, ∃ c43 : C, 
 ((ldA m26 (.ptr m.nxt 0) 13) = (some [(Il x31), (Il x32), 
 (Il x33), (Il x34), (Il x35), (Il x36), 
 (Il x37), (Il x38), (Il x39), (Il x40), 
 (Il x41), c42, c43])) ∧ ∃ b44 : Bool, ∃ b45 : Bool, ∃ b46 : Bool, 
 ∃ b47 : Bool, ∃ b48 : Bool, ∃ b49 : Bool, ((ldA m26 (.ptr m15.nxt 0) 6) = (some [(.bool b44), 
 (.bool b45), (.bool b46), (.bool b47), (.bool b48), (.bool b49)])) ∧ Wc prog tbl 82 [(.agg 13 [(Il x31), 
 (Il x32), (Il x33), (Il x34), (Il x35), 
 (Il x36), (Il x37), (Il x38), (Il x39), 
 (Il x40), (Il x41), c42, c43]), (.agg 6 [(.bool b44), 
 (.bool b45), (.bool b46), (.bool b47), (.bool b48), (.bool b49)])] m26 (fun v50 m51 => 
 ∃ b52 : Bool, (v50 = (.c (.bool b52))) ∧ Q (.c (.bool b52)) m51))) → 
 R24 [(.c (Il x25))] m26) → R24 [(.c (Il 0))] m23))) : Wc prog tbl 85 [(.agg 13 [(Il a100), (Il a101), (Il a102), (Il a103), (Il a104), (Il a105), (Il a106), (Il a107), (Il a108), (Il a109), (Il a110), a111, a112]), (.c a200)] m Q :=
 wc_eq (n := 2) rfl (by kernel_rfl) (by kernel_rfl) h
theorem w88 {a100 : Int} {a101 : Int} {a102 : Int} {a103 : Int} {a104 : Int} {a105 : Int} {a106 : Int} {a107 : Int} {a108 : Int} {a109 : Int} {a110 : Int} {a111 : C} {a200 : Int} {m : M} {Q : V → M → Prop} (h :
 (∀ m0 : M, (m0 = (M.new m (AO.cells 12 [(Il a100), (Il a101), (Il a102), 
 (Il a103), (Il a104), (Il a105), (Il a106), 
 (Il a107), (Il a108), (Il a109), (Il a110), 
 a111] false))) → ∀ m1 : M, (m1 = (M.new m0 (AO.cells 4 [(Il 0), (Il 0), 
 (Il 0), (Il 0)] false))) → ∀ m2 : M, (m2 = (M.new m1 (AO.cells 4 [(Il 0), 
 (Il 0), (Il 0), (Il 0)] false))) → 
 isPt (.ptr m.nxt 0) ∧ isPt (.ptr m.nxt 3) ∧ ∃ x3, ((ldC m2 (.ptr m.nxt 3)) = (some (Il x3))) ∧ 
 isPt (.ptr m.nxt 0) ∧ ∃ x4 x5, ((ldA m2 (.ptr m.nxt 3) 2) = (some [(Il x4), 
 (Il x5)])) ∧ Wc prog tbl 62 [(.agg 2 [(Il x4), (Il x5)])] m2 (fun v6 m7 => 
 ∃ x8, (v6 = (.c (Il x8))) ∧ ((ldC m7 (.ptr m.nxt 3)) = (some (Il x3))) ∧ 
 ((0 : Int) ≤ a200) ∧ ((0 : Int) < x8) ∧ fitsP .i64 (a200 % x8) ∧ fitsP .i64 (x3 + (a200 % x8)) ∧ 
 isPt (.ptr m.nxt 0) ∧ ∃ x9 x10, ((ldA m7 (.ptr m.nxt 3) 2) = (some [(Il x9), 
 (Il x10)])) ∧ ((ldA m2 (.ptr m.nxt 3) 2) = (some [(Il x9), 
 (Il x10)])) ∧ Wc prog tbl 62 [(.agg 2 [(Il x9), 
 (Il x10)])] m7 (fun v11 m12 => ∃ x13, (v11 = (.c (Il x13))) ∧ 
 ((ldC m12 (.ptr m.nxt 3)) = (some (Il x3))) ∧ ((0 : Int) ≤ a200) ∧ 
 ((0 : Int) < x13) ∧ fitsP .i64 (a200 / x13) ∧ isPt (.ptr m1.nxt 0) ∧ 
 ∃ m14 : M, ((stC m12 (.ptr m1.nxt 0) 1 [(Il (x3 + (a200 % x8)))]) = (some m14)) ∧ 
 isPt (.ptr m.nxt 0) ∧ isPt (.ptr m.nxt 5) ∧ ∃ x15, ((ldC m14 (.ptr m.nxt 5)) = (some (Il x15))) ∧ 
 isPt (.ptr m.nxt 0) ∧ ∃ x16 x17, ((ldA m14 (.ptr m.nxt 5) 2) = (some [(Il x16), 
 (Il x17)])) ∧ Wc prog tbl 62 [(.agg 2 [(Il x16), 
 (Il x17)])] m14 (fun v18 m19 => ∃ x20, (v18 = (.c (Il x20))) ∧ 
 ((ldC m19 (.ptr m.nxt 5)) = (some (Il x15))) ∧ ((0 : Int) ≤ (a200 / x13)) ∧ 
 ((0 : Int) < x20) ∧ fitsP .i64 ((a200 / x13) % x20) ∧ fitsP .i64 (x15 + ((a200 / x13) % x20)) ∧ 
 isPt (.ptr m.nxt 0) ∧ ∃ x21 x22, ((ldA m19 (.ptr m.nxt 5) 2) = (some [(Il x21), 
 (Il x22)])) ∧ ((ldA m14 (.ptr m.nxt 5) 2) = (some [(Il x21), 
 (Il x22)])) ∧ Wc prog tbl 62 [(.agg 2 [(Il x21), 
 (Il x22)])] m19 (fun v23 m24 => ∃ x25, (v23 = (.c (Il x25))) ∧ 
 ((ldC m24 (.ptr m.nxt 5)) = (some (Il x15))) ∧ ((0 : Int) ≤ (a200 / x13)) ∧ 
 ((0 : Int) < x25) ∧ fitsP .i64 ((a200 / x13) / x25) ∧ isPt (.ptr m1.nxt 0) ∧ 
 ∃ m26 : M, ((stC m24 (.ptr m1.nxt 1) 1 [(Il (x15 + ((a200 / x13) % x20)))]) = (some m26)) ∧ 
 isPt (.ptr m.nxt 0) ∧ isPt (.ptr m.nxt 7) ∧ ∃ x27, ((ldC m26 (.ptr m.nxt 7)) = (some (Il x27))) ∧ 
 isPt (.ptr m.nxt 0) ∧ ∃ x28 x29, ((ldA m26 (.ptr m.nxt 7) 2) = (some [(Il x28), 
 (Il x29)])) ∧ Wc prog tbl 62 [(.agg 2 [(Il x28), 
 (Il x29)])] m26 (fun v30 m31 => ∃ x32, (v30 = (.c (Il x32))) ∧ 
 ((ldC m31 (.ptr m.nxt 7)) = (some (Il x27))) ∧ ((0 : Int) ≤ ((a200 / x13) / x25)) ∧ 
 ((0 : Int) < x32) ∧ fitsP .i64 (((a200 / x13) / x25) % x32) ∧ fitsP .i64 (x27 + (((a200 / x13) / x25) % x32)) ∧ 
 isPt (.ptr m.nxt 0) ∧ ∃ x33 x34, ((ldA m31 (.ptr m.nxt 7) 2) = (some [(Il x33), 
 (Il x34)])) ∧ ((ldA m26 (.ptr m.nxt 7) 2) = (some [(Il x33), 
 (Il x34)])) ∧ Wc prog tbl 62 [(.agg 2 [(Il x33), 
 (Il x34)])] m31 (fun v35 m36 => ∃ x37, (v35 = (.c (Il x37))) ∧ 
 ((ldC m36 (.ptr m.nxt 7)) = (some (Il x27))) ∧ ((0 : Int) ≤ ((a200 / x13) / x25)) ∧ 
 ((0 : Int) < x37) ∧ fitsP .i64 (((a200 / x13) / x25) / x37) ∧ isPt (.ptr m1.nxt 0) ∧ 
 ∃ m38 : M, ((stC m36 (.ptr m1.nxt 2) 1 [(Il (x27 + (((a200 / x13) / x25) % x32)))]) = (some m38)) ∧ 
 isPt (.ptr m.nxt 0) ∧ isPt (.ptr m.nxt 9) ∧ ∃ x39, ((ldC m38 (.ptr m.nxt 9)) = (some (Il x39))) ∧ 
 fitsP .i64 (x39 + (((a200 / x13) / x25) / x37)) ∧ isPt (.ptr m1.nxt 0) ∧ 
 ∃ m40 : M, ((stC m38 (.ptr m1.nxt 3) 1 [(Il (x39 + (((a200 / x13) / x25) / x37)))]) = (some m40)) ∧ 
 ∃ x41 x42 x43 x44, ((ldA m40 (.ptr m1.nxt 0) 4) = (some [(Il x41), 
 (Il x42), (Il x43), (Il x44)])) ∧ 
 ∃ m45 : M, ((stC m40 (.ptr m0.nxt 0) 4 [(Il x41), (Il x42), 
 (Il x43), (Il x44)]) = (some m45)) ∧ ∃ x46, 
 ∃ x47 x48 x49, ((ldA m45 (.ptr m0.nxt 0) 4) = (some [(Il x46), 
 (Il x47), (Il x48), (Il x49)])) ∧ 
 Q (.agg 4 [(Il x46), (Il x47), (Il x48), 
 (Il x49)]) m45)))))))) : Wc prog tbl 88 [(.agg 12 [(Il a100), (Il a101), (Il a102), (Il a103), (Il a104), (Il a105), (Il a106), (Il a107), (Il a108), (Il a109), (Il a110), a111]), (.c (Il a200))] m Q :=
 wc_eq (n := 2) rfl (by kernel_rfl) (by kernel_rfl) h
theorem w91 {a100 : Int} {a101 : Int} {a102 : Int} {a103 : Int} {a104 : Int} {a105 : Int} {a106 : Int} {a107 : Int} {a108 : Int} {a109 : Int} {a110 : Int} {a111 : C} {a112 : C} {a200 : Int} {a201 : Int} {a202 : Int} {a203 : Int} {m : M} {Q : V → M → Prop} (h :
 (∀ m0 : M, (m0 = (M.new m (AO.cells 13 [(Il a100), (Il a101), (Il a102), 
 (Il a103), (Il a104), (Il a105), (Il a106), 
 (Il a107), (Il a108), (Il a109), (Il a110), 
 a111, a112] false))) → ∀ m1 : M, (m1 = (M.new m0 (AO.cells 4 [(Il a200), (Il a201), 
 (Il a202), (Il a203)] false))) → ∀ m2 : M, (m2 = (M.new m1 (AO.cells 6 [(.bool false), 
 (.bool false), (.bool false), (.bool false), (.bool false), (.bool false)] false))) → ∀ m3 : M, 
 (m3 = (M.new m2 (AO.cells 6 [(.bool false), (.bool false), (.bool false), (.bool false), (.bool false), 
 (.bool false)] false))) → isPt (.ptr m.nxt 0) ∧ isPt (.ptr m.nxt 0) ∧ ∃ c4 : C, ((ldC m3 (.ptr m.nxt 11)) = (some c4)) ∧ 
 isSl c4 ∧ ∀ R5 : List V → M → Prop, (∀ x6 : Int, ∀ m7 : M, (ifB (decide (x6 < (((slLen c4) : Nat) : Int))) (∃ n8 : Nat, 
 (x6 = ((n8 : Nat) : Int)) ∧ (n8 < (slLen c4)) ∧ ∃ x9 x10 x11, 
 ∃ x12, ∃ b13 : Bool, ∃ x14 x15, ((ldA m7 (slAt c4 (n8 * 7)) 7) = (some [(Il x9), 
 (Il x10), (Il x11), (Il x12), (.bool b13), 
 (Il x14), (Il x15)])) ∧ ∀ m16 : M, (m16 = (M.new m7 (AO.cells 7 [(Il 0), 
 (Il 0), (Il 0), (Il 0), 
 (.bool false), (Il 0), (Il 0)] false))) → 
 ∃ m17 : M, ((stC m16 (.ptr m7.nxt 0) 7 [(Il x9), (Il x10), 
 (Il x11), (Il x12), (.bool b13), (Il x14), 
 (Il x15)]) = (some m17)) ∧ isPt (.ptr m.nxt 0) ∧ ∃ x18, 
 ∃ x19 x20 x21 x22 x23 x24, 
 ∃ x25 x26 x27 x28, ∃ c29 : C, ((ldA m17 (.ptr m.nxt 0) 12) = (some [(Il x18), 
 (Il x19), (Il x20), (Il x21), (Il x22), 
 (Il x23), (Il x24), (Il x25), (Il x26), 
 (Il x27), (Il x28), c29])) ∧ ∃ x30 x31, 
 ∃ x32 x33, ∃ b34 : Bool, ∃ x35 x36, ((ldA m17 (.ptr m7.nxt 0) 7) = (some [(Il x30), 
 (Il x31), (Il x32), (Il x33), (.bool b34), 
 (Il x35), (Il x36)])) ∧ ∃ x37 x38, 
 ∃ x39 x40, ((ldA m17 (.ptr m0.nxt 0) 4) = (some [(Il x37), 
 (Il x38), (Il x39), (Il x40)])) ∧ 
 Wc prog tbl 121 [(.agg 12 [(Il x18), (Il x19), 
 (Il x20), (Il x21), (Il x22), (Il x23), 
 (Il x24), (Il x25), (Il x26), (Il x27), 
 (Il x28), c29]), (.agg 7 [(Il x30), (Il x31), 
 (Il x32), (Il x33), (.bool b34), (Il x35), 
 (Il x36)]), (.agg 4 [(Il x37), (Il x38), 
 (Il x39), (Il x40)])] m17 (fun v41 m42 => ∃ b43 : Bool, 
 (v41 = (.c (.bool b43))) ∧ isPt (.ptr m2.nxt 0) ∧ ∃ n44 : Nat, (x6 = ((n44 : Nat) : Int)) ∧ 
 (n44 < 6) ∧ ∃ m45 : M, ((stC m42 (.ptr m2.nxt (0 + (n44 * 1))) 1 [(.bool b43)]) = (some m45)) ∧ 
 fitsP .i64 (x6 + 1) ∧ R5 [(.c (Il (x6 + 1)))] m45)) (∃ b46 : Bool, 
 ∃ b47 : Bool, ∃ b48 : Bool, ∃ b49 : Bool, ∃ b50 : Bool, ∃ b51 : Bool, ((ldA m7 (.ptr m2.nxt 0) 6) = (some [(.bool b46), 
 (.bool b47), (.bool b48), (.bool b49), (.bool b50), (.bool b51)])) ∧ ∃ m52 : M, 
 ((stC m7 (.ptr m1.nxt 0) 6 [(.bool b46), (.bool b47), (.bool b48), (.bool b49), 
 (.bool b50), (.bool b51)]) = (some m52)) ∧ ∃ b53 : Bool, ∃ b54 : Bool, 
 ∃ b55 : Bool, ∃ b56 : Bool, ∃ b57 : Bool, ∃ b58 : Bool, ((ldA m52 (.ptr m1.nxt 0) 6) = (some [(.bool b53), 
 (.bool b54), (.bool b55), (.bool b56), (.bool b57), (.bool b58)])) ∧ Q (.agg 6 [(.bool b53), 
 (.bool b54), (.bool b55), (.bool b56), (.bool b57), (.bool b58)]) m52)) → 
 R5 [(.c (Il x6))] m7) → R5 [(.c (Il 0))] m3)) : Wc prog tbl 91 [(.agg 13 [(Il a100), (Il a101), (Il a102), (Il a103), (Il a104), (Il a105), (Il a106), (Il a107), (Il a108), (Il a109), (Il a110), a111, a112]), (.agg 4 [(Il a200), (Il a201), (Il a202), (Il a203)])] m Q :=
 wc_eq (n := 2) rfl (by kernel_rfl) (by kernel_rfl) h
theorem w94 {a100 : Int} {a101 : Int} {a102 : Int} {a103 : Int} {m : M} {Q : V → M → Prop} (h :
 (∀ m0 : M, (m0 = (M.new m (AO.cells 4 [(Il a100), (Il a101), (Il a102), 
 (Il a103)] false))) → isPt (.ptr m.nxt 0) ∧ ∃ x1, ((ldC m0 (.ptr m.nxt 1)) = (some (Il x1))) ∧ 
 Q (.c (Il x1)) m0)) : Wc prog tbl 94 [(.agg 4 [(Il a100), (Il a101), (Il a102), (Il a103)])] m Q :=
 wc_eq (n := 1) rfl (by kernel_rfl) (by kernel_rfl) h
theorem w97 {a100 : C} {m : M} {Q : V → M → Prop} (h :
 (okN (TK.sl 85) a100 ∧ okN (TK.sl 85) a100 ∧ okN (TK.sl 85) C.sl0 ∧ (((isNilC a100) || true) = true) ∧ ifB ((isNilC a100) && true) (Q (.c C.sl0) m) (∀ m0 : M, 
 (m0 = (M.new m (AO.cells 0 [] false))) → ∃ c1 : C, ∃ m2 : M, (ApR prog 35 m0 (.sl m.nxt 0 0 0 (some 0)) a100 c1 m2) ∧ 
 Q (.c c1) m2))) : Wc prog tbl 97 [(.c a100)] m Q :=
 wc_eq (n := 1) rfl (by kernel_rfl) (by kernel_rfl) h
theorem w100 {a100 : Int} {a101 : Int} {a102 : Int} {a103 : Int} {a104 : Int} {a105 : Int} {a106 : Int} {a107 : Int} {a108 : Int} {a109 : Int} {a110 : Int} {a111 : C} {m : M} {Q : V → M → Prop} (h :
 (∀ m0 : M, (m0 = (M.new m (AO.cells 12 [(Il a100), (Il a101), (Il a102), 
 (Il a103), (Il a104), (Il a105), (Il a106), 
 (Il a107), (Il a108), (Il a109), (Il a110), 
 a111] false))) → isPt (.ptr m.nxt 0) ∧ ∃ x1 x2, ((ldA m0 (.ptr m.nxt 3) 2) = (some [(Il x1), 
 (Il x2)])) ∧ Wc prog tbl 125 [(.agg 2 [(Il x1), (Il x2)])] m0 (fun v3 m4 => 
 ∃ x5, (v3 = (.c (Il x5))) ∧ isPt (.ptr m.nxt 0) ∧ ∃ x6 x7, 
 ((ldA m4 (.ptr m.nxt 5) 2) = (some [(Il x6), (Il x7)])) ∧ 
 ((ldA m0 (.ptr m.nxt 5) 2) = (some [(Il x6), (Il x7)])) ∧ 
 Wc prog tbl 125 [(.agg 2 [(Il x6), (Il x7)])] m4 (fun v8 m9 => 
 ∃ x10, (v8 = (.c (Il x10))) ∧ ((0 : Int) ≤ x5) ∧ ((0 : Int) ≤ x10) ∧ 
 fitsP .i64 (x5 * x10) ∧ isPt (.ptr m.nxt 0) ∧ ∃ x11 x12, 
 ((ldA m9 (.ptr m.nxt 7) 2) = (some [(Il x11), (Il x12)])) ∧ 
 ((ldA m4 (.ptr m.nxt 7) 2) = (some [(Il x11), (Il x12)])) ∧ 
 ((ldA m0 (.ptr m.nxt 7) 2) = (some [(Il x11), (Il x12)])) ∧ 
 Wc prog tbl 125 [(.agg 2 [(Il x11), (Il x12)])] m9 (fun v13 m14 => 
 ∃ x15, (v13 = (.c (Il x15))) ∧ ((0 : Int) ≤ (x5 * x10)) ∧ 
 ((0 : Int) ≤ x15) ∧ fitsP .i64 ((x5 * x10) * x15) ∧ isPt (.ptr m.nxt 0) ∧ 
 ∃ x16 x17, ((ldA m14 (.ptr m.nxt 9) 2) = (some [(Il x16), 
 (Il x17)])) ∧ ((ldA m9 (.ptr m.nxt 9) 2) = (some [(Il x16), 
 (Il x17)])) ∧ ((ldA m4 (.ptr m.nxt 9) 2) = (some [(Il x16), 
 (Il x17)])) ∧ ((ldA m0 (.ptr m.nxt 9) 2) = (some [(Il x16), 
 (Il x17)])) ∧ Wc prog tbl 125 [(.agg 2 [(Il x16), 
 (Il x17)])] m14 (fun v18 m19 => ∃ x20, (v18 = (.c (Il x20))) ∧ 
 ((0 : Int) ≤ ((x5 * x10) * x15)) ∧ ((0 : Int) ≤ x20) ∧ fitsP .i64 (((x5 * x10) * x15) * x20) ∧ 
 Q (.c (Il (((x5 * x10) * x15) * x20))) m19)))))) : Wc prog tbl 100 [(.agg 12 [(Il a100), (Il a101), (Il a102), (Il a103), (Il a104), (Il a105), (Il a106), (Il a107), (Il a108), (Il a109), (Il a110), a111])] m Q :=
 wc_eq (n := 1) rfl (by kernel_rfl) (by kernel_rfl) h
theorem w106 {a100 : C} {a200 : C} {m : M} {Q : V → M → Prop} (h :
 (∀ m0 : M, (m0 = (M.new m (AO.cells 1 [a200] false))) → Wc prog tbl 126 [(.c a100), (.c (C.fn (Fn.func 127) [] [(W.c (C0.ptr m.nxt 0))]))] m0 (fun v1 m2 => 
 ∃ b3 : Bool, (v1 = (.c (.bool b3))) ∧ Q (.c (.bool (!b3))) m2))) : Wc prog tbl 106 [(.c a100), (.c a200)] m Q :=
 wc_eq (n := 2) rfl (by kernel_rfl) (by kernel_rfl) h
theorem w109 {a100 : Int} {a101 : Int} {a102 : Int} {a103 : Int} {a104 : Int} {a105 : Int} {a106 : Int} {a107 : Int} {a108 : Int} {a109 : Int} {a110 : Int} {a111 : C} {a200 : Int} {a201 : Int} {a202 : Int} {a203 : Int} {a300 : Int} {a301 : Int} {a302 : Int} {a303 : Int} {a400 : Bool} {m : M} {Q : V → M → Prop} (h :
 (∀ m0 : M, (m0 = (M.new m (AO.cells 12 [(Il a100), (Il a101), (Il a102), 
 (Il a103), (Il a104), (Il a105), (Il a106), 
 (Il a107), (Il a108), (Il a109), (Il a110), 
 a111] false))) → ∀ m1 : M, (m1 = (M.new m0 (AO.cells 4 [(Il a200), (Il a201), 
 (Il a202), (Il a203)] false))) → ∀ m2 : M, (m2 = (M.new m1 (AO.cells 4 [(Il a300), 
 (Il a301), (Il a302), (Il a303)] false))) → ∀ m3 : M, 
 (m3 = (M.new m2 (AO.cells 1 [(.bool a400)] false))) → ∀ m4 : M, (m4 = (M.new m3 (AO.cells 1 [(.bool false)] false))) → 
 ∃ x5 x6 x7 x8, ((ldA m4 (.ptr m1.nxt 0) 4) = (some [(Il x5), 
 (Il x6), (Il x7), (Il x8)])) ∧ Wc prog tbl 78 [(.agg 4 [(Il x5), 
 (Il x6), (Il x7), (Il x8)])] m4 (fun v9 m10 => 
 ∃ c11 : C, (v9 = (.c c11)) ∧ rangeP prog tbl c11 m10 (fun l12 m13 R14 R15 => ∃ x16, 
 ∃ x17, (l12 = [(.c (Il x16)), (.c (Il x17))]) ∧ 
 R14 m13 (fun m18 => ∃ x19 x20 x21 x22 x23, 
 ∃ x24 x25 x26 x27 x28 x29, 
 ∃ c30 : C, ((ldA m18 (.ptr m.nxt 0) 12) = (some [(Il x19), 
 (Il x20), (Il x21), (Il x22), (Il x23), 
 (Il x24), (Il x25), (Il x26), (Il x27), 
 (Il x28), (Il x29), c30])) ∧ ∃ x31 x32, 
 ∃ x33 x34, ((ldA m18 (.ptr m0.nxt 0) 4) = (some [(Il x31), 
 (Il x32), (Il x33), (Il x34)])) ∧ 
 Wc prog tbl 112 [(.agg 12 [(Il x19), (Il x20), 
 (Il x21), (Il x22), (Il x23), (Il x24), 
 (Il x25), (Il x26), (Il x27), (Il x28), 
 (Il x29), c30]), (.agg 4 [(Il x31), (Il x32), 
 (Il x33), (Il x34)]), (.c (Il x16)), 
 (.c (Il x17))] m18 (fun v35 m36 => ∃ b37 : Bool, (v35 = (.c (.bool b37))) ∧ 
 ∃ b38 : Bool, ((ldC m36 (.ptr m2.nxt 0)) = (some (.bool b38))) ∧ 
 ((ldC m18 (.ptr m2.nxt 0)) = (some (.bool b38))) ∧ ifB (b37 == b38) (∃ m39 : M, 
 ((stC m36 (.ptr m3.nxt 0) 1 [(.bool true)]) = (some m39)) ∧ R15 Ex.ret m39) (R15 Ex.nrm m36)))) (After.mk (fun m40 => 
 ∃ m41 : M, ((stC m40 (.ptr m3.nxt 0) 1 [(.bool false)]) = (some m41)) ∧ 
 ∃ b42 : Bool, ((ldC m41 (.ptr m3.nxt 0)) = (some (.bool b42))) ∧ Q (.c (.bool b42)) m41) [] (fun m43 => 
 ∃ b44 : Bool, ((ldC m43 (.ptr m3.nxt 0)) = (some (.bool b44))) ∧ Q (.c (.bool b44)) m43))))) : Wc prog tbl 109 [(.agg 12 [(Il a100), (Il a101), (Il a102), (Il a103), (Il a104), (Il a105), (Il a106), (Il a107), (Il a108), (Il a109), (Il a110), a111]), (.agg 4 [(Il a200), (Il a201), (Il a202), (Il a203)]), (.agg 4 [(Il a300), (Il a301), (Il a302), (Il a303)]), (.c (.bool a400))] m Q :=
 wc_eq (n := 4) rfl (by kernel_rfl) (by kernel_rfl) h
theorem w112 {a100 : Int} {a101 : Int} {a102 : Int} {a103 : Int} {a104 : Int} {a105 : Int} {a106 : Int} {a107 : Int} {a108 : Int} {a109 : Int} {a110 : Int} {a111 : C} {a200 : Int} {a201 : Int} {a202 : Int} {a203 : Int} {a300 : Int} {a400 : Int} {m : M} {Q : V → M → Prop} (h :
 (∀ m0 : M, (m0 = (M.new m (AO.cells 12 [(Il a100), (Il a101), (Il a102), 
 (Il a103), (Il a104), (Il a105), (Il a106), 
 (Il a107), (Il a108), (Il a109), (Il a110), 
 a111] false))) → ∀ m1 : M, (m1 = (M.new m0 (AO.cells 4 [(Il a200), (Il a201), 
 (Il a202), (Il a203)] false))) → ∃ x2 x3 x4, 
 ∃ x5 x6 x7 x8 x9 x10 x11 x12, 
 ∃ c13 : C, ((ldA m1 (.ptr m.nxt 0) 12) = (some [(Il x2), (Il x3), 
 (Il x4), (Il x5), (Il x6), (Il x7), 
 (Il x8), (Il x9), (Il x10), (Il x11), 
 (Il x12), c13])) ∧ ∃ x14 x15 x16 x17, 
 ((ldA m1 (.ptr m0.nxt 0) 4) = (some [(Il x14), (Il x15), 
 (Il x16), (Il x17)])) ∧ Wc prog tbl 113 [(.agg 12 [(Il x2), 
 (Il x3), (Il x4), (Il x5), (Il x6), 
 (Il x7), (Il x8), (Il x9), (Il x10), 
 (Il x11), (Il x12), c13]), (.agg 4 [(Il x14), 
 (Il x15), (Il x16), (Il x17)]), (.c (Il a300)), 
 (.c (Il a400))] m1 (fun v18 m19 => ∃ x20, (v18 = (.c (Il x20))) ∧ 
 isPt (.ptr m.nxt 0) ∧ ∃ x21, ((ldC m19 (.ptr m.nxt 0)) = (some (Il x21))) ∧ 
 ((ldC m1 (.ptr m.nxt 0)) = (some (Il x21))) ∧ fitsP .i64 (x21 - 1) ∧ 
 isPt (.ptr m0.nxt 0) ∧ ∃ x22, ((ldC m19 (.ptr m0.nxt 2)) = (some (Il x22))) ∧ 
 ((ldC m1 (.ptr m0.nxt 2)) = (some (Il x22))) ∧ ((0 : Int) ≤ (x21 - 1)) ∧ 
 ((0 : Int) ≤ x22) ∧ fitsP .i64 ((x21 - 1) * x22) ∧ Q (.c (.bool (decide (x20 ≤ ((x21 - 1) * x22))))) m19))) : Wc prog tbl 112 [(.agg 12 [(Il a100), (Il a101), (Il a102), (Il a103), (Il a104), (Il a105), (Il a106), (Il a107), (Il a108), (Il a109), (Il a110), a111]), (.agg 4 [(Il a200), (Il a201), (Il a202), (Il a203)]), (.c (Il a300)), (.c (Il a400))] m Q :=
 wc_eq (n := 4) rfl (by kernel_rfl) (by kernel_rfl) h
theorem w116 {a100 : Int} {a101 : Int} {a102 : Int} {a103 : Int} {a104 : Int} {a105 : Int} {a106 : Int} {a107 : Int} {a108 : Int} {a109 : Int} {a110 : Int} {a111 : C} {m : M} {Q : V → M → Prop} (h :
 (∀ m0 : M, (m0 = (M.new m (AO.cells 12 [(Il a100), (Il a101), (Il a102), 
 (Il a103), (Il a104), (Il a105), (Il a106), 
 (Il a107), (Il a108), (Il a109), (Il a110), 
 a111] false))) → Q (.c (C.fn (Fn.func 130) [] [(W.c (C0.ptr m.nxt 0))])) m0)) : Wc prog tbl 116 [(.agg 12 [(Il a100), (Il a101), (Il a102), (Il a103), (Il a104), (Il a105), (Il a106), (Il a107), (Il a108), (Il a109), (Il a110), a111])] m Q :=
 wc_eq (n := 1) rfl (by kernel_rfl) (by kernel_rfl) h
theorem w120 {a100 : Int} {a101 : Int} {a200 : Int} {m : M} {Q : V → M → Prop} (h :
 (∀ m0 : M, (m0 = (M.new m (AO.cells 2 [(Il a100), (Il a101)] false))) → isPt (.ptr m.nxt 0) ∧ 
 ∃ x1, ((ldC m0 (.ptr m.nxt 0)) = (some (Il x1))) ∧ ifB (decide (x1 ≤ a200)) (isPt (.ptr m.nxt 0) ∧ 
 ∃ x2, ((ldC m0 (.ptr m.nxt 1)) = (some (Il x2))) ∧ Q (.c (.bool (decide (a200 ≤ x2)))) m0) (Q (.c (.bool false)) m0))) : Wc prog tbl 120 [(.agg 2 [(Il a100), (Il a101)]), (.c (Il a200))] m Q :=
 wc_eq (n := 2) rfl (by kernel_rfl) (by kernel_rfl) h
theorem w123 {a100 : C} {a200 : C} {m : M} {Q : V → M → Prop} (h :
 (∀ m0 : M, (m0 = (M.new m (AO.cells 1 [a200] false))) → Wc prog tbl 134 [(.c a100), (.c (C.fn (Fn.func 135) [] [(W.c (C0.ptr m.nxt 0))]))] m0 (fun v1 m2 => 
 ∃ b3 : Bool, (v1 = (.c (.bool b3))) ∧ Q (.c (.bool (!b3))) m2))) : Wc prog tbl 123 [(.c a100), (.c a200)] m Q :=
 wc_eq (n := 2) rfl (by kernel_rfl) (by kernel_rfl) h
theorem w126 {a100 : C} {a200 : C} {m : M} {Q : V → M → Prop} (h :
 (Wc prog tbl 136 [(.c a100), (.c a200)] m (fun v0 m1 => ∃ x2, (v0 = (.c (Il x2))) ∧ Q (.c (.bool (decide ((0 : Int) ≤ x2)))) m1))) : Wc prog tbl 126 [(.c a100), (.c a200)] m Q :=
 wc_eq (n := 2) rfl (by kernel_rfl) (by kernel_rfl) h
theorem w133 {a100 : Int} {a101 : Int} {a102 : Int} {a103 : Int} {a104 : Bool} {a105 : Int} {a106 : Int} {m : M} {Q : V → M → Prop} (h :
 (∀ m0 : M, (m0 = (M.new m (AO.cells 7 [(Il a100), (Il a101), (Il a102), 
 (Il a103), (.bool a104), (Il a105), (Il a106)] false))) → 
 ∀ m1 : M, (m1 = (M.new m0 (AO.cells 4 [(Il 0), (Il 0), (Il 0), 
 (Il 0)] false))) → isPt (.ptr m.nxt 0) ∧ ∃ x2 x3, ((ldA m1 (.ptr m.nxt 0) 2) = (some [(Il x2), 
 (Il x3)])) ∧ isPt (.ptr m.nxt 0) ∧ ∃ x4 x5, ((ldA m1 (.ptr m.nxt 2) 2) = (some [(Il x4), 
 (Il x5)])) ∧ ∃ m6 : M, ((stC m1 (.ptr m0.nxt 0) 4 [(Il x2), 
 (Il x3), (Il x4), (Il x5)]) = (some m6)) ∧ 
 ∃ x7 x8 x9 x10, ((ldA m6 (.ptr m0.nxt 0) 4) = (some [(Il x7), 
 (Il x8), (Il x9), (Il x10)])) ∧ Q (.agg 4 [(Il x7), 
 (Il x8), (Il x9), (Il x10)]) m6)) : Wc prog tbl 133 [(.agg 7 [(Il a100), (Il a101), (Il a102), (Il a103), (.bool a104), (Il a105), (Il a106)])] m Q :=
 wc_eq (n := 1) rfl (by kernel_rfl) (by kernel_rfl) h
theorem w139 {a100 : C} {a200 : C} {m : M} {Q : V → M → Prop} (h :
 (isSl a100 ∧ ∀ R0 : List V → M → Prop, (∀ x1 : Int, ∀ x2 : Int, ∀ m3 : M, (ifB (decide (x2 < (((slLen a100) : Nat) : Int))) (∃ n4 : Nat, 
 (x2 = ((n4 : Nat) : Int)) ∧ (n4 < (slLen a100)) ∧ ∃ x5 x6 x7 x8, 
 ∃ b9 : Bool, ∃ x10 x11, ((ldA m3 (slAt a100 (n4 * 7)) 7) = (some [(Il x5), 
 (Il x6), (Il x7), (Il x8), (.bool b9), 
 (Il x10), (Il x11)])) ∧ callP prog tbl [(.agg 7 [(Il x5), 
 (Il x6), (Il x7), (Il x8), (.bool b9), 
 (Il x10), (Il x11)])] a200 m3 (fun v12 m13 => ∃ b14 : Bool, 
 (v12 = (.c (.bool b14))) ∧ ifB b14 (Q (.c (Il x2)) m13) (fitsP .i64 (x2 + 1) ∧ 
 R0 [(.c (Il x1)), (.c (Il (x2 + 1)))] m13))) (Q (.c (Il (-1 : Int))) m3)) → 
 R0 [(.c (Il x1)), (.c (Il x2))] m3) → R0 [(.c (Il 0)), 
 (.c (Il 0))] m)) : Wc prog tbl 139 [(.c a100), (.c a200)] m Q :=
 wc_eq (n := 2) rfl (by kernel_rfl) (by kernel_rfl) h
end
end Go.Proofs.Ytbnfnhfanooplaa

