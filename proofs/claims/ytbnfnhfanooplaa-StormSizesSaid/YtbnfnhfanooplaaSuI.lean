/- StormSizes, for all that it can be called with, returns true. Condition: none. -/
import Derived.Test.YtbnfnhfanooplaaSuH
import GoSem.Step
import GoSem.ClaimKeys
import Derived.DeepKeys2
import Derived.RangeFuncLeaves
import Derived.OrdersIn
import Derived.Laws.World
import Derived.Laws.Sem
import Derived.RangeFuncRecord
import Derived.Laws.CopyRow
import Derived.Laws.Append
import Derived.Laws.Rows
import Derived.Laws.Slices
import Derived.Laws.Entries
import Derived.ChangeKeysEq
import Derived.IntWalk
import Derived.DeepKeys
import Derived.DeepKeys3
import Derived.Laws.StructEq
import Derived.MapKept
import Derived.Laws.AppendOwn
import Derived.ChangeArms
import Derived.ChangeOld
import Derived.Carry
import Derived.ChangeShapes
import Derived.KernelRfl
import Derived.ProofKit
import Derived.Test.YtbnfnhfanooplaaRows

namespace Go.Proofs.Ytbnfnhfanooplaa
open _root_.Go.Proofs.Try
open Go.Abs
set_option maxRecDepth 100000
noncomputable section
theorem s_tally {w : Wk} {ca111 ca112 : C} {m f : M} {Q : V → M → Prop} {rz : List Int × Int} (hS : Pre f m) (ha111 : Sl f ca111 w.s.Cards) (ha112 : Mi f ca112 w.right) (hp : ptally w = some rz) (hq : ∀ m', Ext m m' → Q (.tup [.agg 144 (rz.1.map (C.int .i64)), .c (Il rz.2)]) m') : Wc prog tbl 76 [.agg 13 [(Il w.s.Wide), (Il w.s.High), (Il w.s.Fall), (Il w.s.A.Lo), (Il w.s.A.Hi), (Il w.s.B.Lo), (Il w.s.B.Hi), (Il w.s.Half.Lo), (Il w.s.Half.Hi), (Il w.s.Peak.Lo), (Il w.s.Peak.Hi), ca111, ca112]] m Q := by
 have S0 := hS.st
 obtain ⟨τ0, _⟩ : ∃ τ : Nat → Nat, True := ⟨fun _ => 0, trivial⟩
 refine w76 ?_
 unfold ptally at hp
 intro m0 Jb
 obtain ⟨Kb, Mb, Ld, Nb⟩ := S0.blk Jb τ0 1
 intro m1 Ob
 obtain ⟨Pb, Qb, Rb, la⟩ := Mb.blk Ob Kb 2
 replace la : Lb _ _ _ _ _ _ _ ((List.replicate 144 (0 : Int)).map (C.int .i64)) := la
 have Sb := Nb.k Rb
 intro m2 Tb
 obtain ⟨Ba, Ca, Da, Ub⟩ := Qb.blk Tb Pb 3
 have Ea := Sb.k Da
 have Vb := la.k Da
 refine ⟨_, _, _, _, _, _, _, _, _, _, _, _, _, Ea.bk.ra, ?_⟩
 obtain ⟨Md, Wb, hp⟩ := bsome hp
 refine s_truths (w := w) Ca.pre ha111 ha112 Wb fun Fa Nd Od Xb Yb => ?_
 obtain ⟨Zb, J⟩ := Ca.callG Xb Ba
 have Ga := Ea.k J
 have Ha := Vb.k J
 have Ia := Ub.k J
 refine ⟨_, rfl, ?_⟩
 refine range_st (α := Trh) Zb Yb (σ := (List Int) × Int) 4 (fun st bb => (False ∨ (False ∨ False))) (fun st gG gF gT gM => (Lb gG gF gT gM 1 m.nxt 13 [(Il w.s.Wide), (Il w.s.High), (Il w.s.Fall), (Il w.s.A.Lo), (Il w.s.A.Hi), (Il w.s.B.Lo), (Il w.s.B.Hi), (Il w.s.Half.Lo), (Il w.s.Half.Hi), (Il w.s.Peak.Lo), (Il w.s.Peak.Hi), ca111, ca112]) ∧ (Lb gG gF gT gM 2 m0.nxt 144 (st.1.map (C.int .i64))) ∧ (Lb gG gF gT gM 3 m1.nxt 1 [(Il st.2)])) (fun rr_ st => ptally_L0 w rr_ st.1 st.2 = some rz) (fun ex st => (match ex with | .ret => (0 : Nat) = 0 ∧ ptally_L0_xret st.1 st.2 = some rz | _ => False)) (fun st => (Gud.and (Gud.lb Ga.bk.lt (by decide)) (Gud.and (Gud.lb Ha.bk.lt (by decide)) (Gud.lb Ia.bk.lt (by decide))))) (st0 := ((List.replicate 144 (0 : Int)), (0 : Int))) (τ := Ba) ⟨Ga, Ha, Ia⟩ hp ?_ ?_ ?_ ?_
 ·intro a ba st ma ca aa n Pd Ad Bd Cd ac Ja hA jb hp kb mb
  obtain ⟨g, b⟩ := st
  obtain ⟨h, d, e⟩ := hA
  replace h : Lb n ma ca aa 1 m.nxt 13 [(Il w.s.Wide), (Il w.s.High), (Il w.s.Fall), (Il w.s.A.Lo), (Il w.s.A.Hi), (Il w.s.B.Lo), (Il w.s.B.Hi), (Il w.s.Half.Lo), (Il w.s.Half.Hi), (Il w.s.Peak.Lo), (Il w.s.Peak.Hi), ca111, ca112] := h
  replace d : Lb n ma ca aa 2 m0.nxt 144 (g.map (C.int .i64)) := d
  replace e : Lb n ma ca aa 3 m1.nxt 1 [(Il b)] := e
  replace hp : ptally_L0 w (a :: ba) g b = some rz := hp
  rw [ptally_L0] at hp
  refine ⟨_, _, _, _, rfl, ?_⟩
  intro Zd bc
  obtain ⟨na, cc, da, dc⟩ := ac.blk bc ca 5
  have ec := h.k da
  have fc := d.k da
  have gc := e.k da
  have nb := jb.k da
  obtain ⟨ic, jc, kc, ea, lc⟩ := dc.sto cc [(Il a.A), (Il a.B), (Il a.Half), (Il a.Peak)]
  have nc := ec.k ea
  have oc := fc.k ea
  have pc := gc.k ea
  have ob := nb.k ea
  refine ⟨ic, jc, ?_⟩
  refine kb _ _ _ _ kc ob fun ae oa qc fa pb qb => ?_
  have sc := nc.k fa
  have tc := oc.k fa
  have Ka := pc.k fa
  have uc := lc.k fa
  refine ⟨_, Ka.bk.rc rfl, ?_⟩
  refine gdi hp fun vc hp => ?_
  obtain ⟨wc, xc, La, ga, yc⟩ := Ka.sto qc [(Il (b + 1))]
  have Ma := sc.k ga
  have zc := tc.k ga
  have Ac := uc.k ga
  have rb := pb.k ga
  refine ⟨wc, xc, ?_⟩
  refine ⟨trivial, _, _, _, _, _, _, _, _, _, _, _, _, Ma.bk.rp (k := 0) (j := 12) rfl (by omega), ?_⟩
  obtain ⟨Bc, Cc, hp⟩ := bsome hp
  refine s_grid (s := w.s) La.pre (ha111.sub (Sub.trans J.fs Ja)) Cc fun be Dc => ?_
  obtain ⟨Na, N⟩ := La.call Dc na
  have Ec := Ma.k N
  have Fc := zc.k N
  have Gc := yc.k N
  have Hc := Ac.k N
  have sb := rb.k N
  refine ⟨_, _, _, _, rfl, ?_⟩
  obtain ⟨Qd, Ic, hp⟩ := bsome hp
  refine s_places (r := Bc) Na.pre  Ic fun ce Rd Sd Jc Kc => ?_
  obtain ⟨Lc, D⟩ := Na.callG Jc na
  have Oa := Ec.k D
  have Pa := Fc.k D
  have Qa := Gc.k D
  have Ra := Hc.k D
  have wa := sb.k D
  refine ⟨_, rfl, ?_⟩
  refine range_st (α := Int × Int) Lc Kc (σ := (List Int)) 6 (fun st bb => (False ∨ (False ∨ (False ∨ (False ∨ False))))) (fun st gG gF gT gM => (Lb gG gF gT gM 1 m.nxt 13 [(Il w.s.Wide), (Il w.s.High), (Il w.s.Fall), (Il w.s.A.Lo), (Il w.s.A.Hi), (Il w.s.B.Lo), (Il w.s.B.Hi), (Il w.s.Half.Lo), (Il w.s.Half.Hi), (Il w.s.Peak.Lo), (Il w.s.Peak.Hi), ca111, ca112]) ∧ (Lb gG gF gT gM 2 m0.nxt 144 (st.map (C.int .i64))) ∧ (Lb gG gF gT gM 3 m1.nxt 1 [(Il (b + 1))]) ∧ (Lb gG gF gT gM 5 aa.nxt 4 [(Il a.A), (Il a.B), (Il a.Half), (Il a.Peak)]) ∧ (Rk gG gF gT gM 4 (Fa).nxt oa)) (fun rr_ st => ptally_L1 w b a ((ptally_L0 w ba)) rr_ st = some rz) (fun ex st => False) (fun st => (Gud.and (Gud.lb Oa.bk.lt (by decide)) (Gud.and (Gud.lb Pa.bk.lt (by decide)) (Gud.and (Gud.lb Qa.bk.lt (by decide)) (Gud.and (Gud.lb Ra.bk.lt (by decide)) (Gud.rk wa.lt (by decide))))))) (st0 := (g)) (τ := na) ⟨Oa, Pa, Qa, Ra, wa⟩ hp ?_ ?_ ?_ ?_
  ·intro p Nc o O F ha P Td Dd Ed Fd Oc Pc hA tb hp ub xa
   obtain ⟨q, u, z, G, l⟩ := hA
   replace q : Lb P O F ha 1 m.nxt 13 [(Il w.s.Wide), (Il w.s.High), (Il w.s.Fall), (Il w.s.A.Lo), (Il w.s.A.Hi), (Il w.s.B.Lo), (Il w.s.B.Hi), (Il w.s.Half.Lo), (Il w.s.Half.Hi), (Il w.s.Peak.Lo), (Il w.s.Peak.Hi), ca111, ca112] := q
   replace u : Lb P O F ha 2 m0.nxt 144 (o.map (C.int .i64)) := u
   replace z : Lb P O F ha 3 m1.nxt 1 [(Il (b + 1))] := z
   replace G : Lb P O F ha 5 aa.nxt 4 [(Il a.A), (Il a.B), (Il a.Half), (Il a.Peak)] := G
   replace l : Rk P O F ha 4 (Fa).nxt oa := l
   replace hp : ptally_L1 w b a ((ptally_L0 w ba)) (p :: Nc) o = some rz := hp
   rw [ptally_L1] at hp
   refine ⟨_, _, rfl, ?_⟩
   refine ub _ _ _ _ Oc tb fun de Ud Sa S vb ya => ?_
   have Ta := q.k S
   have Qc := u.k S
   have Rc := z.k S
   have Ua := G.k S
   have wb := l.k S
   refine ⟨trivial, _, _, _, _, _, _, _, _, _, _, _, _, Ta.bk.rp (k := 0) (j := 12) rfl (by omega), _, _, _, _, Ua.bk.ra, ?_⟩
   obtain ⟨Vd, Tc, hp⟩ := bsome hp
   refine s_hits (s := w.s) (t := a) (x := p.1) (y := p.2) Sa.pre (ha111.sub (Sub.trans (Sub.trans (Sub.trans J.fs Ja) D.fs) Pc)) Tc fun ee Uc => ?_
   obtain ⟨Va, I⟩ := Sa.call Uc F
   have Wa := Ta.k I
   have pa := Qc.k I
   have Xa := Rc.k I
   have Ya := Ua.k I
   have za := vb.k I
   have Aa := wb.k I
   refine ⟨_, rfl, ?_⟩
   refine ifbb hp (fun Vc hp => ?_) fun Vc hp => ?_; rotate_left
   ·exact xa .nrm (o) _ _ _ _ Va ⟨Wa, pa, Xa, Ya, Aa⟩ za ya hp
   refine ⟨trivial, ?_⟩
   obtain ⟨Xc, hp⟩ := gd_some hp
   obtain ⟨Za, xb, yb⟩ := arr_no Xc
   refine ⟨Za, xb, yb, trivial, ?_⟩
   obtain ⟨Yc, hp⟩ := gd_some hp
   obtain ⟨ab, zb, Ab⟩ := arr_no Yc
   obtain ⟨cb, qa, hp⟩ := bsome hp
   obtain ⟨Bb, Gd, Hd, qa⟩ := idx_some qa
   obtain rfl : Bb = ((0 + (Za * 12)) + (ab * 1)) := by omega
   refine ⟨ab, zb, Ab, _, (pa.bk.rc (k := ((0 + (Za * 12)) + (ab * 1))) (by rw [List.getElem?_map, qa]; rfl)), ?_⟩
   obtain ⟨Zc, hp⟩ := gd_some hp
   refine ⟨Zc, trivial, ?_⟩
   obtain ⟨ad, hp⟩ := gd_some hp
   obtain ⟨db, Cb, Db⟩ := arr_no ad
   refine ⟨db, Cb, Db, trivial, ?_⟩
   obtain ⟨bd, hp⟩ := gd_some hp
   obtain ⟨eb, Eb, Fb⟩ := arr_no bd
   refine ⟨eb, Eb, Fb, ?_⟩
   obtain ⟨cd, hp⟩ := gd_some hp
   have Gb : Int.toNat ((p.1 * 12) + p.2) = ((0 + (db * 12)) + (eb * 1)) := by omega
   obtain ⟨dd, ed, fd, T, fb⟩ := pa.stL Va cd (i := ((0 + (db * 12)) + (eb * 1))) (by omega) ((cb + 1))
   rw [← Gb] at fb
   have hd := Wa.k T
   have jd := Xa.k T
   have kd := Ya.k T
   have Hb := za.k T
   have Ib := Aa.k T
   refine ⟨dd, ed, ?_⟩
   exact xa .nrm ((o.set (Int.toNat ((p.1 * 12) + p.2)) (cb + 1))) _ _ _ _ fd ⟨hd, fb, jd, kd, Ib⟩ Hb ya hp
  ·intro o Y Z ia ld Wd hA hp
   replace hp : ptally_L1 w b a ((ptally_L0 w ba)) [] o = some rz := hp
   obtain ⟨q, u, z, G, l⟩ := hA
   replace q : Lb n Y Z ia 1 m.nxt 13 [(Il w.s.Wide), (Il w.s.High), (Il w.s.Fall), (Il w.s.A.Lo), (Il w.s.A.Hi), (Il w.s.B.Lo), (Il w.s.B.Hi), (Il w.s.Half.Lo), (Il w.s.Half.Hi), (Il w.s.Peak.Lo), (Il w.s.Peak.Hi), ca111, ca112] := q
   replace u : Lb n Y Z ia 2 m0.nxt 144 (o.map (C.int .i64)) := u
   replace z : Lb n Y Z ia 3 m1.nxt 1 [(Il (b + 1))] := z
   replace G : Lb n Y Z ia 5 aa.nxt 4 [(Il a.A), (Il a.B), (Il a.Half), (Il a.Peak)] := G
   replace l : Rk n Y Z ia 4 (Fa).nxt oa := l
   rw [ptally_L1] at hp
   exact mb .nrm (o, (b + 1)) _ _ _ _ ld ⟨q, u, z⟩ l qb hp
  ·intro id st _ _ _ _ _ _ hn; first | exact hn.elim | (cases hn)
  ·intro st _ _ _ _ _ _ hn; first | exact hn.elim | (cases hn)
 ·intro st sa ta gb md Xd hA hp
  obtain ⟨g, b⟩ := st
  replace hp : ptally_L0 w [] g b = some rz := hp
  obtain ⟨h, d, e⟩ := hA
  replace h : Lb (Fm.of m) sa ta gb 1 m.nxt 13 [(Il w.s.Wide), (Il w.s.High), (Il w.s.Fall), (Il w.s.A.Lo), (Il w.s.A.Hi), (Il w.s.B.Lo), (Il w.s.B.Hi), (Il w.s.Half.Lo), (Il w.s.Half.Hi), (Il w.s.Peak.Lo), (Il w.s.Peak.Hi), ca111, ca112] := h
  replace d : Lb (Fm.of m) sa ta gb 2 m0.nxt 144 (g.map (C.int .i64)) := d
  replace e : Lb (Fm.of m) sa ta gb 3 m1.nxt 1 [(Il b)] := e
  rw [ptally_L0] at hp
  refine ⟨_, d.bk.ra, _, e.bk.rc rfl, ?_⟩
  obtain ⟨nd, od, pd, qd, sd⟩ := d.sto md (g.map (C.int .i64))
  have hb := e.k qd
  refine ⟨nd, od, ?_⟩
  refine ⟨(hb.bk.rc rfl), ?_⟩
  obtain ⟨td, ud, vd, wd, xd⟩ := hb.sto pd [(Il b)]
  have yd := sd.k wd
  refine ⟨td, ud, ?_⟩
  refine ⟨_, yd.bk.ra, _, xd.bk.rc rfl, ?_⟩
  obtain rfl := Option.some.inj hp
  exact hq _ vd.ext'
 ·intro id st _ _ _ _ _ _ hn; first | exact hn.elim | (cases hn)
 ·intro st ua va ib zd Yd hA hn
  obtain ⟨g, b⟩ := st
  obtain ⟨hid, hp⟩ := hn
  replace hp : ptally_L0_xret g b = some rz := hp
  unfold ptally_L0_xret at hp
  obtain ⟨h, d, e⟩ := hA
  replace h : Lb (Fm.of m) ua va ib 1 m.nxt 13 [(Il w.s.Wide), (Il w.s.High), (Il w.s.Fall), (Il w.s.A.Lo), (Il w.s.A.Hi), (Il w.s.B.Lo), (Il w.s.B.Hi), (Il w.s.Half.Lo), (Il w.s.Half.Hi), (Il w.s.Peak.Lo), (Il w.s.Peak.Hi), ca111, ca112] := h
  replace d : Lb (Fm.of m) ua va ib 2 m0.nxt 144 (g.map (C.int .i64)) := d
  replace e : Lb (Fm.of m) ua va ib 3 m1.nxt 1 [(Il b)] := e
  refine ⟨_, d.bk.ra, _, e.bk.rc rfl, ?_⟩
  obtain rfl := Option.some.inj hp
  exact hq _ zd.ext'
theorem s_Best {s : Stm} {ca111 : C} {m f : M} {Q : V → M → Prop} {rz : Int × Int × Int × Int} (hS : Pre f m) (ha111 : Sl f ca111 s.Cards) (hp : pBest s = some rz) (hq : ∀ m', Ext m m' → Q (.tup [.c (Il rz.1), .c (Il rz.2.1), .c (Il rz.2.2.1), .c (Il rz.2.2.2)]) m') : Wc prog tbl 30 [.agg 12 [(Il s.Wide), (Il s.High), (Il s.Fall), (Il s.A.Lo), (Il s.A.Hi), (Il s.B.Lo), (Il s.B.Hi), (Il s.Half.Lo), (Il s.Half.Hi), (Il s.Peak.Lo), (Il s.Peak.Hi), ca111]] m Q := by
 have S0 := hS.st
 obtain ⟨τ0, _⟩ : ∃ τ : Nat → Nat, True := ⟨fun _ => 0, trivial⟩
 refine w30 ?_
 unfold pBest at hp
 intro m0 wb
 obtain ⟨xb, yb, pf, zb⟩ := S0.blk wb τ0 1
 intro m1 Bb
 obtain ⟨Cb, Db, Eb, Fb⟩ := yb.blk Bb xb 2
 have Gb := zb.k Eb
 intro m2 Ib
 obtain ⟨Jb, Kb, va, Mb⟩ := Db.blk Ib Cb 3
 have Nb := Gb.k va
 have Ob := Fb.k va
 intro m3 Pb
 obtain ⟨wa, xa, ja, Qb⟩ := Kb.blk Pb Jb 4
 have ya := Nb.k ja
 have Rb := Ob.k ja
 have Sb := Mb.k ja
 refine ⟨_, _, _, _, _, _, _, _, _, _, _, _, ya.bk.ra, ?_⟩
 obtain ⟨a, Tb, hp⟩ := bsome hp
 refine s_openTrue (s := s) (asked := []) xa.pre ha111 (Sl.nil _) Tb fun za qf da ea Ub Aa Vb => ?_
 obtain ⟨Wb, fa⟩ := xa.callG Ub wa
 have Xb := ya.k fa
 have Yb := Rb.k fa
 have Zb := Sb.k fa
 have ac := Qb.k fa
 refine ⟨_, _, _, _, _, _, _, _, _, _, _, _, _, _, rfl, ?_⟩
 intro yf bc
 obtain ⟨Ba, cc, ga, dc⟩ := Wb.blk bc wa 5
 have ec := Xb.k ga
 have fc := Yb.k ga
 have gc := Zb.k ga
 have ic := ac.k ga
 obtain ⟨jc, kc, ka, ha, Ca⟩ := dc.sto cc [(Il a.1.s.Wide), (Il a.1.s.High), (Il a.1.s.Fall), (Il a.1.s.A.Lo), (Il a.1.s.A.Hi), (Il a.1.s.B.Lo), (Il a.1.s.B.Hi), (Il a.1.s.Half.Lo), (Il a.1.s.Half.Hi), (Il a.1.s.Peak.Lo), (Il a.1.s.Peak.Hi), da, ea]
 have lc := ec.k ha
 have Da := fc.k ha
 have Ea := gc.k ha
 have Fa := ic.k ha
 refine ⟨jc, kc, ?_⟩
 refine ifnd hp (fun nc hp => ?_) fun nc hp => ?_
 ·obtain ⟨oc, pc, qc, Ga, sc⟩ := Da.sto ka [(Il 0)]
  have tc := Ea.k Ga
  have uc := Fa.k Ga
  refine ⟨oc, pc, ?_⟩
  obtain ⟨vc, wc, xc, Ha, yc⟩ := tc.sto qc [(Il 0)]
  have zc := sc.k Ha
  have Ac := uc.k Ha
  refine ⟨vc, wc, ?_⟩
  obtain ⟨Bc, Cc, Dc, Ia, Ec⟩ := Ac.sto xc [(Il 0)]
  have Fc := zc.k Ia
  have Gc := yc.k Ia
  refine ⟨Bc, Cc, ?_⟩
  refine ⟨_, Fc.bk.rc rfl, _, Gc.bk.rc rfl, _, Ec.bk.rc rfl, ?_⟩
  obtain rfl := Option.some.inj hp
  exact hq _ Dc.ext'
 refine ⟨_, _, _, _, _, _, _, _, _, _, _, _, _, Ca.bk.ra, ?_⟩
 obtain ⟨b, Hc, hp⟩ := bsome hp
 refine s_tally (w := a.1) ka.pre Aa Vb Hc fun Ja Ic => ?_
 obtain ⟨Jc, Y⟩ := ka.call Ic Ba
 have Kc := lc.k Y
 have Lc := Da.k Y
 have Nc := Ea.k Y
 have Oc := Fa.k Y
 have Pc := Ca.k Y
 refine ⟨_, _, rfl, ?_⟩
 intro Ka Qc
 obtain ⟨Rc, Tc, Z, la⟩ := Jc.blk Qc Ba 6
 replace la : Lb _ _ _ _ _ _ _ ((List.replicate 144 (0 : Int)).map (C.int .i64)) := la
 have Uc := Kc.k Z
 have Vc := Lc.k Z
 have Xc := Nc.k Z
 have Yc := Oc.k Z
 have Zc := Pc.k Z
 intro zf ad
 obtain ⟨ma, bd, G, cd⟩ := Tc.blk ad Rc 7
 have dd := Uc.k G
 have ed := Vc.k G
 have fd := Xc.k G
 have hd := Yc.k G
 have jd := Zc.k G
 have kd := la.k G
 obtain ⟨ld, md, nd, I, od⟩ := kd.sto bd (b.1.map (C.int .i64))
 have pd := dd.k I
 have qd := ed.k I
 have sd := fd.k I
 have td := hd.k I
 have ud := jd.k I
 have vd := cd.k I
 refine ⟨ld, md, ?_⟩
 obtain ⟨wd, xd, yd, J, La⟩ := vd.sto nd [(Il b.2)]
 have zd := pd.k J
 have Ad := qd.k J
 have Bd := sd.k J
 have Cd := td.k J
 have Dd := ud.k J
 have Ed := od.k J
 refine ⟨wd, xd, ?_⟩
 refine ⟨_, La.bk.rc rfl, ?_⟩
 obtain ⟨Fd, Gd, Ma, N, Hd⟩ := Cd.sto yd [(Il b.2)]
 have Id := zd.k N
 have Jd := Ad.k N
 have Ld := Bd.k N
 have Na := Dd.k N
 have Md := Ed.k N
 have Nd := La.k N
 refine ⟨Fd, Gd, ?_⟩
 refine ⟨trivial, _, _, _, _, _, _, _, _, _, _, _, _, Na.bk.rp (k := 0) (j := 12) rfl (by omega), ?_⟩
 obtain ⟨Od, Pd, hp⟩ := bsome hp
 refine s_grid (s := a.1.s) Ma.pre Aa Pd fun Af Qd => ?_
 obtain ⟨Oa, h⟩ := Ma.call Qd ma
 have Rd := Id.k h
 have Sd := Jd.k h
 have Td := Ld.k h
 have Ud := Hd.k h
 have Vd := Na.k h
 have Wd := Md.k h
 have Xd := Nd.k h
 refine ⟨_, _, _, _, rfl, ?_⟩
 obtain ⟨rf, Yd, hp⟩ := bsome hp
 refine s_places (r := Od) Oa.pre  Yd fun Bf sf tf Zd ae => ?_
 obtain ⟨be, i⟩ := Oa.callG Zd ma
 have Pa := Rd.k i
 have Qa := Sd.k i
 have Ra := Td.k i
 have Sa := Ud.k i
 have Ta := Vd.k i
 have Ua := Wd.k i
 have Va := Xd.k i
 refine ⟨_, rfl, ?_⟩
 refine range_st (α := Int × Int) be ae (σ := Int × Int × Int) 8 (fun st bb => (False ∨ (False ∨ (False ∨ (False ∨ (False ∨ (False ∨ False))))))) (fun st gG gF gT gM => (Lb gG gF gT gM 1 m.nxt 12 [(Il s.Wide), (Il s.High), (Il s.Fall), (Il s.A.Lo), (Il s.A.Hi), (Il s.B.Lo), (Il s.B.Hi), (Il s.Half.Lo), (Il s.Half.Hi), (Il s.Peak.Lo), (Il s.Peak.Hi), ca111]) ∧ (Lb gG gF gT gM 2 m0.nxt 1 [(Il st.1)]) ∧ (Lb gG gF gT gM 3 m1.nxt 1 [(Il st.2.1)]) ∧ (Lb gG gF gT gM 4 m2.nxt 1 [(Il st.2.2)]) ∧ (Lb gG gF gT gM 5 za.nxt 13 [(Il a.1.s.Wide), (Il a.1.s.High), (Il a.1.s.Fall), (Il a.1.s.A.Lo), (Il a.1.s.A.Hi), (Il a.1.s.B.Lo), (Il a.1.s.B.Hi), (Il a.1.s.Half.Lo), (Il a.1.s.Half.Hi), (Il a.1.s.Peak.Lo), (Il a.1.s.Peak.Hi), da, ea]) ∧ (Lb gG gF gT gM 6 Ja.nxt 144 (b.1.map (C.int .i64))) ∧ (Lb gG gF gT gM 7 Ka.nxt 1 [(Il b.2)])) (fun rr_ st => pBest_L0 b rr_ st.1 st.2.1 st.2.2 = some rz) (fun ex st => False) (fun st => (Gud.and (Gud.lb Pa.bk.lt (by decide)) (Gud.and (Gud.lb Qa.bk.lt (by decide)) (Gud.and (Gud.lb Ra.bk.lt (by decide)) (Gud.and (Gud.lb Sa.bk.lt (by decide)) (Gud.and (Gud.lb Ta.bk.lt (by decide)) (Gud.and (Gud.lb Ua.bk.lt (by decide)) (Gud.lb Va.bk.lt (by decide))))))))) (st0 := ((0 : Int), (0 : Int), b.2)) (τ := ma) ⟨Pa, Qa, Ra, Sa, Ta, Ua, Va⟩ hp ?_ ?_ ?_ ?_
 ·intro aa ce st l n ba o uf gf hf jf de vf hA kb hp mb sa
  obtain ⟨p, q, t⟩ := st
  obtain ⟨O, d, e, g, P, S, T⟩ := hA
  replace O : Lb o l n ba 1 m.nxt 12 [(Il s.Wide), (Il s.High), (Il s.Fall), (Il s.A.Lo), (Il s.A.Hi), (Il s.B.Lo), (Il s.B.Hi), (Il s.Half.Lo), (Il s.Half.Hi), (Il s.Peak.Lo), (Il s.Peak.Hi), ca111] := O
  replace d : Lb o l n ba 2 m0.nxt 1 [(Il p)] := d
  replace e : Lb o l n ba 3 m1.nxt 1 [(Il q)] := e
  replace g : Lb o l n ba 4 m2.nxt 1 [(Il t)] := g
  replace P : Lb o l n ba 5 za.nxt 13 [(Il a.1.s.Wide), (Il a.1.s.High), (Il a.1.s.Fall), (Il a.1.s.A.Lo), (Il a.1.s.A.Hi), (Il a.1.s.B.Lo), (Il a.1.s.B.Hi), (Il a.1.s.Half.Lo), (Il a.1.s.Half.Hi), (Il a.1.s.Peak.Lo), (Il a.1.s.Peak.Hi), da, ea] := P
  replace S : Lb o l n ba 6 Ja.nxt 144 (b.1.map (C.int .i64)) := S
  replace T : Lb o l n ba 7 Ka.nxt 1 [(Il b.2)] := T
  replace hp : pBest_L0 b (aa :: ce) p q t = some rz := hp
  rw [pBest_L0] at hp
  refine ⟨_, _, rfl, ?_⟩
  refine mb _ _ _ _ de kb fun Cf wf Wa u ta ua => ?_
  have Xa := O.k u
  have Ya := d.k u
  have Za := e.k u
  have na := g.k u
  have ab := P.k u
  have oa := S.k u
  have pa := T.k u
  refine ⟨trivial, ?_⟩
  obtain ⟨ee, hp⟩ := gd_some hp
  obtain ⟨cb, nb, ob⟩ := arr_no ee
  refine ⟨cb, nb, ob, trivial, ?_⟩
  obtain ⟨fe, hp⟩ := gd_some hp
  obtain ⟨db, pb, qb⟩ := arr_no fe
  obtain ⟨ia, qa, hp⟩ := bsome hp
  obtain ⟨rb, kf, lf, qa⟩ := idx_some qa
  obtain rfl : rb = ((0 + (cb * 12)) + (db * 1)) := by omega
  refine ⟨db, pb, qb, _, (oa.bk.rc (k := ((0 + (cb * 12)) + (db * 1))) (by rw [List.getElem?_map, qa]; rfl)), _, pa.bk.rc rfl, ?_⟩
  obtain ⟨ge, hp⟩ := gd_some hp
  refine ⟨ge, _, na.bk.rc rfl, ?_⟩
  refine ifd hp (fun he hp => ?_) fun he hp => ?_; rotate_left
  ·exact sa .nrm (p, q, t) _ _ _ _ Wa ⟨Xa, Ya, Za, na, ab, oa, pa⟩ ta ua hp
  obtain ⟨ie, je, ke, x, me⟩ := Ya.sto Wa [(Il aa.1)]
  have oe := Xa.k x
  have pe := Za.k x
  have qe := na.k x
  have re := ab.k x
  have se := oa.k x
  have te := pa.k x
  have sb := ta.k x
  refine ⟨ie, je, ?_⟩
  obtain ⟨ue, ve, we, y, xe⟩ := pe.sto ke [(Il aa.2)]
  have ye := oe.k y
  have ze := me.k y
  have Ae := qe.k y
  have Be := re.k y
  have Ce := se.k y
  have De := te.k y
  have tb := sb.k y
  refine ⟨ue, ve, ?_⟩
  obtain ⟨Ee, Fe, Ge, z, He⟩ := Ae.sto we [(Il (max ia (b.2 - ia)))]
  have Ie := ye.k z
  have Je := ze.k z
  have Ke := xe.k z
  have Me := Be.k z
  have Ne := Ce.k z
  have Oe := De.k z
  have ub := tb.k z
  refine ⟨Ee, Fe, ?_⟩
  exact sa .nrm (aa.1, aa.2, (max ia (b.2 - ia))) _ _ _ _ Ge ⟨Ie, Je, Ke, He, Me, Ne, Oe⟩ ub ua hp
 ·intro st D F ca Pe xf hA hp
  obtain ⟨p, q, t⟩ := st
  replace hp : pBest_L0 b [] p q t = some rz := hp
  obtain ⟨O, d, e, g, P, S, T⟩ := hA
  replace O : Lb (Fm.of m) D F ca 1 m.nxt 12 [(Il s.Wide), (Il s.High), (Il s.Fall), (Il s.A.Lo), (Il s.A.Hi), (Il s.B.Lo), (Il s.B.Hi), (Il s.Half.Lo), (Il s.Half.Hi), (Il s.Peak.Lo), (Il s.Peak.Hi), ca111] := O
  replace d : Lb (Fm.of m) D F ca 2 m0.nxt 1 [(Il p)] := d
  replace e : Lb (Fm.of m) D F ca 3 m1.nxt 1 [(Il q)] := e
  replace g : Lb (Fm.of m) D F ca 4 m2.nxt 1 [(Il t)] := g
  replace P : Lb (Fm.of m) D F ca 5 za.nxt 13 [(Il a.1.s.Wide), (Il a.1.s.High), (Il a.1.s.Fall), (Il a.1.s.A.Lo), (Il a.1.s.A.Hi), (Il a.1.s.B.Lo), (Il a.1.s.B.Hi), (Il a.1.s.Half.Lo), (Il a.1.s.Half.Hi), (Il a.1.s.Peak.Lo), (Il a.1.s.Peak.Hi), da, ea] := P
  replace S : Lb (Fm.of m) D F ca 6 Ja.nxt 144 (b.1.map (C.int .i64)) := S
  replace T : Lb (Fm.of m) D F ca 7 Ka.nxt 1 [(Il b.2)] := T
  rw [pBest_L0] at hp
  refine ⟨_, d.bk.rc rfl, _, e.bk.rc rfl, _, g.bk.rc rfl, ?_⟩
  obtain ⟨Qe, Re, Se, eb, Te⟩ := d.sto Pe [(Il p)]
  have fb := e.k eb
  have gb := g.k eb
  refine ⟨Qe, Re, ?_⟩
  refine ⟨(gb.bk.rc rfl), (fb.bk.rc rfl), ?_⟩
  obtain ⟨Ue, Ve, We, hb, Xe⟩ := fb.sto Se [(Il q)]
  have Ye := Te.k hb
  have ib := gb.k hb
  refine ⟨Ue, Ve, ?_⟩
  refine ⟨(ib.bk.rc rfl), ?_⟩
  obtain ⟨Ze, af, bf, jb, cf⟩ := ib.sto We [(Il t)]
  have df := Ye.k jb
  have ef := Xe.k jb
  refine ⟨Ze, af, ?_⟩
  refine ⟨_, df.bk.rc rfl, _, ef.bk.rc rfl, _, cf.bk.rc rfl, ?_⟩
  obtain rfl := Option.some.inj hp
  exact hq _ bf.ext'
 ·intro id st _ _ _ _ _ _ hn; first | exact hn.elim | (cases hn)
 ·intro st _ _ _ _ _ _ hn; first | exact hn.elim | (cases hn)
theorem s_StormSizes {s : Stm} {x : Int} {y : Int} {ca111 : C} {m f : M} {Q : V → M → Prop} {rz : Bool} (hS : Pre f m) (ha111 : Sl f ca111 s.Cards) (hp : pStormSizes s x y = some rz) (hq : ∀ m', Ext m m' → Q (.c (.bool rz)) m') : Wc prog tbl 4 [.agg 12 [(Il s.Wide), (Il s.High), (Il s.Fall), (Il s.A.Lo), (Il s.A.Hi), (Il s.B.Lo), (Il s.B.Hi), (Il s.Half.Lo), (Il s.Half.Hi), (Il s.Peak.Lo), (Il s.Peak.Hi), ca111], .c (Il x), .c (Il y)] m Q := by
 have S0 := hS.st
 obtain ⟨τ0, _⟩ : ∃ τ : Nat → Nat, True := ⟨fun _ => 0, trivial⟩
 refine w4 ?_
 unfold pStormSizes at hp
 intro m0 ya
 obtain ⟨p, Y, Rd, Z⟩ := S0.blk ya τ0 1
 refine ⟨_, _, _, _, _, _, _, _, _, _, _, _, Z.bk.ra, ?_⟩
 obtain ⟨Sd, za, hp⟩ := bsome hp
 refine s_lThin (s := s) Y.pre ha111 za fun bf Aa => ?_
 obtain ⟨D, Ba⟩ := Y.call Aa p
 have aa := Z.k Ba
 refine ⟨_, rfl, ?_⟩
 refine ifnb hp (fun Ca hp => ?_) fun Ca hp => ?_
 ·obtain ⟨Td, Da, hp⟩ := bsome hp
  refine s_awake D.pre  Da fun cf Ea => ?_
  obtain ⟨Fa, Ud⟩ := D.call Ea p
  refine ⟨_, rfl, ?_⟩
  obtain rfl := Option.some.inj hp
  exact hq _ Fa.ext'
 refine ⟨_, _, _, _, _, _, _, _, _, _, _, _, aa.bk.ra, ?_⟩
 obtain ⟨Ga, Ha, hp⟩ := bsome hp
 refine s_lStorm (s := s) D.pre ha111 Ha fun df Vd Wd Ia Ja => ?_
 obtain ⟨ba, g⟩ := D.callG Ia p
 have Ka := aa.k g
 refine ⟨_, _, _, _, _, _, _, _, _, _, _, _, rfl, ?_⟩
 obtain ⟨ca, La, hp⟩ := bsome hp
 refine s_Sizes (s := Ga) (x := x) (y := y) ba.pre Ja La fun ef Ma => ?_
 obtain ⟨Na, Oa⟩ := ba.call Ma p
 have Pa := Ka.k Oa
 refine ⟨_, _, _, rfl, ?_⟩
 intro gf Qa
 obtain ⟨a, Ra, Sa, Ta⟩ := Na.blk Qa p 2
 have Ua := Pa.k Sa
 obtain ⟨Va, Wa, da, Xa, Ya⟩ := Ta.sto Ra [(Il ca.1.Lo), (Il ca.1.Hi)]
 have ea := Ua.k Xa
 refine ⟨Va, Wa, ?_⟩
 refine ⟨_, _, _, _, _, _, _, _, _, _, _, _, ea.bk.ra, ?_⟩
 obtain ⟨Za, ab, hp⟩ := bsome hp
 refine s_lStorm (s := s) da.pre (ha111.sub g.fs) ab fun hf Xd Yd bb cb => ?_
 obtain ⟨fa, h⟩ := da.callG bb a
 have db := ea.k h
 have eb := Ya.k h
 refine ⟨_, _, _, _, _, _, _, _, _, _, _, _, rfl, ?_⟩
 obtain ⟨Zd, fb, hp⟩ := bsome hp
 refine s_Best (s := Za) fa.pre cb fb fun jf gb => ?_
 obtain ⟨ga, ha⟩ := fa.call gb a
 have ia := db.k ha
 have hb := eb.k ha
 refine ⟨_, _, _, _, rfl, _, _, _, _, _, _, _, _, _, _, _, _, ia.bk.ra, ?_⟩
 obtain ⟨j, ib, hp⟩ := bsome hp
 refine s_lSure (s := s) ga.pre (ha111.sub (Sub.trans g.fs h.fs)) ib fun kf ae be jb o => ?_
 obtain ⟨ja, i⟩ := ga.callG jb a
 have ka := ia.k i
 have kb := hb.k i
 refine ⟨_, _, rfl, _, _, _, _, _, _, _, _, _, _, _, _, ka.bk.ra, ?_⟩
 obtain ⟨ce, mb, hp⟩ := bsome hp
 refine s_lFault (s := s) ja.pre (ha111.sub (Sub.trans (Sub.trans g.fs h.fs) i.fs)) mb fun de nb => ?_
 obtain ⟨d, la⟩ := ja.call nb a
 have F := ka.k la
 have G := kb.k la
 refine ⟨_, rfl, ?_⟩
 refine ifd hp (fun ob hp => ?_) fun ob hp => ?_; rotate_left
 ·refine ifnd hp (fun pb hp => ?_) fun pb hp => ?_
  ·obtain rfl := Option.some.inj hp
   exact hq _ d.ext'
  refine ifnd hp (fun qb hp => ?_) fun qb hp => ?_
  ·obtain rfl := Option.some.inj hp
   exact hq _ d.ext'
  refine ifnd hp (fun I hp => ?_) fun I hp => ?_
  ·refine ⟨_, _, G.bk.ra, ?_⟩
   refine gdi hp fun rb hp => ?_
   refine gdi hp fun sb hp => ?_
   refine gdi hp fun tb hp => ?_
   refine gdi hp fun ub hp => ?_
   refine ifnb hp (fun vb hp => ?_) fun vb hp => ?_
   ·obtain rfl := Option.some.inj hp
    exact hq _ d.ext'
   refine ifnkf I ?_
   refine ifd hp (fun wb hp => ?_) fun wb hp => ?_; rotate_left
   ·obtain rfl := Option.some.inj hp
    exact hq _ d.ext'
   refine ifd hp (fun xb hp => ?_) fun xb hp => ?_; rotate_left
   ·obtain rfl := Option.some.inj hp
    exact hq _ d.ext'
   refine ifd hp (fun yb hp => ?_) fun yb hp => ?_; rotate_left
   ·obtain rfl := Option.some.inj hp
    exact hq _ d.ext'
   obtain ⟨ee, zb, hp⟩ := bsome hp
   refine s_awake d.pre  zb fun fe Ab => ?_
   obtain ⟨Bb, ge⟩ := d.call Ab a
   refine ⟨_, rfl, ?_⟩
   obtain rfl := Option.some.inj hp
   exact hq _ Bb.ext'
  refine ifnkt I ?_
  refine ifdkt I ?_
  refine ⟨_, _, G.bk.ra, _, _, _, _, _, _, _, _, _, _, _, _, F.bk.ra, ?_⟩
  obtain ⟨Cb, Db, hp⟩ := bsome hp
  refine s_rSizes (s := s) (l := j.1) (x := x) (y := y) d.pre (ha111.sub (Sub.trans (Sub.trans g.fs h.fs) i.fs)) o Db fun he Eb => ?_
  obtain ⟨ma, na⟩ := d.call Eb a
  have Fb := F.k na
  have oa := G.k na
  refine ⟨_, _, rfl, (oa.bk.ra), ?_⟩
  obtain ⟨ie, Gb, hp⟩ := bsome hp
  refine s_lTo (r := Cb) ma.pre  Gb fun je Hb => ?_
  obtain ⟨O, pa⟩ := ma.call Hb a
  have Ib := Fb.k pa
  have Jb := oa.k pa
  refine ⟨_, _, rfl, (Jb.bk.ra), ?_⟩
  refine gdi hp fun Kb hp => ?_
  refine gdi hp fun Mb hp => ?_
  refine gdi hp fun Nb hp => ?_
  refine gdi hp fun Ob hp => ?_
  refine ifnb hp (fun Pb hp => ?_) fun Pb hp => ?_
  ·obtain rfl := Option.some.inj hp
   exact hq _ O.ext'
  refine ⟨_, _, _, _, _, _, _, _, _, _, _, _, Ib.bk.ra, ?_⟩
  obtain ⟨ke, Qb, hp⟩ := bsome hp
  refine s_rBest (s := s) (l := j.1) O.pre (ha111.sub (Sub.trans (Sub.trans g.fs h.fs) i.fs)) o Qb fun me Rb => ?_
  obtain ⟨q, oe⟩ := O.call Rb a
  refine ⟨_, _, _, rfl, ?_⟩
  refine ifd hp (fun Sb hp => ?_) fun Sb hp => ?_; rotate_left
  ·obtain rfl := Option.some.inj hp
   exact hq _ q.ext'
  refine ifd hp (fun Tb hp => ?_) fun Tb hp => ?_; rotate_left
  ·obtain rfl := Option.some.inj hp
   exact hq _ q.ext'
  refine ifd hp (fun Ub hp => ?_) fun Ub hp => ?_; rotate_left
  ·obtain rfl := Option.some.inj hp
   exact hq _ q.ext'
  obtain ⟨pe, Vb, hp⟩ := bsome hp
  refine s_awake q.pre  Vb fun qe Wb => ?_
  obtain ⟨Xb, re⟩ := q.call Wb a
  refine ⟨_, rfl, ?_⟩
  obtain rfl := Option.some.inj hp
  exact hq _ Xb.ext'
 refine ⟨trivial, _, F.bk.rc rfl, ?_⟩
 refine gdi hp fun Yb hp => ?_
 obtain ⟨se, Zb, hp⟩ := bsome hp
 refine s_rIn (n := x) (low := (0 : Int)) (high := (s.Wide - (1 : Int))) d.pre  Zb fun te ac => ?_
 obtain ⟨e, qa⟩ := d.call ac a
 have P := F.k qa
 have sa := G.k qa
 refine ⟨_, rfl, ?_⟩
 refine ifnb hp (fun bc hp => ?_) fun bc hp => ?_
 ·refine ifnd hp (fun cc hp => ?_) fun cc hp => ?_
  ·obtain rfl := Option.some.inj hp
   exact hq _ e.ext'
  refine ifnd hp (fun dc hp => ?_) fun dc hp => ?_
  ·obtain rfl := Option.some.inj hp
   exact hq _ e.ext'
  refine ⟨_, _, sa.bk.ra, ?_⟩
  refine gdi hp fun ec hp => ?_
  refine gdi hp fun fc hp => ?_
  refine gdi hp fun gc hp => ?_
  refine gdi hp fun ic hp => ?_
  refine ifnb hp (fun jc hp => ?_) fun jc hp => ?_
  ·obtain rfl := Option.some.inj hp
   exact hq _ e.ext'
  refine ifnd hp (fun kc hp => ?_) fun kc hp => ?_
  ·refine ifd hp (fun lc hp => ?_) fun lc hp => ?_; rotate_left
   ·obtain rfl := Option.some.inj hp
    exact hq _ e.ext'
   refine ifd hp (fun nc hp => ?_) fun nc hp => ?_; rotate_left
   ·obtain rfl := Option.some.inj hp
    exact hq _ e.ext'
   refine ifd hp (fun oc hp => ?_) fun oc hp => ?_; rotate_left
   ·obtain rfl := Option.some.inj hp
    exact hq _ e.ext'
   obtain ⟨ue, pc, hp⟩ := bsome hp
   refine s_awake e.pre  pc fun ve qc => ?_
   obtain ⟨sc, we⟩ := e.call qc a
   refine ⟨_, rfl, ?_⟩
   obtain rfl := Option.some.inj hp
   exact hq _ sc.ext'
  refine ⟨_, _, _, _, _, _, _, _, _, _, _, _, P.bk.ra, ?_⟩
  obtain ⟨xe, tc, hp⟩ := bsome hp
  refine s_rBest (s := s) (l := j.1) e.pre (ha111.sub (Sub.trans (Sub.trans g.fs h.fs) i.fs)) o tc fun ye uc => ?_
  obtain ⟨t, ze⟩ := e.call uc a
  refine ⟨_, _, _, rfl, ?_⟩
  refine ifd hp (fun vc hp => ?_) fun vc hp => ?_; rotate_left
  ·obtain rfl := Option.some.inj hp
   exact hq _ t.ext'
  refine ifd hp (fun wc hp => ?_) fun wc hp => ?_; rotate_left
  ·obtain rfl := Option.some.inj hp
   exact hq _ t.ext'
  refine ifd hp (fun xc hp => ?_) fun xc hp => ?_; rotate_left
  ·obtain rfl := Option.some.inj hp
   exact hq _ t.ext'
  obtain ⟨Ae, yc, hp⟩ := bsome hp
  refine s_awake t.pre  yc fun Be zc => ?_
  obtain ⟨Ac, Ce⟩ := t.call zc a
  refine ⟨_, rfl, ?_⟩
  obtain rfl := Option.some.inj hp
  exact hq _ Ac.ext'
 refine ⟨trivial, _, P.bk.rc rfl, ?_⟩
 refine gdi hp fun Bc hp => ?_
 obtain ⟨De, Cc, hp⟩ := bsome hp
 refine s_rIn (n := y) (low := (0 : Int)) (high := (s.High - (1 : Int))) e.pre  Cc fun Ee Dc => ?_
 obtain ⟨b, ta⟩ := e.call Dc a
 have S := P.k ta
 have J := sa.k ta
 refine ⟨_, rfl, ?_⟩
 refine ifnb hp (fun Ec hp => ?_) fun Ec hp => ?_
 ·refine ifnd hp (fun Fc hp => ?_) fun Fc hp => ?_
  ·obtain rfl := Option.some.inj hp
   exact hq _ b.ext'
  refine ifnd hp (fun Gc hp => ?_) fun Gc hp => ?_
  ·obtain rfl := Option.some.inj hp
   exact hq _ b.ext'
  refine ⟨_, _, J.bk.ra, ?_⟩
  refine gdi hp fun Hc hp => ?_
  refine gdi hp fun Ic hp => ?_
  refine gdi hp fun Jc hp => ?_
  refine gdi hp fun Kc hp => ?_
  refine ifnb hp (fun Lc hp => ?_) fun Lc hp => ?_
  ·obtain rfl := Option.some.inj hp
   exact hq _ b.ext'
  refine ifnd hp (fun Nc hp => ?_) fun Nc hp => ?_
  ·refine ifd hp (fun Oc hp => ?_) fun Oc hp => ?_; rotate_left
   ·obtain rfl := Option.some.inj hp
    exact hq _ b.ext'
   refine ifd hp (fun Pc hp => ?_) fun Pc hp => ?_; rotate_left
   ·obtain rfl := Option.some.inj hp
    exact hq _ b.ext'
   refine ifd hp (fun Qc hp => ?_) fun Qc hp => ?_; rotate_left
   ·obtain rfl := Option.some.inj hp
    exact hq _ b.ext'
   obtain ⟨Fe, Rc, hp⟩ := bsome hp
   refine s_awake b.pre  Rc fun Ge Tc => ?_
   obtain ⟨Uc, He⟩ := b.call Tc a
   refine ⟨_, rfl, ?_⟩
   obtain rfl := Option.some.inj hp
   exact hq _ Uc.ext'
  refine ⟨_, _, _, _, _, _, _, _, _, _, _, _, S.bk.ra, ?_⟩
  obtain ⟨Ie, Vc, hp⟩ := bsome hp
  refine s_rBest (s := s) (l := j.1) b.pre (ha111.sub (Sub.trans (Sub.trans g.fs h.fs) i.fs)) o Vc fun Je Xc => ?_
  obtain ⟨u, Ke⟩ := b.call Xc a
  refine ⟨_, _, _, rfl, ?_⟩
  refine ifd hp (fun Yc hp => ?_) fun Yc hp => ?_; rotate_left
  ·obtain rfl := Option.some.inj hp
   exact hq _ u.ext'
  refine ifd hp (fun Zc hp => ?_) fun Zc hp => ?_; rotate_left
  ·obtain rfl := Option.some.inj hp
   exact hq _ u.ext'
  refine ifd hp (fun ad hp => ?_) fun ad hp => ?_; rotate_left
  ·obtain rfl := Option.some.inj hp
   exact hq _ u.ext'
  obtain ⟨Me, bd, hp⟩ := bsome hp
  refine s_awake u.pre  bd fun Ne cd => ?_
  obtain ⟨dd, Oe⟩ := u.call cd a
  refine ⟨_, rfl, ?_⟩
  obtain rfl := Option.some.inj hp
  exact hq _ dd.ext'
 refine ifnd hp (fun ed hp => ?_) fun ed hp => ?_
 ·obtain rfl := Option.some.inj hp
  exact hq _ b.ext'
 refine ifnd hp (fun fd hp => ?_) fun fd hp => ?_
 ·obtain rfl := Option.some.inj hp
  exact hq _ b.ext'
 refine ifnd hp (fun N hp => ?_) fun N hp => ?_
 ·refine ⟨_, _, J.bk.ra, ?_⟩
  refine gdi hp fun hd hp => ?_
  refine gdi hp fun id hp => ?_
  refine gdi hp fun jd hp => ?_
  refine gdi hp fun kd hp => ?_
  refine ifnb hp (fun ld hp => ?_) fun ld hp => ?_
  ·obtain rfl := Option.some.inj hp
   exact hq _ b.ext'
  refine ifnkf N ?_
  refine ifd hp (fun md hp => ?_) fun md hp => ?_; rotate_left
  ·obtain rfl := Option.some.inj hp
   exact hq _ b.ext'
  refine ifd hp (fun nd hp => ?_) fun nd hp => ?_; rotate_left
  ·obtain rfl := Option.some.inj hp
   exact hq _ b.ext'
  refine ifd hp (fun od hp => ?_) fun od hp => ?_; rotate_left
  ·obtain rfl := Option.some.inj hp
   exact hq _ b.ext'
  obtain ⟨Pe, pd, hp⟩ := bsome hp
  refine s_awake b.pre  pd fun Qe qd => ?_
  obtain ⟨sd, Re⟩ := b.call qd a
  refine ⟨_, rfl, ?_⟩
  obtain rfl := Option.some.inj hp
  exact hq _ sd.ext'
 refine ifnkt N ?_
 refine ifdkt N ?_
 refine ⟨_, _, J.bk.ra, _, _, _, _, _, _, _, _, _, _, _, _, S.bk.ra, ?_⟩
 obtain ⟨td, ud, hp⟩ := bsome hp
 refine s_rSizes (s := s) (l := j.1) (x := x) (y := y) b.pre (ha111.sub (Sub.trans (Sub.trans g.fs h.fs) i.fs)) o ud fun Se vd => ?_
 obtain ⟨ua, va⟩ := b.call vd a
 have wd := S.k va
 have wa := J.k va
 refine ⟨_, _, rfl, (wa.bk.ra), ?_⟩
 obtain ⟨Te, xd, hp⟩ := bsome hp
 refine s_lTo (r := td) ua.pre  xd fun Ue yd => ?_
 obtain ⟨T, xa⟩ := ua.call yd a
 have zd := wd.k xa
 have Ad := wa.k xa
 refine ⟨_, _, rfl, (Ad.bk.ra), ?_⟩
 refine gdi hp fun Bd hp => ?_
 refine gdi hp fun Cd hp => ?_
 refine gdi hp fun Dd hp => ?_
 refine gdi hp fun Ed hp => ?_
 refine ifnb hp (fun Fd hp => ?_) fun Fd hp => ?_
 ·obtain rfl := Option.some.inj hp
  exact hq _ T.ext'
 refine ⟨_, _, _, _, _, _, _, _, _, _, _, _, zd.bk.ra, ?_⟩
 obtain ⟨Ve, Gd, hp⟩ := bsome hp
 refine s_rBest (s := s) (l := j.1) T.pre (ha111.sub (Sub.trans (Sub.trans g.fs h.fs) i.fs)) o Gd fun We Hd => ?_
 obtain ⟨z, Xe⟩ := T.call Hd a
 refine ⟨_, _, _, rfl, ?_⟩
 refine ifd hp (fun Id hp => ?_) fun Id hp => ?_; rotate_left
 ·obtain rfl := Option.some.inj hp
  exact hq _ z.ext'
 refine ifd hp (fun Jd hp => ?_) fun Jd hp => ?_; rotate_left
 ·obtain rfl := Option.some.inj hp
  exact hq _ z.ext'
 refine ifd hp (fun Ld hp => ?_) fun Ld hp => ?_; rotate_left
 ·obtain rfl := Option.some.inj hp
  exact hq _ z.ext'
 obtain ⟨Ye, Md, hp⟩ := bsome hp
 refine s_awake z.pre  Md fun Ze Nd => ?_
 obtain ⟨Od, af⟩ := z.call Nd a
 refine ⟨_, rfl, ?_⟩
 obtain rfl := Option.some.inj hp
 exact hq _ Od.ext'
end
end Go.Proofs.Ytbnfnhfanooplaa

namespace Go.Proofs.Ytbnfnhfanooplaa
open _root_.Go.Proofs.Try
open Go.Abs Go.Abs.Grow
set_option maxRecDepth 100000
noncomputable section
def Wi (r : Rg) (lo hi : Int) : Prop := lo ≤ r.Lo ∧ r.Lo ≤ r.Hi ∧ r.Hi ≤ hi
def inR (r : Rg) (n : Int) : Prop := r.Lo ≤ n ∧ n ≤ r.Hi
def cnt (r : Rg) : Int := r.Hi - r.Lo + 1
def rcOk (s : Stm) (r : Rct) : Prop := Wi r.X 0 (s.Wide - 1) ∧ Wi r.Y 0 (s.High - 1)
def CV (s : Stm) (c : Crd) : Prop := rcOk s ⟨c.X, c.Y⟩ ∧ Wi c.Size 0 9 ∧ (c.Hail = true ∨ c.Size = ⟨0, 0⟩)
def manyN (s : Stm) : Int := cnt s.A * cnt s.B * cnt s.Half * cnt s.Peak
def ManyS (s : Stm) : Prop := 12 < s.Wide ∨ 12 < s.High ∨ 6 < s.Cards.length
structure VS0 (s : Stm) : Prop where
 wide : 2 ≤ s.Wide
 high : 1 ≤ s.High
 fall : 0 ≤ s.Fall ∧ s.Fall ≤ 4
 a : Wi s.A 0 (s.High - 1)
 b : Wi s.B 0 (s.High - 1)
 half : Wi s.Half 0 3
 peak : Wi s.Peak 1 9
 cards : ∀ c ∈ s.Cards, CV s c
open Classical in
def faultN (s : Stm) : Int := if ManyS s then 3 else if VS0 s then (if manyN s ≤ 2000 then 0 else 3) else 1
structure VS (s : Stm) : Prop extends VS0 s where
 many : ¬ ManyS s
 few : manyN s ≤ 2000
theorem fault_zero {s : Stm} : faultN s = 0 ↔ VS s := by
 unfold faultN
 split
 ·rename_i h; exact ⟨fun h => by omega, fun h' => absurd h h'.many⟩
 ·rename_i h
  split
  ·rename_i h2
   split
   ·rename_i h3; exact ⟨fun _ => ⟨h2, h, h3⟩, fun _ => rfl⟩
   ·rename_i h3; exact ⟨fun h => by omega, fun h' => absurd h'.few h3⟩
  ·rename_i h2; exact ⟨fun h => by omega, fun h' => absurd h'.toVS0 h2⟩
theorem not_many {s : Stm} (h : ¬ ManyS s) : s.Wide ≤ 12 ∧ s.High ≤ 12 ∧ s.Cards.length ≤ 6 := by
 unfold ManyS at h; omega
theorem cnt_rng {r : Rg} {lo hi : Int} (h : Wi r lo hi) : 1 ≤ cnt r ∧ cnt r ≤ hi - lo + 1 := by unfold Wi at h; unfold cnt; omega
theorem Wi.w {r : Rg} {lo hi : Int} (h : Wi r lo hi) (h1 : -1000 ≤ lo) (h2 : hi ≤ 1000) : Wi r (-1000) 1000 := by unfold Wi at h ⊢; omega
theorem mul_rng {a b A B : Int} (ha : 1 ≤ a ∧ a ≤ A) (hb : 1 ≤ b ∧ b ≤ B) : 1 ≤ a * b ∧ a * b ≤ A * B := by
 have h1 : 1 * 1 ≤ a * b := Int.mul_le_mul ha.1 hb.1 (by omega) (by omega)
 have h2 : a * b ≤ A * B := Int.mul_le_mul ha.2 hb.2 (by omega) (by omega)
 omega
theorem mul_rng0 {a b A B : Int} (ha : 0 ≤ a ∧ a ≤ A) (hb : 0 ≤ b ∧ b ≤ B) : 0 ≤ a * b ∧ a * b ≤ A * B :=
 ⟨Int.mul_nonneg ha.1 hb.1, Int.mul_le_mul ha.2 hb.2 hb.1 (by omega)⟩
theorem many_rng {s : Stm} (h : VS0 s) (hm : ¬ ManyS s) : (1 ≤ cnt s.A ∧ cnt s.A ≤ 12) ∧ (1 ≤ cnt s.B ∧ cnt s.B ≤ 12) ∧ (1 ≤ cnt s.Half ∧ cnt s.Half ≤ 4) ∧ (1 ≤ cnt s.Peak ∧ cnt s.Peak ≤ 9) ∧ (1 ≤ cnt s.A * cnt s.B ∧ cnt s.A * cnt s.B ≤ 144) ∧ (1 ≤ cnt s.A * cnt s.B * cnt s.Half ∧ cnt s.A * cnt s.B * cnt s.Half ≤ 576) ∧ 1 ≤ manyN s ∧ manyN s ≤ 5184 := by
 obtain ⟨_, hh, _⟩ := not_many hm
 have h1 := cnt_rng h.a
 have h2 := cnt_rng h.b
 have h3 := cnt_rng h.half
 have h4 := cnt_rng h.peak
 have h5 := mul_rng (A := 12) (B := 12) (a := cnt s.A) (b := cnt s.B) (by omega) (by omega)
 have h6 := mul_rng (A := 144) (B := 4) (a := cnt s.A * cnt s.B) (b := cnt s.Half) (by omega) (by omega)
 have h7 := mul_rng (A := 576) (B := 9) (a := cnt s.A * cnt s.B * cnt s.Half) (b := cnt s.Peak) (by omega) (by omega)
 exact ⟨by omega, by omega, by omega, by omega, by omega, by omega, by unfold manyN; omega⟩
def dN (s : Stm) (t : Trh) (x y : Int) : Int := max ((s.Wide - 1) * y - (t.A * (s.Wide - 1 - x) + t.B * x)) (-((s.Wide - 1) * y - (t.A * (s.Wide - 1 - x) + t.B * x)))
def hitP (s : Stm) (t : Trh) (x y : Int) : Prop := dN s t x y ≤ (s.Wide - 1) * t.Half
instance {s : Stm} {t : Trh} {x y : Int} : Decidable (hitP s t x y) := inferInstanceAs (Decidable (_ ≤ _))
def szN (s : Stm) (t : Trh) (x y : Int) : Int := if hitP s t x y then max 1 (t.Peak - s.Fall * (dN s t x y / (s.Wide - 1))) else 0
def inP (r : Rct) (x y : Int) : Prop := inR r.X x ∧ inR r.Y y
def RT (s : Stm) (t : Trh) (c : Crd) : Prop := ∃ x y, inP ⟨c.X, c.Y⟩ x y ∧ (hitP s t x y ↔ c.Hail = true) ∧ inR c.Size (szN s t x y)
def isT (s : Stm) (t : Trh) : Prop := inR s.A t.A ∧ inR s.B t.B ∧ inR s.Half t.Half ∧ inR s.Peak t.Peak
def gr (s : Stm) (x y : Int) : Prop := (0 ≤ x ∧ x ≤ s.Wide - 1) ∧ (0 ≤ y ∧ y ≤ s.High - 1)
theorem gr_of {s : Stm} {r : Rct} (h : rcOk s r) {x y : Int} (hp : inP r x y) : gr s x y := by
 obtain ⟨h1, h2⟩ := h
 obtain ⟨p1, p2⟩ := hp
 unfold Wi at h1 h2
 unfold inR at p1 p2
 unfold gr; omega
theorem isT.rng {s : Stm} {t : Trh} (ht : isT s t) (h : VS0 s) : (0 ≤ t.A ∧ t.A ≤ s.High - 1) ∧ (0 ≤ t.B ∧ t.B ≤ s.High - 1) ∧ (0 ≤ t.Half ∧ t.Half ≤ 3) ∧ (1 ≤ t.Peak ∧ t.Peak ≤ 9) := by
 have a := h.a; have b := h.b; have c := h.half; have d := h.peak
 obtain ⟨q1, q2, q3, q4⟩ := ht
 unfold Wi at a b c d
 unfold inR at q1 q2 q3 q4
 omega
theorem sml {s : Stm} {t : Trh} (h : VS0 s) (hm : ¬ ManyS s) (ht : isT s t) {x y : Int} (hg : gr s x y) : (0 ≤ (s.Wide - 1) * y ∧ (s.Wide - 1) * y ≤ 121) ∧ (0 ≤ t.A * (s.Wide - 1 - x) ∧ t.A * (s.Wide - 1 - x) ≤ 121) ∧ (0 ≤ t.B * x ∧ t.B * x ≤ 121) ∧ (0 ≤ (s.Wide - 1) * t.Half ∧ (s.Wide - 1) * t.Half ≤ 33) := by
 obtain ⟨h1, h2, _⟩ := not_many hm
 obtain ⟨q1, q2, q3, _⟩ := ht.rng h
 have hw := h.wide
 unfold gr at hg
 exact ⟨mul_rng0 (A := 11) (B := 11) (by omega) (by omega), mul_rng0 (A := 11) (B := 11) (by omega) (by omega), mul_rng0 (A := 11) (B := 11) (by omega) (by omega), mul_rng0 (A := 11) (B := 3) (by omega) (by omega)⟩
theorem dN_rng {s : Stm} {t : Trh} (h : VS0 s) (hm : ¬ ManyS s) (ht : isT s t) {x y : Int} (hg : gr s x y) : 0 ≤ dN s t x y ∧ dN s t x y ≤ 242 := by
 obtain ⟨a, b, c, _⟩ := sml h hm ht hg
 unfold dN; omega
theorem fall_rng {s : Stm} {t : Trh} (h : VS0 s) (hm : ¬ ManyS s) (ht : isT s t) {x y : Int} (hg : gr s x y) : (0 ≤ dN s t x y / (s.Wide - 1) ∧ dN s t x y / (s.Wide - 1) ≤ 242) ∧ (0 ≤ s.Fall * (dN s t x y / (s.Wide - 1)) ∧ s.Fall * (dN s t x y / (s.Wide - 1)) ≤ 968) := by
 obtain ⟨a, b⟩ := dN_rng h hm ht hg
 have hw := h.wide
 have c := Int.ediv_nonneg a (show 0 ≤ s.Wide - 1 by omega)
 have d := Int.ediv_le_self (s.Wide - 1) a
 exact ⟨by omega, mul_rng0 (A := 4) (B := 242) h.fall (by omega)⟩
theorem szN_rng {s : Stm} {t : Trh} (h : VS0 s) (hm : ¬ ManyS s) (ht : isT s t) {x y : Int} (hg : gr s x y) : 0 ≤ szN s t x y ∧ szN s t x y ≤ 9 := by
 obtain ⟨_, a⟩ := fall_rng h hm ht hg
 obtain ⟨_, _, _, b⟩ := ht.rng h
 unfold szN
 split <;> omega
def CanS (s : Stm) (S : Nat → Bool) : Prop := ∃ t, isT s t ∧ ∀ j, S j = true → ∀ c, s.Cards[j]? = some c → RT s t c
def TS (s : Stm) (t : Trh) : Prop := isT s t ∧ ∀ c ∈ s.Cards, RT s t c
def HT (s : Stm) : Prop := ∃ t, TS s t
theorem HT_can {s : Stm} : HT s ↔ CanS s fun _ => true := by
 refine exists_congr fun t => and_congr Iff.rfl ⟨fun h j _ c hc => h c (List.mem_of_getElem? hc), fun h c hc => ?_⟩
 obtain ⟨j, hj⟩ := List.mem_iff_getElem?.1 hc
 exact h j rfl c hj
theorem CanS.congr {s : Stm} {S S' : Nat → Bool} (h : ∀ j, j < s.Cards.length → S j = S' j) : CanS s S ↔ CanS s S' := by
 refine exists_congr fun t => and_congr Iff.rfl ⟨fun f j hj c hc => f j ?_ c hc, fun f j hj c hc => f j ?_ c hc⟩
 ·rw [h j (List.getElem?_eq_some_iff.1 hc).1]; exact hj
 ·rw [← h j (List.getElem?_eq_some_iff.1 hc).1]; exact hj
def nums (r : Rg) : List Int := segI r.Lo (cnt r).toNat
theorem mem_nums {r : Rg} (h : r.Lo ≤ r.Hi) {x : Int} : x ∈ nums r ↔ inR r x := by
 unfold nums inR cnt
 rw [mem_segI]; omega
theorem nums_len {r : Rg} {lo hi : Int} (h : Wi r lo hi) {n : Nat} (hn : hi - lo + 1 ≤ n) : (nums r).length ≤ n := by
 have := cnt_rng h
 unfold nums; rw [segI_len]; omega
def chL (s : Stm) : List Trh := (nums s.A).flatMap fun a => (nums s.B).flatMap fun b => (nums s.Half).flatMap fun c => (nums s.Peak).map fun d => ⟨a, b, c, d⟩
theorem mem_chL {s : Stm} (h : VS0 s) {t : Trh} : t ∈ chL s ↔ isT s t := by
 have h1 := h.a; have h2 := h.b; have h3 := h.half; have h4 := h.peak
 unfold Wi at h1 h2 h3 h4
 unfold chL isT
 rw [List.mem_flatMap]
 constructor
 ·rintro ⟨a, ha, ht⟩
  obtain ⟨b, hb, ht⟩ := List.mem_flatMap.1 ht
  obtain ⟨c, hc, ht⟩ := List.mem_flatMap.1 ht
  obtain ⟨d, hd, rfl⟩ := List.mem_map.1 ht
  exact ⟨(mem_nums (by omega)).1 ha, (mem_nums (by omega)).1 hb, (mem_nums (by omega)).1 hc, (mem_nums (by omega)).1 hd⟩
 ·rintro ⟨a, b, c, d⟩
  exact ⟨t.A, (mem_nums (by omega)).2 a, List.mem_flatMap.2 ⟨t.B, (mem_nums (by omega)).2 b, List.mem_flatMap.2 ⟨t.Half, (mem_nums (by omega)).2 c, List.mem_map.2 ⟨t.Peak, (mem_nums (by omega)).2 d, rfl⟩⟩⟩⟩
theorem flatMap_len {α β : Type} {f : α → List β} {B : Nat} : ∀ {l : List α}, (∀ x ∈ l, (f x).length ≤ B) → (l.flatMap f).length ≤ l.length * B
 | [], _ => by simp
 | a :: l, h => by
  rw [List.flatMap_cons, List.length_append, List.length_cons, Nat.add_mul, Nat.one_mul, Nat.add_comm]
  exact Nat.add_le_add (flatMap_len fun x hx => h x (List.mem_cons_of_mem _ hx)) (h a (List.mem_cons_self ..))
theorem chL_len {s : Stm} (h : VS0 s) (hm : ¬ ManyS s) : (chL s).length ≤ 5184 := by
 obtain ⟨_, hh, _⟩ := not_many hm
 have h1 := nums_len h.a (n := 12) (by omega)
 have h2 := nums_len h.b (n := 12) (by omega)
 have h3 := nums_len h.half (n := 4) (by omega)
 have h4 := nums_len h.peak (n := 9) (by omega)
 have q1 : ∀ a b : Int, ((nums s.Half).flatMap fun c => (nums s.Peak).map fun d => (⟨a, b, c, d⟩ : Trh)).length ≤ 36 := fun a b => by
  have := flatMap_len (l := nums s.Half) (f := fun c => (nums s.Peak).map fun d => (⟨a, b, c, d⟩ : Trh)) (B := 9) fun d _ => by rw [List.length_map]; exact h4
  omega
 have q2 : ∀ a : Int, ((nums s.B).flatMap fun b => (nums s.Half).flatMap fun c => (nums s.Peak).map fun d => (⟨a, b, c, d⟩ : Trh)).length ≤ 432 := fun a => by
  have := flatMap_len (l := nums s.B) (f := fun b => (nums s.Half).flatMap fun c => (nums s.Peak).map fun d => (⟨a, b, c, d⟩ : Trh)) (B := 36) fun b _ => q1 a b
  omega
 have q3 := flatMap_len (l := nums s.A) (f := fun a => (nums s.B).flatMap fun b => (nums s.Half).flatMap fun c => (nums s.Peak).map fun d => (⟨a, b, c, d⟩ : Trh)) (B := 432) fun a _ => q2 a
 unfold chL; omega
open Classical in
def TL (s : Stm) : List Trh := (chL s).filter fun t => decide (∀ c ∈ s.Cards, RT s t c)
open Classical in
theorem mem_TL {s : Stm} (h : VS0 s) {t : Trh} : t ∈ TL s ↔ TS s t := by
 unfold TL TS
 rw [List.mem_filter, mem_chL h, decide_eq_true_eq]
theorem TL_len {s : Stm} (h : VS0 s) (hm : ¬ ManyS s) : (TL s).length ≤ 5184 := Nat.le_trans (List.length_filter_le _ _) (chL_len h hm)
def nthT (s : Stm) (n : Int) : Trh := ⟨s.A.Lo + n % cnt s.A, s.B.Lo + n / cnt s.A % cnt s.B, s.Half.Lo + n / cnt s.A / cnt s.B % cnt s.Half, s.Peak.Lo + n / cnt s.A / cnt s.B / cnt s.Half⟩
theorem divlt {n a b : Int} (ha : 0 < a) (h : n < a * b) : n / a < b := by
 rw [Int.mul_comm] at h
 exact (Int.ediv_lt_iff_lt_mul ha).2 h
theorem nth_rng {s : Stm} (h : VS0 s) (hm : ¬ ManyS s) {n : Int} (h0 : 0 ≤ n) (hn : n < manyN s) :
  (0 ≤ n % cnt s.A ∧ n % cnt s.A < cnt s.A) ∧ (0 ≤ n / cnt s.A) ∧ (0 ≤ n / cnt s.A % cnt s.B ∧ n / cnt s.A % cnt s.B < cnt s.B) ∧ (0 ≤ n / cnt s.A / cnt s.B) ∧ (0 ≤ n / cnt s.A / cnt s.B % cnt s.Half ∧ n / cnt s.A / cnt s.B % cnt s.Half < cnt s.Half) ∧ (0 ≤ n / cnt s.A / cnt s.B / cnt s.Half ∧ n / cnt s.A / cnt s.B / cnt s.Half < cnt s.Peak) := by
 obtain ⟨h1, h2, h3, h4, _⟩ := many_rng h hm
 unfold manyN at hn
 have e1 : n / cnt s.A < cnt s.B * cnt s.Half * cnt s.Peak := divlt (by omega) (by rw [← Int.mul_assoc, ← Int.mul_assoc]; exact hn)
 have e2 : n / cnt s.A / cnt s.B < cnt s.Half * cnt s.Peak := divlt (by omega) (by rw [← Int.mul_assoc]; exact e1)
 have e3 := divlt (by omega) e2
 have p1 := Int.ediv_nonneg h0 (show 0 ≤ cnt s.A by omega)
 have p2 := Int.ediv_nonneg p1 (show 0 ≤ cnt s.B by omega)
 have p3 := Int.ediv_nonneg p2 (show 0 ≤ cnt s.Half by omega)
 exact ⟨⟨Int.emod_nonneg _ (by omega), Int.emod_lt_of_pos _ (by omega)⟩, p1, ⟨Int.emod_nonneg _ (by omega), Int.emod_lt_of_pos _ (by omega)⟩, p2, ⟨Int.emod_nonneg _ (by omega), Int.emod_lt_of_pos _ (by omega)⟩, p3, e3⟩
theorem nth_isT {s : Stm} (h : VS0 s) (hm : ¬ ManyS s) {n : Int} (h0 : 0 ≤ n) (hn : n < manyN s) : isT s (nthT s n) := by
 obtain ⟨e1, _, e3, _, e5, e6⟩ := nth_rng h hm h0 hn
 unfold isT inR nthT
 dsimp only
 generalize n / cnt s.A / cnt s.B / cnt s.Half = x4 at *
 generalize n / cnt s.A / cnt s.B % cnt s.Half = x3 at *
 generalize n / cnt s.A % cnt s.B = x2 at *
 generalize n % cnt s.A = x1 at *
 unfold cnt at e1 e3 e5 e6
 omega
theorem mix {x A r : Int} (h : 0 ≤ x ∧ x < A) : (x + r * A) % A = x ∧ (x + r * A) / A = r := by
 refine ⟨by rw [Int.add_mul_emod_self_right]; exact Int.emod_eq_of_lt h.1 h.2, by rw [Int.add_mul_ediv_right _ _ (by omega), Int.ediv_eq_zero_of_lt h.1 h.2, Int.zero_add]⟩
theorem mix_lt {x A r R : Int} (h : 0 ≤ x ∧ x < A) (hr : 0 ≤ r ∧ r < R) : 0 ≤ x + r * A ∧ x + r * A < R * A := by
 have m1 : 0 ≤ r * A := Int.mul_nonneg hr.1 (by omega)
 have m2 : r * A ≤ (R - 1) * A := Int.mul_le_mul_of_nonneg_right (by omega) (by omega)
 have m3 : (R - 1) * A = R * A - A := by rw [Int.sub_mul, Int.one_mul]
 omega
theorem isT_nth {s : Stm} (_h : VS0 s) (_hm : ¬ ManyS s) {t : Trh} (ht : isT s t) : ∃ n, 0 ≤ n ∧ n < manyN s ∧ nthT s n = t := by
 obtain ⟨a, b, c, d⟩ := ht
 unfold inR at a b c d
 have w1 : 0 ≤ t.A - s.A.Lo ∧ t.A - s.A.Lo < cnt s.A := by unfold cnt; omega
 have w2 : 0 ≤ t.B - s.B.Lo ∧ t.B - s.B.Lo < cnt s.B := by unfold cnt; omega
 have w3 : 0 ≤ t.Half - s.Half.Lo ∧ t.Half - s.Half.Lo < cnt s.Half := by unfold cnt; omega
 have w4 : 0 ≤ t.Peak - s.Peak.Lo ∧ t.Peak - s.Peak.Lo < cnt s.Peak := by unfold cnt; omega
 have k3 := mix_lt w3 w4
 have k2 := mix_lt w2 k3
 have k1 := mix_lt w1 k2
 refine ⟨_, k1.1, ?_, ?_⟩
 ·refine Int.lt_of_lt_of_le k1.2 (Int.le_of_eq ?_)
  unfold manyN
  rw [Int.mul_comm (cnt s.A * cnt s.B * cnt s.Half), Int.mul_comm (cnt s.A * cnt s.B), Int.mul_comm (cnt s.A), ← Int.mul_assoc, ← Int.mul_assoc]
 ·unfold nthT
  rw [(mix w1).1, (mix w1).2, (mix w2).1, (mix w2).2, (mix w3).1, (mix w3).2]
  cases t
  dsimp only
  congr 1 <;> omega
end
end Go.Proofs.Ytbnfnhfanooplaa

namespace Go.Proofs.Ytbnfnhfanooplaa
open _root_.Go.Proofs.Try
open Go.Abs Go.Abs.Grow
set_option maxRecDepth 100000
noncomputable section
theorem In_ev {n lo hi : Int} : Ev (prIn n lo hi) (lo ≤ n ∧ n ≤ hi) := Ev.ite fun _ => Ev.dec Iff.rfl
theorem has_ev {r : Rg} {n : Int} : Ev (phas r n) (inR r n) := Ev.ite fun _ => Ev.dec Iff.rfl
theorem rWithin_ev {r : Rg} {lo hi : Int} : Ev (prWithin r lo hi) (Wi r lo hi) := Ev.ite fun _ => Ev.ite fun _ => Ev.dec Iff.rfl
theorem within_ev {r : Rg} {lo hi : Int} : Ev (pwithin r lo hi) (Wi r lo hi) := Ev.ite fun _ => Ev.ite fun _ => Ev.dec Iff.rfl
def Fit1 (s : Stm) : Prop := (-1000 ≤ s.Wide ∧ s.Wide ≤ 1000) ∧ (-1000 ≤ s.High ∧ s.High ≤ 1000)
theorem VS0.fit {s : Stm} (h : VS0 s) (hm : ¬ ManyS s) : Fit1 s := by
 obtain ⟨a, b, _⟩ := not_many hm
 have := h.wide; have := h.high
 unfold Fit1; omega
theorem hasRect_ev {s : Stm} (h : Fit1 s) {r : Rct} : Ev (phasRect s r) (rcOk s r) := by
 unfold Fit1 at h
 exact Ev.gd (fI (by omega)) (Ev.and within_ev fun _ => Ev.gd (fI (by omega)) within_ev.ret)
theorem rIsRect_ev {s : Stm} (h : Fit1 s) {r : Rct} : Ev (prIsRect s r) (rcOk s r) := by
 unfold Fit1 at h
 exact Ev.gd (fI (by omega)) (Ev.and rWithin_ev fun _ => Ev.gd (fI (by omega)) rWithin_ev.ret)
theorem hail_ev {c : Crd} (h : Wi c.Size 0 9) : Ev (if c.Hail = true then (some true) else (gd (fitsP .i64 c.Size.Lo) (gd (fitsP .i64 (0 : Int)) (gd (fitsP .i64 c.Size.Hi) (gd (fitsP .i64 (0 : Int)) (some ((decide (c.Size.Lo = (0 : Int))) && (decide (c.Size.Hi = (0 : Int)))))))))) (c.Hail = true ∨ c.Size = ⟨0, 0⟩) := by
 unfold Wi at h
 by_cases hh : c.Hail = true
 ·rw [if_pos hh]; exact Ev.tt (.inl hh)
 ·rw [if_neg hh, gd_pos (fI (by omega)), gd_pos (fI (by omega)), gd_pos (fI (by omega)), gd_pos (fI (by omega))]
  refine Ev.mk' ?_
  obtain ⟨X, Y, hl, ⟨lo, hi⟩⟩ := c
  simp only [Bool.and_eq_true, decide_eq_true_eq, Rg.mk.injEq] at hh ⊢
  exact ⟨.inr, fun q => q.elim (fun q => absurd q hh) id⟩
theorem validCard_ev {w : Wk} (h : Fit1 w.s) {c : Crd} : Ev (pvalidCard w c) (CV w.s c) := Ev.bind rfl (Ev.and (hasRect_ev h) fun _ => Ev.and within_ev fun q => hail_ev q)
theorem rIsCard_ev {s : Stm} (h : Fit1 s) {c : Crd} : Ev (prIsCard s c) (CV s c) := Ev.and (rIsRect_ev h) fun _ => Ev.and rWithin_ev fun q => hail_ev q
theorem tooMany_ev {s : Stm} : Ev (ptooMany s) (ManyS s) := by
 unfold ptooMany ManyS
 by_cases h1 : (12 : Int) < s.Wide
 ·rw [if_pos h1]; exact Ev.tt (.inl h1)
 rw [if_neg h1]
 by_cases h2 : (12 : Int) < s.High
 ·rw [if_pos h2]; exact Ev.tt (.inr (.inl h2))
 rw [if_neg h2]; exact Ev.dec (by omega)
theorem gC {l : List Crd} {p : Crd → Option Bool} : ∀ {d : Nat} {x : Int}, pindexC_L0 l p d x = gIdx l p d x
 | 0, _ => rfl
 | d + 1, x => by unfold pindexC_L0 gIdx; simp only [gC (d := d)]
theorem gR {l : List Rct} {p : Rct → Option Bool} : ∀ {d : Nat} {x : Int}, pindexR_L0 l p d x = gIdx l p d x
 | 0, _ => rfl
 | d + 1, x => by unfold pindexR_L0 gIdx; simp only [gR (d := d)]
theorem eachC_ev {l : List Crd} {p : Crd → Option Bool} {q : Crd → Prop} (hp : ∀ a ∈ l, Ev (p a) (q a)) (hl : shrt l) : Ev (peachC l p) (∀ a ∈ l, q a) := Ev.each hp hl.lt gC
theorem eachR_ev {l : List Rct} {p : Rct → Option Bool} {q : Rct → Prop} (hp : ∀ a ∈ l, Ev (p a) (q a)) (hl : shrt l) : Ev (peachR l p) (∀ a ∈ l, q a) := Ev.each hp hl.lt gR
theorem count_eq {r : Rg} (h : Wi r (-1000) 1000) : pcount r = some (cnt r) := by
 unfold Wi at h
 unfold pcount
 rw [gd_pos (fI (by omega)), gd_pos (fI (by omega))]; rfl
theorem rCount_eq {r : Rg} (h : Wi r (-1000) 1000) : prCount r = some (cnt r) := by
 unfold Wi at h
 unfold prCount
 rw [gd_pos (fI (by omega)), gd_pos (fI (by omega))]; rfl
theorem VS0.ws {s : Stm} (h : VS0 s) (hm : ¬ ManyS s) : Wi s.A (-1000) 1000 ∧ Wi s.B (-1000) 1000 ∧ Wi s.Half (-1000) 1000 ∧ Wi s.Peak (-1000) 1000 := by
 obtain ⟨_, hh, _⟩ := not_many hm
 exact ⟨h.a.w (by omega) (by omega), h.b.w (by omega) (by omega), h.half.w (by omega) (by omega), h.peak.w (by omega) (by omega)⟩
theorem rMany_eq {s : Stm} (h : VS0 s) (hm : ¬ ManyS s) : prMany s = some (manyN s) := by
 obtain ⟨h1, h2, h3, h4, h5, h6, h7⟩ := many_rng h hm
 obtain ⟨a, b, c, d⟩ := h.ws hm
 unfold prMany
 unfold manyN at h7 ⊢
 rw [rCount_eq a, obs, rCount_eq b, obs, gd_pos (by omega), gd_pos (by omega), gd_pos (fI (by omega)), rCount_eq c, obs, gd_pos (by omega), gd_pos (by omega), gd_pos (fI (by omega)), rCount_eq d, obs, gd_pos (by omega), gd_pos (by omega), gd_pos (fI (by omega))]
theorem inAll_eq {s : Stm} (h : VS0 s) (hm : ¬ ManyS s) : pinAll s = some (manyN s) := by
 obtain ⟨h1, h2, h3, h4, h5, h6, h7⟩ := many_rng h hm
 obtain ⟨a, b, c, d⟩ := h.ws hm
 unfold pinAll
 unfold manyN at h7 ⊢
 rw [count_eq a, obs, count_eq b, obs, gd_pos (by omega), gd_pos (by omega), gd_pos (fI (by omega)), count_eq c, obs, gd_pos (by omega), gd_pos (by omega), gd_pos (fI (by omega)), count_eq d, obs, gd_pos (by omega), gd_pos (by omega), gd_pos (fI (by omega))]
theorem valid_ev {s : Stm} {R : Option (Trh → Option Cds)} (h : ¬ ManyS s) : Ev (pvalid ⟨s, R⟩) (VS0 s) := by
 obtain ⟨h1, h2, h3⟩ := not_many h
 unfold pvalid
 refine (Ev.ite fun q1 => Ev.ite fun q2 => Ev.ite fun q3 => Ev.ite fun q4 => Ev.gd (fI (by dsimp only at q2 ⊢; omega)) (Ev.and within_ev fun q5 => Ev.gd (fI (by dsimp only at q2 ⊢; omega)) (Ev.and within_ev fun q6 => Ev.and within_ev fun q7 => Ev.and within_ev fun q8 => (eachC_ev (q := CV s) (fun c _ => validCard_ev (w := ⟨s, R⟩) (by unfold Fit1; dsimp only; dsimp only at q1 q2; omega)) (fewS h3 (by omega))).ret))).imp ?_
 exact ⟨fun ⟨a, b, c, d, e, g, i, j, k⟩ => ⟨a, b, ⟨c, d⟩, e, g, i, j, k⟩, fun q => ⟨q.wide, q.high, q.fall.1, q.fall.2, q.a, q.b, q.half, q.peak, q.cards⟩⟩
theorem check_eq {s : Stm} : pcheck s = some (faultN s) := by
 unfold pcheck faultN
 refine tooMany_ev.pick (fun h => ?_) fun h => ?_
 ·rw [if_pos rfl, if_pos h]
 ·rw [if_neg (by simp), if_neg h]
  refine (valid_ev h).pick (fun hv => ?_) fun hv => ?_
  ·rw [if_pos rfl, if_pos hv, inAll_eq hv h, obs]
   by_cases hf : manyN s ≤ 2000
   ·rw [if_neg (by omega), if_pos hf]
   ·rw [if_pos (by omega), if_neg hf]
  ·rw [if_neg (by simp), if_neg hv]
theorem fault_L0 {s : Stm} (h : ¬ ManyS s) (hf : Fit1 s) : ((∀ c ∈ s.Cards, CV s c) → prFault_L0 s 1000000 0 = ((prMany s).bind fun r => if (2000 : Int) < r then some 3 else some 0)) ∧ (¬ (∀ c ∈ s.Cards, CV s c) → prFault_L0 s 1000000 0 = some 1) := by
 obtain ⟨h1, h2, h3⟩ := not_many h
 refine loop_each (l := s.Cards) (F := fun d y => prFault_L0 s d y) (fun d k c hg => ?_) (fun d => by rw [prFault_L0, if_neg (Int.lt_irrefl _)]) (by omega)
 have hk := (List.getElem?_eq_some_iff.1 hg).1
 rw [prFault_L0, if_pos (by omega), idx_at hg, obs]
 exact (rIsCard_ev hf).step (by rw [if_pos rfl, gd_pos (fI (by omega))]) (by rw [if_neg (by simp)])
theorem rFault_eq {s : Stm} : prFault s = some (faultN s) := by
 unfold prFault faultN
 by_cases hm : ManyS s
 ·rw [if_pos hm]
  unfold ManyS at hm
  by_cases h1 : (12 : Int) < s.Wide
  ·rw [if_pos h1]
  rw [if_neg h1]
  by_cases h2 : (12 : Int) < s.High
  ·rw [if_pos h2]
  rw [if_neg h2, if_pos (by omega)]
 obtain ⟨h1, h2, h3⟩ := not_many hm
 rw [if_neg hm, if_neg (by omega), if_neg (by omega), if_neg (by omega)]
 by_cases q1 : s.Wide < 2
 ·rw [if_pos q1, if_neg fun hv => by have := hv.wide; omega]
 rw [if_neg q1]
 by_cases q2 : s.High < 1
 ·rw [if_pos q2, if_neg fun hv => by have := hv.high; omega]
 rw [if_neg q2]
 refine In_ev.pick (fun a1 => ?_) fun a1 => by rw [if_neg (by simp), if_neg fun hv => a1 hv.fall]
 rw [if_pos rfl, gd_pos (fI (by omega))]
 refine rWithin_ev.pick (fun a2 => ?_) fun a2 => by rw [if_neg (by simp), if_neg fun hv => a2 hv.a]
 rw [if_pos rfl, gd_pos (fI (by omega))]
 refine rWithin_ev.pick (fun a3 => ?_) fun a3 => by rw [if_neg (by simp), if_neg fun hv => a3 hv.b]
 rw [if_pos rfl]
 refine rWithin_ev.pick (fun a4 => ?_) fun a4 => by rw [if_neg (by simp), if_neg fun hv => a4 hv.half]
 rw [if_pos rfl]
 refine rWithin_ev.pick (fun a5 => ?_) fun a5 => by rw [if_neg (by simp), if_neg fun hv => a5 hv.peak]
 rw [if_pos rfl]
 obtain ⟨k1, k2⟩ := fault_L0 hm (s := s) (by unfold Fit1; omega)
 by_cases r1 : ∀ c ∈ s.Cards, CV s c
 ·have hv : VS0 s := ⟨by omega, by omega, a1, a2, a3, a4, a5, r1⟩
  rw [k1 r1, if_pos hv, rMany_eq hv hm, obs]
  by_cases hf : manyN s ≤ 2000
  ·rw [if_neg (by omega), if_pos hf]
  ·rw [if_pos (by omega), if_neg hf]
 ·rw [k2 r1, if_neg fun hv => r1 hv.cards]
theorem distance_eq {s : Stm} {t : Trh} (h : VS0 s) (hm : ¬ ManyS s) (ht : isT s t) {x y : Int} (hg : gr s x y) : pdistance s t x y = some (dN s t x y) := by
 obtain ⟨a, b, c, d⟩ := sml h hm ht hg
 obtain ⟨r1, r2, r3, r4⟩ := ht.rng h
 obtain ⟨w, hh, _⟩ := not_many hm
 have hw := h.wide
 unfold gr at hg
 unfold pdistance dN
 rw [Int.zero_sub, gd_pos (fI (by omega)), gd_pos (by omega), gd_pos (by omega), gd_pos (fI (by omega)), gd_pos (fI (by omega)), gd_pos (by omega), gd_pos (by omega), gd_pos (fI (by omega)), gd_pos (by omega), gd_pos (by omega), gd_pos (fI (by omega)), gd_pos (fI (by omega)), gd_pos (fI (by omega)), gd_pos (fI (by omega))]
theorem rDistance_eq {s : Stm} {t : Trh} (h : VS0 s) (hm : ¬ ManyS s) (ht : isT s t) {x y : Int} (hg : gr s x y) : prDistance s t x y = some (dN s t x y) := by
 obtain ⟨a, b, c, d⟩ := sml h hm ht hg
 obtain ⟨r1, r2, r3, r4⟩ := ht.rng h
 obtain ⟨w, hh, _⟩ := not_many hm
 have hw := h.wide
 unfold gr at hg
 unfold prDistance dN
 rw [gd_pos (fI (by omega)), gd_pos (by omega), gd_pos (by omega), gd_pos (fI (by omega)), gd_pos (fI (by omega)), gd_pos (by omega), gd_pos (by omega), gd_pos (fI (by omega)), gd_pos (fI (by omega)), gd_pos (by omega), gd_pos (by omega), gd_pos (fI (by omega)), gd_pos (fI (by omega))]
 generalize (s.Wide - 1) * y = p1 at *
 generalize t.A * (s.Wide - 1 - x) = p2 at *
 generalize t.B * x = p3 at *
 by_cases hn : p1 - p2 - p3 < 0
 ·rw [if_pos hn, gd_pos (fI (by omega))]; congr 1; omega
 ·rw [if_neg hn]; congr 1; omega
theorem hits_ev {s : Stm} {t : Trh} (h : VS0 s) (hm : ¬ ManyS s) (ht : isT s t) {x y : Int} (hg : gr s x y) : phits s t x y = some (decide (hitP s t x y)) := by
 obtain ⟨a, b, c, d⟩ := sml h hm ht hg
 obtain ⟨r1, r2, r3, r4⟩ := ht.rng h
 obtain ⟨w, hh, _⟩ := not_many hm
 have hw := h.wide
 unfold phits
 rw [distance_eq h hm ht hg, obs, gd_pos (fI (by omega)), gd_pos (by omega), gd_pos (by omega), gd_pos (fI (by omega))]; rfl
theorem rHit_ev {s : Stm} {t : Trh} (h : VS0 s) (hm : ¬ ManyS s) (ht : isT s t) {x y : Int} (hg : gr s x y) : prHit s t x y = some (decide (hitP s t x y)) := by
 obtain ⟨a, b, c, d⟩ := sml h hm ht hg
 obtain ⟨r1, r2, r3, r4⟩ := ht.rng h
 obtain ⟨w, hh, _⟩ := not_many hm
 have hw := h.wide
 unfold prHit
 rw [rDistance_eq h hm ht hg, obs, gd_pos (fI (by omega)), gd_pos (by omega), gd_pos (by omega), gd_pos (fI (by omega))]; rfl
theorem size_eq {s : Stm} {t : Trh} (h : VS0 s) (hm : ¬ ManyS s) (ht : isT s t) {x y : Int} (hg : gr s x y) : psize s t x y = some (szN s t x y) := by
 obtain ⟨a, b⟩ := fall_rng h hm ht hg
 obtain ⟨d1, d2⟩ := dN_rng h hm ht hg
 obtain ⟨r1, r2, r3, r4⟩ := ht.rng h
 obtain ⟨w, hh, _⟩ := not_many hm
 have hw := h.wide
 have hf := h.fall
 unfold psize szN
 rw [hits_ev h hm ht hg, obs]
 by_cases hp : hitP s t x y
 ·rw [if_pos (decide_eq_true hp), if_pos hp, distance_eq h hm ht hg, obs, gd_pos (fI (by omega)), gd_pos (by omega), gd_pos (by omega), gd_pos (fI (by omega)), gd_pos (by omega), gd_pos (by omega), gd_pos (fI (by omega)), gd_pos (fI (by omega))]
 ·rw [if_neg (by rw [decide_eq_false hp]; simp), if_neg hp]
theorem rSize_eq {s : Stm} {t : Trh} (h : VS0 s) (hm : ¬ ManyS s) (ht : isT s t) {x y : Int} (hg : gr s x y) : prSize s t x y = some (szN s t x y) := by
 obtain ⟨a, b⟩ := fall_rng h hm ht hg
 obtain ⟨d1, d2⟩ := dN_rng h hm ht hg
 obtain ⟨r1, r2, r3, r4⟩ := ht.rng h
 obtain ⟨w, hh, _⟩ := not_many hm
 have hw := h.wide
 have hf := h.fall
 unfold prSize szN
 rw [rHit_ev h hm ht hg, obs]
 by_cases hp : hitP s t x y
 ·rw [if_pos (decide_eq_true hp), if_pos hp, rDistance_eq h hm ht hg, obs, gd_pos (fI (by omega)), gd_pos (by omega), gd_pos (by omega), gd_pos (fI (by omega)), gd_pos (by omega), gd_pos (by omega), gd_pos (fI (by omega)), gd_pos (fI (by omega))]
 ·rw [if_neg (by rw [decide_eq_false hp]; simp), if_neg hp]
theorem numbers_go {r : Rg} {n : Int} (h : Wi r (-1000) 1000) (hn : n = cnt r) : ∀ (d k m : Nat), (k : Int) + m = n → m < d → pnumbersI_L0 r n d (k : Int) = some (segI (r.Lo + k) m)
 | 0, _, _, _, h => by omega
 | d + 1, k, 0, hk, _ => by
  unfold pnumbersI_L0
  rw [if_neg (by omega)]; rfl
 | d + 1, k, m + 1, hk, hd => by
  have hc := h
  unfold Wi at hc
  unfold cnt at hn
  unfold pnumbersI_L0
  rw [if_pos (by omega), gd_pos (fI (by omega)), gd_pos (fI (by omega)), show (k : Int) + 1 = ((k + 1 : Nat) : Int) by omega, numbers_go h (by unfold cnt; exact hn) d (k + 1) m (by omega) (by omega), obs, show r.Lo + ((k + 1 : Nat) : Int) = r.Lo + k + 1 by omega]
  rfl
theorem numbers_eq {r : Rg} (h : Wi r (-1000) 1000) : pnumbers r = some (nums r) := by
 have hc := h
 unfold Wi at hc
 have hcn : 0 < cnt r := by unfold cnt; omega
 unfold pnumbers pnumbersI
 rw [count_eq h, obs]
 have := numbers_go h rfl ((cnt r).toNat + 1) 0 (cnt r).toNat (by omega) (by omega)
 rw [show ((0 : Nat) : Int) = 0 by rfl] at this
 rw [this, obs]
 unfold nums
 rw [Int.add_zero]
def plcs (r : Rct) : List (Int × Int) := (nums r.X).flatMap fun x => (nums r.Y).map fun y => (x, y)
theorem pl_L1 {x : Int} {r : List (Int × Int)} : ∀ ys : List Int, pplacesI_L1 x (some r) ys = some (ys.map (fun y => (x, y)) ++ r)
 | [] => rfl
 | y :: ys => by unfold pplacesI_L1; rw [pl_L1 ys, obs]; rfl
theorem pl_L0 {r : Rct} (hy : Wi r.Y (-1000) 1000) : ∀ xs : List Int, pplacesI_L0 r xs = some (xs.flatMap fun x => (nums r.Y).map fun y => (x, y))
 | [] => rfl
 | x :: xs => by unfold pplacesI_L0; rw [numbers_eq hy, obs, pl_L0 hy xs, pl_L1]; rfl
theorem places_eq {s : Stm} (hf : Fit1 s) {r : Rct} (h : rcOk s r) : pplaces r = some (plcs r) := by
 unfold Fit1 at hf
 unfold pplaces pplacesI
 rw [numbers_eq (h.1.w (by omega) (by omega)), obs, pl_L0 (h.2.w (by omega) (by omega)), obs]; rfl
theorem mem_plcs {s : Stm} {r : Rct} (h : rcOk s r) {x y : Int} : (x, y) ∈ plcs r ↔ inP r x y := by
 obtain ⟨h1, h2⟩ := h
 unfold Wi at h1 h2
 unfold plcs inP
 rw [List.mem_flatMap]
 constructor
 ·rintro ⟨a, ha, hb⟩
  obtain ⟨b, hb, he⟩ := List.mem_map.1 hb
  cases he
  exact ⟨(mem_nums (by omega)).1 ha, (mem_nums (by omega)).1 hb⟩
 ·rintro ⟨a, b⟩
  exact ⟨x, (mem_nums (by omega)).2 a, List.mem_map.2 ⟨y, (mem_nums (by omega)).2 b, rfl⟩⟩
theorem isR_L0 {s : Stm} {t : Trh} (h : VS0 s) (hm : ¬ ManyS s) (ht : isT s t) {c : Crd} {b : Bool} : ∀ l : List (Int × Int), (∀ p ∈ l, gr s p.1 p.2) → Ev (pisRight_L0 s c t l b) (∃ p ∈ l, (hitP s t p.1 p.2 ↔ c.Hail = true) ∧ inR c.Size (szN s t p.1 p.2))
 | [], _ => by unfold pisRight_L0; exact Ev.ff fun ⟨p, hp, _⟩ => by cases hp
 | p :: l, hl => by
  have hg := hl p (List.mem_cons_self ..)
  have ih := isR_L0 h hm ht (c := c) (b := b) l fun q hq => hl q (List.mem_cons_of_mem _ hq)
  have hno : ¬ ((hitP s t p.1 p.2 ↔ c.Hail = true) ∧ inR c.Size (szN s t p.1 p.2)) → Ev (pisRight_L0 s c t l b) (∃ q ∈ p :: l, (hitP s t q.1 q.2 ↔ c.Hail = true) ∧ inR c.Size (szN s t q.1 q.2)) := fun hn => ih.imp ⟨fun ⟨q, hq, h9⟩ => ⟨q, List.mem_cons_of_mem _ hq, h9⟩, fun ⟨q, hq, h9⟩ => by
   rcases List.mem_cons.1 hq with rfl | hq
   ·exact absurd h9 hn
   ·exact ⟨q, hq, h9⟩⟩
  unfold pisRight_L0
  rw [hits_ev h hm ht hg, obs]
  have heq : ((decide (hitP s t p.1 p.2)) == c.Hail) = true ↔ (hitP s t p.1 p.2 ↔ c.Hail = true) := by
   rw [beq_iff_eq]
   cases hc : c.Hail <;> simp
  by_cases hh : hitP s t p.1 p.2 ↔ c.Hail = true
  ·rw [if_pos (heq.2 hh), size_eq h hm ht hg, obs]
   obtain ⟨b', q1, q2⟩ := has_ev (r := c.Size) (n := szN s t p.1 p.2)
   rw [q1, obs]
   cases b' with
   | true => rw [if_pos rfl]; exact Ev.tt ⟨p, List.mem_cons_self .., hh, q2.1 rfl⟩
   | false => rw [if_neg (by simp)]; exact hno fun h9 => by have := q2.2 h9.2; cases this
  ·rw [if_neg fun q => hh (heq.1 q)]; exact hno fun h9 => hh h9.1
theorem isRight_ev {s : Stm} {t : Trh} (h : VS0 s) (hm : ¬ ManyS s) (ht : isT s t) {c : Crd} (hc : CV s c) : Ev (pisRight s c t) (RT s t c) := by
 unfold pisRight prect
 rw [obs, places_eq (h.fit hm) hc.1, obs]
 refine (isR_L0 h hm ht _ fun p hp => gr_of hc.1 ((mem_plcs hc.1).1 hp)).imp ?_
 exact ⟨fun ⟨p, hp, h9⟩ => ⟨p.1, p.2, (mem_plcs hc.1).1 hp, h9⟩, fun ⟨x, y, hp, h9⟩ => ⟨(x, y), (mem_plcs hc.1).2 hp, h9⟩⟩
theorem ch_L3 {a b c : Int} {r : List Trh} : ∀ ds : List Int, pchoicesI_L3 a b c (some r) ds = some (ds.map (fun d => ⟨a, b, c, d⟩) ++ r)
 | [] => rfl
 | d :: ds => by unfold pchoicesI_L3; rw [ch_L3 ds, obs]; rfl
theorem ch_L2 {s : Stm} (h4 : Wi s.Peak (-1000) 1000) {a b : Int} {r : List Trh} : ∀ cs : List Int, pchoicesI_L2 s a b (some r) cs = some ((cs.flatMap fun c => (nums s.Peak).map fun d => ⟨a, b, c, d⟩) ++ r)
 | [] => rfl
 | c :: cs => by unfold pchoicesI_L2; rw [numbers_eq h4, obs, ch_L2 h4 cs, ch_L3, List.flatMap_cons, List.append_assoc]
theorem ch_L1 {s : Stm} (h3 : Wi s.Half (-1000) 1000) (h4 : Wi s.Peak (-1000) 1000) {a : Int} {r : List Trh} : ∀ bs : List Int, pchoicesI_L1 s a (some r) bs = some ((bs.flatMap fun b => (nums s.Half).flatMap fun c => (nums s.Peak).map fun d => ⟨a, b, c, d⟩) ++ r)
 | [] => rfl
 | b :: bs => by unfold pchoicesI_L1; rw [numbers_eq h3, obs, ch_L1 h3 h4 bs, ch_L2 h4, List.flatMap_cons, List.append_assoc]
theorem ch_L0 {s : Stm} (h2 : Wi s.B (-1000) 1000) (h3 : Wi s.Half (-1000) 1000) (h4 : Wi s.Peak (-1000) 1000) : ∀ ws : List Int, pchoicesI_L0 s ws = some (ws.flatMap fun a => (nums s.B).flatMap fun b => (nums s.Half).flatMap fun c => (nums s.Peak).map fun d => ⟨a, b, c, d⟩)
 | [] => rfl
 | a :: ws => by unfold pchoicesI_L0; rw [numbers_eq h2, obs, ch_L0 h2 h3 h4 ws, ch_L1 h3 h4, List.flatMap_cons]
theorem choices_eq {s : Stm} (h : VS0 s) (hm : ¬ ManyS s) : pchoices s = some (chL s) := by
 obtain ⟨a, b, c, d⟩ := h.ws hm
 unfold pchoices pchoicesI
 rw [numbers_eq a, obs, ch_L0 b c d, obs]; rfl
end
end Go.Proofs.Ytbnfnhfanooplaa

namespace Go.Proofs.Ytbnfnhfanooplaa
open _root_.Go.Proofs.Try
open Go.Abs Go.Abs.Grow
set_option maxRecDepth 100000
noncomputable section
def mkC (S : Nat → Bool) : Cds := ⟨S 0, S 1, S 2, S 3, S 4, S 5⟩
def upd (S : Nat → Bool) (x : Int) (v : Bool) : Nat → Bool := fun j => sti x j v (S j)
theorem mkC_congr {S S' : Nat → Bool} (h : ∀ j, j < 6 → S j = S' j) : mkC S = mkC S' := by
 unfold mkC
 rw [h 0 (by omega), h 1 (by omega), h 2 (by omega), h 3 (by omega), h 4 (by omega), h 5 (by omega)]
theorem upd_nat {S : Nat → Bool} {k : Nat} {v : Bool} (j : Nat) : upd S (k : Int) v j = if k = j then v else S j := by
 unfold upd sti
 by_cases h : k = j
 ·rw [if_pos (by omega), if_pos h]
 ·rw [if_neg (by omega), if_neg h]
def eqC (a b : Cds) : Bool := (a.c0 == b.c0) && ((a.c1 == b.c1) && ((a.c2 == b.c2) && ((a.c3 == b.c3) && ((a.c4 == b.c4) && (a.c5 == b.c5)))))
theorem eqC_mk {S S' : Nat → Bool} : eqC (mkC S) (mkC S') = true ↔ ∀ j, j < 6 → S j = S' j := by
 unfold eqC mkC
 simp only [Bool.and_eq_true, beq_iff_eq]
 constructor
 ·rintro ⟨a, b, c, d, e, f⟩ j hj
  match j, hj with
  | 0, _ => exact a
  | 1, _ => exact b
  | 2, _ => exact c
  | 3, _ => exact d
  | 4, _ => exact e
  | 5, _ => exact f
 ·intro h
  exact ⟨h 0 (by omega), h 1 (by omega), h 2 (by omega), h 3 (by omega), h 4 (by omega), h 5 (by omega)⟩
theorem idx6 {S : Nat → Bool} {k : Nat} (h : k < 6) : idx ([S 0, S 1, S 2, S 3, S 4, S 5] : List Bool) (k : Int) = some (S k) := by
 rw [idx_nat]
 match k, h with
 | 0, _ => rfl
 | 1, _ => rfl
 | 2, _ => rfl
 | 3, _ => rfl
 | 4, _ => rfl
 | 5, _ => rfl
theorem upTo_go {n : Nat} (hn : n ≤ 6) {last : Int} (hl : last + 1 = n) : ∀ (d k : Nat) (S : Nat → Bool), k ≤ n → n - k < d → pupTo_L0 last d (S 0) (S 1) (S 2) (S 3) (S 4) (S 5) (k : Int) = some (mkC fun j => (decide (k ≤ j) && decide (j < n)) || S j)
 | 0, _, _, _, h => by omega
 | d + 1, k, S, hk, hd => by
  unfold pupTo_L0
  by_cases hkn : k = n
  ·rw [if_neg (by omega)]
   refine congrArg some (mkC_congr (S := S) fun j _ => ?_)
   have : (decide (k ≤ j) && decide (j < n)) = false := by
    by_cases h9 : k ≤ j
    ·rw [decide_eq_false (show ¬ j < n by omega)]; simp
    ·rw [decide_eq_false h9]; rfl
   rw [this]; rfl
  ·rw [if_pos (by omega), gd_pos (by omega), gd_pos (fI (by omega)), show (k : Int) + 1 = ((k + 1 : Nat) : Int) by omega]
   refine (upTo_go hn hl d (k + 1) (upd S (k : Int) true) (by omega) (by omega)).trans (congrArg some (mkC_congr fun j _ => ?_))
   rw [upd_nat]
   by_cases h9 : k = j
   ·subst h9
    rw [if_pos rfl, decide_eq_true (Nat.le_refl k), decide_eq_true (show k < n by omega)]; simp
   ·rw [if_neg h9, show decide (k + 1 ≤ j) = decide (k ≤ j) from decide_eq_decide.2 (by omega)]
theorem upTo_eq {n : Nat} (hn : n ≤ 6) {last : Int} (hl : last + 1 = n) : pupTo last = some (mkC fun j => decide (j < n)) := by
 unfold pupTo
 rw [gd_pos (fI (by omega))]
 have := upTo_go hn hl ((last + 1).toNat + 1) 0 (fun _ => false) (Nat.zero_le _) (by omega)
 refine Eq.trans this (congrArg some (mkC_congr fun j _ => ?_))
 simp
theorem allCards_eq {W : Wk} (h : W.s.Cards.length ≤ 6) : pallCards W = some (mkC fun j => decide (j < W.s.Cards.length)) := by
 unfold pallCards
 rw [gd_pos (fI (by omega)), upTo_eq h (by omega), obs]
theorem among_go {C S0 : Nat → Bool} : ∀ (d k : Nat) (S : Nat → Bool), k ≤ 6 → 6 - k < d → (∀ j, j < 6 → S j = if j < k then (S0 j && C j) else S0 j) → pamong_L0 (mkC C) d (S 0) (S 1) (S 2) (S 3) (S 4) (S 5) (k : Int) = some (mkC fun j => S0 j && C j)
 | 0, _, _, _, h, _ => by omega
 | d + 1, k, S, hk, hd, hS => by
  unfold pamong_L0
  by_cases hkn : k = 6
  ·rw [if_neg (by omega)]
   exact congrArg some (mkC_congr (S := S) fun j hj => by rw [hS j hj, if_pos (by omega)])
  ·rw [if_pos (by omega), idx6 (by omega), obs]
   have hSk := hS k (by omega)
   rw [if_neg (Nat.lt_irrefl k)] at hSk
   have nx : ∀ v, v = (S0 k && C k) → ∀ j, j < 6 → upd S (k : Int) v j = if j < k + 1 then (S0 j && C j) else S0 j := fun v hv j hj => by
    rw [upd_nat]
    by_cases h9 : k = j
    ·subst h9; rw [if_pos rfl, if_pos (by omega)]; exact hv
    ·rw [if_neg h9, hS j hj]
     by_cases h8 : j < k
     ·rw [if_pos h8, if_pos (by omega)]
     ·rw [if_neg h8, if_neg (by omega)]
   by_cases hs : S k = true
   ·rw [if_pos hs]
    have e : idx ([(mkC C).c0, (mkC C).c1, (mkC C).c2, (mkC C).c3, (mkC C).c4, (mkC C).c5] : List Bool) (k : Int) = some (C k) := idx6 (S := C) (by omega)
    rw [e, obs, gd_pos (by omega), gd_pos (fI (by omega)), show (k : Int) + 1 = ((k + 1 : Nat) : Int) by omega]
    exact among_go d (k + 1) (upd S (k : Int) (C k)) (by omega) (by omega) (nx _ (by rw [← hSk, hs]; rfl))
   ·rw [if_neg hs, gd_pos (by omega), gd_pos (fI (by omega)), show (k : Int) + 1 = ((k + 1 : Nat) : Int) by omega]
    exact among_go d (k + 1) (upd S (k : Int) false) (by omega) (by omega) (nx _ (by rw [← hSk]; simp at hs; rw [hs]; rfl))
theorem among_eq {C S : Nat → Bool} : pamong (mkC C) (mkC S) = some (mkC fun j => S j && C j) := by
 unfold pamong
 exact among_go _ 0 S (by omega) (by decide) fun j _ => by rw [if_neg (by omega)]
open Classical in
def SB (s : Stm) (t : Trh) (j : Nat) : Bool := decide (∃ c, s.Cards[j]? = some c ∧ RT s t c)
open Classical in
theorem SB_iff {s : Stm} {t : Trh} {j : Nat} : SB s t j = true ↔ ∃ c, s.Cards[j]? = some c ∧ RT s t c := by unfold SB; exact decide_eq_true_iff
theorem SB_out {s : Stm} {t : Trh} {j : Nat} (h : s.Cards.length ≤ j) : SB s t j = false := by
 cases hb : SB s t j with
 | false => rfl
 | true =>
  obtain ⟨c, hc, _⟩ := SB_iff.1 hb
  have := (List.getElem?_eq_some_iff.1 hc).1
  omega
theorem rightCards_eq {W : Wk} {s : Stm} (hs : W.s = s) (h : VS0 s) (hm : ¬ ManyS s) {t : Trh} (ht : isT s t) : prightCards W t = some (mkC (SB s t)) := by
 obtain ⟨_, _, h3⟩ := not_many hm
 have go : ∀ (d k : Nat) (S : Nat → Bool), k ≤ s.Cards.length → s.Cards.length - k < d → (∀ j, S j = if j < k then SB s t j else false) → prightCards_L0 W t d (S 0) (S 1) (S 2) (S 3) (S 4) (S 5) (k : Int) = some (mkC (SB s t)) := by
  intro d
  induction d with
  | zero => intro k S _ h; omega
  | succ d ih =>
   intro k S hk hd hS
   unfold prightCards_L0
   rw [hs]
   by_cases hkn : k = s.Cards.length
   ·rw [if_neg (by omega)]
    refine congrArg some (mkC_congr (S := S) fun j hj => ?_)
    rw [hS j]
    by_cases h9 : j < k
    ·rw [if_pos h9]
    ·rw [if_neg h9, SB_out (by omega)]
   ·have hlt : k < s.Cards.length := by omega
    have hg := List.getElem?_eq_getElem hlt
    have hc := h.cards _ (List.getElem_mem hlt)
    generalize s.Cards[k] = c at hg hc
    obtain ⟨b, b1, b2⟩ := isRight_ev h hm ht hc
    have hb : b = SB s t k := by
     rw [Bool.eq_iff_iff, b2, SB_iff]
     exact ⟨fun q => ⟨c, hg, q⟩, fun ⟨c', q1, q2⟩ => by rw [hg] at q1; cases q1; exact q2⟩
    rw [if_pos (by omega), idx_at hg, obs, b1, obs, gd_pos (by omega), gd_pos (fI (by omega)), show (k : Int) + 1 = ((k + 1 : Nat) : Int) by omega]
    refine ih (k + 1) (upd S (k : Int) b) (by omega) (by omega) fun j => ?_
    rw [upd_nat]
    by_cases h9 : k = j
    ·subst h9; rw [if_pos rfl, if_pos (by omega)]; exact hb
    ·rw [if_neg h9, hS j]
     by_cases h8 : j < k
     ·rw [if_pos h8, if_pos (by omega)]
     ·rw [if_neg h8, if_neg (by omega)]
 unfold prightCards
 rw [hs]
 exact go _ 0 (fun _ => false) (Nat.zero_le _) (by omega) fun j => by rw [if_neg (by omega)]
structure WOk (s : Stm) (W : Wk) : Prop where
 v0 : VS0 s
 many : ¬ ManyS s
 ss : W.s = s
 m : ∀ t, isT s t → mget W.right t = some (mkC (SB s t))
theorem isT.fit {s : Stm} {t : Trh} (ht : isT s t) (h : VS0 s) (hm : ¬ ManyS s) : MK.fit t := by
 obtain ⟨_, hh, _⟩ := not_many hm
 obtain ⟨a, b, c, d⟩ := ht.rng h
 exact ⟨fI (by omega), fI (by omega), fI (by omega), fI (by omega), trivial⟩
open Classical in
theorem open_L0 {s : Stm} (h : VS0 s) (hm : ¬ ManyS s) : ∀ (l : List Trh) (D : Trh → Prop) (m : Trh → Option Cds), (∀ t ∈ l, isT s t) → (∀ t, D t → m t = some (mkC (SB s t))) →
  ∃ g, popen_L0 s l (some m) = some ⟨s, some g⟩ ∧ ∀ t, (D t ∨ t ∈ l) → g t = some (mkC (SB s t))
 | [], D, m, _, hD => ⟨m, rfl, fun t ht => ht.elim (hD t) fun h => by cases h⟩
 | t :: l, D, m, hl, hD => by
  have ht := hl t (List.mem_cons_self ..)
  unfold popen_L0
  rw [rightCards_eq (s := s) rfl h hm ht, obs, gd_pos (ht.fit h hm), show mset (some m) t (mkC (SB s t)) = some (some fun k => if k = t then some (mkC (SB s t)) else m k) from rfl, obs]
  obtain ⟨g, g1, g2⟩ := open_L0 h hm l (fun x => D x ∨ x = t) (fun k => if k = t then some (mkC (SB s t)) else m k) (fun x hx => hl x (List.mem_cons_of_mem _ hx)) fun x hx => by
   by_cases h9 : x = t
   ·rw [if_pos h9, h9]
   ·rw [if_neg h9]; exact hD x (hx.elim id fun q => absurd q h9)
  refine ⟨g, g1, fun x hx => g2 x ?_⟩
  rcases hx with hx | hx
  ·exact .inl (.inl hx)
  ·rcases List.mem_cons.1 hx with h9 | h9
   ·exact .inl (.inr h9)
   ·exact .inr h9
theorem open_eq {s : Stm} (h : VS s) : ∃ W, popen s = some W ∧ WOk s W := by
 obtain ⟨g, g1, g2⟩ := open_L0 h.toVS0 h.many (chL s) (fun _ => False) (fun _ => none) (fun t ht => (mem_chL h.toVS0).1 ht) fun _ h => h.elim
 refine ⟨⟨s, some g⟩, ?_, h.toVS0, h.many, rfl, fun t ht => g2 t (.inr ((mem_chL h.toVS0).2 ht))⟩
 unfold popen
 rw [choices_eq h.toVS0 h.many, obs]
 exact g1
theorem hold_iff {s : Stm} {t : Trh} {S : Nat → Bool} (hn : s.Cards.length ≤ 6) (hS : ∀ j, S j = true → j < s.Cards.length) : (∀ j, j < 6 → (S j && SB s t j) = S j) ↔ ∀ j, S j = true → ∀ c, s.Cards[j]? = some c → RT s t c := by
 constructor
 ·intro h j hj c hc
  have hjl := hS j hj
  have := h j (by omega)
  rw [hj, Bool.true_and] at this
  obtain ⟨c', q1, q2⟩ := SB_iff.1 this
  rw [hc] at q1; cases q1; exact q2
 ·intro h j hj
  cases hs : S j with
  | false => rfl
  | true =>
   have hjl := hS j hs
   rw [SB_iff.2 ⟨_, List.getElem?_eq_getElem hjl, h j hs _ (List.getElem?_eq_getElem hjl)⟩]; rfl
theorem canHold_ev {s : Stm} {W : Wk} (h : WOk s W) {S : Nat → Bool} (hS : ∀ j, S j = true → j < s.Cards.length) : Ev (pcanHold W (mkC S)) (CanS s S) := by
 obtain ⟨_, _, h3⟩ := not_many h.many
 have go : ∀ (l : List Trh) (b : Bool), (∀ t ∈ l, isT s t) → Ev (pcanHold_L0 W (mkC S) l b) (∃ t ∈ l, ∀ j, S j = true → ∀ c, s.Cards[j]? = some c → RT s t c) := by
  intro l
  induction l with
  | nil => intro b _; unfold pcanHold_L0; exact Ev.ff fun ⟨t, ht, _⟩ => by cases ht
  | cons t l ih =>
   intro b hl
   have ht := hl t (List.mem_cons_self ..)
   unfold pcanHold_L0
   rw [gd_pos (ht.fit h.v0 h.many), mcase_some (h.m t ht), among_eq, obs]
   have heq := (eqC_mk (S := fun j => S j && SB s t j) (S' := S)).trans (hold_iff (t := t) h3 hS)
   show Ev (ite (eqC (mkC fun j => S j && SB s t j) (mkC S) = true) _ _) _
   by_cases hh : ∀ j, S j = true → ∀ c, s.Cards[j]? = some c → RT s t c
   ·rw [if_pos (heq.2 hh)]; exact Ev.tt ⟨t, List.mem_cons_self .., hh⟩
   ·rw [if_neg fun q => hh (heq.1 q)]
    exact (ih b fun x hx => hl x (List.mem_cons_of_mem _ hx)).imp ⟨fun ⟨x, hx, q⟩ => ⟨x, List.mem_cons_of_mem _ hx, q⟩, fun ⟨x, hx, q⟩ => by
     rcases List.mem_cons.1 hx with rfl | hx
     ·exact absurd q hh
     ·exact ⟨x, hx, q⟩⟩
 unfold pcanHold
 rw [h.ss, choices_eq h.v0 h.many, obs]
 exact (go _ false fun t ht => (mem_chL h.v0).1 ht).imp ⟨fun ⟨t, h1, h2⟩ => ⟨t, (mem_chL h.v0).1 h1, h2⟩, fun ⟨t, h1, h2⟩ => ⟨t, (mem_chL h.v0).2 h1, h2⟩⟩
theorem hasTruth_ev {s : Stm} {W : Wk} (h : WOk s W) : Ev (phasTruth W) (HT s) := by
 obtain ⟨_, _, h3⟩ := not_many h.many
 unfold phasTruth
 rw [allCards_eq (by rw [h.ss]; exact h3), obs, h.ss]
 refine (canHold_ev h fun j hj => of_decide_eq_true hj).ret.imp ?_
 rw [HT_can]
 exact CanS.congr fun j hj => decide_eq_true hj
theorem all_iff {s : Stm} {t : Trh} (hn : s.Cards.length ≤ 6) : (∀ j, j < 6 → SB s t j = decide (j < s.Cards.length)) ↔ ∀ c ∈ s.Cards, RT s t c := by
 constructor
 ·intro h c hc
  obtain ⟨j, hj⟩ := List.mem_iff_getElem?.1 hc
  have hjl := (List.getElem?_eq_some_iff.1 hj).1
  have := h j (by omega)
  rw [decide_eq_true hjl] at this
  obtain ⟨c', q1, q2⟩ := SB_iff.1 this
  rw [hj] at q1; cases q1; exact q2
 ·intro h j _
  by_cases hjl : j < s.Cards.length
  ·rw [decide_eq_true hjl]
   exact SB_iff.2 ⟨_, List.getElem?_eq_getElem hjl, h _ (List.getElem_mem hjl)⟩
  ·rw [decide_eq_false hjl]; exact SB_out (by omega)
open Classical in
theorem truths_L0 {s : Stm} {W : Wk} (h : WOk s W) : ∀ l : List Trh, (∀ t ∈ l, isT s t) → ptruthsI_L0 W (mkC fun j => decide (j < s.Cards.length)) l = some (l.filter fun t => decide (∀ c ∈ s.Cards, RT s t c))
 | [], _ => rfl
 | t :: l, hl => by
  obtain ⟨_, _, h3⟩ := not_many h.many
  have ht := hl t (List.mem_cons_self ..)
  have ih := truths_L0 h l fun x hx => hl x (List.mem_cons_of_mem _ hx)
  unfold ptruthsI_L0
  rw [gd_pos (ht.fit h.v0 h.many), mcase_some (h.m t ht), ih]
  have heq := (eqC_mk (S := SB s t) (S' := fun j => decide (j < s.Cards.length))).trans (all_iff (t := t) h3)
  show (ite (eqC (mkC (SB s t)) (mkC fun j => decide (j < s.Cards.length)) = true) _ _) = _
  by_cases ho : ∀ c ∈ s.Cards, RT s t c
  ·rw [if_pos (heq.2 ho), obs, List.filter_cons_of_pos (by simpa using ho)]
  ·rw [if_neg fun q => ho (heq.1 q), List.filter_cons_of_neg (by simpa using ho)]
theorem truths_eq {s : Stm} {W : Wk} (h : WOk s W) : ptruths W = some (TL s) := by
 obtain ⟨_, _, h3⟩ := not_many h.many
 unfold ptruths ptruthsI
 rw [allCards_eq (by rw [h.ss]; exact h3), obs, h.ss, choices_eq h.v0 h.many, obs, truths_L0 h _ fun t ht => (mem_chL h.v0).1 ht, obs]; rfl
def wk0 : Wk := { s := ({ Wide := (0 : Int), High := (0 : Int), Fall := (0 : Int), A := ({ Lo := (0 : Int), Hi := (0 : Int) } : Rg), B := ({ Lo := (0 : Int), Hi := (0 : Int) } : Rg), Half := ({ Lo := (0 : Int), Hi := (0 : Int) } : Rg), Peak := ({ Lo := (0 : Int), Hi := (0 : Int) } : Rg), Cards := [] } : Stm), right := none }
theorem openTrue_ok {s : Stm} (h : VS s) {L : List Rct} (hL : shrt L) (hr : ∀ r ∈ L, rcOk s r) (ht : HT s) : ∃ W, popenTrue s L = some (W, 0) ∧ WOk s W := by
 obtain ⟨W, h1, h2⟩ := open_eq h
 refine ⟨W, ?_, h2⟩
 unfold popenTrue
 rw [check_eq, fault_zero.2 h, obs, if_pos rfl, (eachR_ev (q := rcOk s) (fun r _ => hasRect_ev (h.toVS0.fit h.many)) hL).some_of hr, obs, if_pos rfl, h1, obs, (hasTruth_ev h2).some_of ht, obs, if_pos rfl]
theorem openTrue_no {s : Stm} (h : VS s) {L : List Rct} (hL : shrt L) (hr : ∀ r ∈ L, rcOk s r) (ht : ¬ HT s) : popenTrue s L = some (wk0, 11) := by
 obtain ⟨W, h1, h2⟩ := open_eq h
 unfold popenTrue
 rw [check_eq, fault_zero.2 h, obs, if_pos rfl, (eachR_ev (q := rcOk s) (fun r _ => hasRect_ev (h.toVS0.fit h.many)) hL).some_of hr, obs, if_pos rfl, h1, obs, (hasTruth_ev h2).some_not ht, obs, if_neg (by simp)]; rfl
theorem openTrue_out {s : Stm} (h : VS s) {L : List Rct} (hL : shrt L) (hr : ¬ ∀ r ∈ L, rcOk s r) : popenTrue s L = some (wk0, 2) := by
 unfold popenTrue
 rw [check_eq, fault_zero.2 h, obs, if_pos rfl, (eachR_ev (q := rcOk s) (fun r _ => hasRect_ev (h.toVS0.fit h.many)) hL).some_not hr, obs, if_neg (by simp)]; rfl
theorem openTrue_bad {s : Stm} {L : List Rct} (h : faultN s ≠ 0) : popenTrue s L = some (wk0, faultN s) := by
 unfold popenTrue
 rw [check_eq, obs, if_neg h]; rfl
end
end Go.Proofs.Ytbnfnhfanooplaa

namespace Go.Proofs.Ytbnfnhfanooplaa
open _root_.Go.Proofs.Try
open Go.Abs
set_option maxRecDepth 100000
noncomputable section
def Inc (n fr : Nat) (T : List Int) : Prop := T.Pairwise (· < ·) ∧ ∀ v ∈ T, (fr : Int) ≤ v ∧ v < n
theorem Inc.cons {n fr : Nat} {x : Int} {T : List Int} : Inc n fr (x :: T) ↔ ((fr : Int) ≤ x ∧ x < n) ∧ Inc n (x + 1).toNat T := by
 unfold Inc
 rw [List.pairwise_cons]
 constructor
 ·rintro ⟨⟨h1, h2⟩, h3⟩
  have hx := h3 x (List.mem_cons_self ..)
  exact ⟨hx, h2, fun v hv => by have := h1 v hv; have := h3 v (List.mem_cons_of_mem _ hv); omega⟩
 ·rintro ⟨hx, h2, h3⟩
  refine ⟨⟨fun v hv => by have := h3 v hv; omega, h2⟩, fun v hv => ?_⟩
  rcases List.mem_cons.1 hv with rfl | hv
  ·exact hx
  ·have := h3 v hv; omega
def inD (D : List Int) (j : Nat) : Bool := decide ((j : Int) ∈ D)
def bitsF (b : Nat) : Nat → List Int
 | 0 => []
 | p + 1 => bitsF b p ++ (if b.testBit p then [(p : Int)] else [])
def bitsL (b : Nat) : List Int := bitsF b 16
theorem mem_bitsF {b : Nat} {v : Int} : ∀ {p : Nat}, v ∈ bitsF b p ↔ 0 ≤ v ∧ v < p ∧ b.testBit v.toNat = true
 | 0 => ⟨fun h => (by cases h), fun h => by omega⟩
 | p + 1 => by
  show v ∈ bitsF b p ++ _ ↔ _
  rw [List.mem_append, mem_bitsF]
  constructor
  ·rintro (h | h)
   ·exact ⟨h.1, by omega, h.2.2⟩
   ·by_cases hb : b.testBit p = true
    ·rw [if_pos hb, List.mem_singleton] at h
     subst h; exact ⟨by omega, by omega, hb⟩
    ·rw [if_neg hb] at h; cases h
  ·rintro ⟨h1, h2, h3⟩
   by_cases hv : v = (p : Int)
   ·subst hv
    have h4 : b.testBit p = true := h3
    rw [if_pos h4]; exact .inr (List.mem_singleton.2 rfl)
   ·exact .inl ⟨h1, by omega, h3⟩
theorem inD_bits {n b k : Nat} (hn : n ≤ 16) (hk : k < n) : inD (bitsL b) k = b.testBit k := by
 unfold inD
 have : ((k : Nat) : Int) ∈ bitsL b ↔ b.testBit k = true := by
  unfold bitsL
  rw [mem_bitsF]
  exact ⟨fun h => h.2.2, fun h => ⟨by omega, by omega, h⟩⟩
 cases hb : b.testBit k with
 | true => exact decide_eq_true (this.2 hb)
 | false => exact decide_eq_false fun h => by rw [this.1 h] at hb; cases hb
end
end Go.Proofs.Ytbnfnhfanooplaa

namespace Go.Proofs.Ytbnfnhfanooplaa
open _root_.Go.Proofs.Try
open Go.Abs Go.Abs.Grow
set_option maxRecDepth 100000
noncomputable section
theorem minimum_eq {l : List Int} (h : l ≠ []) (hl : shrt l) : pminimum l = some (minL l) := by
 have hl := hl.lt
 cases l with
 | nil => exact absurd rfl h
 | cons x l =>
  unfold pminimum
  rw [if_neg (by simp; omega), idx_zero rfl, obs]
  have key := loopFold (l := x :: l) (fun s a => min s a) (fun d s k => pminimum_L0 (x :: l) d s k) some (fun d k s a ha => by
   have hk := (List.getElem?_eq_some_iff.1 ha).1
   rw [pminimum_L0, if_pos (by omega), idx_at ha, obs]
   by_cases hc : a < s
   ·rw [if_pos hc, gd_pos (fI (by omega)), Int.min_eq_right (by omega)]
   ·rw [if_neg hc, gd_pos (fI (by omega)), Int.min_eq_left (by omega)]) (fun d s => by rw [pminimum_L0, if_neg (Int.lt_irrefl _)]) ((x :: l).length + 1) 0 x (Nat.zero_le _) (by omega)
  refine key.trans ?_
  rw [List.drop_zero]
  show some (l.foldl min (min x x)) = _
  rw [Int.min_self]; rfl
theorem max_eq {l : List Int} (h : l ≠ []) (hl : shrt l) : psMax l = some (maxL l) := by
 have hl := hl.lt
 cases l with
 | nil => exact absurd rfl h
 | cons x l =>
  unfold psMax
  rw [if_neg (by simp; omega), idx_zero rfl, obs]
  have key := loopFold (l := x :: l) (fun s a => max s a) (fun d s k => psMax_L0 (x :: l) d s k) some (fun d k s a ha => by
   have hk := (List.getElem?_eq_some_iff.1 ha).1
   rw [psMax_L0, if_pos (by omega), idx_at ha, obs, gd_pos (fI (by omega))]) (fun d s => by rw [psMax_L0, if_neg (Int.lt_irrefl _)]) ((((x :: l).length : Int) - 1).toNat + 1) 1 x (by simp) (by simp only [List.length_cons]; omega)
  exact key
def Of (s : Stm) (h : Trh → Int) : Int → Prop := fun x => ∃ t, TS s t ∧ h t = x
theorem span_L0 {q : Trh → Option Int} {h : Trh → Int} : ∀ (l : List Trh) (acc : List Int), (∀ c ∈ l, q c = some (h c)) → acc.length + l.length < 1048576 → acc ++ l.map h ≠ [] → pspan_L0 q l acc = some ⟨minL (acc ++ l.map h), maxL (acc ++ l.map h)⟩
 | [], acc, _, hl, hne => by
  unfold pspan_L0
  rw [List.map_nil, List.append_nil] at hne ⊢
  simp only [List.length_nil] at hl
  rw [minimum_eq hne (by unfold shrt; omega), obs, max_eq hne (by unfold shrt; omega), obs]
 | c :: l, acc, hq, hl, hne => by
  simp only [List.length_cons] at hl
  unfold pspan_L0
  rw [hq c (List.mem_cons_self ..), obs, gd_pos (by omega), span_L0 l (acc ++ [h c]) (fun x hx => hq x (List.mem_cons_of_mem _ hx)) (by rw [List.length_append]; simp only [List.length_cons, List.length_nil]; omega) (by simp), List.append_assoc]
  rfl
theorem span_eq {s : Stm} {W : Wk} (hw : WOk s W) (ht : HT s) {q : Trh → Option Int} {h : Trh → Int} (hq : ∀ t, TS s t → q t = some (h t)) : ∃ lo hi, pspan W q = some ⟨lo, hi⟩ ∧ Spn (Of s h) lo hi := by
 have hlen := TL_len hw.v0 hw.many
 have hne2 : [] ++ (TL s).map h ≠ [] := by
  obtain ⟨t, h1⟩ := ht
  have := (mem_TL hw.v0).2 h1
  intro hn
  rw [List.nil_append, List.map_eq_nil_iff] at hn
  rw [hn] at this; cases this
 have hmem : ∀ x, x ∈ ([] : List Int) ++ (TL s).map h ↔ Of s h x := fun x => by
  rw [List.nil_append, List.mem_map]
  exact ⟨fun ⟨t, h1, h2⟩ => ⟨t, (mem_TL hw.v0).1 h1, h2⟩, fun ⟨t, h1, h2⟩ => ⟨t, (mem_TL hw.v0).2 h1, h2⟩⟩
 refine ⟨_, _, ?_, (hmem _).1 (minL_mem hne2).1, (hmem _).1 (maxL_mem hne2).1, fun x hx => ⟨(minL_mem hne2).2 x ((hmem x).2 hx), (maxL_mem hne2).2 x ((hmem x).2 hx)⟩⟩
 unfold pspan
 rw [truths_eq hw, obs, span_L0 (h := h) _ [] (fun c hc => hq c ((mem_TL hw.v0).1 hc)) (by simp only [List.length_nil]; omega) hne2]
theorem shrt1 {r : Rct} : shrt [r] := by unfold shrt; simp
def at1 (x y : Int) : Rct := ⟨⟨x, x⟩, ⟨y, y⟩⟩
theorem at1_ok {s : Stm} {x y : Int} : rcOk s (at1 x y) ↔ gr s x y := by unfold rcOk Wi at1 gr; dsimp only; omega
theorem Sizes_ok {s : Stm} (h : VS s) (ht : HT s) {x y : Int} (hg : gr s x y) : ∃ lo hi, pSizes s x y = some (⟨lo, hi⟩, 0) ∧ Spn (Of s fun t => szN s t x y) lo hi := by
 obtain ⟨W, h1, hw⟩ := openTrue_ok h (L := [at1 x y]) shrt1 (fun r hr => by rw [List.mem_singleton.1 hr]; exact at1_ok.2 hg) ht
 obtain ⟨lo, hi, a1, a2⟩ := span_eq hw ht (q := fun a => psizes1 a W x y) (h := fun t => szN s t x y) fun t q => by
  unfold psizes1
  rw [hw.ss, size_eq h.toVS0 h.many q.1 hg]; rfl
 refine ⟨lo, hi, ?_, a2⟩
 unfold pSizes
 rw [show ([({ X := ({ Lo := x, Hi := x } : Rg), Y := ({ Lo := y, Hi := y } : Rg) } : Rct)] : List Rct) = [at1 x y] from rfl, h1, obs, if_pos rfl]
 dsimp only
 rw [a1, obs]
theorem Sizes_no {s : Stm} (h : VS s) (ht : ¬ HT s) {x y : Int} (hg : gr s x y) : pSizes s x y = some (⟨0, 0⟩, 11) := by
 unfold pSizes
 rw [show ([({ X := ({ Lo := x, Hi := x } : Rg), Y := ({ Lo := y, Hi := y } : Rg) } : Rct)] : List Rct) = [at1 x y] from rfl, openTrue_no h shrt1 (fun r hr => by rw [List.mem_singleton.1 hr]; exact at1_ok.2 hg) ht, obs, if_neg (by decide)]
theorem Sizes_out {s : Stm} (h : VS s) {x y : Int} (hg : ¬ gr s x y) : pSizes s x y = some (⟨0, 0⟩, 2) := by
 unfold pSizes
 rw [show ([({ X := ({ Lo := x, Hi := x } : Rg), Y := ({ Lo := y, Hi := y } : Rg) } : Rct)] : List Rct) = [at1 x y] from rfl, openTrue_out h shrt1 (fun q => hg (at1_ok.1 (q _ (List.mem_singleton.2 rfl)))), obs, if_neg (by decide)]
theorem Sizes_bad {s : Stm} {x y : Int} (h : faultN s ≠ 0) : pSizes s x y = some (⟨0, 0⟩, faultN s) := by
 unfold pSizes
 rw [openTrue_bad h, obs, if_neg h]
end
end Go.Proofs.Ytbnfnhfanooplaa

namespace Go.Proofs.Ytbnfnhfanooplaa
open _root_.Go.Proofs.Try
open Go.Abs Go.Abs.Grow
set_option maxRecDepth 100000
noncomputable section
theorem aw : (pawake.bind fun r => some r) = some true := rfl
def ThinN (s : Stm) : Prop := s.Cards.length ≤ 9 ∧ (faultN s = 0 → manyN s ≤ 300)
theorem thin_ev {s : Stm} : Ev (plThin s) (ThinN s) := by
 unfold plThin ThinN
 refine (Ev.ite (K := faultN s = 0 → manyN s ≤ 300) fun h1 => ?_).imp (and_congr (by omega) Iff.rfl)
 rw [rFault_eq, obs]
 by_cases hf : faultN s = 0
 ·have h := fault_zero.1 hf
  rw [if_pos hf, rMany_eq h.toVS0 h.many, obs]
  exact Ev.dec ⟨fun h _ => h, fun h => h hf⟩
 ·rw [if_neg hf]; exact Ev.tt fun h => absurd h hf
theorem lStorm_eq {s : Stm} (h : s.Cards.length ≤ 9) : plStorm s = some s := by
 have k1 := loopApp0 (l := s.Cards) (F := fun d acc x => plStorm_L0 s d s.Wide s.High s.Fall s.A.Lo s.A.Hi s.B.Lo s.B.Hi s.Half.Lo s.Half.Hi s.Peak.Lo s.Peak.Hi acc x) (fun c : Crd => c) (fun acc => some ({ s with Cards := acc } : Stm)) (fun d k acc a ha hac => by
  have hk := (List.getElem?_eq_some_iff.1 ha).1
  show plStorm_L0 s (d + 1) _ _ _ _ _ _ _ _ _ _ _ _ _ = _
  rw [plStorm_L0, if_pos (by omega), idx_at ha, obs]
  unfold plTo
  rw [obs, obs, obs, gd_pos (by omega), gd_pos (fI (by omega))]) (fun d acc => by show plStorm_L0 s (d + 1) _ _ _ _ _ _ _ _ _ _ _ _ _ = _; rw [plStorm_L0, if_neg (Int.lt_irrefl _)]) (d := 1000000) (by omega)
 unfold plStorm plTo
 rw [obs, obs, obs, obs]
 refine k1.trans ?_
 rw [List.map_id']
def wC (s : Stm) (V : List Crd) : Stm := { s with Cards := V }
theorem wu {n : Nat} (h : n ≤ 64) : wrapZ .u64 (n : Int) = (n : Int) := wz (show (0 : Int) ≤ n ∧ (n : Int) < 18446744073709551616 by omega)
theorem pow6 {i : Nat} (h : i ≤ 6) : 2 ^ i ≤ 64 := Nat.le_trans (Nat.pow_le_pow_right (by omega) h) (by decide)
theorem rEvery_eq {s : Stm} (hn : s.Cards.length ≤ 6) : prEvery s = some ((2 ^ s.Cards.length - 1 : Nat) : Int) := by
 have hp := pow6 hn
 have h0 := Nat.two_pow_pos s.Cards.length
 have e : (1 : Int) * 2 ^ (Int.toNat (s.Cards.length : Int)) = ((2 ^ s.Cards.length : Nat) : Int) := by rw [Int.toNat_natCast, Int.one_mul, Int.natCast_pow]; rfl
 unfold prEvery
 rw [wu (by omega), e, gd_pos (by omega), gd_pos (by omega), gd_pos (by omega), gd_pos (fI (by omega)), gd_pos (fI (by omega))]
 congr 1; omega
end
end Go.Proofs.Ytbnfnhfanooplaa

namespace Go.Proofs.Ytbnfnhfanooplaa
open _root_.Go.Proofs.Try
open Go.Abs Go.Abs.Grow
set_option maxRecDepth 100000
noncomputable section
theorem pow_cast (j : Nat) (c : Int) : c * 2 ^ (Int.toNat (j : Int)) = c * ((2 ^ j : Nat) : Int) := by rw [Int.toNat_natCast, Int.natCast_pow]; rfl
theorem CanS.bits {s : Stm} {b : Nat} (hn : s.Cards.length ≤ 6) : CanS s (fun j => !inD (bitsL b) j) ↔ CanS s fun j => !b.testBit j := CanS.congr fun j hj => by rw [inD_bits (n := s.Cards.length) (by omega) hj]
end
end Go.Proofs.Ytbnfnhfanooplaa

namespace Go.Proofs.Ytbnfnhfanooplaa
open _root_.Go.Proofs.Try
open Go.Abs Go.Abs.Grow
set_option maxRecDepth 100000
noncomputable section
theorem Inc.cut {n : Nat} {D : List Int} (h : Inc (n + 1) 0 D) : ∃ E, Inc n 0 E ∧ E.length ≤ D.length ∧ D.length ≤ E.length + 1 ∧ ∀ j, j < n → inD E j = inD D j := by
 refine ⟨D.filter fun v => decide (v < (n : Int)), ⟨h.1.filter _, fun v hv => ?_⟩, List.length_filter_le _ _, ?_, fun j hj => ?_⟩
 ·obtain ⟨h1, h2⟩ := List.mem_filter.1 hv
  have := h.2 v h1
  have := of_decide_eq_true h2
  omega
 ·have key : ∀ L : List Int, L.Pairwise (· < ·) → (∀ v ∈ L, v < (n : Int) + 1) → L.length ≤ (L.filter fun v => decide (v < (n : Int))).length + 1 := by
   intro L
   induction L with
   | nil => intro _ _; simp
   | cons a L ih =>
    intro hp hb
    rw [List.pairwise_cons] at hp
    have ha := hb a (List.mem_cons_self ..)
    rw [List.filter_cons]
    by_cases hlt : a < (n : Int)
    ·rw [if_pos (decide_eq_true hlt)]
     have := ih hp.2 fun v hv => hb v (List.mem_cons_of_mem _ hv)
     simp only [List.length_cons]; omega
    ·have hL : L = [] := by
      cases L with
      | nil => rfl
      | cons b L =>
       have h1 := hp.1 b (List.mem_cons_self ..)
       have h2 := hb b (by simp)
       omega
     subst hL; simp
  exact key D h.1 fun v hv => by have := (h.2 v hv).2; omega
 ·unfold inD
  refine decide_eq_decide.2 ⟨fun hh => (List.mem_filter.1 hh).1, fun hh => List.mem_filter.2 ⟨hh, decide_eq_true (by omega)⟩⟩
end
end Go.Proofs.Ytbnfnhfanooplaa

namespace Go.Proofs.Ytbnfnhfanooplaa
open _root_.Go.Proofs.Try
open Go.Abs Go.Abs.Grow
set_option maxRecDepth 100000
noncomputable section
theorem rNth_eq {s : Stm} (h : VS0 s) (hm : ¬ ManyS s) {n : Int} (h0 : 0 ≤ n) (hn : n < manyN s) : prNth s n = some (nthT s n) := by
 obtain ⟨h1, h2, h3, h4, _, _, h7⟩ := many_rng h hm
 obtain ⟨e1, e2, e3, e4, e5, e6⟩ := nth_rng h hm h0 hn
 obtain ⟨a, b, c, d⟩ := h.ws hm
 have a' := a; have b' := b; have c' := c; have d' := d
 have p1 : n / cnt s.A ≤ n := Int.ediv_le_self _ h0
 have p2 : n / cnt s.A / cnt s.B ≤ n / cnt s.A := Int.ediv_le_self _ e2
 unfold Wi at a' b' c' d'
 unfold prNth
 simp only [rCount_eq a, rCount_eq b, rCount_eq c, obs]
 unfold nthT
 generalize n / cnt s.A / cnt s.B / cnt s.Half = x4 at *
 generalize n / cnt s.A / cnt s.B % cnt s.Half = x3 at *
 generalize n / cnt s.A / cnt s.B = x5 at *
 generalize n / cnt s.A % cnt s.B = x2 at *
 generalize n / cnt s.A = x6 at *
 generalize n % cnt s.A = x1 at *
 repeat rw [gd_pos (by first | exact fI (by omega) | omega)]
end
end Go.Proofs.Ytbnfnhfanooplaa

namespace Go.Proofs.Ytbnfnhfanooplaa
open _root_.Go.Proofs.Try
open Go.Abs Go.Abs.Grow
set_option maxRecDepth 100000
noncomputable section
def RR (s : Stm) (t : Trh) (c : Crd) (x y : Int) : Prop := (hitP s t x y ↔ c.Hail = true) ∧ inR c.Size (szN s t x y)
open Classical in
theorem rR_inner {s : Stm} (h : VS0 s) (hm : ¬ ManyS s) {t : Trh} (ht : isT s t) {c : Crd} (hc : CV s c) {x : Int} (hx : inR c.X x) {K : Bool → Int → Option Bool} : ∀ (d m : Nat) (y : Int) (b : Bool), c.Y.Lo ≤ y → y + m = c.Y.Hi + 1 → m < d →
  prRight_L1 s t c x K d b y = if ∃ y', y ≤ y' ∧ y' ≤ c.Y.Hi ∧ RR s t c x y' then some true else K b (x + 1)
 | 0, m, _, _, _, _, h => by omega
 | d + 1, m, y, b, hy, hm', hd => by
  obtain ⟨⟨hX, hY⟩, hS, hH⟩ := id hc
  obtain ⟨g1, g2, _⟩ := not_many hm
  unfold Wi at hX hY
  dsimp only at hX hY
  have hx' := hx
  unfold inR at hx'
  unfold prRight_L1
  cases m with
  | zero => rw [if_neg (by omega), gd_pos (fI (by omega)), if_neg fun ⟨y', q1, q2, _⟩ => by omega]
  | succ m =>
   have hg : gr s x y := by unfold gr; omega
   have ih := rR_inner h hm ht hc hx (K := K) d m (y + 1) b (by omega) (by omega) (by omega)
   have nx : ¬ RR s t c x y → (gd (fitsP .i64 (y + 1)) (prRight_L1 s t c x K d b (y + 1))) = if ∃ y', y ≤ y' ∧ y' ≤ c.Y.Hi ∧ RR s t c x y' then some true else K b (x + 1) := fun hn => by
    rw [gd_pos (fI (by omega)), ih]
    by_cases he : ∃ y', y + 1 ≤ y' ∧ y' ≤ c.Y.Hi ∧ RR s t c x y'
    ·obtain ⟨y', q1, q2, q3⟩ := he
     rw [if_pos ⟨y', q1, q2, q3⟩, if_pos ⟨y', by omega, q2, q3⟩]
    ·rw [if_neg he, if_neg fun ⟨y', q1, q2, q3⟩ => he ⟨y', by
      rcases Int.lt_or_eq_of_le q1 with h9 | h9
      ·omega
      ·rw [← h9] at q3; exact absurd q3 hn, q2, q3⟩]
   have yes : RR s t c x y → some true = if ∃ y', y ≤ y' ∧ y' ≤ c.Y.Hi ∧ RR s t c x y' then some true else K b (x + 1) := fun hh => by
    rw [if_pos ⟨y, Int.le_refl _, by omega, hh⟩]
   rw [if_pos (by omega)]
   by_cases hl : c.Hail = true
   ·rw [if_pos hl, rHit_ev h hm ht hg, obs]
    by_cases hh : hitP s t x y
    ·rw [if_pos (decide_eq_true hh), rSize_eq h hm ht hg, obs]
     obtain ⟨b', q1, q2⟩ := In_ev (n := szN s t x y) (lo := c.Size.Lo) (hi := c.Size.Hi)
     rw [q1, obs]
     cases b' with
     | true => rw [if_pos rfl]; exact yes ⟨⟨fun _ => hl, fun _ => hh⟩, q2.1 rfl⟩
     | false => rw [if_neg (by simp)]; exact nx fun q => by have := q2.2 q.2; cases this
    ·rw [if_neg (by rw [decide_eq_false hh]; simp)]; exact nx fun q => hh (q.1.2 hl)
   ·have hsz : c.Size = ⟨0, 0⟩ := hH.resolve_left hl
    rw [if_neg hl, rHit_ev h hm ht hg, obs]
    by_cases hh : hitP s t x y
    ·rw [if_pos (decide_eq_true hh)]; exact nx fun q => hl (q.1.1 hh)
    ·rw [if_neg (by rw [decide_eq_false hh]; simp)]
     refine yes ⟨⟨fun q => absurd q hh, fun q => absurd q hl⟩, ?_⟩
     have : szN s t x y = 0 := by unfold szN; rw [if_neg hh]
     rw [this, hsz]; unfold inR; dsimp only; omega
theorem rRight_ev {s : Stm} (h : VS0 s) (hm : ¬ ManyS s) {t : Trh} (ht : isT s t) {c : Crd} (hc : CV s c) : Ev (prRight s t c) (RT s t c) := by
 obtain ⟨⟨hX, hY⟩, _⟩ := id hc
 obtain ⟨g1, g2, _⟩ := not_many hm
 unfold Wi at hX hY
 dsimp only at hX hY
 have go : ∀ (d m : Nat) (x : Int) (b : Bool), c.X.Lo ≤ x → x + m = c.X.Hi + 1 → m < d → Ev (prRight_L0 s t c d b x) (∃ x', x ≤ x' ∧ x' ≤ c.X.Hi ∧ ∃ y', c.Y.Lo ≤ y' ∧ y' ≤ c.Y.Hi ∧ RR s t c x' y') := by
  intro d
  induction d with
  | zero => intro m _ _ _ _ h; omega
  | succ d ih =>
   intro m x b hx hm' hd
   unfold prRight_L0
   cases m with
   | zero => rw [if_neg (by omega)]; exact Ev.ff fun ⟨x', q1, q2, _⟩ => by omega
   | succ m =>
    rw [if_pos (by omega), rR_inner h hm ht hc (x := x) (by unfold inR; omega) 1000000 (c.Y.Hi + 1 - c.Y.Lo).toNat c.Y.Lo b (Int.le_refl _) (by omega) (by omega)]
    by_cases he : ∃ y', c.Y.Lo ≤ y' ∧ y' ≤ c.Y.Hi ∧ RR s t c x y'
    ·rw [if_pos he]; exact Ev.tt ⟨x, Int.le_refl _, by omega, he⟩
    ·rw [if_neg he]
     exact (ih m (x + 1) b (by omega) (by omega) (by omega)).imp ⟨fun ⟨x', q1, q2, q3⟩ => ⟨x', by omega, q2, q3⟩, fun ⟨x', q1, q2, q3⟩ => ⟨x', by
      rcases Int.lt_or_eq_of_le q1 with h9 | h9
      ·omega
      ·rw [← h9] at q3; exact absurd q3 he, q2, q3⟩⟩
 unfold prRight
 exact (go 1000000 (c.X.Hi + 1 - c.X.Lo).toNat c.X.Lo false (Int.le_refl _) (by omega) (by omega)).imp ⟨fun ⟨x, q1, q2, y, q3, q4, q5⟩ => ⟨x, y, ⟨⟨q1, q2⟩, q3, q4⟩, q5⟩, fun ⟨x, y, ⟨⟨q1, q2⟩, q3, q4⟩, q5⟩ => ⟨x, q1, q2, y, q3, q4, q5⟩⟩
end
end Go.Proofs.Ytbnfnhfanooplaa

namespace Go.Proofs.Ytbnfnhfanooplaa
open _root_.Go.Proofs.Try
open Go.Abs Go.Abs.Grow
set_option maxRecDepth 100000
noncomputable section
def macc (S : Nat → Bool) : Nat → Nat
 | 0 => 0
 | i + 1 => if S i = true then macc S i ||| 2 ^ i else macc S i
theorem macc_bit (S : Nat → Bool) (j : Nat) : ∀ i, (macc S i).testBit j = (decide (j < i) && S j)
 | 0 => by simp [macc]
 | i + 1 => by
  have ih := macc_bit S j i
  unfold macc
  by_cases hs : S i = true
  ·rw [if_pos hs, Nat.testBit_or, ih, Nat.testBit_two_pow]
   by_cases h : i = j
   ·subst h; simp [hs]
   ·have : decide (j < i + 1) = decide (j < i) := decide_eq_decide.2 (by omega)
    rw [this]; simp [h]
  ·rw [if_neg hs, ih]
   by_cases h : i = j
   ·subst h
    have : S i = false := by simpa using hs
    rw [this]; simp
   ·have : decide (j < i + 1) = decide (j < i) := decide_eq_decide.2 (by omega)
    rw [this]
theorem macc_lt (S : Nat → Bool) (i : Nat) : macc S i < 2 ^ i := by
 apply Nat.lt_pow_two_of_testBit
 intro j hj
 rw [macc_bit, decide_eq_false (by omega)]; rfl
theorem bits_eq {a b n : Nat} (ha : a < 2 ^ n) (hb : b < 2 ^ n) (h : ∀ j, j < n → a.testBit j = b.testBit j) : a = b := by
 apply Nat.eq_of_testBit_eq
 intro j
 by_cases hj : j < n
 ·exact h j hj
 ·rw [Nat.testBit_lt_two_pow (Nat.lt_of_lt_of_le ha (Nat.pow_le_pow_right (by omega) (by omega))), Nat.testBit_lt_two_pow (Nat.lt_of_lt_of_le hb (Nat.pow_le_pow_right (by omega) (by omega)))]
def allN (s : Stm) (t : Trh) : Nat := macc (SB s t) s.Cards.length
theorem all_L1 {s : Stm} (h : VS s) {n : Int} (h0 : 0 ≤ n) (hn : n < manyN s) {l : List Int} {K : List Int → Int → Option (List Int)} (hl : l.length < 1048576) : ∀ (d i : Nat), i ≤ s.Cards.length → s.Cards.length - i < d →
  prAll_L1 s l n K d (macc (SB s (nthT s n)) i : Int) (i : Int) = K (l ++ [(allN s (nthT s n) : Int)]) (n + 1)
 | 0, i, _, hd => by omega
 | d + 1, i, hi, hd => by
  obtain ⟨_, _, h3⟩ := not_many h.many
  have hmr := many_rng h.toVS0 h.many
  unfold prAll_L1
  by_cases hin : i = s.Cards.length
  ·rw [if_neg (by omega), gd_pos hl, gd_pos (fI (by omega)), hin]; rfl
  have hlt : i < s.Cards.length := by omega
  have hg := List.getElem?_eq_getElem hlt
  have hc := h.cards _ (List.getElem_mem hlt)
  generalize s.Cards[i] = c at hg hc
  have ht := nth_isT h.toVS0 h.many h0 hn
  have ih := all_L1 h h0 hn (K := K) hl d (i + 1) (by omega) (by omega)
  have hSB : SB s (nthT s n) i = true ↔ RT s (nthT s n) c := SB_iff.trans ⟨fun ⟨c', q1, q2⟩ => by rw [hg] at q1; cases q1; exact q2, fun q => ⟨c, hg, q⟩⟩
  have hb := macc_lt (SB s (nthT s n)) i
  have hp := pow6 (i := i) (by omega)
  have hp2 := pow6 (i := i + 1) (by omega)
  have hb2 := macc_lt (SB s (nthT s n)) (i + 1)
  have hpow : (1 : Int) * 2 ^ (Int.toNat (wrapZ .u64 (i : Int))) = ((2 ^ i : Nat) : Int) := by rw [wu (by omega), pow_cast, Int.one_mul]
  rw [if_pos (by omega), rNth_eq h.toVS0 h.many h0 hn, obs, idx_at hg, obs]
  obtain ⟨b, q1, q2⟩ := rRight_ev h.toVS0 h.many ht hc
  rw [q1, obs, show (i : Int) + 1 = ((i + 1 : Nat) : Int) by omega]
  by_cases hr : RT s (nthT s n) c
  ·have hm : Nat.lor (macc (SB s (nthT s n)) i) (2 ^ i) = macc (SB s (nthT s n)) (i + 1) := by
    conv => rhs; unfold macc
    rw [if_pos (hSB.2 hr)]; rfl
   rw [if_pos (q2.2 hr), hpow, Int.toNat_natCast, Int.toNat_natCast, hm, wu (by omega), gd_pos (by omega), gd_pos (by omega), gd_pos (by omega), gd_pos (fI (by omega)), gd_pos (by omega), gd_pos (by omega), gd_pos (fI (by omega)), gd_pos (fI (by omega)), gd_pos (fI (by omega)), gd_pos (fI (by omega))]
   exact ih
  ·have hm : macc (SB s (nthT s n)) (i + 1) = macc (SB s (nthT s n)) i := by
    conv => lhs; unfold macc
    rw [if_neg fun q => hr (hSB.1 q)]
   rw [if_neg fun q => hr (q2.1 q), gd_pos (fI (by omega)), ← hm]
   exact ih
def allL' (s : Stm) : List Int := (segI 0 (manyN s).toNat).map fun n => ((allN s (nthT s n) : Nat) : Int)
theorem rAll_eq {s : Stm} (h : VS s) : prAll s = some (allL' s) := by
 obtain ⟨_, _, h3⟩ := not_many h.many
 have hmr := (many_rng h.toVS0 h.many).2.2.2.2.2.2
 have key : ∀ (d m : Nat) (n : Int) (acc : List Int), 0 ≤ n → n + m = manyN s → m < d → acc.length = n.toNat → prAll_L0 s d acc n = some (acc ++ (segI n m).map fun n => ((allN s (nthT s n) : Nat) : Int)) := by
  intro d
  induction d with
  | zero => intro m n acc _ _ h; omega
  | succ d ih =>
   intro m n acc h0 hm hd hacc
   unfold prAll_L0
   rw [rMany_eq h.toVS0 h.many, obs]
   cases m with
   | zero => rw [if_neg (by omega)]; simp [segI]
   | succ m =>
    rw [if_pos (by omega)]
    have := all_L1 h h0 (by omega) (l := acc) (K := prAll_L0 s d) (by omega) 1000000 0 (Nat.zero_le _) (by omega)
    refine Eq.trans this ?_
    rw [ih m (n + 1) _ (by omega) (by omega) (by omega) (by rw [List.length_append, hacc]; simp only [List.length_cons, List.length_nil]; omega), List.append_assoc]
    rfl
 unfold prAll
 have := key 1000000 (manyN s).toNat 0 [] (Int.le_refl _) (by omega) (by omega) rfl
 rw [this, List.nil_append]; rfl
theorem allL_len {s : Stm} : (allL' s).length = (manyN s).toNat := by unfold allL'; rw [List.length_map, segI_len]
theorem allL_get {s : Stm} {n : Nat} (hn : (n : Int) < manyN s) : (allL' s)[n]? = some ((allN s (nthT s n) : Nat) : Int) := by
 unfold allL'
 rw [List.getElem?_map, segI_get (by omega), Int.zero_add]; rfl
theorem allN_full {s : Stm} {t : Trh} : allN s t = 2 ^ s.Cards.length - 1 ↔ ∀ c ∈ s.Cards, RT s t c := by
 have e : (∀ c ∈ s.Cards, RT s t c) ↔ ∀ j, j < s.Cards.length → SB s t j = true := by
  constructor
  ·intro h j hj; exact SB_iff.2 ⟨_, List.getElem?_eq_getElem hj, h _ (List.getElem_mem hj)⟩
  ·intro h c hc
   obtain ⟨j, hj⟩ := List.mem_iff_getElem?.1 hc
   obtain ⟨c', q1, q2⟩ := SB_iff.1 (h j (List.getElem?_eq_some_iff.1 hj).1)
   rw [hj] at q1; cases q1; exact q2
 rw [e]
 have hp0 := Nat.two_pow_pos s.Cards.length
 constructor
 ·intro h j hj
  have := macc_bit (SB s t) j s.Cards.length
  rw [show macc (SB s t) s.Cards.length = 2 ^ s.Cards.length - 1 from h, Nat.testBit_two_pow_sub_one, decide_eq_true hj] at this
  simpa using this.symm
 ·intro h
  refine bits_eq (macc_lt _ _) (by omega) fun j hj => ?_
  unfold allN
  rw [macc_bit, Nat.testBit_two_pow_sub_one, decide_eq_true hj, h j hj]; rfl
theorem rTruths_eq {s : Stm} (h : VS s) : ∃ l, prTruths s = some l ∧ (∀ t, t ∈ l ↔ TS s t) ∧ l.length ≤ 2000 := by
 obtain ⟨_, _, h3⟩ := not_many h.many
 have hfew := h.few
 have hmr := (many_rng h.toVS0 h.many).2.2.2.2.2.2
 have hlen := allL_len (s := s)
 have key : ∀ (d i : Nat) (acc : List Trh), i ≤ (allL' s).length → (allL' s).length - i < d → acc.length ≤ i → (∀ t, t ∈ acc ↔ ∃ j : Nat, j < i ∧ nthT s (j : Int) = t ∧ ∀ c ∈ s.Cards, RT s t c) →
   ∃ l, prTruths_L0 s (allL' s) d acc (i : Int) = some l ∧ (∀ t, t ∈ l ↔ ∃ j : Nat, j < (allL' s).length ∧ nthT s (j : Int) = t ∧ ∀ c ∈ s.Cards, RT s t c) ∧ l.length ≤ (allL' s).length := by
  intro d
  induction d with
  | zero => intro i _ _ h; omega
  | succ d ih =>
   intro i acc hi hd hal hac
   unfold prTruths_L0
   by_cases hin : i = (allL' s).length
   ·rw [if_neg (by omega)]
    exact ⟨acc, rfl, by rw [← hin]; exact hac, by omega⟩
   ·have hg := allL_get (s := s) (n := i) (by omega)
    have hp6 := pow6 h3
    have hp0 := Nat.two_pow_pos s.Cards.length
    rw [if_pos (by omega), idx_at hg, obs, rEvery_eq h3, obs, show (i : Int) + 1 = ((i + 1 : Nat) : Int) by omega]
    by_cases hf : ∀ c ∈ s.Cards, RT s (nthT s (i : Int)) c
    ·rw [if_pos (by rw [allN_full.2 hf]), rNth_eq h.toVS0 h.many (by omega) (by omega), obs, gd_pos (by omega), gd_pos (fI (by omega))]
     refine ih (i + 1) _ (by omega) (by omega) (by rw [List.length_append]; simp only [List.length_cons, List.length_nil]; omega) fun t => ?_
     rw [List.mem_append, List.mem_singleton, hac]
     constructor
     ·rintro (⟨j, q1, q2⟩ | rfl)
      ·exact ⟨j, by omega, q2⟩
      ·exact ⟨i, by omega, rfl, hf⟩
     ·rintro ⟨j, q1, q2, q3⟩
      rcases Nat.lt_or_ge j i with h9 | h9
      ·exact .inl ⟨j, h9, q2, q3⟩
      ·have : j = i := by omega
       subst this; exact .inr q2.symm
    ·rw [if_neg fun q => hf (allN_full.1 (by omega)), gd_pos (fI (by omega))]
     refine ih (i + 1) _ (by omega) (by omega) (by omega) fun t => ?_
     rw [hac]
     constructor
     ·rintro ⟨j, q1, q2⟩; exact ⟨j, by omega, q2⟩
     ·rintro ⟨j, q1, q2, q3⟩
      rcases Nat.lt_or_ge j i with h9 | h9
      ·exact ⟨j, h9, q2, q3⟩
      ·have : j = i := by omega
       subst this; rw [← q2] at q3; exact absurd q3 hf
 obtain ⟨l, q1, q2, q3⟩ := key ((allL' s).length + 1) 0 [] (Nat.zero_le _) (by omega) (Nat.le_refl _) fun t => ⟨fun q => (by cases q), fun ⟨j, q, _⟩ => by omega⟩
 refine ⟨l, ?_, fun t => (q2 t).trans ⟨fun ⟨j, p1, p2, p3⟩ => ⟨by rw [← p2]; exact nth_isT h.toVS0 h.many (by omega) (by omega), p3⟩, fun ⟨p1, p2⟩ => ?_⟩, by omega⟩
 ·unfold prTruths
  rw [rAll_eq h, obs]
  exact q1
 ·obtain ⟨n, n1, n2, n3⟩ := isT_nth h.toVS0 h.many p1
  exact ⟨n.toNat, by omega, by rw [show ((n.toNat : Nat) : Int) = n by omega]; exact n3, p2⟩
open Classical in
theorem lSure_eq {s : Stm} : ∃ l, plSure s = some (l, if faultN s = 0 then (if HT s then 0 else 11) else faultN s) ∧ (faultN s = 0 → HT s → (∀ t, t ∈ l ↔ TS s t) ∧ l.length ≤ 2000) := by
 unfold plSure plFault
 rw [rFault_eq, obs, obs]
 by_cases hf : faultN s = 0
 ·have h := fault_zero.1 hf
  obtain ⟨l, l1, l2, l3⟩ := rTruths_eq h
  rw [if_pos hf, l1, obs, if_pos hf]
  by_cases hT : HT s
  ·obtain ⟨t, ht⟩ := id hT
   have hm := (l2 t).2 ht
   rw [if_neg (by have := List.length_pos_of_mem hm; omega), if_pos hT]
   exact ⟨l, rfl, fun _ _ => ⟨l2, l3⟩⟩
  ·have hl : l = [] := List.eq_nil_iff_forall_not_mem.2 fun t ht => hT ⟨t, (l2 t).1 ht⟩
   rw [if_pos (by rw [hl]; rfl), if_neg hT]
   exact ⟨[], rfl, fun _ q => absurd q hT⟩
 ·rw [if_neg hf, if_neg hf]
  exact ⟨[], rfl, fun q => absurd q hf⟩
end
end Go.Proofs.Ytbnfnhfanooplaa

namespace Go.Proofs.Ytbnfnhfanooplaa
open _root_.Go.Proofs.Try
open Go.Abs Go.Abs.Grow
set_option maxRecDepth 100000
noncomputable section
def hc (s : Stm) (p : Int × Int) : List Trh → Int
 | [] => 0
 | t :: l => (if hitP s t p.1 p.2 then 1 else 0) + hc s p l
theorem hc_cons {s : Stm} {p : Int × Int} {t : Trh} {l : List Trh} : hc s p (t :: l) = (if hitP s t p.1 p.2 then 1 else 0) + hc s p l := rfl
theorem hc_cnt {s : Stm} {p : Int × Int} : ∀ l : List Trh, hc s p l = ((l.countP fun t => decide (hitP s t p.1 p.2) : Nat) : Int)
 | [] => rfl
 | t :: l => by
  unfold hc
  rw [hc_cnt l, List.countP_cons]
  by_cases h : hitP s t p.1 p.2
  ·rw [if_pos h, if_pos (decide_eq_true h)]; omega
  ·rw [if_neg h, if_neg (by rw [decide_eq_false h]; simp)]; omega
theorem hc_rng {s : Stm} {p : Int × Int} (l : List Trh) : 0 ≤ hc s p l ∧ hc s p l ≤ l.length := by
 rw [hc_cnt]
 have := List.countP_le_length (p := fun t => decide (hitP s t p.1 p.2)) (l := l)
 omega
def HOk (s : Stm) (H : List Int) (h : Int × Int → Int) : Prop := H.length = 144 ∧ ∀ x y, gr s x y → H[(x * 12 + y).toNat]? = some (h (x, y))
theorem HOk.congr {s : Stm} {H : List Int} {h h' : Int × Int → Int} (k : HOk s H h) (e : ∀ x y, gr s x y → h (x, y) = h' (x, y)) : HOk s H h' := ⟨k.1, fun x y q => by rw [k.2 x y q, e x y q]⟩
theorem HOk.idx {s : Stm} {H : List Int} {h : Int × Int → Int} (k : HOk s H h) {x y : Int} (hg : gr s x y) : idx H (x * 12 + y) = some (h (x, y)) := by
 have := k.2 x y hg
 unfold gr at hg
 unfold Go.Abs.idx
 rw [if_pos (by omega)]; exact this
theorem HOk.set {s : Stm} (hm : ¬ ManyS s) {H : List Int} {h : Int × Int → Int} (k : HOk s H h) {x y : Int} (hg : gr s x y) (v : Int) : HOk s (H.set (x * 12 + y).toNat v) (fun q => if q = (x, y) then v else h q) := by
 obtain ⟨m1, m2, _⟩ := not_many hm
 refine ⟨by rw [List.length_set]; exact k.1, fun a b q => ?_⟩
 have hk := k.1
 by_cases e : (a, b) = (x, y)
 ·refine Eq.trans ?_ (congrArg some (if_pos e).symm)
  cases e
  rw [List.getElem?_set_self (by unfold gr at hg; omega)]
 ·refine Eq.trans ?_ (congrArg some (if_neg e).symm)
  rw [List.getElem?_set_ne, k.2 a b q]
  intro he
  unfold gr at hg q
  have h1 : a = x := by omega
  have h2 : b = y := by omega
  exact e (by rw [h1, h2])
def grR (s : Stm) : Rct := ⟨⟨0, s.Wide - 1⟩, ⟨0, s.High - 1⟩⟩
theorem grR_ok {s : Stm} (h : VS0 s) : rcOk s (grR s) := by
 have a := h.wide; have b := h.high
 unfold rcOk Wi grR; dsimp only; omega
theorem grid_eq {s : Stm} (h : VS0 s) (hm : ¬ ManyS s) : pgrid s = some (grR s) := by
 obtain ⟨m1, m2, _⟩ := not_many hm
 have a := h.wide; have b := h.high
 unfold pgrid
 rw [gd_pos (fI (by omega)), gd_pos (fI (by omega))]; rfl
theorem mem_grid {s : Stm} (h : VS0 s) {x y : Int} : (x, y) ∈ plcs (grR s) ↔ gr s x y := by
 rw [mem_plcs (grR_ok h)]
 unfold inP inR grR gr; rfl
theorem segI_inc : ∀ (n : Nat) (lo : Int), (segI lo n).Pairwise (· < ·)
 | 0, _ => List.Pairwise.nil
 | n + 1, lo => List.pairwise_cons.2 ⟨fun a ha => by have := (mem_segI).1 ha; omega, segI_inc n (lo + 1)⟩
theorem nums_inc (r : Rg) : (nums r).Pairwise (· < ·) := segI_inc _ _
theorem plcs_nodup (r : Rct) : (plcs r).Nodup := by
 unfold plcs List.Nodup
 rw [List.pairwise_flatMap]
 refine ⟨fun x _ => ?_, (nums_inc r.X).imp fun {a b} hab p hp q hq he => ?_⟩
 ·rw [List.pairwise_map]
  exact (nums_inc r.Y).imp fun {a b} hab he => by have := congrArg Prod.snd he; dsimp only at this; omega
 ·obtain ⟨_, _, rfl⟩ := List.mem_map.1 hp
  obtain ⟨_, _, rfl⟩ := List.mem_map.1 hq
  have := congrArg Prod.fst he; dsimp only at this; omega
theorem tally_L1 {s : Stm} {W : Wk} (hss : W.s = s) (h : VS0 s) (hm : ¬ ManyS s) {t : Trh} (ht : isT s t) {n k : Int} (hk : 0 ≤ k ∧ k ≤ 100000) {K : List Int → Int → Option (List Int × Int)} :
  ∀ (ps : List (Int × Int)) (H : List Int) (g : Int × Int → Int), ps.Nodup → (∀ p ∈ ps, gr s p.1 p.2 ∧ 0 ≤ g p ∧ g p ≤ k) → HOk s H g → ∃ H', ptally_L1 W n t K ps H = K H' (n + 1) ∧ HOk s H' (fun p => g p + if p ∈ ps ∧ hitP s t p.1 p.2 then 1 else 0)
 | [], H, g, _, _, hH => ⟨H, by unfold ptally_L1; rfl, hH.congr fun x y _ => by simp⟩
 | (x, y) :: ps, H, g, hn, hb, hH => by
  rw [List.nodup_cons] at hn
  obtain ⟨hg, b1, b2⟩ := hb _ (List.mem_cons_self ..)
  dsimp only at hg
  obtain ⟨m1, m2, _⟩ := not_many hm
  have hg' := hg
  unfold gr at hg'
  unfold ptally_L1
  dsimp only
  rw [hss, hits_ev h hm ht hg, obs]
  by_cases hh : hitP s t x y
  ·rw [if_pos (decide_eq_true hh), gd_pos (by omega), gd_pos (by omega), hH.idx hg, obs, gd_pos (fI (by omega)), gd_pos (by omega), gd_pos (by omega), gd_pos hH.1]
   obtain ⟨H', e1, e2⟩ := tally_L1 hss h hm ht hk (n := n) (K := K) ps _ _ hn.2 (fun p hp => by
    obtain ⟨q1, q2⟩ := hb p (List.mem_cons_of_mem _ hp)
    have hne : p ≠ (x, y) := fun he => hn.1 (by rw [← he]; exact hp)
    rw [if_neg hne]
    exact ⟨q1, q2⟩) (hH.set hm hg (g (x, y) + 1))
   refine ⟨H', e1, e2.congr fun a b _ => ?_⟩
   by_cases e : (a, b) = (x, y)
   ·rw [if_pos e, e, if_neg fun q => hn.1 q.1, if_pos ⟨List.mem_cons_self .., hh⟩]; omega
   ·rw [if_neg e]
    congr 1
    by_cases hp : (a, b) ∈ ps ∧ hitP s t a b
    ·rw [if_pos hp, if_pos ⟨List.mem_cons_of_mem _ hp.1, hp.2⟩]
    ·rw [if_neg hp, if_neg fun q => hp ⟨(List.mem_cons.1 q.1).resolve_left e, q.2⟩]
  ·rw [if_neg (by rw [decide_eq_false hh]; simp)]
   obtain ⟨H', e1, e2⟩ := tally_L1 hss h hm ht hk (n := n) (K := K) ps H g hn.2 (fun p hp => hb p (List.mem_cons_of_mem _ hp)) hH
   refine ⟨H', e1, e2.congr fun a b _ => ?_⟩
   congr 1
   by_cases hp : (a, b) ∈ ps ∧ hitP s t a b
   ·rw [if_pos hp, if_pos ⟨List.mem_cons_of_mem _ hp.1, hp.2⟩]
   ·rw [if_neg hp, if_neg fun q => hp ⟨(List.mem_cons.1 q.1).resolve_left fun e => hh (by cases e; exact q.2), q.2⟩]
theorem tally_L0 {s : Stm} {W : Wk} (hss : W.s = s) (h : VS0 s) (hm : ¬ ManyS s) : ∀ (l : List Trh) (H : List Int) (g : Int × Int → Int) (n : Int), (∀ t ∈ l, isT s t) → HOk s H g → (∀ x y, gr s x y → 0 ≤ g (x, y) ∧ g (x, y) ≤ n) → 0 ≤ n → n + l.length ≤ 100000 →
  ∃ H', ptally_L0 W l H n = some (H', n + l.length) ∧ HOk s H' (fun p => g p + hc s p l)
 | [], H, g, n, _, hH, _, _, _ => ⟨H, by unfold ptally_L0; simp, hH.congr fun x y _ => by unfold hc; omega⟩
 | t :: l, H, g, n, hl, hH, hb, h0, hs => by
  simp only [List.length_cons] at hs
  unfold ptally_L0
  rw [gd_pos (fI (by omega)), hss, grid_eq h hm, obs, places_eq (h.fit hm) (grR_ok h), obs]
  obtain ⟨H1, e1, e2⟩ := tally_L1 hss h hm (hl t (List.mem_cons_self ..)) (n := n) (k := n) ⟨h0, by omega⟩ (K := ptally_L0 W l) (plcs (grR s)) H g (plcs_nodup _) (fun p hp => by
   have hg := (mem_grid h (x := p.1) (y := p.2)).1 hp
   exact ⟨hg, hb _ _ hg⟩) hH
  obtain ⟨H', e3, e4⟩ := tally_L0 hss h hm l H1 _ (n + 1) (fun x hx => hl x (List.mem_cons_of_mem _ hx)) e2 (fun x y q => by
   have := hb x y q
   dsimp only
   split <;> omega) (by omega) (by omega)
  refine ⟨H', e1.trans (e3.trans ?_), e4.congr fun x y q => ?_⟩
  ·simp only [List.length_cons]; congr 2; omega
  ·rw [hc_cons]
   dsimp only
   have hmm := (mem_grid h (x := x) (y := y)).2 q
   by_cases hh : hitP s t x y
   ·rw [if_pos ⟨hmm, hh⟩, if_pos hh]; omega
   ·rw [if_neg fun q => hh q.2, if_neg hh]; omega
theorem tally_eq {s : Stm} {W : Wk} (hw : WOk s W) : ∃ H, ptally W = some (H, ((TL s).length : Int)) ∧ HOk s H (fun p => hc s p (TL s)) := by
 have hlen := TL_len hw.v0 hw.many
 obtain ⟨m1, m2, _⟩ := not_many hw.many
 obtain ⟨H, e1, e2⟩ := tally_L0 hw.ss hw.v0 hw.many (TL s) (List.replicate 144 0) (fun _ => 0) 0 (fun t ht => ((mem_TL hw.v0).1 ht).1) ⟨List.length_replicate .., fun x y q => by
  unfold gr at q
  rw [List.getElem?_replicate, if_pos (by omega)]⟩ (fun _ _ _ => by omega) (Int.le_refl _) (by omega)
 refine ⟨H, ?_, e2.congr fun x y _ => Int.zero_add _⟩
 unfold ptally
 rw [truths_eq hw, obs, e1, Int.zero_add]
def wN (s : Stm) (l : List Trh) (x y : Int) : Int := max (hc s (x, y) l) (l.length - hc s (x, y) l)
theorem wN_rng {s : Stm} {l : List Trh} {x y : Int} : 0 ≤ wN s l x y ∧ wN s l x y ≤ l.length := by
 have := hc_rng (s := s) (p := (x, y)) l
 unfold wN; omega
def stepB (W : Int → Int → Int) (b : Int × Int × Int) (p : Int × Int) : Int × Int × Int := if W p.1 p.2 < b.2.2 then (p.1, p.2, W p.1 p.2) else b
def bst (s : Stm) (l : List Trh) : Int × Int × Int := (plcs (grR s)).foldl (stepB (wN s l)) (0, 0, (l.length : Int))
theorem segI_cons {lo : Int} {n : Nat} (h : 0 < n) : segI lo n = lo :: segI (lo + 1) (n - 1) := by
 cases n with
 | zero => omega
 | succ n => rfl
theorem plcs_head {s : Stm} (h : VS0 s) : ∃ r, plcs (grR s) = (0, 0) :: r := by
 have a := h.wide; have b := h.high
 unfold plcs nums cnt grR
 dsimp only
 rw [segI_cons (lo := 0) (n := (s.Wide - 1 - 0 + 1).toNat) (by omega), List.flatMap_cons, segI_cons (lo := 0) (n := (s.High - 1 - 0 + 1).toNat) (by omega), List.map_cons]
 exact ⟨_, rfl⟩
theorem bst_start {s : Stm} (h : VS0 s) (l : List Trh) : (plcs (grR s)).foldl (stepB (wN s l)) (0, 0, (l.length : Int) + 1) = bst s l := by
 obtain ⟨r, hr⟩ := plcs_head h
 unfold bst
 rw [hr, List.foldl_cons, List.foldl_cons]
 congr 1
 have := wN_rng (s := s) (l := l) (x := 0) (y := 0)
 unfold stepB
 dsimp only
 by_cases hc : wN s l 0 0 < (l.length : Int)
 ·rw [if_pos hc, if_pos (by omega)]
 ·rw [if_neg hc, if_pos (by omega), show wN s l 0 0 = (l.length : Int) by omega]
theorem best_L0 {s : Stm} (hm : ¬ ManyS s) {l : List Trh} (hl : l.length ≤ 100000) {H : List Int} (hH : HOk s H (fun p => hc s p l)) : ∀ (ps : List (Int × Int)) (b : Int × Int × Int), (∀ p ∈ ps, gr s p.1 p.2) → pBest_L0 (H, (l.length : Int)) ps b.1 b.2.1 b.2.2 = some ((ps.foldl (stepB (wN s l)) b).1, (ps.foldl (stepB (wN s l)) b).2.1, (ps.foldl (stepB (wN s l)) b).2.2, 0)
 | [], b, _ => rfl
 | (x, y) :: ps, b, hp => by
  obtain ⟨m1, m2, _⟩ := not_many hm
  have hg := hp _ (List.mem_cons_self ..)
  dsimp only at hg
  have hg' := hg
  unfold gr at hg'
  have hr := hc_rng (s := s) (p := (x, y)) l
  have ih := best_L0 hm hl hH ps (stepB (wN s l) b (x, y)) fun p h => hp p (List.mem_cons_of_mem _ h)
  unfold pBest_L0
  dsimp only
  rw [gd_pos (by omega), gd_pos (by omega), hH.idx hg, obs, gd_pos (fI (by omega)), List.foldl_cons, ← ih]
  show (if wN s l x y < b.2.2 then pBest_L0 (H, (l.length : Int)) ps x y (wN s l x y) else pBest_L0 (H, (l.length : Int)) ps b.1 b.2.1 b.2.2) = _
  unfold stepB
  dsimp only
  by_cases hc : wN s l x y < b.2.2
  ·rw [if_pos hc, if_pos hc]
  ·rw [if_neg hc, if_neg hc]
theorem Best_ok {s : Stm} (h : VS s) (ht : HT s) : pBest s = some ((bst s (TL s)).1, (bst s (TL s)).2.1, (bst s (TL s)).2.2, 0) := by
 obtain ⟨W, h1, hw⟩ := openTrue_ok h (L := []) (by unfold shrt; simp) (fun r hr => by cases hr) ht
 obtain ⟨H, e1, e2⟩ := tally_eq hw
 have hlen := TL_len hw.v0 hw.many
 unfold pBest
 rw [h1, obs, if_pos rfl]
 dsimp only
 rw [e1, obs, hw.ss, grid_eq hw.v0 hw.many, obs, places_eq (hw.v0.fit hw.many) (grR_ok hw.v0), obs]
 exact best_L0 hw.many (by omega) e2 (plcs (grR s)) (0, 0, ((TL s).length : Int)) fun p hp => (mem_grid hw.v0).1 hp
theorem Best_no {s : Stm} (h : VS s) (ht : ¬ HT s) : pBest s = some (0, 0, 0, 11) := by
 unfold pBest
 rw [openTrue_no h (L := []) (by unfold shrt; simp) (fun r hr => by cases hr) ht, obs, if_neg (by decide)]
theorem Best_bad {s : Stm} (h : faultN s ≠ 0) : pBest s = some (0, 0, 0, faultN s) := by
 unfold pBest
 rw [openTrue_bad h, obs, if_neg h]
theorem rWorst_eq {s : Stm} (h : VS0 s) (hm : ¬ ManyS s) {l : List Trh} (hl : l.length ≤ 100000) (ht : ∀ t ∈ l, isT s t) {x y : Int} (hg : gr s x y) : prWorst s l x y = some (wN s l x y) := by
 have key : ∀ (d i : Nat), i ≤ l.length → l.length - i < d → ∀ k : Int, 0 ≤ k → k ≤ i → k + hc s (x, y) (l.drop i) = hc s (x, y) l → prWorst_L0 s l x y d k (i : Int) = some (wN s l x y) := by
  intro d
  induction d with
  | zero => intro i _ h; omega
  | succ d ih =>
   intro i hi hd k k0 k1 hk
   unfold prWorst_L0
   by_cases hin : i = l.length
   ·rw [hin, List.drop_length] at hk
    have : k = hc s (x, y) l := by rw [← hk]; unfold hc; omega
    rw [if_neg (by omega), gd_pos (fI (by omega)), this]; rfl
   ·have hlt : i < l.length := by omega
    have hgi := List.getElem?_eq_getElem hlt
    have hti := ht _ (List.getElem_mem hlt)
    rw [List.drop_eq_getElem_cons hlt] at hk
    rw [hc_cons] at hk
    generalize l[i] = t at hgi hti hk
    rw [if_pos (by omega), idx_at hgi, obs, rHit_ev h hm hti hg, obs, show (i : Int) + 1 = ((i + 1 : Nat) : Int) by omega]
    by_cases hh : hitP s t x y
    ·rw [if_pos hh] at hk
     rw [if_pos (decide_eq_true hh), gd_pos (fI (by omega)), gd_pos (fI (by omega))]
     exact ih (i + 1) (by omega) (by omega) (k + 1) (by omega) (by omega) (by omega)
    ·rw [if_neg hh] at hk
     rw [if_neg (by rw [decide_eq_false hh]; simp), gd_pos (fI (by omega))]
     exact ih (i + 1) (by omega) (by omega) k (by omega) (by omega) (by omega)
 unfold prWorst
 exact key _ 0 (Nat.zero_le _) (by omega) 0 (Int.le_refl _) (Int.le_refl _) (by rw [List.drop_zero]; omega)
theorem rBest_L1 {s : Stm} (h : VS0 s) (hm : ¬ ManyS s) {l : List Trh} (hl : l.length ≤ 100000) (ht : ∀ t ∈ l, isT s t) {x : Int} (hx : 0 ≤ x ∧ x ≤ s.Wide - 1) {K : Int → Int → Int → Int → Option (Int × Int × Int)} : ∀ (d m : Nat) (y : Int) (b : Int × Int × Int), 0 ≤ y → y + m = s.High → m < d →
  prBest_L1 s l x K d b.1 b.2.1 b.2.2 y = K ((((segI y m).map fun y => (x, y)).foldl (stepB (wN s l)) b).1) ((((segI y m).map fun y => (x, y)).foldl (stepB (wN s l)) b).2.1) ((((segI y m).map fun y => (x, y)).foldl (stepB (wN s l)) b).2.2) (x + 1)
 | 0, _, _, _, _, _, h => by omega
 | d + 1, 0, y, b, _, hy, _ => by
  obtain ⟨m1, m2, _⟩ := not_many hm
  unfold prBest_L1
  rw [if_neg (by omega), gd_pos (fI (by omega))]; rfl
 | d + 1, m + 1, y, b, h0, hy, hd => by
  obtain ⟨m1, m2, _⟩ := not_many hm
  have hg : gr s x y := by unfold gr; omega
  have ih := rBest_L1 h hm hl ht hx (K := K) d m (y + 1) (stepB (wN s l) b (x, y)) (by omega) (by omega) (by omega)
  unfold prBest_L1
  rw [if_pos (by omega), rWorst_eq h hm hl ht hg, obs]
  show _ = K ((((segI (y + 1) m).map fun y => (x, y)).foldl (stepB (wN s l)) (stepB (wN s l) b (x, y))).1) _ _ _
  refine Eq.trans ?_ ih
  unfold stepB
  dsimp only
  by_cases hc : wN s l x y < b.2.2
  ·rw [if_pos hc, if_pos hc, gd_pos (fI (by omega))]
  ·rw [if_neg hc, if_neg hc, gd_pos (fI (by omega))]
theorem rBest_eq {s : Stm} (h : VS0 s) (hm : ¬ ManyS s) {l : List Trh} (hl : l.length ≤ 100000) (ht : ∀ t ∈ l, isT s t) : prBest s l = some (bst s l) := by
 obtain ⟨m1, m2, _⟩ := not_many hm
 have hw := h.wide; have hh := h.high
 have key : ∀ (d m : Nat) (x : Int) (b : Int × Int × Int), 0 ≤ x → x + m = s.Wide → m < d → prBest_L0 s l d b.1 b.2.1 b.2.2 x = some (((segI x m).flatMap fun x => (nums (grR s).Y).map fun y => (x, y)).foldl (stepB (wN s l)) b) := by
  intro d
  induction d with
  | zero => intro m _ _ _ _ h; omega
  | succ d ih =>
   intro m x b h0 hx hd
   unfold prBest_L0
   cases m with
   | zero => rw [if_neg (by omega)]; rfl
   | succ m =>
    rw [if_pos (by omega), rBest_L1 h hm hl ht ⟨h0, by omega⟩ 1000000 s.High.toNat 0 b (Int.le_refl _) (by omega) (by omega), ih m (x + 1) (((segI 0 s.High.toNat).map fun y => (x, y)).foldl (stepB (wN s l)) b) (by omega) (by omega) (by omega)]
    show _ = some ((((nums (grR s).Y).map fun y => (x, y)) ++ ((segI (x + 1) m).flatMap fun x => (nums (grR s).Y).map fun y => (x, y))).foldl (stepB (wN s l)) b)
    rw [List.foldl_append, show nums (grR s).Y = segI 0 s.High.toNat by unfold nums cnt grR; dsimp only; congr 1; omega]
 unfold prBest
 rw [gd_pos (fI (by omega))]
 refine (key 1000000 s.Wide.toNat 0 (0, 0, (l.length : Int) + 1) (Int.le_refl _) (by omega) (by omega)).trans ?_
 rw [← bst_start h l]
 unfold plcs
 rw [show nums (grR s).X = segI 0 s.Wide.toNat by unfold nums cnt grR; dsimp only; congr 1; omega]
end
end Go.Proofs.Ytbnfnhfanooplaa

namespace Go.Proofs.Ytbnfnhfanooplaa
open _root_.Go.Proofs.Try
open Go.Abs Go.Abs.Grow
set_option maxRecDepth 100000
noncomputable section
structure VX (x : Stm) : Prop where
 b : VS (wC x [])
 n : x.Cards.length ≤ 9
 cv : ∀ c ∈ x.Cards, CV x c
theorem VS.base {s : Stm} (h : VS s) : VS (wC s []) := by
 obtain ⟨m1, m2, m3⟩ := not_many h.many
 refine ⟨⟨h.wide, h.high, h.fall, h.a, h.b, h.half, h.peak, fun c hc => by cases hc⟩, ?_, h.few⟩
 unfold ManyS wC
 simp only [List.length_nil]
 omega
theorem VS.vx {s : Stm} (h : VS s) : VX s := ⟨h.base, by have := (not_many h.many).2.2; omega, h.cards⟩
theorem VX.ist {x : Stm} (h : VX x) {n : Int} (h0 : 0 ≤ n) (hn : n < manyN x) : isT x (nthT x n) := nth_isT h.b.toVS0 h.b.many (s := wC x []) h0 hn
theorem VX.nth {x : Stm} (h : VX x) {n : Int} (h0 : 0 ≤ n) (hn : n < manyN x) : prNth x n = some (nthT x n) := rNth_eq h.b.toVS0 h.b.many (s := wC x []) h0 hn
theorem VX.many {x : Stm} (h : VX x) : prMany x = some (manyN x) := rMany_eq h.b.toVS0 h.b.many (s := wC x [])
theorem VX.mr {x : Stm} (h : VX x) : 1 ≤ manyN x ∧ manyN x ≤ 2000 := ⟨(many_rng h.b.toVS0 h.b.many).2.2.2.2.2.2.1, h.b.few⟩
theorem rR1_w {x : Stm} {V : List Crd} {t : Trh} {c : Crd} {X : Int} {K : Bool → Int → Option Bool} : ∀ (d : Nat) (b : Bool) (y : Int), prRight_L1 (wC x V) t c X K d b y = prRight_L1 x t c X K d b y
 | 0, _, _ => rfl
 | d + 1, b, y => by
  unfold prRight_L1
  simp only [rR1_w d]
  rfl
theorem rR0_w {x : Stm} {V : List Crd} {t : Trh} {c : Crd} : ∀ (d : Nat) (b : Bool) (y : Int), prRight_L0 (wC x V) t c d b y = prRight_L0 x t c d b y
 | 0, _, _ => rfl
 | d + 1, b, y => by
  have e : prRight_L0 (wC x V) t c d = prRight_L0 x t c d := funext fun b => funext fun y => rR0_w d b y
  unfold prRight_L0
  rw [e, rR1_w]
theorem VX.right {x : Stm} (h : VX x) {t : Trh} (ht : isT x t) {c : Crd} (hc : CV x c) : Ev (prRight x t c) (RT x t c) := by
 have e : prRight (wC x []) t c = prRight x t c := rR0_w _ _ _
 rw [← e]
 exact rRight_ev h.b.toVS0 h.b.many (s := wC x []) ht hc
theorem pow9 {i : Nat} (h : i ≤ 9) : 2 ^ i ≤ 512 := Nat.le_trans (Nat.pow_le_pow_right (by omega) h) (by decide)
theorem rEvery_eqX {s : Stm} (hn : s.Cards.length ≤ 9) : prEvery s = some ((2 ^ s.Cards.length - 1 : Nat) : Int) := by
 have hp := pow9 hn
 have h0 := Nat.two_pow_pos s.Cards.length
 have e : (1 : Int) * 2 ^ (Int.toNat (s.Cards.length : Int)) = ((2 ^ s.Cards.length : Nat) : Int) := by rw [Int.toNat_natCast, Int.one_mul, Int.natCast_pow]; rfl
 unfold prEvery
 rw [wu (by omega), e, gd_pos (by omega), gd_pos (by omega), gd_pos (by omega), gd_pos (fI (by omega)), gd_pos (fI (by omega))]
 congr 1; omega
theorem all_L1X {s : Stm} (h : VX s) {n : Int} (h0 : 0 ≤ n) (hn : n < manyN s) {l : List Int} {K : List Int → Int → Option (List Int)} (hl : l.length < 1048576) : ∀ (d i : Nat), i ≤ s.Cards.length → s.Cards.length - i < d →
  prAll_L1 s l n K d (macc (SB s (nthT s n)) i : Int) (i : Int) = K (l ++ [(allN s (nthT s n) : Int)]) (n + 1)
 | 0, i, _, hd => by omega
 | d + 1, i, hi, hd => by
  have h3 := h.n
  have hmr := h.mr
  unfold prAll_L1
  by_cases hin : i = s.Cards.length
  ·rw [if_neg (by omega), gd_pos hl, gd_pos (fI (by omega)), hin]; rfl
  have hlt : i < s.Cards.length := by omega
  have hg := List.getElem?_eq_getElem hlt
  have hc := h.cv _ (List.getElem_mem hlt)
  generalize s.Cards[i] = c at hg hc
  have ht := h.ist h0 hn
  have ih := all_L1X h h0 hn (K := K) hl d (i + 1) (by omega) (by omega)
  have hSB : SB s (nthT s n) i = true ↔ RT s (nthT s n) c := SB_iff.trans ⟨fun ⟨c', q1, q2⟩ => by rw [hg] at q1; cases q1; exact q2, fun q => ⟨c, hg, q⟩⟩
  have hb := macc_lt (SB s (nthT s n)) i
  have hp := pow9 (i := i) (by omega)
  have hp2 := pow9 (i := i + 1) (by omega)
  have hb2 := macc_lt (SB s (nthT s n)) (i + 1)
  have hpow : (1 : Int) * 2 ^ (Int.toNat (wrapZ .u64 (i : Int))) = ((2 ^ i : Nat) : Int) := by rw [wu (by omega), pow_cast, Int.one_mul]
  rw [if_pos (by omega), h.nth h0 hn, obs, idx_at hg, obs]
  obtain ⟨b, q1, q2⟩ := h.right ht hc
  rw [q1, obs, show (i : Int) + 1 = ((i + 1 : Nat) : Int) by omega]
  by_cases hr : RT s (nthT s n) c
  ·have hm : Nat.lor (macc (SB s (nthT s n)) i) (2 ^ i) = macc (SB s (nthT s n)) (i + 1) := by
    conv => rhs; unfold macc
    rw [if_pos (hSB.2 hr)]; rfl
   rw [if_pos (q2.2 hr), hpow, Int.toNat_natCast, Int.toNat_natCast, hm, wu (by omega), gd_pos (by omega), gd_pos (by omega), gd_pos (by omega), gd_pos (fI (by omega)), gd_pos (by omega), gd_pos (by omega), gd_pos (fI (by omega)), gd_pos (fI (by omega)), gd_pos (fI (by omega)), gd_pos (fI (by omega))]
   exact ih
  ·have hm : macc (SB s (nthT s n)) (i + 1) = macc (SB s (nthT s n)) i := by
    conv => lhs; unfold macc
    rw [if_neg fun q => hr (hSB.1 q)]
   rw [if_neg fun q => hr (q2.1 q), gd_pos (fI (by omega)), ← hm]
   exact ih
theorem rAll_eqX {s : Stm} (h : VX s) : prAll s = some (allL' s) := by
 have hmr := h.mr
 have key : ∀ (d m : Nat) (n : Int) (acc : List Int), 0 ≤ n → n + m = manyN s → m < d → acc.length = n.toNat → prAll_L0 s d acc n = some (acc ++ (segI n m).map fun n => ((allN s (nthT s n) : Nat) : Int)) := by
  intro d
  induction d with
  | zero => intro m n acc _ _ h; omega
  | succ d ih =>
   intro m n acc h0 hm hd hacc
   unfold prAll_L0
   rw [h.many, obs]
   cases m with
   | zero => rw [if_neg (by omega)]; simp [segI]
   | succ m =>
    rw [if_pos (by omega)]
    have := all_L1X h h0 (by omega) (l := acc) (K := prAll_L0 s d) (by omega) 1000000 0 (Nat.zero_le _) (by have := h.n; omega)
    refine Eq.trans this ?_
    rw [ih m (n + 1) _ (by omega) (by omega) (by omega) (by rw [List.length_append, hacc]; simp only [List.length_cons, List.length_nil]; omega), List.append_assoc]
    rfl
 unfold prAll
 have := key 1000000 (manyN s).toNat 0 [] (Int.le_refl _) (by omega) (by omega) rfl
 rw [this, List.nil_append]; rfl
def bsL (s : Stm) : List Trh := (segI 0 (manyN s).toNat).map (nthT s)
open Classical in
def RL (s : Stm) : List Trh := (bsL s).filter fun t => decide (∀ c ∈ s.Cards, RT s t c)
open Classical in
theorem rTruths_eqX {s : Stm} (h : VX s) : prTruths s = some (RL s) := by
 have hmr := h.mr
 have hlen := allL_len (s := s)
 have h3 := h.n
 have hp9 := pow9 h3
 have hp0 := Nat.two_pow_pos s.Cards.length
 have key : ∀ (d m i : Nat) (acc : List Trh), i + m = (allL' s).length → m < d → acc.length ≤ i → prTruths_L0 s (allL' s) d acc (i : Int) = some (acc ++ ((segI i m).map (nthT s)).filter fun t => decide (∀ c ∈ s.Cards, RT s t c)) := by
  intro d
  induction d with
  | zero => intro m i _ _ h; omega
  | succ d ih =>
   intro m i acc hi hd hal
   unfold prTruths_L0
   cases m with
   | zero =>
    rw [if_neg (by omega)]
    simp [segI]
   | succ m =>
    have hg := allL_get (s := s) (n := i) (by omega)
    rw [if_pos (by omega), idx_at hg, obs, rEvery_eqX h3, obs, show (i : Int) + 1 = ((i + 1 : Nat) : Int) by omega]
    show _ = some (acc ++ ((nthT s i) :: (segI ((i : Int) + 1) m).map (nthT s)).filter fun t => decide (∀ c ∈ s.Cards, RT s t c))
    rw [show (i : Int) + 1 = ((i + 1 : Nat) : Int) by omega, List.filter_cons]
    by_cases hf : ∀ c ∈ s.Cards, RT s (nthT s (i : Int)) c
    ·rw [if_pos (by rw [allN_full.2 hf]), h.nth (by omega) (by omega), obs, gd_pos (by omega), gd_pos (fI (by omega)), if_pos (decide_eq_true hf),
      ih m (i + 1) _ (by omega) (by omega) (by rw [List.length_append]; simp only [List.length_cons, List.length_nil]; omega), List.append_assoc]
     rfl
    ·rw [if_neg fun q => hf (allN_full.1 (by omega)), gd_pos (fI (by omega)), if_neg (by rw [decide_eq_false hf]; simp), ih m (i + 1) _ (by omega) (by omega) (by omega)]
 unfold prTruths
 rw [rAll_eqX h, obs]
 have := key ((allL' s).length + 1) (allL' s).length 0 [] (Nat.zero_add _) (by omega) (Nat.le_refl _)
 rw [show ((0 : Nat) : Int) = 0 from rfl] at this
 rw [this, List.nil_append, hlen]; rfl
theorem nth_inj {s : Stm} {n m : Int} (h : nthT s n = nthT s m) : n = m := by
 unfold nthT at h
 have h1 := congrArg Trh.A h
 have h2 := congrArg Trh.B h
 have h3 := congrArg Trh.Half h
 have h4 := congrArg Trh.Peak h
 dsimp only at h1 h2 h3 h4
 have k4 : n / cnt s.A / cnt s.B / cnt s.Half = m / cnt s.A / cnt s.B / cnt s.Half := by omega
 have k3 : n / cnt s.A / cnt s.B = m / cnt s.A / cnt s.B := by
  rw [← Int.mul_ediv_add_emod (n / cnt s.A / cnt s.B) (cnt s.Half), ← Int.mul_ediv_add_emod (m / cnt s.A / cnt s.B) (cnt s.Half), k4]; omega
 have k2 : n / cnt s.A = m / cnt s.A := by
  rw [← Int.mul_ediv_add_emod (n / cnt s.A) (cnt s.B), ← Int.mul_ediv_add_emod (m / cnt s.A) (cnt s.B), k3]; omega
 rw [← Int.mul_ediv_add_emod n (cnt s.A), ← Int.mul_ediv_add_emod m (cnt s.A), k2]; omega
theorem bsL_nodup (s : Stm) : (bsL s).Nodup := by
 unfold bsL List.Nodup
 rw [List.pairwise_map]
 exact (segI_inc _ _).imp fun {a b} hab he => by have := nth_inj he; omega
theorem mem_bsL {x : Stm} (h : VX x) {t : Trh} : t ∈ bsL x ↔ isT x t := by
 have hmr := h.mr
 unfold bsL
 rw [List.mem_map]
 constructor
 ·rintro ⟨n, hn, rfl⟩
  have := (mem_segI).1 hn
  exact h.ist (by omega) (by omega)
 ·intro ht
  obtain ⟨n, n1, n2, n3⟩ := isT_nth h.b.toVS0 h.b.many (s := wC x []) ht
  have n2 : n < manyN x := n2
  exact ⟨n, (mem_segI).2 (by omega), n3⟩
theorem chL_nodup (s : Stm) : (chL s).Nodup := by
 have q1 : ∀ a b c : Int, ∀ t ∈ (nums s.Peak).map fun d => (⟨a, b, c, d⟩ : Trh), t.A = a ∧ t.B = b ∧ t.Half = c := fun a b c t ht => by
  obtain ⟨_, _, rfl⟩ := List.mem_map.1 ht; exact ⟨rfl, rfl, rfl⟩
 have q2 : ∀ a b : Int, ∀ t ∈ (nums s.Half).flatMap fun c => (nums s.Peak).map fun d => (⟨a, b, c, d⟩ : Trh), t.A = a ∧ t.B = b := fun a b t ht => by
  obtain ⟨c, _, h⟩ := List.mem_flatMap.1 ht; exact ⟨(q1 a b c t h).1, (q1 a b c t h).2.1⟩
 have q3 : ∀ a : Int, ∀ t ∈ (nums s.B).flatMap fun b => (nums s.Half).flatMap fun c => (nums s.Peak).map fun d => (⟨a, b, c, d⟩ : Trh), t.A = a := fun a t ht => by
  obtain ⟨b, _, h⟩ := List.mem_flatMap.1 ht; exact (q2 a b t h).1
 unfold chL List.Nodup
 rw [List.pairwise_flatMap]
 refine ⟨fun a _ => ?_, (nums_inc s.A).imp fun {a a'} hab p hp q hq he => by have e1 := q3 a p hp; have e2 := q3 a' q hq; rw [he] at e1; omega⟩
 rw [List.pairwise_flatMap]
 refine ⟨fun b _ => ?_, (nums_inc s.B).imp fun {b b'} hab p hp q hq he => by have e1 := (q2 a b p hp).2; have e2 := (q2 a b' q hq).2; rw [he] at e1; omega⟩
 rw [List.pairwise_flatMap]
 refine ⟨fun c _ => ?_, (nums_inc s.Half).imp fun {c c'} hab p hp q hq he => by have e1 := (q1 a b c p hp).2.2; have e2 := (q1 a b c' q hq).2.2; rw [he] at e1; omega⟩
 rw [List.pairwise_map]
 exact (nums_inc s.Peak).imp fun {d d'} hab he => by have := congrArg Trh.Peak he; dsimp only at this; omega
open Classical in
theorem RL_perm {s : Stm} (h : VS s) : (RL s).Perm (TL s) := by
 refine (List.perm_ext_iff_of_nodup ((bsL_nodup s).filter _) ((chL_nodup s).filter _)).2 fun t => ?_
 rw [List.mem_filter, List.mem_filter, mem_bsL h.vx, mem_chL h.toVS0]
open Classical in
theorem mem_RL {s : Stm} (h : VX s) {t : Trh} : t ∈ RL s ↔ TS s t := by
 unfold RL TS
 rw [List.mem_filter, mem_bsL h, decide_eq_true_eq]
theorem RL_len {s : Stm} (h : VX s) : (RL s).length ≤ 2000 := by
 have := h.mr
 refine Nat.le_trans (List.length_filter_le _ _) ?_
 unfold bsL
 rw [List.length_map, segI_len]; omega
theorem hc_perm {s : Stm} {p : Int × Int} {l l' : List Trh} (h : l.Perm l') : hc s p l = hc s p l' := by rw [hc_cnt, hc_cnt, h.countP_eq]
theorem bst_perm {s : Stm} {l l' : List Trh} (h : l.Perm l') : bst s l = bst s l' := by
 have e : wN s l = wN s l' := funext fun x => funext fun y => by unfold wN; rw [hc_perm h, h.length_eq]
 unfold bst; rw [e, h.length_eq]
theorem rSizes_eq {s : Stm} (h : VS0 s) (hm : ¬ ManyS s) {l : List Trh} (hl : l.length ≤ 100000) (ht : ∀ t ∈ l, isT s t) {x y : Int} (hg : gr s x y) {lo hi : Int} (hs : Spn (fun v => ∃ t ∈ l, szN s t x y = v) lo hi) : prSizes s l x y = some ⟨lo, hi⟩ := by
 have key : ∀ (d i : Nat), i ≤ l.length → l.length - i < d → ∀ a b : Int, min a lo = lo → max b hi = hi → (a = lo ∨ ∃ t ∈ l.drop i, szN s t x y = lo) → (b = hi ∨ ∃ t ∈ l.drop i, szN s t x y = hi) → prSizes_L0 s l x y d a b (i : Int) = some ⟨lo, hi⟩ := by
  intro d
  induction d with
  | zero => intro i _ h; omega
  | succ d ih =>
   intro i hi' hd a b ha hb ea eb
   unfold prSizes_L0
   by_cases hin : i = l.length
   ·rw [hin, List.drop_length] at ea eb
    have ea := ea.resolve_right fun ⟨t, q, _⟩ => by cases q
    have eb := eb.resolve_right fun ⟨t, q, _⟩ => by cases q
    rw [if_neg (by omega), ea, eb]
   ·have hlt : i < l.length := by omega
    have hgi := List.getElem?_eq_getElem hlt
    have hmi := List.getElem_mem hlt
    rw [List.drop_eq_getElem_cons hlt] at ea eb
    generalize l[i] = t at hgi hmi ea eb
    have hti := ht _ hmi
    have hb2 := hs.all _ ⟨t, hmi, rfl⟩
    rw [if_pos (by omega), idx_at hgi, obs, rSize_eq h hm hti hg, obs]
    unfold prWider
    rw [obs, gd_pos (fI (by omega)), show (i : Int) + 1 = ((i + 1 : Nat) : Int) by omega]
    refine ih (i + 1) (by clear ea eb; omega) (by clear ea eb; omega) _ _ (by clear ea eb; dsimp only; omega) (by clear ea eb; dsimp only; omega) ?_ ?_
    ·dsimp only
     rcases ea with ea | ⟨u, hu, e⟩
     ·exact .inl (by omega)
     ·rcases List.mem_cons.1 hu with rfl | hu
      ·exact .inl (by omega)
      ·exact .inr ⟨u, hu, e⟩
    ·dsimp only
     rcases eb with eb | ⟨u, hu, e⟩
     ·exact .inl (by omega)
     ·rcases List.mem_cons.1 hu with rfl | hu
      ·exact .inl (by omega)
      ·exact .inr ⟨u, hu, e⟩
 have r1 : ∀ t ∈ l, 0 ≤ szN s t x y ∧ szN s t x y ≤ 9 := fun t q => szN_rng h hm (ht t q) hg
 obtain ⟨t1, p1, p2⟩ := hs.pl
 obtain ⟨t2, p3, p4⟩ := hs.ph
 have := r1 t1 p1; have := r1 t2 p3
 unfold prSizes prEmpty
 rw [obs]
 dsimp only
 exact key _ 0 (Nat.zero_le _) (by omega) _ _ (by omega) (by omega) (.inr ⟨t1, p1, p2⟩) (.inr ⟨t2, p3, p4⟩)
open Classical in
theorem lSure_eqX {s : Stm} : faultN s = 0 → HT s → plSure s = some (RL s, 0) := by
 intro hf hT
 have h := fault_zero.1 hf
 obtain ⟨t, ht⟩ := hT
 have hm := (mem_RL h.vx).2 ht
 unfold plSure plFault
 rw [rFault_eq, obs, obs, if_pos hf, rTruths_eqX h.vx, obs, if_neg (by have := List.length_pos_of_mem hm; omega)]
theorem rg_eq {a b c d : Int} (ha : fitsP .i64 a) (hb : fitsP .i64 b) (h : a = c ∧ b = d) {X : Option Bool} : (gd (fitsP .i64 a) (gd (fitsP .i64 c) (gd (fitsP .i64 b) (gd (fitsP .i64 d) (if ((decide (a = c)) && (decide (b = d))) = true then X else (some false)))))) = X := by
 obtain ⟨rfl, rfl⟩ := h
 rw [gd_pos ha, gd_pos ha, gd_pos hb, gd_pos hb, if_pos (by simp)]
open Classical in
theorem m_StormSizes {s : Stm} {x y : Int} (_hs : ok_Stm s) (_hx : fitsP .i64 x) (_hy : fitsP .i64 y) : pStormSizes s x y = some true := by
 unfold pStormSizes
 refine thin_ev.pick (fun ht => ?_) fun _ => by rw [if_neg (by simp), aw]
 have f0 : fitsP .i64 (0 : Int) := fI (by omega)
 obtain ⟨l, l1, l2⟩ := lSure_eq (s := s)
 have hf : plFault s = some (faultN s) := by unfold plFault; rw [rFault_eq]; rfl
 rw [if_pos rfl, lStorm_eq ht.1]
 simp only [obs, hf]
 by_cases h0 : faultN s = 0
 ·have h := fault_zero.1 h0
  obtain ⟨m1, m2, m3⟩ := not_many h.many
  have w1 := h.wide; have w2 := h.high
  -- the best place
  have hbest : ∃ p q w, pBest s = some (p, q, w, if HT s then 0 else 11) ∧ (HT s → prBest s (RL s) = some (p, q, w)) ∧ (¬ HT s → p = 0 ∧ q = 0 ∧ w = 0) := by
   by_cases hT : HT s
   ·refine ⟨_, _, _, by rw [if_pos hT]; exact Best_ok h hT, fun _ => ?_, fun q => absurd hT q⟩
    rw [rBest_eq h.toVS0 h.many (by have := RL_len h.vx; omega) fun t q => ((mem_RL h.vx).1 q).1, bst_perm (RL_perm h)]
   ·exact ⟨0, 0, 0, by rw [if_neg hT]; exact Best_no h hT, fun q => absurd q hT, fun _ => ⟨rfl, rfl, rfl⟩⟩
  obtain ⟨p, q, w, b1, b2, b3⟩ := hbest
  by_cases hg : gr s x y
  ·have hx : (0 ≤ x ∧ x ≤ s.Wide - 1) ∧ (0 ≤ y ∧ y ≤ s.High - 1) := hg
   by_cases hT : HT s
   ·obtain ⟨lo, hi, e1, e2⟩ := Sizes_ok h hT hg
    rw [if_pos hT] at b1
    have hs2 : Spn (fun v => ∃ t ∈ RL s, szN s t x y = v) lo hi := e2.congr fun v => exists_congr fun t => and_congr (mem_RL h.vx).symm Iff.rfl
    have e3 := rSizes_eq h.toVS0 h.many (by have := RL_len h.vx; omega) (fun t q => ((mem_RL h.vx).1 q).1) hg hs2
    have r : 0 ≤ lo ∧ hi ≤ 9 ∧ lo ≤ hi := by
     obtain ⟨t1, p1, p2⟩ := e2.pl
     obtain ⟨t2, p3, p4⟩ := e2.ph
     have a := szN_rng h.toVS0 h.many p1.1 hg
     have b := szN_rng h.toVS0 h.many p3.1 hg
     have c := (e2.all _ e2.pl).2
     dsimp only at p2 p4
     omega
    rw [e1, obs, b1, obs, lSure_eqX h0 hT, obs, if_pos h0, gd_pos (fI (by omega)), In_ev.some_of hx.1, obs, if_pos rfl, gd_pos (fI (by omega)), In_ev.some_of hx.2, obs, if_pos rfl]
    dsimp only
    rw [if_pos rfl, if_pos rfl, if_pos rfl, e3, obs]
    unfold plTo
    rw [obs, rg_eq (fI (by omega)) (fI (by omega)) ⟨rfl, rfl⟩, b2 hT, obs, if_pos rfl, if_pos rfl, if_pos rfl, aw]
   ·obtain ⟨z1, z2, z3⟩ := b3 hT
    rw [if_neg hT] at b1
    rw [if_pos h0, if_neg hT] at l1
    rw [Sizes_no h hT hg, obs, b1, obs, l1, obs, if_pos h0, gd_pos (fI (by omega)), In_ev.some_of hx.1, obs, if_pos rfl, gd_pos (fI (by omega)), In_ev.some_of hx.2, obs, if_pos rfl]
    dsimp only
    rw [if_pos rfl, if_pos rfl, if_neg (by decide), rg_eq f0 f0 ⟨rfl, rfl⟩, if_pos z1, if_pos z2, if_pos z3, aw]
  ·rw [Sizes_out h hg, obs, b1, obs]
   -- both ways in which it is not in the grid end the same
   have fin : ∀ r : List Trh × Int, plSure s = some r → (if (2 : Int) = 2 then (if (if HT s then (0 : Int) else 11) = r.2 then (gd (fitsP .i64 (0 : Int)) (gd (fitsP .i64 (0 : Int)) (gd (fitsP .i64 (0 : Int)) (gd (fitsP .i64 (0 : Int)) (if ((decide ((0 : Int) = (0 : Int))) && (decide ((0 : Int) = (0 : Int)))) = true then (if r.2 = (0 : Int) then ((prBest s r.1).bind fun r1 => (if p = r1.1 then (if q = r1.2.1 then (if w = r1.2.2 then ((pawake).bind fun r2 => (some r2)) else (some false)) else (some false)) else (some false))) else (if p = (0 : Int) then (if q = (0 : Int) then (if w = (0 : Int) then ((pawake).bind fun r3 => (some r3)) else (some false)) else (some false)) else (some false))) else (some false)))))) else (some false)) else (some false)) = some true := by
    intro r hr
    rw [if_pos rfl]
    by_cases hT : HT s
    ·rw [lSure_eqX h0 hT] at hr
     cases hr
     rw [if_pos hT, if_pos rfl, rg_eq f0 f0 ⟨rfl, rfl⟩, if_pos rfl, b2 hT, obs, if_pos rfl, if_pos rfl, if_pos rfl, aw]
    ·obtain ⟨z1, z2, z3⟩ := b3 hT
     rw [if_pos h0, if_neg hT] at l1
     rw [l1] at hr
     cases hr
     rw [if_neg hT, if_pos rfl, rg_eq f0 f0 ⟨rfl, rfl⟩, if_neg (show ¬ (11 : Int) = 0 by decide), if_pos z1, if_pos z2, if_pos z3, aw]
   obtain ⟨r, hr⟩ : ∃ r, plSure s = some r := ⟨_, l1⟩
   rw [hr, obs, if_pos h0, gd_pos (fI (by omega))]
   by_cases hx1 : 0 ≤ x ∧ x ≤ s.Wide - 1
   ·have hy1 : ¬ (0 ≤ y ∧ y ≤ s.High - 1) := fun q => hg ⟨hx1, q⟩
    rw [In_ev.some_of hx1, obs, if_pos rfl, gd_pos (fI (by omega)), In_ev.some_not hy1, obs, if_neg (by simp)]
    exact fin r hr
   ·rw [In_ev.some_not hx1, obs, if_neg (by simp)]
    exact fin r hr
 ·rw [if_neg h0] at l1
  rw [Sizes_bad h0, obs, Best_bad h0, obs, l1, obs, if_neg h0]
  dsimp only
  rw [if_pos rfl, if_pos rfl, if_neg h0, rg_eq f0 f0 ⟨rfl, rfl⟩, if_pos rfl, if_pos rfl, if_pos rfl, aw]
end
end Go.Proofs.Ytbnfnhfanooplaa

namespace Go.Proofs.Ytbnfnhfanooplaa
open _root_.Go.Proofs.Try
open Go.ChangeShapes Go.WideShapes Go.ChangeAt Go.RowKit Go.Abs
set_option maxRecDepth 100000
theorem op3 : Opens prog 3 Int (fitsP .i64) := opens_int (by kernel_rfl)
theorem op23 : Opens prog 23 Rg ok_Rg := opens_struct (fs := [(3, 0), (3, 1)]) (by kernel_rfl) (by kernel_rfl) (opensFs_cons (α := Int) (ok := fitsP .i64) (k := 1) op3 (by kernel_rfl) rfl (opensFs_cons (α := Int) (ok := fitsP .i64) (k := 1) op3 (by kernel_rfl) rfl opensFs_nil)) (by kernel_rfl) fun m vs h => by
 obtain ⟨a0, c0, r0, m0, h0, p0, k0, s0, ⟨a1, c1, r1, m1, h1, p1, k1, s1, rfl⟩⟩ := h
 have p0 : c0 = [.int .i64 a0] := p0; subst p0
 have p1 : c1 = [.int .i64 a1] := p1; subst p1
 subst h1 h0
 exact ⟨⟨a0, a1⟩, rfl, ⟨k0, k1⟩⟩
theorem op4 : Opens prog 4 Bool (fun _ => True) := opens_bool (by kernel_rfl)
theorem op97 : Opens prog 97 Crd ok_Crd := opens_struct (fs := [(23, 0), (23, 2), (4, 4), (23, 5)]) (by kernel_rfl) (by kernel_rfl) (opensFs_cons (α := Rg) (ok := ok_Rg) (k := 2) op23 (by kernel_rfl) rfl (opensFs_cons (α := Rg) (ok := ok_Rg) (k := 2) op23 (by kernel_rfl) rfl (opensFs_cons (α := Bool) (ok := (fun _ => True)) (k := 1) op4 (by kernel_rfl) rfl (opensFs_cons (α := Rg) (ok := ok_Rg) (k := 2) op23 (by kernel_rfl) rfl opensFs_nil)))) (by kernel_rfl) fun m vs h => by
 obtain ⟨a0, c0, r0, m0, h0, p0, k0, s0, ⟨a1, c1, r1, m1, h1, p1, k1, s1, ⟨a2, c2, r2, m2, h2, p2, k2, s2, ⟨a3, c3, r3, m3, h3, p3, k3, s3, rfl⟩⟩⟩⟩ := h
 have p0 : c0 = [.int .i64 a0.Lo, .int .i64 a0.Hi] := p0; subst p0
 have p1 : c1 = [.int .i64 a1.Lo, .int .i64 a1.Hi] := p1; subst p1
 have p2 : c2 = [.bool a2] := p2; subst p2
 have p3 : c3 = [.int .i64 a3.Lo, .int .i64 a3.Hi] := p3; subst p3
 subst h3 h2 h1 h0
 exact ⟨⟨a0, a1, a2, a3⟩, rfl, ⟨k0, k1, k2, k3⟩⟩
theorem op24 : Opens prog 24 (List Crd) (fun l => l.length ≤ maxLen ∧ ∀ a0 ∈ l, ok_Crd a0) := opens_slice (by kernel_rfl) (by kernel_rfl) op97
theorem op26 : Opens prog 26 Stm ok_Stm := opens_struct (fs := [(3, 0), (3, 1), (3, 2), (23, 3), (23, 5), (23, 7), (23, 9), (24, 11)]) (by kernel_rfl) (by kernel_rfl) (opensFs_cons (α := Int) (ok := fitsP .i64) (k := 1) op3 (by kernel_rfl) rfl (opensFs_cons (α := Int) (ok := fitsP .i64) (k := 1) op3 (by kernel_rfl) rfl (opensFs_cons (α := Int) (ok := fitsP .i64) (k := 1) op3 (by kernel_rfl) rfl (opensFs_cons (α := Rg) (ok := ok_Rg) (k := 2) op23 (by kernel_rfl) rfl (opensFs_cons (α := Rg) (ok := ok_Rg) (k := 2) op23 (by kernel_rfl) rfl (opensFs_cons (α := Rg) (ok := ok_Rg) (k := 2) op23 (by kernel_rfl) rfl (opensFs_cons (α := Rg) (ok := ok_Rg) (k := 2) op23 (by kernel_rfl) rfl (opensFs_cons (α := List Crd) (ok := (fun l => l.length ≤ maxLen ∧ ∀ a0 ∈ l, ok_Crd a0)) (k := 1) op24 (by kernel_rfl) rfl opensFs_nil)))))))) (by kernel_rfl) fun m vs h => by
 obtain ⟨a0, c0, r0, m0, h0, p0, k0, s0, ⟨a1, c1, r1, m1, h1, p1, k1, s1, ⟨a2, c2, r2, m2, h2, p2, k2, s2, ⟨a3, c3, r3, m3, h3, p3, k3, s3, ⟨a4, c4, r4, m4, h4, p4, k4, s4, ⟨a5, c5, r5, m5, h5, p5, k5, s5, ⟨a6, c6, r6, m6, h6, p6, k6, s6, ⟨a7, c7, r7, m7, h7, p7, k7, s7, rfl⟩⟩⟩⟩⟩⟩⟩⟩ := h
 have p0 : c0 = [.int .i64 a0] := p0; subst p0
 have p1 : c1 = [.int .i64 a1] := p1; subst p1
 have p2 : c2 = [.int .i64 a2] := p2; subst p2
 have p3 : c3 = [.int .i64 a3.Lo, .int .i64 a3.Hi] := p3; subst p3
 have p4 : c4 = [.int .i64 a4.Lo, .int .i64 a4.Hi] := p4; subst p4
 have p5 : c5 = [.int .i64 a5.Lo, .int .i64 a5.Hi] := p5; subst p5
 have p6 : c6 = [.int .i64 a6.Lo, .int .i64 a6.Hi] := p6; subst p6
 obtain ⟨d7, rfl, p7⟩ := p7
 subst h7 h6 h5 h4 h3 h2 h1 h0
 exact ⟨⟨a0, a1, a2, a3, a4, a5, a6, a7⟩, ⟨_, rfl, p7⟩, ⟨k0, k1, k2, k3, k4, k5, k6, k7⟩⟩
theorem laid : laidOutB prog = true := by kernel_rfl
theorem ownNone : ownKnob prog.godebug = none := by kernel_rfl
theorem StormSizes_lifted (os : Os) (started : os.Started) (H : Type) (enc : TypeId × Value → H) :
    ReturnsInHanded {} Try.checked os 4 .any (Rows.stormSizesSpec.pre6 enc Try.prog Try.f4 Rows.stormSizesRow.domain false) (Rows.stormSizesSpec.post enc Try.prog Try.f4 false true false false) := by
  refine returnsInHanded_of_change (C := Try.checked) ownNone started (by kernel_rfl) Try.func4
    (ChangeSpec.witness6 (enc := enc) (C := Try.checked) false ⟨#[], #[.agg #[.int .i64 0, .int .i64 0, .int .i64 0, .int .i64 0, .int .i64 0, .int .i64 0, .int .i64 0, .int .i64 0, .int .i64 0, .int .i64 0, .int .i64 0, .slice none 0 0], .int .i64 0, .int .i64 0], []⟩ 8 (by kernel_rfl) (by kernel_rfl) (by kernel_rfl) (by kernel_rfl)) ?_
  intro W base args ds gs before hval0 hW hcnd _
  have hval : ∀ (j : Nat) t v, Try.f4.params[j]? = some t → args[j]? = some v → Value.okWide Try.prog W .any base t v := hval0
  have hW' := hW
  obtain ⟨p, q, hA0, hV, rfl, hfz, hnd⟩ := hW
  have hA : DataW.TrodAll enc Try.prog W 0 (fun _ => true) true Try.f4.params.toList args.toList ds p := hA0
  rw [Try.params4] at hA hval
  obtain ⟨v0, v1, v2, d0, d1, d2, p0, p1, p2, rfl, rfl, rfl, h0, h1, h2⟩ := trodAll_three hA
  obtain ⟨rfl, rfl⟩ := trodVars_none hV
  obtain ⟨n1, hv1⟩ := okWide_int Try.underlying3 (hval 1 3 v1 rfl rfl)
  obtain ⟨n2, hv2⟩ := okWide_int Try.underlying3 (hval 2 3 v2 rfl rfl)
  have hlt : ∀ x ∈ p0 ++ p1 ++ p2, x.block < W.heap.size := fun x hx => by simpa using hW'.lt x (by simpa using hx)
  obtain ⟨fu0, hf0⟩ := id h0
  obtain ⟨fu1, hf1⟩ := id h1
  obtain ⟨fu2, hf2⟩ := id h2
  clear hA0 hval0
  obtain ⟨e0, m0, w0, a_0, le0, sv0, lay0, cr0, rep0, ok0⟩ := op26 H enc W true _ _ _ hf0 _ _ (Lay.nil W)
  obtain ⟨e1, m1, w1, a_1, le1, sv1, lay1, cr1, rep1, ok1⟩ := op3 H enc W true _ _ _ hf1 e0 m0 lay0
  obtain ⟨e2, m2, w2, a_2, le2, sv2, lay2, cr2, rep2, ok2⟩ := op3 H enc W true _ _ _ hf2 e1 m1 lay1
  obtain ⟨c0_11, rfl, g0_11⟩ := rep0
  obtain ⟨cs0, hv0, cl0⟩ : ∃ cs, v0 = .agg cs ∧ v0.cells.toList = cs.toList := by
    have hl := cr0.length
    cases v0 with
    | agg cs => exact ⟨cs, rfl, rfl⟩
    | _ => exact absurd hl (by simp [Value.cells])
  subst hv0
  have rep1 : w1 = [.int .i64 a_1] := rep1
  subst rep1 hv1
  have ha1 : n1 = a_1 := by
    cases cr1 with
    | cons h _ => have h : Value.int .i64 n1 = .int .i64 a_1 := h; cases h; rfl
  subst ha1
  have rep2 : w2 = [.int .i64 a_2] := rep2
  subst rep2 hv2
  have ha2 : n2 = a_2 := by
    cases cr2 with
    | cons h _ => have h : Value.int .i64 n2 = .int .i64 a_2 := h; cases h; rfl
  subst ha2
  have hargs : All2 (VR e2) [.agg 12 [.int .i64 a_0.Wide, .int .i64 a_0.High, .int .i64 a_0.Fall, .int .i64 a_0.A.Lo, .int .i64 a_0.A.Hi, .int .i64 a_0.B.Lo, .int .i64 a_0.B.Hi, .int .i64 a_0.Half.Lo, .int .i64 a_0.Half.Hi, .int .i64 a_0.Peak.Lo, .int .i64 a_0.Peak.Hi, c0_11], .c (.int .i64 n1), .c (.int .i64 n2)] [.agg cs0, .int .i64 n1, .int .i64 n2] := .cons ⟨cs0, rfl, (cr0.mono fun _ _ => CR.mono (le1.trans le2)), rfl⟩ (.cons rfl (.cons rfl .nil))
  refine (callsIn_wide.1 (call_of fits htab (s_StormSizes (s := a_0) (x := n1) (y := n2) lay2.pre ((g0_11.subv sv1).subv sv2) (m_StormSizes ok0 ok1 ok2) (Q := fun v _ => v = .c (.bool true)) fun _ _ => rfl) lay2.hr (args' := #[.agg cs0, .int .i64 n1, .int .i64 n2]) hargs 0)).mono fun en W' hp => ?_
  obtain ⟨v, v', e', m', rfl, hst, hvr, rfl⟩ := hp
  have hv' : v' = .bool true := hvr
  subst hv'
  have hbelow := lay2.below hst
  refine ⟨_, rfl, [d0, d1, d2], [], p0 ++ p1 ++ p2, [], p0 ++ (p1 ++ p2), [], by simpa using hW', trodAll_mk1 (shut_bool Try.underlying4 _),
    trodAll_mk3 (Below.trod laid (by kernel_rfl) (of_decide_eq_true (by kernel_rfl)) h0 hbelow fun x hx => hlt x (by simp [hx])) (Below.trod laid (by kernel_rfl) (of_decide_eq_true (by kernel_rfl)) h1 hbelow fun x hx => hlt x (by simp [hx])) (Below.trod laid (by kernel_rfl) (of_decide_eq_true (by kernel_rfl)) h2 hbelow fun x hx => hlt x (by simp [hx])), rfl, lay2.kept hst _, fun hc => by cases hc⟩
theorem StormSizes_holds : Rows.StormSizesSaid :=
 OpenClaim.holds_of_wide 4 Try.f4 rfl rfl rfl rfl rfl rfl rfl ⟨rfl, rfl, rfl, rfl, rfl⟩ rfl rfl rfl rfl rfl (by kernel_rfl) Try.func4 (by kernel_rfl)
  (of_decide_eq_true (by kernel_rfl)) (by unfold Func.isWrapper; first | (rw [if_pos (by decide +kernel)]; kernel_rfl) | (rw [if_neg (by decide +kernel)]; exact ⟨rfl, rfl⟩))
  (fun os started H enc _ => StormSizes_lifted os started H enc)
end Go.Proofs.Ytbnfnhfanooplaa

